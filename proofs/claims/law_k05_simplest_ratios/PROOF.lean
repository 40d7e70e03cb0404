import PyProof.Rows.All
import Wide.All
import OpenK.AllK
import Wide.FinOn
import HandS.ForMost
import HandS.ForExc
import HandS.WideBits
import HandS.Wide
import HandS.Style
import HandS.Gcd
import HandS.StrMore
import HandS.Flow
import HandS.Defaults
import HandS.MakeKwOnly
import HandS.Property
import HandS.IsInst
import HandS.OwnEq
import HandS.HeadHook2
import HandS.HeadEnd
import HandS.Head2
import HandS.Head3
import PySem.Challenge.RW_gustfloor_k05_simplest_ratios
set_option Elab.async false
set_option linter.all false
set_option maxRecDepth 100000
set_option maxHeartbeats 4000000
/-! Data by value over the hand layer: trees, mutable objects by number, readings by functions. -/
namespace Dq
open PySem PySem.Spec PyProof.Rows L2

/-! ### data -/
inductive DV where
  | non | bl (b : Bool) | int (i : Int) | str (x : Str)
  | lst (xs : List DV) | wl (xs : List DV) | tup (xs : List DV) | ins (c : Nat) (ks : List Nat) (xs : List DV) | mr (k : Nat)
/-- a mutable object's content -/
inductive MO where
  | lst (xs : List DV) | ins (c : Nat) (ks : List Nat) (xs : List DV)
abbrev Sto := List (Option MO)
/-- results -/
inductive R (α : Type) where
  | ok (a : α) (s : Sto) | exc (c : Nat) (ks : List Nat) (xs : List DV) (s : Sto) | bad
def R.bind {α β : Type} : R α → (α → Sto → R β) → R β
  | .ok a s, k => k a s
  | .exc c ks xs s, _ => .exc c ks xs s
  | .bad, _ => .bad
@[simp] theorem R.bind_ok {α β : Type} (a : α) (s : Sto) (k : α → Sto → R β) : (R.ok a s).bind k = k a s := rfl
abbrev En := List (Option DV)

/-- the program's part: classes by number, attributes' names by number -/
structure Pg where
  K : PySem.W.Frag
  cA : Nat → Addr
  nm : Nat → Str
  nmi : ∀ i j, nm i = nm j → i = j

/-! ### what data stands for -/
mutual
inductive Rp (p : Pg) (F : Hp) (μ : List Addr) : DV → V → Prop
  | non : Rp p F μ .non .non
  | bl (b : Bool) : Rp p F μ (.bl b) (.bl b)
  | int (i : Int) : Rp p F μ (.int i) (.int i)
  | str (x : Str) : Rp p F μ (.str x) (.str x)
  | lst {a : Addr} {xs : List DV} {vs : List V} : F a = some (.lst vs) → Rps p F μ xs vs → Rp p F μ (.lst xs) (.ref a)
  | wl {a : Addr} {xs : List DV} {vs : List V} : SqL p.K F a vs → Rps p F μ xs vs → Rp p F μ (.wl xs) (.ref a)
  | tup {a : Addr} {xs : List DV} {vs : List V} : SqT p.K F a vs → Rps p F μ xs vs → Rp p F μ (.tup xs) (.ref a)
  | ins {a dx : Addr} {c : Nat} {ks : List Nat} {xs : List DV} {fs : List (Str × V)} : F a = some (.ins (p.cA c) dx fs) → fs.map (·.1) = ks.map p.nm → Rps p F μ xs (fs.map (·.2)) → Rp p F μ (.ins c ks xs) (.ref a)
  | mr {k : Nat} {a : Addr} : μ[k]? = some a → Rp p F μ (.mr k) (.ref a)
inductive Rps (p : Pg) (F : Hp) (μ : List Addr) : List DV → List V → Prop
  | nil : Rps p F μ [] []
  | cons {d : DV} {v : V} {ds : List DV} {vs : List V} : Rp p F μ d v → Rps p F μ ds vs → Rps p F μ (d :: ds) (v :: vs)
end

structure Gh where
  F : Hp
  μ : List Addr
  st : Sto
structure GX (G G' : Gh) : Prop where
  f : ∀ a o, G.F a = some o → G'.F a = some o
  m : ∀ (k : Nat) a, G.μ[k]? = some a → G'.μ[k]? = some a
theorem GX.rfl' {G : Gh} : GX G G := ⟨fun _ _ h => h, fun _ _ h => h⟩
theorem GX.trans {G G1 G2 : Gh} (a : GX G G1) (b : GX G1 G2) : GX G G2 := ⟨fun x o h => b.f x o (a.f x o h), fun k x h => b.m k x (a.m k x h)⟩
theorem GX.st {G G' : Gh} (a : GX G G') (s : Sto) : GX { G with st := s } G' := ⟨a.f, a.m⟩

theorem sqL_up {K : PySem.W.Frag} {F H : Hp} {a : Addr} {xs : List V} (k : ∀ a o, F a = some o → H a = some o) (h : SqL K F a xs) : SqL K H a xs := by
  rcases h with (h | ⟨o, h⟩) | h
  · exact .inl (.inl (k _ _ h))
  · exact .inl (.inr ⟨o, k _ _ h⟩)
  · exact .inr h
theorem sqT_up {K : PySem.W.Frag} {F H : Hp} {a : Addr} {xs : List V} (k : ∀ a o, F a = some o → H a = some o) (h : SqT K F a xs) : SqT K H a xs := by
  rcases h with (h | ⟨o, h⟩) | h
  · exact .inl (.inl (k _ _ h))
  · exact .inl (.inr ⟨o, k _ _ h⟩)
  · exact .inr h
section
variable {p : Pg}
mutual
theorem Rp.up {F F' : Hp} {μ μ' : List Addr} (hf : ∀ a o, F a = some o → F' a = some o) (hm : ∀ (k : Nat) a, μ[k]? = some a → μ'[k]? = some a) : ∀ (d : DV) (v : V), Rp p F μ d v → Rp p F' μ' d v
  | .non, _, .non => .non
  | .bl _, _, .bl b => .bl b
  | .int _, _, .int i => .int i
  | .str _, _, .str x => .str x
  | .lst xs, _, .lst h r => .lst (hf _ _ h) (Rps.up hf hm xs _ r)
  | .wl xs, _, .wl h r => .wl (sqL_up hf h) (Rps.up hf hm xs _ r)
  | .tup xs, _, .tup h r => .tup (sqT_up hf h) (Rps.up hf hm xs _ r)
  | .ins _ _ xs, _, .ins h e r => .ins (hf _ _ h) e (Rps.up hf hm xs _ r)
  | .mr _, _, .mr h => .mr (hm _ _ h)
theorem Rps.up {F F' : Hp} {μ μ' : List Addr} (hf : ∀ a o, F a = some o → F' a = some o) (hm : ∀ (k : Nat) a, μ[k]? = some a → μ'[k]? = some a) : ∀ (ds : List DV) (vs : List V), Rps p F μ ds vs → Rps p F' μ' ds vs
  | [], _, .nil => .nil
  | d :: ds, _, .cons r t => .cons (Rp.up hf hm d _ r) (Rps.up hf hm ds _ t)
end
abbrev Rg (p : Pg) (G : Gh) (d : DV) (v : V) : Prop := Rp p G.F G.μ d v
abbrev Rgs (p : Pg) (G : Gh) (ds : List DV) (vs : List V) : Prop := Rps p G.F G.μ ds vs
theorem Rg.gx {G G' : Gh} {d : DV} {v : V} (h : Rp p G.F G.μ d v) (x : GX G G') : Rp p G'.F G'.μ d v := Rp.up x.f x.m d v h
theorem Rgs.gx {G G' : Gh} {d : List DV} {v : List V} (h : Rps p G.F G.μ d v) (x : GX G G') : Rps p G'.F G'.μ d v := Rps.up x.f x.m d v h
theorem Rps.length {F : Hp} {μ : List Addr} : ∀ {ds : List DV} {vs : List V}, Rps p F μ ds vs → ds.length = vs.length
  | [], _, .nil => rfl
  | _ :: _, _, .cons _ t => by rw [List.length_cons, List.length_cons, Rps.length t]
theorem Rps.get {F : Hp} {μ : List Addr} : ∀ {ds : List DV} {vs : List V} {i : Nat} {d : DV}, Rps p F μ ds vs → ds[i]? = some d → ∃ v, vs[i]? = some v ∧ Rp p F μ d v
  | [], _, _, _, _, e => by simp at e
  | _ :: _, _, 0, _, .cons r _, e => ⟨_, rfl, by simp at e; subst e; exact r⟩
  | _ :: _, _, i + 1, _, .cons _ t, e => by simpa using Rps.get (i := i) t (by simpa using e)
theorem Rps.get' {F : Hp} {μ : List Addr} : ∀ {ds : List DV} {vs : List V} {i : Nat} {v : V}, Rps p F μ ds vs → vs[i]? = some v → ∃ d, ds[i]? = some d ∧ Rp p F μ d v
  | [], _, _, _, .nil, e => by simp at e
  | _ :: _, _, 0, _, .cons r _, e => ⟨_, rfl, by simp at e; subst e; exact r⟩
  | _ :: _, _, i + 1, _, .cons _ t, e => by simpa using Rps.get' (i := i) t (by simpa using e)
theorem Rps.app {F : Hp} {μ : List Addr} : ∀ {ds es : List DV} {vs us : List V}, Rps p F μ ds vs → Rps p F μ es us → Rps p F μ (ds ++ es) (vs ++ us)
  | [], _, _, _, .nil, s => s
  | _ :: _, _, _, _, .cons r t, s => .cons r (Rps.app t s)
theorem Rps.set {F : Hp} {μ : List Addr} {e : DV} {u : V} (h : Rp p F μ e u) : ∀ {ds : List DV} {vs : List V} (i : Nat), Rps p F μ ds vs → Rps p F μ (ds.set i e) (vs.set i u)
  | _, _, _, .nil => .nil
  | _, _, 0, .cons _ t => .cons h t
  | _, _, i + 1, .cons r t => .cons r (Rps.set h i t)
theorem Rps.take {F : Hp} {μ : List Addr} : ∀ {ds : List DV} {vs : List V} (n : Nat), Rps p F μ ds vs → Rps p F μ (ds.take n) (vs.take n)
  | _, _, 0, _ => .nil
  | _, _, _ + 1, .nil => .nil
  | _, _, n + 1, .cons r t => .cons r (Rps.take n t)
theorem Rps.drop {F : Hp} {μ : List Addr} : ∀ {ds : List DV} {vs : List V} (n : Nat), Rps p F μ ds vs → Rps p F μ (ds.drop n) (vs.drop n)
  | _, _, 0, r => r
  | _, _, _ + 1, .nil => .nil
  | _, _, n + 1, .cons _ t => Rps.drop n t
theorem Rps.rev {F : Hp} {μ : List Addr} {ds : List DV} {vs : List V} (h : Rps p F μ ds vs) : Rps p F μ ds.reverse vs.reverse := by
  induction ds generalizing vs with
  | nil => cases h; exact .nil
  | cons d ds ih =>
    cases h with
    | cons r t => rw [List.reverse_cons, List.reverse_cons]; exact (ih t).app (.cons r .nil)
theorem Rps.rep {F : Hp} {μ : List Addr} {ds : List DV} {vs : List V} (h : Rps p F μ ds vs) (k : Nat) : Rps p F μ (List.replicate k ds).flatten (List.replicate k vs).flatten := by
  induction k with
  | zero => exact .nil
  | succ k ih => rw [List.replicate_succ, List.replicate_succ, List.flatten_cons, List.flatten_cons]; exact h.app ih

/-- a mutable object as it stands -/
def ObR (p : Pg) (G : Gh) : MO → Option HO → Prop
  | .lst xs, o => ∃ vs, o = some (.lst vs) ∧ Rps p G.F G.μ xs vs
  | .ins c ks xs, o => ∃ dx fs, o = some (.ins (p.cA c) dx fs) ∧ fs.map (·.1) = ks.map p.nm ∧ Rps p G.F G.μ xs (fs.map (·.2))
theorem ObR.gx {G G' : Gh} {m : MO} {o : Option HO} (h : ObR p G m o) (x : GX G G') : ObR p G' m o := by
  cases m with
  | lst xs => obtain ⟨vs, e, r⟩ := h; exact ⟨vs, e, Rgs.gx r x⟩
  | ins c ks xs => obtain ⟨dx, fs, e, k, r⟩ := h; exact ⟨dx, fs, e, k, Rgs.gx r x⟩
structure Gd (p : Pg) (G : Gh) (H : Hp) : Prop where
  le : ∀ a o, G.F a = some o → H a = some o
  len : G.μ.length = G.st.length
  live : ∀ (k : Nat) m, G.st[k]? = some (some m) → ∃ a, G.μ[k]? = some a ∧ G.F a = none ∧ ObR p G m (H a)
  all : ∀ (k : Nat) a, G.μ[k]? = some a → H a ≠ none
  inj : ∀ (j k : Nat) a, G.μ[j]? = some a → G.μ[k]? = some a → j = k
theorem Gd.free {G : Gh} {H : Hp} (g : Gd p G H) {a : Addr} (h : H a = none) : G.F a = none := by
  cases e : G.F a with
  | none => rfl
  | some o => rw [g.le a o e] at h; cases h
theorem Gd.nmu {G : Gh} {H : Hp} (g : Gd p G H) {a : Addr} (h : H a = none) {k : Nat} {b : Addr} (e : G.μ[k]? = some b) : b ≠ a := by
  rintro rfl
  exact g.all k b e h
/-- an object laid and kept for ever -/
def Gh.lay (G : Gh) (a : Addr) (o : HO) : Gh := { G with F := upd G.F a o }
theorem GX.lay {G : Gh} {H : Hp} (g : Gd p G H) {a : Addr} {o : HO} (h : H a = none) : GX G (G.lay a o) :=
  ⟨fun b u e => by
    show upd G.F a o b = some u
    have nb : b ≠ a := fun q => by
      rw [q, g.free h] at e
      exact nomatch e
    rw [upd_ne nb]
    exact e, fun _ _ e => e⟩
theorem Gd.lay {G : Gh} {H : Hp} (g : Gd p G H) {a : Addr} {o : HO} (h : H a = none) : Gd p (G.lay a o) (upd H a o) where
  le := fun b u e => by
    by_cases q : b = a
    · subst q
      have e' : upd G.F b o b = some u := e
      rw [upd_same] at e' ⊢; exact e'
    · have e' : upd G.F a o b = some u := e
      rw [upd_ne q] at e' ⊢; exact g.le b u e'
  len := g.len
  live := fun k m e => by
    obtain ⟨b, e1, e2, e3⟩ := g.live k m e
    have nb := g.nmu h e1
    refine ⟨b, e1, ?_, ?_⟩
    · show upd G.F a o b = none
      rw [upd_ne nb]; exact e2
    · rw [upd_ne nb]
      exact e3.gx (GX.lay g h)
  all := fun k b e => by
    rw [upd_ne (g.nmu h e)]
    exact g.all k b e
  inj := g.inj
/-- an object beside, which no data names -/
theorem Gd.beside {G : Gh} {H : Hp} (g : Gd p G H) {a : Addr} {o : HO} (h : H a = none) : Gd p G (upd H a o) where
  le := fun b u e => by
    rw [upd_ne]
    · exact g.le b u e
    · rintro rfl
      rw [g.free h] at e; cases e
  len := g.len
  live := fun k m e => by
    obtain ⟨b, e1, e2, e3⟩ := g.live k m e
    exact ⟨b, e1, e2, by rw [upd_ne (g.nmu h e1)]; exact e3⟩
  all := fun k b e => by
    rw [upd_ne (g.nmu h e)]
    exact g.all k b e
  inj := g.inj
/-- a new mutable object -/
def Gh.add (G : Gh) (a : Addr) (m : MO) : Gh := ⟨G.F, G.μ ++ [a], G.st ++ [some m]⟩
theorem GX.add {G : Gh} {a : Addr} {m : MO} : GX G (G.add a m) :=
  ⟨fun _ _ e => e, fun k b e => by
    show (G.μ ++ [a])[k]? = some b
    rw [List.getElem?_append_left (List.getElem?_eq_some_iff.mp e).1]
    exact e⟩
theorem Gh.add_at {G : Gh} {a : Addr} {m : MO} : (G.add a m).μ[G.μ.length]? = some a := by
  show (G.μ ++ [a])[G.μ.length]? = some a
  rw [List.getElem?_append_right (Nat.le_refl _), Nat.sub_self]; rfl
theorem mk_get {α : Type} {l : List α} {a b : α} {k : Nat} (e : (l ++ [a])[k]? = some b) : l[k]? = some b ∨ (k = l.length ∧ a = b) := by
  by_cases q : k < l.length
  · rw [List.getElem?_append_left q] at e; exact .inl e
  · rw [List.getElem?_append_right (by omega)] at e
    have q2 : k - l.length = 0 := by
      have := (List.getElem?_eq_some_iff.mp e).1
      simp at this; omega
    rw [q2] at e
    simp at e
    exact .inr ⟨by omega, e⟩
theorem Gd.add {G : Gh} {H : Hp} (g : Gd p G H) {a : Addr} {m : MO} {o : HO} (h : H a = none) (ho : ObR p G m (some o)) : Gd p (G.add a m) (upd H a o) where
  le := (g.beside h).le
  len := by
    show (G.μ ++ [a]).length = (G.st ++ [some m]).length
    simp [g.len]
  live := fun k m' e => by
    have e' : (G.st ++ [some m])[k]? = some (some m') := e
    rcases mk_get e' with e | ⟨q, e⟩
    · obtain ⟨b, e1, e2, e3⟩ := (g.beside (o := o) h).live k m' e
      exact ⟨b, GX.add.m k b e1, e2, e3.gx GX.add⟩
    · cases e
      refine ⟨a, ?_, g.free h, ?_⟩
      · rw [q, ← g.len]; exact Gh.add_at
      · rw [upd_same]; exact ho.gx GX.add
  all := fun k b e => by
    rcases mk_get e with e | ⟨_, e⟩
    · exact (g.beside h).all k b e
    · subst e; rw [upd_same]; exact fun z => nomatch z
  inj := fun j k b e1 e2 => by
    rcases mk_get e1 with e1 | ⟨r1, e1⟩
    · rcases mk_get e2 with e2 | ⟨_, e2⟩
      · exact g.inj j k b e1 e2
      · subst e2; exact absurd rfl (g.nmu h e1)
    · rcases mk_get e2 with e2 | ⟨r2, e2⟩
      · subst e1; exact absurd rfl (g.nmu h e2)
      · omega
/-- a mutable object is changed -/
def Gh.put (G : Gh) (k : Nat) (m : Option MO) : Gh := { G with st := G.st.set k m }
theorem GX.put {G : Gh} {k : Nat} {m : Option MO} : GX G (G.put k m) := ⟨fun _ _ e => e, fun _ _ e => e⟩
theorem Gd.put {G : Gh} {H : Hp} (g : Gd p G H) {k : Nat} {a : Addr} {m : MO} {o : HO} (ha : G.μ[k]? = some a) (hf : G.F a = none) (ho : ObR p G m (some o)) : Gd p (G.put k (some m)) (upd H a o) where
  le := fun b u e => by
    rw [upd_ne]
    · exact g.le b u e
    · rintro rfl
      have e' : G.F b = some u := e
      rw [hf] at e'; cases e'
  len := by
    show G.μ.length = (G.st.set k (some m)).length
    rw [List.length_set]; exact g.len
  live := fun j m' e => by
    have e' : (G.st.set k (some m))[j]? = some (some m') := e
    by_cases q : j = k
    · subst q
      rw [List.getElem?_set_self (by rw [← g.len]; exact (List.getElem?_eq_some_iff.mp ha).1)] at e'
      cases e'
      exact ⟨a, ha, hf, by rw [upd_same]; exact ho.gx GX.put⟩
    · rw [List.getElem?_set_ne (Ne.symm q)] at e'
      obtain ⟨b, e1, e2, e3⟩ := g.live j m' e'
      have nb : b ≠ a := by
        rintro rfl
        exact q (g.inj j k b e1 ha)
      exact ⟨b, e1, e2, by rw [upd_ne nb]; exact e3.gx GX.put⟩
  all := fun j b e => by
    by_cases q : b = a
    · subst q; rw [upd_same]; exact fun z => nomatch z
    · rw [upd_ne q]; exact g.all j b e
  inj := g.inj

/-! ### slots -/
structure EnR (p : Pg) (G : Gh) (ρ : En) (σ : L2.St) : Prop where
  len : ρ.length = σ.length
  at_ : ∀ (i : Nat) d, ρ[i]? = some (some d) → ∃ v, σ[i]? = some (some v) ∧ Rp p G.F G.μ d v
theorem EnR.gx {G G' : Gh} {ρ : En} {σ : L2.St} (e : EnR p G ρ σ) (x : GX G G') : EnR p G' ρ σ :=
  ⟨e.len, fun i d h => let ⟨v, a, b⟩ := e.at_ i d h; ⟨v, a, Rg.gx b x⟩⟩
theorem EnR.set {G : Gh} {ρ : En} {σ : L2.St} (e : EnR p G ρ σ) {d : DV} {v : V} (h : Rp p G.F G.μ d v) (i : Nat) : EnR p G (ρ.set i (some d)) (σ.set i (some v)) where
  len := by rw [List.length_set, List.length_set]; exact e.len
  at_ := fun j d' h' => by
    by_cases q : j = i
    · subst q
      have lt : j < ρ.length := by
        have := (List.getElem?_eq_some_iff.mp h').1
        rwa [List.length_set] at this
      rw [List.getElem?_set_self lt] at h'
      cases h'
      exact ⟨v, List.getElem?_set_self (by rw [← e.len]; exact lt), h⟩
    · rw [List.getElem?_set_ne (Ne.symm q)] at h'
      rw [List.getElem?_set_ne (Ne.symm q)]
      exact e.at_ j d' h'

/-! ### ends -/
/-- what is wanted of a result -/
def Po {α β : Type} (p : Pg) (Rl : Gh → α → β → Prop) (W : WX) (G : Gh) (σ : L2.St) : R α → (β → Hp → Prop) → Prop
  | .ok a s, Q => ∀ G' b H', GX G G' → G'.st = s → Gd p G' H' → Rl G' a b → Q b H'
  | .exc c ks xs s, _ => ∀ G' H' d fs, GX G G' → G'.st = s → Gd p G' H' → H' d = some (.xd fs) → fs.map (·.1) = ks.map p.nm → Rps p G'.F G'.μ xs (fs.map (·.2)) → W (.ref (p.cA c)) (some d) σ H'
  | .bad, _ => False
section
variable {α β γ δ : Type} {Rl : Gh → α → β → Prop} {Rm : Gh → γ → δ → Prop} {W : WX} {G G' : Gh} {σ : L2.St}
theorem Po.gx {r : R α} {Q : β → Hp → Prop} (h : Po p Rl W G σ r Q) (x : GX G G') : Po p Rl W G' σ r Q := by
  cases r with
  | ok a s => exact fun G2 b H2 x2 e g r => h G2 b H2 (x.trans x2) e g r
  | exc c ks xs s => exact fun G2 H2 d fs x2 e g k r => h G2 H2 d fs (x.trans x2) e g k r
  | bad => exact h
theorem Po.imp {r : R α} {Q Q' : β → Hp → Prop} (h : Po p Rl W G σ r Q) (k : ∀ b H, Q b H → Q' b H) : Po p Rl W G σ r Q' := by
  cases r with
  | ok a s => exact fun G2 b H2 x2 e g r => k _ _ (h G2 b H2 x2 e g r)
  | exc c ks xs s => exact h
  | bad => exact h
theorem Po.bind {r : R α} {k : α → Sto → R γ} {Q : δ → Hp → Prop} (h : Po p Rm W G σ (r.bind k) Q) :
    Po p Rl W G σ r (fun b H => ∃ G' a, GX G G' ∧ Gd p G' H ∧ Rl G' a b ∧ Po p Rm W G' σ (k a G'.st) Q) := by
  cases r with
  | ok a s =>
    intro G2 b H2 x2 e g rl
    subst e
    exact ⟨G2, a, x2, g, rl, Po.gx h x2⟩
  | exc c ks xs s => exact h
  | bad => exact h
theorem Po.ret {a : α} {b : β} {s : Sto} {H : Hp} {Q : β → Hp → Prop} (h : Po p Rl W G σ (.ok a s) Q) (x : GX G G') (e : G'.st = s) (g : Gd p G' H) (r : Rl G' a b) : Q b H := h G' b H x e g r
end
abbrev PoV (p : Pg) := Po p (Rg p)
abbrev PoL (p : Pg) := Po p (Rgs p)
abbrev RlB : Gh → Bool → Bool → Prop := fun _ a b => a = b
abbrev PoB (p : Pg) := Po p RlB

/-! ### readings -/
abbrev GE := En → Sto → R DV
abbrev GL := En → Sto → R (List DV)
abbrev GB := En → Sto → R Bool
def rd (p : Pg) (W : WX) (g : GE) : TE := fun σ H Q => ∃ G ρ, Gd p G H ∧ EnR p G ρ σ ∧ PoV p W G σ (g ρ G.st) Q
def rdL (p : Pg) (W : WX) (g : GL) : TA := fun σ H Q => ∃ G ρ, Gd p G H ∧ EnR p G ρ σ ∧ PoL p W G σ (g ρ G.st) Q
def rdB (p : Pg) (W : WX) (g : GB) : TT := fun σ H Q => ∃ G ρ, Gd p G H ∧ EnR p G ρ σ ∧ PoB p W G σ (g ρ G.st) Q
theorem PE.imp {X : Cx} {e : Expr} {t t' : TE} (h : PE X e t) (k : ∀ σ H Q, t' σ H Q → t σ H Q) : PE X e t' := ⟨fun pins s σ H Q I q => h.run pins s σ H Q I (k σ H Q q)⟩
theorem PT.imp {X : Cx} {e : Expr} {t t' : TT} (h : PT X e t) (k : ∀ σ H Q, t' σ H Q → t σ H Q) : PT X e t' := ⟨fun pins s σ H Q I q => h.run pins s σ H Q I (k σ H Q q)⟩
theorem PA.imp {X : Cx} {e : List Expr} {t t' : TA} (h : PA X e t) (k : ∀ σ H Q, t' σ H Q → t σ H Q) : PA X e t' := ⟨fun pos pins s σ H Q I q => h.run pos pins s σ H Q I (k σ H Q q)⟩
theorem PS.imp {X : Cx} {e : Stmt} {t t' : TS} (h : PS X e t) (k : ∀ D σ H, t' D σ H → t D σ H) : PS X e t' := ⟨fun pins s σ H D I q => h.run pins s σ H D I (k D σ H q)⟩
theorem PSs.imp {X : Cx} {e : List Stmt} {t t' : TS} (h : PSs X e t) (k : ∀ D σ H, t' D σ H → t D σ H) : PSs X e t' := ⟨fun pins s σ H D I q => h.run pins s σ H D I (k D σ H q)⟩

/-! ### statements -/
inductive RS where
  | nx (ρ : En) (s : Sto) | rt (d : DV) (s : Sto) | bk (ρ : En) (s : Sto) | ct (ρ : En) (s : Sto)
  | exc (c : Nat) (ks : List Nat) (xs : List DV) (ρ : En) (s : Sto) | bad
abbrev GS := En → Sto → RS
def PoS (p : Pg) (W : WX) (G : Gh) (D : Ends) : RS → Prop
  | .nx ρ s => ∀ G' σ' H', GX G G' → G'.st = s → Gd p G' H' → EnR p G' ρ σ' → D.nx σ' H'
  | .bk ρ s => ∀ G' σ' H', GX G G' → G'.st = s → Gd p G' H' → EnR p G' ρ σ' → D.bk σ' H'
  | .ct ρ s => ∀ G' σ' H', GX G G' → G'.st = s → Gd p G' H' → EnR p G' ρ σ' → D.ct σ' H'
  | .rt d s => ∀ G' v H', GX G G' → G'.st = s → Gd p G' H' → Rp p G'.F G'.μ d v → D.rt v H'
  | .exc c ks xs ρ s => ∀ G' σ' H' d fs, GX G G' → G'.st = s → Gd p G' H' → EnR p G' ρ σ' → H' d = some (.xd fs) → fs.map (·.1) = ks.map p.nm → Rps p G'.F G'.μ xs (fs.map (·.2)) → W (.ref (p.cA c)) (some d) σ' H'
  | .bad => False
def rdS (p : Pg) (W : WX) (g : GS) : TS := fun D σ H => ∃ G ρ, Gd p G H ∧ EnR p G ρ σ ∧ PoS p W G D (g ρ G.st)
theorem PoS.gx {W : WX} {G G' : Gh} {D : Ends} {r : RS} (h : PoS p W G D r) (x : GX G G') : PoS p W G' D r := by
  cases r with
  | nx ρ s => exact fun G2 σ2 H2 x2 => h G2 σ2 H2 (x.trans x2)
  | bk ρ s => exact fun G2 σ2 H2 x2 => h G2 σ2 H2 (x.trans x2)
  | ct ρ s => exact fun G2 σ2 H2 x2 => h G2 σ2 H2 (x.trans x2)
  | rt d s => exact fun G2 σ2 H2 x2 => h G2 σ2 H2 (x.trans x2)
  | exc c ks xs ρ s => exact fun G2 σ2 H2 d fs x2 => h G2 σ2 H2 d fs (x.trans x2)
  | bad => exact h
/-- an expression's result, then a statement's rest -/
def R.toS {α : Type} (ρ : En) : R α → (α → Sto → RS) → RS
  | .ok a s, k => k a s
  | .exc c ks xs s, _ => .exc c ks xs ρ s
  | .bad, _ => .bad
@[simp] theorem R.toS_ok {α : Type} (ρ : En) (a : α) (s : Sto) (k : α → Sto → RS) : (R.ok a s).toS ρ k = k a s := rfl
theorem PoS.of {α β : Type} {Rl : Gh → α → β → Prop} {W : WX} {G : Gh} {σ : L2.St} {ρ : En} {D : Ends} {r : R α} {k : α → Sto → RS} (h : PoS p W G D (r.toS ρ k)) (e : EnR p G ρ σ) :
    Po p Rl W G σ r (fun b H => ∃ G' a, GX G G' ∧ Gd p G' H ∧ Rl G' a b ∧ PoS p W G' D (k a G'.st)) := by
  cases r with
  | ok a s =>
    intro G2 b H2 x2 e2 g rl
    subst e2
    exact ⟨G2, a, x2, g, rl, PoS.gx h x2⟩
  | exc c ks xs s => exact fun G2 H2 d fs x2 e2 g k r rr => h G2 σ H2 d fs x2 e2 g (e.gx x2) k r rr
  | bad => exact h
@[simp] def RS.seq : RS → GS → RS
  | .nx ρ s, g => g ρ s
  | r, _ => r
theorem PoS.seq {W : WX} {G : Gh} {D : Ends} {r : RS} {g : GS} (h : PoS p W G D (r.seq g)) : PoS p W G { D with nx := rdS p W g D } r := by
  cases r with
  | nx ρ s =>
    intro G2 σ2 H2 x2 e2 gd en
    subst e2
    exact ⟨G2, ρ, gd, en, PoS.gx h x2⟩
  | bk ρ s => exact h
  | ct ρ s => exact h
  | rt d s => exact h
  | exc c ks xs ρ s => exact h
  | bad => exact h
end
end Dq

/-! Expressions. -/
namespace Dq
open PySem PySem.Spec PyProof.Rows L2
section
variable {p : Pg} {X : Cx} {W : WX}

/-! ### names, constants -/
@[simp] def gVar (i : Nat) : GE := fun ρ s => match ρ[i]? with
  | some (some d) => .ok d s
  | _ => .bad
@[simp] def gC (d : DV) : GE := fun _ s => .ok d s
theorem qv (i : Nat) {x : Str} {pos : Pos} (hN : X.N[i]? = some x := by rfl) (hv : Vis X.env.scope x := by first | exact Or.inl rfl | exact Or.inr (Or.inl rfl) | exact Or.inr (Or.inr rfl)) (hd : (x == ("__debug__" : Str)) = false := by decide)
    (hcd : (x == ("__classdict__" : Str)) = false := by decide) : PE X (.Name x pos) (rd p W (gVar i)) := by
  refine PE.imp (L2.pv i hN hv hd hcd) fun σ H Q ⟨G, ρ, g, en, po⟩ => ?_
  unfold gVar at po
  split at po
  · rename_i d e
    obtain ⟨v, e2, r⟩ := en.at_ i d e
    exact ⟨v, e2, Po.ret po GX.rfl' rfl g r⟩
  · exact po.elim
theorem qc {e : Expr} {d : DV} {v : V} (h : PE X e (tC v)) (r : ∀ F μ, Rp p F μ d v) : PE X e (rd p W (gC d)) :=
  PE.imp h fun σ H Q ⟨G, ρ, g, en, po⟩ => Po.ret po GX.rfl' rfl g (r _ _)
theorem qint {i : Int} {j pos} : PE X (.Constant (.int i) j pos) (rd p W (gC (.int i))) := qc pe_int fun _ _ => .int i
theorem qbl {b : Bool} {j pos} : PE X (.Constant (.bool b) j pos) (rd p W (gC (.bl b))) := qc pe_bl fun _ _ => .bl b
theorem qnon {j pos} : PE X (.Constant .none j pos) (rd p W (gC .non)) := qc pe_non fun _ _ => .non
theorem qstr {x : Str} {j pos} : PE X (.Constant (.str x) j pos) (rd p W (gC (.str x))) := qc pe_str fun _ _ => .str x

/-! ### operators -/
/-- what an operation on two values does, by data -/
def rOp (p : Pg) (W : WX) (g : DV → DV → Sto → R DV) : R2 := fun x y H Q => ∃ G a b σ, Gd p G H ∧ Rp p G.F G.μ a x ∧ Rp p G.F G.μ b y ∧ PoV p W G σ (g a b G.st) Q
@[simp] def gBin (g : DV → DV → Sto → R DV) (ga gb : GE) : GE := fun ρ s => (ga ρ s).bind fun a s1 => (gb ρ s1).bind fun b s2 => g a b s2
@[simp] def gUn (g : DV → Sto → R DV) (ga : GE) : GE := fun ρ s => (ga ρ s).bind fun a s1 => g a s1
section
variable {g : DV → DV → Sto → R DV} {ga gb : GE} {a b : Expr} {pos : Pos}
theorem two {ta tb : TE} {σ : L2.St} {H : Hp} {Q : VK} {r : R2} (ha : ∀ σ H Q, rd p W ga σ H Q → ta σ H Q) (hb : ∀ σ H Q, rd p W gb σ H Q → tb σ H Q)
    (hr : ∀ x y H Q, (∃ G a b, Gd p G H ∧ Rp p G.F G.μ a x ∧ Rp p G.F G.μ b y ∧ PoV p W G σ (g a b G.st) Q) → r x y H Q) (h : rd p W (gBin g ga gb) σ H Q) :
    ta σ H fun x H1 => tb σ H1 fun y H2 => r x y H2 Q := by
  obtain ⟨G, ρ, gd, en, po⟩ := h
  refine ha σ H _ ⟨G, ρ, gd, en, (Po.bind po).imp fun v H1 ⟨G1, a, x1, gd1, r1, po1⟩ => ?_⟩
  refine hb σ H1 _ ⟨G1, ρ, gd1, en.gx x1, (Po.bind po1).imp fun u H2 ⟨G2, b, x2, gd2, r2, po2⟩ => ?_⟩
  exact hr v u H2 Q ⟨G2, a, b, gd2, Rg.gx r1 x2, r2, po2⟩
theorem qbin {op : Operator} (ho : OpR X (binaryOp op) (rOp p W g)) (ha : PE X a (rd p W ga)) (hb : PE X b (rd p W gb)) : PE X (.BinOp a op b pos) (rd p W (gBin g ga gb)) :=
  PE.imp (pe_op ho ha hb) fun σ H Q h => two (fun _ _ _ z => z) (fun _ _ _ z => z) (fun x y H Q ⟨G, a, b, gd, r1, r2, po⟩ => ⟨G, a, b, σ, gd, r1, r2, po⟩) h
theorem qcmp {op : CmpOp} (ho : OpR X (compareOp op) (rOp p W g)) (ha : PE X a (rd p W ga)) (hb : PE X b (rd p W gb)) (hm : behindInMarks op b = false) : PE X (.Compare a [op] [b] pos) (rd p W (gBin g ga gb)) :=
  PE.imp (pe_cmpR ho ha hb hm) fun σ H Q h => two (fun _ _ _ z => z) (fun _ _ _ z => z) (fun x y H Q ⟨G, a, b, gd, r1, r2, po⟩ => ⟨G, a, b, σ, gd, r1, r2, po⟩) h
end
/-- a result that is not an exception -/
theorem OpR.of {f : Value → Value → Sem Value} {g : DV → DV → Sto → R DV} (h : ∀ (G : Gh) (H : Hp) (σ : L2.St) (a b : DV) (x y : V) (Q : VK), Gd p G H → Rp p G.F G.μ a x → Rp p G.F G.μ b y → PoV p W G σ (g a b G.st) Q →
      ∃ r : R2, OpR X f r ∧ r x y H Q) : OpR X f (rOp p W g) := fun pins s σ H x y v u Q I rx ry ⟨G, a, b, σ', gd, r1, r2, po⟩ => by
  obtain ⟨r, hr, q⟩ := h G H σ' a b x y Q gd r1 r2 po
  exact hr pins s σ H x y v u Q I rx ry q
/-- new immutable things -/
theorem new_lst {G : Gh} {H : Hp} {σ : L2.St} {xs : List DV} {vs : List V} {Q : VK} (gd : Gd p G H) (r : Rps p G.F G.μ xs vs) (po : PoV p W G σ (.ok (.lst xs) G.st) Q) {q : Addr} (hq : H q = none) : Q (.ref q) (upd H q (.lst vs)) :=
  Po.ret po (GX.lay gd hq) rfl (gd.lay hq) (.lst (by show upd G.F q _ q = _; rw [upd_same]) (Rgs.gx r (GX.lay gd hq)))
theorem new_tup {G : Gh} {H : Hp} {σ : L2.St} {xs : List DV} {vs : List V} {Q : VK} (gd : Gd p G H) (r : Rps p G.F G.μ xs vs) (po : PoV p W G σ (.ok (.tup xs) G.st) Q) {q : Addr} (hq : H q = none) : Q (.ref q) (upd H q (.tup vs)) :=
  Po.ret po (GX.lay gd hq) rfl (gd.lay hq) (.tup (SqT.of (by show upd G.F q _ q = _; rw [upd_same])) (Rgs.gx r (GX.lay gd hq)))
theorem new_mut {G : Gh} {H : Hp} {σ : L2.St} {xs : List DV} {vs : List V} {Q : VK} (gd : Gd p G H) (r : Rps p G.F G.μ xs vs) (po : PoV p W G σ (.ok (.mr G.st.length) (G.st ++ [some (.lst xs)])) Q) {q : Addr} (hq : H q = none) : Q (.ref q) (upd H q (.lst vs)) :=
  Po.ret po (GX.add (m := .lst xs) (a := q)) rfl (gd.add hq ⟨vs, rfl, r⟩) (.mr (by rw [← gd.len]; exact Gh.add_at))

/-! ### whole numbers, texts, lists under an operator -/
def mulOk (i j : Int) : Bool := decide (i.natAbs.log2 + j.natAbs.log2 < 134217000)
def divOk (j : Int) : Bool := decide (j ≠ 0) && decide (j.natAbs.log2 < 9000)
def powOk (i j : Int) : Bool := decide (0 ≤ j) && decide (j ≤ 1000000) && decide (i.natAbs < 2 ^ 64)
def okIf (c : Bool) (d : DV) (s : Sto) : R DV := match c with
  | true => .ok d s
  | false => .bad
theorem okIf_true {d : DV} {s : Sto} : okIf true d s = .ok d s := rfl
@[simp] def addD : DV → DV → Sto → R DV
  | .int i, .int j, s => .ok (.int (i + j)) s
  | .str x, .str y, s => okIf (decide (x.length + y.length ≤ sizeLine)) (.str (x ++ y)) s
  | .lst xs, .lst ys, s => okIf (decide (xs.length + ys.length ≤ sizeLine)) (.lst (xs ++ ys)) s
  | .tup xs, .tup ys, s => okIf (!xs.isEmpty && decide (xs.length + ys.length ≤ sizeLine)) (.tup (xs ++ ys)) s
  | _, _, _ => .bad
@[simp] def subD : DV → DV → Sto → R DV
  | .int i, .int j, s => .ok (.int (i - j)) s
  | _, _, _ => .bad
def mulD : DV → DV → Sto → R DV
  | .int i, .int j, s => okIf (mulOk i j) (.int (i * j)) s
  | .lst xs, .int k, s => okIf (decide (0 ≤ k ∧ k < 2 ^ 63 ∧ xs.length * k.toNat ≤ sizeLine)) (.lst (List.replicate k.toNat xs).flatten) s
  | _, _, _ => .bad
def fdivD : DV → DV → Sto → R DV
  | .int i, .int j, s => okIf (divOk j) (.int (i.fdiv j)) s
  | _, _, _ => .bad
def modD : DV → DV → Sto → R DV
  | .int i, .int j, s => okIf (decide (j ≠ 0)) (.int (i.fmod j)) s
  | _, _, _ => .bad
def powD : DV → DV → Sto → R DV
  | .int i, .int j, s => okIf (powOk i j) (.int (i ^ j.toNat)) s
  | _, _, _ => .bad
theorem okIf_po {c : Bool} {d : DV} {s : Sto} {G : Gh} {σ : L2.St} {Q : VK} (h : PoV p W G σ (okIf c d s) Q) : c = true ∧ PoV p W G σ (.ok d s) Q := by
  cases c with
  | true => exact ⟨rfl, h⟩
  | false => exact h.elim
theorem Rps.nil_iff {F : Hp} {μ : List Addr} {ds : List DV} {vs : List V} (h : Rps p F μ ds vs) : vs = [] ↔ ds = [] := by
  have := h.length
  constructor
  · rintro rfl; exact List.eq_nil_of_length_eq_zero (by simpa using this)
  · rintro rfl; exact List.eq_nil_of_length_eq_zero (by simpa using this.symm)
theorem opd_add (hK : X.K = p.K) : OpR X (binaryOp .Add) (rOp p W addD) := OpR.of fun G H σ a b x y Q gd ra rb po => by
  unfold addD at po
  split at po
  · cases ra; cases rb
    exact ⟨_, op_add, _, _, rfl, rfl, Po.ret po GX.rfl' rfl gd (.int _)⟩
  · cases ra; cases rb
    obtain ⟨c, po⟩ := okIf_po po
    exact ⟨_, op_add_str, _, _, rfl, rfl, of_decide_eq_true c, Po.ret po GX.rfl' rfl gd (.str _)⟩
  · cases ra with
    | lst ha rs =>
      cases rb with
      | lst hb rt =>
        obtain ⟨c, po⟩ := okIf_po po
        refine ⟨_, op_cat, _, _, _, _, rfl, rfl, gd.le _ _ ha, gd.le _ _ hb, ?_, fun q hq => new_lst gd (rs.app rt) po hq⟩
        rw [← rs.length, ← rt.length]; exact of_decide_eq_true c
  · cases ra with
    | tup ha rs =>
      cases rb with
      | tup hb rt =>
        obtain ⟨c, po⟩ := okIf_po po
        rw [Bool.and_eq_true] at c
        refine ⟨_, op_catT, _, _, _, _, rfl, rfl, by rw [hK]; exact sqT_up gd.le ha, by rw [hK]; exact sqT_up gd.le hb, fun z => ?_, ?_, fun z => ?_, fun z q hq => new_tup gd (rs.app rt) po hq⟩
        · rw [rs.nil_iff.mp z] at c; exact absurd c.1 (by decide)
        · rw [← rs.length, ← rt.length]; exact of_decide_eq_true c.2
        · rw [rt.nil_iff.mp z, List.append_nil] at po
          exact Po.ret po GX.rfl' rfl gd (.tup ha rs)
  · exact po.elim
theorem opd_sub : OpR X (binaryOp .Sub) (rOp p W subD) := OpR.of fun G H σ a b x y Q gd ra rb po => by
  unfold subD at po
  split at po
  · cases ra; cases rb
    exact ⟨_, op_sub, _, _, rfl, rfl, Po.ret po GX.rfl' rfl gd (.int _)⟩
  · exact po.elim
theorem mulOk_ok {i j : Int} (h : mulOk i j = true) : IntMulOk i j := by
  have h' := of_decide_eq_true h
  exact CMulX.ok (mulx_ok (a := i.natAbs.log2 + 1) (b := j.natAbs.log2 + 1) Nat.lt_log2_self Nat.lt_log2_self (by omega))
theorem opd_mul : OpR X (binaryOp .Mult) (rOp p W mulD) := OpR.of fun G H σ a b x y Q gd ra rb po => by
  unfold mulD at po
  split at po
  · cases ra; cases rb
    obtain ⟨c, po⟩ := okIf_po po
    exact ⟨_, opI (g := fun i j => i * j) (C := IntMulOk) fun _ _ _ _ _ _ _ hc q => mul_int q hc, _, _, rfl, rfl, mulOk_ok c, Po.ret po GX.rfl' rfl gd (.int _)⟩
  · cases rb
    cases ra with
    | lst ha rs =>
      obtain ⟨c, po⟩ := okIf_po po
      have c := of_decide_eq_true c
      refine ⟨_, op_rep, _, _, _, rfl, rfl, gd.le _ _ ha, by omega, c.2.1, ?_, fun q hq => new_lst gd (rs.rep _) po hq⟩
      rw [← rs.length]; exact c.2.2
  · exact po.elim
theorem opd_fdiv : OpR X (binaryOp .FloorDiv) (rOp p W fdivD) := OpR.of fun G H σ a b x y Q gd ra rb po => by
  unfold fdivD at po
  split at po
  · cases ra; cases rb
    obtain ⟨c, po⟩ := okIf_po po
    unfold divOk at c
    rw [Bool.and_eq_true] at c
    refine ⟨_, opI (g := fun i j => i.fdiv j) (C := fun _ j => j ≠ 0 ∧ j.natAbs.log2 < 9000) fun i j _ _ _ _ _ hc q => floordiv_int hc.1 q (.inl (PyProof.noPylong_of_log2 hc.2)), _, _, rfl, rfl, ⟨of_decide_eq_true c.1, of_decide_eq_true c.2⟩, Po.ret po GX.rfl' rfl gd (.int _)⟩
  · exact po.elim
theorem opd_mod : OpR X (binaryOp .Mod) (rOp p W modD) := OpR.of fun G H σ a b x y Q gd ra rb po => by
  unfold modD at po
  split at po
  · cases ra; cases rb
    obtain ⟨c, po⟩ := okIf_po po
    exact ⟨_, op_modN, _, _, rfl, rfl, of_decide_eq_true c, Po.ret po GX.rfl' rfl gd (.int _)⟩
  · exact po.elim
theorem opd_pow : OpR X (binaryOp .Pow) (rOp p W powD) := OpR.of fun G H σ a b x y Q gd ra rb po => by
  unfold powD at po
  split at po
  · cases ra; cases rb
    obtain ⟨c, po⟩ := okIf_po po
    unfold powOk at c
    rw [Bool.and_eq_true, Bool.and_eq_true] at c
    exact ⟨_, op_pow, _, _, rfl, rfl, ⟨of_decide_eq_true c.1.1, of_decide_eq_true c.1.2, of_decide_eq_true c.2⟩, Po.ret po GX.rfl' rfl gd (.int _)⟩
  · exact po.elim
def rUn1 (p : Pg) (W : WX) (g : DV → Sto → R DV) : V → Hp → VK → Prop := fun x H Q => ∃ G a σ, Gd p G H ∧ Rp p G.F G.μ a x ∧ PoV p W G σ (g a G.st) Q
@[simp] def negD : DV → Sto → R DV
  | .int i, s => .ok (.int (-i)) s
  | _, _ => .bad
theorem one {g : DV → Sto → R DV} {ga : GE} {ta : TE} {σ : L2.St} {H : Hp} {Q : VK} {r : V → Hp → VK → Prop} (ha : ∀ σ H Q, rd p W ga σ H Q → ta σ H Q)
    (hr : ∀ x H Q, (∃ G a, Gd p G H ∧ Rp p G.F G.μ a x ∧ PoV p W G σ (g a G.st) Q) → r x H Q) (h : rd p W (gUn g ga) σ H Q) : ta σ H fun x H1 => r x H1 Q := by
  obtain ⟨G, ρ, gd, en, po⟩ := h
  exact ha σ H _ ⟨G, ρ, gd, en, (Po.bind po).imp fun v H1 ⟨G1, a, x1, gd1, r1, po1⟩ => hr v H1 Q ⟨G1, a, gd1, r1, po1⟩⟩
theorem qun {op : UnaryOp} {g : DV → Sto → R DV} {ga : GE} {a : Expr} {pos : Pos} (ho : UnR X (unaryOp op) (rUn1 p W g)) (ha : PE X a (rd p W ga)) : PE X (.UnaryOp op a pos) (rd p W (gUn g ga)) :=
  PE.imp (pe_un ho ha) fun σ H Q h => one (fun _ _ _ z => z) (fun x H Q ⟨G, a, gd, r1, po⟩ => ⟨G, a, σ, gd, r1, po⟩) h
theorem UnR.of {f : Value → Sem Value} {g : DV → Sto → R DV} (h : ∀ (G : Gh) (H : Hp) (σ : L2.St) (a : DV) (x : V) (Q : VK), Gd p G H → Rp p G.F G.μ a x → PoV p W G σ (g a G.st) Q →
      ∃ r : V → Hp → VK → Prop, UnR X f r ∧ r x H Q) : UnR X f (rUn1 p W g) := fun pins s σ H x v Q I rx ⟨G, a, σ', gd, r1, po⟩ => by
  obtain ⟨r, hr, q⟩ := h G H σ' a x Q gd r1 po
  exact hr pins s σ H x v Q I rx q
theorem opd_neg : UnR X (unaryOp .USub) (rUn1 p W negD) := UnR.of fun G H σ a x Q gd ra po => by
  unfold negD at po
  split at po
  · cases ra
    exact ⟨_, un_neg, _, rfl, Po.ret po GX.rfl' rfl gd (.int _)⟩
  · exact po.elim

/-! ### comparisons -/
@[simp] def ordD (f : Int → Int → Bool) : DV → DV → Sto → R DV
  | .int i, .int j, s => .ok (.bl (f i j)) s
  | _, _, _ => .bad
abbrev ltD := ordD fun i j => decide (i < j)
abbrev leD := ordD fun i j => decide (i ≤ j)
abbrev gtD := ordD fun i j => decide (j < i)
abbrev geD := ordD fun i j => decide (j ≤ i)
theorem opd_ord {f : Value → Value → Sem Value} {k : Int → Int → Bool} (h : OpR X f (rI0 fun i j => .bl (k i j))) : OpR X f (rOp p W (ordD k)) := OpR.of fun G H σ a b x y Q gd ra rb po => by
  unfold ordD at po
  split at po
  · cases ra; cases rb
    exact ⟨_, h, _, _, rfl, rfl, Po.ret po GX.rfl' rfl gd (.bl _)⟩
  · exact po.elim
theorem opd_lt : OpR X (compareOp .Lt) (rOp p W ltD) := opd_ord op_lt
theorem opd_le : OpR X (compareOp .LtE) (rOp p W leD) := opd_ord op_le
theorem opd_gt : OpR X (compareOp .Gt) (rOp p W gtD) := opd_ord op_gt
theorem opd_ge : OpR X (compareOp .GtE) (rOp p W geD) := opd_ord op_ge
mutual
/-- as the library's data -/
def DV.py : DV → Option PyData
  | .non => some .none
  | .bl b => some (.bool b)
  | .int i => some (.int i)
  | .str x => some (.str x)
  | .lst xs => (DV.pys xs).map .list
  | .wl xs => (DV.pys xs).map .list
  | .tup xs => (DV.pys xs).map .tuple
  | .ins _ _ _ => none
  | .mr _ => none
def DV.pys : List DV → Option (List PyData)
  | [] => some []
  | x :: xs => match x.py, DV.pys xs with
    | some d, some ds => some (d :: ds)
    | _, _ => none
end
/-- with a list that is still in the making at the top -/
def pyS (s : Sto) : DV → Option PyData
  | .mr k => match s[k]? with
    | some (some (.lst xs)) => (DV.pys xs).map .list
    | _ => none
  | d => d.py
def eqD (a b : DV) (s : Sto) : R DV := match pyS s a, pyS s b with
  | some d, some e => okIf (SeqAt.shaped d && SeqAt.shaped e) (.bl (PyData.eqv d e)) s
  | _, _ => .bad
def neD (a b : DV) (s : Sto) : R DV := match pyS s a, pyS s b with
  | some d, some e => okIf (SeqAt.shaped d && SeqAt.shaped e) (.bl (!PyData.eqv d e)) s
  | _, _ => .bad
mutual
theorem dp_of {F : Hp} {μ : List Addr} : ∀ (d : DV) (v : V) (y : PyData), Rp p F μ d v → d.py = some y → Dp p.K F v y
  | .non, _, _, .non, h => by unfold DV.py at h; cases h; exact .non
  | .bl _, _, _, .bl b, h => by unfold DV.py at h; cases h; exact .bl b
  | .int _, _, _, .int i, h => by unfold DV.py at h; cases h; exact .int i
  | .str _, _, _, .str x, h => by unfold DV.py at h; cases h; exact .str x
  | .lst xs, _, _, .lst a r, h => by
    unfold DV.py at h
    cases e : DV.pys xs with
    | none => rw [e] at h; cases h
    | some ys => rw [e] at h; cases h; exact .lst (SqL.of a) (dps_of xs _ ys r e)
  | .wl xs, _, _, .wl a r, h => by
    unfold DV.py at h
    cases e : DV.pys xs with
    | none => rw [e] at h; cases h
    | some ys => rw [e] at h; cases h; exact .lst a (dps_of xs _ ys r e)
  | .tup xs, _, _, .tup a r, h => by
    unfold DV.py at h
    cases e : DV.pys xs with
    | none => rw [e] at h; cases h
    | some ys => rw [e] at h; cases h; exact .tup a (dps_of xs _ ys r e)
  | .ins _ _ _, _, _, _, h => by unfold DV.py at h; cases h
  | .mr _, _, _, _, h => by unfold DV.py at h; cases h
theorem dps_of {F : Hp} {μ : List Addr} : ∀ (ds : List DV) (vs : List V) (ys : List PyData), Rps p F μ ds vs → DV.pys ds = some ys → DpAll p.K F vs ys
  | [], _, _, .nil, h => by unfold DV.pys at h; cases h; exact .nil
  | d :: ds, _, _, .cons r t, h => by
    unfold DV.pys at h
    cases e1 : d.py with
    | none => rw [e1] at h; cases h
    | some y =>
      cases e2 : DV.pys ds with
      | none => rw [e1, e2] at h; cases h
      | some ys => rw [e1, e2] at h; cases h; exact .cons (dp_of d _ y r e1) (dps_of ds _ ys t e2)
end
mutual
theorem dp_up {K : PySem.W.Frag} {F H : Hp} (k : ∀ a o, F a = some o → H a = some o) : ∀ (y : PyData) (v : V), Dp K F v y → Dp K H v y
  | _, _, .non => .non
  | _, _, .bl b => .bl b
  | _, _, .int i => .int i
  | _, _, .str x => .str x
  | .list ys, _, .lst a r => .lst (sqL_up k a) (dps_up k ys _ r)
  | .tuple ys, _, .tup a r => .tup (sqT_up k a) (dps_up k ys _ r)
theorem dps_up {K : PySem.W.Frag} {F H : Hp} (k : ∀ a o, F a = some o → H a = some o) : ∀ (ys : List PyData) (vs : List V), DpAll K F vs ys → DpAll K H vs ys
  | [], _, .nil => .nil
  | y :: ys, _, .cons a b => .cons (dp_up k y _ a) (dps_up k ys _ b)
end
theorem dpS_of {G : Gh} {H : Hp} (gd : Gd p G H) {d : DV} {v : V} {y : PyData} (r : Rp p G.F G.μ d v) (h : pyS G.st d = some y) : Dp p.K H v y := by
  unfold pyS at h
  split at h
  · split at h
    · rename_i k _ xs e
      cases r with
      | mr hm =>
        obtain ⟨a, e1, e2, vs, e3, e4⟩ := gd.live k _ e
        rw [hm] at e1; cases e1
        cases e5 : DV.pys xs with
        | none => rw [e5] at h; cases h
        | some ys => rw [e5] at h; cases h; exact .lst (SqL.of e3) (dps_up gd.le ys _ (dps_of xs _ ys e4 e5))
    · cases h
  · exact dp_up gd.le y _ (dp_of d v y r h)
theorem opd_eq (hK : X.K = p.K) (hu : X.A.units + 64 < cLine) : OpR X (compareOp .Eq) (rOp p W eqD) := OpR.of fun G H σ a b x y Q gd ra rb po => by
  unfold eqD at po
  split at po
  · rename_i d e h1 h2
    obtain ⟨c, po⟩ := okIf_po po
    rw [Bool.and_eq_true] at c
    exact ⟨_, op_eqD hu, d, e, by rw [hK]; exact dpS_of gd ra h1, by rw [hK]; exact dpS_of gd rb h2, c.1, c.2, Po.ret po GX.rfl' rfl gd (.bl _)⟩
  · exact po.elim
theorem opd_ne (hK : X.K = p.K) (hu : X.A.units + 64 < cLine) : OpR X (compareOp .NotEq) (rOp p W neD) := OpR.of fun G H σ a b x y Q gd ra rb po => by
  unfold neD at po
  split at po
  · rename_i d e h1 h2
    obtain ⟨c, po⟩ := okIf_po po
    rw [Bool.and_eq_true] at c
    exact ⟨_, op_neD hu, d, e, by rw [hK]; exact dpS_of gd ra h1, by rw [hK]; exact dpS_of gd rb h2, c.1, c.2, Po.ret po GX.rfl' rfl gd (.bl _)⟩
  · exact po.elim
/-- is None -/
@[simp] def DV.isN : DV → Bool
  | .non => true
  | _ => false
@[simp] def isD (neg : Bool) : DV → DV → Sto → R DV
  | a, .non, s => .ok (.bl (if neg then !a.isN else a.isN)) s
  | _, _, _ => .bad
theorem Rp.isN {F : Hp} {μ : List Addr} {d : DV} {v : V} (h : Rp p F μ d v) : decide (v = .non) = d.isN := by
  cases h <;> rfl
theorem opd_is : OpR X (compareOp .Is) (rOp p W (isD false)) := OpR.of fun G H σ a b x y Q gd ra rb po => by
  unfold isD at po
  split at po
  · cases rb
    exact ⟨_, op_isN, rfl, by rw [ra.isN]; exact Po.ret po GX.rfl' rfl gd (.bl _)⟩
  · exact po.elim
theorem opd_isnot : OpR X (compareOp .IsNot) (rOp p W (isD true)) := OpR.of fun G H σ a b x y Q gd ra rb po => by
  unfold isD at po
  split at po
  · cases rb
    exact ⟨_, op_notN, rfl, by rw [ra.isN]; exact Po.ret po GX.rfl' rfl gd (.bl _)⟩
  · exact po.elim
/-- the items of a list or tuple -/
@[simp] def seqS (s : Sto) : DV → Option (List DV)
  | .lst xs => some xs
  | .wl xs => some xs
  | .tup xs => some xs
  | .mr k => match s[k]? with
    | some (some (.lst xs)) => some xs
    | _ => none
  | _ => none
theorem seq_of {G : Gh} {H : Hp} (gd : Gd p G H) {d : DV} {v : V} {xs : List DV} (r : Rp p G.F G.μ d v) (h : seqS G.st d = some xs) :
    ∃ a vs, v = .ref a ∧ (SqL p.K H a vs ∨ SqT p.K H a vs) ∧ Rps p G.F G.μ xs vs := by
  unfold seqS at h
  split at h
  · cases h
    cases r with
    | lst e rs => exact ⟨_, _, rfl, .inl (SqL.of (gd.le _ _ e)), rs⟩
  · cases h
    cases r with
    | wl e rs => exact ⟨_, _, rfl, .inl (sqL_up gd.le e), rs⟩
  · cases h
    cases r with
    | tup e rs => exact ⟨_, _, rfl, .inr (sqT_up gd.le e), rs⟩
  · split at h
    · rename_i k _ ys e
      cases h
      cases r with
      | mr hm =>
        obtain ⟨a, e1, e2, vs, e3, e4⟩ := gd.live k _ e
        rw [hm] at e1; cases e1
        exact ⟨_, vs, rfl, .inl (SqL.of e3), e4⟩
    · cases h
  · cases h
def DV.flat : DV → Bool
  | .non => true
  | .bl _ => true
  | .int _ => true
  | .str _ => true
  | _ => false
def eqF : DV → DV → Bool
  | .non, .non => true
  | .bl a, .bl b => a == b
  | .bl a, .int b => (if a then 1 else 0) == b
  | .int a, .bl b => a == (if b then 1 else 0)
  | .int a, .int b => a == b
  | .str a, .str b => a == b
  | _, _ => false
theorem flat_of {F : Hp} {μ : List Addr} {d : DV} {v : V} (h : Rp p F μ d v) (f : d.flat = true) : flatV v = true := by
  cases h <;> first | rfl | cases f
theorem flats_of {F : Hp} {μ : List Addr} : ∀ {ds : List DV} {vs : List V}, Rps p F μ ds vs → ds.all DV.flat = true → vs.all flatV = true
  | [], _, .nil, _ => rfl
  | _ :: _, _, .cons r t, f => by
    rw [List.all_cons, Bool.and_eq_true] at f ⊢
    exact ⟨flat_of r f.1, flats_of t f.2⟩
theorem eqV_of {F : Hp} {μ : List Addr} {d e : DV} {v u : V} (h : Rp p F μ d v) (k : Rp p F μ e u) : d.flat = true → e.flat = true → eqV v u = eqF d e := by
  intro f1 f2
  cases h <;> cases k <;> first | rfl | (exact nomatch f1) | (exact nomatch f2)
def inF (x : DV) (xs : List DV) : Bool := xs.any fun y => eqF y x
theorem inV_of {F : Hp} {μ : List Addr} {d : DV} {v : V} (h : Rp p F μ d v) (f : d.flat = true) : ∀ {ds : List DV} {vs : List V}, Rps p F μ ds vs → ds.all DV.flat = true → inV v vs = inF d ds
  | [], _, .nil, _ => rfl
  | _ :: _, _, .cons r t, g => by
    rw [List.all_cons, Bool.and_eq_true] at g
    unfold inV inF
    rw [List.any_cons, List.any_cons, eqV_of r h g.1 f]
    have := inV_of h f t g.2
    unfold inV inF at this
    rw [this]
def inD (neg : Bool) (x c : DV) (s : Sto) : R DV := match seqS s c with
  | some xs => okIf (x.flat && xs.all DV.flat) (.bl (if neg then !inF x xs else inF x xs)) s
  | none => .bad
theorem opd_inG {f : Value → Value → Sem Value} {neg : Bool} (h : OpR X f (rIn X.K neg)) (hK : X.K = p.K) : OpR X f (rOp p W (inD neg)) := OpR.of fun G H σ a b x y Q gd ra rb po => by
  unfold inD at po
  split at po
  · rename_i xs e
    obtain ⟨c, po⟩ := okIf_po po
    rw [Bool.and_eq_true] at c
    obtain ⟨q, vs, rfl, hs, rs⟩ := seq_of gd rb e
    refine ⟨_, h, q, vs, rfl, by rw [hK]; exact hs, flat_of ra c.1, flats_of rs c.2, ?_⟩
    rw [inV_of ra c.1 rs c.2]
    exact Po.ret po GX.rfl' rfl gd (.bl _)
  · exact po.elim
theorem opd_in (hK : X.K = p.K) : OpR X (compareOp .In) (rOp p W (inD false)) := opd_inG op_in_seq hK
theorem opd_notin (hK : X.K = p.K) : OpR X (compareOp .NotIn) (rOp p W (inD true)) := opd_inG op_notIn_seq hK
end
end Dq

/-! Tests, displays, items, arguments. -/
namespace Dq
open PySem PySem.Spec PyProof.Rows L2
section
variable {p : Pg} {X : Cx} {W : WX}

/-! ### tests -/
@[simp] def truB : DV → Sto → R Bool
  | .bl b, s => .ok b s
  | _, _ => .bad
@[simp] def truD : DV → Sto → R Bool
  | .non, s => .ok false s
  | .bl b, s => .ok b s
  | .int i, s => .ok (i != 0) s
  | .str x, s => match decide (x.length ≤ sizeLine) with
    | true => .ok ((x.length : Int) != 0) s
    | false => .bad
  | .lst xs, s => .ok (!xs.isEmpty) s
  | .wl xs, s => .ok (!xs.isEmpty) s
  | .tup xs, s => .ok (!xs.isEmpty) s
  | .mr k, s => match s[k]? with
    | some (some (.lst xs)) => .ok (!xs.isEmpty) s
    | _ => .bad
  | _, _ => .bad
@[simp] def gT (f : DV → Sto → R Bool) (g : GE) : GB := fun ρ s => (g ρ s).bind f
theorem Rps.isEmpty {F : Hp} {μ : List Addr} {ds : List DV} {vs : List V} (h : Rps p F μ ds vs) : (!vs.isEmpty) = !ds.isEmpty := by
  cases ds <;> cases vs <;> first | rfl | (exact nomatch h.length) | (cases h)
theorem tru_of {G : Gh} {H : Hp} {σ : L2.St} (gd : Gd p G H) {d : DV} {v : V} (r : Rp p G.F G.μ d v) {Q : Bool → Hp → Prop} (po : PoB p W G σ (truD d G.st) Q) : ∃ k, TruV p.K v H k ∧ Q k H := by
  unfold truD at po
  split at po
  · cases r; exact ⟨false, rfl, Po.ret po GX.rfl' rfl gd rfl⟩
  · cases r; exact ⟨_, rfl, Po.ret po GX.rfl' rfl gd rfl⟩
  · cases r; exact ⟨_, rfl, Po.ret po GX.rfl' rfl gd rfl⟩
  · cases r
    split at po
    · rename_i c
      exact ⟨_, ⟨of_decide_eq_true c, rfl⟩, Po.ret po GX.rfl' rfl gd rfl⟩
    · exact po.elim
  · cases r with
    | lst a rs => exact ⟨_, .inl ⟨_, SqL.of (gd.le _ _ a), (Rps.isEmpty rs).symm⟩, Po.ret po GX.rfl' rfl gd rfl⟩
  · cases r with
    | wl a rs => exact ⟨_, .inl ⟨_, sqL_up gd.le a, (Rps.isEmpty rs).symm⟩, Po.ret po GX.rfl' rfl gd rfl⟩
  · cases r with
    | tup a rs => exact ⟨_, .inr (.inl ⟨_, sqT_up gd.le a, (Rps.isEmpty rs).symm⟩), Po.ret po GX.rfl' rfl gd rfl⟩
  · cases r with
    | mr hm =>
      split at po
      · rename_i xs e
        obtain ⟨a, e1, e2, vs, e3, e4⟩ := gd.live _ _ e
        rw [hm] at e1; cases e1
        exact ⟨_, .inl ⟨_, SqL.of e3, (Rps.isEmpty e4).symm⟩, Po.ret po GX.rfl' rfl gd rfl⟩
      · exact po.elim
  · exact po.elim
theorem rdB_tru {g : GE} {σ : L2.St} {H : Hp} {Q : Bool → Hp → Prop} (h : rdB p W (gT truD g) σ H Q) : rd p W g σ H fun x H1 => ∃ k, TruV p.K x H1 k ∧ Q k H1 := by
  obtain ⟨G, ρ, gd, en, po⟩ := h
  exact ⟨G, ρ, gd, en, (Po.bind po).imp fun v H1 ⟨G1, a, x1, gd1, r1, po1⟩ => tru_of gd1 r1 po1⟩
theorem rdB_b {g : GE} {σ : L2.St} {H : Hp} {Q : Bool → Hp → Prop} (h : rdB p W (gT truB g) σ H Q) : rd p W g σ H fun x H1 => ∃ k, x = .bl k ∧ Q k H1 := by
  obtain ⟨G, ρ, gd, en, po⟩ := h
  refine ⟨G, ρ, gd, en, (Po.bind po).imp fun v H1 ⟨G1, a, x1, gd1, r1, po1⟩ => ?_⟩
  unfold truB at po1
  split at po1
  · cases r1; exact ⟨_, rfl, Po.ret po1 GX.rfl' rfl gd1 rfl⟩
  · exact po1.elim
section
variable {a b c : Expr} {pos : Pos} {g g2 : DV → DV → Sto → R DV} {ga gb gc : GE} {rest : List Expr} {ta tb : GB}
theorem qt (ha : PE X a (rd p W ga)) (he : ∀ whole, isTrue a X.env whole = (do let v ← whole; standAt a.pos; holding [v] (truthy v)) := by intro _; rfl) (hK : X.K = p.K := by rfl) : PT X a (rdB p W (gT truD ga)) :=
  PT.imp (pt_truth ha he) fun σ H Q h => by rw [hK]; exact rdB_tru h
theorem qtcmp {op : CmpOp} (ho : OpR X (compareOp op) (rOp p W g)) (ha : PE X a (rd p W ga)) (hb : PE X b (rd p W gb)) (hm : behindInMarks op b = false) : PT X (.Compare a [op] [b] pos) (rdB p W (gT truB (gBin g ga gb))) :=
  PT.imp (pt_cmpR ho ha hb hm) fun σ H Q h => two (fun _ _ _ z => z) (fun _ _ _ z => z) (fun x y H Q ⟨G, a, b, gd, r1, r2, po⟩ => ⟨G, a, b, σ, gd, r1, r2, po⟩) (rdB_b h)
/-- a op b op c -/
def gChain (g g2 : DV → DV → Sto → R DV) (ga gb gc : GE) : GE := fun ρ s => (ga ρ s).bind fun a s1 => (gb ρ s1).bind fun b s2 => (g a b s2).bind fun z s3 => match z with
  | .bl true => (gc ρ s3).bind fun c s4 => g2 b c s4
  | .bl false => .ok (.bl false) s3
  | _ => .bad
theorem chain_of {σ : L2.St} {H : Hp} {Q : VK} (h : rd p W (gChain g g2 ga gb gc) σ H Q) : tChain (rOp p W g) (rOp p W g2) (rd p W ga) (rd p W gb) (rd p W gc) σ H Q := by
  obtain ⟨G, ρ, gd, en, po⟩ := h
  refine ⟨G, ρ, gd, en, (Po.bind po).imp fun v H1 ⟨G1, a, x1, gd1, r1, po1⟩ => ?_⟩
  refine ⟨G1, ρ, gd1, en.gx x1, (Po.bind po1).imp fun u H2 ⟨G2, b, x2, gd2, r2, po2⟩ => ?_⟩
  refine ⟨G2, a, b, σ, gd2, Rg.gx r1 x2, r2, (Po.bind po2).imp fun z H3 ⟨G3, zd, x3, gd3, r3, po3⟩ => ?_⟩
  split at po3
  · cases r3
    refine ⟨true, rfl, ?_⟩
    show rd p W gc σ H3 _
    refine ⟨G3, ρ, gd3, en.gx (x1.trans (x2.trans x3)), (Po.bind po3).imp fun w H4 ⟨G4, c, x4, gd4, r4, po4⟩ => ?_⟩
    exact ⟨G4, b, c, σ, gd4, Rg.gx r2 (x3.trans x4), r4, po4⟩
  · cases r3
    exact ⟨false, rfl, Po.ret po3 GX.rfl' rfl gd3 (.bl _)⟩
  · exact po3.elim
theorem qchain {op op' : CmpOp} (ho : OpR X (compareOp op) (rOp p W g)) (ho' : OpR X (compareOp op') (rOp p W g2)) (ha : PE X a (rd p W ga)) (hb : PE X b (rd p W gb)) (hc : PE X c (rd p W gc))
    (hm : lastMarks [op, op'] [b, c] = false := by with_unfolding_all rfl) : PE X (.Compare a [op, op'] [b, c] pos) (rd p W (gChain g g2 ga gb gc)) :=
  PE.imp (pe_chain ho ho' ha hb hc hm) fun _ _ _ h => chain_of h
theorem qtchain {op op' : CmpOp} (ho : OpR X (compareOp op) (rOp p W g)) (ho' : OpR X (compareOp op') (rOp p W g2)) (ha : PE X a (rd p W ga)) (hb : PE X b (rd p W gb)) (hc : PE X c (rd p W gc))
    (hm : lastMarks [op, op'] [b, c] = false := by with_unfolding_all rfl) : PT X (.Compare a [op, op'] [b, c] pos) (rdB p W (gT truB (gChain g g2 ga gb gc))) :=
  PT.imp (pt_chain ho ho' ha hb hc hm) fun _ _ _ h => chain_of (rdB_b h)
@[simp] def gAnd (ta tb : GB) : GB := fun ρ s => (ta ρ s).bind fun c s1 => match c with
  | true => tb ρ s1
  | false => .ok false s1
@[simp] def gOr (ta tb : GB) : GB := fun ρ s => (ta ρ s).bind fun c s1 => match c with
  | true => .ok true s1
  | false => tb ρ s1
@[simp] def gNot (ta : GB) : GB := fun ρ s => (ta ρ s).bind fun c s1 => .ok (!c) s1
theorem qtnot (ha : PT X a (rdB p W ta)) : PT X (.UnaryOp .Not a pos) (rdB p W (gNot ta)) :=
  PT.imp (pt_not ha) fun σ H Q ⟨G, ρ, gd, en, po⟩ => ⟨G, ρ, gd, en, (Po.bind po).imp fun v H1 ⟨G1, a, x1, gd1, r1, po1⟩ => by cases r1; exact Po.ret po1 GX.rfl' rfl gd1 rfl⟩
theorem PW.imp {e : Expr} {t t' : TT} (h : PW X e t) (k : ∀ σ H Q, t' σ H Q → t σ H Q) : PW X e t' := ⟨fun wh pins s σ H Q I q => h.run wh pins s σ H Q I (k σ H Q q)⟩
theorem qw1 {op : BoolOp} (ha : PT X a (rdB p W ta)) : PW X (.BoolOp op [a] pos) (rdB p W ta) := by
  cases op with
  | And => exact pw_and1 ha
  | Or => exact pw_or1 ha
theorem qwand (ha : PT X a (rdB p W ta)) (hb : PW X (.BoolOp .And (b :: rest) pos) (rdB p W tb)) : PW X (.BoolOp .And (a :: b :: rest) pos) (rdB p W (gAnd ta tb)) :=
  PW.imp (pw_and ha hb) fun σ H Q ⟨G, ρ, gd, en, po⟩ => ⟨G, ρ, gd, en, (Po.bind po).imp fun v H1 ⟨G1, a, x1, gd1, r1, po1⟩ => by
    cases r1
    cases v with
    | true => exact iteT ⟨G1, ρ, gd1, en.gx x1, po1⟩
    | false => exact iteF (Po.ret po1 GX.rfl' rfl gd1 rfl)⟩
theorem qwor (ha : PT X a (rdB p W ta)) (hb : PW X (.BoolOp .Or (b :: rest) pos) (rdB p W tb)) : PW X (.BoolOp .Or (a :: b :: rest) pos) (rdB p W (gOr ta tb)) :=
  PW.imp (pw_or ha hb) fun σ H Q ⟨G, ρ, gd, en, po⟩ => ⟨G, ρ, gd, en, (Po.bind po).imp fun v H1 ⟨G1, a, x1, gd1, r1, po1⟩ => by
    cases r1
    cases v with
    | true => exact iteT (Po.ret po1 GX.rfl' rfl gd1 rfl)
    | false => exact iteF ⟨G1, ρ, gd1, en.gx x1, po1⟩⟩
/-! ### and, or, not as values; a if c else b -/
@[simp] def gAndV (ga gb : GE) : GE := fun ρ s => (ga ρ s).bind fun a s1 => (truD a s1).bind fun k s2 => match k with
  | true => gb ρ s2
  | false => .ok a s2
@[simp] def gOrV (ga gb : GE) : GE := fun ρ s => (ga ρ s).bind fun a s1 => (truD a s1).bind fun k s2 => match k with
  | true => .ok a s2
  | false => gb ρ s2
@[simp] def gNotV (ga : GE) : GE := fun ρ s => (ga ρ s).bind fun a s1 => (truD a s1).bind fun k s2 => .ok (.bl (!k)) s2
theorem q1 {op : BoolOp} (ha : PE X a (rd p W ga)) : PE X (.BoolOp op [a] pos) (rd p W ga) := pe_one ha
theorem tru_po {G : Gh} {H : Hp} {σ : L2.St} (gd : Gd p G H) {d : DV} {v : V} (r : Rp p G.F G.μ d v) {f : Bool → Sto → R DV} {Q : VK} (po : PoV p W G σ ((truD d G.st).bind f) Q) :
    ∃ k, TruV p.K v H k ∧ PoV p W G σ (f k G.st) Q := by
  have e := tru_of (W := W) (Q := fun k H' => PoV p W G σ (f k G.st) Q) gd r (σ := σ) (by
    cases h : truD d G.st with
    | ok k s =>
      rw [h] at po
      intro G' b H' x e g rl
      cases rl
      have es : s = G.st := by
        unfold truD at h
        split at h <;> first | (cases h; rfl) | (split at h <;> first | (cases h; rfl) | cases h) | cases h
      subst es
      exact po
    | exc c ks xs s =>
      unfold truD at h
      split at h <;> first | cases h | (split at h <;> cases h)
    | bad => rw [h] at po; exact po)
  exact e
theorem qand (ha : PE X a (rd p W ga)) (hb : PE X (.BoolOp .And (b :: rest) pos) (rd p W gb)) (hK : X.K = p.K := by rfl) : PE X (.BoolOp .And (a :: b :: rest) pos) (rd p W (gAndV ga gb)) :=
  PE.imp (pe_andT ha hb) fun σ H Q ⟨G, ρ, gd, en, po⟩ => ⟨G, ρ, gd, en, (Po.bind po).imp fun v H1 ⟨G1, a, x1, gd1, r1, po1⟩ => by
    obtain ⟨k, t, po2⟩ := tru_po gd1 r1 po1
    refine ⟨k, by rw [hK]; exact t, ?_⟩
    cases k with
    | true => exact iteT ⟨G1, ρ, gd1, en.gx x1, po2⟩
    | false => exact iteF (Po.ret po2 GX.rfl' rfl gd1 r1)⟩
theorem qor (ha : PE X a (rd p W ga)) (hb : PE X (.BoolOp .Or (b :: rest) pos) (rd p W gb)) (hK : X.K = p.K := by rfl) : PE X (.BoolOp .Or (a :: b :: rest) pos) (rd p W (gOrV ga gb)) :=
  PE.imp (pe_orT ha hb) fun σ H Q ⟨G, ρ, gd, en, po⟩ => ⟨G, ρ, gd, en, (Po.bind po).imp fun v H1 ⟨G1, a, x1, gd1, r1, po1⟩ => by
    obtain ⟨k, t, po2⟩ := tru_po gd1 r1 po1
    refine ⟨k, by rw [hK]; exact t, ?_⟩
    cases k with
    | true => exact iteT (Po.ret po2 GX.rfl' rfl gd1 r1)
    | false => exact iteF ⟨G1, ρ, gd1, en.gx x1, po2⟩⟩
theorem qnot (ha : PE X a (rd p W ga)) (hK : X.K = p.K := by rfl) : PE X (.UnaryOp .Not a pos) (rd p W (gNotV ga)) :=
  PE.imp (pe_notT ha) fun σ H Q ⟨G, ρ, gd, en, po⟩ => ⟨G, ρ, gd, en, (Po.bind po).imp fun v H1 ⟨G1, a, x1, gd1, r1, po1⟩ => by
    obtain ⟨k, t, po2⟩ := tru_po gd1 r1 po1
    exact ⟨k, by rw [hK]; exact t, Po.ret po2 GX.rfl' rfl gd1 (.bl _)⟩⟩
@[simp] def gIf (tc : GB) (ga gb : GE) : GE := fun ρ s => (tc ρ s).bind fun k s1 => match k with
  | true => ga ρ s1
  | false => gb ρ s1
theorem qif {tc : GB} (hc : PT X c (rdB p W tc)) (ha : PE X a (rd p W ga)) (hb : PE X b (rd p W gb)) : PE X (.IfExp c a b pos) (rd p W (gIf tc ga gb)) :=
  PE.imp (pe_ifExp hc ha hb) fun σ H Q ⟨G, ρ, gd, en, po⟩ => ⟨G, ρ, gd, en, (Po.bind po).imp fun v H1 ⟨G1, a, x1, gd1, r1, po1⟩ => by
    cases r1
    cases v with
    | true => exact iteT ⟨G1, ρ, gd1, en.gx x1, po1⟩
    | false => exact iteF ⟨G1, ρ, gd1, en.gx x1, po1⟩⟩
end

/-! ### argument lists, displays -/
@[simp] def gNil : GL := fun _ s => .ok [] s
@[simp] def gCons (ga : GE) (gl : GL) : GL := fun ρ s => (ga ρ s).bind fun a s1 => (gl ρ s1).bind fun l s2 => .ok (a :: l) s2
section
variable {e : Expr} {es : List Expr} {ga : GE} {gl : GL} {pos : Pos}
theorem qnil : PA X [] (rdL p W gNil) := PA.imp pa_nil fun σ H Q ⟨G, ρ, gd, en, po⟩ => Po.ret po GX.rfl' rfl gd .nil
theorem qcons (ha : PE X e (rd p W ga)) (hl : PA X es (rdL p W gl)) (hs : starEach (e :: es) X.env = (false, eval e X.env) :: starEach es X.env := by rfl) : PA X (e :: es) (rdL p W (gCons ga gl)) :=
  PA.imp (pa_cons ha hl hs) fun σ H Q ⟨G, ρ, gd, en, po⟩ => ⟨G, ρ, gd, en, (Po.bind po).imp fun v H1 ⟨G1, a, x1, gd1, r1, po1⟩ =>
    ⟨G1, ρ, gd1, en.gx x1, (Po.bind po1).imp fun vs H2 ⟨G2, l, x2, gd2, r2, po2⟩ => Po.ret po2 GX.rfl' rfl gd2 (.cons (Rg.gx r1 x2) r2)⟩⟩
@[simp] def gTup (gl : GL) : GE := fun ρ s => (gl ρ s).bind fun l s1 => okIf (decide (l.length ≤ sizeLine)) (.tup l) s1
@[simp] def gLst (gl : GL) : GE := fun ρ s => (gl ρ s).bind fun l s1 => okIf (decide (l.length ≤ sizeLine)) (.lst l) s1
/-- a list that will be changed -/
@[simp] def gMut (gl : GL) : GE := fun ρ s => (gl ρ s).bind fun l s1 => okIf (decide (l.length ≤ sizeLine)) (.mr s1.length) (s1 ++ [some (.lst l)])
theorem okIf_ok {c : Bool} {d : DV} {s : Sto} {G : Gh} {σ : L2.St} {Q : VK} (h : PoV p W G σ (okIf c d s) Q) : c = true ∧ PoV p W G σ (.ok d s) Q := okIf_po h
theorem qtup {x1} (hl : PA X es (rdL p W gl)) : PE X (.Tuple es x1 pos) (rd p W (gTup gl)) :=
  PE.imp (pe_tup hl) fun σ H Q ⟨G, ρ, gd, en, po⟩ => ⟨G, ρ, gd, en, (Po.bind po).imp fun vs H1 ⟨G1, l, x1, gd1, r1, po1⟩ => by
    obtain ⟨c, po1⟩ := okIf_po po1
    exact ⟨by rw [← Rps.length r1]; exact of_decide_eq_true c, fun q hq => new_tup gd1 r1 po1 hq⟩⟩
theorem qlst (hl : PA X es (rdL p W gl)) : PE X (.List es pos) (rd p W (gLst gl)) :=
  PE.imp (pe_lst hl) fun σ H Q ⟨G, ρ, gd, en, po⟩ => ⟨G, ρ, gd, en, (Po.bind po).imp fun vs H1 ⟨G1, l, x1, gd1, r1, po1⟩ => by
    obtain ⟨c, po1⟩ := okIf_po po1
    exact ⟨by rw [← Rps.length r1]; exact of_decide_eq_true c, fun q hq => new_lst gd1 r1 po1 hq⟩⟩
theorem qmut (hl : PA X es (rdL p W gl)) : PE X (.List es pos) (rd p W (gMut gl)) :=
  PE.imp (pe_lst hl) fun σ H Q ⟨G, ρ, gd, en, po⟩ => ⟨G, ρ, gd, en, (Po.bind po).imp fun vs H1 ⟨G1, l, x1, gd1, r1, po1⟩ => by
    obtain ⟨c, po1⟩ := okIf_po po1
    exact ⟨by rw [← Rps.length r1]; exact of_decide_eq_true c, fun q hq => new_mut gd1 r1 po1 hq⟩⟩
end

/-! ### items and slices -/
def ixD (a i : DV) (s : Sto) : R DV := match i with
  | .int k => match a with
    | .str z => match decide (z.length ≤ sizeLine), atI z.cps.toList k with
      | true, some c => .ok (.str ⟨#[c]⟩) s
      | _, _ => .bad
    | a => match seqS s a with
      | some xs => match atI xs k with
        | some d => .ok d s
        | none => .bad
      | none => .bad
  | _ => .bad
theorem atI_of {F : Hp} {μ : List Addr} {ds : List DV} {vs : List V} {k : Int} {d : DV} (h : Rps p F μ ds vs) (e : atI ds k = some d) : ∃ v, atI vs k = some v ∧ Rp p F μ d v := by
  unfold atI at e ⊢
  rw [← h.length]
  cases q : ixN ds.length k with
  | none => rw [q] at e; cases e
  | some j =>
    rw [q] at e
    exact h.get (i := j) (by simpa using e)
theorem opd_ix (hK : X.K = p.K) : IxR X (rOp p W ixD) := fun value slice pins s σ H x y v u Q I rx ry ⟨G, a, i, σ', gd, ra, ri, po⟩ hs => by
  unfold ixD at po
  split at po
  · cases ri
    split at po
    · cases ra
      split at po
      · rename_i h1 h2
        exact ix_str value slice pins s σ H _ _ v u Q I rx ry ⟨_, _, _, rfl, rfl, of_decide_eq_true h1, h2, Po.ret po GX.rfl' rfl gd (.str _)⟩ hs
      · exact po.elim
    · split at po
      · rename_i xs e
        split at po
        · rename_i d ed
          obtain ⟨q, vs, rfl, hq, rs⟩ := seq_of gd ra e
          obtain ⟨w, ew, rw'⟩ := atI_of rs ed
          rcases hq with hq | hq
          · exact ix_list value slice pins s σ H _ _ v u Q I rx ry ⟨q, vs, _, w, rfl, rfl, by rw [hK]; exact hq, ew, Po.ret po GX.rfl' rfl gd rw'⟩ hs
          · exact ix_tup value slice pins s σ H _ _ v u Q I rx ry ⟨q, vs, _, w, rfl, rfl, by rw [hK]; exact hq, ew, Po.ret po GX.rfl' rfl gd rw'⟩ hs
        · exact po.elim
      · exact po.elim
  · exact po.elim
theorem qix {a b : Expr} {ga gb : GE} {pos : Pos} (ha : PE X a (rd p W ga)) (hb : PE X b (rd p W gb)) (hs : PlainIx b) (hK : X.K = p.K := by rfl) : PE X (.Subscript a b pos) (rd p W (gBin ixD ga gb)) :=
  PE.imp (pe_ix (opd_ix hK) ha hb hs) fun σ H Q h => two (fun _ _ _ z => z) (fun _ _ _ z => z) (fun x y H Q ⟨G, a, b, gd, r1, r2, po⟩ => ⟨G, a, b, σ, gd, r1, r2, po⟩) h
/-- a slice's part -/
abbrev GO := En → Sto → R (Option Int)
def gNo : GO := fun _ s => .ok none s
def gPart (g : GE) : GO := fun ρ s => (g ρ s).bind fun d s1 => match d with
  | .int i => .ok (some i) s1
  | _ => .bad
def rdO (p : Pg) (W : WX) (g : GO) : TO := fun σ H Q => ∃ G ρ, Gd p G H ∧ EnR p G ρ σ ∧ Po p (fun _ (a b : Option Int) => a = b) W G σ (g ρ G.st) Q
theorem PO.imp {e : Option Expr} {t t' : TO} (h : PO X e t) (k : ∀ σ H Q, t' σ H Q → t σ H Q) : PO X e t' := ⟨fun pins s σ H Q I q => h.run pins s σ H Q I (k σ H Q q)⟩
theorem qno : PO X none (rdO p W gNo) := PO.imp po_none fun σ H Q ⟨G, ρ, gd, en, po⟩ => Po.ret po GX.rfl' rfl gd rfl
theorem qpart {e : Expr} {g : GE} (h : PE X e (rd p W g)) : PO X (some e) (rdO p W (gPart g)) :=
  PO.imp (po_some h) fun σ H Q ⟨G, ρ, gd, en, po⟩ => ⟨G, ρ, gd, en, (Po.bind po).imp fun v H1 ⟨G1, a, x1, gd1, r1, po1⟩ => by
    split at po1
    · cases r1; exact ⟨_, rfl, Po.ret po1 GX.rfl' rfl gd1 rfl⟩
    · exact po1.elim⟩
def cutD (xs : List DV) (lo hi : Option Int) : List DV := (xs.drop (HT.sIx xs.length 0 lo)).take (HT.sIx xs.length xs.length hi - HT.sIx xs.length 0 lo)
def slD (a : DV) (lo hi : Option Int) (s : Sto) : R DV := match a with
  | .lst xs => .ok (.lst (cutD xs lo hi)) s
  | .wl xs => .ok (.lst (cutD xs lo hi)) s
  | .mr k => match s[k]? with
    | some (some (.lst xs)) => .ok (.lst (cutD xs lo hi)) s
    | _ => .bad
  | .tup xs => okIf (!(decide (HT.sIx xs.length 0 lo = 0) && decide (HT.sIx xs.length xs.length hi = xs.length))) (.tup (cutD xs lo hi)) s
  | .str z => okIf (decide (z.length ≤ sizeLine)) (.str (cutS z lo hi)) s
  | _ => .bad
theorem Rps.cut {F : Hp} {μ : List Addr} {ds : List DV} {vs : List V} (h : Rps p F μ ds vs) (lo hi : Option Int) : Rps p F μ (cutD ds lo hi) (cutV vs lo hi) := by
  unfold cutD cutV
  rw [h.length]
  exact (h.drop _).take _
def gSl (ga : GE) (gl gh : GO) : GE := fun ρ s => (ga ρ s).bind fun a s1 => (gl ρ s1).bind fun l s2 => (gh ρ s2).bind fun h s3 => slD a l h s3
def rSlD (p : Pg) (W : WX) : V → Option Int → Option Int → Hp → VK → Prop := fun x lo hi H Q => ∃ G a σ, Gd p G H ∧ Rp p G.F G.μ a x ∧ PoV p W G σ (slD a lo hi G.st) Q
theorem opd_sl (hK : X.K = p.K) : SlR X (rSlD p W) := fun pins s σ H x v vl vu lo hi sl Q I rx hs pl pu ⟨G, a, σ', gd, ra, po⟩ => by
  unfold slD at po
  split at po
  · cases ra with
    | lst e rs => exact sl_list pins s σ H _ v vl vu lo hi sl Q I rx hs pl pu ⟨_, _, rfl, SqL.of (gd.le _ _ e), fun q hq => new_lst gd (rs.cut lo hi) po hq⟩
  · cases ra with
    | wl e rs => exact sl_list pins s σ H _ v vl vu lo hi sl Q I rx hs pl pu ⟨_, _, rfl, by rw [hK]; exact sqL_up gd.le e, fun q hq => new_lst gd (rs.cut lo hi) po hq⟩
  · cases ra with
    | mr hm =>
      split at po
      · rename_i xs e
        obtain ⟨a, e1, e2, vs, e3, e4⟩ := gd.live _ _ e
        rw [hm] at e1; cases e1
        exact sl_list pins s σ H _ v vl vu lo hi sl Q I rx hs pl pu ⟨_, _, rfl, SqL.of e3, fun q hq => new_lst gd (e4.cut lo hi) po hq⟩
      · exact po.elim
  · cases ra with
    | tup e rs =>
      obtain ⟨c, po⟩ := okIf_po po
      refine sl_tup pins s σ H _ v vl vu lo hi sl Q I rx hs pl pu ⟨_, _, rfl, by rw [hK]; exact sqT_up gd.le e, ?_, fun q hq => new_tup gd (rs.cut lo hi) po hq⟩
      rw [← rs.length]
      intro z
      rw [decide_eq_true z.1, decide_eq_true z.2] at c
      exact nomatch c
  · cases ra
    obtain ⟨c, po⟩ := okIf_po po
    exact sl_str pins s σ H _ v vl vu lo hi sl Q I rx hs pl pu ⟨_, rfl, of_decide_eq_true c, Po.ret po GX.rfl' rfl gd (.str _)⟩
  · exact po.elim
theorem qsl {e : Expr} {lo hi : Option Expr} {pos p2 : Pos} {ga : GE} {gl gh : GO} (he : PE X e (rd p W ga)) (hl : PO X lo (rdO p W gl)) (hh : PO X hi (rdO p W gh)) (hK : X.K = p.K := by rfl) : PE X (.Subscript e (.Slice lo hi none p2) pos) (rd p W (gSl ga gl gh)) :=
  PE.imp (pe_slice (opd_sl hK) he hl hh) fun σ H Q ⟨G, ρ, gd, en, po⟩ => ⟨G, ρ, gd, en, (Po.bind po).imp fun v H1 ⟨G1, a, x1, gd1, r1, po1⟩ =>
    ⟨G1, ρ, gd1, en.gx x1, (Po.bind po1).imp fun l H2 ⟨G2, l', x2, gd2, r2, po2⟩ => ⟨G2, ρ, gd2, en.gx (x1.trans x2), (Po.bind po2).imp fun h H3 ⟨G3, h', x3, gd3, r3, po3⟩ => by
      cases r2; cases r3
      exact ⟨G3, a, σ, gd3, Rg.gx r1 (x2.trans x3), po3⟩⟩⟩⟩
/-- xs[::-1] -/
def revD (a : DV) (s : Sto) : R DV := match a with
  | .lst xs => .ok (.lst xs.reverse) s
  | .wl xs => .ok (.lst xs.reverse) s
  | .mr k => match s[k]? with
    | some (some (.lst xs)) => .ok (.lst xs.reverse) s
    | _ => .bad
  | _ => .bad
theorem qrev {e : Expr} {ga : GE} {k : Nat} {p1 p2 p3 pos : Pos} (he : PE X e (rd p W ga)) (hK : X.K = p.K := by rfl) : PE X (.Subscript e (.Slice none none (some (.UnaryOp .USub (.Constant (.int 1) k p1) p2)) p3) pos) (rd p W (gUn revD ga)) :=
  PE.imp (pe_revL he) fun σ H Q h => one (r := fun x H1 Q => ∃ a xs, x = V.ref a ∧ SqL X.K H1 a xs ∧ ∀ q, H1 q = none → Q (.ref q) (upd H1 q (.lst xs.reverse))) (fun _ _ _ z => z) (fun x H Q ⟨G, a, gd, ra, po⟩ => by
    unfold revD at po
    split at po
    · cases ra with
      | lst e rs => exact ⟨_, _, rfl, SqL.of (gd.le _ _ e), fun q hq => new_lst gd rs.rev po hq⟩
    · cases ra with
      | wl e rs => exact ⟨_, _, rfl, by rw [hK]; exact sqL_up gd.le e, fun q hq => new_lst gd rs.rev po hq⟩
    · cases ra with
      | mr hm =>
        split at po
        · rename_i xs e
          obtain ⟨a, e1, e2, vs, e3, e4⟩ := gd.live _ _ e
          rw [hm] at e1; cases e1
          exact ⟨_, _, rfl, SqL.of e3, fun q hq => new_lst gd e4.rev po hq⟩
        · exact po.elim
    · exact po.elim) h
end
end Dq

/-! Statements. -/
namespace Dq
open PySem PySem.Spec PyProof.Rows L2
section
variable {p : Pg} {X : Cx} {W : WX}

/-! ### plain ones -/
@[simp] def gExpr (ge : GE) : GS := fun ρ s => (ge ρ s).toS ρ fun _ s1 => .nx ρ s1
@[simp] def gRet (ge : GE) : GS := fun ρ s => (ge ρ s).toS ρ fun d s1 => .rt d s1
@[simp] def gRetN : GS := fun _ s => .rt .non s
@[simp] def gNext : GS := fun ρ s => .nx ρ s
def gBreak : GS := fun ρ s => .bk ρ s
def gCont : GS := fun ρ s => .ct ρ s
@[simp] def gSet (i : Nat) (ge : GE) : GS := fun ρ s => (ge ρ s).toS ρ fun d s1 => .nx (ρ.set i (some d)) s1
@[simp] def gSeq (a b : GS) : GS := fun ρ s => (a ρ s).seq b
@[simp] def gIfS (c : GB) (a b : GS) : GS := fun ρ s => (c ρ s).toS ρ fun k s1 => match k with
  | true => a ρ s1
  | false => b ρ s1
def gBad : GS := fun _ _ => .bad
section
variable {e : Expr} {st : Stmt} {rest : List Stmt} {ge : GE} {ga gb : GS} {gc : GB} {pos : Pos}
theorem sexpr (he : PE X e (rd p W ge)) (hs : swapsWith e none pos.line X.env = pure false := by rfl) : PS X (.Expr e pos) (rdS p W (gExpr ge)) :=
  PS.imp (ps_expr he hs) fun D σ H ⟨G, ρ, gd, en, po⟩ => ⟨G, ρ, gd, en, (PoS.of po en).imp fun v H1 ⟨G1, a, x1, gd1, r1, po1⟩ => po1 G1 σ H1 GX.rfl' rfl gd1 (en.gx x1)⟩
theorem sret (he : PE X e (rd p W ge)) : PS X (.Return (some e) pos) (rdS p W (gRet ge)) :=
  PS.imp (ps_ret he) fun D σ H ⟨G, ρ, gd, en, po⟩ => ⟨G, ρ, gd, en, (PoS.of po en).imp fun v H1 ⟨G1, a, x1, gd1, r1, po1⟩ => po1 G1 v H1 GX.rfl' rfl gd1 r1⟩
theorem sretN : PS X (.Return none pos) (rdS p W gRetN) :=
  PS.imp ps_retN fun D σ H ⟨G, ρ, gd, en, po⟩ => po G .non H GX.rfl' rfl gd .non
theorem spass : PS X (.Pass pos) (rdS p W gNext) := PS.imp ps_pass fun D σ H ⟨G, ρ, gd, en, po⟩ => po G σ H GX.rfl' rfl gd en
theorem sdoc {x j pos pos'} : PS X (.Expr (.Constant (.str x) j pos) pos') (rdS p W gNext) := PS.imp ps_doc fun D σ H ⟨G, ρ, gd, en, po⟩ => po G σ H GX.rfl' rfl gd en
theorem sbreak : PS X (.Break pos) (rdS p W gBreak) := PS.imp ps_break fun D σ H ⟨G, ρ, gd, en, po⟩ => po G σ H GX.rfl' rfl gd en
theorem scont : PS X (.Continue pos) (rdS p W gCont) := PS.imp ps_continue fun D σ H ⟨G, ρ, gd, en, po⟩ => po G σ H GX.rfl' rfl gd en
/-- a statement that is not reached -/
theorem snever : PS X st (rdS p W gBad) := PS.imp ps_never fun D σ H ⟨G, ρ, gd, en, po⟩ => po
theorem bnil : PSs X [] (rdS p W gNext) := PSs.imp pss_nil fun D σ H ⟨G, ρ, gd, en, po⟩ => po G σ H GX.rfl' rfl gd en
theorem bone (h : PS X st (rdS p W ga)) : PSs X [st] (rdS p W ga) := pss_one h
theorem bcons (h : PS X st (rdS p W ga)) (hr : PSs X rest (rdS p W gb)) : PSs X (st :: rest) (rdS p W (gSeq ga gb)) :=
  PSs.imp (pss_cons h hr) fun D σ H ⟨G, ρ, gd, en, po⟩ => ⟨G, ρ, gd, en, PoS.seq po⟩
theorem sset (i : Nat) {x : Str} {pos' : Pos} (hN : X.N.Nodup) (hx : Loc X.env.scope x) (he : PE X e (rd p W ge)) (hi : X.N[i]? = some x := by rfl) (hs : swapsWith e (some (.Name x pos')) pos.line X.env = pure false := by rfl) (hf : X.fn x = true ∨ X.env.scope.names.lookup x = some .local := by first | exact .inl rfl | exact .inr rfl) :
    PS X (.Assign [.Name x pos'] e pos) (rdS p W (gSet i ge)) :=
  PS.imp (ps_set (i := i) hN hi hx he hs hf) fun D σ H ⟨G, ρ, gd, en, po⟩ => ⟨G, ρ, gd, en, (PoS.of po en).imp fun v H1 ⟨G1, a, x1, gd1, r1, po1⟩ => po1 G1 _ H1 GX.rfl' rfl gd1 ((en.gx x1).set r1 i)⟩
theorem sif {c : Expr} {a b : List Stmt} (hc : PT X c (rdB p W gc)) (ha : PSs X a (rdS p W ga)) (hb : PSs X b (rdS p W gb)) : PS X (.If c a b pos) (rdS p W (gIfS gc ga gb)) :=
  PS.imp (ps_if hc ha hb) fun D σ H ⟨G, ρ, gd, en, po⟩ => ⟨G, ρ, gd, en, (PoS.of po en).imp fun v H1 ⟨G1, a, x1, gd1, r1, po1⟩ => by
    cases r1
    cases v with
    | true => exact iteT ⟨G1, ρ, gd1, en.gx x1, po1⟩
    | false => exact iteF ⟨G1, ρ, gd1, en.gx x1, po1⟩⟩
end

/-! ### targets -/
abbrev GTg := DV → En → Option En
abbrev GTs := List DV → En → Option En
@[simp] def tN (i : Nat) : GTg := fun d ρ => some (ρ.set i (some d))
@[simp] def tNil : GTs := fun ds ρ => match ds with
  | [] => some ρ
  | _ => none
@[simp] def tCons (t : GTg) (ts : GTs) : GTs := fun ds ρ => match ds with
  | d :: r => (t d ρ).bind fun ρ1 => ts r ρ1
  | [] => none
@[simp] def tTup (n : Nat) (ts : GTs) : GTg := fun d ρ => match d with
  | .tup xs => match decide (xs.length = n) with
    | true => ts xs ρ
    | false => none
  | _ => none
def PoT (p : Pg) (G : Gh) (H : Hp) (Q : L2.St → Hp → Prop) : Option En → Prop
  | some ρ => ∀ σ', EnR p G ρ σ' → Q σ' H
  | none => False
def rdG (p : Pg) (g : GTg) : TG := fun v σ H Q => ∃ G ρ d, Gd p G H ∧ EnR p G ρ σ ∧ Rp p G.F G.μ d v ∧ PoT p G H Q (g d ρ)
def rdGs (p : Pg) (g : GTs) : TGs := fun vs σ H Q => ∃ G ρ ds, Gd p G H ∧ EnR p G ρ σ ∧ Rps p G.F G.μ ds vs ∧ PoT p G H Q (g ds ρ)
theorem PG.imp {e : Expr} {t t' : TG} (h : PG X e t) (k : ∀ v σ H Q, t' v σ H Q → t v σ H Q) : PG X e t' := ⟨fun pins s σ H v u Q I r q => h.run pins s σ H v u Q I r (k v σ H Q q)⟩
theorem PGs.imp {e : List Expr} {t t' : TGs} (h : PGs X e t) (k : ∀ v σ H Q, t' v σ H Q → t v σ H Q) : PGs X e t' := ⟨fun pins s σ H v u Q I r q => h.run pins s σ H v u Q I r (k v σ H Q q)⟩
theorem gname (i : Nat) {x : Str} {pos : Pos} (hN : X.N.Nodup) (hx : Loc X.env.scope x) (hi : X.N[i]? = some x := by rfl) (hf : X.fn x = true ∨ X.env.scope.names.lookup x = some .local := by first | exact .inl rfl | exact .inr rfl) : PG X (.Name x pos) (rdG p (tN i)) :=
  PG.imp (pg_name (i := i) hN hi hx hf) fun v σ H Q ⟨G, ρ, d, gd, en, r, po⟩ => po _ (en.set r i)
theorem gnil : PGs X [] (rdGs p tNil) := PGs.imp pgs_nil fun vs σ H Q ⟨G, ρ, ds, gd, en, r, po⟩ => by
  cases r with
  | nil => exact ⟨rfl, po σ en⟩
  | cons _ _ => exact po.elim
theorem gcons {e : Expr} {es : List Expr} {t : GTg} {ts : GTs} (h : PG X e (rdG p t)) (hr : PGs X es (rdGs p ts)) (hs : (assignEach (e :: es) X.env).map (·.2) = assign e X.env :: (assignEach es X.env).map (·.2) := by rfl) : PGs X (e :: es) (rdGs p (tCons t ts)) :=
  PGs.imp (pgs_cons h hr hs) fun vs σ H Q ⟨G, ρ, ds, gd, en, r, po⟩ => by
    cases r with
    | nil => exact po.elim
    | @cons d v ds' vs' r1 r2 =>
      refine ⟨v, vs', rfl, G, ρ, d, gd, en, r1, ?_⟩
      have po : PoT p G H Q ((t d ρ).bind fun ρ1 => ts ds' ρ1) := po
      cases e1 : t d ρ with
      | none => rw [e1] at po; exact po
      | some ρ1 =>
        rw [e1] at po
        exact fun σ' en' => ⟨G, ρ1, ds', gd, en', r2, po⟩
theorem gtup {es : List Expr} {k : Nat} {pos : Pos} {ts : GTs} {n : Nat} (hc : X.calm = true) (h : PGs X es (rdGs p ts)) (hK : X.K = p.K := by rfl)
    (hn : (assignEach es X.env).length = n := by rfl) (hst : (assignEach es X.env).findIdx? (·.1) = none := by rfl) : PG X (.Tuple es k pos) (rdG p (tTup n ts)) :=
  PG.imp (pg_tup hc h hn hst) fun v σ H Q ⟨G, ρ, d, gd, en, r, po⟩ => by
    unfold tTup at po
    split at po
    · cases r with
      | tup e rs =>
        split at po
        · rename_i c
          exact ⟨_, _, rfl, by rw [hK]; exact sqT_up gd.le e, by rw [← rs.length]; exact of_decide_eq_true c, G, ρ, _, gd, en, rs, po⟩
        · exact po.elim
    · exact po.elim
@[simp] def gAsg (ge : GE) (t : GTg) : GS := fun ρ s => (ge ρ s).toS ρ fun d s1 => match t d ρ with
  | some ρ' => .nx ρ' s1
  | none => .bad
theorem PoT.of {G : Gh} {H : Hp} {D : Ends} {o : Option En} (gd : Gd p G H) (h : PoS p W G D (match o with | some ρ' => RS.nx ρ' G.st | none => .bad)) : PoT p G H D.nx o := by
  cases o with
  | none => exact h
  | some ρ' => exact fun σ' en' => h G σ' H GX.rfl' rfl gd en'
theorem sasg {tg e : Expr} {ge : GE} {t : GTg} {pos : Pos} (he : PE X e (rd p W ge)) (hg : PG X tg (rdG p t)) (hs : swapsWithSole [tg] e pos.line X.env = pure false := by rfl) (hw : swappedStores [tg] e X.env = pure none := by rfl)
    (h1 : (assignEach [tg] X.env).map (·.2) = [assign tg X.env] := by rfl) : PS X (.Assign [tg] e pos) (rdS p W (gAsg ge t)) :=
  PS.imp (ps_asg he hg hs hw h1) fun D σ H ⟨G, ρ, gd, en, po⟩ => ⟨G, ρ, gd, en, (PoS.of po en).imp fun v H1 ⟨G1, a, x1, gd1, r1, po1⟩ =>
    ⟨G1, ρ, a, gd1, en.gx x1, r1, PoT.of gd1 po1⟩⟩
/-- a, b = x, y -/
@[simp] def gPar (i j : Nat) (gl : GL) : GS := fun ρ s => (gl ρ s).toS ρ fun ds s1 => match ds with
  | [d, e] => .nx ((ρ.set i (some d)).set j (some e)) s1
  | _ => .bad
theorem spar {i j : Nat} {x y : Str} {a b : Expr} {gl : GL} {px py pt pos : Pos} {kt k2 pt2} (hc : X.calm = true) (hN : X.N.Nodup) (hi : X.N[i]? = some x) (hj : X.N[j]? = some y) (hij : i ≠ j)
    (hx : X.env.scope.names.lookup x = some .local) (hy : X.env.scope.names.lookup y = some .local) (ha : PA X [a, b] (rdL p W gl))
    (hw : swappedStores [.Tuple [.Name x px, .Name y py] kt pt] (.Tuple [a, b] k2 pt2) X.env = pure (some [x, y]))
    (hs : swapsWithSole [.Tuple [.Name x px, .Name y py] kt pt] (.Tuple [a, b] k2 pt2) pos.line X.env = pure false := by rfl) :
    PS X (.Assign [.Tuple [.Name x px, .Name y py] kt pt] (.Tuple [a, b] k2 pt2) pos) (rdS p W (gPar i j gl)) :=
  PS.imp (ps_par (i := i) (j := j) hc hN hi hj hij hx hy ha hw hs) fun D σ H ⟨G, ρ, gd, en, po⟩ => ⟨G, ρ, gd, en, (PoS.of po en).imp fun vs H1 ⟨G1, l, x1, gd1, r1, po1⟩ => by
    split at po1
    · cases r1 with
      | cons r1 r2 =>
        cases r2 with
        | cons r2 r3 =>
          cases r3
          exact ⟨_, _, rfl, po1 G1 _ H1 GX.rfl' rfl gd1 (((en.gx x1).set r1 i).set r2 j)⟩
    · exact po1.elim⟩

/-! ### loops -/
def forR (b : DV → GS) : List DV → GS
  | [], ρ, s => .nx ρ s
  | d :: ds, ρ, s => match b d ρ s with
    | .nx ρ' s' => forR b ds ρ' s'
    | .ct ρ' s' => forR b ds ρ' s'
    | .bk ρ' s' => .nx ρ' s'
    | r => r
def turn (t : GTg) (gb : GS) : DV → GS := fun d ρ s => match t d ρ with
  | some ρ1 => gb ρ1 s
  | none => .bad
@[simp] def seqT : DV → Option (List DV)
  | .lst xs => some xs
  | .wl xs => some xs
  | .tup xs => some xs
  | _ => none
@[simp] def gForS (ge : GE) (t : GTg) (gb : GS) : GS := fun ρ s => (ge ρ s).toS ρ fun d s1 => match seqT d with
  | some xs => forR (turn t gb) xs ρ s1
  | none => .bad
/-- what the turns of a for keep -/
def ForI (p : Pg) (W : WX) (D : Ends) (G0 : Gh) (b : DV → GS) (xs : List DV) (σ : L2.St) (H : Hp) : Prop :=
  ∃ G ρ, GX G0 G ∧ Gd p G H ∧ EnR p G ρ σ ∧ PoS p W G D (forR b xs ρ G.st)
theorem forI_body {D : Ends} {G : Gh} {b : DV → GS} {d : DV} {ds : List DV} {ρ : En} (po : PoS p W G D (forR b (d :: ds) ρ G.st)) {N : L2.St → Hp → Prop} (hN : ∀ σ' H', ForI p W D G b ds σ' H' → N σ' H') :
    PoS p W G { D with nx := N, ct := N, bk := D.nx } (b d ρ G.st) := by
  unfold forR at po
  cases e : b d ρ G.st with
  | nx ρ' s' => rw [e] at po; exact fun G2 σ2 H2 x2 e2 gd en => hN _ _ ⟨G2, ρ', x2, gd, en, by rw [e2]; exact PoS.gx po x2⟩
  | ct ρ' s' => rw [e] at po; exact fun G2 σ2 H2 x2 e2 gd en => hN _ _ ⟨G2, ρ', x2, gd, en, by rw [e2]; exact PoS.gx po x2⟩
  | bk ρ' s' => rw [e] at po; exact po
  | rt d' s' => rw [e] at po; exact po
  | exc c ks xs ρ' s' => rw [e] at po; exact po
  | bad => rw [e] at po; exact po
theorem turn_of {D : Ends} {G : Gh} {t : GTg} {gb : GS} {d : DV} {ρ : En} {v : V} {σ : L2.St} {H : Hp} (gd : Gd p G H) (en : EnR p G ρ σ) (r : Rp p G.F G.μ d v) (po : PoS p W G D (turn t gb d ρ G.st)) :
    rdG p t v σ H fun σ2 H2 => rdS p W gb D σ2 H2 := by
  refine ⟨G, ρ, d, gd, en, r, ?_⟩
  unfold turn at po
  cases e : t d ρ with
  | none => rw [e] at po; exact po
  | some ρ1 => rw [e] at po; exact fun σ' en' => ⟨G, ρ1, gd, en', po⟩
section
variable {iter tg : Expr} {body : List Stmt} {ge : GE} {t : GTg} {gb : GS} {pos : Pos}
theorem PI.or {e : Expr} {w w' : TI} (h : PI X tg e w) (h' : PI X tg e w') : PI X tg e (fun σ H R => w σ H R ∨ w' σ H R) :=
  ⟨fun pins s σ H R I q => q.elim (h.run pins s σ H R I) (h'.run pins s σ H R I)⟩
theorem sfor (hp : PassesOwn (model X.prog X.w) X.A X.env X.xe) (hc : X.calm = true) (hi : PE X iter (rd p W ge)) (hg : PG X tg (rdG p t)) (hb : PSs X body (rdS p W gb)) (hK : X.K = p.K := by rfl)
    (hs : ∀ x, foldedSetIterable iter X.env x = pure x := by intro _; rfl) : PS X (.For tg iter body [] pos) (rdS p W (gForS ge t gb)) := by
  refine PS.imp (ps_for hp hc (PI.or (pi_list hi) (pi_tup hi)) hg hb hs) fun D σ H ⟨G, ρ, gd, en, po⟩ => ?_
  have bd : ∀ {xs : List DV} {vs : List V} {G1 : Gh} {H1 : Hp} {a : Addr}, GX G G1 → Gd p G1 H1 → Rps p G1.F G1.μ xs vs → PoS p W G1 D (forR (turn t gb) xs ρ G1.st) →
      ∀ (i : Nat) (x : V) (σ : L2.St) (H : Hp), vs[i]? = some x → ForI p W D G1 (turn t gb) (xs.drop i) σ H →
        rdG p t x σ H fun σ2 H2 => rdS p W gb { D with nx := ForI p W D G1 (turn t gb) (xs.drop (i + 1)), ct := ForI p W D G1 (turn t gb) (xs.drop (i + 1)), bk := D.nx } σ2 H2 := by
    intro xs vs G1 H1 a x1 gd1 rs po1 i x σ2 H2 hx ⟨G2, ρ2, x2, gd2, en2, po2⟩
    obtain ⟨d, hd, rd⟩ := rs.get' hx
    have e : xs.drop i = d :: xs.drop (i + 1) := by
      obtain ⟨lt, e⟩ := List.getElem?_eq_some_iff.mp hd
      rw [List.drop_eq_getElem_cons lt, e]
    rw [e] at po2
    refine turn_of gd2 en2 (Rg.gx rd x2) (forI_body po2 fun σ3 H3 ⟨G3, ρ3, x3, gd3, en3, po3⟩ => ⟨G3, ρ3, x2.trans x3, gd3, en3, po3⟩)
  have key : rd p W ge σ H fun v H1 => ∃ G1 d, GX G G1 ∧ Gd p G1 H1 ∧ Rp p G1.F G1.μ d v ∧ PoS p W G1 D (match seqT d with
      | some xs => forR (turn t gb) xs ρ G1.st
      | none => .bad) := ⟨G, ρ, gd, en, PoS.of po en⟩
  -- list or tuple: by the value at hand
  cases hr : ge ρ G.st with
  | bad => unfold gForS at po; rw [hr] at po; exact po.elim
  | exc c ks xs s =>
    refine .inl ⟨G, ρ, gd, en, ?_⟩
    unfold gForS at po
    rw [hr] at po ⊢
    exact fun G2 H2 d fs x2 e2 g2 k2 q2 r2 => po G2 σ H2 d fs x2 e2 g2 (en.gx x2) k2 q2 r2
  | ok d s =>
    unfold gForS at po
    rw [hr, R.toS_ok] at po
    cases hq : seqT d with
    | none => rw [hq] at po; exact po.elim
    | some xs =>
      rw [hq] at po
      have po : PoS p W G D (forR (turn t gb) xs ρ s) := po
      have hd : d = .lst xs ∨ d = .wl xs ∨ d = .tup xs := by
        cases d <;> first | cases hq <;> simp | cases hq
      rcases hd with rfl | rfl | rfl
      · refine .inl ⟨G, ρ, gd, en, ?_⟩
        rw [hr]
        intro G1 v H1 x1 e1 gd1 r1
        subst e1
        cases r1 with
        | lst a rs =>
          have po1 := PoS.gx po x1
          refine ⟨_, rfl, ⟨_, SqL.of (gd1.le _ _ a)⟩, for_list (xs := _) (fun i σ' H' => ForI p W D G1 (turn t gb) (xs.drop i) σ' H') ⟨G1, ρ, GX.rfl', gd1, en.gx x1, po1⟩ (fun i σ' H' _ ⟨G2, _, x2, gd2, _⟩ => SqL.of (gd2.le _ _ (x2.f _ _ a))) (bd (a := 0) x1 gd1 rs po1) fun σ' H' ⟨G2, ρ2, x2, gd2, en2, po2⟩ => ?_⟩
          rw [← rs.length, List.drop_length] at po2
          exact po2 G2 σ' H' GX.rfl' rfl gd2 en2
      · refine .inl ⟨G, ρ, gd, en, ?_⟩
        rw [hr]
        intro G1 v H1 x1 e1 gd1 r1
        subst e1
        cases r1 with
        | wl a rs =>
          have po1 := PoS.gx po x1
          refine ⟨_, rfl, ⟨_, by rw [hK]; exact sqL_up gd1.le a⟩, for_list (xs := _) (fun i σ' H' => ForI p W D G1 (turn t gb) (xs.drop i) σ' H') ⟨G1, ρ, GX.rfl', gd1, en.gx x1, po1⟩ (fun i σ' H' _ ⟨G2, _, x2, gd2, _⟩ => by rw [hK]; exact sqL_up gd2.le (sqL_up x2.f a)) (bd (a := 0) x1 gd1 rs po1) fun σ' H' ⟨G2, ρ2, x2, gd2, en2, po2⟩ => ?_⟩
          rw [← rs.length, List.drop_length] at po2
          exact po2 G2 σ' H' GX.rfl' rfl gd2 en2
      · refine .inr ⟨G, ρ, gd, en, ?_⟩
        rw [hr]
        intro G1 v H1 x1 e1 gd1 r1
        subst e1
        cases r1 with
        | tup a rs =>
          have po1 := PoS.gx po x1
          refine ⟨_, rfl, ⟨_, by rw [hK]; exact sqT_up gd1.le a⟩, for_tup (xs := _) (fun i σ' H' => ForI p W D G1 (turn t gb) (xs.drop i) σ' H') ⟨G1, ρ, GX.rfl', gd1, en.gx x1, po1⟩ (fun i σ' H' _ ⟨G2, _, x2, gd2, _⟩ => by rw [hK]; exact sqT_up gd2.le (sqT_up x2.f a)) (bd (a := 0) x1 gd1 rs po1) fun σ' H' ⟨G2, ρ2, x2, gd2, en2, po2⟩ => ?_⟩
          rw [← rs.length, List.drop_length] at po2
          exact po2 G2 σ' H' GX.rfl' rfl gd2 en2
/-- for x in range(..) -/
def rangeI (lo : Int) (n : Nat) : List DV := (List.range n).map fun (i : Nat) => DV.int (lo + i)
def rng1 : List DV → Option (Int × Nat)
  | [.int j] => match decide (-(2 ^ 62) ≤ j ∧ j < 2 ^ 62) with
    | true => some (0, j.toNat)
    | false => none
  | _ => none
def rng2 : List DV → Option (Int × Nat)
  | [.int i, .int j] => match decide (-(2 ^ 62) ≤ i ∧ i < 2 ^ 62 ∧ -(2 ^ 62) ≤ j ∧ j < 2 ^ 62) with
    | true => some (i, (j - i).toNat)
    | false => none
  | _ => none
@[simp] def gForR (f : List DV → Option (Int × Nat)) (gl : GL) (t : GTg) (gb : GS) : GS := fun ρ s => (gl ρ s).toS ρ fun l s1 => match f l with
  | some q => forR (turn t gb) (rangeI q.1 q.2) ρ s1
  | none => .bad
theorem rangeI_at {lo : Int} {n i : Nat} (h : i < n) : (rangeI lo n).drop i = .int (lo + i) :: (rangeI lo n).drop (i + 1) := by
  have lt : i < (rangeI lo n).length := by unfold rangeI; simpa using h
  rw [List.drop_eq_getElem_cons lt]
  congr 1
  simp [rangeI]
theorem for_rng {D : Ends} {G1 : Gh} {H1 : Hp} {ρ : En} {σ : L2.St} {lo : Int} {n : Nat} (gd1 : Gd p G1 H1) (en : EnR p G1 ρ σ) (po1 : PoS p W G1 D (forR (turn t gb) (rangeI lo n) ρ G1.st)) :
    ∃ W' : Nat → Nat → L2.St → Hp → Prop, (∃ m, W' 0 m σ H1) ∧ ∀ i m σ H, W' i m σ H →
      ((Itr lo n).stop i H ∧ D.nx σ H) ∨ ((Itr lo n).go i H ∧ ∃ N : L2.St → Hp → Prop, (∀ σ' H', N σ' H' → ∃ m', m' < m ∧ W' (i + 1) m' σ' H') ∧ ∀ x H', (Itr lo n).yld i H x H' → rdG p t x σ H' fun σ2 H2 => rdS p W gb { D with nx := N, ct := N, bk := D.nx } σ2 H2) := by
  refine for_range (fun i σ' H' => ForI p W D G1 (turn t gb) ((rangeI lo n).drop i) σ' H') ⟨G1, ρ, GX.rfl', gd1, en, po1⟩ ?_ ?_
  · intro i σ2 H2 hi ⟨G2, ρ2, x2, gd2, en2, po2⟩
    rw [rangeI_at hi] at po2
    exact turn_of gd2 en2 (.int _) (forI_body po2 fun σ3 H3 ⟨G3, ρ3, x3, gd3, en3, po3⟩ => ⟨G3, ρ3, x2.trans x3, gd3, en3, po3⟩)
  · intro σ' H' ⟨G2, ρ2, x2, gd2, en2, po2⟩
    have e : (rangeI lo n).drop n = [] := by
      apply List.drop_eq_nil_of_le
      simp [rangeI]
    rw [e] at po2
    exact po2 G2 σ' H' GX.rfl' rfl gd2 en2
theorem sforR1 {a : Expr} {gl : GL} {p1 pos1 : Pos} (hp : PassesOwn (model X.prog X.w) X.A X.env X.xe) (hc : X.calm = true) (hgl : Gl X "range") (hm : X.mg "range" = none) (ha : PA X [a] (rdL p W gl)) (hg : PG X tg (rdG p t)) (hb : PSs X body (rdS p W gb))
    (hse : starEach [a] X.env = [(false, eval a X.env)] := by rfl) (hs : ∀ x, foldedSetIterable (.Call (.Name "range" p1) [a] [] pos1) X.env x = pure x := by intro _; rfl) : PS X (.For tg (.Call (.Name "range" p1) [a] [] pos1) body [] pos) (rdS p W (gForR rng1 gl t gb)) :=
  PS.imp (ps_for hp hc (pi_range1 hgl hm ha hse) hg hb hs) fun D σ H ⟨G, ρ, gd, en, po⟩ => ⟨G, ρ, gd, en, (PoS.of po en).imp fun vs H1 ⟨G1, l, x1, gd1, r1, po1⟩ => by
    split at po1
    · rename_i q h
      unfold rng1 at h
      split at h
      · split at h
        · rename_i c
          cases h
          cases r1 with
          | cons r1 r2 =>
            cases r2; cases r1
            have c := of_decide_eq_true c
            exact ⟨_, rfl, c.1, c.2, for_rng gd1 (en.gx x1) po1⟩
        · cases h
      · cases h
    · exact po1.elim⟩
theorem sforR2 {a b : Expr} {gl : GL} {p1 pos1 : Pos} (hp : PassesOwn (model X.prog X.w) X.A X.env X.xe) (hc : X.calm = true) (hgl : Gl X "range") (hm : X.mg "range" = none) (ha : PA X [a, b] (rdL p W gl)) (hg : PG X tg (rdG p t)) (hb : PSs X body (rdS p W gb))
    (hse : starEach [a, b] X.env = [(false, eval a X.env), (false, eval b X.env)] := by rfl) (hse2 : starEach [b] X.env = [(false, eval b X.env)] := by rfl) (hs : ∀ x, foldedSetIterable (.Call (.Name "range" p1) [a, b] [] pos1) X.env x = pure x := by intro _; rfl) :
    PS X (.For tg (.Call (.Name "range" p1) [a, b] [] pos1) body [] pos) (rdS p W (gForR rng2 gl t gb)) :=
  PS.imp (ps_for hp hc (pi_range2 hgl hm ha hse hse2) hg hb hs) fun D σ H ⟨G, ρ, gd, en, po⟩ => ⟨G, ρ, gd, en, (PoS.of po en).imp fun vs H1 ⟨G1, l, x1, gd1, r1, po1⟩ => by
    split at po1
    · rename_i q h
      unfold rng2 at h
      split at h
      · split at h
        · rename_i c
          cases h
          cases r1 with
          | cons r1 r2 =>
            cases r2 with
            | cons r2 r3 =>
              cases r3; cases r1; cases r2
              have c := of_decide_eq_true c
              exact ⟨_, _, rfl, c, for_rng gd1 (en.gx x1) po1⟩
        · cases h
      · cases h
    · exact po1.elim⟩
/-! ### while, with fuel -/
def whR (gc : GB) (gb : GS) : Nat → GS
  | 0 => fun _ _ => .bad
  | n + 1 => fun ρ s => (gc ρ s).toS ρ fun k s1 => match k with
    | true => match gb ρ s1 with
      | .nx ρ' s' => whR gc gb n ρ' s'
      | .ct ρ' s' => whR gc gb n ρ' s'
      | .bk ρ' s' => .nx ρ' s'
      | r => r
    | false => .nx ρ s1
theorem swhile {c : Expr} {gc : GB} (L : Nat) (hp : PassesOwn (model X.prog X.w) X.A X.env X.xe) (hcd : PT X c (rdB p W gc)) (hb : PSs X body (rdS p W gb)) : PS X (.While c body [] pos) (rdS p W (whR gc gb L)) :=
  PS.imp (ps_while hp hcd hb) fun D σ H ⟨G, ρ, gd, en, po⟩ => by
    refine ⟨fun m σ' H' => ∃ G' ρ', GX G G' ∧ Gd p G' H' ∧ EnR p G' ρ' σ' ∧ PoS p W G' D (whR gc gb m ρ' G'.st), ⟨L, G, ρ, GX.rfl', gd, en, po⟩, ?_⟩
    intro m σ1 H1 ⟨G1, ρ1, x1, gd1, en1, po1⟩
    cases m with
    | zero => exact po1.elim
    | succ n =>
      unfold whR at po1
      refine ⟨G1, ρ1, gd1, en1, (PoS.of po1 en1).imp fun k H2 ⟨G2, a, x2, gd2, r2, po2⟩ => ?_⟩
      cases r2
      cases k with
      | false => exact iteF (po2 G2 σ1 H2 GX.rfl' rfl gd2 (en1.gx x2))
      | true =>
        refine iteT ⟨fun σ' H' => ∃ G' ρ', GX G G' ∧ Gd p G' H' ∧ EnR p G' ρ' σ' ∧ PoS p W G' D (whR gc gb n ρ' G'.st), fun σ' H' q => ⟨n, Nat.lt_succ_self n, q⟩, G2, ρ1, gd2, en1.gx x2, ?_⟩
        cases e : gb ρ1 G2.st with
        | nx ρ' s' => simp only [e] at po2; exact fun G3 σ3 H3 x3 e3 gd3 en3 => ⟨G3, ρ', x1.trans (x2.trans x3), gd3, en3, by rw [e3]; exact PoS.gx po2 x3⟩
        | ct ρ' s' => simp only [e] at po2; exact fun G3 σ3 H3 x3 e3 gd3 en3 => ⟨G3, ρ', x1.trans (x2.trans x3), gd3, en3, by rw [e3]; exact PoS.gx po2 x3⟩
        | bk ρ' s' => simp only [e] at po2; exact po2
        | rt d' s' => simp only [e] at po2; exact po2
        | exc c ks xs ρ' s' => simp only [e] at po2; exact po2
        | bad => simp only [e] at po2; exact po2
end
end
end Dq

/-! Defs: what is kept behind a call. -/
namespace Dq
open PySem PySem.Spec PyProof.Rows L2

/-! ### equality and reach of data, as reckoned -/
mutual
def beqD : DV → DV → Bool
  | .non, .non => true
  | .bl a, .bl b => a == b
  | .int a, .int b => a == b
  | .str a, .str b => decide (a = b)
  | .lst a, .lst b => beqDs a b
  | .wl a, .wl b => beqDs a b
  | .tup a, .tup b => beqDs a b
  | .ins c ks xs, .ins d js ys => c == d && (ks == js && beqDs xs ys)
  | .mr a, .mr b => a == b
  | _, _ => false
def beqDs : List DV → List DV → Bool
  | [], [] => true
  | a :: as, b :: bs => beqD a b && beqDs as bs
  | _, _ => false
end
mutual
theorem beqD_eq : ∀ (a b : DV), beqD a b = true → a = b
  | .non, b, h => by cases b <;> first | rfl | (unfold beqD at h; exact nomatch h)
  | .bl x, b, h => by cases b <;> first | (unfold beqD at h; rw [eq_of_beq h]) | (unfold beqD at h; exact nomatch h)
  | .int x, b, h => by cases b <;> first | (unfold beqD at h; rw [eq_of_beq h]) | (unfold beqD at h; exact nomatch h)
  | .str x, b, h => by cases b <;> first | (unfold beqD at h; rw [of_decide_eq_true h]) | (unfold beqD at h; exact nomatch h)
  | .lst x, b, h => by cases b <;> first | (unfold beqD at h; rw [beqDs_eq _ _ h]) | (unfold beqD at h; exact nomatch h)
  | .wl x, b, h => by cases b <;> first | (unfold beqD at h; rw [beqDs_eq _ _ h]) | (unfold beqD at h; exact nomatch h)
  | .tup x, b, h => by cases b <;> first | (unfold beqD at h; rw [beqDs_eq _ _ h]) | (unfold beqD at h; exact nomatch h)
  | .ins c ks xs, b, h => by
    cases b <;> first
    | (unfold beqD at h
       rw [Bool.and_eq_true, Bool.and_eq_true] at h
       rw [eq_of_beq h.1, eq_of_beq h.2.1, beqDs_eq _ _ h.2.2])
    | (unfold beqD at h; exact nomatch h)
  | .mr x, b, h => by cases b <;> first | (unfold beqD at h; rw [eq_of_beq h]) | (unfold beqD at h; exact nomatch h)
theorem beqDs_eq : ∀ (a b : List DV), beqDs a b = true → a = b
  | [], [], _ => rfl
  | [], _ :: _, h => by unfold beqDs at h; exact nomatch h
  | _ :: _, [], h => by unfold beqDs at h; exact nomatch h
  | a :: as, b :: bs, h => by
    unfold beqDs at h
    rw [Bool.and_eq_true] at h
    rw [beqD_eq _ _ h.1, beqDs_eq _ _ h.2]
end
mutual
theorem beqD_rfl : ∀ (a : DV), beqD a a = true
  | .non => by unfold beqD; rfl
  | .bl x => by unfold beqD; exact beq_self_eq_true x
  | .int x => by unfold beqD; exact beq_self_eq_true x
  | .str x => by unfold beqD; exact decide_eq_true rfl
  | .lst x => by unfold beqD; exact beqDs_rfl x
  | .wl x => by unfold beqD; exact beqDs_rfl x
  | .tup x => by unfold beqD; exact beqDs_rfl x
  | .ins c ks xs => by unfold beqD; rw [beq_self_eq_true, beq_self_eq_true, beqDs_rfl xs]; rfl
  | .mr x => by unfold beqD; exact beq_self_eq_true x
theorem beqDs_rfl : ∀ (a : List DV), beqDs a a = true
  | [] => by unfold beqDs; rfl
  | a :: as => by unfold beqDs; rw [beqD_rfl a, beqDs_rfl as]; rfl
end
def beqO : Option MO → Option MO → Bool
  | none, none => true
  | some (.lst a), some (.lst b) => beqDs a b
  | some (.ins c ks xs), some (.ins d js ys) => c == d && (ks == js && beqDs xs ys)
  | _, _ => false
theorem beqO_eq {a b : Option MO} (h : beqO a b = true) : a = b := by
  unfold beqO at h
  split at h
  · rfl
  · rw [beqDs_eq _ _ h]
  · rw [Bool.and_eq_true, Bool.and_eq_true] at h
    rw [eq_of_beq h.1, eq_of_beq h.2.1, beqDs_eq _ _ h.2.2]
  · exact nomatch h
theorem beqO_rfl (a : Option MO) : beqO a a = true := by
  cases a with
  | none => rfl
  | some m => cases m with
    | lst x => exact beqDs_rfl x
    | ins c ks xs =>
      show (c == c && (ks == ks && beqDs xs xs)) = true
      rw [beq_self_eq_true, beq_self_eq_true, beqDs_rfl xs]; rfl
/-- the two stores are the same -/
def sameS : Sto → Sto → Bool
  | [], [] => true
  | a :: as, b :: bs => beqO a b && sameS as bs
  | _, _ => false
theorem sameS_eq : ∀ {a b : Sto}, sameS a b = true → a = b
  | [], [], _ => rfl
  | [], _ :: _, h => nomatch h
  | _ :: _, [], h => nomatch h
  | a :: as, b :: bs, h => by
    unfold sameS at h
    rw [Bool.and_eq_true] at h
    rw [beqO_eq h.1, sameS_eq h.2]
theorem sameS_rfl : ∀ (a : Sto), sameS a a = true
  | [] => rfl
  | a :: as => by unfold sameS; rw [beqO_rfl, sameS_rfl as]; rfl
mutual
/-- no mutable object from m on is named -/
def bel (m : Nat) : DV → Bool
  | .lst xs => bels m xs
  | .wl xs => bels m xs
  | .tup xs => bels m xs
  | .ins _ _ xs => bels m xs
  | .mr k => decide (k < m)
  | _ => true
def bels (m : Nat) : List DV → Bool
  | [] => true
  | x :: xs => bel m x && bels m xs
end
def belO (m : Nat) : Option MO → Bool
  | some (.lst xs) => bels m xs
  | some (.ins _ _ xs) => bels m xs
  | none => true
section
variable {p : Pg}
mutual
theorem bel_cut {F : Hp} {μ : List Addr} {m : Nat} : ∀ (d : DV) (v : V), bel m d = true → Rp p F μ d v → Rp p F (μ.take m) d v
  | .non, _, _, .non => .non
  | .bl _, _, _, .bl b => .bl b
  | .int _, _, _, .int i => .int i
  | .str _, _, _, .str x => .str x
  | .lst xs, _, h, .lst a r => .lst a (bels_cut xs _ (by unfold bel at h; exact h) r)
  | .wl xs, _, h, .wl a r => .wl a (bels_cut xs _ (by unfold bel at h; exact h) r)
  | .tup xs, _, h, .tup a r => .tup a (bels_cut xs _ (by unfold bel at h; exact h) r)
  | .ins _ _ xs, _, h, .ins a e r => .ins a e (bels_cut xs _ (by unfold bel at h; exact h) r)
  | .mr k, _, h, .mr e => .mr (by
    unfold bel at h
    rw [List.getElem?_take_of_lt (of_decide_eq_true h)]
    exact e)
theorem bels_cut {F : Hp} {μ : List Addr} {m : Nat} : ∀ (ds : List DV) (vs : List V), bels m ds = true → Rps p F μ ds vs → Rps p F (μ.take m) ds vs
  | [], _, _, .nil => .nil
  | d :: ds, _, h, .cons r t => by
    unfold bels at h
    rw [Bool.and_eq_true] at h
    exact .cons (bel_cut d _ h.1 r) (bels_cut ds _ h.2 t)
end
mutual
theorem bel_of {F : Hp} {μ : List Addr} : ∀ (d : DV) (v : V), Rp p F μ d v → bel μ.length d = true
  | .non, _, _ => by unfold bel; rfl
  | .bl _, _, _ => by unfold bel; rfl
  | .int _, _, _ => by unfold bel; rfl
  | .str _, _, _ => by unfold bel; rfl
  | .lst xs, _, .lst _ r => by unfold bel; exact bels_of xs _ r
  | .wl xs, _, .wl _ r => by unfold bel; exact bels_of xs _ r
  | .tup xs, _, .tup _ r => by unfold bel; exact bels_of xs _ r
  | .ins _ _ xs, _, .ins _ _ r => by unfold bel; exact bels_of xs _ r
  | .mr k, _, .mr e => by unfold bel; exact decide_eq_true (List.getElem?_eq_some_iff.mp e).1
theorem bels_of {F : Hp} {μ : List Addr} : ∀ (ds : List DV) (vs : List V), Rps p F μ ds vs → bels μ.length ds = true
  | [], _, _ => by unfold bels; rfl
  | d :: ds, _, .cons r t => by unfold bels; rw [bel_of d _ r, bels_of ds _ t]; rfl
end
/-- the store cut back to what stood at the entry -/
def Gh.cut (G : Gh) (m : Nat) : Gh := ⟨G.F, G.μ.take m, G.st.take m⟩
theorem Gd.cut {G : Gh} {H : Hp} (g : Gd p G H) {m : Nat} (h : (G.st.take m).all (belO m) = true) : Gd p (G.cut m) H where
  le := g.le
  len := by
    show (G.μ.take m).length = (G.st.take m).length
    rw [List.length_take, List.length_take, g.len]
  live := fun k c e => by
    have e' : (G.st.take m)[k]? = some (some c) := e
    have hb : belO m (some c) = true := List.all_eq_true.mp h _ (List.mem_of_getElem? e')
    have lt : k < m := by
      have := (List.getElem?_eq_some_iff.mp e').1
      rw [List.length_take] at this; omega
    rw [List.getElem?_take_of_lt lt] at e'
    obtain ⟨a, e1, e2, e3⟩ := g.live k c e'
    refine ⟨a, ?_, e2, ?_⟩
    · show (G.μ.take m)[k]? = some a
      rw [List.getElem?_take_of_lt lt]; exact e1
    · cases c with
      | lst xs => obtain ⟨vs, q1, q2⟩ := e3; exact ⟨vs, q1, bels_cut xs _ hb q2⟩
      | ins c ks xs => obtain ⟨dx, fs, q1, q2, q3⟩ := e3; exact ⟨dx, fs, q1, q2, bels_cut xs _ hb q3⟩
  all := fun k a e => by
    have e' : (G.μ.take m)[k]? = some a := e
    have lt : k < m := by
      have := (List.getElem?_eq_some_iff.mp e').1
      rw [List.length_take] at this; omega
    rw [List.getElem?_take_of_lt lt] at e'
    exact g.all k a e'
  inj := fun j k a e1 e2 => by
    have e1' : (G.μ.take m)[j]? = some a := e1
    have e2' : (G.μ.take m)[k]? = some a := e2
    have l1 : j < m := by
      have := (List.getElem?_eq_some_iff.mp e1').1
      rw [List.length_take] at this; omega
    have l2 : k < m := by
      have := (List.getElem?_eq_some_iff.mp e2').1
      rw [List.length_take] at this; omega
    rw [List.getElem?_take_of_lt l1] at e1'
    rw [List.getElem?_take_of_lt l2] at e2'
    exact g.inj j k a e1' e2'
theorem GX.cut {G0 G : Gh} {m : Nat} (x : GX G0 G) (h : G0.μ.length = m) : GX G0 (G.cut m) :=
  ⟨x.f, fun k a e => by
    have lt : k < m := by rw [← h]; exact (List.getElem?_eq_some_iff.mp e).1
    show (G.μ.take m)[k]? = some a
    rw [List.getElem?_take_of_lt lt]
    exact x.m k a e⟩
/-- what stood at the entry names nothing younger -/
theorem Gd.bels {G : Gh} {H : Hp} (g : Gd p G H) : G.st.all (belO G.st.length) = true := by
  rw [List.all_eq_true]
  intro o ho
  cases o with
  | none => rfl
  | some c =>
    obtain ⟨k, hk, e⟩ := List.mem_iff_getElem.mp ho
    obtain ⟨a, _, _, e3⟩ := g.live k c (List.getElem?_eq_some_iff.mpr ⟨hk, e⟩)
    rw [← g.len]
    cases c with
    | lst xs => obtain ⟨vs, _, q⟩ := e3; exact bels_of xs _ q
    | ins c ks xs => obtain ⟨dx, fs, _, _, q⟩ := e3; exact bels_of xs _ q

/-! ### freezing -/
mutual
def frz : Nat → Nat → DV → Sto → Option (DV × Sto)
  | 0, _, _, _ => none
  | n + 1, m, d, s => match d with
    | .mr k => match decide (k < m) with
      | true => some (.mr k, s)
      | false => match s[k]? with
        | some (some (.lst xs)) => match frzL n m xs s with
          | some (ys, s1) => some (.lst ys, s1.set k none)
          | none => none
        | _ => some (.mr k, s)
    | .lst xs => match frzL n m xs s with
      | some (ys, s1) => some (.lst ys, s1)
      | none => none
    | .tup xs => match frzL n m xs s with
      | some (ys, s1) => some (.tup ys, s1)
      | none => none
    | .ins c ks xs => match frzL n m xs s with
      | some (ys, s1) => some (.ins c ks ys, s1)
      | none => none
    | d => some (d, s)
def frzL : Nat → Nat → List DV → Sto → Option (List DV × Sto)
  | 0, _, _, _ => none
  | n + 1, m, l, s => match l with
    | [] => some ([], s)
    | d :: ds => match frz n m d s with
      | some (d1, s1) => match frzL n m ds s1 with
        | some (ds1, s2) => some (d1 :: ds1, s2)
        | none => none
      | none => none
end
theorem Gd.drop {G : Gh} {H : Hp} (g : Gd p G H) {k : Nat} {a : Addr} {o : HO} (ha : G.μ[k]? = some a) (ho : H a = some o) :
    GX G ⟨upd G.F a o, G.μ, G.st.set k none⟩ ∧ Gd p ⟨upd G.F a o, G.μ, G.st.set k none⟩ H := by
  have up : ∀ b u, G.F b = some u → upd G.F a o b = some u := fun b u e => by
    by_cases q : b = a
    · subst q
      have := g.le b u e
      rw [ho] at this; cases this
      exact upd_same
    · rw [upd_ne q]; exact e
  refine ⟨⟨up, fun _ _ e => e⟩, ?_, ?_, ?_, g.all, g.inj⟩
  · intro b u e
    have e' : upd G.F a o b = some u := e
    by_cases q : b = a
    · subst q
      rw [upd_same] at e'; cases e'; exact ho
    · rw [upd_ne q] at e'; exact g.le b u e'
  · show G.μ.length = (G.st.set k none).length
    rw [List.length_set]; exact g.len
  · intro j c e
    have e' : (G.st.set k none)[j]? = some (some c) := e
    by_cases q : j = k
    · subst q
      rw [List.getElem?_set_self (by rw [← g.len]; exact (List.getElem?_eq_some_iff.mp ha).1)] at e'
      cases e'
    · rw [List.getElem?_set_ne (Ne.symm q)] at e'
      obtain ⟨b, e1, e2, e3⟩ := g.live j c e'
      have nb : b ≠ a := fun z => q (g.inj j k b e1 (z ▸ ha))
      refine ⟨b, e1, ?_, ?_⟩
      · show upd G.F a o b = none
        rw [upd_ne nb]; exact e2
      · exact ObR.gx (G := G) e3 ⟨up, fun _ _ e => e⟩
mutual
theorem frz_ok {H : Hp} {m : Nat} : ∀ (n : Nat) (G : Gh) (d : DV) (v : V) (d' : DV) (s' : Sto), Gd p G H → Rp p G.F G.μ d v → frz n m d G.st = some (d', s') →
    ∃ G', GX G G' ∧ G'.st = s' ∧ Gd p G' H ∧ Rp p G'.F G'.μ d' v
  | 0, G, d, v, d', s', gd, r, e => by unfold frz at e; cases e
  | n + 1, G, d, v, d', s', gd, r, e => by
    unfold frz at e
    split at e
    · split at e
      · cases e; exact ⟨G, GX.rfl', rfl, gd, r⟩
      · split at e
        · rename_i xs hk
          split at e
          · rename_i ys s1 h1
            cases e
            obtain ⟨a, e1, e2, vs, e3, e4⟩ := gd.live _ _ hk
            cases r with
            | mr hm =>
              rw [hm] at e1; cases e1
              obtain ⟨G1, x1, es, gd1, r1⟩ := frzL_ok n G xs vs ys s1 gd e4 h1
              obtain ⟨x2, gd2⟩ := gd1.drop (x1.m _ _ hm) e3
              refine ⟨_, x1.trans x2, by rw [← es], gd2, .lst (by show upd G1.F a _ a = _; rw [upd_same]) (Rgs.gx r1 x2)⟩
          · cases e
        · cases e; exact ⟨G, GX.rfl', rfl, gd, r⟩
    · split at e
      · rename_i ys s1 h1
        cases e
        cases r with
        | lst a rs =>
          obtain ⟨G1, x1, es, gd1, r1⟩ := frzL_ok n G _ _ _ _ gd rs h1
          exact ⟨G1, x1, es, gd1, .lst (x1.f _ _ a) r1⟩
      · cases e
    · split at e
      · rename_i ys s1 h1
        cases e
        cases r with
        | tup a rs =>
          obtain ⟨G1, x1, es, gd1, r1⟩ := frzL_ok n G _ _ _ _ gd rs h1
          exact ⟨G1, x1, es, gd1, .tup (sqT_up x1.f a) r1⟩
      · cases e
    · split at e
      · rename_i ys s1 h1
        cases e
        cases r with
        | ins a q rs =>
          obtain ⟨G1, x1, es, gd1, r1⟩ := frzL_ok n G _ _ _ _ gd rs h1
          exact ⟨G1, x1, es, gd1, .ins (x1.f _ _ a) q r1⟩
      · cases e
    · cases e; exact ⟨G, GX.rfl', rfl, gd, r⟩
theorem frzL_ok {H : Hp} {m : Nat} : ∀ (n : Nat) (G : Gh) (d : List DV) (v : List V) (d' : List DV) (s' : Sto), Gd p G H → Rps p G.F G.μ d v → frzL n m d G.st = some (d', s') →
    ∃ G', GX G G' ∧ G'.st = s' ∧ Gd p G' H ∧ Rps p G'.F G'.μ d' v
  | 0, G, d, v, d', s', gd, r, e => by unfold frzL at e; cases e
  | n + 1, G, d, v, d', s', gd, r, e => by
    unfold frzL at e
    split at e
    · cases e; exact ⟨G, GX.rfl', rfl, gd, r⟩
    · split at e
      · rename_i d1 s1 h1
        split at e
        · rename_i ds1 s2 h2
          cases e
          cases r with
          | cons r1 r2 =>
            obtain ⟨G1, x1, es, gd1, q1⟩ := frz_ok n G _ _ d1 s1 gd r1 h1
            subst es
            obtain ⟨G2, x2, es, gd2, q2⟩ := frzL_ok n G1 _ _ _ _ gd1 (Rgs.gx r2 x1) h2
            exact ⟨G2, x1.trans x2, es, gd2, .cons (Rg.gx q1 x2) q2⟩
        · cases e
      · cases e
end

/-! ### the end of a def -/
/-- may the store be cut back to the m objects that stood at the entry, s0 then -/
def cutOk (s0 s : Sto) : Bool := sameS (s.take s0.length) s0 || (s.take s0.length).all (belO s0.length)
def fin (s0 : Sto) (d : DV) (s : Sto) : R DV := match decide (s.length = s0.length) with
  | true => .ok d s
  | false => match frz 12 s0.length d s with
    | some (d', s') => match bel s0.length d' && cutOk s0 s' with
      | true => .ok d' (s'.take s0.length)
      | false => .ok d' s'
    | none => .bad
def finX (s0 : Sto) (c : Nat) (ks : List Nat) (xs : List DV) (s : Sto) : R DV := match decide (s.length = s0.length) with
  | true => .exc c ks xs s
  | false => match bels s0.length xs && cutOk s0 s with
    | true => .exc c ks xs (s.take s0.length)
    | false => .exc c ks xs s
def RS.fin (s0 : Sto) : RS → R DV
  | .nx _ s => Dq.fin s0 .non s
  | .rt d s => Dq.fin s0 d s
  | .exc c ks xs _ s => finX s0 c ks xs s
  | _ => .bad
theorem cut_ok {G0 G : Gh} {H0 H : Hp} (g0 : Gd p G0 H0) (x : GX G0 G) (g : Gd p G H) (h : cutOk G0.st G.st = true) : GX G0 (G.cut G0.st.length) ∧ Gd p (G.cut G0.st.length) H := by
  refine ⟨x.cut g0.len, g.cut ?_⟩
  unfold cutOk at h
  rw [Bool.or_eq_true] at h
  rcases h with h | h
  · rw [sameS_eq h]; exact g0.bels
  · exact h
theorem fin_of {G0 G : Gh} {H0 H : Hp} {σ : L2.St} {W : WX} {d : DV} {v : V} {Q : VK} (g0 : Gd p G0 H0) (x : GX G0 G) (g : Gd p G H) (r : Rp p G.F G.μ d v) (po : PoV p W G0 σ (fin G0.st d G.st) Q) : Q v H := by
  unfold fin at po
  split at po
  · exact Po.ret po x rfl g r
  · split at po
    · rename_i d' s' e
      obtain ⟨G1, x1, es, g1, r1⟩ := frz_ok 12 G d v d' s' g r e
      subst es
      split at po
      · rename_i c
        rw [Bool.and_eq_true] at c
        obtain ⟨x2, g2⟩ := cut_ok g0 (x.trans x1) g1 c.2
        exact Po.ret po x2 rfl g2 (bel_cut d' v c.1 r1)
      · exact Po.ret po (x.trans x1) rfl g1 r1
    · exact po.elim

/-! ### a def by its body -/
/-- what is wished of exceptions by what the caller wishes: nothing may leave; what leaves lies as he wishes -/
abbrev W0 : WX := fun _ _ _ _ => False
abbrev We0 : XK → WX := fun _ => W0
abbrev WeX : XK → WX := fun E c d _ H => E c d H
/-- what a def promises -/
def spD (p : Pg) (We : XK → WX) (n : Nat) (g : List DV → Sto → R DV) : Sp := fun vs H Q E => vs.length = n ∧ ∃ G ds, Gd p G H ∧ Rps p G.F G.μ ds vs ∧ PoV p (We E) G [] (g ds G.st) Q
/-- the body's function as the def's -/
def run (N n : Nat) (b : GS) : List DV → Sto → R DV := fun ds s => match decide (ds.length = n) with
  | true => (b (ds.map some ++ List.replicate (N - n) none) s).fin s
  | false => .bad
theorem start_en {G : Gh} {N : List Str} {ds : List DV} {vs : List V} (r : Rps p G.F G.μ ds vs) (h : vs.length ≤ N.length) : EnR p G (ds.map some ++ List.replicate (N.length - vs.length) none) (L2.start N vs) where
  len := by
    unfold L2.start
    rw [List.length_append, List.length_append, List.length_map, List.length_map, List.length_replicate, List.length_replicate, r.length]
  at_ := fun i d e => by
    unfold L2.start
    by_cases q : i < ds.length
    · rw [List.getElem?_append_left (by rw [List.length_map]; exact q), List.getElem?_map] at e
      cases e2 : ds[i]? with
      | none => rw [e2] at e; cases e
      | some d' =>
        rw [e2] at e; cases e
        obtain ⟨v, e3, e4⟩ := r.get e2
        refine ⟨v, ?_, e4⟩
        rw [List.getElem?_append_left (by rw [List.length_map, ← r.length]; exact q), List.getElem?_map, e3]
        rfl
    · rw [List.getElem?_append_right (by rw [List.length_map]; omega)] at e
      have := List.mem_of_getElem? e
      rw [List.mem_replicate] at this
      cases this.2
theorem body_of {We : XK → WX} (hW : ∀ E c d σ σ' H, We E c d σ H → We E c d σ' H) {N : List Str} {n : Nat} {b : GS} {vs : List V} {H : Hp} {Q : VK} {E : XK} (hn : n ≤ N.length) (h : spD p We n (run N.length n b) vs H Q E) :
    rdS p (We E) b { nx := fun _ H' => Q .non H', rt := Q } (L2.start N vs) H := by
  obtain ⟨hl, G, ds, gd, r, po⟩ := h
  unfold run at po
  split at po
  · rename_i c
    have c := of_decide_eq_true c
    have hv : vs.length = n := hl
    refine ⟨G, _, gd, start_en r (by omega), ?_⟩
    rw [hv]
    cases e : b (ds.map some ++ List.replicate (N.length - n) none) G.st with
    | nx ρ s =>
      rw [e] at po
      intro G1 σ1 H1 x1 e1 g1 en1
      subst e1
      exact fin_of gd x1 g1 .non po
    | rt d s =>
      rw [e] at po
      intro G1 v H1 x1 e1 g1 r1
      subst e1
      exact fin_of gd x1 g1 r1 po
    | exc c ks xs ρ s =>
      rw [e] at po
      intro G1 σ1 H1 d fs x1 e1 g1 en1 hd hk rs
      subst e1
      have po : PoV p (We E) G [] (finX G.st c ks xs G1.st) Q := po
      refine hW E _ _ [] σ1 H1 ?_
      unfold finX at po
      split at po
      · exact po G1 H1 d fs x1 rfl g1 hd hk rs
      · split at po
        · rename_i c2
          rw [Bool.and_eq_true] at c2
          obtain ⟨x2, g2⟩ := cut_ok gd x1 g1 c2.2
          exact po _ H1 d fs x2 rfl g2 hd hk (bels_cut xs _ c2.1 rs)
        · exact po G1 H1 d fs x1 rfl g1 hd hk rs
    | bk ρ s => rw [e] at po; exact po.elim
    | ct ρ s => rw [e] at po; exact po.elim
    | bad => rw [e] at po; exact po.elim
  · exact po.elim
theorem run_len {N n : Nat} {b : GS} {ds : List DV} {s : Sto} (h : ds.length ≠ n) : run N n b ds s = .bad := by
  unfold run
  rw [decide_eq_false h]
end
section
variable {p : Pg} {P : Program} {w : World} {K : PySem.W.Frag} {mg : Str → Option Value} {base : Heap} {x qual : Str} {params : Arguments} {body : List Stmt} {scope : Scope} {dvs : List V} {kws : List (Str × V)} {f : Addr} {fd : FuncData} {N ps : List Str} {k : Nat} {b : GS}
/-- a def that lets nothing out -/
theorem def0 (F : FunD K x qual params body scope dvs kws f fd) (S : FnScope N ps scope) (hn : ps.length ≤ N.length)
    (h : ∀ (cdv : Value) (A : Around) (outer : List Env) (s : Shared) (H : Hp) (E : XK), Room k (A.deeper (envOfC qual scope s.heap.objs.size f cdv)) →
      PSs (cxOf CX0 P w K mg base N qual scope f cdv A outer s H E).nox body (rdS p W0 b)) : FnOk P w K mg base CX0 (k + 1) f fd ps (spD p We0 ps.length (run N.length ps.length b)) :=
  F.ok S (fun vs H Q E h => h.1) fun cdv A outer s H vs Q E hr hs => ⟨_, PSs.nox (h cdv A outer s H E hr), body_of (We := We0) (fun _ _ _ _ _ _ z => z) hn hs⟩
/-- a def that may let exceptions out -/
theorem defX (F : FunD K x qual params body scope dvs kws f fd) (S : FnScope N ps scope) (hn : ps.length ≤ N.length)
    (h : ∀ (cdv : Value) (A : Around) (outer : List Env) (s : Shared) (H : Hp) (E : XK), Room k (A.deeper (envOfC qual scope s.heap.objs.size f cdv)) →
      PSs (cxOf (L2.CX P w) P w K mg base N qual scope f cdv A outer s H E) body (rdS p (WeX E) b)) : FnOk P w K mg base (L2.CX P w) (k + 1) f fd ps (spD p WeX ps.length (run N.length ps.length b)) :=
  F.ok S (fun vs H Q E h => h.1) fun cdv A outer s H vs Q E hr hs => ⟨_, h cdv A outer s H E hr, body_of (We := WeX) (fun _ _ _ _ _ _ z => z) hn hs⟩
end
end Dq

/-! Calls, attributes. -/
namespace Dq
open PySem PySem.Spec PyProof.Rows L2
section
variable {p : Pg} {X : Cx} {W : WX} {CX : CXT} {E : XK} {We : XK → WX}

theorem sp_of {n : Nat} {g : List DV → Sto → R DV} {G : Gh} {H : Hp} {σ : L2.St} {ds : List DV} {vs : List V} {Q : VK} (hg : ∀ ds s, ds.length ≠ n → g ds s = .bad) (hW : ∀ c d σ H, W c d σ H → We E c d [] H)
    (gd : Gd p G H) (r : Rps p G.F G.μ ds vs) (po : PoV p W G σ (g ds G.st) Q) : spD p We n g vs H Q E := by
  by_cases q : ds.length = n
  · refine ⟨by rw [← r.length]; exact q, G, ds, gd, r, ?_⟩
    cases e : g ds G.st with
    | ok d s => rw [e] at po; exact po
    | exc c ks xs s => rw [e] at po; exact fun G2 H2 d fs x2 e2 g2 hd hk rs => hW _ _ σ H2 (po G2 H2 d fs x2 e2 g2 hd hk rs)
    | bad => rw [e] at po; exact po.elim
  · rw [hg ds G.st q] at po; exact po.elim

/-! ### f(..) -/
@[simp] def gCall (g : List DV → Sto → R DV) (ds0 : List DV) (gl : GL) : GE := fun ρ s => (gl ρ s).bind fun l s1 => g (l ++ ds0) s1
/-- what a caller needs of a def: f stands there, it does what g says of the arguments and its defaults ds0 -/
structure FnC (p : Pg) (X : Cx) (W : WX) (f : Addr) (g : List DV → Sto → R DV) (ds0 : List DV) : Prop where
  ex : ∃ (CX : CXT) (E : XK) (We : XK → WX) (k : Nat) (fd : FuncData) (ps : List Str) (dvs : List V) (dsv : List Value),
    FnOk X.prog X.w X.K X.mg X.base CX k f fd ps (spD p We ps.length g) ∧ Room k X.A ∧ Binds X.K fd ps dsv ∧ Vals dvs dsv ∧ (∀ F μ, Rps p F μ ds0 dvs) ∧ Passes CX X E ∧ (∀ c d σ H, W c d σ H → We E c d [] H) ∧ (∀ ds s, ds.length ≠ ps.length → g ds s = .bad)
section
variable {x : Str} {pp pos : Pos} {e : Expr} {es : List Expr} {gl : GL} {f : Addr} {g : List DV → Sto → R DV} {ds0 : List DV}
theorem qcall (C : FnC p X W f g ds0) (hm : X.mg x = some (.ref f)) (hk : PySem.W.keepIn X.K (.ref f) = true) (hg : Gl X x) (ha : PA X (e :: es) (rdL p W gl))
    (hdb : (x == ("__debug__" : Str)) = false := by decide) (he : starEach (e :: es) X.env = (false, eval e X.env) :: starEach es X.env := by rfl) (hpl : (backTo pos (starEach es X.env)).any (·.1) = false := by rfl) :
    PE X (.Call (.Name x pp) (e :: es) [] pos) (rd p W (gCall g ds0 gl)) := by
  obtain ⟨CX, E, We, k, fd, ps, dvs, dsv, F, hr, hb, hd, h0, hx, hW, hl⟩ := C.ex
  exact PE.imp (pe_call F hr hg hm hk hb hd hx ha hdb he hpl) fun σ H Q ⟨G, ρ, gd, en, po⟩ => ⟨G, ρ, gd, en, (Po.bind po).imp fun vs H1 ⟨G1, l, x1, gd1, r1, po1⟩ =>
    sp_of hl hW gd1 (r1.app (h0 _ _)) po1⟩
theorem qcall0 (C : FnC p X W f g ds0) (hm : X.mg x = some (.ref f)) (hk : PySem.W.keepIn X.K (.ref f) = true) (hg : Gl X x)
    (hdb : (x == ("__debug__" : Str)) = false := by decide) : PE X (.Call (.Name x pp) [] [] pos) (rd p W (gCall g ds0 gNil)) := by
  obtain ⟨CX, E, We, k, fd, ps, dvs, dsv, F, hr, hb, hd, h0, hx, hW, hl⟩ := C.ex
  exact PE.imp (pe_call0 F hr hg hm hk hb hd hx hdb) fun σ H Q ⟨G, ρ, gd, en, po⟩ => sp_of (ds := [] ++ ds0) (vs := [] ++ dvs) hl hW gd (h0 _ _) po
end

/-! ### C(..) -/
def makeD (mb : Bool) (c : Nat) (g : List DV → Sto → R DV) (l : List DV) (s : Sto) : R DV := match g (.mr s.length :: l) (s ++ [some (.ins c [] [])]) with
  | .ok .non s2 => match mb with
    | true => .ok (.mr s.length) s2
    | false => match s2[s.length]? with
      | some (some (.ins c' ks xs)) => match decide (c' = c) with
        | true => match bels s.length xs && cutOk s (s2.set s.length none) with
          | true => .ok (.ins c ks xs) ((s2.set s.length none).take s.length)
          | false => .ok (.ins c ks xs) (s2.set s.length none)
        | false => .bad
      | _ => .bad
  | .ok _ _ => .bad
  | .exc c ks xs s2 => finX s c ks xs s2
  | .bad => .bad
theorem make_of {n : Nat} {mb : Bool} {c : Nat} {g : List DV → Sto → R DV} {G : Gh} {H : Hp} {σ : L2.St} {ds : List DV} {vs : List V} {Q : VK} (hg : ∀ ds s, ds.length ≠ n → g ds s = .bad) (hW : ∀ c d σ H, W c d σ H → We E c d [] H)
    (gd : Gd p G H) (r : Rps p G.F G.μ ds vs) (po : PoV p W G σ (makeD mb c g ds G.st) Q) {x dx : Addr} (hx : H x = none) (hdx : H dx = none) (ne : dx ≠ x) :
    spD p We n g (.ref x :: vs) (upd (upd H dx (.own x)) x (.ins (p.cA c) dx [])) (fun v H2 => v = .non ∧ Q (.ref x) H2) E := by
  have hx' : upd H dx (.own x) x = none := by rw [upd_ne (Ne.symm ne)]; exact hx
  have g1 := (gd.beside (o := .own x) hdx).add (m := .ins c [] []) (o := .ins (p.cA c) dx []) hx' ⟨dx, [], rfl, rfl, .nil⟩
  have r1 : Rps p (G.add x (.ins c [] [])).F (G.add x (.ins c [] [])).μ (.mr G.st.length :: ds) (.ref x :: vs) := .cons (.mr (by rw [← gd.len]; exact Gh.add_at)) (Rgs.gx r GX.add)
  refine sp_of (W := W) (σ := σ) hg hW g1 r1 ?_
  have est : (G.add x (.ins c [] [])).st = G.st ++ [some (.ins c [] [])] := rfl
  rw [est]
  unfold makeD at po
  cases e : g (.mr G.st.length :: ds) (G.st ++ [some (.ins c [] [])]) with
  | bad => rw [e] at po; exact po
  | exc c' ks xs s =>
    simp only [e] at po
    intro G2 H2 d fs x2 e2 g2 hd hk rs
    subst e2
    have xx : GX G G2 := GX.add.trans x2
    unfold finX at po
    split at po
    · exact po G2 H2 d fs xx rfl g2 hd hk rs
    · split at po
      · rename_i c2
        rw [Bool.and_eq_true] at c2
        obtain ⟨x3, g3⟩ := cut_ok gd xx g2 c2.2
        exact po _ H2 d fs x3 rfl g3 hd hk (bels_cut xs _ c2.1 rs)
      · exact po G2 H2 d fs xx rfl g2 hd hk rs
  | ok d s =>
    simp only [e] at po
    intro G2 v H2 x2 e2 g2 r2
    subst e2
    have xx : GX G G2 := GX.add.trans x2
    have hm2 : G2.μ[G.st.length]? = some x := x2.m _ _ (by rw [← gd.len]; exact Gh.add_at)
    cases d with
    | non =>
      cases r2
      refine ⟨rfl, ?_⟩
      cases mb with
      | true => exact Po.ret po xx rfl g2 (.mr hm2)
      | false =>
        simp only at po
        split at po
        · rename_i c' ks xs hk
          split at po
          · rename_i hc
            have hc := of_decide_eq_true hc
            subst hc
            obtain ⟨a, e1, e3, dx', fs, e4, e5, e6⟩ := g2.live _ _ hk
            rw [hm2] at e1; cases e1
            obtain ⟨x3, g3⟩ := g2.drop hm2 e4
            have r3 : Rp p (upd G2.F x (.ins (p.cA c') dx' fs)) G2.μ (.ins c' ks xs) (.ref x) := .ins upd_same e5 (Rgs.gx e6 x3)
            split at po
            · rename_i c2
              rw [Bool.and_eq_true] at c2
              obtain ⟨x4, g4⟩ := cut_ok gd (xx.trans x3) g3 c2.2
              exact Po.ret po x4 rfl g4 (bel_cut _ _ (by unfold bel; exact c2.1) r3)
            · exact Po.ret po (xx.trans x3) rfl g3 r3
          · exact po.elim
        · exact po.elim
    | _ => exact po.elim
@[simp] def gMake (mb : Bool) (c : Nat) (g : List DV → Sto → R DV) (ds0 : List DV) (gl : GL) : GE := fun ρ s => (gl ρ s).bind fun l s1 => makeD mb c g (l ++ ds0) s1
/-- what a caller needs of a class -/
structure MkC (p : Pg) (X : Cx) (W : WX) (c : Nat) (g : List DV → Sto → R DV) (ds0 : List DV) : Prop where
  ex : ∃ (CX : CXT) (E : XK) (We : XK → WX) (k : Nat) (f : Addr) (fd : FuncData) (ps : List Str) (dvs : List V) (dsv : List Value),
    Mk X.K (p.cA c) f ∧ FnOk X.prog X.w X.K X.mg X.base CX k f fd ps (spD p We ps.length g) ∧ Room (k + 1) X.A ∧ Binds X.K fd ps dsv ∧ Vals dvs dsv ∧ (∀ F μ, Rps p F μ ds0 dvs) ∧ Passes CX X E ∧ (∀ c d σ H, W c d σ H → We E c d [] H) ∧ (∀ ds s, ds.length ≠ ps.length → g ds s = .bad)
section
variable {x : Str} {pp pos : Pos} {e : Expr} {es : List Expr} {gl : GL} {f : Addr} {g : List DV → Sto → R DV} {ds0 : List DV} {c : Nat} {mb : Bool}
theorem qmake (C : MkC p X W c g ds0) (hm : X.mg x = some (.ref (p.cA c))) (hg : Gl X x) (ha : PA X (e :: es) (rdL p W gl))
    (hdb : (x == ("__debug__" : Str)) = false := by decide) (he : starEach (e :: es) X.env = (false, eval e X.env) :: starEach es X.env := by rfl) (hpl : (backTo pos (starEach es X.env)).any (·.1) = false := by rfl) :
    PE X (.Call (.Name x pp) (e :: es) [] pos) (rd p W (gMake mb c g ds0 gl)) := by
  obtain ⟨CX, E, We, k, f, fd, ps, dvs, dsv, M, F, hr, hb, hd, h0, hx, hW, hl⟩ := C.ex
  exact PE.imp (pe_make M F hr hg hm hb hd hx ha hdb he hpl) fun σ H Q ⟨G, ρ, gd, en, po⟩ => ⟨G, ρ, gd, en, (Po.bind po).imp fun vs H1 ⟨G1, l, x1, gd1, r1, po1⟩ x dx hx hdx ne =>
    make_of hl hW gd1 (r1.app (h0 _ _)) po1 hx hdx ne⟩
end

/-! ### calls with keywords -/
section
variable {x : Str} {pp pos kpos : Pos} {e : Expr} {es : List Expr} {kws : List Keyword}  {gl gk : GL} {ge : GE} {f : Addr} {g : List DV → Sto → R DV} {c : Nat} {mb : Bool} {nm : Option Str}
theorem PK.imp {t t' : TA} (h : PK X kws t) (k : ∀ σ H Q, t' σ H Q → t σ H Q) : PK X kws t' := ⟨fun pos pins s σ H Q I q => h.run pos pins s σ H Q I (k σ H Q q)⟩
theorem knil : PK X [] (rdL p W gNil) := PK.imp pk_nil fun σ H Q ⟨G, ρ, gd, en, po⟩ => Po.ret po GX.rfl' rfl gd .nil
theorem kcons (ha : PE X e (rd p W ge)) (hr : PK X kws (rdL p W gk)) : PK X (⟨nm, e, kpos⟩ :: kws) (rdL p W (gCons ge gk)) :=
  PK.imp (pk_cons ha hr) fun σ H Q ⟨G, ρ, gd, en, po⟩ => ⟨G, ρ, gd, en, (Po.bind po).imp fun v H1 ⟨G1, a, x1, gd1, r1, po1⟩ =>
    ⟨G1, ρ, gd1, en.gx x1, (Po.bind po1).imp fun vs H2 ⟨G2, l, x2, gd2, r2, po2⟩ => Po.ret po2 GX.rfl' rfl gd2 (.cons (Rg.gx r1 x2) r2)⟩⟩
/-- how positional and keyword values become the arguments -/
abbrev Mix := List DV → List DV → Option (List DV)
@[simp] def gMakeK (mb : Bool) (c : Nat) (g : List DV → Sto → R DV) (mx : Mix) (gl gk : GL) : GE := fun ρ s => (gl ρ s).bind fun l s1 => (gk ρ s1).bind fun z s2 => match mx l z with
  | some a => makeD mb c g a s2
  | none => .bad
@[simp] def gCallK (g : List DV → Sto → R DV) (mx : Mix) (gl gk : GL) : GE := fun ρ s => (gl ρ s).bind fun l s1 => (gk ρ s1).bind fun z s2 => match mx l z with
  | some a => g a s2
  | none => .bad
structure MkK (p : Pg) (X : Cx) (W : WX) (c : Nat) (g : List DV → Sto → R DV) (n : Nat) (ks : List Str) (mx : Mix) : Prop where
  ex : ∃ (CX : CXT) (E : XK) (We : XK → WX) (k : Nat) (f : Addr) (fd : FuncData) (ps : List Str) (gg : List Value → List Value → List Value) (gV : List V → List V → List V),
    Mk X.K (p.cA c) f ∧ FnOk X.prog X.w X.K X.mg X.base CX k f fd ps (spD p We ps.length g) ∧ Room (k + 1) X.A ∧ KBn X.K fd ps (n + 1) ks gg gV ∧ Passes CX X E ∧ (∀ c d σ H, W c d σ H → We E c d [] H) ∧ (∀ ds s, ds.length ≠ ps.length → g ds s = .bad) ∧
      ∀ (F : Hp) (μ : List Addr) (l z a : List DV) (vs zs : List V) (u : V), Rps p F μ l vs → Rps p F μ z zs → mx l z = some a → vs.length = n ∧ zs.length = ks.length ∧ ∃ vs', gV (u :: vs) zs = u :: vs' ∧ Rps p F μ a vs'
structure FnK (p : Pg) (X : Cx) (W : WX) (f : Addr) (g : List DV → Sto → R DV) (n : Nat) (ks : List Str) (mx : Mix) : Prop where
  ex : ∃ (CX : CXT) (E : XK) (We : XK → WX) (k : Nat) (fd : FuncData) (ps : List Str) (gg : List Value → List Value → List Value) (gV : List V → List V → List V),
    FnOk X.prog X.w X.K X.mg X.base CX k f fd ps (spD p We ps.length g) ∧ Room k X.A ∧ KBn X.K fd ps n ks gg gV ∧ Passes CX X E ∧ (∀ c d σ H, W c d σ H → We E c d [] H) ∧ (∀ ds s, ds.length ≠ ps.length → g ds s = .bad) ∧
      ∀ (F : Hp) (μ : List Addr) (l z a : List DV) (vs zs : List V), Rps p F μ l vs → Rps p F μ z zs → mx l z = some a → vs.length = n ∧ zs.length = ks.length ∧ Rps p F μ a (gV vs zs)
theorem qmakeK {n : Nat} {ks : List Str} {mx : Mix} (C : MkK p X W c g n ks mx) (hm : X.mg x = some (.ref (p.cA c))) (hg : Gl X x) (ha : PA X (e :: es) (rdL p W gl)) (hkw : PK X kws (rdL p W gk))
    (hall : (backToKw pos (keywordEach kws X.env)).all (·.1.isSome) = true := by rfl) (hks : (backToKw pos (keywordEach kws X.env)).filterMap (·.1) = ks := by rfl) (hdb : (x == ("__debug__" : Str)) = false := by decide)
    (he : starEach (e :: es) X.env = (false, eval e X.env) :: starEach es X.env := by rfl)
    (hpl : ((backTo pos (starEach (e :: es) X.env)).any (·.1) || (backToKw pos (keywordEach kws X.env)).any (·.1.isNone)) = false := by rfl) :
    PE X (.Call (.Name x pp) (e :: es) kws pos) (rd p W (gMakeK mb c g mx gl gk)) := by
  obtain ⟨CX, E, We, k, f, fd, ps, gg, gV, M, F, hr, hb, hx, hW, hl, hmx⟩ := C.ex
  refine PE.imp (pe_makeK M F hr hg hm hb hx ha hkw hall hks hdb he hpl) fun σ H Q ⟨G, ρ, gd, en, po⟩ => ⟨G, ρ, gd, en, (Po.bind po).imp fun vs H1 ⟨G1, l, x1, gd1, r1, po1⟩ =>
    ⟨G1, ρ, gd1, en.gx x1, (Po.bind po1).imp fun zs H2 ⟨G2, z, x2, gd2, r2, po2⟩ => ?_⟩⟩
  cases e1 : mx l z with
  | none => simp only [e1] at po2; exact po2.elim
  | some a =>
    simp only [e1] at po2
    obtain ⟨l1, l2, _⟩ := hmx _ _ l z a vs zs (.non) (Rgs.gx r1 x2) r2 e1
    refine ⟨l1, l2, fun x dx hx hdx ne => ?_⟩
    obtain ⟨_, _, vs', e3, r3⟩ := hmx _ _ l z a vs zs (.ref x) (Rgs.gx r1 x2) r2 e1
    rw [e3]
    exact make_of hl hW gd2 r3 po2 hx hdx ne
theorem qcallK {n : Nat} {ks : List Str} {mx : Mix} (C : FnK p X W f g n ks mx) (hm : X.mg x = some (.ref f)) (hk : PySem.W.keepIn X.K (.ref f) = true) (hg : Gl X x) (ha : PA X (e :: es) (rdL p W gl)) (hkw : PK X kws (rdL p W gk))
    (hall : (backToKw pos (keywordEach kws X.env)).all (·.1.isSome) = true := by rfl) (hks : (backToKw pos (keywordEach kws X.env)).filterMap (·.1) = ks := by rfl) (hdb : (x == ("__debug__" : Str)) = false := by decide)
    (he : starEach (e :: es) X.env = (false, eval e X.env) :: starEach es X.env := by rfl)
    (hpl : ((backTo pos (starEach (e :: es) X.env)).any (·.1) || (backToKw pos (keywordEach kws X.env)).any (·.1.isNone)) = false := by rfl) :
    PE X (.Call (.Name x pp) (e :: es) kws pos) (rd p W (gCallK g mx gl gk)) := by
  obtain ⟨CX, E, We, k, fd, ps, gg, gV, F, hr, hb, hx, hW, hl, hmx⟩ := C.ex
  refine PE.imp (pe_callN F hr hg hm hk hb hx ha hkw hall hks hdb he hpl) fun σ H Q ⟨G, ρ, gd, en, po⟩ => ⟨G, ρ, gd, en, (Po.bind po).imp fun vs H1 ⟨G1, l, x1, gd1, r1, po1⟩ =>
    ⟨G1, ρ, gd1, en.gx x1, (Po.bind po1).imp fun zs H2 ⟨G2, z, x2, gd2, r2, po2⟩ => ?_⟩⟩
  cases e1 : mx l z with
  | none => simp only [e1] at po2; exact po2.elim
  | some a =>
    simp only [e1] at po2
    obtain ⟨l1, l2, r3⟩ := hmx _ _ l z a vs zs (Rgs.gx r1 x2) r2 e1
    exact ⟨l1, l2, sp_of hl hW gd2 r3 po2⟩
end

/-! ### attributes -/
/-- an instance: its class, its attributes -/
@[simp] def insS (s : Sto) : DV → Option (Nat × List Nat × List DV)
  | .ins c ks xs => some (c, ks, xs)
  | .mr k => match s[k]? with
    | some (some (.ins c ks xs)) => some (c, ks, xs)
    | _ => none
  | _ => none
theorem ins_of {G : Gh} {H : Hp} (gd : Gd p G H) {d : DV} {v : V} {c : Nat} {ks : List Nat} {xs : List DV} (r : Rp p G.F G.μ d v) (h : insS G.st d = some (c, ks, xs)) :
    ∃ a dx fs, v = .ref a ∧ H a = some (.ins (p.cA c) dx fs) ∧ fs.map (·.1) = ks.map p.nm ∧ Rps p G.F G.μ xs (fs.map (·.2)) := by
  unfold insS at h
  split at h
  · cases h
    cases r with
    | ins e k rs => exact ⟨_, _, _, rfl, gd.le _ _ e, k, rs⟩
  · split at h
    · rename_i e
      cases h
      cases r with
      | mr hm =>
        obtain ⟨a, e1, e2, dx, fs, e3, e4, e5⟩ := gd.live _ _ e
        rw [hm] at e1; cases e1
        exact ⟨_, dx, fs, rfl, e3, e4, e5⟩
    · cases h
  · cases h
@[simp] def lkD (n : Nat) : List Nat → List DV → Option DV
  | k :: ks, x :: xs => match decide (k = n) with
    | true => some x
    | false => lkD n ks xs
  | _, _ => none
theorem lk_of {F : Hp} {μ : List Addr} {n : Nat} {d : DV} : ∀ {ks : List Nat} {xs : List DV} {fs : List (Str × V)}, fs.map (·.1) = ks.map p.nm → Rps p F μ xs (fs.map (·.2)) → lkD n ks xs = some d → ∃ v, fs.lookup (p.nm n) = some v ∧ Rp p F μ d v
  | [], _, _, _, _, h => by unfold lkD at h; cases h
  | _ :: _, [], _, _, _, h => by unfold lkD at h; cases h
  | k :: ks, x :: xs, [], hk, _, _ => by cases hk
  | k :: ks, x :: xs, (f, v) :: fs, hk, r, h => by
    cases r with
    | cons r1 r2 =>
      have hk1 : f = p.nm k := by injection hk
      have hk2 : fs.map (·.1) = ks.map p.nm := by injection hk
      unfold lkD at h
      split at h
      · rename_i c
        have c := of_decide_eq_true c
        cases h
        refine ⟨v, ?_, r1⟩
        rw [hk1, c, List.lookup_cons, beq_self_eq_true]
      · rename_i c
        have c := of_decide_eq_false c
        obtain ⟨u, e, r3⟩ := lk_of hk2 r2 h
        refine ⟨u, ?_, r3⟩
        rw [List.lookup_cons]
        have ne : (p.nm n == f) = false := by
          rw [beq_eq_false_iff_ne, hk1]
          intro q
          exact c (p.nmi _ _ q.symm)
        rw [ne]
        exact e
theorem lk_none {m : Str} : ∀ {ks : List Nat} {fs : List (Str × V)}, fs.map (·.1) = ks.map p.nm → (∀ k ∈ ks, p.nm k ≠ m) → fs.lookup m = none
  | [], [], _, _ => rfl
  | [], _ :: _, h, _ => by cases h
  | _ :: _, [], h, _ => by cases h
  | k :: ks, (f, v) :: fs, hk, h => by
    have hk1 : f = p.nm k := by injection hk
    have hk2 : fs.map (·.1) = ks.map p.nm := by injection hk
    rw [List.lookup_cons]
    have ne : (m == f) = false := by
      rw [beq_eq_false_iff_ne, hk1]
      exact fun q => h k (List.mem_cons_self ..) q.symm
    rw [ne]
    exact lk_none hk2 fun j hj => h j (List.mem_cons_of_mem _ hj)
/-- a property's getter, by the class -/
abbrev Sel := Nat → Option (List DV → Sto → R DV)
@[simp] def atD (n : Nat) (ps : Sel) (fc : Nat → Bool) (d : DV) (s : Sto) : R DV := match insS s d with
  | some (c, ks, xs) => match ps c with
    | some g => g [d] s
    | none => match fc c, lkD n ks xs with
      | true, some e => .ok e s
      | _, _ => .bad
  | none => .bad
/-- what is needed of a property -/
structure PrC (p : Pg) (X : Cx) (W : WX) (c : Nat) (f : Str) (g : List DV → Sto → R DV) : Prop where
  ex : ∃ (CX : CXT) (E : XK) (We : XK → WX) (k : Nat) (pa ga : Addr) (fd : FuncData) (ps : List Str),
    Cls X.K (p.cA c) ∧ PropOf X.K (p.cA c) f pa ga ∧ FnOk X.prog X.w X.K X.mg X.base CX k ga fd ps (spD p We ps.length g) ∧ Room (k + 1) X.A ∧ Binds X.K fd ps [] ∧ Passes CX X.nox E ∧ (∀ c d σ H, W0 c d σ H → We E c d [] H) ∧ (∀ ds s, ds.length ≠ ps.length → g ds s = .bad) ∧ (W = W0 ∨ ∀ ds s c ks xs s', g ds s ≠ .exc c ks xs s')
theorem PoV.noexc {G : Gh} {σ : L2.St} {r : R DV} {Q : VK} (h : PoV p W G σ r Q) (n : ∀ c ks xs s', r ≠ .exc c ks xs s') : PoV p W0 G σ r Q := by
  cases r with
  | ok d s => exact h
  | exc c ks xs s => exact absurd rfl (n c ks xs s)
  | bad => exact h
section
variable {e : Expr} {f : Str} {pos : Pos} {ge : GE} {n : Nat} {sel : Sel} {fc : Nat → Bool}
theorem qattr (he : PE X e (rd p W ge)) (hp : ∀ c g, sel c = some g → PrC p X W c f g) (hf : ∀ c, fc c = true → Cls X.K (p.cA c) ∧ NoAttr X.K (p.cA c) f) (hn : p.nm n = f := by rfl) (hab : attributeBase e f X.env (eval e X.env) = eval e X.env := by rfl) :
    PE X (.Attribute e f pos) (rd p W (gUn (atD n sel fc) ge)) := by
  refine ⟨fun pins s σ H Q I h => ?_⟩
  refine attr_of hab ?_
  have key := one (W := W) (p := p) (ga := ge) (g := atD n sel fc) (ta := rd p W ge) (σ := σ) (H := H) (Q := Q) (r := fun x H Q => ∃ G a, Gd p G H ∧ Rp p G.F G.μ a x ∧ PoV p W G σ (atD n sel fc a G.st) Q) (fun _ _ _ z => z) (fun x H Q z => z) h
  refine thn (he.run pins s σ H _ I key) fun u s1 ⟨x, H1, I1, rx, G, d, gd, r, po⟩ => ?_
  unfold atD at po
  split at po
  · rename_i c ks xs hi
    obtain ⟨a, dx, fs, rfl, ea, ek, er⟩ := ins_of gd r hi
    obtain rfl : u = Value.ref a := rx
    split at po
    · rename_i g hg
      obtain ⟨CX, E, We, k, pa, ga, fd, ps, cl, pr, F, hr, hb, hx, hW, hl, nx⟩ := (hp c g hg).ex
      refine getprop_ok I1 ea cl pr F hr hb (.nil : Vals [] []) hx ?_
      have po0 : PoV p W0 G σ (g [d] G.st) Q := by
        rcases nx with nx | nx
        · rw [← nx]; exact po
        · exact PoV.noexc po fun c ks xs s' => nx _ _ c ks xs s'
      exact sp_of hl hW gd (.cons r .nil) po0
    · split at po
      · rename_i e2 h1 h2
        obtain ⟨v, lv, rv⟩ := lk_of ek er h2
        obtain ⟨cl, na⟩ := hf c h1
        rw [hn] at lv
        exact getattr_ok I1 ea cl na lv fun u' s' I' ru => ⟨v, H1, I', ru, Po.ret po GX.rfl' rfl gd rv⟩
      · exact po.elim
  · exact po.elim
end
/-! ### o.m(..) -/
structure MtC (p : Pg) (X : Cx) (W : WX) (c : Nat) (m : Str) (g : List DV → Sto → R DV) : Prop where
  ex : ∃ (CX : CXT) (E : XK) (We : XK → WX) (k : Nat) (f : Addr) (fd : FuncData) (ps : List Str) (dvs : List V) (dsv : List Value) (ds0 : List DV) (g0 : List DV → Sto → R DV),
    Cls X.K (p.cA c) ∧ Meth X.K (p.cA c) m f ∧ FnOk X.prog X.w X.K X.mg X.base CX k f fd ps (spD p We ps.length g0) ∧ Room k X.A ∧ Binds X.K fd ps dsv ∧ Vals dvs dsv ∧ (∀ F μ, Rps p F μ ds0 dvs) ∧ Passes CX X E ∧ (∀ c d σ H, W c d σ H → We E c d [] H) ∧ (∀ ds s, ds.length ≠ ps.length → g0 ds s = .bad) ∧ g = fun l s => g0 (l ++ ds0) s
@[simp] def gMeth (nF : Nat) (sel : Sel) (go : GE) (gl : GL) : GE := fun ρ s => (go ρ s).bind fun o s1 => match insS s1 o with
  | some (c, ks, _) => match sel c, ks.all (fun k => decide (k < nF)) with
    | some g, true => (gl ρ s1).bind fun l s2 => g (o :: l) s2
    | _, _ => .bad
  | none => .bad
section
variable {o e : Expr} {es : List Expr} {m : Str} {pos apos : Pos} {go : GE} {gl : GL} {sel : Sel} {nF : Nat} {pl : Sem Bool}
theorem meth_at {G : Gh} {H : Hp} {σ : L2.St} {d : DV} {v : V} {ρ : En} {Q : VK} (hs : ∀ c g, sel c = some g → MtC p X W c m g) (hF : ∀ k, k < nF → p.nm k ≠ m) (gd : Gd p G H) (r : Rp p G.F G.μ d v)
    (po : PoV p W G σ (match insS G.st d with
      | some (c, ks, _) => match sel c, ks.all (fun k => decide (k < nF)) with
        | some g, true => (gl ρ G.st).bind fun l s2 => g (d :: l) s2
        | _, _ => .bad
      | none => .bad) Q) :
    ∃ c a dx fs g, v = .ref a ∧ H a = some (.ins (p.cA c) dx fs) ∧ fs.lookup m = none ∧ MtC p X W c m g ∧ PoV p W G σ ((gl ρ G.st).bind fun l s2 => g (d :: l) s2) Q := by
  split at po
  · rename_i c ks xs hi
    split at po
    · rename_i g h1 h2
      obtain ⟨a, dx, fs, rfl, ea, ek, er⟩ := ins_of gd r hi
      exact ⟨c, a, dx, fs, g, rfl, ea, lk_none ek fun k hk => hF k (of_decide_eq_true (List.all_eq_true.mp h2 k hk)), hs c g h1, po⟩
    · exact po.elim
  · exact po.elim
theorem qmeth (ho : PE X o (rd p W go)) (hs : ∀ c g, sel c = some g → MtC p X W c m g) (hF : ∀ k, k < nF → p.nm k ≠ m) (ha : PA X (e :: es) (rdL p W gl))
    (hst : starEach (e :: es) X.env = (false, eval e X.env) :: starEach es X.env := by rfl) (hpl : (backTo pos (starEach es X.env)).any (·.1) = false := by rfl)
    (ht : eval (.Call (.Attribute o m apos) (e :: es) [] pos) X.env = (do
      let r ← eval o X.env
      standAt apos.atName
      let (f, first) ← holding [r] (getMethod r m pl)
      callWith pos f first (backTo pos (starEach (e :: es) X.env)) (backToKw pos (keywordEach [] X.env))) := by rfl) :
    PE X (.Call (.Attribute o m apos) (e :: es) [] pos) (rd p W (gMeth nF sel go gl)) := by
  refine ⟨fun pins s σ H Q I ⟨G, ρ, gd, en, po⟩ => ?_⟩
  refine PySem.W.methodCall_KW (pl := pl) (thn (ho.run pins s σ H _ I ⟨G, ρ, gd, en, Po.bind po⟩) fun u s1 ⟨x, H1, I1, rx, G1, d, x1, gd1, r1, po1⟩ => ?_) ht
  obtain ⟨c, a, dx, fs, g, rfl, ea, el, C, po2⟩ := meth_at hs hF gd1 r1 po1
  obtain ⟨CX, E, We, k, f, fd, ps, dvs, dsv, ds0, g0, cl, hm, F, hr, hb, hd, h0, hx, hW, hl, rfl⟩ := C.ex
  obtain rfl : u = Value.ref a := rx
  refine getmeth_ok I1 ea cl hm el ?_
  refine PySem.W.callWith_K (first := [.ref a]) (h₀ := X.base) I.ok.mod.kin hm.kp (thn (ha.run pos pins s1 σ H1 _ I1 ⟨G1, ρ, gd1, en.gx x1, Po.bind po2⟩) fun us s2 ⟨vs, H2, I2, rv, G2, l, x2, gd2, r2, po3⟩ => ⟨I2.kIn, ?_⟩) hst hpl
  refine run_fn (us := .ref a :: us) (vs := .ref a :: vs) F hr hb hd hx I2 (.cons rfl rv) ?_
  exact sp_of (ds := (d :: l) ++ ds0) hl hW gd2 ((Rps.cons (Rg.gx r1 x2) r2).app (h0 _ _)) po3
theorem qmeth0 (ho : PE X o (rd p W go)) (hs : ∀ c g, sel c = some g → MtC p X W c m g) (hF : ∀ k, k < nF → p.nm k ≠ m)
    (ht : eval (.Call (.Attribute o m apos) [] [] pos) X.env = (do
      let r ← eval o X.env
      standAt apos.atName
      let (f, first) ← holding [r] (getMethod r m pl)
      callWith pos f first (backTo pos (starEach [] X.env)) (backToKw pos (keywordEach [] X.env))) := by rfl) :
    PE X (.Call (.Attribute o m apos) [] [] pos) (rd p W (gMeth nF sel go gNil)) := by
  refine ⟨fun pins s σ H Q I ⟨G, ρ, gd, en, po⟩ => ?_⟩
  refine PySem.W.methodCall_KW (pl := pl) (thn (ho.run pins s σ H _ I ⟨G, ρ, gd, en, Po.bind po⟩) fun u s1 ⟨x, H1, I1, rx, G1, d, x1, gd1, r1, po1⟩ => ?_) ht
  obtain ⟨c, a, dx, fs, g, rfl, ea, el, C, po2⟩ := meth_at hs hF gd1 r1 po1
  obtain ⟨CX, E, We, k, f, fd, ps, dvs, dsv, ds0, g0, cl, hm, F, hr, hb, hd, h0, hx, hW, hl, rfl⟩ := C.ex
  obtain rfl : u = Value.ref a := rx
  refine getmeth_ok I1 ea cl hm el ?_
  refine PySem.W.callWith_K0 I1.kIn hm.kp ?_
  refine run_fn (us := [.ref a]) (vs := [.ref a]) F hr hb hd hx I1 (.cons rfl .nil) ?_
  exact sp_of (ds := [d] ++ ds0) hl hW gd1 ((Rps.cons r1 .nil).app (h0 _ _)) po2
end

/-! ### o.f = e in a method; o[i] = e; built-in functions and methods -/
@[simp] def putK (n : Nat) (d : DV) : List Nat → List DV → List Nat × List DV
  | k :: ks, x :: xs => match decide (k = n) with
    | true => (k :: ks, d :: xs)
    | false => match putK n d ks xs with
      | (a, b) => (k :: a, x :: b)
  | _, _ => ([n], [d])
@[simp] def fldD (n : Nat) (fc : Nat → Bool) (o d : DV) (s : Sto) : Option Sto := match o with
  | .mr k => match s[k]? with
    | some (some (.ins c ks xs)) => match fc c && decide (ks.length < 999) with
      | true => match putK n d ks xs with
        | (a, b) => some (s.set k (some (.ins c a b)))
      | false => none
    | _ => none
  | _ => none
theorem put_of {F : Hp} {μ : List Addr} {n : Nat} {d : DV} {v : V} (r : Rp p F μ d v) : ∀ {ks : List Nat} {xs : List DV} {fs : List (Str × V)}, fs.map (·.1) = ks.map p.nm → Rps p F μ xs (fs.map (·.2)) →
    (putF (p.nm n) v fs).map (·.1) = (putK n d ks xs).1.map p.nm ∧ Rps p F μ (putK n d ks xs).2 ((putF (p.nm n) v fs).map (·.2))
  | [], [], [], _, _ => ⟨rfl, .cons r .nil⟩
  | [], _ :: _, [], _, t => by cases t
  | k :: ks, _, [], hk, _ => by cases hk
  | [], _, _ :: _, hk, _ => by cases hk
  | k :: ks, [], (f, u) :: fs, _, t => by cases t
  | k :: ks, x :: xs, (f, u) :: fs, hk, t => by
    cases t with
    | cons t1 t2 =>
      have hk1 : f = p.nm k := by injection hk
      have hk2 : fs.map (·.1) = ks.map p.nm := by injection hk
      unfold putK putF
      by_cases q : k = n
      · subst q
        rw [if_pos hk1, decide_eq_true rfl]
        refine ⟨?_, .cons r t2⟩
        show f :: fs.map (·.1) = p.nm k :: ks.map p.nm
        rw [hk1, hk2]
      · have ne : f ≠ p.nm n := fun z => q (p.nmi _ _ (hk1.symm.trans z))
        rw [if_neg ne, decide_eq_false q]
        obtain ⟨h1, h2⟩ := put_of r hk2 t2
        refine ⟨?_, .cons t1 h2⟩
        show f :: (putF (p.nm n) v fs).map (·.1) = p.nm k :: (putK n d ks xs).1.map p.nm
        rw [hk1, h1]
@[simp] def gFld (n : Nat) (fc : Nat → Bool) (gv go : GE) : GS := fun ρ s => (gv ρ s).toS ρ fun d s1 => (go ρ s1).toS ρ fun o s2 => match fldD n fc o d s2 with
  | some s3 => .nx ρ s3
  | none => .bad
section
variable {o value : Expr} {f : Str} {pos pos' : Pos} {go gv : GE} {n : Nat} {fc : Nat → Bool}
theorem sfld (ho : PE X o (rd p W go)) (hv : PE X value (rd p W gv)) (hf : ∀ c, fc c = true → Cls X.K (p.cA c) ∧ NoAttr X.K (p.cA c) f) (hn : p.nm n = f := by rfl) (hs : swapsWith value (some (.Attribute o f pos')) pos.line X.env = pure false := by rfl) :
    PS X (.Assign [.Attribute o f pos'] value pos) (rdS p W (gFld n fc gv go)) :=
  PS.imp (ps_fld ho hv hs) fun D σ H ⟨G, ρ, gd, en, po⟩ => ⟨G, ρ, gd, en, (PoS.of po en).imp fun y H1 ⟨G1, d, x1, gd1, r1, po1⟩ =>
    ⟨G1, ρ, gd1, en.gx x1, (PoS.of po1 (en.gx x1)).imp fun x H2 ⟨G2, od, x2, gd2, r2, po2⟩ => by
      unfold fldD at po2
      split at po2
      · rename_i s3 h
        split at h
        · rename_i k
          split at h
          · rename_i c ks xs hk
            split at h
            · rename_i hc
              rw [Bool.and_eq_true] at hc
              cases h
              cases r2 with
              | mr hm =>
                obtain ⟨a, e1, e2, dx, fs, e3, e4, e5⟩ := gd2.live k _ hk
                rw [hm] at e1; cases e1
                obtain ⟨cl, na⟩ := hf c hc.1
                obtain ⟨h1, h2⟩ := put_of (n := n) (Rg.gx r1 x2) e4 e5
                rw [hn] at h1 h2
                refine ⟨_, _, dx, fs, rfl, e3, cl, na, ?_, ?_⟩
                · have : fs.length = ks.length := by
                    have := congrArg List.length e4
                    rwa [List.length_map, List.length_map] at this
                  rw [this]
                  have := of_decide_eq_true hc.2
                  omega
                · exact po2 _ σ _ GX.put rfl (gd2.put hm e2 ⟨dx, _, rfl, h1, h2⟩) ((en.gx (x1.trans x2)).gx GX.put)
            · cases h
          · cases h
        · cases h
      · exact po2.elim⟩⟩
/-- o[i] = e, o a list in the making -/
def setD (o i d : DV) (s : Sto) : Option Sto := match o, i with
  | .mr k, .int j => match s[k]? with
    | some (some (.lst xs)) => match ixN xs.length j with
      | some m => some (s.set k (some (.lst (xs.set m d))))
      | none => none
    | _ => none
  | _, _ => none
@[simp] def gSetI (gv go gi : GE) : GS := fun ρ s => (gv ρ s).toS ρ fun d s1 => (go ρ s1).toS ρ fun o s2 => (gi ρ s2).toS ρ fun i s3 => match setD o i d s3 with
  | some s4 => .nx ρ s4
  | none => .bad
theorem sseti {i : Expr} {gi : GE} (hv : PE X value (rd p W gv)) (ho : PE X o (rd p W go)) (hi : PE X i (rd p W gi))
    (ha : ∀ v, assign (.Subscript o i pos') X.env v = (do
      let ov ← holding [v] (eval o X.env)
      let iv ← holding [v, ov] (eval i X.env)
      standAt pos'
      holding [v, ov, iv] (setItem ov iv v)
      release [v, ov, iv] []) := by intro _; rfl)
    (hs : swapsWithSole [.Subscript o i pos'] value pos.line X.env = pure false := by rfl) (hw : swappedStores [.Subscript o i pos'] value X.env = pure none := by rfl)
    (h1 : (assignEach [.Subscript o i pos'] X.env).map (·.2) = [assign (.Subscript o i pos') X.env] := by rfl) :
    PS X (.Assign [.Subscript o i pos'] value pos) (rdS p W (gSetI gv go gi)) :=
  PS.imp (ps_asg hv (pg_sub ho hi set_list ha) hs hw h1) fun D σ H ⟨G, ρ, gd, en, po⟩ => ⟨G, ρ, gd, en, (PoS.of po en).imp fun y H1 ⟨G1, d, x1, gd1, r1, po1⟩ =>
    ⟨G1, ρ, gd1, en.gx x1, (PoS.of po1 (en.gx x1)).imp fun x H2 ⟨G2, od, x2, gd2, r2, po2⟩ =>
      ⟨G2, ρ, gd2, en.gx (x1.trans x2), (PoS.of po2 (en.gx (x1.trans x2))).imp fun z H3 ⟨G3, id, x3, gd3, r3, po3⟩ => by
        unfold setD at po3
        split at po3
        · rename_i s4 h
          split at h
          · rename_i k j
            split at h
            · rename_i xs hk
              split at h
              · rename_i m hm
                cases h
                cases r3
                cases Rg.gx r2 x3 with
                | mr hmu =>
                  obtain ⟨a, e1, e2, vs, e3, e4⟩ := gd3.live _ _ hk
                  rw [hmu] at e1; cases e1
                  refine ⟨_, vs, _, m, rfl, rfl, e3, by rw [← e4.length]; exact hm, ?_⟩
                  exact po3 _ σ _ GX.put rfl (gd3.put hmu e2 ⟨_, rfl, Rps.set (Rg.gx r1 (x2.trans x3)) m e4⟩) ((en.gx (x1.trans (x2.trans x3))).gx GX.put)
              · cases h
            · cases h
          · cases h
        · exact po3.elim⟩⟩⟩
end
/-! ### built-in functions by data -/
def rCal (p : Pg) (W : WX) (g : List DV → Sto → R DV) : List V → Hp → VK → Prop := fun vs H Q => ∃ G ds σ, Gd p G H ∧ Rps p G.F G.μ ds vs ∧ PoV p W G σ (g ds G.st) Q
@[simp] def gB (g : List DV → Sto → R DV) (gl : GL) : GE := fun ρ s => (gl ρ s).bind fun l s1 => g l s1
theorem CallR.of {f : Value} {g : List DV → Sto → R DV} (h : ∀ (G : Gh) (H : Hp) (σ : L2.St) (ds : List DV) (vs : List V) (Q : VK), Gd p G H → Rps p G.F G.μ ds vs → PoV p W G σ (g ds G.st) Q →
      ∃ r : List V → Hp → VK → Prop, CallR X f r ∧ r vs H Q) : CallR X f (rCal p W g) := fun pins s σ H vs us Q I r ⟨G, ds, σ', gd, rs, po⟩ => by
  obtain ⟨q, hq, z⟩ := h G H σ' ds vs Q gd rs po
  exact hq pins s σ H vs us Q I r z
section
variable {x : Str} {pp pos : Pos} {e : Expr} {es : List Expr} {gl : GL} {g : List DV → Sto → R DV} {id T : String}
theorem tcb_of {σ : L2.St} {H : Hp} {Q : VK} (h : rd p W (gB g gl) σ H Q) : tCB (rCal p W g) (rdL p W gl) σ H Q := by
  obtain ⟨G, ρ, gd, en, po⟩ := h
  exact ⟨G, ρ, gd, en, (Po.bind po).imp fun vs H1 ⟨G1, l, x1, gd1, r1, po1⟩ => ⟨G1, l, σ, gd1, r1, po1⟩⟩
theorem qblt (hc : CallR X (.builtin id) (rCal p W g)) (hm : X.mg x = none) (hg : Gl X x) (hv : bootBuiltins x = some (.builtin id)) (ha : PA X (e :: es) (rdL p W gl)) (hn : x ≠ "__name__" := by decide) (hdb : (x == ("__debug__" : Str)) = false := by decide)
    (he : starEach (e :: es) X.env = (false, eval e X.env) :: starEach es X.env := by rfl) (hpl : (backTo pos (starEach es X.env)).any (·.1) = false := by rfl) : PE X (.Call (.Name x pp) (e :: es) [] pos) (rd p W (gB g gl)) :=
  PE.imp (pe_callB hc hg hm hv ha hn hdb he hpl) fun σ H Q h => tcb_of h
theorem qbty (hc : CallR X (.type T) (rCal p W g)) (hm : X.mg x = none) (hg : Gl X x) (hv : bootBuiltins x = some (.type T)) (ha : PA X (e :: es) (rdL p W gl)) (hn : x ≠ "__name__" := by decide) (hdb : (x == ("__debug__" : Str)) = false := by decide)
    (he : starEach (e :: es) X.env = (false, eval e X.env) :: starEach es X.env := by rfl) (hpl : (backTo pos (starEach es X.env)).any (·.1) = false := by rfl) : PE X (.Call (.Name x pp) (e :: es) [] pos) (rd p W (gB g gl)) :=
  PE.imp (pe_callTy hc hg hm hv ha hn hdb he hpl) fun σ H Q h => tcb_of h
/-- a built-in that the module has by its own name (gcd) -/
theorem qbfn (hc : CallR X (.builtin id) (rCal p W g)) (hm : X.mg x = some (.builtin id)) (hg : Gl X x) (ha : PA X (e :: es) (rdL p W gl)) (hdb : (x == ("__debug__" : Str)) = false := by decide)
    (he : starEach (e :: es) X.env = (false, eval e X.env) :: starEach es X.env := by rfl) (hpl : (backTo pos (starEach es X.env)).any (·.1) = false := by rfl) : PE X (.Call (.Name x pp) (e :: es) [] pos) (rd p W (gB g gl)) :=
  PE.imp (pe_callBfun hc hg hm ha hdb he hpl) fun σ H Q h => tcb_of h
end
def lenD : List DV → Sto → R DV
  | [.str z], s => okIf (decide (z.length ≤ sizeLine)) (.int z.length) s
  | [d], s => match seqS s d with
    | some xs => .ok (.int xs.length) s
    | none => .bad
  | _, _ => .bad
theorem opd_len (hK : X.K = p.K) : CallR X (.builtin "len") (rCal p W lenD) := CallR.of fun G H σ ds vs Q gd rs po => by
  unfold lenD at po
  split at po
  · cases rs with
    | cons r t =>
      cases t; cases r
      obtain ⟨c, po⟩ := okIf_po po
      exact ⟨_, call_len, _, _, rfl, ⟨of_decide_eq_true c, rfl⟩, Po.ret po GX.rfl' rfl gd (.int _)⟩
  · cases rs with
    | cons r t =>
      cases t
      split at po
      · rename_i xs e
        obtain ⟨a, vs, rfl, hs, r2⟩ := seq_of gd r e
        refine ⟨_, call_len_seq, a, vs, rfl, by rw [hK]; exact hs, ?_⟩
        rw [← r2.length]
        exact Po.ret po GX.rfl' rfl gd (.int _)
      · exact po.elim
  · exact po.elim
@[simp] def absD : List DV → Sto → R DV
  | [.int i], s => .ok (.int (if i < 0 then -i else i)) s
  | _, _ => .bad
theorem opd_abs : CallR X (.builtin "abs") (rCal p W absD) := CallR.of fun G H σ ds vs Q gd rs po => by
  unfold absD at po
  split at po
  · cases rs with
    | cons r t => cases t; cases r; exact ⟨_, call_abs, _, rfl, Po.ret po GX.rfl' rfl gd (.int _)⟩
  · exact po.elim
@[simp] def maxD : List DV → Sto → R DV
  | [.int i, .int j], s => .ok (.int (if j > i then j else i)) s
  | _, _ => .bad
@[simp] def minD : List DV → Sto → R DV
  | [.int i, .int j], s => .ok (.int (if j < i then j else i)) s
  | _, _ => .bad
theorem opd_max (hc : X.calm = true) : CallR X (.builtin "max") (rCal p W maxD) := CallR.of fun G H σ ds vs Q gd rs po => by
  unfold maxD at po
  split at po
  · cases rs with
    | cons r t => cases t with
      | cons r2 t2 => cases t2; cases r; cases r2; exact ⟨_, call_max2 hc, _, _, rfl, Po.ret po GX.rfl' rfl gd (.int _)⟩
  · exact po.elim
theorem opd_min (hc : X.calm = true) : CallR X (.builtin "min") (rCal p W minD) := CallR.of fun G H σ ds vs Q gd rs po => by
  unfold minD at po
  split at po
  · cases rs with
    | cons r t => cases t with
      | cons r2 t2 => cases t2; cases r; cases r2; exact ⟨_, call_min2 hc, _, _, rfl, Po.ret po GX.rfl' rfl gd (.int _)⟩
  · exact po.elim
@[simp] def intD : List DV → Sto → R DV
  | [.int i], s => .ok (.int i) s
  | [.bl k], s => .ok (.int (if k then 1 else 0)) s
  | _, _ => .bad
theorem opd_int : CallR X (.type "int") (rCal p W intD) := CallR.of fun G H σ ds vs Q gd rs po => by
  unfold intD at po
  split at po
  · cases rs with
    | cons r t => cases t; cases r; exact ⟨_, call_int1, .inl ⟨_, rfl, Po.ret po GX.rfl' rfl gd (.int _)⟩⟩
  · cases rs with
    | cons r t => cases t; cases r; exact ⟨_, call_int1, .inr ⟨_, rfl, Po.ret po GX.rfl' rfl gd (.int _)⟩⟩
  · exact po.elim
def listD : List DV → Sto → R DV
  | [d], s => match seqS s d with
    | some xs => .ok (.lst xs) s
    | none => .bad
  | _, _ => .bad
theorem opd_list (hK : X.K = p.K) : CallR X (.type "list") (rCal p W listD) := CallR.of fun G H σ ds vs Q gd rs po => by
  unfold listD at po
  split at po
  · cases rs with
    | cons r t =>
      cases t
      split at po
      · rename_i xs e
        obtain ⟨a, vs, rfl, hs, r2⟩ := seq_of gd r e
        exact ⟨_, call_list_of, a, vs, rfl, by rw [hK]; exact hs, fun q hq => new_lst gd r2 po hq⟩
      · exact po.elim
  · exact po.elim
@[simp] def gcdD : List DV → Sto → R DV
  | [.int i, .int j], s => .ok (.int (Int.gcd i j : Nat)) s
  | _, _ => .bad
/-! ### built-in methods -/
def appD (k : Nat) (d : DV) (s : Sto) : R DV := match s[k]? with
  | some (some (.lst xs)) => match decide (xs.length < sizeLine) with
    | true => .ok .non (s.set k (some (.lst (xs ++ [d]))))
    | false => .bad
  | _ => .bad
/-- xs.append(e), xs a list in the making -/
@[simp] def gApp (go ge : GE) : GE := fun ρ s => (go ρ s).bind fun o s1 => match o with
  | .mr k => match s1[k]? with
    | some (some (.lst _)) => (ge ρ s1).bind fun d s2 => appD k d s2
    | _ => .bad
  | _ => .bad
theorem qapp {o e : Expr} {go ge : GE} {apos cpos : Pos} (ho : PE X o (rd p W go)) (he : PE X e (rd p W ge))
    (hbase : attributeBase o "append" X.env (eval o X.env) = eval o X.env := by rfl)
    (hfew : ((backTo cpos (starEach [e] X.env)).all (fun x => !x.1) && (backToKw cpos (keywordEach [] X.env)).all (fun x => x.1.isSome)
      && decide ([e].length + ([] : List Keyword).length + (if ([] : List Keyword).isEmpty then 0 else 1) < 30)) = true := by rfl)
    (hline : (apos.endLine == cpos.line) = true := by rfl) (hs : starEach [e] X.env = (false, eval e X.env) :: starEach [] X.env := by rfl) : PE X (.Call (.Attribute o "append" apos) [e] [] cpos) (rd p W (gApp go ge)) :=
  PE.imp (pe_bm PySem.F.plainAttrs_list PySem.F.slot_list_append PySem.F.type_list_append mt_append ho (pa_cons he pa_nil hs) hbase hfew hline hs rfl) fun σ H Q ⟨G, ρ, gd, en, po⟩ => ⟨G, ρ, gd, en, (Po.bind po).imp fun v H1 ⟨G1, od, x1, gd1, r1, po1⟩ => by
    split at po1
    · split at po1
      · rename_i k _ xs hk
        cases r1 with
        | mr hm =>
          obtain ⟨a, e1, e2, vs, e3, e4⟩ := gd1.live k _ hk
          rw [hm] at e1; cases e1
          refine ⟨.inl ⟨rfl, _, SqL.of e3⟩, G1, ρ, gd1, en.gx x1, (Po.bind po1).imp fun u H2 ⟨G2, d, x2, gd2, r2, po2⟩ => ?_⟩
          unfold appD at po2
          split at po2
          · rename_i ys hk2
            split at po2
            · rename_i c
              obtain ⟨b, f1, f2, us, f3, f4⟩ := gd2.live k _ hk2
              have hm2 := x2.m _ _ hm
              rw [hm2] at f1; cases f1
              refine ⟨_, us, u, rfl, rfl, f3, by rw [← f4.length]; exact of_decide_eq_true c, ?_⟩
              exact Po.ret po2 GX.put rfl (gd2.put hm2 f2 ⟨_, rfl, f4.app (.cons r2 .nil)⟩) .non
            · exact po2.elim
          · exact po2.elim
      · exact po1.elim
    · exact po1.elim⟩
end
end Dq

/-! The text's own operators; more built-ins. -/
namespace Dq
open PySem PySem.Spec PyProof.Rows L2
section
variable {p : Pg} {X : Cx} {W : WX}

theorem FnC.run {f : Addr} {g : List DV → Sto → R DV} {ds0 : List DV} (C : FnC p X W f g ds0) {pins : List (Addr × Obj)} {σ σ' : L2.St} {H : Hp} {s : Shared} {us : List Value} {vs : List V} {ds : List DV} {G : Gh} {Q : VK} (I : Inv X pins σ H s) (r : Vals vs us)
    (gd : Gd p G H) (rs : Rps p G.F G.μ ds vs) (po : PoV p W G σ' (g (ds ++ ds0) G.st) Q) : wpAny (model X.prog X.w) X.A (call (.ref f) us) (EP X pins σ Q) X.xe s := by
  obtain ⟨CX, E, We, k, fd, ps, dvs, dsv, F, hr, hb, hd, h0, hx, hW, hl⟩ := C.ex
  exact run_fn F hr hb hd hx I r (sp_of hl hW gd (rs.app (h0 _ _)) po)
/-- the class has the special method name; g is what it does -/
structure SpC (p : Pg) (X : Cx) (W : WX) (c : Nat) (name : Str) (g : List DV → Sto → R DV) : Prop where
  ex : ∃ f, PySem.W.findIn X.K (.ref (p.cA c)) name = some (some (.ref f)) ∧ PySem.W.isFn X.K (.ref f) = true ∧ FnC p X W f g []
theorem inst_at {pins : List (Addr × Obj)} {σ : L2.St} {H : Hp} {s : Shared} {a C dx : Addr} {fs : List (Str × V)} (I : Inv X pins σ H s) (e : H a = some (.ins C dx fs)) : ∃ ox od, PySem.W.InstAt s.heap a ox C od := by
  obtain ⟨mA, O, _⟩ := ins_get I.hok e
  obtain ⟨od, J, _⟩ := O.look
  exact ⟨_, _, J⟩
theorem cmpBack_of {Q : VK} {pins : List (Addr × Obj)} {σ : L2.St} {u : Value} {s : Shared} (h : EP X pins σ Q u s) : PySem.W.CmpBack (EP X pins σ Q) u s := by
  obtain ⟨v, H, I, r, q⟩ := h
  cases u <;> first | exact ⟨v, H, I, r, q⟩ | (cases v <;> first | (obtain ⟨_, r⟩ := r; cases r) | cases r)
/-! ### a op b, a an instance, b one of the same class -/
def ownBin (own : Sel) (g : DV → DV → Sto → R DV) (a b : DV) (s : Sto) : R DV := match insS s a with
  | some (c, _, _) => match own c, insS s b with
    | some f, some (c', _, _) => match decide (c' = c) with
      | true => f [a, b] s
      | false => .bad
    | _, _ => .bad
  | none => g a b s
theorem opd_own {op : Operator} {own : Sel} {g : DV → DV → Sto → R DV} (h : OpR X (binaryOp op) (rOp p W g)) (hs : ∀ c f, own c = some f → SpC p X W c (PySem.dunder op.info.2) f ∧ PySem.W.selfFirst X.K (p.cA c) = true) : OpR X (binaryOp op) (rOp p W (ownBin own g)) :=
  fun pins s σ H x y v u Q I rx ry ⟨G, a, b, σ', gd, ra, rb, po⟩ => by
    unfold ownBin at po
    split at po
    · rename_i c ks xs hi
      split at po
      · rename_i f c' ks' xs' hf hi'
        split at po
        · rename_i hc
          have hc := of_decide_eq_true hc
          subst hc
          obtain ⟨x1, dx, fs, rfl, ea, _, _⟩ := ins_of gd ra hi
          obtain ⟨y1, dy, fs', rfl, eb, _, _⟩ := ins_of gd rb hi'
          obtain rfl : v = Value.ref x1 := rx
          obtain rfl : u = Value.ref y1 := ry
          obtain ⟨ox, od, J⟩ := inst_at I ea
          obtain ⟨oy, od', J'⟩ := inst_at I eb
          obtain ⟨m, hF⟩ := I.fr
          obtain ⟨⟨f1, h1, h2, C⟩, h3⟩ := hs _ f hf
          refine PySem.W.binop_K hF I.ok.mod.kin J J'.type h3 h1 h2 (thn (C.run (Q := Q) I (.cons rfl (.cons rfl .nil) : Vals [.ref x1, .ref y1] [.ref x1, .ref y1]) gd (.cons ra (.cons rb .nil)) (by rw [List.append_nil]; exact po)) fun u s' z => cmpBack_of z)
        · exact po.elim
      · exact po.elim
    · exact h pins s σ H x y v u Q I rx ry ⟨G, a, b, σ', gd, ra, rb, po⟩
/-! ### a == b, a an instance, b one of the same class -/
@[simp] def ownEq (own : Sel) (g : DV → DV → Sto → R DV) (a b : DV) (s : Sto) : R DV := match insS s a with
  | some (c, _, _) => match own c, insS s b with
    | some f, some (c', _, _) => match decide (c' = c) with
      | true => f [a, b] s
      | false => .bad
    | _, _ => .bad
  | none => g a b s
theorem opd_ownEq {own : Sel} {g : DV → DV → Sto → R DV} (hu : X.A.units < cLine) (h : OpR X (compareOp .Eq) (rOp p W g)) (hs : ∀ c f, own c = some f → SpC p X W c "__eq__" f) : OpR X (compareOp .Eq) (rOp p W (ownEq own g)) :=
  fun pins s σ H x y v u Q I rx ry ⟨G, a, b, σ', gd, ra, rb, po⟩ => by
    unfold ownEq at po
    split at po
    · rename_i c ks xs hi
      split at po
      · rename_i f c' ks' xs' hf hi'
        split at po
        · rename_i hc
          have hc := of_decide_eq_true hc
          subst hc
          obtain ⟨x1, dx, fs, rfl, ea, _, _⟩ := ins_of gd ra hi
          obtain ⟨y1, dy, fs', rfl, eb, _, _⟩ := ins_of gd rb hi'
          obtain rfl : v = Value.ref x1 := rx
          obtain rfl : u = Value.ref y1 := ry
          obtain ⟨ox, od, J⟩ := inst_at I ea
          obtain ⟨oy, od', J'⟩ := inst_at I eb
          obtain ⟨m, hF⟩ := I.fr
          obtain ⟨f1, h1, h2, C⟩ := (hs _ f hf).ex
          show wpAny (model X.prog X.w) X.A (richCompare .Eq (.ref x1) (.ref y1)) (EP X pins σ Q) X.xe s
          refine PySem.W.cmp_K (op := .Eq) hu hF I.ok.mod.kin J J'.type (by simp [PySem.W.notFirst]) h1 h2 (thn (C.run (Q := Q) I (.cons rfl (.cons rfl .nil) : Vals [.ref x1, .ref y1] [.ref x1, .ref y1]) gd (.cons ra (.cons rb .nil)) (by rw [List.append_nil]; exact po)) fun u s' z => cmpBack_of z)
        · exact po.elim
      · exact po.elim
    · exact h pins s σ H x y v u Q I rx ry ⟨G, a, b, σ', gd, ra, rb, po⟩
/-! ### -a -/
@[simp] def ownUn (own : Sel) (g : DV → Sto → R DV) (a : DV) (s : Sto) : R DV := match insS s a with
  | some (c, _, _) => match own c with
    | some f => f [a] s
    | none => .bad
  | none => g a s
theorem opd_ownNeg {own : Sel} {g : DV → Sto → R DV} (h : UnR X (unaryOp .USub) (rUn1 p W g)) (hs : ∀ c f, own c = some f → SpC p X W c "__neg__" f) : UnR X (unaryOp .USub) (rUn1 p W (ownUn own g)) :=
  fun pins s σ H x v Q I rx ⟨G, a, σ', gd, ra, po⟩ => by
    unfold ownUn at po
    split at po
    · rename_i c ks xs hi
      split at po
      · rename_i f hf
        obtain ⟨x1, dx, fs, rfl, ea, _, _⟩ := ins_of gd ra hi
        obtain rfl : v = Value.ref x1 := rx
        obtain ⟨ox, od, J⟩ := inst_at I ea
        obtain ⟨f1, h1, h2, C⟩ := (hs _ f hf).ex
        unfold unaryOp
        refine wpAny_holding ?_
        show wpAny _ _ (callSpecial? (.ref x1) "__neg__" >>= _) _ _ _
        refine wpAny_bind (PySem.W.special_fn I.kIn J h1 (beq_iff_eq.mp h2) (thn (C.run (Q := Q) I (.cons rfl .nil : Vals [.ref x1] [.ref x1]) gd (.cons ra .nil) (by rw [List.append_nil]; exact po)) fun u s' z => ?_))
        exact wpAny_pure z
      · exact po.elim
    · exact h pins s σ H x v Q I rx ⟨G, a, σ', gd, ra, po⟩
/-! ### a in b -/
@[simp] def ownIn (neg : Bool) (own : Sel) (g : DV → DV → Sto → R DV) (a b : DV) (s : Sto) : R DV := match insS s b with
  | some (c, _, _) => match own c with
    | some f => (f [b, a] s).bind fun r s1 => match r with
      | .bl k => .ok (.bl (if neg then !k else k)) s1
      | _ => .bad
    | none => .bad
  | none => g a b s
theorem opd_ownIn {own : Sel} {g : DV → DV → Sto → R DV} (h : OpR X (compareOp .In) (rOp p W g)) (hs : ∀ c f, own c = some f → SpC p X W c "__contains__" f) : OpR X (compareOp .In) (rOp p W (ownIn false own g)) :=
  fun pins s σ H x y v u Q I rx ry ⟨G, a, b, σ', gd, ra, rb, po⟩ => by
    unfold ownIn at po
    split at po
    · rename_i c ks xs hi
      split at po
      · rename_i f hf
        obtain ⟨y1, dy, fs', rfl, eb, _, _⟩ := ins_of gd rb hi
        obtain rfl : u = Value.ref y1 := ry
        obtain ⟨ox, od, J⟩ := inst_at I eb
        obtain ⟨m, hF⟩ := I.fr
        obtain ⟨f1, h1, h2, C⟩ := (hs _ f hf).ex
        refine PySem.W.in_K hF I.ok.mod.kin J h1 h2 (thn (C.run I (.cons rfl (.cons rx .nil) : Vals [.ref y1, x] [.ref y1, v]) gd (.cons rb (.cons ra .nil)) (by rw [List.append_nil]; exact Po.bind po)) fun r s' z => ?_)
        obtain ⟨w, H1, I1, rw', G1, d, x1, gd1, r1, po1⟩ := z
        split at po1
        · cases r1
          cases rw'
          exact wpAny_truthy_bool ⟨.bl _, H1, I1, rfl, Po.ret po1 GX.rfl' rfl gd1 (.bl _)⟩
        · exact po1.elim
      · exact po.elim
    · exact h pins s σ H x y v u Q I rx ry ⟨G, a, b, σ', gd, ra, rb, po⟩
theorem opd_ownNotIn {own : Sel} {g : DV → DV → Sto → R DV} (h : OpR X (compareOp .NotIn) (rOp p W g)) (hs : ∀ c f, own c = some f → SpC p X W c "__contains__" f) : OpR X (compareOp .NotIn) (rOp p W (ownIn true own g)) :=
  fun pins s σ H x y v u Q I rx ry ⟨G, a, b, σ', gd, ra, rb, po⟩ => by
    unfold ownIn at po
    split at po
    · rename_i c ks xs hi
      split at po
      · rename_i f hf
        obtain ⟨y1, dy, fs', rfl, eb, _, _⟩ := ins_of gd rb hi
        obtain rfl : u = Value.ref y1 := ry
        obtain ⟨ox, od, J⟩ := inst_at I eb
        obtain ⟨m, hF⟩ := I.fr
        obtain ⟨f1, h1, h2, C⟩ := (hs _ f hf).ex
        refine PySem.W.notIn_K hF I.ok.mod.kin J h1 h2 (thn (C.run I (.cons rfl (.cons rx .nil) : Vals [.ref y1, x] [.ref y1, v]) gd (.cons rb (.cons ra .nil)) (by rw [List.append_nil]; exact Po.bind po)) fun r s' z => ?_)
        obtain ⟨w, H1, I1, rw', G1, d, x1, gd1, r1, po1⟩ := z
        split at po1
        · cases r1
          cases rw'
          exact wpAny_truthy_bool ⟨.bl _, H1, I1, rfl, Po.ret po1 GX.rfl' rfl gd1 (.bl _)⟩
        · exact po1.elim
      · exact po.elim
    · exact h pins s σ H x y v u Q I rx ry ⟨G, a, b, σ', gd, ra, rb, po⟩
/-! ### gcd, divmod -/
theorem opd_gcd : CallR X (.builtin "math.gcd") (rCal p W gcdD) := CallR.of fun G H σ ds vs Q gd rs po => by
  unfold gcdD at po
  split at po
  · cases rs with
    | cons r t => cases t with
      | cons r2 t2 => cases t2; cases r; cases r2; exact ⟨_, cr_gcd, _, _, rfl, Po.ret po GX.rfl' rfl gd (.int _)⟩
  · exact po.elim
def divmodD : List DV → Sto → R DV
  | [.int i, .int j], s => okIf (decide (0 < j) && decide (j.natAbs.log2 < 9000)) (.tup [.int (i / j), .int (i % j)]) s
  | _, _ => .bad
theorem opd_divmod : CallR X (.builtin "divmod") (rCal p W divmodD) := CallR.of fun G H σ ds vs Q gd rs po => by
  unfold divmodD at po
  split at po
  · cases rs with
    | cons r t => cases t with
      | cons r2 t2 =>
        cases t2; cases r; cases r2
        obtain ⟨c, po⟩ := okIf_po po
        rw [Bool.and_eq_true] at c
        exact ⟨_, call_divmodW, _, _, rfl, ⟨of_decide_eq_true c.1, PyProof.noPylong_of_log2 (of_decide_eq_true c.2)⟩, fun q hq => new_tup gd (.cons (.int _) (.cons (.int _) .nil)) po hq⟩
  · exact po.elim

/-! ### isinstance(x, a class) -/
inductive Ty where
  | bi (n : String) | own (c : Nat)
def tyD (s : Sto) : DV → Option Ty
  | .non => some (.bi "NoneType")
  | .bl _ => some (.bi "bool")
  | .int _ => some (.bi "int")
  | .str _ => some (.bi "str")
  | .lst _ => some (.bi "list")
  | .wl _ => some (.bi "list")
  | .tup _ => some (.bi "tuple")
  | .ins c _ _ => some (.own c)
  | .mr k => match s[k]? with
    | some (some (.lst _)) => some (.bi "list")
    | some (some (.ins c _ _)) => some (.own c)
    | _ => none
def Ty.val (p : Pg) : Ty → Value
  | .bi n => .type n
  | .own c => .ref (p.cA c)
/-- what isinstance wants of a class of the text -/
structure IsC (p : Pg) (K : PySem.W.Frag) (c : Nat) : Prop where
  cl : Cls K (p.cA c)
  ha : PySem.W.findIn K (.ref (p.cA c)) "__class__" = some (some (.builtin "object.__class__"))
  hn : PySem.W.specialIn K (.builtin "object.__class__") "__get__" = some (some (.builtin "getset_descriptor.__get__"))
  hk : PySem.W.takesIn K (.builtin "object.__class__") = some true
  hm : PySem.W.mroIn K (p.cA c) (.type "object") = some true
def sqTy (K : PySem.W.Frag) (H : Hp) (a : Addr) (xs : List V) (h : SqL K H a xs) : TyX K H (.ref a) (.type "list") := by
  rcases h with (h | ⟨o, h⟩) | ⟨o, its, n, h1, h2, _⟩
  · exact .base (.lst h)
  · exact .base (.frz h)
  · exact .kList h1 h2
def tqTy (K : PySem.W.Frag) (H : Hp) (a : Addr) (xs : List V) (h : SqT K H a xs) : TyX K H (.ref a) (.type "tuple") := by
  rcases h with (h | ⟨o, h⟩) | ⟨o, its, n, h1, h2, _⟩
  · exact .base (.tup h)
  · exact .fTuple h
  · exact .kTuple h1 h2
theorem ty_of {G : Gh} {H : Hp} (gd : Gd p G H) {d : DV} {v : V} {t : Ty} (hc : ∀ c, t = .own c → IsC p p.K c) (r : Rp p G.F G.μ d v) (h : tyD G.st d = some t) : TyX p.K H v (t.val p) := by
  have own : ∀ {c : Nat} {a dx : Addr} {fs : List (Str × V)}, t = .own c → H a = some (.ins (p.cA c) dx fs) → TyX p.K H (.ref a) (Ty.val p (.own c)) := fun e ea =>
    let z := hc _ e; .base (.ins ea z.cl z.ha z.hn z.hk z.hm)
  unfold tyD at h
  split at h
  · cases h; cases r; exact .base .non
  · cases h; cases r; exact .base (.bl _)
  · cases h; cases r; exact .base (.int _)
  · cases h; cases r; exact .base (.str _)
  · cases h; cases r with
    | lst a rs => exact sqTy _ _ _ _ (SqL.of (gd.le _ _ a))
  · cases h; cases r with
    | wl a rs => exact sqTy _ _ _ _ (sqL_up gd.le a)
  · cases h; cases r with
    | tup a rs => exact tqTy _ _ _ _ (sqT_up gd.le a)
  · cases h; cases r with
    | ins a k rs => exact own rfl (gd.le _ _ a)
  · cases r with
    | mr hm =>
      split at h
      · rename_i xs e
        cases h
        obtain ⟨a, e1, e2, vs, e3, e4⟩ := gd.live _ _ e
        rw [hm] at e1; cases e1
        exact sqTy _ _ _ _ (SqL.of e3)
      · rename_i c ks xs e
        cases h
        obtain ⟨a, e1, e2, dx, fs, e3, e4, e5⟩ := gd.live _ _ e
        rw [hm] at e1; cases e1
        exact own rfl e3
      · cases h
/-- isinstance(x, C): the answers for one C by the type of x -/
def isiD (ans : Ty → Option Bool) (d : DV) (s : Sto) : R DV := match tyD s d with
  | some t => match ans t with
    | some b => .ok (.bl b) s
    | none => .bad
  | none => .bad
theorem qisi {x : Str} {pp pos : Pos} {e c : Expr} {ge : GE} {cv : V} {cu : Value} {ans : Ty → Option Bool} (hm : X.mg x = none) (hg : Gl X x) (hv : bootBuiltins x = some (.builtin "isinstance")) (he : PE X e (rd p W ge)) (hc : PE X c (tC cv)) (hcu : ClsV cv cu) (hK : X.K = p.K)
    (ha : ∀ t b, ans t = some b → PySem.W.kitOne p.K (t.val p) cu = some b ∧ ∀ c, t = .own c → IsC p p.K c)
    (hn : x ≠ "__name__" := by decide) (hdb : (x == ("__debug__" : Str)) = false := by decide)
    (hse : starEach [e, c] X.env = (false, eval e X.env) :: starEach [c] X.env := by rfl) (hse2 : starEach [c] X.env = (false, eval c X.env) :: starEach [] X.env := by rfl) (hpl : (backTo pos (starEach [c] X.env)).any (·.1) = false := by rfl) :
    PE X (.Call (.Name x pp) [e, c] [] pos) (rd p W (gUn (isiD ans) ge)) :=
  PE.imp (pe_callB call_isi hg hm hv (pa_cons he (pa_cons hc pa_nil hse2) hse) hn hdb hse hpl) fun σ H Q ⟨G, ρ, gd, en, po⟩ => ⟨G, ρ, gd, en, (Po.bind po).imp fun v H1 ⟨G1, d, x1, gd1, r1, po1⟩ => by
    unfold isiD at po1
    split at po1
    · rename_i t ht
      split at po1
      · rename_i b hb
        obtain ⟨h1, h2⟩ := ha t b hb
        exact ⟨v, cv, _, cu, b, rfl, hcu, by rw [hK]; exact ty_of gd1 h2 r1 ht, by rw [hK]; exact h1, Po.ret po1 GX.rfl' rfl gd1 (.bl _)⟩
      · exact po1.elim
    · exact po1.elim⟩
end
end Dq

/-! Defs in a row; the head. -/
namespace Dq
open PySem PySem.Spec PyProof.Rows L2

/-! ### a def that hands back what it made, not frozen -/
def RS.finK : RS → R DV
  | .nx _ s => .ok .non s
  | .rt d s => .ok d s
  | .exc c ks xs _ s => .exc c ks xs s
  | _ => .bad
def runK (N n : Nat) (b : GS) : List DV → Sto → R DV := fun ds s => match decide (ds.length = n) with
  | true => (b (ds.map some ++ List.replicate (N - n) none) s).finK
  | false => .bad
theorem runK_len {N n : Nat} {b : GS} {ds : List DV} {s : Sto} (h : ds.length ≠ n) : runK N n b ds s = .bad := by
  unfold runK
  rw [decide_eq_false h]
section
variable {p : Pg}
theorem body_ofK {We : XK → WX} (hW : ∀ E c d σ σ' H, We E c d σ H → We E c d σ' H) {N : List Str} {n : Nat} {b : GS} {vs : List V} {H : Hp} {Q : VK} {E : XK} (hn : n ≤ N.length) (h : spD p We n (runK N.length n b) vs H Q E) :
    rdS p (We E) b { nx := fun _ H' => Q .non H', rt := Q } (L2.start N vs) H := by
  obtain ⟨hl, G, ds, gd, r, po⟩ := h
  unfold runK at po
  split at po
  · rename_i c
    have hv : vs.length = n := hl
    refine ⟨G, _, gd, start_en r (by omega), ?_⟩
    rw [hv]
    cases e : b (ds.map some ++ List.replicate (N.length - n) none) G.st with
    | nx ρ s =>
      rw [e] at po
      exact fun G1 σ1 H1 x1 e1 g1 en1 => po G1 .non H1 x1 e1 g1 .non
    | rt d s =>
      rw [e] at po
      exact fun G1 v H1 x1 e1 g1 r1 => po G1 v H1 x1 e1 g1 r1
    | exc c ks xs ρ s =>
      rw [e] at po
      exact fun G1 σ1 H1 d fs x1 e1 g1 en1 hd hk rs => hW E _ _ [] σ1 H1 (po G1 H1 d fs x1 e1 g1 hd hk rs)
    | bk ρ s => rw [e] at po; exact po.elim
    | ct ρ s => rw [e] at po; exact po.elim
    | bad => rw [e] at po; exact po.elim
  · exact po.elim

variable {P : Program} {w : World} {mg : Str → Option Value} {base : Heap}
theorem def0K {K : PySem.W.Frag} {x qual : Str} {params : Arguments} {body : List Stmt} {scope : Scope} {dvs : List V} {kws : List (Str × V)} {f : Addr} {fd : FuncData} {N ps : List Str} {k : Nat} {b : GS} (F : FunD K x qual params body scope dvs kws f fd) (S : FnScope N ps scope) (hn : ps.length ≤ N.length)
    (h : ∀ (cdv : Value) (A : Around) (outer : List Env) (s : Shared) (H : Hp) (E : XK), Room k (A.deeper (envOfC qual scope s.heap.objs.size f cdv)) →
      PSs (cxOf CX0 P w K mg base N qual scope f cdv A outer s H E).nox body (rdS p W0 b)) : FnOk P w K mg base CX0 (k + 1) f fd ps (spD p We0 ps.length (runK N.length ps.length b)) :=
  F.ok S (fun vs H Q E h => h.1) fun cdv A outer s H vs Q E hr hs => ⟨_, PSs.nox (h cdv A outer s H E hr), body_ofK (We := We0) (fun _ _ _ _ _ _ z => z) hn hs⟩

/-! ### what one def has of another -/
/-- the def at f, its parameters ps, does m; called with all its parameters but the last, which have ds0 -/
structure OkD (p : Pg) (P : Program) (w : World) (mg : Str → Option Value) (base : Heap) (lv : Nat) (f : Addr) (n : Nat) (m : List DV → Sto → R DV) (ds0 : List DV) : Prop where
  ex : ∃ fd ps dvs dsv, ps.length = n ∧ FnOk P w p.K mg base CX0 lv f fd ps (spD p We0 n m) ∧ Vals dvs dsv ∧ Binds p.K fd ps dsv ∧ (∀ F μ, Rps p F μ ds0 dvs)
  len : ∀ ds s, ds.length ≠ n → m ds s = .bad
structure OkK (p : Pg) (P : Program) (w : World) (mg : Str → Option Value) (base : Heap) (lv : Nat) (f : Addr) (n : Nat) (m : List DV → Sto → R DV) (npos : Nat) (ks : List Str) (mx : Mix) : Prop where
  ex : ∃ fd ps gg gV, ps.length = n ∧ FnOk P w p.K mg base CX0 lv f fd ps (spD p We0 n m) ∧ KBn p.K fd ps npos ks gg gV ∧
    ∀ (F : Hp) (μ : List Addr) (l z a : List DV) (vs zs : List V), Rps p F μ l vs → Rps p F μ z zs → mx l z = some a → vs.length = npos ∧ zs.length = ks.length ∧ Rps p F μ a (gV vs zs)
  len : ∀ ds s, ds.length ≠ n → m ds s = .bad
section
variable {X : Cx} {lv n : Nat} {f : Addr} {m : List DV → Sto → R DV} {ds0 : List DV}
structure At (X : Cx) (p : Pg) (P : Program) (w : World) (mg : Str → Option Value) (base : Heap) : Prop where
  e1 : X.prog = P
  e2 : X.w = w
  e3 : X.K = p.K
  e4 : X.mg = mg
  e5 : X.base = base
theorem OkD.c (o : OkD p P w mg base lv f n m ds0) (hr : Room lv X.A) (e : At X p P w mg base := by exact ⟨rfl, rfl, rfl, rfl, rfl⟩) : FnC p X W0 f m ds0 := by
  obtain ⟨fd, ps, dvs, dsv, hn, F, hd, hb, h0⟩ := o.ex
  obtain ⟨e1, e2, e3, e4, e5⟩ := e
  subst e1 e2 e4 e5 hn
  rw [← e3] at F hb
  exact ⟨CX0, E0, We0, lv, fd, ps, dvs, dsv, F, hr, hb, hd, h0, pass0, fun _ _ _ _ h => h, o.len⟩
theorem OkD.mk' {c : Nat} (o : OkD p P w mg base lv f n m ds0) (M : Mk X.K (p.cA c) f) (hr : Room (lv + 1) X.A) (e : At X p P w mg base := by exact ⟨rfl, rfl, rfl, rfl, rfl⟩) : MkC p X W0 c m ds0 := by
  obtain ⟨fd, ps, dvs, dsv, hn, F, hd, hb, h0⟩ := o.ex
  obtain ⟨e1, e2, e3, e4, e5⟩ := e
  subst e1 e2 e4 e5 hn
  rw [← e3] at F hb
  exact ⟨CX0, E0, We0, lv, f, fd, ps, dvs, dsv, M, F, hr, hb, hd, h0, pass0, fun _ _ _ _ h => h, o.len⟩
theorem OkD.sp {c : Nat} {name : Str} (o : OkD p P w mg base lv f n m []) (h1 : PySem.W.findIn X.K (.ref (p.cA c)) name = some (some (.ref f))) (h2 : PySem.W.isFn X.K (.ref f) = true) (hr : Room lv X.A) (e : At X p P w mg base := by exact ⟨rfl, rfl, rfl, rfl, rfl⟩) : SpC p X W0 c name m :=
  ⟨f, h1, h2, o.c hr e⟩
theorem OkD.mt {c : Nat} {name : Str} (o : OkD p P w mg base lv f n m ds0) (cl : Cls X.K (p.cA c)) (hm : Meth X.K (p.cA c) name f) (hr : Room lv X.A) (e : At X p P w mg base := by exact ⟨rfl, rfl, rfl, rfl, rfl⟩) : MtC p X W0 c name (fun l s => m (l ++ ds0) s) := by
  obtain ⟨fd, ps, dvs, dsv, hn, F, hd, hb, h0⟩ := o.ex
  obtain ⟨e1, e2, e3, e4, e5⟩ := e
  subst e1 e2 e4 e5 hn
  rw [← e3] at F hb
  exact ⟨CX0, E0, We0, lv, f, fd, ps, dvs, dsv, ds0, m, cl, hm, F, hr, hb, hd, h0, pass0, fun _ _ _ _ h => h, o.len, rfl⟩
theorem OkD.pr {c : Nat} {name : Str} {pa : Addr} (o : OkD p P w mg base lv f n m []) (cl : Cls X.K (p.cA c)) (hp : PropOf X.K (p.cA c) name pa f) (hr : Room (lv + 1) X.A) (e : At X p P w mg base := by exact ⟨rfl, rfl, rfl, rfl, rfl⟩) : PrC p X W0 c name m := by
  obtain ⟨fd, ps, dvs, dsv, hn, F, hd, hb, h0⟩ := o.ex
  obtain ⟨e1, e2, e3, e4, e5⟩ := e
  subst e1 e2 e4 e5 hn
  rw [← e3] at F hb
  have e6 : dvs = [] := by
    have := h0 (fun _ => none) []
    cases this; rfl
  subst e6
  cases hd
  exact ⟨CX0, E0, We0, lv, pa, f, fd, ps, cl, hp, F, hr, hb, pass0, fun _ _ _ _ h => h, o.len, .inl rfl⟩
theorem OkK.c {npos : Nat} {ks : List Str} {mx : Mix} (o : OkK p P w mg base lv f n m npos ks mx) (hr : Room lv X.A) (e : At X p P w mg base := by exact ⟨rfl, rfl, rfl, rfl, rfl⟩) : FnK p X W0 f m npos ks mx := by
  obtain ⟨fd, ps, gg, gV, hn, F, hb, h0⟩ := o.ex
  obtain ⟨e1, e2, e3, e4, e5⟩ := e
  subst e1 e2 e4 e5 hn
  rw [← e3] at F hb
  exact ⟨CX0, E0, We0, lv, fd, ps, gg, gV, F, hr, hb, pass0, fun _ _ _ _ h => h, o.len, h0⟩
/-- an __init__ called by keywords: mx tells the parameters behind self -/
structure OkMK (p : Pg) (P : Program) (w : World) (mg : Str → Option Value) (base : Heap) (lv : Nat) (f : Addr) (n : Nat) (m : List DV → Sto → R DV) (npos : Nat) (ks : List Str) (mx : Mix) : Prop where
  ex : ∃ fd ps gg gV, ps.length = n ∧ FnOk P w p.K mg base CX0 lv f fd ps (spD p We0 n m) ∧ KBn p.K fd ps (npos + 1) ks gg gV ∧
    ∀ (F : Hp) (μ : List Addr) (l z a : List DV) (vs zs : List V) (u : V), Rps p F μ l vs → Rps p F μ z zs → mx l z = some a → vs.length = npos ∧ zs.length = ks.length ∧ ∃ vs', gV (u :: vs) zs = u :: vs' ∧ Rps p F μ a vs'
  len : ∀ ds s, ds.length ≠ n → m ds s = .bad
theorem OkMK.mk' {c npos : Nat} {ks : List Str} {mx : Mix} (o : OkMK p P w mg base lv f n m npos ks mx) (M : Mk X.K (p.cA c) f) (hr : Room (lv + 1) X.A) (e : At X p P w mg base := by exact ⟨rfl, rfl, rfl, rfl, rfl⟩) : MkK p X W0 c m npos ks mx := by
  obtain ⟨fd, ps, gg, gV, hn, F, hb, h0⟩ := o.ex
  obtain ⟨e1, e2, e3, e4, e5⟩ := e
  subst e1 e2 e4 e5 hn
  rw [← e3] at F hb
  exact ⟨CX0, E0, We0, lv, f, fd, ps, gg, gV, M, F, hr, hb, pass0, fun _ _ _ _ h => h, o.len, h0⟩
end
end
/-! ### attributes' names by number -/
def nmOf (l : List Str) (i : Nat) : Str := match l[i]? with
  | some x => x
  | none => ⟨#[i + 2000000]⟩
theorem nmOf_inj {l : List Str} (hn : l.Nodup) (hs : l.all (fun x => !(x.cps.size == 1)) = true) (i j : Nat) (e : nmOf l i = nmOf l j) : i = j := by
  have one : ∀ (x : Str) (k : Nat), x ∈ l → x = ⟨#[k]⟩ → False := fun x k hx q => by
    have := List.all_eq_true.mp hs x hx
    rw [q] at this
    simp at this
  unfold nmOf at e
  cases h1 : l[i]? with
  | none =>
    cases h2 : l[j]? with
    | none =>
      rw [h1, h2] at e
      simp only [PySem.Str.mk.injEq] at e
      have := congrArg (fun a : Array Nat => a[0]?) e
      simp at this
      omega
    | some y => rw [h1, h2] at e; exact (one y _ (List.mem_of_getElem? h2) e.symm).elim
  | some x =>
    cases h2 : l[j]? with
    | none => rw [h1, h2] at e; exact (one x _ (List.mem_of_getElem? h1) e).elim
    | some y =>
      rw [h1, h2] at e
      simp only at e
      subst e
      obtain ⟨a, b⟩ := List.getElem?_eq_some_iff.mp h1
      obtain ⟨c, d⟩ := List.getElem?_eq_some_iff.mp h2
      exact (List.getElem_inj hn).mp (b.trans d.symm)

/-! ### the head: defs at any place, facts by truth -/
abbrev FnQ : Type := Option (Str × Str × Arguments × FuncBody × Scope × Addr × List (Str × Addr) × Addr)
def fnQ (K : PySem.W.Frag) (a : Addr) : FnQ := match K.lookup a with
  | some ⟨_, _, .func fd, _⟩ => some (fd.name, fd.qualname, fd.params, fd.body, fd.scope, fd.globals, fd.closure, fd.builtins)
  | _ => none
structure DefQ where
  place : PySem.W.Frag → Addr
  name : Str
  qual : Str
  params : Arguments
  body : List Stmt
  scope : Scope
  dfl : List He.Dv := []
  kwd : List (Str × He.Dv) := []
def DefQ.val (d : DefQ) : FnQ := some (d.name, d.qual, d.params, .stmts d.body, d.scope, mainGlobals, [], builtinsNs)
def DefQ.ok (K : PySem.W.Frag) (d : DefQ) : Bool := PySem.W.keepIn K (.ref (d.place K)) && (match K.lookup (d.place K) with
  | some ⟨_, _, .func fd, _⟩ => PySem.W.codeIn K fd.code d.qual && (He.dflB K fd.defaults (d.dfl.map (He.Dv.v K)) && He.kwdB K fd.kwdefaults (d.kwd.map fun q => (q.1, q.2.v K)))
  | _ => false)
theorem DefQ.fun_ {K : PySem.W.Frag} {d : DefQ} (e : fnQ K (d.place K) = d.val) (c : d.ok K = true) : ∃ fd, FunD K d.name d.qual d.params d.body d.scope (d.dfl.map (He.Dv.v K)) (d.kwd.map fun q => (q.1, q.2.v K)) (d.place K) fd := by
  unfold DefQ.ok at c
  rw [Bool.and_eq_true] at c
  obtain ⟨kp, c2⟩ := c
  unfold fnQ at e
  split at e
  · rename_i oc od fd osl h
    rw [h] at c2
    simp only [Bool.and_eq_true] at c2
    obtain ⟨k1, k2, k3⟩ := c2
    obtain ⟨n1, n2, n3, n4, n5, n6, n7, n8, n9, n10, n11, n12, n13, n14, n15⟩ := fd
    unfold DefQ.val at e
    simp only [Option.some.injEq, Prod.mk.injEq] at e
    obtain ⟨h1, h2, h3, h4, h5, h6, h7, h8⟩ := e
    subst h1 h2 h3 h4 h5 h6 h7 h8
    exact ⟨_, ⟨oc, od, n8, n9, n10, n11, n12, n13, n14, osl, rfl, h, k1, He.dflB_ok k2, He.kwdB_ok k3⟩, kp⟩
  · cases e
abbrev AlQ : Type := Bool × List FnQ
def obsQ (fn : List DefQ) (ex : PySem.W.Frag → Bool) (K : PySem.W.Frag) : AlQ := (ex K && fn.all fun d => d.ok K, fn.map fun d => fnQ K (d.place K))
def valQ (fn : List DefQ) : AlQ := (true, fn.map DefQ.val)
def SaysQ (fn : List DefQ) (ex : PySem.W.Frag → Bool) (K : PySem.W.Frag) : Prop := obsQ fn ex K = valQ fn
def obsQG (n : Nat) (fn : List DefQ) (ex : PySem.W.Frag → Bool) (g : Addr → Option Obj) : AlQ := obsQ fn ex (He.frG g (He.asD g n))
def hookQ (n : Nat) (fn : List DefQ) (ex : PySem.W.Frag → Bool) : PySem.W.Hook where
  α := AlQ
  obs := fun s => obsQG n fn ex s.heap.get?
  val := fun _ => valQ fn
  says := fun _ h => ∃ K : PySem.W.Frag, K.In h ∧ SaysQ fn ex K
  of := fun _ _ e => ⟨_, He.frG_in, e⟩
  keeps := fun _ _ _ ⟨K, hK, c⟩ k => ⟨K, PySem.W.Frag.In.keeps hK k, c⟩
theorem obsQG_eq {n : Nat} {fn : List DefQ} {ex : PySem.W.Frag → Bool} {g : Addr → Option Obj} {s : Shared} (h : ∀ a, g a = s.heap.get? a) : obsQG n fn ex g = (hookQ n fn ex).obs s := by
  have e : g = s.heap.get? := funext h
  rw [e]
  rfl
section
variable {fn : List DefQ} {ex : PySem.W.Frag → Bool} {K : PySem.W.Frag}
theorem SaysQ.ex_ (c : SaysQ fn ex K) : ex K = true := by
  have h := congrArg Prod.fst c
  exact (Bool.and_eq_true_iff.mp h).1
theorem SaysQ.fn_ (c : SaysQ fn ex K) (i : Nat) {d : DefQ} (h : fn[i]? = some d := by rfl) : ∃ fd, FunD K d.name d.qual d.params d.body d.scope (d.dfl.map (He.Dv.v K)) (d.kwd.map fun q => (q.1, q.2.v K)) (d.place K) fd := by
  have h1 : (ex K && fn.all fun d => d.ok K) = true := congrArg Prod.fst c
  have h2 : (fn.map fun d => fnQ K (d.place K)) = fn.map DefQ.val := congrArg Prod.snd c
  have ok := List.all_eq_true.mp (Bool.and_eq_true_iff.mp h1).2 d (List.mem_of_getElem? h)
  refine DefQ.fun_ ?_ ok
  have e := congrArg (fun l : List FnQ => l[i]?) h2
  simp only [List.getElem?_map, h, Option.map_some, Option.some.injEq] at e
  exact e
end
end Dq
namespace Dq
theorem lookup_mem {α β : Type} [BEq α] [LawfulBEq α] {a : α} {b : β} : ∀ {l : List (α × β)}, l.lookup a = some b → (a, b) ∈ l
  | [], h => by cases h
  | (x, y) :: l, h => by
    rw [List.lookup_cons] at h
    split at h
    · rename_i e
      cases h
      have := eq_of_beq e
      subst this
      exact List.mem_cons_self ..
    · exact List.mem_cons_of_mem _ (lookup_mem h)
end Dq
namespace Dq
open PySem PySem.Spec PyProof.Rows L2
section
variable {p : Pg} {P : Program} {w : World} {K : PySem.W.Frag} {mg : Str → Option Value} {base : Heap} {x qual : Str} {params : Arguments} {body : List Stmt} {scope : Scope} {dvs : List V} {kws : List (Str × V)} {f : Addr} {fd : FuncData} {N ps : List Str} {k nN n : Nat} {b : GS} {m : List DV → Sto → R DV}
theorem def0' (F : FunD K x qual params body scope dvs kws f fd) (S : FnScope N ps scope) (hN : N.length = nN) (hp : ps.length = n) (hn : n ≤ nN) (hm : m = run nN n b)
    (h : ∀ (cdv : Value) (A : Around) (outer : List Env) (s : Shared) (H : Hp) (E : XK), Room k (A.deeper (envOfC qual scope s.heap.objs.size f cdv)) →
      PSs (cxOf CX0 P w K mg base N qual scope f cdv A outer s H E).nox body (rdS p W0 b)) : FnOk P w K mg base CX0 (k + 1) f fd ps (spD p We0 n m) := by
  subst hN hp hm
  exact def0 F S hn h
theorem def0K' (F : FunD K x qual params body scope dvs kws f fd) (S : FnScope N ps scope) (hN : N.length = nN) (hp : ps.length = n) (hn : n ≤ nN) (hm : m = runK nN n b)
    (h : ∀ (cdv : Value) (A : Around) (outer : List Env) (s : Shared) (H : Hp) (E : XK), Room k (A.deeper (envOfC qual scope s.heap.objs.size f cdv)) →
      PSs (cxOf CX0 P w K mg base N qual scope f cdv A outer s H E).nox body (rdS p W0 b)) : FnOk P w K mg base CX0 (k + 1) f fd ps (spD p We0 n m) := by
  subst hN hp hm
  exact def0K F S hn h
end
end Dq
namespace Dq
open PySem PySem.Spec PyProof.Rows L2
theorem OkD.mt0 {p : Pg} {P : Program} {w : World} {mg : Str → Option Value} {base : Heap} {X : Cx} {lv n : Nat} {f : Addr} {m : List DV → Sto → R DV} {c : Nat} {name : Str} (o : OkD p P w mg base lv f n m []) (cl : Cls X.K (p.cA c)) (hm : Meth X.K (p.cA c) name f) (hr : Room lv X.A) (e : At X p P w mg base := by exact ⟨rfl, rfl, rfl, rfl, rfl⟩) : MtC p X W0 c name m := by
  have h := o.mt cl hm hr e
  have q : (fun l s => m (l ++ []) s) = m := by
    funext l s
    rw [List.append_nil]
  rw [q] at h
  exact h
end Dq
namespace Dq
open PySem PySem.Spec PyProof.Rows L2
theorem rps_ints {p : Pg} {F : Hp} {μ : List Addr} : ∀ ns : List Int, Rps p F μ (ns.map DV.int) (ns.map V.int)
  | [] => .nil
  | n :: ns => .cons (.int n) (rps_ints ns)
theorem law_sp' {p : Pg} {m : List DV → Sto → R DV} {H : Hp} {a : Addr} {ns : List Int} {s : Sto} (hS : SqL p.K H a (ns.map V.int)) (e : m [.wl (ns.map DV.int)] [] = .ok (.bl true) s) :
    spD p We0 1 m [.ref a] H (fun v _ => v = .bl true) (fun _ _ _ => False) := by
  refine ⟨rfl, ⟨H, [], []⟩, [.wl (ns.map DV.int)], ⟨fun _ _ h => h, rfl, fun k m h => ?_, fun k a h => ?_, fun j k a h => ?_⟩, .cons (.wl hS (rps_ints ns)) .nil, ?_⟩
  · cases k <;> cases h
  · cases k <;> cases h
  · cases j <;> cases h
  · show Po _ _ _ _ _ (m [.wl (ns.map DV.int)] []) _
    rw [e]
    intro G' b H' _ _ _ r
    have r' : Rp p G'.F G'.μ (.bl true) b := r
    cases r'
    rfl
end Dq

namespace Dq
open PySem PySem.Spec PyProof.Rows L2
@[simp] theorem okIf_t (d : DV) (s : Sto) : okIf true d s = .ok d s := rfl
theorem okIf_of {c : Bool} (h : c = true) (d : DV) (s : Sto) : okIf c d s = .ok d s := by subst h; rfl
@[simp] theorem fin_same (s s' : Sto) (d : DV) (h : s'.length = s.length) : RS.fin s (.rt d s') = .ok d s' := by
  show fin s d s' = _
  unfold fin
  simp [h]
@[simp] theorem finN_same (s s' : Sto) (ρ : En) (h : s'.length = s.length) : RS.fin s (.nx ρ s') = .ok .non s' := by
  show fin s .non s' = _
  unfold fin
  simp [h]
theorem cutOk_app (s t : Sto) : cutOk s (s ++ t) = true := by
  unfold cutOk
  rw [List.take_left]
  simp [sameS_rfl]
theorem fin_app (s t : Sto) (d : DV) (t' : Sto) (hf : frz 12 s.length d (s ++ t) = some (d, s ++ t')) (hb : bel s.length d = true) : RS.fin s (.rt d (s ++ t)) = .ok d s := by
  cases t with
  | nil =>
    rw [List.append_nil]
    exact fin_same s s d rfl
  | cons x t =>
    show fin s d _ = _
    unfold fin
    rw [hf]
    have : decide ((s ++ x :: t).length = s.length) = false := by simp
    rw [this]
    simp only
    rw [hb, cutOk_app, List.take_left]
    rfl
theorem makeD_ins {c : Nat} {g : List DV → Sto → R DV} {l : List DV} {s : Sto} {ks : List Nat} {xs : List DV}
    (h : g (.mr s.length :: l) (s ++ [some (.ins c [] [])]) = .ok .non (s ++ [some (.ins c ks xs)])) (hb : bels s.length xs = true) : makeD false c g l s = .ok (.ins c ks xs) s := by
  unfold makeD
  rw [h]
  have e1 : (s ++ [some (MO.ins c ks xs)])[s.length]? = some (some (MO.ins c ks xs)) := by simp
  have e2 : (s ++ [some (MO.ins c ks xs)]).set s.length none = s ++ [none] := by simp [List.set_append]
  simp only [e1, e2]
  simp [hb, cutOk_app]
/-- small enough to be multiplied -/
def Sm (x : Int) : Prop := x.natAbs < 2 ^ 4000
theorem log2_lt {n k : Nat} (h : n < 2 ^ k) (hk : 0 < k) : n.log2 < k := by
  by_cases z : n = 0
  · subst z; simpa using hk
  · exact (Nat.log2_lt z).mpr h
theorem mulOk_of {i j : Int} (hi : Sm i) (hj : Sm j) : mulOk i j = true := by
  unfold mulOk
  have a := log2_lt hi (by decide)
  have b := log2_lt hj (by decide)
  simp only [decide_eq_true_eq]
  omega
theorem divOk_of {j : Int} (h0 : j ≠ 0) (hj : Sm j) : divOk j = true := by
  unfold divOk
  have b := log2_lt hj (by decide)
  simp only [Bool.and_eq_true, decide_eq_true_eq]
  omega
theorem Sm.of {x : Int} {k : Nat} (h : x.natAbs < 2 ^ k) (hk : k ≤ 4000 := by decide) : Sm x := Nat.lt_of_lt_of_le h (Nat.pow_le_pow_right (by decide) hk)
theorem Sm.neg {x : Int} (h : Sm x) : Sm (-x) := by unfold Sm; rw [Int.natAbs_neg]; exact h
theorem mulD_of {i j : Int} (hi : Sm i) (hj : Sm j) (s : Sto) : mulD (.int i) (.int j) s = .ok (.int (i * j)) s := by
  show okIf (mulOk i j) _ s = _
  exact okIf_of (mulOk_of hi hj) _ s
theorem fdivD_of {i j : Int} (h0 : j ≠ 0) (hj : Sm j) (s : Sto) : fdivD (.int i) (.int j) s = .ok (.int (i.fdiv j)) s := by
  show okIf (divOk j) _ s = _
  exact okIf_of (divOk_of h0 hj) _ s
theorem modD_of {i j : Int} (h0 : j ≠ 0) (s : Sto) : modD (.int i) (.int j) s = .ok (.int (i.fmod j)) s := by
  show okIf (decide (j ≠ 0)) _ s = _
  exact okIf_of (by simpa using h0) _ s
theorem shaped_int (i : Int) : SeqAt.shaped (.int i) = true := rfl
theorem shaped_tup2 (i j : Int) : SeqAt.shaped (.tuple [.int i, .int j]) = true := rfl
theorem eqD_int (i j : Int) (s : Sto) : eqD (.int i) (.int j) s = .ok (.bl (decide (i = j))) s := by
  show okIf (SeqAt.shaped (.int i) && SeqAt.shaped (.int j)) (.bl (PyData.eqv (.int i) (.int j))) s = _
  rw [shaped_int, shaped_int]
  show R.ok (DV.bl (PyData.eqv (.int i) (.int j))) s = _
  have : PyData.eqv (.int i) (.int j) = decide (i = j) := by
    unfold PyData.eqv
    by_cases h : i = j <;> simp [h]
  rw [this]
theorem neD_int (i j : Int) (s : Sto) : neD (.int i) (.int j) s = .ok (.bl (!decide (i = j))) s := by
  show okIf (SeqAt.shaped (.int i) && SeqAt.shaped (.int j)) (.bl (!PyData.eqv (.int i) (.int j))) s = _
  rw [shaped_int, shaped_int]
  show R.ok (DV.bl (!PyData.eqv (.int i) (.int j))) s = _
  have : PyData.eqv (.int i) (.int j) = decide (i = j) := by
    unfold PyData.eqv
    by_cases h : i = j <;> simp [h]
  rw [this]
theorem eqD_tup2 (a b c d : Int) (s : Sto) : eqD (.tup [.int a, .int b]) (.tup [.int c, .int d]) s = .ok (.bl (decide (a = c ∧ b = d))) s := by
  show okIf (SeqAt.shaped (.tuple [.int a, .int b]) && SeqAt.shaped (.tuple [.int c, .int d])) (.bl (PyData.eqv (.tuple [.int a, .int b]) (.tuple [.int c, .int d]))) s = _
  rw [shaped_tup2, shaped_tup2]
  show R.ok (DV.bl (PyData.eqv (.tuple [.int a, .int b]) (.tuple [.int c, .int d]))) s = _
  have : PyData.eqv (.tuple [.int a, .int b]) (.tuple [.int c, .int d]) = decide (a = c ∧ b = d) := by
    simp only [PyData.eqv, PyData.eqvAll]
    by_cases h : a = c <;> by_cases h2 : b = d <;> simp [h, h2]
  rw [this]
theorem ixD_tup (xs : List DV) (i : Nat) (s : Sto) (h : i < xs.length) : ixD (.tup xs) (.int i) s = .ok xs[i] s := by
  have : atI xs (i : Int) = some xs[i] := by
    unfold atI L2.ixN
    simp [h]
  simp [ixD, this]
theorem ixD_seq {a : DV} {xs : List DV} {i : Int} {s : Sto} {d : DV} (hs : seqS s a = some xs) (ha : ∀ z, a ≠ .str z) (h0 : 0 ≤ i) (h : xs[i.toNat]? = some d) : ixD a (.int i) s = .ok d s := by
  have hl : i.toNat < xs.length := by
    rcases Nat.lt_or_ge i.toNat xs.length with q | q
    · exact q
    · rw [List.getElem?_eq_none q] at h; cases h
  have : atI xs i = some d := by
    unfold atI L2.ixN
    have : i < xs.length := by omega
    rw [List.getElem?_eq_getElem hl] at h
    injection h with h
    simp [h0, this, h, hl]
  unfold ixD
  cases a with
  | str z => exact absurd rfl (ha z)
  | _ => simp only [hs, this]
theorem rng2_of {i j : Int} (h : -(2 ^ 62) ≤ i ∧ i < 2 ^ 62 ∧ -(2 ^ 62) ≤ j ∧ j < 2 ^ 62) : rng2 [.int i, .int j] = some (i, (j - i).toNat) := by
  show (match decide (-(2 ^ 62) ≤ i ∧ i < 2 ^ 62 ∧ -(2 ^ 62) ≤ j ∧ j < 2 ^ 62) with
    | true => some (i, (j - i).toNat)
    | false => none) = _
  rw [decide_eq_true h]
theorem rng1_of {j : Int} (h : -(2 ^ 62) ≤ j ∧ j < 2 ^ 62) : rng1 [.int j] = some (0, j.toNat) := by
  show (match decide (-(2 ^ 62) ≤ j ∧ j < 2 ^ 62) with
    | true => some ((0 : Int), j.toNat)
    | false => none) = _
  rw [decide_eq_true h]
end Dq

namespace N05
def whole (lt lb : Int) (hl : Bool) : Int := match decide (lt % lb = 0) && hl with
  | true => lt / lb
  | false => lt / lb + 1
def cond (lt lb ht hb : Int) (hl hh : Bool) : Bool := decide (whole lt lb hl * hb < ht) || (decide (whole lt lb hl * hb = ht) && hh)
inductive CF : Int → Int → Int → Int → Bool → Bool → List Int → Int → Int → Int → Prop
  | stop {lt lb ht hb : Int} {hl hh : Bool} : cond lt lb ht hb hl hh = true → CF lt lb ht hb hl hh [] (whole lt lb hl) (whole lt lb hl) 1
  | step {lt lb ht hb : Int} {hl hh : Bool} {fl : List Int} {w a b : Int} : cond lt lb ht hb hl hh = false → 0 < hb → 0 < ht - lt / lb * hb → ht - lt / lb * hb ≤ hb →
      CF hb (ht - lt / lb * hb) lb (lt % lb) hh hl fl w a b → CF lt lb ht hb hl hh (lt / lb :: fl) w (lt / lb * a + b) a
/-- the ratio that floors and a whole number stand for -/
def cfv : List Int → Int → Int × Int
  | [], w => (w, 1)
  | f :: fl, w => (f * (cfv fl w).1 + (cfv fl w).2, (cfv fl w).1)
def OKU (M : Int) : List Int → Int → Prop
  | [], w => 0 ≤ w ∧ w ≤ M
  | f :: fl, w => 0 ≤ f ∧ f ≤ M ∧ 0 ≤ (cfv fl w).1 ∧ (cfv fl w).1 ≤ M ∧ OKU M fl w
structure Inv (lt lb ht hb : Int) (hl hh : Bool) : Prop where
  l0 : 0 ≤ lt
  b0 : 0 < lb
  h0 : 0 ≤ hb
  o : lt * hb < ht * lb ∨ (lt * hb = ht * lb ∧ hl = true ∧ hh = true ∧ 0 < hb)
structure In (lt lb ht hb : Int) (hl hh : Bool) (x y : Int) : Prop where
  p : 0 < y
  l : lt * y < x * lb ∨ (lt * y = x * lb ∧ hl = true)
  h : x * hb < ht * y ∨ (x * hb = ht * y ∧ hh = true)
theorem mul_lt_cancel {a b c : Int} (h : a * c < b * c) (hc : 0 < c) : a < b := Int.lt_of_mul_lt_mul_right h (Int.le_of_lt hc)
theorem lt_tr {a b c d : Int} (h : a < b) (e : a - b = c - d) : c < d := by omega
theorem eq_tr {a b c d : Int} (h : a = b) (e : a - b = c - d) : c = d := by omega
theorem le_tr {a b c d : Int} (h : a ≤ b) (e : a - b = c - d) : c ≤ d := by omega
theorem In.step {lt lb ht hb : Int} {hl hh : Bool} {f r x y : Int} (e : lt = f * lb + r) (i : In lt lb ht hb hl hh x y) (p : 0 < x - f * y) : In hb (ht - f * hb) lb r hh hl y (x - f * y) := by
  subst e
  refine ⟨p, ?_, ?_⟩
  · rcases i.h with h | ⟨h, q⟩
    · exact .inl (lt_tr h (by grind))
    · exact .inr ⟨eq_tr h (by grind), q⟩
  · rcases i.l with h | ⟨h, q⟩
    · exact .inl (lt_tr h (by grind))
    · exact .inr ⟨eq_tr h (by grind), q⟩
theorem In.back {lt lb ht hb : Int} {hl hh : Bool} {f r a b : Int} (e : lt = f * lb + r) (i : In hb (ht - f * hb) lb r hh hl a b) (p : 0 < a) : In lt lb ht hb hl hh (f * a + b) a := by
  subst e
  refine ⟨p, ?_, ?_⟩
  · rcases i.h with h | ⟨h, q⟩
    · exact .inl (lt_tr h (by grind))
    · exact .inr ⟨eq_tr h (by grind), q⟩
  · rcases i.l with h | ⟨h, q⟩
    · exact .inl (lt_tr h (by grind))
    · exact .inr ⟨eq_tr h (by grind), q⟩
theorem g1_ {lt lb f r x y : Int} (e : lt = f * lb + r) (h : lt * y ≤ x * lb) : f * lb * y + r * y ≤ x * lb := by
  subst e
  exact le_tr h (by grind)
theorem g1e {lt lb f r x y : Int} (e : lt = f * lb + r) (h : lt * y = x * lb) : f * lb * y + r * y = x * lb := by
  subst e
  exact eq_tr h (by grind)
theorem g1l {lt lb f r x y : Int} (e : lt = f * lb + r) (h : lt * y < x * lb) : f * lb * y + r * y < x * lb := by
  subst e
  exact lt_tr h (by grind)
theorem g2_ {lb f r hb ht : Int} (h : f * lb * hb + r * hb < ht * lb) : hb * r < lb * (ht - f * hb) := lt_tr h (by grind)
theorem g2e {lb f r hb ht : Int} (h : f * lb * hb + r * hb = ht * lb) : hb * r = lb * (ht - f * hb) := eq_tr h (by grind)
theorem In.le {lt lb ht hb : Int} {hl hh : Bool} {x y : Int} (j : In lt lb ht hb hl hh x y) : lt * y ≤ x * lb := by
  rcases j.l with h | ⟨h, _⟩ <;> omega
/-- a fraction from low on: its top is floor times bottom, or more -/
theorem In.fl {lt lb ht hb : Int} {hl hh : Bool} {f r x y : Int} (e : lt = f * lb + r) (p : 0 < lb) (r0 : 0 ≤ r) (j : In lt lb ht hb hl hh x y) : f * y < x ∨ (f * y = x ∧ r = 0 ∧ hl = true) := by
  have jp := j.p
  have g1 := g1_ e j.le
  have g3 : 0 ≤ r * y := Int.mul_nonneg r0 (Int.le_of_lt jp)
  have q : f * lb * y = f * y * lb := by grind
  have g4 : f * y * lb ≤ x * lb := by omega
  have g5 : f * y ≤ x := Int.le_of_mul_le_mul_right g4 p
  rcases Int.lt_or_eq_of_le g5 with h | h
  · exact .inl h
  · right
    have hx : f * y * lb = x * lb := by rw [h]
    rcases j.l with k | ⟨k, k2⟩
    · have := g1l e k
      omega
    · have := g1e e k
      have z : r * y = 0 := by omega
      refine ⟨h, ?_, k2⟩
      rcases Int.mul_eq_zero.mp z with z | z
      · exact z
      · omega
theorem med {lt lb ht hb : Int} {hl hh : Bool} (i : Inv lt lb ht hb hl hh) : In lt lb ht hb hl hh (lt + ht) (lb + hb) := by
  have := i.b0
  have := i.h0
  refine ⟨by omega, ?_, ?_⟩
  · rcases i.o with o | ⟨o, q1, _, _⟩
    · exact .inl (lt_tr o (by grind))
    · exact .inr ⟨eq_tr o (by grind), q1⟩
  · rcases i.o with o | ⟨o, _, q2, _⟩
    · exact .inl (lt_tr o (by grind))
    · exact .inr ⟨eq_tr o (by grind), q2⟩
theorem cf_min : ∀ (n : Nat) (lt lb ht hb : Int) (hl hh : Bool), Inv lt lb ht hb hl hh → lb + hb ≤ n →
    ∃ fl w a b, CF lt lb ht hb hl hh fl w a b ∧ cfv fl w = (a, b) ∧ (∀ M : Int, lt + 1 ≤ M → lb + hb ≤ M → OKU M fl w) ∧ In lt lb ht hb hl hh a b ∧ 0 ≤ a ∧ Int.gcd a b = 1 ∧ fl.length ≤ n ∧ ∀ x y, In lt lb ht hb hl hh x y → b ≤ y ∧ a ≤ x := by
  intro n
  induction n with
  | zero =>
    intro lt lb ht hb hl hh i h
    have := i.b0; have := i.h0
    omega
  | succ n ih =>
    intro lt lb ht hb hl hh i hn
    have hlb := i.b0
    have hhb := i.h0
    have hl0 := i.l0
    have e : lt = lt / lb * lb + lt % lb := by have := Int.mul_ediv_add_emod lt lb; grind
    have r0 := Int.emod_nonneg lt (Int.ne_of_gt hlb)
    have r1 := Int.emod_lt_of_pos lt hlb
    have f0 : 0 ≤ lt / lb := Int.ediv_nonneg hl0 (Int.le_of_lt hlb)
    by_cases c : cond lt lb ht hb hl hh = true
    · refine ⟨[], _, _, _, .stop c, rfl, fun M m1 m2 => ⟨?_, ?_⟩, ⟨by decide, ?_, ?_⟩, ?_, ?_, Nat.zero_le _, ?_⟩
      · unfold whole; split <;> omega
      · have f1 : lt / lb ≤ lt := Int.ediv_le_self _ hl0
        unfold whole; split <;> omega
      · unfold whole
        split
        · rename_i q
          simp only [Bool.and_eq_true, decide_eq_true_eq] at q
          right; exact ⟨by grind, q.2⟩
        · left; grind
      · unfold cond at c
        simp only [Bool.or_eq_true, Bool.and_eq_true, decide_eq_true_eq] at c
        rcases c with c | ⟨c, d⟩
        · left; grind
        · right; exact ⟨by grind, d⟩
      · unfold whole; split <;> omega
      · simp
      · intro x y j
        have jp := j.p
        refine ⟨by omega, ?_⟩
        have ff : lt / lb ≤ lt / lb * y := by
          have := Int.mul_le_mul_of_nonneg_left (show (1 : Int) ≤ y by omega) f0
          omega
        rcases j.fl e hlb r0 with h | ⟨h, h2, h3⟩
        · unfold whole
          split <;> omega
        · have w : whole lt lb hl = lt / lb := by unfold whole; simp [h2, h3]
          rw [w]
          omega
    · have c' : cond lt lb ht hb hl hh = false := by simpa using c
      have cc := c'
      unfold cond at cc
      simp only [Bool.or_eq_false_iff, Bool.and_eq_false_iff, decide_eq_false_iff_not] at cc
      obtain ⟨c1, c2⟩ := cc
      -- high ≤ f + 1, low < high, hb > 0
      have k1 : ht ≤ (lt / lb + 1) * hb := by
        have : whole lt lb hl ≤ lt / lb + 1 := by unfold whole; split <;> omega
        have := Int.mul_le_mul_of_nonneg_right this hhb
        omega
      have hb0 : 0 < hb := by
        rcases Int.lt_or_eq_of_le hhb with h | h
        · exact h
        · exfalso
          rw [← h] at k1 c1
          rcases i.o with o | ⟨_, _, _, o⟩
          · rw [← h] at o
            have : 0 < ht * lb := by omega
            have := Int.pos_of_mul_pos_left this hlb
            omega
          · omega
      have os : (lt / lb * lb * hb + lt % lb * hb < ht * lb) ∨ (lt / lb * lb * hb + lt % lb * hb = ht * lb ∧ hl = true ∧ hh = true ∧ 0 < lt % lb) := by
        rcases i.o with o | ⟨o, q1, q2, _⟩
        · exact .inl (g1l e o)
        · refine .inr ⟨g1e e o, q1, q2, ?_⟩
          rcases Int.lt_or_eq_of_le r0 with z | z
          · exact z
          · exfalso
            have w : whole lt lb hl = lt / lb := by unfold whole; simp [← z, q1]
            rw [w] at c2
            have g := g1e e o
            rw [← z] at g
            have : lt / lb * hb * lb = ht * lb := eq_tr g (by grind)
            have := Int.eq_of_mul_eq_mul_right (Int.ne_of_gt hlb) this
            rcases c2 with c2 | c2
            · exact c2 this
            · rw [q2] at c2; cases c2
      have k2 : 0 < ht - lt / lb * hb := by
        have q : lt / lb * hb * lb = lt / lb * lb * hb := by grind
        have : lt / lb * hb * lb < ht * lb := by
          rcases os with o | ⟨o, _, _, p⟩
          · have := Int.mul_nonneg r0 hhb
            omega
          · have := Int.mul_pos p hb0
            omega
        have := mul_lt_cancel this hlb
        omega
      have k3 : ht - lt / lb * hb ≤ hb := le_tr k1 (by grind)
      have i' : Inv hb (ht - lt / lb * hb) lb (lt % lb) hh hl := ⟨hhb, k2, r0, by
        rcases os with o | ⟨o, q1, q2, q3⟩
        · exact .inl (g2_ o)
        · exact .inr ⟨g2e o, q2, q1, q3⟩⟩
      obtain ⟨fl, w, a, b, hc, hv, hm, hin, ha, hg, hlen, hmin⟩ := ih _ _ _ _ _ _ i' (by omega)
      have a0 : 0 < a := by
        have := hin.p
        have q1 : 0 < hb * b := Int.mul_pos hb0 this
        have q2 : 0 < a * (ht - lt / lb * hb) := by rcases hin.l with h | ⟨h, _⟩ <;> omega
        exact Int.pos_of_mul_pos_left q2 k2
      refine ⟨_, _, _, _, .step c' hb0 k2 k3 hc, by simp only [cfv, hv], fun M m1 m2 => ⟨f0, ?_, by rw [hv]; exact ha, ?_, hm M (by omega) (by omega)⟩, In.back e hin a0, ?_, ?_, ?_, ?_⟩
      · have f1 : lt / lb ≤ lt := Int.ediv_le_self _ hl0
        omega
      · rw [hv]
        have := (hmin _ _ (med i')).2
        show a ≤ M
        omega
      · have := Int.mul_nonneg f0 ha
        have := hin.p
        omega
      · rw [Int.gcd_comm, Int.add_comm, Int.gcd_add_mul_right_right]; exact hg
      · simp only [List.length_cons]; omega
      · intro x y j
        have jp := j.p
        have px : 0 < x - lt / lb * y := by
          rcases j.fl e hlb r0 with h | ⟨h, h2, h3⟩
          · omega
          · exfalso
            have w : whole lt lb hl = lt / lb := by unfold whole; simp [h2, h3]
            rw [w] at c1 c2
            -- floor is in the span: it is below or at high
            rcases j.h with k | ⟨k, k2⟩
            · rw [← h] at k
              have : lt / lb * hb * y < ht * y := lt_tr k (by grind)
              exact c1 (mul_lt_cancel this jp)
            · rw [← h] at k
              have : lt / lb * hb * y = ht * y := eq_tr k (by grind)
              have := Int.eq_of_mul_eq_mul_right (Int.ne_of_gt jp) this
              rcases c2 with c2 | c2
              · exact c2 this
              · rw [k2] at c2; cases c2
        have jj := hmin _ _ (In.step e j px)
        refine ⟨jj.2, ?_⟩
        have := Int.mul_le_mul_of_nonneg_left jj.2 f0
        omega
theorem cf_len (k : Nat) : ∀ {lt lb ht hb : Int} {hl hh : Bool} {fl : List Int} {w a b : Int}, CF lt lb ht hb hl hh fl w a b → 0 ≤ hb → hb < 2 ^ k → fl.length ≤ 2 * k := by
  induction k with
  | zero =>
    intro lt lb ht hb hl hh fl w a b c h0 h
    cases c with
    | stop _ => simp
    | step _ k1 _ _ _ => omega
  | succ k ih =>
    intro lt lb ht hb hl hh fl w a b c h0 h
    cases c with
    | stop _ => simp
    | step _ k1 k2 k3 c2 =>
      cases c2 with
      | stop _ => simp; omega
      | step _ m1 m2 m3 c3 =>
        have r0 := Int.emod_nonneg hb (Int.ne_of_gt k2)
        have r1 := Int.emod_lt_of_pos hb k2
        have e := Int.mul_ediv_add_emod hb (ht - lt / lb * hb)
        have f1 : 1 ≤ hb / (ht - lt / lb * hb) := by
          rw [Int.le_ediv_iff_mul_le k2]; omega
        have g : (ht - lt / lb * hb) * 1 ≤ (ht - lt / lb * hb) * (hb / (ht - lt / lb * hb)) := Int.mul_le_mul_of_nonneg_left f1 (Int.le_of_lt k2)
        have p : (2 : Int) ^ (k + 1) = 2 ^ k * 2 := by rw [Int.pow_succ]
        have := ih c3 r0 (by omega)
        simp only [List.length_cons]
        omega
end N05

/-! The defs of the row gustfloor_k05_simplest_ratios by data; printed by a program. -/
namespace Row
open PySem PySem.Spec PyProof.Rows L2 Dq
def top (i : Nat) : Stmt := PySem.Challenge.pw_gustfloor_k05_simplest_ratios.main.body.getD i (.Pass ⟨0, 0, 0, 0⟩)
def NM : List Str := (["_top", "_bottom", "_low", "_high", "_has_low", "_has_high", "bottom", "top", "has_high", "has_low", "high", "low"] : List Str)
theorem NM1 : NM.Nodup := by decide +kernel
theorem NM2 : NM.all (fun x => !(x.cps.size == 1)) = true := by decide +kernel
def cAd (K : PySem.W.Frag) : Nat → Addr
  | 0 => He.ga K "GustError"
  | 1 => He.ga K "InvalidRatio"
  | 2 => He.ga K "InvalidSpan"
  | 3 => He.ga K "Ratio"
  | 4 => He.ga K "Span"
  | _ => 0
abbrev pg (K : PySem.W.Frag) : Pg := ⟨K, cAd K, nmOf NM, nmOf_inj NM1 NM2⟩
def pga (K : PySem.W.Frag) (a : Addr) : Addr := match PySem.W.recIn K a "property" with
  | some (.ref g :: _) => g
  | _ => 0
theorem nmF_is_below : ∀ k, k < 6 → nmOf NM k ≠ "is_below" := by decide +kernel
theorem nmF_simplest : ∀ k, k < 6 → nmOf NM k ≠ "simplest" := by decide +kernel
def fc__top : Nat → Bool := fun c => ([3] : List Nat).contains c
def fc__bottom : Nat → Bool := fun c => ([3] : List Nat).contains c
def fc__low : Nat → Bool := fun c => ([4] : List Nat).contains c
def fc__high : Nat → Bool := fun c => ([4] : List Nat).contains c
def fc__has_low : Nat → Bool := fun c => ([4] : List Nat).contains c
def fc__has_high : Nat → Bool := fun c => ([4] : List Nat).contains c
def isi_Ratio : Ty → Option Bool
  | .bi n => (([("NoneType", false), ("bool", false), ("int", false), ("str", false), ("list", false), ("tuple", false)] : List (String × Bool)).lookup n)
  | .own c => (([(3, true), (4, false)] : List (Nat × Bool)).lookup c)
def isi_bool : Ty → Option Bool
  | .bi n => (([("NoneType", false), ("bool", true), ("int", false), ("str", false), ("list", false), ("tuple", false)] : List (String × Bool)).lookup n)
  | .own c => (([(3, false), (4, false)] : List (Nat × Bool)).lookup c)
def isi_int : Ty → Option Bool
  | .bi n => (([("NoneType", false), ("bool", true), ("int", true), ("str", false), ("list", false), ("tuple", false)] : List (String × Bool)).lookup n)
  | .own c => (([(3, false), (4, false)] : List (Nat × Bool)).lookup c)
def propB (K : PySem.W.Frag) (C : Addr) (f : Str) : Bool := decide (PySem.W.findIn K (.ref C) f = some (some (.ref (He.ma K C f)))) && (decide (PySem.W.specialIn K (.ref (He.ma K C f)) "__get__" = some (some (.builtin "property.__get__"))) && (decide (PySem.W.takesIn K (.ref (He.ma K C f)) = some true) && (match PySem.W.recIn K (He.ma K C f) "property" with
  | some (.ref _ :: _) => true
  | _ => false)))
theorem prop_ok {K : PySem.W.Frag} {C : Addr} {f : Str} (h : propB K C f = true) : PropOf K C f (He.ma K C f) (pga K (He.ma K C f)) := by
  unfold propB at h
  rw [Bool.and_eq_true, Bool.and_eq_true, Bool.and_eq_true] at h
  obtain ⟨h1, h2, h3, h4⟩ := h
  refine ⟨of_decide_eq_true h1, of_decide_eq_true h2, of_decide_eq_true h3, ?_⟩
  unfold pga
  split at h4
  · rename_i g r e
    exact ⟨r, by rw [e]⟩
  · cases h4
def specB (K : PySem.W.Frag) (C : Addr) (f : Str) : Bool := decide (PySem.W.findIn K (.ref C) f = some (some (.ref (He.ma K C f)))) && PySem.W.isFn K (.ref (He.ma K C f))
theorem spec_ok {K : PySem.W.Frag} {C : Addr} {f : Str} (h : specB K C f = true) : PySem.W.findIn K (.ref C) f = some (some (.ref (He.ma K C f))) ∧ PySem.W.isFn K (.ref (He.ma K C f)) = true := by
  unfold specB at h
  rw [Bool.and_eq_true] at h
  exact ⟨of_decide_eq_true h.1, h.2⟩
def iscB (K : PySem.W.Frag) (C : Addr) : Bool := decide (PySem.W.findIn K (.ref C) "__class__" = some (some (.builtin "object.__class__"))) && (decide (PySem.W.specialIn K (.builtin "object.__class__") "__get__" = some (some (.builtin "getset_descriptor.__get__"))) && (decide (PySem.W.takesIn K (.builtin "object.__class__") = some true) && decide (PySem.W.mroIn K C (.type "object") = some true)))
theorem isc_ok {K : PySem.W.Frag} {c : Nat} {x : Str} (h0 : (He.Fa.cls x).ok K = true) (h : iscB K (He.ga K x) = true) (e : (pg K).cA c = He.ga K x := by rfl) : IsC (pg K) K c := by
  unfold iscB at h
  rw [Bool.and_eq_true, Bool.and_eq_true, Bool.and_eq_true] at h
  obtain ⟨h1, h2, h3, h4⟩ := h
  exact ⟨by rw [e]; exact He.cls_ok h0, by rw [e]; exact of_decide_eq_true h1, of_decide_eq_true h2, of_decide_eq_true h3, by rw [e]; exact of_decide_eq_true h4⟩
def facts (K : PySem.W.Frag) : List Bool := [
  decide (PySem.W.nsIn K mainGlobals "gcd" = some (some (.builtin "math.gcd"))),
  (He.Fa.cls "Ratio").ok K,
  (He.Fa.cls "Span").ok K,
  (He.Fa.glo "Ratio").ok K,
  (He.Fa.glo "Span").ok K,
  (He.Fa.glo "_law_add").ok K,
  (He.Fa.glo "_law_ahead").ok K,
  (He.Fa.glo "_law_first_top").ok K,
  (He.Fa.glo "_law_frac").ok K,
  (He.Fa.glo "_law_gcd").ok K,
  (He.Fa.glo "_law_less").ok K,
  (He.Fa.glo "_law_made_span").ok K,
  (He.Fa.glo "_law_of_ratio").ok K,
  (He.Fa.glo "_law_pick").ok K,
  (He.Fa.glo "_law_pull").ok K,
  (He.Fa.glo "_law_ratio").ok K,
  (He.Fa.glo "_law_some_area").ok K,
  (He.Fa.glo "_law_some_frac").ok K,
  (He.Fa.glo "_law_start").ok K,
  (He.Fa.glo "_law_within").ok K,
  (He.Fa.glo "are_ends").ok K,
  (He.Fa.glo "is_number").ok K,
  (He.Fa.glo "law").ok K,
  (He.Fa.glo "simplest_from_zero").ok K,
  (He.Fa.glo "unfolded").ok K,
  (He.Fa.cls "Ratio").ok K,
  iscB K (He.ga K "Ratio"),
  (He.Fa.cls "Span").ok K,
  iscB K (He.ga K "Span"),
  PySem.W.keepIn K (.ref (He.ga K "_law_add")),
  PySem.W.keepIn K (.ref (He.ga K "_law_ahead")),
  PySem.W.keepIn K (.ref (He.ga K "_law_first_top")),
  PySem.W.keepIn K (.ref (He.ga K "_law_frac")),
  PySem.W.keepIn K (.ref (He.ga K "_law_gcd")),
  PySem.W.keepIn K (.ref (He.ga K "_law_less")),
  PySem.W.keepIn K (.ref (He.ga K "_law_made_span")),
  PySem.W.keepIn K (.ref (He.ga K "_law_of_ratio")),
  PySem.W.keepIn K (.ref (He.ga K "_law_pick")),
  PySem.W.keepIn K (.ref (He.ga K "_law_pull")),
  PySem.W.keepIn K (.ref (He.ga K "_law_ratio")),
  PySem.W.keepIn K (.ref (He.ga K "_law_some_area")),
  PySem.W.keepIn K (.ref (He.ga K "_law_some_frac")),
  PySem.W.keepIn K (.ref (He.ga K "_law_start")),
  PySem.W.keepIn K (.ref (He.ga K "_law_within")),
  PySem.W.keepIn K (.ref (He.ga K "are_ends")),
  PySem.W.keepIn K (.ref (He.ga K "is_number")),
  PySem.W.keepIn K (.ref (He.ga K "simplest_from_zero")),
  PySem.W.keepIn K (.ref (He.ga K "unfolded")),
  (He.Fa.meth "Ratio" "is_below").ok K,
  (He.Fa.meth "Span" "simplest").ok K,
  (He.Fa.mkr "Ratio").ok K,
  (He.Fa.mkr "Span").ok K,
  (He.Fa.noat "Ratio" "_bottom").ok K,
  (He.Fa.noat "Ratio" "_top").ok K,
  (He.Fa.noat "Span" "_has_high").ok K,
  (He.Fa.noat "Span" "_has_low").ok K,
  (He.Fa.noat "Span" "_high").ok K,
  (He.Fa.noat "Span" "_low").ok K,
  propB K (He.ga K "Ratio") "bottom",
  propB K (He.ga K "Ratio") "top",
  propB K (He.ga K "Span") "has_high",
  propB K (He.ga K "Span") "has_low",
  propB K (He.ga K "Span") "high",
  propB K (He.ga K "Span") "low",
  specB K (He.ga K "Ratio") "__eq__",
  specB K (He.ga K "Ratio") "__neg__",
  specB K (He.ga K "Span") "__contains__",
  (He.Fa.free "abs").ok K,
  (He.Fa.free "bool").ok K,
  (He.Fa.free "divmod").ok K,
  (He.Fa.free "int").ok K,
  (He.Fa.free "isinstance").ok K,
  (He.Fa.free "len").ok K,
  (He.Fa.free "list").ok K,
  (He.Fa.free "min").ok K,
  (He.Fa.free "range").ok K,
  decide (PySem.W.kitOne K (.type "NoneType") (.ref (He.ga K "Ratio")) = some false),
  decide (PySem.W.kitOne K (.type "bool") (.ref (He.ga K "Ratio")) = some false),
  decide (PySem.W.kitOne K (.type "int") (.ref (He.ga K "Ratio")) = some false),
  decide (PySem.W.kitOne K (.type "str") (.ref (He.ga K "Ratio")) = some false),
  decide (PySem.W.kitOne K (.type "list") (.ref (He.ga K "Ratio")) = some false),
  decide (PySem.W.kitOne K (.type "tuple") (.ref (He.ga K "Ratio")) = some false),
  decide (PySem.W.kitOne K (.ref (He.ga K "Ratio")) (.ref (He.ga K "Ratio")) = some true),
  decide (PySem.W.kitOne K (.ref (He.ga K "Span")) (.ref (He.ga K "Ratio")) = some false),
  decide (PySem.W.kitOne K (.type "NoneType") (.type "bool") = some false),
  decide (PySem.W.kitOne K (.type "bool") (.type "bool") = some true),
  decide (PySem.W.kitOne K (.type "int") (.type "bool") = some false),
  decide (PySem.W.kitOne K (.type "str") (.type "bool") = some false),
  decide (PySem.W.kitOne K (.type "list") (.type "bool") = some false),
  decide (PySem.W.kitOne K (.type "tuple") (.type "bool") = some false),
  decide (PySem.W.kitOne K (.ref (He.ga K "Ratio")) (.type "bool") = some false),
  decide (PySem.W.kitOne K (.ref (He.ga K "Span")) (.type "bool") = some false),
  decide (PySem.W.kitOne K (.type "NoneType") (.type "int") = some false),
  decide (PySem.W.kitOne K (.type "bool") (.type "int") = some true),
  decide (PySem.W.kitOne K (.type "int") (.type "int") = some true),
  decide (PySem.W.kitOne K (.type "str") (.type "int") = some false),
  decide (PySem.W.kitOne K (.type "list") (.type "int") = some false),
  decide (PySem.W.kitOne K (.type "tuple") (.type "int") = some false),
  decide (PySem.W.kitOne K (.ref (He.ga K "Ratio")) (.type "int") = some false),
  decide (PySem.W.kitOne K (.ref (He.ga K "Span")) (.type "int") = some false)]
def ex (K : PySem.W.Frag) : Bool := (facts K).all id
structure Tx (K : PySem.W.Frag) (mg : Str → Option Value) : Prop where
  b_gcd : mg "gcd" = some (.builtin "math.gcd")
  cl_Ratio : Cls K (He.ga K "Ratio")
  cl_Span : Cls K (He.ga K "Span")
  g_Ratio : mg "Ratio" = some (.ref (He.ga K "Ratio"))
  g_Span : mg "Span" = some (.ref (He.ga K "Span"))
  g__law_add : mg "_law_add" = some (.ref (He.ga K "_law_add"))
  g__law_ahead : mg "_law_ahead" = some (.ref (He.ga K "_law_ahead"))
  g__law_first_top : mg "_law_first_top" = some (.ref (He.ga K "_law_first_top"))
  g__law_frac : mg "_law_frac" = some (.ref (He.ga K "_law_frac"))
  g__law_gcd : mg "_law_gcd" = some (.ref (He.ga K "_law_gcd"))
  g__law_less : mg "_law_less" = some (.ref (He.ga K "_law_less"))
  g__law_made_span : mg "_law_made_span" = some (.ref (He.ga K "_law_made_span"))
  g__law_of_ratio : mg "_law_of_ratio" = some (.ref (He.ga K "_law_of_ratio"))
  g__law_pick : mg "_law_pick" = some (.ref (He.ga K "_law_pick"))
  g__law_pull : mg "_law_pull" = some (.ref (He.ga K "_law_pull"))
  g__law_ratio : mg "_law_ratio" = some (.ref (He.ga K "_law_ratio"))
  g__law_some_area : mg "_law_some_area" = some (.ref (He.ga K "_law_some_area"))
  g__law_some_frac : mg "_law_some_frac" = some (.ref (He.ga K "_law_some_frac"))
  g__law_start : mg "_law_start" = some (.ref (He.ga K "_law_start"))
  g__law_within : mg "_law_within" = some (.ref (He.ga K "_law_within"))
  g_are_ends : mg "are_ends" = some (.ref (He.ga K "are_ends"))
  g_is_number : mg "is_number" = some (.ref (He.ga K "is_number"))
  g_law : mg "law" = some (.ref (He.ga K "law"))
  g_simplest_from_zero : mg "simplest_from_zero" = some (.ref (He.ga K "simplest_from_zero"))
  g_unfolded : mg "unfolded" = some (.ref (He.ga K "unfolded"))
  is_Ratio : IsC (pg K) K 3
  is_Span : IsC (pg K) K 4
  k__law_add : PySem.W.keepIn K (.ref (He.ga K "_law_add")) = true
  k__law_ahead : PySem.W.keepIn K (.ref (He.ga K "_law_ahead")) = true
  k__law_first_top : PySem.W.keepIn K (.ref (He.ga K "_law_first_top")) = true
  k__law_frac : PySem.W.keepIn K (.ref (He.ga K "_law_frac")) = true
  k__law_gcd : PySem.W.keepIn K (.ref (He.ga K "_law_gcd")) = true
  k__law_less : PySem.W.keepIn K (.ref (He.ga K "_law_less")) = true
  k__law_made_span : PySem.W.keepIn K (.ref (He.ga K "_law_made_span")) = true
  k__law_of_ratio : PySem.W.keepIn K (.ref (He.ga K "_law_of_ratio")) = true
  k__law_pick : PySem.W.keepIn K (.ref (He.ga K "_law_pick")) = true
  k__law_pull : PySem.W.keepIn K (.ref (He.ga K "_law_pull")) = true
  k__law_ratio : PySem.W.keepIn K (.ref (He.ga K "_law_ratio")) = true
  k__law_some_area : PySem.W.keepIn K (.ref (He.ga K "_law_some_area")) = true
  k__law_some_frac : PySem.W.keepIn K (.ref (He.ga K "_law_some_frac")) = true
  k__law_start : PySem.W.keepIn K (.ref (He.ga K "_law_start")) = true
  k__law_within : PySem.W.keepIn K (.ref (He.ga K "_law_within")) = true
  k_are_ends : PySem.W.keepIn K (.ref (He.ga K "are_ends")) = true
  k_is_number : PySem.W.keepIn K (.ref (He.ga K "is_number")) = true
  k_simplest_from_zero : PySem.W.keepIn K (.ref (He.ga K "simplest_from_zero")) = true
  k_unfolded : PySem.W.keepIn K (.ref (He.ga K "unfolded")) = true
  me_Ratio_is_below : Meth K (He.ga K "Ratio") "is_below" (He.ma K (He.ga K "Ratio") "is_below")
  me_Span_simplest : Meth K (He.ga K "Span") "simplest" (He.ma K (He.ga K "Span") "simplest")
  mk_Ratio : Mk K (He.ga K "Ratio") (He.ma K (He.ga K "Ratio") "__init__")
  mk_Span : Mk K (He.ga K "Span") (He.ma K (He.ga K "Span") "__init__")
  na_Ratio__bottom : NoAttr K (He.ga K "Ratio") "_bottom"
  na_Ratio__top : NoAttr K (He.ga K "Ratio") "_top"
  na_Span__has_high : NoAttr K (He.ga K "Span") "_has_high"
  na_Span__has_low : NoAttr K (He.ga K "Span") "_has_low"
  na_Span__high : NoAttr K (He.ga K "Span") "_high"
  na_Span__low : NoAttr K (He.ga K "Span") "_low"
  pr_Ratio_bottom : PropOf K (He.ga K "Ratio") "bottom" (He.ma K (He.ga K "Ratio") "bottom") (pga K (He.ma K (He.ga K "Ratio") "bottom"))
  pr_Ratio_top : PropOf K (He.ga K "Ratio") "top" (He.ma K (He.ga K "Ratio") "top") (pga K (He.ma K (He.ga K "Ratio") "top"))
  pr_Span_has_high : PropOf K (He.ga K "Span") "has_high" (He.ma K (He.ga K "Span") "has_high") (pga K (He.ma K (He.ga K "Span") "has_high"))
  pr_Span_has_low : PropOf K (He.ga K "Span") "has_low" (He.ma K (He.ga K "Span") "has_low") (pga K (He.ma K (He.ga K "Span") "has_low"))
  pr_Span_high : PropOf K (He.ga K "Span") "high" (He.ma K (He.ga K "Span") "high") (pga K (He.ma K (He.ga K "Span") "high"))
  pr_Span_low : PropOf K (He.ga K "Span") "low" (He.ma K (He.ga K "Span") "low") (pga K (He.ma K (He.ga K "Span") "low"))
  sp_Ratio_eq : PySem.W.findIn K (.ref (He.ga K "Ratio")) "__eq__" = some (some (.ref (He.ma K (He.ga K "Ratio") "__eq__"))) ∧ PySem.W.isFn K (.ref (He.ma K (He.ga K "Ratio") "__eq__")) = true
  sp_Ratio_neg : PySem.W.findIn K (.ref (He.ga K "Ratio")) "__neg__" = some (some (.ref (He.ma K (He.ga K "Ratio") "__neg__"))) ∧ PySem.W.isFn K (.ref (He.ma K (He.ga K "Ratio") "__neg__")) = true
  sp_Span_contains : PySem.W.findIn K (.ref (He.ga K "Span")) "__contains__" = some (some (.ref (He.ma K (He.ga K "Span") "__contains__"))) ∧ PySem.W.isFn K (.ref (He.ma K (He.ga K "Span") "__contains__")) = true
  z_abs : mg "abs" = none
  z_bool : mg "bool" = none
  z_divmod : mg "divmod" = none
  z_int : mg "int" = none
  z_isinstance : mg "isinstance" = none
  z_len : mg "len" = none
  z_list : mg "list" = none
  z_min : mg "min" = none
  z_range : mg "range" = none
  ki_Ratio_NoneType : PySem.W.kitOne K (.type "NoneType") (.ref (He.ga K "Ratio")) = some false
  ki_Ratio_bool : PySem.W.kitOne K (.type "bool") (.ref (He.ga K "Ratio")) = some false
  ki_Ratio_int : PySem.W.kitOne K (.type "int") (.ref (He.ga K "Ratio")) = some false
  ki_Ratio_str : PySem.W.kitOne K (.type "str") (.ref (He.ga K "Ratio")) = some false
  ki_Ratio_list : PySem.W.kitOne K (.type "list") (.ref (He.ga K "Ratio")) = some false
  ki_Ratio_tuple : PySem.W.kitOne K (.type "tuple") (.ref (He.ga K "Ratio")) = some false
  ki_Ratio_Ratio : PySem.W.kitOne K (.ref (He.ga K "Ratio")) (.ref (He.ga K "Ratio")) = some true
  ki_Ratio_Span : PySem.W.kitOne K (.ref (He.ga K "Span")) (.ref (He.ga K "Ratio")) = some false
  ki_bool_NoneType : PySem.W.kitOne K (.type "NoneType") (.type "bool") = some false
  ki_bool_bool : PySem.W.kitOne K (.type "bool") (.type "bool") = some true
  ki_bool_int : PySem.W.kitOne K (.type "int") (.type "bool") = some false
  ki_bool_str : PySem.W.kitOne K (.type "str") (.type "bool") = some false
  ki_bool_list : PySem.W.kitOne K (.type "list") (.type "bool") = some false
  ki_bool_tuple : PySem.W.kitOne K (.type "tuple") (.type "bool") = some false
  ki_bool_Ratio : PySem.W.kitOne K (.ref (He.ga K "Ratio")) (.type "bool") = some false
  ki_bool_Span : PySem.W.kitOne K (.ref (He.ga K "Span")) (.type "bool") = some false
  ki_int_NoneType : PySem.W.kitOne K (.type "NoneType") (.type "int") = some false
  ki_int_bool : PySem.W.kitOne K (.type "bool") (.type "int") = some true
  ki_int_int : PySem.W.kitOne K (.type "int") (.type "int") = some true
  ki_int_str : PySem.W.kitOne K (.type "str") (.type "int") = some false
  ki_int_list : PySem.W.kitOne K (.type "list") (.type "int") = some false
  ki_int_tuple : PySem.W.kitOne K (.type "tuple") (.type "int") = some false
  ki_int_Ratio : PySem.W.kitOne K (.ref (He.ga K "Ratio")) (.type "int") = some false
  ki_int_Span : PySem.W.kitOne K (.ref (He.ga K "Span")) (.type "int") = some false
theorem fa_ {K : PySem.W.Frag} (h : ex K = true) (i : Nat) {b : Bool} (e : (facts K)[i]? = some b) : b = true := List.all_eq_true.mp h b (List.mem_of_getElem? e)
theorem tx {K : PySem.W.Frag} {h : Heap} {mg : Str → Option Value} (X : K.In h) (G : h.Ns mainGlobals mg) (c : ex K = true) : Tx K mg := by
  have fa : ∀ (i : Nat) {b : Bool} (e : (facts K)[i]? = some b := by rfl), b = true := fun i b e => fa_ c i e
  exact {
    b_gcd := PySem.W.mg_of X G (of_decide_eq_true (fa 0))
    cl_Ratio := He.cls_ok (fa 1)
    cl_Span := He.cls_ok (fa 2)
    g_Ratio := He.glo_ok X G (fa 3)
    g_Span := He.glo_ok X G (fa 4)
    g__law_add := He.glo_ok X G (fa 5)
    g__law_ahead := He.glo_ok X G (fa 6)
    g__law_first_top := He.glo_ok X G (fa 7)
    g__law_frac := He.glo_ok X G (fa 8)
    g__law_gcd := He.glo_ok X G (fa 9)
    g__law_less := He.glo_ok X G (fa 10)
    g__law_made_span := He.glo_ok X G (fa 11)
    g__law_of_ratio := He.glo_ok X G (fa 12)
    g__law_pick := He.glo_ok X G (fa 13)
    g__law_pull := He.glo_ok X G (fa 14)
    g__law_ratio := He.glo_ok X G (fa 15)
    g__law_some_area := He.glo_ok X G (fa 16)
    g__law_some_frac := He.glo_ok X G (fa 17)
    g__law_start := He.glo_ok X G (fa 18)
    g__law_within := He.glo_ok X G (fa 19)
    g_are_ends := He.glo_ok X G (fa 20)
    g_is_number := He.glo_ok X G (fa 21)
    g_law := He.glo_ok X G (fa 22)
    g_simplest_from_zero := He.glo_ok X G (fa 23)
    g_unfolded := He.glo_ok X G (fa 24)
    is_Ratio := isc_ok (c := 3) (fa 25) (fa 26)
    is_Span := isc_ok (c := 4) (fa 27) (fa 28)
    k__law_add := fa 29
    k__law_ahead := fa 30
    k__law_first_top := fa 31
    k__law_frac := fa 32
    k__law_gcd := fa 33
    k__law_less := fa 34
    k__law_made_span := fa 35
    k__law_of_ratio := fa 36
    k__law_pick := fa 37
    k__law_pull := fa 38
    k__law_ratio := fa 39
    k__law_some_area := fa 40
    k__law_some_frac := fa 41
    k__law_start := fa 42
    k__law_within := fa 43
    k_are_ends := fa 44
    k_is_number := fa 45
    k_simplest_from_zero := fa 46
    k_unfolded := fa 47
    me_Ratio_is_below := He.meth_ok (fa 48)
    me_Span_simplest := He.meth_ok (fa 49)
    mk_Ratio := He.mkr_ok (fa 50)
    mk_Span := He.mkr_ok (fa 51)
    na_Ratio__bottom := He.noat_ok (fa 52)
    na_Ratio__top := He.noat_ok (fa 53)
    na_Span__has_high := He.noat_ok (fa 54)
    na_Span__has_low := He.noat_ok (fa 55)
    na_Span__high := He.noat_ok (fa 56)
    na_Span__low := He.noat_ok (fa 57)
    pr_Ratio_bottom := prop_ok (fa 58)
    pr_Ratio_top := prop_ok (fa 59)
    pr_Span_has_high := prop_ok (fa 60)
    pr_Span_has_low := prop_ok (fa 61)
    pr_Span_high := prop_ok (fa 62)
    pr_Span_low := prop_ok (fa 63)
    sp_Ratio_eq := spec_ok (fa 64)
    sp_Ratio_neg := spec_ok (fa 65)
    sp_Span_contains := spec_ok (fa 66)
    z_abs := He.free_ok X G (fa 67)
    z_bool := He.free_ok X G (fa 68)
    z_divmod := He.free_ok X G (fa 69)
    z_int := He.free_ok X G (fa 70)
    z_isinstance := He.free_ok X G (fa 71)
    z_len := He.free_ok X G (fa 72)
    z_list := He.free_ok X G (fa 73)
    z_min := He.free_ok X G (fa 74)
    z_range := He.free_ok X G (fa 75)
    ki_Ratio_NoneType := of_decide_eq_true (fa 76)
    ki_Ratio_bool := of_decide_eq_true (fa 77)
    ki_Ratio_int := of_decide_eq_true (fa 78)
    ki_Ratio_str := of_decide_eq_true (fa 79)
    ki_Ratio_list := of_decide_eq_true (fa 80)
    ki_Ratio_tuple := of_decide_eq_true (fa 81)
    ki_Ratio_Ratio := of_decide_eq_true (fa 82)
    ki_Ratio_Span := of_decide_eq_true (fa 83)
    ki_bool_NoneType := of_decide_eq_true (fa 84)
    ki_bool_bool := of_decide_eq_true (fa 85)
    ki_bool_int := of_decide_eq_true (fa 86)
    ki_bool_str := of_decide_eq_true (fa 87)
    ki_bool_list := of_decide_eq_true (fa 88)
    ki_bool_tuple := of_decide_eq_true (fa 89)
    ki_bool_Ratio := of_decide_eq_true (fa 90)
    ki_bool_Span := of_decide_eq_true (fa 91)
    ki_int_NoneType := of_decide_eq_true (fa 92)
    ki_int_bool := of_decide_eq_true (fa 93)
    ki_int_int := of_decide_eq_true (fa 94)
    ki_int_str := of_decide_eq_true (fa 95)
    ki_int_list := of_decide_eq_true (fa 96)
    ki_int_tuple := of_decide_eq_true (fa 97)
    ki_int_Ratio := of_decide_eq_true (fa 98)
    ki_int_Span := of_decide_eq_true (fa 99)
  }
theorem Tx.fc__top {K : PySem.W.Frag} {mg : Str → Option Value} (T : Tx K mg) : ∀ c, Row.fc__top c = true → Cls K ((pg K).cA c) ∧ NoAttr K ((pg K).cA c) "_top" := by
  intro c h
  have h := List.elem_iff.mp h
  simp only [List.mem_cons, List.not_mem_nil, or_false] at h
  subst h
  exact ⟨T.cl_Ratio, T.na_Ratio__top⟩
theorem Tx.fc__bottom {K : PySem.W.Frag} {mg : Str → Option Value} (T : Tx K mg) : ∀ c, Row.fc__bottom c = true → Cls K ((pg K).cA c) ∧ NoAttr K ((pg K).cA c) "_bottom" := by
  intro c h
  have h := List.elem_iff.mp h
  simp only [List.mem_cons, List.not_mem_nil, or_false] at h
  subst h
  exact ⟨T.cl_Ratio, T.na_Ratio__bottom⟩
theorem Tx.fc__low {K : PySem.W.Frag} {mg : Str → Option Value} (T : Tx K mg) : ∀ c, Row.fc__low c = true → Cls K ((pg K).cA c) ∧ NoAttr K ((pg K).cA c) "_low" := by
  intro c h
  have h := List.elem_iff.mp h
  simp only [List.mem_cons, List.not_mem_nil, or_false] at h
  subst h
  exact ⟨T.cl_Span, T.na_Span__low⟩
theorem Tx.fc__high {K : PySem.W.Frag} {mg : Str → Option Value} (T : Tx K mg) : ∀ c, Row.fc__high c = true → Cls K ((pg K).cA c) ∧ NoAttr K ((pg K).cA c) "_high" := by
  intro c h
  have h := List.elem_iff.mp h
  simp only [List.mem_cons, List.not_mem_nil, or_false] at h
  subst h
  exact ⟨T.cl_Span, T.na_Span__high⟩
theorem Tx.fc__has_low {K : PySem.W.Frag} {mg : Str → Option Value} (T : Tx K mg) : ∀ c, Row.fc__has_low c = true → Cls K ((pg K).cA c) ∧ NoAttr K ((pg K).cA c) "_has_low" := by
  intro c h
  have h := List.elem_iff.mp h
  simp only [List.mem_cons, List.not_mem_nil, or_false] at h
  subst h
  exact ⟨T.cl_Span, T.na_Span__has_low⟩
theorem Tx.fc__has_high {K : PySem.W.Frag} {mg : Str → Option Value} (T : Tx K mg) : ∀ c, Row.fc__has_high c = true → Cls K ((pg K).cA c) ∧ NoAttr K ((pg K).cA c) "_has_high" := by
  intro c h
  have h := List.elem_iff.mp h
  simp only [List.mem_cons, List.not_mem_nil, or_false] at h
  subst h
  exact ⟨T.cl_Span, T.na_Span__has_high⟩
theorem Tx.isi_Ratio {K : PySem.W.Frag} {mg : Str → Option Value} (T : Tx K mg) : ∀ t b, Row.isi_Ratio t = some b → PySem.W.kitOne K (t.val (pg K)) (.ref (He.ga K "Ratio")) = some b ∧ ∀ c, t = .own c → IsC (pg K) K c := by
  intro t b h
  cases t with
  | bi n =>
    refine ⟨?_, fun c z => nomatch z⟩
    obtain h := lookup_mem h
    simp only [List.mem_cons, List.not_mem_nil, or_false, Prod.mk.injEq] at h
    rcases h with ⟨rfl, rfl⟩ | ⟨rfl, rfl⟩ | ⟨rfl, rfl⟩ | ⟨rfl, rfl⟩ | ⟨rfl, rfl⟩ | ⟨rfl, rfl⟩
    · exact T.ki_Ratio_NoneType
    · exact T.ki_Ratio_bool
    · exact T.ki_Ratio_int
    · exact T.ki_Ratio_str
    · exact T.ki_Ratio_list
    · exact T.ki_Ratio_tuple
  | own k =>
    obtain h := lookup_mem h
    simp only [List.mem_cons, List.not_mem_nil, or_false, Prod.mk.injEq] at h
    rcases h with ⟨rfl, rfl⟩ | ⟨rfl, rfl⟩
    · exact ⟨T.ki_Ratio_Ratio, fun c z => by cases z; exact T.is_Ratio⟩
    · exact ⟨T.ki_Ratio_Span, fun c z => by cases z; exact T.is_Span⟩
theorem Tx.isi_bool {K : PySem.W.Frag} {mg : Str → Option Value} (T : Tx K mg) : ∀ t b, Row.isi_bool t = some b → PySem.W.kitOne K (t.val (pg K)) (.type "bool") = some b ∧ ∀ c, t = .own c → IsC (pg K) K c := by
  intro t b h
  cases t with
  | bi n =>
    refine ⟨?_, fun c z => nomatch z⟩
    obtain h := lookup_mem h
    simp only [List.mem_cons, List.not_mem_nil, or_false, Prod.mk.injEq] at h
    rcases h with ⟨rfl, rfl⟩ | ⟨rfl, rfl⟩ | ⟨rfl, rfl⟩ | ⟨rfl, rfl⟩ | ⟨rfl, rfl⟩ | ⟨rfl, rfl⟩
    · exact T.ki_bool_NoneType
    · exact T.ki_bool_bool
    · exact T.ki_bool_int
    · exact T.ki_bool_str
    · exact T.ki_bool_list
    · exact T.ki_bool_tuple
  | own k =>
    obtain h := lookup_mem h
    simp only [List.mem_cons, List.not_mem_nil, or_false, Prod.mk.injEq] at h
    rcases h with ⟨rfl, rfl⟩ | ⟨rfl, rfl⟩
    · exact ⟨T.ki_bool_Ratio, fun c z => by cases z; exact T.is_Ratio⟩
    · exact ⟨T.ki_bool_Span, fun c z => by cases z; exact T.is_Span⟩
theorem Tx.isi_int {K : PySem.W.Frag} {mg : Str → Option Value} (T : Tx K mg) : ∀ t b, Row.isi_int t = some b → PySem.W.kitOne K (t.val (pg K)) (.type "int") = some b ∧ ∀ c, t = .own c → IsC (pg K) K c := by
  intro t b h
  cases t with
  | bi n =>
    refine ⟨?_, fun c z => nomatch z⟩
    obtain h := lookup_mem h
    simp only [List.mem_cons, List.not_mem_nil, or_false, Prod.mk.injEq] at h
    rcases h with ⟨rfl, rfl⟩ | ⟨rfl, rfl⟩ | ⟨rfl, rfl⟩ | ⟨rfl, rfl⟩ | ⟨rfl, rfl⟩ | ⟨rfl, rfl⟩
    · exact T.ki_int_NoneType
    · exact T.ki_int_bool
    · exact T.ki_int_int
    · exact T.ki_int_str
    · exact T.ki_int_list
    · exact T.ki_int_tuple
  | own k =>
    obtain h := lookup_mem h
    simp only [List.mem_cons, List.not_mem_nil, or_false, Prod.mk.injEq] at h
    rcases h with ⟨rfl, rfl⟩ | ⟨rfl, rfl⟩
    · exact ⟨T.ki_int_Ratio, fun c z => by cases z; exact T.is_Ratio⟩
    · exact ⟨T.ki_int_Span, fun c z => by cases z; exact T.is_Span⟩
section
variable {P : Program} {w : World} {K : PySem.W.Frag} {mg : Str → Option Value} {base : Heap}
def mix_Spandd_initdd_k2_has_low_has_high : Mix := fun l z => match l, z with
  | [a0, a1], [k0, k1] => some [a0, a1, k0, k1]
  | _, _ => none
/-! #### _law_less (level 1) -/
abbrev s_law_less : Stmt := top 28
theorem sc_law_less : FnScope (["_law_p", "_law_q"] : List Str) (["_law_p", "_law_q"] : List Str) (defScope s_law_less) := ⟨rfl, rfl, rfl, by decide +kernel, rfl, by decide +kernel, by decide +kernel⟩
def b_law_less (L : Nat) : GS :=
 (gRet (gBin ltD (gBin mulD (gBin ixD (gVar 0) (gC (.int 0))) (gBin ixD (gVar 1) (gC (.int 1)))) (gBin mulD (gBin ixD (gVar 1) (gC (.int 0))) (gBin ixD (gVar 0) (gC (.int 1))))))
def m_law_less (L : Nat) : List DV → Sto → R DV := run 2 2 (b_law_less L)
theorem fn_law_less (L : Nat) (T : Tx K mg) {fd : FuncData} (F : FunD K "_law_less" "_law_less" (defArgs s_law_less) (defBody s_law_less) (defScope s_law_less) [] [] (He.ga K "_law_less") fd) : FnOk P w K mg base CX0 1 (He.ga K "_law_less") fd (["_law_p", "_law_q"] : List Str) (spD (pg K) We0 2 (m_law_less L)) := by
  have S := sc_law_less
  refine def0' (p := pg K) (k := 0) (nN := 2) (n := 2) (b := b_law_less L) (m := m_law_less L) F S rfl rfl (by decide) rfl (fun cdv A outer s H E hr => ?_)
  exact (bone (sret (qcmp opd_lt (qbin opd_mul (qix (qv 0) qint (fun _ _ => rfl)) (qix (qv 1) qint (fun _ _ => rfl))) (qbin opd_mul (qix (qv 1) qint (fun _ _ => rfl)) (qix (qv 0) qint (fun _ _ => rfl))) (nomark _))))
theorem ok_law_less (L : Nat) (T : Tx K mg) (F : ∃ fd, FunD K "_law_less" "_law_less" (defArgs s_law_less) (defBody s_law_less) (defScope s_law_less) [] [] (He.ga K "_law_less") fd) : OkD (pg K) P w mg base 1 (He.ga K "_law_less") 2 (m_law_less L) [] :=
  let ⟨fd, F⟩ := F; ⟨⟨fd, _, [], [], rfl, fn_law_less L T  F, .nil, F.bindsN (fun _ _ _ _ _ _ us hl => match us, hl with | [_, _], _ => rfl), fun _ _ => .nil⟩, fun ds s h => run_len h⟩
/-! #### _law_ahead (level 2) -/
abbrev s_law_ahead : Stmt := top 33
theorem sc_law_ahead : FnScope (["_law_c", "_law_d"] : List Str) (["_law_c", "_law_d"] : List Str) (defScope s_law_ahead) := ⟨rfl, rfl, rfl, by decide +kernel, rfl, by decide +kernel, by decide +kernel⟩
def b_law_ahead (L : Nat) : GS :=
 (gRet (gOrV (gCall (m_law_less L) [] (gCons (gBin ixD (gVar 0) (gC (.int 0))) (gCons (gBin ixD (gVar 1) (gC (.int 0))) gNil))) (gAndV (gBin eqD (gBin ixD (gVar 0) (gC (.int 0))) (gBin ixD (gVar 1) (gC (.int 0)))) (gBin ltD (gBin ixD (gVar 0) (gC (.int 1))) (gBin ixD (gVar 1) (gC (.int 1)))))))
def m_law_ahead (L : Nat) : List DV → Sto → R DV := run 2 2 (b_law_ahead L)
theorem fn_law_ahead (L : Nat) (T : Tx K mg) (o_law_less : OkD (pg K) P w mg base 1 (He.ga K "_law_less") 2 (m_law_less L) []) {fd : FuncData} (F : FunD K "_law_ahead" "_law_ahead" (defArgs s_law_ahead) (defBody s_law_ahead) (defScope s_law_ahead) [] [] (He.ga K "_law_ahead") fd) : FnOk P w K mg base CX0 2 (He.ga K "_law_ahead") fd (["_law_c", "_law_d"] : List Str) (spD (pg K) We0 2 (m_law_ahead L)) := by
  have S := sc_law_ahead
  refine def0' (p := pg K) (k := 1) (nN := 2) (n := 2) (b := b_law_ahead L) (m := m_law_ahead L) F S rfl rfl (by decide) rfl (fun cdv A outer s H E hr => ?_)
  exact (bone (sret (qor (qcall (o_law_less.c (hr.mono (by decide))) T.g__law_less T.k__law_less rfl (qcons (qix (qv 0) qint (fun _ _ => rfl)) (qcons (qix (qv 1) qint (fun _ _ => rfl)) qnil))) (q1 (qand (qcmp (opd_eq rfl hr.units) (qix (qv 0) qint (fun _ _ => rfl)) (qix (qv 1) qint (fun _ _ => rfl)) (nomark _)) (q1 (qcmp opd_lt (qix (qv 0) qint (fun _ _ => rfl)) (qix (qv 1) qint (fun _ _ => rfl)) (nomark _))))))))
theorem ok_law_ahead (L : Nat) (T : Tx K mg) (o_law_less : OkD (pg K) P w mg base 1 (He.ga K "_law_less") 2 (m_law_less L) []) (F : ∃ fd, FunD K "_law_ahead" "_law_ahead" (defArgs s_law_ahead) (defBody s_law_ahead) (defScope s_law_ahead) [] [] (He.ga K "_law_ahead") fd) : OkD (pg K) P w mg base 2 (He.ga K "_law_ahead") 2 (m_law_ahead L) [] :=
  let ⟨fd, F⟩ := F; ⟨⟨fd, _, [], [], rfl, fn_law_ahead L T o_law_less F, .nil, F.bindsN (fun _ _ _ _ _ _ us hl => match us, hl with | [_, _], _ => rfl), fun _ _ => .nil⟩, fun ds s h => run_len h⟩
/-! #### _law_within (level 3) -/
abbrev s_law_within : Stmt := top 34
theorem sc_law_within : FnScope (["_law_p", "_law_area"] : List Str) (["_law_p", "_law_area"] : List Str) (defScope s_law_within) := ⟨rfl, rfl, rfl, by decide +kernel, rfl, by decide +kernel, by decide +kernel⟩
def b_law_within (L : Nat) : GS :=
 (gRet (gAndV (gNotV (gCall (m_law_ahead L) [] (gCons (gTup (gCons (gVar 0) (gCons (gC (.int 0)) gNil))) (gCons (gBin ixD (gVar 1) (gC (.int 0))) gNil)))) (gNotV (gCall (m_law_ahead L) [] (gCons (gBin ixD (gVar 1) (gC (.int 1))) (gCons (gTup (gCons (gVar 0) (gCons (gC (.int 1)) gNil))) gNil))))))
def m_law_within (L : Nat) : List DV → Sto → R DV := run 2 2 (b_law_within L)
theorem fn_law_within (L : Nat) (T : Tx K mg) (o_law_ahead : OkD (pg K) P w mg base 2 (He.ga K "_law_ahead") 2 (m_law_ahead L) []) {fd : FuncData} (F : FunD K "_law_within" "_law_within" (defArgs s_law_within) (defBody s_law_within) (defScope s_law_within) [] [] (He.ga K "_law_within") fd) : FnOk P w K mg base CX0 3 (He.ga K "_law_within") fd (["_law_p", "_law_area"] : List Str) (spD (pg K) We0 2 (m_law_within L)) := by
  have S := sc_law_within
  refine def0' (p := pg K) (k := 2) (nN := 2) (n := 2) (b := b_law_within L) (m := m_law_within L) F S rfl rfl (by decide) rfl (fun cdv A outer s H E hr => ?_)
  exact (bone (sret (qand (qnot (qcall (o_law_ahead.c (hr.mono (by decide))) T.g__law_ahead T.k__law_ahead rfl (qcons (qtup (qcons (qv 0) (qcons qint qnil))) (qcons (qix (qv 1) qint (fun _ _ => rfl)) qnil)))) (q1 (qnot (qcall (o_law_ahead.c (hr.mono (by decide))) T.g__law_ahead T.k__law_ahead rfl (qcons (qix (qv 1) qint (fun _ _ => rfl)) (qcons (qtup (qcons (qv 0) (qcons qint qnil))) qnil))))))))
theorem ok_law_within (L : Nat) (T : Tx K mg) (o_law_ahead : OkD (pg K) P w mg base 2 (He.ga K "_law_ahead") 2 (m_law_ahead L) []) (F : ∃ fd, FunD K "_law_within" "_law_within" (defArgs s_law_within) (defBody s_law_within) (defScope s_law_within) [] [] (He.ga K "_law_within") fd) : OkD (pg K) P w mg base 3 (He.ga K "_law_within") 2 (m_law_within L) [] :=
  let ⟨fd, F⟩ := F; ⟨⟨fd, _, [], [], rfl, fn_law_within L T o_law_ahead F, .nil, F.bindsN (fun _ _ _ _ _ _ us hl => match us, hl with | [_, _], _ => rfl), fun _ _ => .nil⟩, fun ds s h => run_len h⟩
/-! #### _law_gcd (level 1) -/
abbrev s_law_gcd : Stmt := top 22
theorem sc_law_gcd : FnScope (["_law_a", "_law_b"] : List Str) (["_law_a", "_law_b"] : List Str) (defScope s_law_gcd) := ⟨rfl, rfl, rfl, by decide +kernel, rfl, by decide +kernel, by decide +kernel⟩
def b_law_gcd (L : Nat) : GS :=
 (gSeq (whR (gT truB (gBin gtD (gVar 1) (gC (.int 0))))
 (gPar 0 1 (gCons (gVar 1) (gCons (gBin modD (gB intD (gCons (gVar 0) gNil)) (gVar 1)) gNil))) L)
 (gRet (gVar 0)))
def m_law_gcd (L : Nat) : List DV → Sto → R DV := run 2 2 (b_law_gcd L)
theorem fn_law_gcd (L : Nat) (T : Tx K mg) {fd : FuncData} (F : FunD K "_law_gcd" "_law_gcd" (defArgs s_law_gcd) (defBody s_law_gcd) (defScope s_law_gcd) [] [] (He.ga K "_law_gcd") fd) : FnOk P w K mg base CX0 1 (He.ga K "_law_gcd") fd (["_law_a", "_law_b"] : List Str) (spD (pg K) We0 2 (m_law_gcd L)) := by
  have S := sc_law_gcd
  refine def0' (p := pg K) (k := 0) (nN := 2) (n := 2) (b := b_law_gcd L) (m := m_law_gcd L) F S rfl rfl (by decide) rfl (fun cdv A outer s H E hr => ?_)
  exact (bcons (swhile L PassesOwn.never (qtcmp opd_gt (qv 1) qint (nomark _))
 (bone (spar (i := 0) (j := 1) rfl S.nd rfl rfl (by decide) rfl rfl (qcons (qv 1) (qcons (qbin opd_mod (qbty opd_int T.z_int rfl (by decide +kernel) (qcons (qv 0) qnil)) (qv 1)) qnil)) rfl)))
 (bone (sret (qv 0))))
theorem ok_law_gcd (L : Nat) (T : Tx K mg) (F : ∃ fd, FunD K "_law_gcd" "_law_gcd" (defArgs s_law_gcd) (defBody s_law_gcd) (defScope s_law_gcd) [] [] (He.ga K "_law_gcd") fd) : OkD (pg K) P w mg base 1 (He.ga K "_law_gcd") 2 (m_law_gcd L) [] :=
  let ⟨fd, F⟩ := F; ⟨⟨fd, _, [], [], rfl, fn_law_gcd L T  F, .nil, F.bindsN (fun _ _ _ _ _ _ us hl => match us, hl with | [_, _], _ => rfl), fun _ _ => .nil⟩, fun ds s h => run_len h⟩
/-! #### _law_frac (level 2) -/
abbrev s_law_frac : Stmt := top 23
theorem sc_law_frac : FnScope (["_law_a", "_law_b", "_law_by"] : List Str) (["_law_a", "_law_b"] : List Str) (defScope s_law_frac) := ⟨rfl, rfl, rfl, by decide +kernel, rfl, by decide +kernel, by decide +kernel⟩
def b_law_frac (L : Nat) : GS :=
 (gSeq (gSet 2 (gCall (m_law_gcd L) [] (gCons (gB absD (gCons (gVar 0) gNil)) (gCons (gB absD (gCons (gVar 1) gNil)) gNil))))
 (gSeq (gSet 2 (gIf (gT truB (gBin gtD (gVar 1) (gC (.int 0)))) (gVar 2) (gBin subD (gC (.int 0)) (gVar 2))))
 (gRet (gTup (gCons (gBin fdivD (gVar 0) (gVar 2)) (gCons (gBin fdivD (gVar 1) (gVar 2)) gNil))))))
def m_law_frac (L : Nat) : List DV → Sto → R DV := run 3 2 (b_law_frac L)
theorem fn_law_frac (L : Nat) (T : Tx K mg) (o_law_gcd : OkD (pg K) P w mg base 1 (He.ga K "_law_gcd") 2 (m_law_gcd L) []) {fd : FuncData} (F : FunD K "_law_frac" "_law_frac" (defArgs s_law_frac) (defBody s_law_frac) (defScope s_law_frac) [] [] (He.ga K "_law_frac") fd) : FnOk P w K mg base CX0 2 (He.ga K "_law_frac") fd (["_law_a", "_law_b"] : List Str) (spD (pg K) We0 2 (m_law_frac L)) := by
  have S := sc_law_frac
  refine def0' (p := pg K) (k := 1) (nN := 3) (n := 2) (b := b_law_frac L) (m := m_law_frac L) F S rfl rfl (by decide) rfl (fun cdv A outer s H E hr => ?_)
  exact (bcons (sset 2 S.nd (Or.inl rfl) (qcall (o_law_gcd.c (hr.mono (by decide))) T.g__law_gcd T.k__law_gcd rfl (qcons (qblt opd_abs T.z_abs rfl (by decide +kernel) (qcons (qv 0) qnil)) (qcons (qblt opd_abs T.z_abs rfl (by decide +kernel) (qcons (qv 1) qnil)) qnil))))
 (bcons (sset 2 S.nd (Or.inl rfl) (qif (qtcmp opd_gt (qv 1) qint (nomark _)) (qv 2) (qbin opd_sub qint (qv 2))))
 (bone (sret (qtup (qcons (qbin opd_fdiv (qv 0) (qv 2)) (qcons (qbin opd_fdiv (qv 1) (qv 2)) qnil)))))))
theorem ok_law_frac (L : Nat) (T : Tx K mg) (o_law_gcd : OkD (pg K) P w mg base 1 (He.ga K "_law_gcd") 2 (m_law_gcd L) []) (F : ∃ fd, FunD K "_law_frac" "_law_frac" (defArgs s_law_frac) (defBody s_law_frac) (defScope s_law_frac) [] [] (He.ga K "_law_frac") fd) : OkD (pg K) P w mg base 2 (He.ga K "_law_frac") 2 (m_law_frac L) [] :=
  let ⟨fd, F⟩ := F; ⟨⟨fd, _, [], [], rfl, fn_law_frac L T o_law_gcd F, .nil, F.bindsN (fun _ _ _ _ _ _ us hl => match us, hl with | [_, _], _ => rfl), fun _ _ => .nil⟩, fun ds s h => run_len h⟩
/-! #### _law_first_top (level 1) -/
abbrev s_law_first_top : Stmt := top 35
theorem sc_law_first_top : FnScope (["_law_area", "_law_b", "_law_low_top", "_law_p", "_law_k"] : List Str) (["_law_area", "_law_b"] : List Str) (defScope s_law_first_top) := ⟨rfl, rfl, rfl, by decide +kernel, rfl, by decide +kernel, by decide +kernel⟩
def b_law_first_top (L : Nat) : GS :=
 (gSeq (gAsg (gBin ixD (gVar 0) (gC (.int 0))) (tTup 2 (tCons (tN 3) (tCons (tN 4) tNil))))
 (gSeq (gSet 2 (gBin mulD (gBin ixD (gVar 3) (gC (.int 0))) (gVar 1)))
 (gRet (gIf (gT truB (gBin eqD (gVar 4) (gC (.int 0)))) (gBin subD (gC (.int 0)) (gBin fdivD (gBin subD (gC (.int 0)) (gVar 2)) (gBin ixD (gVar 3) (gC (.int 1))))) (gBin addD (gBin fdivD (gVar 2) (gBin ixD (gVar 3) (gC (.int 1)))) (gC (.int 1)))))))
def m_law_first_top (L : Nat) : List DV → Sto → R DV := run 5 2 (b_law_first_top L)
theorem fn_law_first_top (L : Nat) (T : Tx K mg) {fd : FuncData} (F : FunD K "_law_first_top" "_law_first_top" (defArgs s_law_first_top) (defBody s_law_first_top) (defScope s_law_first_top) [] [] (He.ga K "_law_first_top") fd) : FnOk P w K mg base CX0 1 (He.ga K "_law_first_top") fd (["_law_area", "_law_b"] : List Str) (spD (pg K) We0 2 (m_law_first_top L)) := by
  have S := sc_law_first_top
  refine def0' (p := pg K) (k := 0) (nN := 5) (n := 2) (b := b_law_first_top L) (m := m_law_first_top L) F S rfl rfl (by decide) rfl (fun cdv A outer s H E hr => ?_)
  exact (bcons (sasg (qix (qv 0) qint (fun _ _ => rfl)) (gtup rfl (gcons (gname 3 S.nd (Or.inl rfl)) (gcons (gname 4 S.nd (Or.inl rfl)) gnil))))
 (bcons (sset 2 S.nd (Or.inl rfl) (qbin opd_mul (qix (qv 3) qint (fun _ _ => rfl)) (qv 1)))
 (bone (sret (qif (qtcmp (opd_eq rfl hr.units) (qv 4) qint (nomark _)) (qbin opd_sub qint (qbin opd_fdiv (qbin opd_sub qint (qv 2)) (qix (qv 3) qint (fun _ _ => rfl)))) (qbin (opd_add rfl) (qbin opd_fdiv (qv 2) (qix (qv 3) qint (fun _ _ => rfl))) qint))))))
theorem ok_law_first_top (L : Nat) (T : Tx K mg) (F : ∃ fd, FunD K "_law_first_top" "_law_first_top" (defArgs s_law_first_top) (defBody s_law_first_top) (defScope s_law_first_top) [] [] (He.ga K "_law_first_top") fd) : OkD (pg K) P w mg base 1 (He.ga K "_law_first_top") 2 (m_law_first_top L) [] :=
  let ⟨fd, F⟩ := F; ⟨⟨fd, _, [], [], rfl, fn_law_first_top L T  F, .nil, F.bindsN (fun _ _ _ _ _ _ us hl => match us, hl with | [_, _], _ => rfl), fun _ _ => .nil⟩, fun ds s h => run_len h⟩
/-! #### Ratio_bottom (level 1) -/
abbrev s_Ratio_bottom : Stmt := inClass (top 14) 3
theorem sc_Ratio_bottom : FnScope (["self"] : List Str) (["self"] : List Str) (defScope s_Ratio_bottom) := ⟨rfl, rfl, rfl, by decide +kernel, rfl, by decide +kernel, by decide +kernel⟩
def b_Ratio_bottom (L : Nat) : GS :=
 (gRet (gUn (atD 1 (fun _ => none) fc__bottom) (gVar 0)))
def m_Ratio_bottom (L : Nat) : List DV → Sto → R DV := run 1 1 (b_Ratio_bottom L)
theorem fn_Ratio_bottom (L : Nat) (T : Tx K mg) {fd : FuncData} (F : FunD K "bottom" "Ratio.bottom" (defArgs s_Ratio_bottom) (defBody s_Ratio_bottom) (defScope s_Ratio_bottom) [] [] (pga K (He.ma K (He.ga K "Ratio") "bottom")) fd) : FnOk P w K mg base CX0 1 (pga K (He.ma K (He.ga K "Ratio") "bottom")) fd (["self"] : List Str) (spD (pg K) We0 1 (m_Ratio_bottom L)) := by
  have S := sc_Ratio_bottom
  refine def0' (p := pg K) (k := 0) (nN := 1) (n := 1) (b := b_Ratio_bottom L) (m := m_Ratio_bottom L) F S rfl rfl (by decide) rfl (fun cdv A outer s H E hr => ?_)
  exact (bone (sret (qattr (qv 0) (fun c f h => match c, h with | _, h => nomatch h) (T.fc__bottom))))
theorem ok_Ratio_bottom (L : Nat) (T : Tx K mg) (F : ∃ fd, FunD K "bottom" "Ratio.bottom" (defArgs s_Ratio_bottom) (defBody s_Ratio_bottom) (defScope s_Ratio_bottom) [] [] (pga K (He.ma K (He.ga K "Ratio") "bottom")) fd) : OkD (pg K) P w mg base 1 (pga K (He.ma K (He.ga K "Ratio") "bottom")) 1 (m_Ratio_bottom L) [] :=
  let ⟨fd, F⟩ := F; ⟨⟨fd, _, [], [], rfl, fn_Ratio_bottom L T  F, .nil, F.bindsN (fun _ _ _ _ _ _ us hl => match us, hl with | [_], _ => rfl), fun _ _ => .nil⟩, fun ds s h => run_len h⟩
def sel_bottom_Ratio (L : Nat) : Sel
  | 3 => some (m_Ratio_bottom L)
  | _ => none
/-! #### Ratio_top (level 1) -/
abbrev s_Ratio_top : Stmt := inClass (top 14) 2
theorem sc_Ratio_top : FnScope (["self"] : List Str) (["self"] : List Str) (defScope s_Ratio_top) := ⟨rfl, rfl, rfl, by decide +kernel, rfl, by decide +kernel, by decide +kernel⟩
def b_Ratio_top (L : Nat) : GS :=
 (gRet (gUn (atD 0 (fun _ => none) fc__top) (gVar 0)))
def m_Ratio_top (L : Nat) : List DV → Sto → R DV := run 1 1 (b_Ratio_top L)
theorem fn_Ratio_top (L : Nat) (T : Tx K mg) {fd : FuncData} (F : FunD K "top" "Ratio.top" (defArgs s_Ratio_top) (defBody s_Ratio_top) (defScope s_Ratio_top) [] [] (pga K (He.ma K (He.ga K "Ratio") "top")) fd) : FnOk P w K mg base CX0 1 (pga K (He.ma K (He.ga K "Ratio") "top")) fd (["self"] : List Str) (spD (pg K) We0 1 (m_Ratio_top L)) := by
  have S := sc_Ratio_top
  refine def0' (p := pg K) (k := 0) (nN := 1) (n := 1) (b := b_Ratio_top L) (m := m_Ratio_top L) F S rfl rfl (by decide) rfl (fun cdv A outer s H E hr => ?_)
  exact (bone (sret (qattr (qv 0) (fun c f h => match c, h with | _, h => nomatch h) (T.fc__top))))
theorem ok_Ratio_top (L : Nat) (T : Tx K mg) (F : ∃ fd, FunD K "top" "Ratio.top" (defArgs s_Ratio_top) (defBody s_Ratio_top) (defScope s_Ratio_top) [] [] (pga K (He.ma K (He.ga K "Ratio") "top")) fd) : OkD (pg K) P w mg base 1 (pga K (He.ma K (He.ga K "Ratio") "top")) 1 (m_Ratio_top L) [] :=
  let ⟨fd, F⟩ := F; ⟨⟨fd, _, [], [], rfl, fn_Ratio_top L T  F, .nil, F.bindsN (fun _ _ _ _ _ _ us hl => match us, hl with | [_], _ => rfl), fun _ _ => .nil⟩, fun ds s h => run_len h⟩
def sel_top_Ratio (L : Nat) : Sel
  | 3 => some (m_Ratio_top L)
  | _ => none
/-! #### _law_of_ratio (level 3) -/
abbrev s_law_of_ratio : Stmt := top 30
theorem sc_law_of_ratio : FnScope (["_law_found"] : List Str) (["_law_found"] : List Str) (defScope s_law_of_ratio) := ⟨rfl, rfl, rfl, by decide +kernel, rfl, by decide +kernel, by decide +kernel⟩
def b_law_of_ratio (L : Nat) : GS :=
 (gRet (gIf (gT truD (gUn (isiD isi_Ratio) (gVar 0))) (gTup (gCons (gUn (atD 7 (sel_top_Ratio L) (fun _ => false)) (gVar 0)) (gCons (gUn (atD 6 (sel_bottom_Ratio L) (fun _ => false)) (gVar 0)) gNil))) (gC .non)))
def m_law_of_ratio (L : Nat) : List DV → Sto → R DV := run 1 1 (b_law_of_ratio L)
theorem fn_law_of_ratio (L : Nat) (T : Tx K mg) (o_Ratio_bottom : OkD (pg K) P w mg base 1 (pga K (He.ma K (He.ga K "Ratio") "bottom")) 1 (m_Ratio_bottom L) []) (o_Ratio_top : OkD (pg K) P w mg base 1 (pga K (He.ma K (He.ga K "Ratio") "top")) 1 (m_Ratio_top L) []) {fd : FuncData} (F : FunD K "_law_of_ratio" "_law_of_ratio" (defArgs s_law_of_ratio) (defBody s_law_of_ratio) (defScope s_law_of_ratio) [] [] (He.ga K "_law_of_ratio") fd) : FnOk P w K mg base CX0 3 (He.ga K "_law_of_ratio") fd (["_law_found"] : List Str) (spD (pg K) We0 1 (m_law_of_ratio L)) := by
  have S := sc_law_of_ratio
  refine def0' (p := pg K) (k := 2) (nN := 1) (n := 1) (b := b_law_of_ratio L) (m := m_law_of_ratio L) F S rfl rfl (by decide) rfl (fun cdv A outer s H E hr => ?_)
  exact (bone (sret (qif (qt (qisi T.z_isinstance rfl (by decide +kernel) (qv 0) (pe_glob (v := .ref (He.ga K "Ratio")) rfl T.g_Ratio rfl) (.own _) rfl T.isi_Ratio)) (qtup (qcons (qattr (qv 0) (fun c f h => match c, h with | 0, h => nomatch h | 1, h => nomatch h | 2, h => nomatch h | 3, h => by cases h; exact (OkD.pr (c := 3) (name := "top") o_Ratio_top T.cl_Ratio T.pr_Ratio_top (hr.mono (by decide))) | _ + 4, h => nomatch h) (fun c h => nomatch h)) (qcons (qattr (qv 0) (fun c f h => match c, h with | 0, h => nomatch h | 1, h => nomatch h | 2, h => nomatch h | 3, h => by cases h; exact (OkD.pr (c := 3) (name := "bottom") o_Ratio_bottom T.cl_Ratio T.pr_Ratio_bottom (hr.mono (by decide))) | _ + 4, h => nomatch h) (fun c h => nomatch h)) qnil))) qnon)))
theorem ok_law_of_ratio (L : Nat) (T : Tx K mg) (o_Ratio_bottom : OkD (pg K) P w mg base 1 (pga K (He.ma K (He.ga K "Ratio") "bottom")) 1 (m_Ratio_bottom L) []) (o_Ratio_top : OkD (pg K) P w mg base 1 (pga K (He.ma K (He.ga K "Ratio") "top")) 1 (m_Ratio_top L) []) (F : ∃ fd, FunD K "_law_of_ratio" "_law_of_ratio" (defArgs s_law_of_ratio) (defBody s_law_of_ratio) (defScope s_law_of_ratio) [] [] (He.ga K "_law_of_ratio") fd) : OkD (pg K) P w mg base 3 (He.ga K "_law_of_ratio") 1 (m_law_of_ratio L) [] :=
  let ⟨fd, F⟩ := F; ⟨⟨fd, _, [], [], rfl, fn_law_of_ratio L T o_Ratio_bottom o_Ratio_top F, .nil, F.bindsN (fun _ _ _ _ _ _ us hl => match us, hl with | [_], _ => rfl), fun _ _ => .nil⟩, fun ds s h => run_len h⟩
/-! #### Ratio_is_below (level 3) -/
abbrev s_Ratio_is_below : Stmt := inClass (top 14) 9
theorem sc_Ratio_is_below : FnScope (["self", "other"] : List Str) (["self", "other"] : List Str) (defScope s_Ratio_is_below) := ⟨rfl, rfl, rfl, by decide +kernel, rfl, by decide +kernel, by decide +kernel⟩
def b_Ratio_is_below (L : Nat) : GS :=
 (gRet (gBin ltD (gBin mulD (gUn (atD 0 (fun _ => none) fc__top) (gVar 0)) (gUn (atD 6 (sel_bottom_Ratio L) (fun _ => false)) (gVar 1))) (gBin mulD (gUn (atD 7 (sel_top_Ratio L) (fun _ => false)) (gVar 1)) (gUn (atD 1 (fun _ => none) fc__bottom) (gVar 0)))))
def m_Ratio_is_below (L : Nat) : List DV → Sto → R DV := run 2 2 (b_Ratio_is_below L)
theorem fn_Ratio_is_below (L : Nat) (T : Tx K mg) (o_Ratio_bottom : OkD (pg K) P w mg base 1 (pga K (He.ma K (He.ga K "Ratio") "bottom")) 1 (m_Ratio_bottom L) []) (o_Ratio_top : OkD (pg K) P w mg base 1 (pga K (He.ma K (He.ga K "Ratio") "top")) 1 (m_Ratio_top L) []) {fd : FuncData} (F : FunD K "is_below" "Ratio.is_below" (defArgs s_Ratio_is_below) (defBody s_Ratio_is_below) (defScope s_Ratio_is_below) [] [] (He.ma K (He.ga K "Ratio") "is_below") fd) : FnOk P w K mg base CX0 3 (He.ma K (He.ga K "Ratio") "is_below") fd (["self", "other"] : List Str) (spD (pg K) We0 2 (m_Ratio_is_below L)) := by
  have S := sc_Ratio_is_below
  refine def0' (p := pg K) (k := 2) (nN := 2) (n := 2) (b := b_Ratio_is_below L) (m := m_Ratio_is_below L) F S rfl rfl (by decide) rfl (fun cdv A outer s H E hr => ?_)
  exact (bone (sret (qcmp opd_lt (qbin opd_mul (qattr (qv 0) (fun c f h => match c, h with | _, h => nomatch h) (T.fc__top)) (qattr (qv 1) (fun c f h => match c, h with | 0, h => nomatch h | 1, h => nomatch h | 2, h => nomatch h | 3, h => by cases h; exact (OkD.pr (c := 3) (name := "bottom") o_Ratio_bottom T.cl_Ratio T.pr_Ratio_bottom (hr.mono (by decide))) | _ + 4, h => nomatch h) (fun c h => nomatch h))) (qbin opd_mul (qattr (qv 1) (fun c f h => match c, h with | 0, h => nomatch h | 1, h => nomatch h | 2, h => nomatch h | 3, h => by cases h; exact (OkD.pr (c := 3) (name := "top") o_Ratio_top T.cl_Ratio T.pr_Ratio_top (hr.mono (by decide))) | _ + 4, h => nomatch h) (fun c h => nomatch h)) (qattr (qv 0) (fun c f h => match c, h with | _, h => nomatch h) (T.fc__bottom))) (nomark _))))
theorem ok_Ratio_is_below (L : Nat) (T : Tx K mg) (o_Ratio_bottom : OkD (pg K) P w mg base 1 (pga K (He.ma K (He.ga K "Ratio") "bottom")) 1 (m_Ratio_bottom L) []) (o_Ratio_top : OkD (pg K) P w mg base 1 (pga K (He.ma K (He.ga K "Ratio") "top")) 1 (m_Ratio_top L) []) (F : ∃ fd, FunD K "is_below" "Ratio.is_below" (defArgs s_Ratio_is_below) (defBody s_Ratio_is_below) (defScope s_Ratio_is_below) [] [] (He.ma K (He.ga K "Ratio") "is_below") fd) : OkD (pg K) P w mg base 3 (He.ma K (He.ga K "Ratio") "is_below") 2 (m_Ratio_is_below L) [] :=
  let ⟨fd, F⟩ := F; ⟨⟨fd, _, [], [], rfl, fn_Ratio_is_below L T o_Ratio_bottom o_Ratio_top F, .nil, F.bindsN (fun _ _ _ _ _ _ us hl => match us, hl with | [_, _], _ => rfl), fun _ _ => .nil⟩, fun ds s h => run_len h⟩
def sel_is_below_Ratio (L : Nat) : Sel
  | 3 => some (m_Ratio_is_below L)
  | _ => none
/-! #### Ratio___eq__ (level 1) -/
abbrev s_Ratiodd_eqdd : Stmt := inClass (top 14) 10
theorem sc_Ratiodd_eqdd : FnScope (["self", "other"] : List Str) (["self", "other"] : List Str) (defScope s_Ratiodd_eqdd) := ⟨rfl, rfl, rfl, by decide +kernel, rfl, by decide +kernel, by decide +kernel⟩
def b_Ratiodd_eqdd (L : Nat) : GS :=
 (gRet (gAndV (gUn (isiD isi_Ratio) (gVar 1)) (gAndV (gBin eqD (gUn (atD 0 (fun _ => none) fc__top) (gVar 0)) (gUn (atD 0 (fun _ => none) fc__top) (gVar 1))) (gBin eqD (gUn (atD 1 (fun _ => none) fc__bottom) (gVar 0)) (gUn (atD 1 (fun _ => none) fc__bottom) (gVar 1))))))
def m_Ratiodd_eqdd (L : Nat) : List DV → Sto → R DV := run 2 2 (b_Ratiodd_eqdd L)
theorem fn_Ratiodd_eqdd (L : Nat) (T : Tx K mg) {fd : FuncData} (F : FunD K "__eq__" "Ratio.__eq__" (defArgs s_Ratiodd_eqdd) (defBody s_Ratiodd_eqdd) (defScope s_Ratiodd_eqdd) [] [] (He.ma K (He.ga K "Ratio") "__eq__") fd) : FnOk P w K mg base CX0 1 (He.ma K (He.ga K "Ratio") "__eq__") fd (["self", "other"] : List Str) (spD (pg K) We0 2 (m_Ratiodd_eqdd L)) := by
  have S := sc_Ratiodd_eqdd
  refine def0' (p := pg K) (k := 0) (nN := 2) (n := 2) (b := b_Ratiodd_eqdd L) (m := m_Ratiodd_eqdd L) F S rfl rfl (by decide) rfl (fun cdv A outer s H E hr => ?_)
  exact (bone (sret (qand (qisi T.z_isinstance rfl (by decide +kernel) (qv 1) (pe_glob (v := .ref (He.ga K "Ratio")) rfl T.g_Ratio rfl) (.own _) rfl T.isi_Ratio) (qand (qcmp (opd_eq rfl hr.units) (qattr (qv 0) (fun c f h => match c, h with | _, h => nomatch h) (T.fc__top)) (qattr (qv 1) (fun c f h => match c, h with | _, h => nomatch h) (T.fc__top)) (nomark _)) (q1 (qcmp (opd_eq rfl hr.units) (qattr (qv 0) (fun c f h => match c, h with | _, h => nomatch h) (T.fc__bottom)) (qattr (qv 1) (fun c f h => match c, h with | _, h => nomatch h) (T.fc__bottom)) (nomark _)))))))
theorem ok_Ratiodd_eqdd (L : Nat) (T : Tx K mg) (F : ∃ fd, FunD K "__eq__" "Ratio.__eq__" (defArgs s_Ratiodd_eqdd) (defBody s_Ratiodd_eqdd) (defScope s_Ratiodd_eqdd) [] [] (He.ma K (He.ga K "Ratio") "__eq__") fd) : OkD (pg K) P w mg base 1 (He.ma K (He.ga K "Ratio") "__eq__") 2 (m_Ratiodd_eqdd L) [] :=
  let ⟨fd, F⟩ := F; ⟨⟨fd, _, [], [], rfl, fn_Ratiodd_eqdd L T  F, .nil, F.bindsN (fun _ _ _ _ _ _ us hl => match us, hl with | [_, _], _ => rfl), fun _ _ => .nil⟩, fun ds s h => run_len h⟩
def sel_eq_op_Ratio (L : Nat) : Sel
  | 3 => some (m_Ratiodd_eqdd L)
  | _ => none
/-! #### are_ends (level 4) -/
abbrev s_are_ends : Stmt := top 16
theorem sc_are_ends : FnScope (["low", "high", "has_low", "has_high"] : List Str) (["low", "high", "has_low", "has_high"] : List Str) (defScope s_are_ends) := ⟨rfl, rfl, rfl, by decide +kernel, rfl, by decide +kernel, by decide +kernel⟩
def b_are_ends (L : Nat) : GS :=
 (gSeq (gIfS (gOr (gNot (gT truD (gUn (isiD isi_Ratio) (gVar 0)))) (gNot (gT truD (gUn (isiD isi_Ratio) (gVar 1)))))
 (gRet (gC (.bl false)))
 gNext)
 (gRet (gOrV (gMeth 6 (sel_is_below_Ratio L) (gVar 0) (gCons (gVar 1) gNil)) (gAndV (gBin (ownEq (sel_eq_op_Ratio L) eqD) (gVar 0) (gVar 1)) (gAndV (gVar 2) (gVar 3))))))
def m_are_ends (L : Nat) : List DV → Sto → R DV := run 4 4 (b_are_ends L)
theorem fn_are_ends (L : Nat) (T : Tx K mg) (o_Ratio_is_below : OkD (pg K) P w mg base 3 (He.ma K (He.ga K "Ratio") "is_below") 2 (m_Ratio_is_below L) []) (o_Ratiodd_eqdd : OkD (pg K) P w mg base 1 (He.ma K (He.ga K "Ratio") "__eq__") 2 (m_Ratiodd_eqdd L) []) {fd : FuncData} (F : FunD K "are_ends" "are_ends" (defArgs s_are_ends) (defBody s_are_ends) (defScope s_are_ends) [] [] (He.ga K "are_ends") fd) : FnOk P w K mg base CX0 4 (He.ga K "are_ends") fd (["low", "high", "has_low", "has_high"] : List Str) (spD (pg K) We0 4 (m_are_ends L)) := by
  have S := sc_are_ends
  refine def0' (p := pg K) (k := 3) (nN := 4) (n := 4) (b := b_are_ends L) (m := m_are_ends L) F S rfl rfl (by decide) rfl (fun cdv A outer s H E hr => ?_)
  exact (bcons (sif (L2.PW.pt (qwor (qtnot (qt (qisi T.z_isinstance rfl (by decide +kernel) (qv 0) (pe_glob (v := .ref (He.ga K "Ratio")) rfl T.g_Ratio rfl) (.own _) rfl T.isi_Ratio))) (qw1 (qtnot (qt (qisi T.z_isinstance rfl (by decide +kernel) (qv 1) (pe_glob (v := .ref (He.ga K "Ratio")) rfl T.g_Ratio rfl) (.own _) rfl T.isi_Ratio))))))
 (bone (sret qbl))
 bnil)
 (bone (sret (qor (qmeth (qv 0) (fun c f h => match c, h with | 0, h => nomatch h | 1, h => nomatch h | 2, h => nomatch h | 3, h => by cases h; exact (OkD.mt0 (c := 3) (name := "is_below") o_Ratio_is_below T.cl_Ratio T.me_Ratio_is_below (hr.mono (by decide))) | _ + 4, h => nomatch h) nmF_is_below (qcons (qv 1) qnil)) (q1 (qand (qcmp (opd_ownEq hr.units0 (opd_eq rfl hr.units) (fun c f h => match c, h with | 0, h => nomatch h | 1, h => nomatch h | 2, h => nomatch h | 3, h => by cases h; exact (OkD.sp (c := 3) (name := "__eq__") o_Ratiodd_eqdd T.sp_Ratio_eq.1 T.sp_Ratio_eq.2 (hr.mono (by decide))) | _ + 4, h => nomatch h)) (qv 0) (qv 1) (nomark _)) (qand (qv 2) (q1 (qv 3)))))))))
theorem ok_are_ends (L : Nat) (T : Tx K mg) (o_Ratio_is_below : OkD (pg K) P w mg base 3 (He.ma K (He.ga K "Ratio") "is_below") 2 (m_Ratio_is_below L) []) (o_Ratiodd_eqdd : OkD (pg K) P w mg base 1 (He.ma K (He.ga K "Ratio") "__eq__") 2 (m_Ratiodd_eqdd L) []) (F : ∃ fd, FunD K "are_ends" "are_ends" (defArgs s_are_ends) (defBody s_are_ends) (defScope s_are_ends) [] [] (He.ga K "are_ends") fd) : OkD (pg K) P w mg base 4 (He.ga K "are_ends") 4 (m_are_ends L) [] :=
  let ⟨fd, F⟩ := F; ⟨⟨fd, _, [], [], rfl, fn_are_ends L T o_Ratio_is_below o_Ratiodd_eqdd F, .nil, F.bindsN (fun _ _ _ _ _ _ us hl => match us, hl with | [_, _, _, _], _ => rfl), fun _ _ => .nil⟩, fun ds s h => run_len h⟩
/-! #### Span___init__ (level 5) -/
abbrev s_Spandd_initdd : Stmt := inClass (top 19) 0
theorem sc_Spandd_initdd : FnScope (["self", "low", "high", "has_low", "has_high"] : List Str) (["self", "low", "high", "has_low", "has_high"] : List Str) (defScope s_Spandd_initdd) := ⟨rfl, rfl, rfl, by decide +kernel, rfl, by decide +kernel, by decide +kernel⟩
def b_Spandd_initdd (L : Nat) : GS :=
 (gSeq (gIfS (gNot (gT truD (gCall (m_are_ends L) [] (gCons (gVar 1) (gCons (gVar 2) (gCons (gVar 3) (gCons (gVar 4) gNil)))))))
 gBad
 gNext)
 (gSeq (gFld 2 fc__low (gVar 1) (gVar 0))
 (gSeq (gFld 3 fc__high (gVar 2) (gVar 0))
 (gSeq (gFld 4 fc__has_low (gVar 3) (gVar 0))
 (gFld 5 fc__has_high (gVar 4) (gVar 0))))))
def m_Spandd_initdd (L : Nat) : List DV → Sto → R DV := run 5 5 (b_Spandd_initdd L)
theorem fn_Spandd_initdd (L : Nat) (T : Tx K mg) (o_are_ends : OkD (pg K) P w mg base 4 (He.ga K "are_ends") 4 (m_are_ends L) []) {fd : FuncData} (F : FunD K "__init__" "Span.__init__" (defArgs s_Spandd_initdd) (defBody s_Spandd_initdd) (defScope s_Spandd_initdd) [] [("has_low", V.bl true), ("has_high", V.bl true)] (He.ma K (He.ga K "Span") "__init__") fd) : FnOk P w K mg base CX0 5 (He.ma K (He.ga K "Span") "__init__") fd (["self", "low", "high", "has_low", "has_high"] : List Str) (spD (pg K) We0 5 (m_Spandd_initdd L)) := by
  have S := sc_Spandd_initdd
  refine def0' (p := pg K) (k := 4) (nN := 5) (n := 5) (b := b_Spandd_initdd L) (m := m_Spandd_initdd L) F S rfl rfl (by decide) rfl (fun cdv A outer s H E hr => ?_)
  exact (bcons (sif (qtnot (qt (qcall (o_are_ends.c (hr.mono (by decide))) T.g_are_ends T.k_are_ends rfl (qcons (qv 1) (qcons (qv 2) (qcons (qv 3) (qcons (qv 4) qnil)))))))
 (bone snever)
 bnil)
 (bcons (sfld (qv 0) (qv 1) (T.fc__low))
 (bcons (sfld (qv 0) (qv 2) (T.fc__high))
 (bcons (sfld (qv 0) (qv 3) (T.fc__has_low))
 (bone (sfld (qv 0) (qv 4) (T.fc__has_high)))))))
def g_Spandd_initdd_k2_has_low_has_high {α : Type} (vs mz zs : List α) : List α := match vs, mz, zs with
  | [a0, a1, a2], [], [k0, k1] => [a0, a1, a2, k0, k1]
  | _, _, _ => []
theorem rel_Spandd_initdd_k2_has_low_has_high {vs mz zs : List V} {us mv ws : List Value} (h1 : Vals vs us) (h2 : Vals mz mv) (h3 : Vals zs ws) : Vals (g_Spandd_initdd_k2_has_low_has_high vs mz zs) (g_Spandd_initdd_k2_has_low_has_high us mv ws) := by
  cases h1 with
  | nil => exact .nil
  | cons h1r0 h1t0 =>
    cases h1t0 with
    | nil => exact .nil
    | cons h1r1 h1t1 =>
      cases h1t1 with
      | nil => exact .nil
      | cons h1r2 h1t2 =>
        cases h1t2 with
        | cons _ _ => exact .nil
        | nil =>
          cases h2 with
          | cons _ _ => exact .nil
          | nil =>
            cases h3 with
            | nil => exact .nil
            | cons h3r0 h3t0 =>
              cases h3t0 with
              | nil => exact .nil
              | cons h3r1 h3t1 =>
                cases h3t1 with
                | cons _ _ => exact .nil
                | nil =>
                  exact (.cons h1r0 (.cons h1r1 (.cons h1r2 (.cons h3r0 (.cons h3r1 .nil)))))
theorem ok_Spandd_initdd_k2_has_low_has_high (L : Nat) (T : Tx K mg) (o_are_ends : OkD (pg K) P w mg base 4 (He.ga K "are_ends") 4 (m_are_ends L) []) (F : ∃ fd, FunD K "__init__" "Span.__init__" (defArgs s_Spandd_initdd) (defBody s_Spandd_initdd) (defScope s_Spandd_initdd) [] [("has_low", V.bl true), ("has_high", V.bl true)] (He.ma K (He.ga K "Span") "__init__") fd) : OkMK (pg K) P w mg base 5 (He.ma K (He.ga K "Span") "__init__") 5 (m_Spandd_initdd L) 2 (["has_low", "has_high"] : List Str) mix_Spandd_initdd_k2_has_low_has_high := by
  obtain ⟨fd, F⟩ := F
  obtain ⟨mv, hb⟩ := F.kbinds0 (ps := (["self", "low", "high", "has_low", "has_high"] : List Str)) 3 (["has_low", "has_high"] : List Str) [] g_Spandd_initdd_k2_has_low_has_high (by simp) (by simp) rel_Spandd_initdd_k2_has_low_has_high (fun _ _ _ _ _ _ us mv ws hl hm hk => match us, mv, ws, hl, hm, hk with | [_, _, _], [], [_, _], _, _, _ => rfl)
  refine ⟨⟨fd, _, _, _, rfl, fn_Spandd_initdd L T o_are_ends F, hb, ?_⟩, fun ds s h => run_len h⟩
  intro F μ l z a vs zs u h1 h2 h3
  unfold mix_Spandd_initdd_k2_has_low_has_high at h3
  split at h3
  · cases h3
    obtain _ | ⟨r0, _ | ⟨r1, _ | _⟩⟩ := h1
    obtain _ | ⟨q0, _ | ⟨q1, _ | _⟩⟩ := h2
    exact ⟨rfl, rfl, _, rfl, .cons r0 (.cons r1 (.cons q0 (.cons q1 (.nil))))⟩
  · cases h3
/-! #### is_number (level 1) -/
abbrev s_is_number : Stmt := top 10
theorem sc_is_number : FnScope (["value"] : List Str) (["value"] : List Str) (defScope s_is_number) := ⟨rfl, rfl, rfl, by decide +kernel, rfl, by decide +kernel, by decide +kernel⟩
def b_is_number (L : Nat) : GS :=
 (gRet (gAndV (gUn (isiD isi_int) (gVar 0)) (gNotV (gUn (isiD isi_bool) (gVar 0)))))
def m_is_number (L : Nat) : List DV → Sto → R DV := run 1 1 (b_is_number L)
theorem fn_is_number (L : Nat) (T : Tx K mg) {fd : FuncData} (F : FunD K "is_number" "is_number" (defArgs s_is_number) (defBody s_is_number) (defScope s_is_number) [] [] (He.ga K "is_number") fd) : FnOk P w K mg base CX0 1 (He.ga K "is_number") fd (["value"] : List Str) (spD (pg K) We0 1 (m_is_number L)) := by
  have S := sc_is_number
  refine def0' (p := pg K) (k := 0) (nN := 1) (n := 1) (b := b_is_number L) (m := m_is_number L) F S rfl rfl (by decide) rfl (fun cdv A outer s H E hr => ?_)
  exact (bone (sret (qand (qisi T.z_isinstance rfl (by decide +kernel) (qv 0) (pe_bltn (v := .ty "int") rfl T.z_int (by decide +kernel) rfl) (.ty _) rfl T.isi_int) (q1 (qnot (qisi T.z_isinstance rfl (by decide +kernel) (qv 0) (pe_bltn (v := .ty "bool") rfl T.z_bool (by decide +kernel) rfl) (.ty _) rfl T.isi_bool))))))
theorem ok_is_number (L : Nat) (T : Tx K mg) (F : ∃ fd, FunD K "is_number" "is_number" (defArgs s_is_number) (defBody s_is_number) (defScope s_is_number) [] [] (He.ga K "is_number") fd) : OkD (pg K) P w mg base 1 (He.ga K "is_number") 1 (m_is_number L) [] :=
  let ⟨fd, F⟩ := F; ⟨⟨fd, _, [], [], rfl, fn_is_number L T  F, .nil, F.bindsN (fun _ _ _ _ _ _ us hl => match us, hl with | [_], _ => rfl), fun _ _ => .nil⟩, fun ds s h => run_len h⟩
/-! #### Ratio___init__ (level 2) -/
abbrev s_Ratiodd_initdd : Stmt := inClass (top 14) 0
theorem sc_Ratiodd_initdd : FnScope (["self", "top", "bottom", "common"] : List Str) (["self", "top", "bottom"] : List Str) (defScope s_Ratiodd_initdd) := ⟨rfl, rfl, rfl, by decide +kernel, rfl, by decide +kernel, by decide +kernel⟩
def b_Ratiodd_initdd (L : Nat) : GS :=
 (gSeq (gIfS (gOr (gNot (gT truD (gCall (m_is_number L) [] (gCons (gVar 1) gNil)))) (gOr (gNot (gT truD (gCall (m_is_number L) [] (gCons (gVar 2) gNil)))) (gT truB (gBin eqD (gVar 2) (gC (.int 0))))))
 gBad
 gNext)
 (gSeq (gSet 3 (gB gcdD (gCons (gVar 1) (gCons (gVar 2) gNil))))
 (gSeq (gIfS (gT truB (gBin ltD (gVar 2) (gC (.int 0))))
 (gSet 3 (gUn negD (gVar 3)))
 gNext)
 (gSeq (gFld 0 fc__top (gBin fdivD (gVar 1) (gVar 3)) (gVar 0))
 (gFld 1 fc__bottom (gBin fdivD (gVar 2) (gVar 3)) (gVar 0))))))
def m_Ratiodd_initdd (L : Nat) : List DV → Sto → R DV := run 4 3 (b_Ratiodd_initdd L)
theorem fn_Ratiodd_initdd (L : Nat) (T : Tx K mg) (o_is_number : OkD (pg K) P w mg base 1 (He.ga K "is_number") 1 (m_is_number L) []) {fd : FuncData} (F : FunD K "__init__" "Ratio.__init__" (defArgs s_Ratiodd_initdd) (defBody s_Ratiodd_initdd) (defScope s_Ratiodd_initdd) [V.int 1] [] (He.ma K (He.ga K "Ratio") "__init__") fd) : FnOk P w K mg base CX0 2 (He.ma K (He.ga K "Ratio") "__init__") fd (["self", "top", "bottom"] : List Str) (spD (pg K) We0 3 (m_Ratiodd_initdd L)) := by
  have S := sc_Ratiodd_initdd
  refine def0' (p := pg K) (k := 1) (nN := 4) (n := 3) (b := b_Ratiodd_initdd L) (m := m_Ratiodd_initdd L) F S rfl rfl (by decide) rfl (fun cdv A outer s H E hr => ?_)
  exact (bcons (sif (L2.PW.pt (qwor (qtnot (qt (qcall (o_is_number.c (hr.mono (by decide))) T.g_is_number T.k_is_number rfl (qcons (qv 1) qnil)))) (qwor (qtnot (qt (qcall (o_is_number.c (hr.mono (by decide))) T.g_is_number T.k_is_number rfl (qcons (qv 2) qnil)))) (qw1 (qtcmp (opd_eq rfl hr.units) (qv 2) qint (nomark _))))))
 (bone snever)
 bnil)
 (bcons (sset 3 S.nd (Or.inl rfl) (qbfn opd_gcd T.b_gcd rfl (qcons (qv 1) (qcons (qv 2) qnil))))
 (bcons (sif (qtcmp opd_lt (qv 2) qint (nomark _))
 (bone (sset 3 S.nd (Or.inl rfl) (qun opd_neg (qv 3))))
 bnil)
 (bcons (sfld (qv 0) (qbin opd_fdiv (qv 1) (qv 3)) (T.fc__top))
 (bone (sfld (qv 0) (qbin opd_fdiv (qv 2) (qv 3)) (T.fc__bottom)))))))
theorem ok_Ratiodd_initdd (L : Nat) (T : Tx K mg) (o_is_number : OkD (pg K) P w mg base 1 (He.ga K "is_number") 1 (m_is_number L) []) (F : ∃ fd, FunD K "__init__" "Ratio.__init__" (defArgs s_Ratiodd_initdd) (defBody s_Ratiodd_initdd) (defScope s_Ratiodd_initdd) [V.int 1] [] (He.ma K (He.ga K "Ratio") "__init__") fd) : OkD (pg K) P w mg base 2 (He.ma K (He.ga K "Ratio") "__init__") 3 (m_Ratiodd_initdd L) [] :=
  let ⟨fd, F⟩ := F; ⟨(let ⟨ds, hd, hb⟩ := F.binds1 (ps := (["self", "top", "bottom"] : List Str)) 3 1 (by simp) (by decide) (fun _ _ _ _ _ _ _ us its hl hi => match us, its, hl, hi with | [_, _, _], [_], _, _ => ⟨_, rfl, rfl⟩); ⟨fd, _, [], ds, rfl, fn_Ratiodd_initdd L T o_is_number F, hd, hb, fun _ _ => .nil⟩), fun ds s h => run_len h⟩
theorem ok_Ratiodd_initdd_d1 (L : Nat) (T : Tx K mg) (o_is_number : OkD (pg K) P w mg base 1 (He.ga K "is_number") 1 (m_is_number L) []) (F : ∃ fd, FunD K "__init__" "Ratio.__init__" (defArgs s_Ratiodd_initdd) (defBody s_Ratiodd_initdd) (defScope s_Ratiodd_initdd) [V.int 1] [] (He.ma K (He.ga K "Ratio") "__init__") fd) : OkD (pg K) P w mg base 2 (He.ma K (He.ga K "Ratio") "__init__") 3 (m_Ratiodd_initdd L) [(.int 1)] :=
  let ⟨fd, F⟩ := F; ⟨(let ⟨ds, hd, hb⟩ := F.binds1 (ps := (["self", "top", "bottom"] : List Str)) 2 0 (by simp) (by decide) (fun _ _ _ _ _ _ _ us its hl hi => match us, its, hl, hi with | [_, _], [_], _, _ => ⟨_, rfl, rfl⟩); ⟨fd, _, _, ds, rfl, fn_Ratiodd_initdd L T o_is_number F, hd, hb, fun _ _ => by repeat constructor⟩), fun ds s h => run_len h⟩
/-! #### _law_ratio (level 4) -/
abbrev s_law_ratio : Stmt := top 31
theorem sc_law_ratio : FnScope (["_law_p"] : List Str) (["_law_p"] : List Str) (defScope s_law_ratio) := ⟨rfl, rfl, rfl, by decide +kernel, rfl, by decide +kernel, by decide +kernel⟩
def b_law_ratio (L : Nat) : GS :=
 (gRet (gMake false 3 (m_Ratiodd_initdd L) [] (gCons (gBin ixD (gVar 0) (gC (.int 0))) (gCons (gBin ixD (gVar 0) (gC (.int 1))) gNil))))
def m_law_ratio (L : Nat) : List DV → Sto → R DV := run 1 1 (b_law_ratio L)
theorem fn_law_ratio (L : Nat) (T : Tx K mg) (o_Ratiodd_initdd : OkD (pg K) P w mg base 2 (He.ma K (He.ga K "Ratio") "__init__") 3 (m_Ratiodd_initdd L) []) {fd : FuncData} (F : FunD K "_law_ratio" "_law_ratio" (defArgs s_law_ratio) (defBody s_law_ratio) (defScope s_law_ratio) [] [] (He.ga K "_law_ratio") fd) : FnOk P w K mg base CX0 4 (He.ga K "_law_ratio") fd (["_law_p"] : List Str) (spD (pg K) We0 1 (m_law_ratio L)) := by
  have S := sc_law_ratio
  refine def0' (p := pg K) (k := 3) (nN := 1) (n := 1) (b := b_law_ratio L) (m := m_law_ratio L) F S rfl rfl (by decide) rfl (fun cdv A outer s H E hr => ?_)
  exact (bone (sret (qmake (OkD.mk' (c := 3) o_Ratiodd_initdd T.mk_Ratio (hr.mono (by decide))) T.g_Ratio rfl (qcons (qix (qv 0) qint (fun _ _ => rfl)) (qcons (qix (qv 0) qint (fun _ _ => rfl)) qnil)))))
theorem ok_law_ratio (L : Nat) (T : Tx K mg) (o_Ratiodd_initdd : OkD (pg K) P w mg base 2 (He.ma K (He.ga K "Ratio") "__init__") 3 (m_Ratiodd_initdd L) []) (F : ∃ fd, FunD K "_law_ratio" "_law_ratio" (defArgs s_law_ratio) (defBody s_law_ratio) (defScope s_law_ratio) [] [] (He.ga K "_law_ratio") fd) : OkD (pg K) P w mg base 4 (He.ga K "_law_ratio") 1 (m_law_ratio L) [] :=
  let ⟨fd, F⟩ := F; ⟨⟨fd, _, [], [], rfl, fn_law_ratio L T o_Ratiodd_initdd F, .nil, F.bindsN (fun _ _ _ _ _ _ us hl => match us, hl with | [_], _ => rfl), fun _ _ => .nil⟩, fun ds s h => run_len h⟩
/-! #### _law_made_span (level 7) -/
abbrev s_law_made_span : Stmt := top 32
theorem sc_law_made_span : FnScope (["_law_area", "_law_c", "_law_d"] : List Str) (["_law_area"] : List Str) (defScope s_law_made_span) := ⟨rfl, rfl, rfl, by decide +kernel, rfl, by decide +kernel, by decide +kernel⟩
def b_law_made_span (L : Nat) : GS :=
 (gSeq (gAsg (gVar 0) (tTup 2 (tCons (tN 1) (tCons (tN 2) tNil))))
 (gRet (gMakeK false 4 (m_Spandd_initdd L) mix_Spandd_initdd_k2_has_low_has_high (gCons (gCall (m_law_ratio L) [] (gCons (gBin ixD (gVar 1) (gC (.int 0))) gNil)) (gCons (gCall (m_law_ratio L) [] (gCons (gBin ixD (gVar 2) (gC (.int 0))) gNil)) gNil)) (gCons (gBin eqD (gBin ixD (gVar 1) (gC (.int 1))) (gC (.int 0))) (gCons (gBin eqD (gBin ixD (gVar 2) (gC (.int 1))) (gC (.int 1))) gNil)))))
def m_law_made_span (L : Nat) : List DV → Sto → R DV := run 3 1 (b_law_made_span L)
theorem fn_law_made_span (L : Nat) (T : Tx K mg) (o_Spandd_initdd_k2_has_low_has_high : OkMK (pg K) P w mg base 5 (He.ma K (He.ga K "Span") "__init__") 5 (m_Spandd_initdd L) 2 (["has_low", "has_high"] : List Str) mix_Spandd_initdd_k2_has_low_has_high) (o_law_ratio : OkD (pg K) P w mg base 4 (He.ga K "_law_ratio") 1 (m_law_ratio L) []) {fd : FuncData} (F : FunD K "_law_made_span" "_law_made_span" (defArgs s_law_made_span) (defBody s_law_made_span) (defScope s_law_made_span) [] [] (He.ga K "_law_made_span") fd) : FnOk P w K mg base CX0 7 (He.ga K "_law_made_span") fd (["_law_area"] : List Str) (spD (pg K) We0 1 (m_law_made_span L)) := by
  have S := sc_law_made_span
  refine def0' (p := pg K) (k := 6) (nN := 3) (n := 1) (b := b_law_made_span L) (m := m_law_made_span L) F S rfl rfl (by decide) rfl (fun cdv A outer s H E hr => ?_)
  exact (bcons (sasg (qv 0) (gtup rfl (gcons (gname 1 S.nd (Or.inl rfl)) (gcons (gname 2 S.nd (Or.inl rfl)) gnil))))
 (bone (sret (qmakeK (OkMK.mk' (c := 4) o_Spandd_initdd_k2_has_low_has_high T.mk_Span (hr.mono (by decide))) T.g_Span rfl (qcons (qcall (o_law_ratio.c (hr.mono (by decide))) T.g__law_ratio T.k__law_ratio rfl (qcons (qix (qv 1) qint (fun _ _ => rfl)) qnil)) (qcons (qcall (o_law_ratio.c (hr.mono (by decide))) T.g__law_ratio T.k__law_ratio rfl (qcons (qix (qv 2) qint (fun _ _ => rfl)) qnil)) qnil)) (kcons (qcmp (opd_eq rfl hr.units) (qix (qv 1) qint (fun _ _ => rfl)) qint (nomark _)) (kcons (qcmp (opd_eq rfl hr.units) (qix (qv 2) qint (fun _ _ => rfl)) qint (nomark _)) knil))))))
theorem ok_law_made_span (L : Nat) (T : Tx K mg) (o_Spandd_initdd_k2_has_low_has_high : OkMK (pg K) P w mg base 5 (He.ma K (He.ga K "Span") "__init__") 5 (m_Spandd_initdd L) 2 (["has_low", "has_high"] : List Str) mix_Spandd_initdd_k2_has_low_has_high) (o_law_ratio : OkD (pg K) P w mg base 4 (He.ga K "_law_ratio") 1 (m_law_ratio L) []) (F : ∃ fd, FunD K "_law_made_span" "_law_made_span" (defArgs s_law_made_span) (defBody s_law_made_span) (defScope s_law_made_span) [] [] (He.ga K "_law_made_span") fd) : OkD (pg K) P w mg base 7 (He.ga K "_law_made_span") 1 (m_law_made_span L) [] :=
  let ⟨fd, F⟩ := F; ⟨⟨fd, _, [], [], rfl, fn_law_made_span L T o_Spandd_initdd_k2_has_low_has_high o_law_ratio F, .nil, F.bindsN (fun _ _ _ _ _ _ us hl => match us, hl with | [_], _ => rfl), fun _ _ => .nil⟩, fun ds s h => run_len h⟩
/-! #### unfolded (level 4) -/
abbrev s_unfolded : Stmt := top 17
theorem sc_unfolded : FnScope (["floors", "whole", "floor", "top", "bottom"] : List Str) (["floors", "whole"] : List Str) (defScope s_unfolded) := ⟨rfl, rfl, rfl, by decide +kernel, rfl, by decide +kernel, by decide +kernel⟩
def b_unfolded (L : Nat) : GS :=
 (gSeq (gPar 3 4 (gCons (gVar 1) (gCons (gC (.int 1)) gNil)))
 (gSeq (gForS (gUn revD (gVar 0)) (tN 2)
 (gPar 3 4 (gCons (gBin addD (gBin mulD (gVar 2) (gVar 3)) (gVar 4)) (gCons (gVar 3) gNil))))
 (gRet (gMake false 3 (m_Ratiodd_initdd L) [] (gCons (gVar 3) (gCons (gVar 4) gNil))))))
def m_unfolded (L : Nat) : List DV → Sto → R DV := run 5 2 (b_unfolded L)
theorem fn_unfolded (L : Nat) (T : Tx K mg) (o_Ratiodd_initdd : OkD (pg K) P w mg base 2 (He.ma K (He.ga K "Ratio") "__init__") 3 (m_Ratiodd_initdd L) []) {fd : FuncData} (F : FunD K "unfolded" "unfolded" (defArgs s_unfolded) (defBody s_unfolded) (defScope s_unfolded) [] [] (He.ga K "unfolded") fd) : FnOk P w K mg base CX0 4 (He.ga K "unfolded") fd (["floors", "whole"] : List Str) (spD (pg K) We0 2 (m_unfolded L)) := by
  have S := sc_unfolded
  refine def0' (p := pg K) (k := 3) (nN := 5) (n := 2) (b := b_unfolded L) (m := m_unfolded L) F S rfl rfl (by decide) rfl (fun cdv A outer s H E hr => ?_)
  exact (bcons (spar (i := 3) (j := 4) rfl S.nd rfl rfl (by decide) rfl rfl (qcons (qv 1) (qcons qint qnil)) rfl)
 (bcons (sfor PassesOwn.never rfl (qrev (qv 0)) (gname 2 S.nd (Or.inl rfl))
 (bone (spar (i := 3) (j := 4) rfl S.nd rfl rfl (by decide) rfl rfl (qcons (qbin (opd_add rfl) (qbin opd_mul (qv 2) (qv 3)) (qv 4)) (qcons (qv 3) qnil)) rfl)))
 (bone (sret (qmake (OkD.mk' (c := 3) o_Ratiodd_initdd T.mk_Ratio (hr.mono (by decide))) T.g_Ratio rfl (qcons (qv 3) (qcons (qv 4) qnil)))))))
theorem ok_unfolded (L : Nat) (T : Tx K mg) (o_Ratiodd_initdd : OkD (pg K) P w mg base 2 (He.ma K (He.ga K "Ratio") "__init__") 3 (m_Ratiodd_initdd L) []) (F : ∃ fd, FunD K "unfolded" "unfolded" (defArgs s_unfolded) (defBody s_unfolded) (defScope s_unfolded) [] [] (He.ga K "unfolded") fd) : OkD (pg K) P w mg base 4 (He.ga K "unfolded") 2 (m_unfolded L) [] :=
  let ⟨fd, F⟩ := F; ⟨⟨fd, _, [], [], rfl, fn_unfolded L T o_Ratiodd_initdd F, .nil, F.bindsN (fun _ _ _ _ _ _ us hl => match us, hl with | [_, _], _ => rfl), fun _ _ => .nil⟩, fun ds s h => run_len h⟩
/-! #### Span_has_high (level 1) -/
abbrev s_Span_has_high : Stmt := inClass (top 19) 6
theorem sc_Span_has_high : FnScope (["self"] : List Str) (["self"] : List Str) (defScope s_Span_has_high) := ⟨rfl, rfl, rfl, by decide +kernel, rfl, by decide +kernel, by decide +kernel⟩
def b_Span_has_high (L : Nat) : GS :=
 (gRet (gUn (atD 5 (fun _ => none) fc__has_high) (gVar 0)))
def m_Span_has_high (L : Nat) : List DV → Sto → R DV := run 1 1 (b_Span_has_high L)
theorem fn_Span_has_high (L : Nat) (T : Tx K mg) {fd : FuncData} (F : FunD K "has_high" "Span.has_high" (defArgs s_Span_has_high) (defBody s_Span_has_high) (defScope s_Span_has_high) [] [] (pga K (He.ma K (He.ga K "Span") "has_high")) fd) : FnOk P w K mg base CX0 1 (pga K (He.ma K (He.ga K "Span") "has_high")) fd (["self"] : List Str) (spD (pg K) We0 1 (m_Span_has_high L)) := by
  have S := sc_Span_has_high
  refine def0' (p := pg K) (k := 0) (nN := 1) (n := 1) (b := b_Span_has_high L) (m := m_Span_has_high L) F S rfl rfl (by decide) rfl (fun cdv A outer s H E hr => ?_)
  exact (bone (sret (qattr (qv 0) (fun c f h => match c, h with | _, h => nomatch h) (T.fc__has_high))))
theorem ok_Span_has_high (L : Nat) (T : Tx K mg) (F : ∃ fd, FunD K "has_high" "Span.has_high" (defArgs s_Span_has_high) (defBody s_Span_has_high) (defScope s_Span_has_high) [] [] (pga K (He.ma K (He.ga K "Span") "has_high")) fd) : OkD (pg K) P w mg base 1 (pga K (He.ma K (He.ga K "Span") "has_high")) 1 (m_Span_has_high L) [] :=
  let ⟨fd, F⟩ := F; ⟨⟨fd, _, [], [], rfl, fn_Span_has_high L T  F, .nil, F.bindsN (fun _ _ _ _ _ _ us hl => match us, hl with | [_], _ => rfl), fun _ _ => .nil⟩, fun ds s h => run_len h⟩
def sel_has_high_Span (L : Nat) : Sel
  | 4 => some (m_Span_has_high L)
  | _ => none
/-! #### Span_has_low (level 1) -/
abbrev s_Span_has_low : Stmt := inClass (top 19) 5
theorem sc_Span_has_low : FnScope (["self"] : List Str) (["self"] : List Str) (defScope s_Span_has_low) := ⟨rfl, rfl, rfl, by decide +kernel, rfl, by decide +kernel, by decide +kernel⟩
def b_Span_has_low (L : Nat) : GS :=
 (gRet (gUn (atD 4 (fun _ => none) fc__has_low) (gVar 0)))
def m_Span_has_low (L : Nat) : List DV → Sto → R DV := run 1 1 (b_Span_has_low L)
theorem fn_Span_has_low (L : Nat) (T : Tx K mg) {fd : FuncData} (F : FunD K "has_low" "Span.has_low" (defArgs s_Span_has_low) (defBody s_Span_has_low) (defScope s_Span_has_low) [] [] (pga K (He.ma K (He.ga K "Span") "has_low")) fd) : FnOk P w K mg base CX0 1 (pga K (He.ma K (He.ga K "Span") "has_low")) fd (["self"] : List Str) (spD (pg K) We0 1 (m_Span_has_low L)) := by
  have S := sc_Span_has_low
  refine def0' (p := pg K) (k := 0) (nN := 1) (n := 1) (b := b_Span_has_low L) (m := m_Span_has_low L) F S rfl rfl (by decide) rfl (fun cdv A outer s H E hr => ?_)
  exact (bone (sret (qattr (qv 0) (fun c f h => match c, h with | _, h => nomatch h) (T.fc__has_low))))
theorem ok_Span_has_low (L : Nat) (T : Tx K mg) (F : ∃ fd, FunD K "has_low" "Span.has_low" (defArgs s_Span_has_low) (defBody s_Span_has_low) (defScope s_Span_has_low) [] [] (pga K (He.ma K (He.ga K "Span") "has_low")) fd) : OkD (pg K) P w mg base 1 (pga K (He.ma K (He.ga K "Span") "has_low")) 1 (m_Span_has_low L) [] :=
  let ⟨fd, F⟩ := F; ⟨⟨fd, _, [], [], rfl, fn_Span_has_low L T  F, .nil, F.bindsN (fun _ _ _ _ _ _ us hl => match us, hl with | [_], _ => rfl), fun _ _ => .nil⟩, fun ds s h => run_len h⟩
def sel_has_low_Span (L : Nat) : Sel
  | 4 => some (m_Span_has_low L)
  | _ => none
/-! #### Span_high (level 1) -/
abbrev s_Span_high : Stmt := inClass (top 19) 4
theorem sc_Span_high : FnScope (["self"] : List Str) (["self"] : List Str) (defScope s_Span_high) := ⟨rfl, rfl, rfl, by decide +kernel, rfl, by decide +kernel, by decide +kernel⟩
def b_Span_high (L : Nat) : GS :=
 (gRet (gUn (atD 3 (fun _ => none) fc__high) (gVar 0)))
def m_Span_high (L : Nat) : List DV → Sto → R DV := run 1 1 (b_Span_high L)
theorem fn_Span_high (L : Nat) (T : Tx K mg) {fd : FuncData} (F : FunD K "high" "Span.high" (defArgs s_Span_high) (defBody s_Span_high) (defScope s_Span_high) [] [] (pga K (He.ma K (He.ga K "Span") "high")) fd) : FnOk P w K mg base CX0 1 (pga K (He.ma K (He.ga K "Span") "high")) fd (["self"] : List Str) (spD (pg K) We0 1 (m_Span_high L)) := by
  have S := sc_Span_high
  refine def0' (p := pg K) (k := 0) (nN := 1) (n := 1) (b := b_Span_high L) (m := m_Span_high L) F S rfl rfl (by decide) rfl (fun cdv A outer s H E hr => ?_)
  exact (bone (sret (qattr (qv 0) (fun c f h => match c, h with | _, h => nomatch h) (T.fc__high))))
theorem ok_Span_high (L : Nat) (T : Tx K mg) (F : ∃ fd, FunD K "high" "Span.high" (defArgs s_Span_high) (defBody s_Span_high) (defScope s_Span_high) [] [] (pga K (He.ma K (He.ga K "Span") "high")) fd) : OkD (pg K) P w mg base 1 (pga K (He.ma K (He.ga K "Span") "high")) 1 (m_Span_high L) [] :=
  let ⟨fd, F⟩ := F; ⟨⟨fd, _, [], [], rfl, fn_Span_high L T  F, .nil, F.bindsN (fun _ _ _ _ _ _ us hl => match us, hl with | [_], _ => rfl), fun _ _ => .nil⟩, fun ds s h => run_len h⟩
def sel_high_Span (L : Nat) : Sel
  | 4 => some (m_Span_high L)
  | _ => none
/-! #### Span_low (level 1) -/
abbrev s_Span_low : Stmt := inClass (top 19) 3
theorem sc_Span_low : FnScope (["self"] : List Str) (["self"] : List Str) (defScope s_Span_low) := ⟨rfl, rfl, rfl, by decide +kernel, rfl, by decide +kernel, by decide +kernel⟩
def b_Span_low (L : Nat) : GS :=
 (gRet (gUn (atD 2 (fun _ => none) fc__low) (gVar 0)))
def m_Span_low (L : Nat) : List DV → Sto → R DV := run 1 1 (b_Span_low L)
theorem fn_Span_low (L : Nat) (T : Tx K mg) {fd : FuncData} (F : FunD K "low" "Span.low" (defArgs s_Span_low) (defBody s_Span_low) (defScope s_Span_low) [] [] (pga K (He.ma K (He.ga K "Span") "low")) fd) : FnOk P w K mg base CX0 1 (pga K (He.ma K (He.ga K "Span") "low")) fd (["self"] : List Str) (spD (pg K) We0 1 (m_Span_low L)) := by
  have S := sc_Span_low
  refine def0' (p := pg K) (k := 0) (nN := 1) (n := 1) (b := b_Span_low L) (m := m_Span_low L) F S rfl rfl (by decide) rfl (fun cdv A outer s H E hr => ?_)
  exact (bone (sret (qattr (qv 0) (fun c f h => match c, h with | _, h => nomatch h) (T.fc__low))))
theorem ok_Span_low (L : Nat) (T : Tx K mg) (F : ∃ fd, FunD K "low" "Span.low" (defArgs s_Span_low) (defBody s_Span_low) (defScope s_Span_low) [] [] (pga K (He.ma K (He.ga K "Span") "low")) fd) : OkD (pg K) P w mg base 1 (pga K (He.ma K (He.ga K "Span") "low")) 1 (m_Span_low L) [] :=
  let ⟨fd, F⟩ := F; ⟨⟨fd, _, [], [], rfl, fn_Span_low L T  F, .nil, F.bindsN (fun _ _ _ _ _ _ us hl => match us, hl with | [_], _ => rfl), fun _ _ => .nil⟩, fun ds s h => run_len h⟩
def sel_low_Span (L : Nat) : Sel
  | 4 => some (m_Span_low L)
  | _ => none
/-! #### simplest_from_zero (level 5) -/
abbrev s_simplest_from_zero : Stmt := top 18
theorem sc_simplest_from_zero : FnScope (["span", "floors", "low_top", "low_bottom", "high_top", "high_bottom", "has_low", "has_high", "whole", "floor", "rest"] : List Str) (["span"] : List Str) (defScope s_simplest_from_zero) := ⟨rfl, rfl, rfl, by decide +kernel, rfl, by decide +kernel, by decide +kernel⟩
def b_simplest_from_zero (L : Nat) : GS :=
 (gSeq (gPar 2 3 (gCons (gUn (atD 7 (sel_top_Ratio L) (fun _ => false)) (gUn (atD 11 (sel_low_Span L) (fun _ => false)) (gVar 0))) (gCons (gUn (atD 6 (sel_bottom_Ratio L) (fun _ => false)) (gUn (atD 11 (sel_low_Span L) (fun _ => false)) (gVar 0))) gNil)))
 (gSeq (gPar 4 5 (gCons (gUn (atD 7 (sel_top_Ratio L) (fun _ => false)) (gUn (atD 10 (sel_high_Span L) (fun _ => false)) (gVar 0))) (gCons (gUn (atD 6 (sel_bottom_Ratio L) (fun _ => false)) (gUn (atD 10 (sel_high_Span L) (fun _ => false)) (gVar 0))) gNil)))
 (gSeq (gPar 6 7 (gCons (gUn (atD 9 (sel_has_low_Span L) (fun _ => false)) (gVar 0)) (gCons (gUn (atD 8 (sel_has_high_Span L) (fun _ => false)) (gVar 0)) gNil)))
 (gSeq (gSet 1 (gMut gNil))
 (whR (gT truD (gC (.bl true)))
 (gSeq (gAsg (gB divmodD (gCons (gVar 2) (gCons (gVar 3) gNil))) (tTup 2 (tCons (tN 9) (tCons (tN 10) tNil))))
 (gSeq (gSet 8 (gIf (gAnd (gT truB (gBin eqD (gVar 10) (gC (.int 0)))) (gT truD (gVar 6))) (gVar 9) (gBin addD (gVar 9) (gC (.int 1)))))
 (gSeq (gIfS (gOr (gT truB (gBin ltD (gBin mulD (gVar 8) (gVar 5)) (gVar 4))) (gAnd (gT truB (gBin eqD (gBin mulD (gVar 8) (gVar 5)) (gVar 4))) (gT truD (gVar 7))))
 (gRet (gCall (m_unfolded L) [] (gCons (gVar 1) (gCons (gVar 8) gNil))))
 gNext)
 (gSeq (gExpr (gApp (gVar 1) (gVar 9)))
 (gSeq (gAsg (gTup (gCons (gVar 5) (gCons (gBin subD (gVar 4) (gBin mulD (gVar 9) (gVar 5))) (gCons (gVar 3) (gCons (gVar 10) gNil))))) (tTup 4 (tCons (tN 2) (tCons (tN 3) (tCons (tN 4) (tCons (tN 5) tNil))))))
 (gPar 6 7 (gCons (gVar 7) (gCons (gVar 6) gNil)))))))) L)))))
def m_simplest_from_zero (L : Nat) : List DV → Sto → R DV := run 11 1 (b_simplest_from_zero L)
theorem fn_simplest_from_zero (L : Nat) (T : Tx K mg) (o_unfolded : OkD (pg K) P w mg base 4 (He.ga K "unfolded") 2 (m_unfolded L) []) (o_Span_has_high : OkD (pg K) P w mg base 1 (pga K (He.ma K (He.ga K "Span") "has_high")) 1 (m_Span_has_high L) []) (o_Span_has_low : OkD (pg K) P w mg base 1 (pga K (He.ma K (He.ga K "Span") "has_low")) 1 (m_Span_has_low L) []) (o_Span_high : OkD (pg K) P w mg base 1 (pga K (He.ma K (He.ga K "Span") "high")) 1 (m_Span_high L) []) (o_Ratio_bottom : OkD (pg K) P w mg base 1 (pga K (He.ma K (He.ga K "Ratio") "bottom")) 1 (m_Ratio_bottom L) []) (o_Ratio_top : OkD (pg K) P w mg base 1 (pga K (He.ma K (He.ga K "Ratio") "top")) 1 (m_Ratio_top L) []) (o_Span_low : OkD (pg K) P w mg base 1 (pga K (He.ma K (He.ga K "Span") "low")) 1 (m_Span_low L) []) {fd : FuncData} (F : FunD K "simplest_from_zero" "simplest_from_zero" (defArgs s_simplest_from_zero) (defBody s_simplest_from_zero) (defScope s_simplest_from_zero) [] [] (He.ga K "simplest_from_zero") fd) : FnOk P w K mg base CX0 5 (He.ga K "simplest_from_zero") fd (["span"] : List Str) (spD (pg K) We0 1 (m_simplest_from_zero L)) := by
  have S := sc_simplest_from_zero
  refine def0' (p := pg K) (k := 4) (nN := 11) (n := 1) (b := b_simplest_from_zero L) (m := m_simplest_from_zero L) F S rfl rfl (by decide) rfl (fun cdv A outer s H E hr => ?_)
  exact (bcons (spar (i := 2) (j := 3) rfl S.nd rfl rfl (by decide) rfl rfl (qcons (qattr (qattr (qv 0) (fun c f h => match c, h with | 0, h => nomatch h | 1, h => nomatch h | 2, h => nomatch h | 3, h => nomatch h | 4, h => by cases h; exact (OkD.pr (c := 4) (name := "low") o_Span_low T.cl_Span T.pr_Span_low (hr.mono (by decide))) | _ + 5, h => nomatch h) (fun c h => nomatch h)) (fun c f h => match c, h with | 0, h => nomatch h | 1, h => nomatch h | 2, h => nomatch h | 3, h => by cases h; exact (OkD.pr (c := 3) (name := "top") o_Ratio_top T.cl_Ratio T.pr_Ratio_top (hr.mono (by decide))) | _ + 4, h => nomatch h) (fun c h => nomatch h)) (qcons (qattr (qattr (qv 0) (fun c f h => match c, h with | 0, h => nomatch h | 1, h => nomatch h | 2, h => nomatch h | 3, h => nomatch h | 4, h => by cases h; exact (OkD.pr (c := 4) (name := "low") o_Span_low T.cl_Span T.pr_Span_low (hr.mono (by decide))) | _ + 5, h => nomatch h) (fun c h => nomatch h)) (fun c f h => match c, h with | 0, h => nomatch h | 1, h => nomatch h | 2, h => nomatch h | 3, h => by cases h; exact (OkD.pr (c := 3) (name := "bottom") o_Ratio_bottom T.cl_Ratio T.pr_Ratio_bottom (hr.mono (by decide))) | _ + 4, h => nomatch h) (fun c h => nomatch h)) qnil)) rfl)
 (bcons (spar (i := 4) (j := 5) rfl S.nd rfl rfl (by decide) rfl rfl (qcons (qattr (qattr (qv 0) (fun c f h => match c, h with | 0, h => nomatch h | 1, h => nomatch h | 2, h => nomatch h | 3, h => nomatch h | 4, h => by cases h; exact (OkD.pr (c := 4) (name := "high") o_Span_high T.cl_Span T.pr_Span_high (hr.mono (by decide))) | _ + 5, h => nomatch h) (fun c h => nomatch h)) (fun c f h => match c, h with | 0, h => nomatch h | 1, h => nomatch h | 2, h => nomatch h | 3, h => by cases h; exact (OkD.pr (c := 3) (name := "top") o_Ratio_top T.cl_Ratio T.pr_Ratio_top (hr.mono (by decide))) | _ + 4, h => nomatch h) (fun c h => nomatch h)) (qcons (qattr (qattr (qv 0) (fun c f h => match c, h with | 0, h => nomatch h | 1, h => nomatch h | 2, h => nomatch h | 3, h => nomatch h | 4, h => by cases h; exact (OkD.pr (c := 4) (name := "high") o_Span_high T.cl_Span T.pr_Span_high (hr.mono (by decide))) | _ + 5, h => nomatch h) (fun c h => nomatch h)) (fun c f h => match c, h with | 0, h => nomatch h | 1, h => nomatch h | 2, h => nomatch h | 3, h => by cases h; exact (OkD.pr (c := 3) (name := "bottom") o_Ratio_bottom T.cl_Ratio T.pr_Ratio_bottom (hr.mono (by decide))) | _ + 4, h => nomatch h) (fun c h => nomatch h)) qnil)) rfl)
 (bcons (spar (i := 6) (j := 7) rfl S.nd rfl rfl (by decide) rfl rfl (qcons (qattr (qv 0) (fun c f h => match c, h with | 0, h => nomatch h | 1, h => nomatch h | 2, h => nomatch h | 3, h => nomatch h | 4, h => by cases h; exact (OkD.pr (c := 4) (name := "has_low") o_Span_has_low T.cl_Span T.pr_Span_has_low (hr.mono (by decide))) | _ + 5, h => nomatch h) (fun c h => nomatch h)) (qcons (qattr (qv 0) (fun c f h => match c, h with | 0, h => nomatch h | 1, h => nomatch h | 2, h => nomatch h | 3, h => nomatch h | 4, h => by cases h; exact (OkD.pr (c := 4) (name := "has_high") o_Span_has_high T.cl_Span T.pr_Span_has_high (hr.mono (by decide))) | _ + 5, h => nomatch h) (fun c h => nomatch h)) qnil)) rfl)
 (bcons (sset 1 S.nd (Or.inl rfl) (qmut qnil))
 (bone (swhile L PassesOwn.never (qt qbl)
 (bcons (sasg (qblt opd_divmod T.z_divmod rfl (by decide +kernel) (qcons (qv 2) (qcons (qv 3) qnil))) (gtup rfl (gcons (gname 9 S.nd (Or.inl rfl)) (gcons (gname 10 S.nd (Or.inl rfl)) gnil))))
 (bcons (sset 8 S.nd (Or.inl rfl) (qif (L2.PW.pt (qwand (qtcmp (opd_eq rfl hr.units) (qv 10) qint (nomark _)) (qw1 (qt (qv 6))))) (qv 9) (qbin (opd_add rfl) (qv 9) qint)))
 (bcons (sif (L2.PW.pt (qwor (qtcmp opd_lt (qbin opd_mul (qv 8) (qv 5)) (qv 4) (nomark _)) (qw1 (L2.PW.pt (qwand (qtcmp (opd_eq rfl hr.units) (qbin opd_mul (qv 8) (qv 5)) (qv 4) (nomark _)) (qw1 (qt (qv 7))))))))
 (bone (sret (qcall (o_unfolded.c (hr.mono (by decide))) T.g_unfolded T.k_unfolded rfl (qcons (qv 1) (qcons (qv 8) qnil)))))
 bnil)
 (bcons (sexpr (qapp (qv 1) (qv 9)))
 (bcons (sasg (qtup (qcons (qv 5) (qcons (qbin opd_sub (qv 4) (qbin opd_mul (qv 9) (qv 5))) (qcons (qv 3) (qcons (qv 10) qnil))))) (gtup rfl (gcons (gname 2 S.nd (Or.inl rfl)) (gcons (gname 3 S.nd (Or.inl rfl)) (gcons (gname 4 S.nd (Or.inl rfl)) (gcons (gname 5 S.nd (Or.inl rfl)) gnil))))))
 (bone (spar (i := 6) (j := 7) rfl S.nd rfl rfl (by decide) rfl rfl (qcons (qv 7) (qcons (qv 6) qnil)) rfl)))))))))))))
theorem ok_simplest_from_zero (L : Nat) (T : Tx K mg) (o_unfolded : OkD (pg K) P w mg base 4 (He.ga K "unfolded") 2 (m_unfolded L) []) (o_Span_has_high : OkD (pg K) P w mg base 1 (pga K (He.ma K (He.ga K "Span") "has_high")) 1 (m_Span_has_high L) []) (o_Span_has_low : OkD (pg K) P w mg base 1 (pga K (He.ma K (He.ga K "Span") "has_low")) 1 (m_Span_has_low L) []) (o_Span_high : OkD (pg K) P w mg base 1 (pga K (He.ma K (He.ga K "Span") "high")) 1 (m_Span_high L) []) (o_Ratio_bottom : OkD (pg K) P w mg base 1 (pga K (He.ma K (He.ga K "Ratio") "bottom")) 1 (m_Ratio_bottom L) []) (o_Ratio_top : OkD (pg K) P w mg base 1 (pga K (He.ma K (He.ga K "Ratio") "top")) 1 (m_Ratio_top L) []) (o_Span_low : OkD (pg K) P w mg base 1 (pga K (He.ma K (He.ga K "Span") "low")) 1 (m_Span_low L) []) (F : ∃ fd, FunD K "simplest_from_zero" "simplest_from_zero" (defArgs s_simplest_from_zero) (defBody s_simplest_from_zero) (defScope s_simplest_from_zero) [] [] (He.ga K "simplest_from_zero") fd) : OkD (pg K) P w mg base 5 (He.ga K "simplest_from_zero") 1 (m_simplest_from_zero L) [] :=
  let ⟨fd, F⟩ := F; ⟨⟨fd, _, [], [], rfl, fn_simplest_from_zero L T o_unfolded o_Span_has_high o_Span_has_low o_Span_high o_Ratio_bottom o_Ratio_top o_Span_low F, .nil, F.bindsN (fun _ _ _ _ _ _ us hl => match us, hl with | [_], _ => rfl), fun _ _ => .nil⟩, fun ds s h => run_len h⟩
/-! #### Ratio___neg__ (level 4) -/
abbrev s_Ratiodd_negdd : Stmt := inClass (top 14) 7
theorem sc_Ratiodd_negdd : FnScope (["self"] : List Str) (["self"] : List Str) (defScope s_Ratiodd_negdd) := ⟨rfl, rfl, rfl, by decide +kernel, rfl, by decide +kernel, by decide +kernel⟩
def b_Ratiodd_negdd (L : Nat) : GS :=
 (gRet (gMake false 3 (m_Ratiodd_initdd L) [] (gCons (gUn negD (gUn (atD 0 (fun _ => none) fc__top) (gVar 0))) (gCons (gUn (atD 1 (fun _ => none) fc__bottom) (gVar 0)) gNil))))
def m_Ratiodd_negdd (L : Nat) : List DV → Sto → R DV := run 1 1 (b_Ratiodd_negdd L)
theorem fn_Ratiodd_negdd (L : Nat) (T : Tx K mg) (o_Ratiodd_initdd : OkD (pg K) P w mg base 2 (He.ma K (He.ga K "Ratio") "__init__") 3 (m_Ratiodd_initdd L) []) {fd : FuncData} (F : FunD K "__neg__" "Ratio.__neg__" (defArgs s_Ratiodd_negdd) (defBody s_Ratiodd_negdd) (defScope s_Ratiodd_negdd) [] [] (He.ma K (He.ga K "Ratio") "__neg__") fd) : FnOk P w K mg base CX0 4 (He.ma K (He.ga K "Ratio") "__neg__") fd (["self"] : List Str) (spD (pg K) We0 1 (m_Ratiodd_negdd L)) := by
  have S := sc_Ratiodd_negdd
  refine def0' (p := pg K) (k := 3) (nN := 1) (n := 1) (b := b_Ratiodd_negdd L) (m := m_Ratiodd_negdd L) F S rfl rfl (by decide) rfl (fun cdv A outer s H E hr => ?_)
  exact (bone (sret (qmake (OkD.mk' (c := 3) o_Ratiodd_initdd T.mk_Ratio (hr.mono (by decide))) T.g_Ratio rfl (qcons (qun opd_neg (qattr (qv 0) (fun c f h => match c, h with | _, h => nomatch h) (T.fc__top))) (qcons (qattr (qv 0) (fun c f h => match c, h with | _, h => nomatch h) (T.fc__bottom)) qnil)))))
theorem ok_Ratiodd_negdd (L : Nat) (T : Tx K mg) (o_Ratiodd_initdd : OkD (pg K) P w mg base 2 (He.ma K (He.ga K "Ratio") "__init__") 3 (m_Ratiodd_initdd L) []) (F : ∃ fd, FunD K "__neg__" "Ratio.__neg__" (defArgs s_Ratiodd_negdd) (defBody s_Ratiodd_negdd) (defScope s_Ratiodd_negdd) [] [] (He.ma K (He.ga K "Ratio") "__neg__") fd) : OkD (pg K) P w mg base 4 (He.ma K (He.ga K "Ratio") "__neg__") 1 (m_Ratiodd_negdd L) [] :=
  let ⟨fd, F⟩ := F; ⟨⟨fd, _, [], [], rfl, fn_Ratiodd_negdd L T o_Ratiodd_initdd F, .nil, F.bindsN (fun _ _ _ _ _ _ us hl => match us, hl with | [_], _ => rfl), fun _ _ => .nil⟩, fun ds s h => run_len h⟩
def sel_neg_op_Ratio (L : Nat) : Sel
  | 3 => some (m_Ratiodd_negdd L)
  | _ => none
/-! #### Span___contains__ (level 4) -/
abbrev s_Spandd_containsdd : Stmt := inClass (top 19) 8
theorem sc_Spandd_containsdd : FnScope (["self", "ratio"] : List Str) (["self", "ratio"] : List Str) (defScope s_Spandd_containsdd) := ⟨rfl, rfl, rfl, by decide +kernel, rfl, by decide +kernel, by decide +kernel⟩
def b_Spandd_containsdd (L : Nat) : GS :=
 (gSeq (gIfS (gNot (gT truD (gUn (isiD isi_Ratio) (gVar 1))))
 (gRet (gC (.bl false)))
 gNext)
 (gSeq (gIfS (gAnd (gNot (gT truD (gMeth 6 (sel_is_below_Ratio L) (gUn (atD 2 (fun _ => none) fc__low) (gVar 0)) (gCons (gVar 1) gNil)))) (gNot (gAnd (gT truD (gUn (atD 4 (fun _ => none) fc__has_low) (gVar 0))) (gT truB (gBin (ownEq (sel_eq_op_Ratio L) eqD) (gUn (atD 2 (fun _ => none) fc__low) (gVar 0)) (gVar 1))))))
 (gRet (gC (.bl false)))
 gNext)
 (gRet (gOrV (gMeth 6 (sel_is_below_Ratio L) (gVar 1) (gCons (gUn (atD 3 (fun _ => none) fc__high) (gVar 0)) gNil)) (gAndV (gUn (atD 5 (fun _ => none) fc__has_high) (gVar 0)) (gBin (ownEq (sel_eq_op_Ratio L) eqD) (gUn (atD 3 (fun _ => none) fc__high) (gVar 0)) (gVar 1)))))))
def m_Spandd_containsdd (L : Nat) : List DV → Sto → R DV := run 2 2 (b_Spandd_containsdd L)
theorem fn_Spandd_containsdd (L : Nat) (T : Tx K mg) (o_Ratio_is_below : OkD (pg K) P w mg base 3 (He.ma K (He.ga K "Ratio") "is_below") 2 (m_Ratio_is_below L) []) (o_Ratiodd_eqdd : OkD (pg K) P w mg base 1 (He.ma K (He.ga K "Ratio") "__eq__") 2 (m_Ratiodd_eqdd L) []) {fd : FuncData} (F : FunD K "__contains__" "Span.__contains__" (defArgs s_Spandd_containsdd) (defBody s_Spandd_containsdd) (defScope s_Spandd_containsdd) [] [] (He.ma K (He.ga K "Span") "__contains__") fd) : FnOk P w K mg base CX0 4 (He.ma K (He.ga K "Span") "__contains__") fd (["self", "ratio"] : List Str) (spD (pg K) We0 2 (m_Spandd_containsdd L)) := by
  have S := sc_Spandd_containsdd
  refine def0' (p := pg K) (k := 3) (nN := 2) (n := 2) (b := b_Spandd_containsdd L) (m := m_Spandd_containsdd L) F S rfl rfl (by decide) rfl (fun cdv A outer s H E hr => ?_)
  exact (bcons (sif (qtnot (qt (qisi T.z_isinstance rfl (by decide +kernel) (qv 1) (pe_glob (v := .ref (He.ga K "Ratio")) rfl T.g_Ratio rfl) (.own _) rfl T.isi_Ratio)))
 (bone (sret qbl))
 bnil)
 (bcons (sif (L2.PW.pt (qwand (qtnot (qt (qmeth (qattr (qv 0) (fun c f h => match c, h with | _, h => nomatch h) (T.fc__low)) (fun c f h => match c, h with | 0, h => nomatch h | 1, h => nomatch h | 2, h => nomatch h | 3, h => by cases h; exact (OkD.mt0 (c := 3) (name := "is_below") o_Ratio_is_below T.cl_Ratio T.me_Ratio_is_below (hr.mono (by decide))) | _ + 4, h => nomatch h) nmF_is_below (qcons (qv 1) qnil)))) (qw1 (qtnot (L2.PW.pt (qwand (qt (qattr (qv 0) (fun c f h => match c, h with | _, h => nomatch h) (T.fc__has_low))) (qw1 (qtcmp (opd_ownEq hr.units0 (opd_eq rfl hr.units) (fun c f h => match c, h with | 0, h => nomatch h | 1, h => nomatch h | 2, h => nomatch h | 3, h => by cases h; exact (OkD.sp (c := 3) (name := "__eq__") o_Ratiodd_eqdd T.sp_Ratio_eq.1 T.sp_Ratio_eq.2 (hr.mono (by decide))) | _ + 4, h => nomatch h)) (qattr (qv 0) (fun c f h => match c, h with | _, h => nomatch h) (T.fc__low)) (qv 1) (nomark _)))))))))
 (bone (sret qbl))
 bnil)
 (bone (sret (qor (qmeth (qv 1) (fun c f h => match c, h with | 0, h => nomatch h | 1, h => nomatch h | 2, h => nomatch h | 3, h => by cases h; exact (OkD.mt0 (c := 3) (name := "is_below") o_Ratio_is_below T.cl_Ratio T.me_Ratio_is_below (hr.mono (by decide))) | _ + 4, h => nomatch h) nmF_is_below (qcons (qattr (qv 0) (fun c f h => match c, h with | _, h => nomatch h) (T.fc__high)) qnil)) (q1 (qand (qattr (qv 0) (fun c f h => match c, h with | _, h => nomatch h) (T.fc__has_high)) (q1 (qcmp (opd_ownEq hr.units0 (opd_eq rfl hr.units) (fun c f h => match c, h with | 0, h => nomatch h | 1, h => nomatch h | 2, h => nomatch h | 3, h => by cases h; exact (OkD.sp (c := 3) (name := "__eq__") o_Ratiodd_eqdd T.sp_Ratio_eq.1 T.sp_Ratio_eq.2 (hr.mono (by decide))) | _ + 4, h => nomatch h)) (qattr (qv 0) (fun c f h => match c, h with | _, h => nomatch h) (T.fc__high)) (qv 1) (nomark _))))))))))
theorem ok_Spandd_containsdd (L : Nat) (T : Tx K mg) (o_Ratio_is_below : OkD (pg K) P w mg base 3 (He.ma K (He.ga K "Ratio") "is_below") 2 (m_Ratio_is_below L) []) (o_Ratiodd_eqdd : OkD (pg K) P w mg base 1 (He.ma K (He.ga K "Ratio") "__eq__") 2 (m_Ratiodd_eqdd L) []) (F : ∃ fd, FunD K "__contains__" "Span.__contains__" (defArgs s_Spandd_containsdd) (defBody s_Spandd_containsdd) (defScope s_Spandd_containsdd) [] [] (He.ma K (He.ga K "Span") "__contains__") fd) : OkD (pg K) P w mg base 4 (He.ma K (He.ga K "Span") "__contains__") 2 (m_Spandd_containsdd L) [] :=
  let ⟨fd, F⟩ := F; ⟨⟨fd, _, [], [], rfl, fn_Spandd_containsdd L T o_Ratio_is_below o_Ratiodd_eqdd F, .nil, F.bindsN (fun _ _ _ _ _ _ us hl => match us, hl with | [_, _], _ => rfl), fun _ _ => .nil⟩, fun ds s h => run_len h⟩
def sel_contains_op_Span (L : Nat) : Sel
  | 4 => some (m_Spandd_containsdd L)
  | _ => none
/-! #### Span_simplest (level 7) -/
abbrev s_Span_simplest : Stmt := inClass (top 19) 7
theorem sc_Span_simplest : FnScope (["self", "zero", "mirrored"] : List Str) (["self"] : List Str) (defScope s_Span_simplest) := ⟨rfl, rfl, rfl, by decide +kernel, rfl, by decide +kernel, by decide +kernel⟩
def b_Span_simplest (L : Nat) : GS :=
 (gSeq (gSet 1 (gMake false 3 (m_Ratiodd_initdd L) [(.int 1)] (gCons (gC (.int 0)) gNil)))
 (gSeq (gIfS (gT truB (gBin (ownIn false (sel_contains_op_Span L) (inD false)) (gVar 1) (gVar 0)))
 (gRet (gVar 1))
 gNext)
 (gSeq (gIfS (gT truD (gMeth 6 (sel_is_below_Ratio L) (gVar 1) (gCons (gUn (atD 3 (fun _ => none) fc__high) (gVar 0)) gNil)))
 (gRet (gCall (m_simplest_from_zero L) [] (gCons (gVar 0) gNil)))
 gNext)
 (gSeq (gSet 2 (gMakeK false 4 (m_Spandd_initdd L) mix_Spandd_initdd_k2_has_low_has_high (gCons (gUn (ownUn (sel_neg_op_Ratio L) negD) (gUn (atD 3 (fun _ => none) fc__high) (gVar 0))) (gCons (gUn (ownUn (sel_neg_op_Ratio L) negD) (gUn (atD 2 (fun _ => none) fc__low) (gVar 0))) gNil)) (gCons (gUn (atD 5 (fun _ => none) fc__has_high) (gVar 0)) (gCons (gUn (atD 4 (fun _ => none) fc__has_low) (gVar 0)) gNil))))
 (gRet (gUn (ownUn (sel_neg_op_Ratio L) negD) (gCall (m_simplest_from_zero L) [] (gCons (gVar 2) gNil))))))))
def m_Span_simplest (L : Nat) : List DV → Sto → R DV := run 3 1 (b_Span_simplest L)
theorem fn_Span_simplest (L : Nat) (T : Tx K mg) (o_simplest_from_zero : OkD (pg K) P w mg base 5 (He.ga K "simplest_from_zero") 1 (m_simplest_from_zero L) []) (o_Ratiodd_negdd : OkD (pg K) P w mg base 4 (He.ma K (He.ga K "Ratio") "__neg__") 1 (m_Ratiodd_negdd L) []) (o_Spandd_initdd_k2_has_low_has_high : OkMK (pg K) P w mg base 5 (He.ma K (He.ga K "Span") "__init__") 5 (m_Spandd_initdd L) 2 (["has_low", "has_high"] : List Str) mix_Spandd_initdd_k2_has_low_has_high) (o_Ratio_is_below : OkD (pg K) P w mg base 3 (He.ma K (He.ga K "Ratio") "is_below") 2 (m_Ratio_is_below L) []) (o_Spandd_containsdd : OkD (pg K) P w mg base 4 (He.ma K (He.ga K "Span") "__contains__") 2 (m_Spandd_containsdd L) []) (o_Ratiodd_initdd_d1 : OkD (pg K) P w mg base 2 (He.ma K (He.ga K "Ratio") "__init__") 3 (m_Ratiodd_initdd L) [(.int 1)]) {fd : FuncData} (F : FunD K "simplest" "Span.simplest" (defArgs s_Span_simplest) (defBody s_Span_simplest) (defScope s_Span_simplest) [] [] (He.ma K (He.ga K "Span") "simplest") fd) : FnOk P w K mg base CX0 7 (He.ma K (He.ga K "Span") "simplest") fd (["self"] : List Str) (spD (pg K) We0 1 (m_Span_simplest L)) := by
  have S := sc_Span_simplest
  refine def0' (p := pg K) (k := 6) (nN := 3) (n := 1) (b := b_Span_simplest L) (m := m_Span_simplest L) F S rfl rfl (by decide) rfl (fun cdv A outer s H E hr => ?_)
  exact (bcons (sset 1 S.nd (Or.inl rfl) (qmake (OkD.mk' (c := 3) o_Ratiodd_initdd_d1 T.mk_Ratio (hr.mono (by decide))) T.g_Ratio rfl (qcons qint qnil)))
 (bcons (sif (qtcmp (opd_ownIn (opd_in rfl) (fun c f h => match c, h with | 0, h => nomatch h | 1, h => nomatch h | 2, h => nomatch h | 3, h => nomatch h | 4, h => by cases h; exact (OkD.sp (c := 4) (name := "__contains__") o_Spandd_containsdd T.sp_Span_contains.1 T.sp_Span_contains.2 (hr.mono (by decide))) | _ + 5, h => nomatch h)) (qv 1) (qv 0) (by with_unfolding_all rfl))
 (bone (sret (qv 1)))
 bnil)
 (bcons (sif (qt (qmeth (qv 1) (fun c f h => match c, h with | 0, h => nomatch h | 1, h => nomatch h | 2, h => nomatch h | 3, h => by cases h; exact (OkD.mt0 (c := 3) (name := "is_below") o_Ratio_is_below T.cl_Ratio T.me_Ratio_is_below (hr.mono (by decide))) | _ + 4, h => nomatch h) nmF_is_below (qcons (qattr (qv 0) (fun c f h => match c, h with | _, h => nomatch h) (T.fc__high)) qnil)))
 (bone (sret (qcall (o_simplest_from_zero.c (hr.mono (by decide))) T.g_simplest_from_zero T.k_simplest_from_zero rfl (qcons (qv 0) qnil))))
 bnil)
 (bcons (sset 2 S.nd (Or.inl rfl) (qmakeK (OkMK.mk' (c := 4) o_Spandd_initdd_k2_has_low_has_high T.mk_Span (hr.mono (by decide))) T.g_Span rfl (qcons (qun (opd_ownNeg opd_neg (fun c f h => match c, h with | 0, h => nomatch h | 1, h => nomatch h | 2, h => nomatch h | 3, h => by cases h; exact (OkD.sp (c := 3) (name := "__neg__") o_Ratiodd_negdd T.sp_Ratio_neg.1 T.sp_Ratio_neg.2 (hr.mono (by decide))) | _ + 4, h => nomatch h)) (qattr (qv 0) (fun c f h => match c, h with | _, h => nomatch h) (T.fc__high))) (qcons (qun (opd_ownNeg opd_neg (fun c f h => match c, h with | 0, h => nomatch h | 1, h => nomatch h | 2, h => nomatch h | 3, h => by cases h; exact (OkD.sp (c := 3) (name := "__neg__") o_Ratiodd_negdd T.sp_Ratio_neg.1 T.sp_Ratio_neg.2 (hr.mono (by decide))) | _ + 4, h => nomatch h)) (qattr (qv 0) (fun c f h => match c, h with | _, h => nomatch h) (T.fc__low))) qnil)) (kcons (qattr (qv 0) (fun c f h => match c, h with | _, h => nomatch h) (T.fc__has_high)) (kcons (qattr (qv 0) (fun c f h => match c, h with | _, h => nomatch h) (T.fc__has_low)) knil))))
 (bone (sret (qun (opd_ownNeg opd_neg (fun c f h => match c, h with | 0, h => nomatch h | 1, h => nomatch h | 2, h => nomatch h | 3, h => by cases h; exact (OkD.sp (c := 3) (name := "__neg__") o_Ratiodd_negdd T.sp_Ratio_neg.1 T.sp_Ratio_neg.2 (hr.mono (by decide))) | _ + 4, h => nomatch h)) (qcall (o_simplest_from_zero.c (hr.mono (by decide))) T.g_simplest_from_zero T.k_simplest_from_zero rfl (qcons (qv 2) qnil)))))))))
theorem ok_Span_simplest (L : Nat) (T : Tx K mg) (o_simplest_from_zero : OkD (pg K) P w mg base 5 (He.ga K "simplest_from_zero") 1 (m_simplest_from_zero L) []) (o_Ratiodd_negdd : OkD (pg K) P w mg base 4 (He.ma K (He.ga K "Ratio") "__neg__") 1 (m_Ratiodd_negdd L) []) (o_Spandd_initdd_k2_has_low_has_high : OkMK (pg K) P w mg base 5 (He.ma K (He.ga K "Span") "__init__") 5 (m_Spandd_initdd L) 2 (["has_low", "has_high"] : List Str) mix_Spandd_initdd_k2_has_low_has_high) (o_Ratio_is_below : OkD (pg K) P w mg base 3 (He.ma K (He.ga K "Ratio") "is_below") 2 (m_Ratio_is_below L) []) (o_Spandd_containsdd : OkD (pg K) P w mg base 4 (He.ma K (He.ga K "Span") "__contains__") 2 (m_Spandd_containsdd L) []) (o_Ratiodd_initdd_d1 : OkD (pg K) P w mg base 2 (He.ma K (He.ga K "Ratio") "__init__") 3 (m_Ratiodd_initdd L) [(.int 1)]) (F : ∃ fd, FunD K "simplest" "Span.simplest" (defArgs s_Span_simplest) (defBody s_Span_simplest) (defScope s_Span_simplest) [] [] (He.ma K (He.ga K "Span") "simplest") fd) : OkD (pg K) P w mg base 7 (He.ma K (He.ga K "Span") "simplest") 1 (m_Span_simplest L) [] :=
  let ⟨fd, F⟩ := F; ⟨⟨fd, _, [], [], rfl, fn_Span_simplest L T o_simplest_from_zero o_Ratiodd_negdd o_Spandd_initdd_k2_has_low_has_high o_Ratio_is_below o_Spandd_containsdd o_Ratiodd_initdd_d1 F, .nil, F.bindsN (fun _ _ _ _ _ _ us hl => match us, hl with | [_], _ => rfl), fun _ _ => .nil⟩, fun ds s h => run_len h⟩
def sel_simplest_Span (L : Nat) : Sel
  | 4 => some (m_Span_simplest L)
  | _ => none
/-! #### _law_pull (level 1) -/
abbrev s_law_pull : Stmt := top 24
theorem sc_law_pull : FnScope (["_law_bag", "_law_many", "_law_seed", "_law_cell", "_law_digit"] : List Str) (["_law_bag", "_law_many"] : List Str) (defScope s_law_pull) := ⟨rfl, rfl, rfl, by decide +kernel, rfl, by decide +kernel, by decide +kernel⟩
def b_law_pull (L : Nat) : GS :=
 (gSeq (gIfS (gAnd (gT truB (gBin eqD (gBin ixD (gVar 0) (gC (.int 2))) (gC (.int 0)))) (gT truB (gBin ltD (gBin ixD (gVar 0) (gC (.int 1))) (gB lenD (gCons (gBin ixD (gVar 0) (gC (.int 0))) gNil)))))
 (gSeq (gSet 3 (gBin ixD (gBin ixD (gVar 0) (gC (.int 0))) (gBin ixD (gVar 0) (gC (.int 1)))))
 (gSeq (gSetI (gBin addD (gBin ixD (gVar 0) (gC (.int 1))) (gC (.int 1))) (gVar 0) (gC (.int 1)))
 (gIfS (gT truB (gBin geD (gVar 3) (gBin powD (gC (.int 10)) (gC (.int 18)))))
 (gSetI (gVar 3) (gVar 0) (gC (.int 2)))
 (gSetI (gBin modD (gB intD (gCons (gBin addD (gBin addD (gBin mulD (gBin ixD (gVar 0) (gC (.int 3))) (gC (.int 40237))) (gBin mulD (gBin modD (gB intD (gCons (gVar 3) gNil)) (gC (.int 2147483489))) (gC (.int 6581)))) (gC (.int 37))) gNil)) (gC (.int 2147483629))) (gVar 0) (gC (.int 3))))))
 gNext)
 (gSeq (gIfS (gT truB (gBin gtD (gBin ixD (gVar 0) (gC (.int 2))) (gC (.int 0))))
 (gSeq (gSet 4 (gBin modD (gB intD (gCons (gBin ixD (gVar 0) (gC (.int 2))) gNil)) (gVar 1)))
 (gSeq (gSetI (gBin fdivD (gBin ixD (gVar 0) (gC (.int 2))) (gVar 1)) (gVar 0) (gC (.int 2)))
 (gRet (gVar 4))))
 gNext)
 (gSeq (gSetI (gBin addD (gBin ixD (gVar 0) (gC (.int 4))) (gC (.int 1))) (gVar 0) (gC (.int 4)))
 (gSeq (gSet 2 (gBin ixD (gVar 0) (gC (.int 3))))
 (gSeq (gSetI (gBin modD (gB intD (gCons (gBin addD (gBin addD (gBin addD (gBin mulD (gVar 2) (gVar 2)) (gBin mulD (gVar 2) (gC (.int 28657)))) (gBin mulD (gBin ixD (gVar 0) (gC (.int 4))) (gC (.int 1300367)))) (gC (.int 70001))) gNil)) (gC (.int 2147483579))) (gVar 0) (gC (.int 3)))
 (gRet (gBin modD (gB intD (gCons (gBin addD (gBin fdivD (gBin ixD (gVar 0) (gC (.int 3))) (gC (.int 61))) (gBin mulD (gBin modD (gB intD (gCons (gBin ixD (gVar 0) (gC (.int 3))) gNil)) (gC (.int 8059))) (gC (.int 47)))) gNil)) (gVar 1))))))))
def m_law_pull (L : Nat) : List DV → Sto → R DV := run 5 2 (b_law_pull L)
theorem fn_law_pull (L : Nat) (T : Tx K mg) {fd : FuncData} (F : FunD K "_law_pull" "_law_pull" (defArgs s_law_pull) (defBody s_law_pull) (defScope s_law_pull) [] [] (He.ga K "_law_pull") fd) : FnOk P w K mg base CX0 1 (He.ga K "_law_pull") fd (["_law_bag", "_law_many"] : List Str) (spD (pg K) We0 2 (m_law_pull L)) := by
  have S := sc_law_pull
  refine def0' (p := pg K) (k := 0) (nN := 5) (n := 2) (b := b_law_pull L) (m := m_law_pull L) F S rfl rfl (by decide) rfl (fun cdv A outer s H E hr => ?_)
  exact (bcons (sif (L2.PW.pt (qwand (qtcmp (opd_eq rfl hr.units) (qix (qv 0) qint (fun _ _ => rfl)) qint (nomark _)) (qw1 (qtcmp opd_lt (qix (qv 0) qint (fun _ _ => rfl)) (qblt (opd_len rfl) T.z_len rfl PySem.boot_len (qcons (qix (qv 0) qint (fun _ _ => rfl)) qnil)) (nomark _)))))
 (bcons (sset 3 S.nd (Or.inl rfl) (qix (qix (qv 0) qint (fun _ _ => rfl)) (qix (qv 0) qint (fun _ _ => rfl)) (fun _ _ => rfl)))
 (bcons (sseti (qbin (opd_add rfl) (qix (qv 0) qint (fun _ _ => rfl)) qint) (qv 0) qint)
 (bone (sif (qtcmp opd_ge (qv 3) (qbin opd_pow qint qint) (nomark _))
 (bone (sseti (qv 3) (qv 0) qint))
 (bone (sseti (qbin opd_mod (qbty opd_int T.z_int rfl (by decide +kernel) (qcons (qbin (opd_add rfl) (qbin (opd_add rfl) (qbin opd_mul (qix (qv 0) qint (fun _ _ => rfl)) qint) (qbin opd_mul (qbin opd_mod (qbty opd_int T.z_int rfl (by decide +kernel) (qcons (qv 3) qnil)) qint) qint)) qint) qnil)) qint) (qv 0) qint))))))
 bnil)
 (bcons (sif (qtcmp opd_gt (qix (qv 0) qint (fun _ _ => rfl)) qint (nomark _))
 (bcons (sset 4 S.nd (Or.inl rfl) (qbin opd_mod (qbty opd_int T.z_int rfl (by decide +kernel) (qcons (qix (qv 0) qint (fun _ _ => rfl)) qnil)) (qv 1)))
 (bcons (sseti (qbin opd_fdiv (qix (qv 0) qint (fun _ _ => rfl)) (qv 1)) (qv 0) qint)
 (bone (sret (qv 4)))))
 bnil)
 (bcons (sseti (qbin (opd_add rfl) (qix (qv 0) qint (fun _ _ => rfl)) qint) (qv 0) qint)
 (bcons (sset 2 S.nd (Or.inl rfl) (qix (qv 0) qint (fun _ _ => rfl)))
 (bcons (sseti (qbin opd_mod (qbty opd_int T.z_int rfl (by decide +kernel) (qcons (qbin (opd_add rfl) (qbin (opd_add rfl) (qbin (opd_add rfl) (qbin opd_mul (qv 2) (qv 2)) (qbin opd_mul (qv 2) qint)) (qbin opd_mul (qix (qv 0) qint (fun _ _ => rfl)) qint)) qint) qnil)) qint) (qv 0) qint)
 (bone (sret (qbin opd_mod (qbty opd_int T.z_int rfl (by decide +kernel) (qcons (qbin (opd_add rfl) (qbin opd_fdiv (qix (qv 0) qint (fun _ _ => rfl)) qint) (qbin opd_mul (qbin opd_mod (qbty opd_int T.z_int rfl (by decide +kernel) (qcons (qix (qv 0) qint (fun _ _ => rfl)) qnil)) qint) qint)) qnil)) (qv 1)))))))))
theorem ok_law_pull (L : Nat) (T : Tx K mg) (F : ∃ fd, FunD K "_law_pull" "_law_pull" (defArgs s_law_pull) (defBody s_law_pull) (defScope s_law_pull) [] [] (He.ga K "_law_pull") fd) : OkD (pg K) P w mg base 1 (He.ga K "_law_pull") 2 (m_law_pull L) [] :=
  let ⟨fd, F⟩ := F; ⟨⟨fd, _, [], [], rfl, fn_law_pull L T  F, .nil, F.bindsN (fun _ _ _ _ _ _ us hl => match us, hl with | [_, _], _ => rfl), fun _ _ => .nil⟩, fun ds s h => run_len h⟩
/-! #### _law_pick (level 2) -/
abbrev s_law_pick : Stmt := top 25
theorem sc_law_pick : FnScope (["_law_bag", "_law_some"] : List Str) (["_law_bag", "_law_some"] : List Str) (defScope s_law_pick) := ⟨rfl, rfl, rfl, by decide +kernel, rfl, by decide +kernel, by decide +kernel⟩
def b_law_pick (L : Nat) : GS :=
 (gRet (gBin ixD (gVar 1) (gCall (m_law_pull L) [] (gCons (gVar 0) (gCons (gB lenD (gCons (gVar 1) gNil)) gNil)))))
def m_law_pick (L : Nat) : List DV → Sto → R DV := run 2 2 (b_law_pick L)
theorem fn_law_pick (L : Nat) (T : Tx K mg) (o_law_pull : OkD (pg K) P w mg base 1 (He.ga K "_law_pull") 2 (m_law_pull L) []) {fd : FuncData} (F : FunD K "_law_pick" "_law_pick" (defArgs s_law_pick) (defBody s_law_pick) (defScope s_law_pick) [] [] (He.ga K "_law_pick") fd) : FnOk P w K mg base CX0 2 (He.ga K "_law_pick") fd (["_law_bag", "_law_some"] : List Str) (spD (pg K) We0 2 (m_law_pick L)) := by
  have S := sc_law_pick
  refine def0' (p := pg K) (k := 1) (nN := 2) (n := 2) (b := b_law_pick L) (m := m_law_pick L) F S rfl rfl (by decide) rfl (fun cdv A outer s H E hr => ?_)
  exact (bone (sret (qix (qv 1) (qcall (o_law_pull.c (hr.mono (by decide))) T.g__law_pull T.k__law_pull rfl (qcons (qv 0) (qcons (qblt (opd_len rfl) T.z_len rfl PySem.boot_len (qcons (qv 1) qnil)) qnil))) (fun _ _ => rfl))))
theorem ok_law_pick (L : Nat) (T : Tx K mg) (o_law_pull : OkD (pg K) P w mg base 1 (He.ga K "_law_pull") 2 (m_law_pull L) []) (F : ∃ fd, FunD K "_law_pick" "_law_pick" (defArgs s_law_pick) (defBody s_law_pick) (defScope s_law_pick) [] [] (He.ga K "_law_pick") fd) : OkD (pg K) P w mg base 2 (He.ga K "_law_pick") 2 (m_law_pick L) [] :=
  let ⟨fd, F⟩ := F; ⟨⟨fd, _, [], [], rfl, fn_law_pick L T o_law_pull F, .nil, F.bindsN (fun _ _ _ _ _ _ us hl => match us, hl with | [_, _], _ => rfl), fun _ _ => .nil⟩, fun ds s h => run_len h⟩
/-! #### _law_some_frac (level 3) -/
abbrev s_law_some_frac : Stmt := top 27
theorem sc_law_some_frac : FnScope (["_law_bag", "_law_b", "_law_a"] : List Str) (["_law_bag"] : List Str) (defScope s_law_some_frac) := ⟨rfl, rfl, rfl, by decide +kernel, rfl, by decide +kernel, by decide +kernel⟩
def b_law_some_frac (L : Nat) : GS :=
 (gSeq (gSet 1 (gBin addD (gC (.int 1)) (gCall (m_law_pull L) [] (gCons (gVar 0) (gCons (gCall (m_law_pick L) [] (gCons (gVar 0) (gCons (gLst (gCons (gC (.int 1)) (gCons (gC (.int 4)) (gCons (gC (.int 12)) (gCons (gBin powD (gC (.int 10)) (gC (.int 6))) (gCons (gBin powD (gC (.int 10)) (gC (.int 29))) gNil)))))) gNil))) gNil)))))
 (gSeq (gSet 2 (gCall (m_law_pull L) [] (gCons (gVar 0) (gCons (gCall (m_law_pick L) [] (gCons (gVar 0) (gCons (gLst (gCons (gC (.int 2)) (gCons (gC (.int 9)) (gCons (gBin addD (gBin mulD (gC (.int 3)) (gVar 1)) (gC (.int 1))) (gCons (gBin powD (gC (.int 10)) (gC (.int 30))) gNil))))) gNil))) gNil))))
 (gRet (gCall (m_law_frac L) [] (gCons (gCall (m_law_pick L) [] (gCons (gVar 0) (gCons (gLst (gCons (gVar 2) (gCons (gVar 2) (gCons (gBin subD (gC (.int 0)) (gVar 2)) gNil)))) gNil))) (gCons (gVar 1) gNil))))))
def m_law_some_frac (L : Nat) : List DV → Sto → R DV := run 3 1 (b_law_some_frac L)
theorem fn_law_some_frac (L : Nat) (T : Tx K mg) (o_law_frac : OkD (pg K) P w mg base 2 (He.ga K "_law_frac") 2 (m_law_frac L) []) (o_law_pick : OkD (pg K) P w mg base 2 (He.ga K "_law_pick") 2 (m_law_pick L) []) (o_law_pull : OkD (pg K) P w mg base 1 (He.ga K "_law_pull") 2 (m_law_pull L) []) {fd : FuncData} (F : FunD K "_law_some_frac" "_law_some_frac" (defArgs s_law_some_frac) (defBody s_law_some_frac) (defScope s_law_some_frac) [] [] (He.ga K "_law_some_frac") fd) : FnOk P w K mg base CX0 3 (He.ga K "_law_some_frac") fd (["_law_bag"] : List Str) (spD (pg K) We0 1 (m_law_some_frac L)) := by
  have S := sc_law_some_frac
  refine def0' (p := pg K) (k := 2) (nN := 3) (n := 1) (b := b_law_some_frac L) (m := m_law_some_frac L) F S rfl rfl (by decide) rfl (fun cdv A outer s H E hr => ?_)
  exact (bcons (sset 1 S.nd (Or.inl rfl) (qbin (opd_add rfl) qint (qcall (o_law_pull.c (hr.mono (by decide))) T.g__law_pull T.k__law_pull rfl (qcons (qv 0) (qcons (qcall (o_law_pick.c (hr.mono (by decide))) T.g__law_pick T.k__law_pick rfl (qcons (qv 0) (qcons (qlst (qcons qint (qcons qint (qcons qint (qcons (qbin opd_pow qint qint) (qcons (qbin opd_pow qint qint) qnil)))))) qnil))) qnil)))))
 (bcons (sset 2 S.nd (Or.inl rfl) (qcall (o_law_pull.c (hr.mono (by decide))) T.g__law_pull T.k__law_pull rfl (qcons (qv 0) (qcons (qcall (o_law_pick.c (hr.mono (by decide))) T.g__law_pick T.k__law_pick rfl (qcons (qv 0) (qcons (qlst (qcons qint (qcons qint (qcons (qbin (opd_add rfl) (qbin opd_mul qint (qv 1)) qint) (qcons (qbin opd_pow qint qint) qnil))))) qnil))) qnil))))
 (bone (sret (qcall (o_law_frac.c (hr.mono (by decide))) T.g__law_frac T.k__law_frac rfl (qcons (qcall (o_law_pick.c (hr.mono (by decide))) T.g__law_pick T.k__law_pick rfl (qcons (qv 0) (qcons (qlst (qcons (qv 2) (qcons (qv 2) (qcons (qbin opd_sub qint (qv 2)) qnil)))) qnil))) (qcons (qv 1) qnil)))))))
theorem ok_law_some_frac (L : Nat) (T : Tx K mg) (o_law_frac : OkD (pg K) P w mg base 2 (He.ga K "_law_frac") 2 (m_law_frac L) []) (o_law_pick : OkD (pg K) P w mg base 2 (He.ga K "_law_pick") 2 (m_law_pick L) []) (o_law_pull : OkD (pg K) P w mg base 1 (He.ga K "_law_pull") 2 (m_law_pull L) []) (F : ∃ fd, FunD K "_law_some_frac" "_law_some_frac" (defArgs s_law_some_frac) (defBody s_law_some_frac) (defScope s_law_some_frac) [] [] (He.ga K "_law_some_frac") fd) : OkD (pg K) P w mg base 3 (He.ga K "_law_some_frac") 1 (m_law_some_frac L) [] :=
  let ⟨fd, F⟩ := F; ⟨⟨fd, _, [], [], rfl, fn_law_some_frac L T o_law_frac o_law_pick o_law_pull F, .nil, F.bindsN (fun _ _ _ _ _ _ us hl => match us, hl with | [_], _ => rfl), fun _ _ => .nil⟩, fun ds s h => run_len h⟩
/-! #### _law_some_area (level 4) -/
abbrev s_law_some_area : Stmt := top 29
theorem sc_law_some_area : FnScope (["_law_bag", "_law_p", "_law_q"] : List Str) (["_law_bag"] : List Str) (defScope s_law_some_area) := ⟨rfl, rfl, rfl, by decide +kernel, rfl, by decide +kernel, by decide +kernel⟩
def b_law_some_area (L : Nat) : GS :=
 (gSeq (gPar 1 2 (gCons (gCall (m_law_some_frac L) [] (gCons (gVar 0) gNil)) (gCons (gCall (m_law_some_frac L) [] (gCons (gVar 0) gNil)) gNil)))
 (gSeq (gIfS (gT truD (gCall (m_law_less L) [] (gCons (gVar 2) (gCons (gVar 1) gNil))))
 (gPar 1 2 (gCons (gVar 2) (gCons (gVar 1) gNil)))
 gNext)
 (gSeq (gIfS (gT truB (gBin eqD (gVar 1) (gVar 2)))
 (gRet (gTup (gCons (gTup (gCons (gVar 1) (gCons (gC (.int 0)) gNil))) (gCons (gTup (gCons (gVar 2) (gCons (gC (.int 1)) gNil))) gNil))))
 gNext)
 (gRet (gTup (gCons (gTup (gCons (gVar 1) (gCons (gCall (m_law_pull L) [] (gCons (gVar 0) (gCons (gC (.int 2)) gNil))) gNil))) (gCons (gTup (gCons (gVar 2) (gCons (gCall (m_law_pull L) [] (gCons (gVar 0) (gCons (gC (.int 2)) gNil))) gNil))) gNil)))))))
def m_law_some_area (L : Nat) : List DV → Sto → R DV := run 3 1 (b_law_some_area L)
theorem fn_law_some_area (L : Nat) (T : Tx K mg) (o_law_pull : OkD (pg K) P w mg base 1 (He.ga K "_law_pull") 2 (m_law_pull L) []) (o_law_less : OkD (pg K) P w mg base 1 (He.ga K "_law_less") 2 (m_law_less L) []) (o_law_some_frac : OkD (pg K) P w mg base 3 (He.ga K "_law_some_frac") 1 (m_law_some_frac L) []) {fd : FuncData} (F : FunD K "_law_some_area" "_law_some_area" (defArgs s_law_some_area) (defBody s_law_some_area) (defScope s_law_some_area) [] [] (He.ga K "_law_some_area") fd) : FnOk P w K mg base CX0 4 (He.ga K "_law_some_area") fd (["_law_bag"] : List Str) (spD (pg K) We0 1 (m_law_some_area L)) := by
  have S := sc_law_some_area
  refine def0' (p := pg K) (k := 3) (nN := 3) (n := 1) (b := b_law_some_area L) (m := m_law_some_area L) F S rfl rfl (by decide) rfl (fun cdv A outer s H E hr => ?_)
  exact (bcons (spar (i := 1) (j := 2) rfl S.nd rfl rfl (by decide) rfl rfl (qcons (qcall (o_law_some_frac.c (hr.mono (by decide))) T.g__law_some_frac T.k__law_some_frac rfl (qcons (qv 0) qnil)) (qcons (qcall (o_law_some_frac.c (hr.mono (by decide))) T.g__law_some_frac T.k__law_some_frac rfl (qcons (qv 0) qnil)) qnil)) rfl)
 (bcons (sif (qt (qcall (o_law_less.c (hr.mono (by decide))) T.g__law_less T.k__law_less rfl (qcons (qv 2) (qcons (qv 1) qnil))))
 (bone (spar (i := 1) (j := 2) rfl S.nd rfl rfl (by decide) rfl rfl (qcons (qv 2) (qcons (qv 1) qnil)) rfl))
 bnil)
 (bcons (sif (qtcmp (opd_eq rfl hr.units) (qv 1) (qv 2) (nomark _))
 (bone (sret (qtup (qcons (qtup (qcons (qv 1) (qcons qint qnil))) (qcons (qtup (qcons (qv 2) (qcons qint qnil))) qnil)))))
 bnil)
 (bone (sret (qtup (qcons (qtup (qcons (qv 1) (qcons (qcall (o_law_pull.c (hr.mono (by decide))) T.g__law_pull T.k__law_pull rfl (qcons (qv 0) (qcons qint qnil))) qnil))) (qcons (qtup (qcons (qv 2) (qcons (qcall (o_law_pull.c (hr.mono (by decide))) T.g__law_pull T.k__law_pull rfl (qcons (qv 0) (qcons qint qnil))) qnil))) qnil))))))))
theorem ok_law_some_area (L : Nat) (T : Tx K mg) (o_law_pull : OkD (pg K) P w mg base 1 (He.ga K "_law_pull") 2 (m_law_pull L) []) (o_law_less : OkD (pg K) P w mg base 1 (He.ga K "_law_less") 2 (m_law_less L) []) (o_law_some_frac : OkD (pg K) P w mg base 3 (He.ga K "_law_some_frac") 1 (m_law_some_frac L) []) (F : ∃ fd, FunD K "_law_some_area" "_law_some_area" (defArgs s_law_some_area) (defBody s_law_some_area) (defScope s_law_some_area) [] [] (He.ga K "_law_some_area") fd) : OkD (pg K) P w mg base 4 (He.ga K "_law_some_area") 1 (m_law_some_area L) [] :=
  let ⟨fd, F⟩ := F; ⟨⟨fd, _, [], [], rfl, fn_law_some_area L T o_law_pull o_law_less o_law_some_frac F, .nil, F.bindsN (fun _ _ _ _ _ _ us hl => match us, hl with | [_], _ => rfl), fun _ _ => .nil⟩, fun ds s h => run_len h⟩
/-! #### _law_add (level 3) -/
abbrev s_law_add : Stmt := top 26
theorem sc_law_add : FnScope (["_law_p", "_law_q"] : List Str) (["_law_p", "_law_q"] : List Str) (defScope s_law_add) := ⟨rfl, rfl, rfl, by decide +kernel, rfl, by decide +kernel, by decide +kernel⟩
def b_law_add (L : Nat) : GS :=
 (gRet (gCall (m_law_frac L) [] (gCons (gBin addD (gBin mulD (gBin ixD (gVar 0) (gC (.int 0))) (gBin ixD (gVar 1) (gC (.int 1)))) (gBin mulD (gBin ixD (gVar 1) (gC (.int 0))) (gBin ixD (gVar 0) (gC (.int 1))))) (gCons (gBin mulD (gBin ixD (gVar 0) (gC (.int 1))) (gBin ixD (gVar 1) (gC (.int 1)))) gNil))))
def m_law_add (L : Nat) : List DV → Sto → R DV := run 2 2 (b_law_add L)
theorem fn_law_add (L : Nat) (T : Tx K mg) (o_law_frac : OkD (pg K) P w mg base 2 (He.ga K "_law_frac") 2 (m_law_frac L) []) {fd : FuncData} (F : FunD K "_law_add" "_law_add" (defArgs s_law_add) (defBody s_law_add) (defScope s_law_add) [] [] (He.ga K "_law_add") fd) : FnOk P w K mg base CX0 3 (He.ga K "_law_add") fd (["_law_p", "_law_q"] : List Str) (spD (pg K) We0 2 (m_law_add L)) := by
  have S := sc_law_add
  refine def0' (p := pg K) (k := 2) (nN := 2) (n := 2) (b := b_law_add L) (m := m_law_add L) F S rfl rfl (by decide) rfl (fun cdv A outer s H E hr => ?_)
  exact (bone (sret (qcall (o_law_frac.c (hr.mono (by decide))) T.g__law_frac T.k__law_frac rfl (qcons (qbin (opd_add rfl) (qbin opd_mul (qix (qv 0) qint (fun _ _ => rfl)) (qix (qv 1) qint (fun _ _ => rfl))) (qbin opd_mul (qix (qv 1) qint (fun _ _ => rfl)) (qix (qv 0) qint (fun _ _ => rfl)))) (qcons (qbin opd_mul (qix (qv 0) qint (fun _ _ => rfl)) (qix (qv 1) qint (fun _ _ => rfl))) qnil)))))
theorem ok_law_add (L : Nat) (T : Tx K mg) (o_law_frac : OkD (pg K) P w mg base 2 (He.ga K "_law_frac") 2 (m_law_frac L) []) (F : ∃ fd, FunD K "_law_add" "_law_add" (defArgs s_law_add) (defBody s_law_add) (defScope s_law_add) [] [] (He.ga K "_law_add") fd) : OkD (pg K) P w mg base 3 (He.ga K "_law_add") 2 (m_law_add L) [] :=
  let ⟨fd, F⟩ := F; ⟨⟨fd, _, [], [], rfl, fn_law_add L T o_law_frac F, .nil, F.bindsN (fun _ _ _ _ _ _ us hl => match us, hl with | [_, _], _ => rfl), fun _ _ => .nil⟩, fun ds s h => run_len h⟩
/-! #### _law_start (level 1) -/
abbrev s_law_start : Stmt := top 21
theorem sc_law_start : FnScope (["_law_script"] : List Str) (["_law_script"] : List Str) (defScope s_law_start) := ⟨rfl, rfl, rfl, by decide +kernel, rfl, by decide +kernel, by decide +kernel⟩
def b_law_start (L : Nat) : GS :=
 (gRet (gMut (gCons (gB listD (gCons (gSl (gVar 0) gNo (gPart (gC (.int 63)))) gNil)) (gCons (gC (.int 0)) (gCons (gC (.int 0)) (gCons (gBin addD (gC (.int 49290)) (gB lenD (gCons (gVar 0) gNil))) (gCons (gC (.int 0)) gNil)))))))
def m_law_start (L : Nat) : List DV → Sto → R DV := runK 1 1 (b_law_start L)
theorem fn_law_start (L : Nat) (T : Tx K mg) {fd : FuncData} (F : FunD K "_law_start" "_law_start" (defArgs s_law_start) (defBody s_law_start) (defScope s_law_start) [] [] (He.ga K "_law_start") fd) : FnOk P w K mg base CX0 1 (He.ga K "_law_start") fd (["_law_script"] : List Str) (spD (pg K) We0 1 (m_law_start L)) := by
  have S := sc_law_start
  refine def0K' (p := pg K) (k := 0) (nN := 1) (n := 1) (b := b_law_start L) (m := m_law_start L) F S rfl rfl (by decide) rfl (fun cdv A outer s H E hr => ?_)
  exact (bone (sret (qmut (qcons (qbty (opd_list rfl) T.z_list rfl (by decide +kernel) (qcons (qsl (qv 0) qno (qpart qint)) qnil)) (qcons qint (qcons qint (qcons (qbin (opd_add rfl) qint (qblt (opd_len rfl) T.z_len rfl PySem.boot_len (qcons (qv 0) qnil))) (qcons qint qnil))))))))
theorem ok_law_start (L : Nat) (T : Tx K mg) (F : ∃ fd, FunD K "_law_start" "_law_start" (defArgs s_law_start) (defBody s_law_start) (defScope s_law_start) [] [] (He.ga K "_law_start") fd) : OkD (pg K) P w mg base 1 (He.ga K "_law_start") 1 (m_law_start L) [] :=
  let ⟨fd, F⟩ := F; ⟨⟨fd, _, [], [], rfl, fn_law_start L T  F, .nil, F.bindsN (fun _ _ _ _ _ _ us hl => match us, hl with | [_], _ => rfl), fun _ _ => .nil⟩, fun ds s h => runK_len h⟩
/-! #### law (level 8) -/
abbrev s_law : Stmt := top 36
theorem sc_law : FnScope (["_law_script", "_law_bag", "_law_turn_k", "_law_p", "_law_far", "_law_q", "_law_area", "_law_less_here", "_law_near", "_law_a", "_law_b"] : List Str) (["_law_script"] : List Str) (defScope s_law) := ⟨rfl, rfl, rfl, by decide +kernel, rfl, by decide +kernel, by decide +kernel⟩
def b_law (L : Nat) : GS :=
 (gSeq (gSet 1 (gCall (m_law_start L) [] (gCons (gVar 0) gNil)))
 (gSeq (gForR rng1 (gCons (gC (.int 6)) gNil) (tN 2)
 (gSeq (gSet 3 (gCall (m_law_frac L) [] (gCons (gBin subD (gCall (m_law_pull L) [] (gCons (gVar 1) (gCons (gC (.int 60)) gNil))) (gC (.int 30))) (gCons (gBin addD (gC (.int 1)) (gCall (m_law_pull L) [] (gCons (gVar 1) (gCons (gC (.int 13)) gNil)))) gNil))))
 (gSeq (gSet 4 (gCall (m_law_frac L) [] (gCons (gCall (m_law_pull L) [] (gCons (gVar 1) (gCons (gC (.int 40)) gNil))) (gCons (gBin mulD (gCall (m_law_pick L) [] (gCons (gVar 1) (gCons (gLst (gCons (gC (.int 1)) (gCons (gC (.int 12)) (gCons (gBin powD (gC (.int 10)) (gC (.int 3))) (gCons (gBin powD (gC (.int 10)) (gC (.int 9))) gNil))))) gNil))) (gBin addD (gC (.int 1)) (gCall (m_law_pull L) [] (gCons (gVar 1) (gCons (gC (.int 9)) gNil))))) gNil))))
 (gSeq (gSet 5 (gCall (m_law_add L) [] (gCons (gVar 3) (gCons (gVar 4) gNil))))
 (gSeq (gSet 6 (gIf (gT truB (gBin eqD (gVar 3) (gVar 5))) (gTup (gCons (gTup (gCons (gVar 3) (gCons (gC (.int 0)) gNil))) (gCons (gTup (gCons (gVar 5) (gCons (gC (.int 1)) gNil))) gNil))) (gTup (gCons (gTup (gCons (gVar 3) (gCons (gCall (m_law_pull L) [] (gCons (gVar 1) (gCons (gC (.int 2)) gNil))) gNil))) (gCons (gTup (gCons (gVar 5) (gCons (gCall (m_law_pull L) [] (gCons (gVar 1) (gCons (gC (.int 2)) gNil))) gNil))) gNil)))))
 (gSeq (gIfS (gT truB (gBin eqD (gCall (m_law_pull L) [] (gCons (gVar 1) (gCons (gC (.int 8)) gNil))) (gC (.int 0))))
 (gSet 6 (gCall (m_law_some_area L) [] (gCons (gVar 1) gNil)))
 gNext)
 (gSeq (gAsg (gCall (m_law_of_ratio L) [] (gCons (gMeth 6 (sel_simplest_Span L) (gCall (m_law_made_span L) [] (gCons (gVar 6) gNil)) gNil) gNil)) (tTup 2 (tCons (tN 9) (tCons (tN 10) tNil))))
 (gSeq (gIfS (gNot (gT truD (gCall (m_law_within L) [] (gCons (gTup (gCons (gVar 9) (gCons (gVar 10) gNil))) (gCons (gVar 6) gNil)))))
 (gRet (gC (.bl false)))
 gNext)
 (gSeq (gForR rng2 (gCons (gC (.int 1)) (gCons (gB minD (gCons (gVar 10) (gCons (gC (.int 200)) gNil))) gNil)) (tN 7)
 (gIfS (gT truD (gCall (m_law_within L) [] (gCons (gCall (m_law_frac L) [] (gCons (gCall (m_law_first_top L) [] (gCons (gVar 6) (gCons (gVar 7) gNil))) (gCons (gVar 7) gNil))) (gCons (gVar 6) gNil))))
 (gRet (gC (.bl false)))
 gNext))
 (gSeq (gSet 8 (gCall (m_law_frac L) [] (gCons (gIf (gT truB (gBin gtD (gVar 9) (gC (.int 0)))) (gBin subD (gVar 9) (gC (.int 1))) (gBin addD (gVar 9) (gC (.int 1)))) (gCons (gVar 10) gNil))))
 (gIfS (gAnd (gT truB (gBin neD (gVar 9) (gC (.int 0)))) (gT truD (gCall (m_law_within L) [] (gCons (gVar 8) (gCons (gVar 6) gNil)))))
 (gRet (gC (.bl false)))
 gNext)))))))))))
 (gRet (gC (.bl true)))))
def m_law (L : Nat) : List DV → Sto → R DV := run 11 1 (b_law L)
theorem fn_law (L : Nat) (T : Tx K mg) (o_law_within : OkD (pg K) P w mg base 3 (He.ga K "_law_within") 2 (m_law_within L) []) (o_law_frac : OkD (pg K) P w mg base 2 (He.ga K "_law_frac") 2 (m_law_frac L) []) (o_law_first_top : OkD (pg K) P w mg base 1 (He.ga K "_law_first_top") 2 (m_law_first_top L) []) (o_law_of_ratio : OkD (pg K) P w mg base 3 (He.ga K "_law_of_ratio") 1 (m_law_of_ratio L) []) (o_law_made_span : OkD (pg K) P w mg base 7 (He.ga K "_law_made_span") 1 (m_law_made_span L) []) (o_Span_simplest : OkD (pg K) P w mg base 7 (He.ma K (He.ga K "Span") "simplest") 1 (m_Span_simplest L) []) (o_law_pull : OkD (pg K) P w mg base 1 (He.ga K "_law_pull") 2 (m_law_pull L) []) (o_law_some_area : OkD (pg K) P w mg base 4 (He.ga K "_law_some_area") 1 (m_law_some_area L) []) (o_law_add : OkD (pg K) P w mg base 3 (He.ga K "_law_add") 2 (m_law_add L) []) (o_law_pick : OkD (pg K) P w mg base 2 (He.ga K "_law_pick") 2 (m_law_pick L) []) (o_law_start : OkD (pg K) P w mg base 1 (He.ga K "_law_start") 1 (m_law_start L) []) {fd : FuncData} (F : FunD K "law" "law" (defArgs s_law) (defBody s_law) (defScope s_law) [] [] (He.ga K "law") fd) : FnOk P w K mg base CX0 8 (He.ga K "law") fd (["_law_script"] : List Str) (spD (pg K) We0 1 (m_law L)) := by
  have S := sc_law
  refine def0' (p := pg K) (k := 7) (nN := 11) (n := 1) (b := b_law L) (m := m_law L) F S rfl rfl (by decide) rfl (fun cdv A outer s H E hr => ?_)
  exact (bcons (sset 1 S.nd (Or.inl rfl) (qcall (o_law_start.c (hr.mono (by decide))) T.g__law_start T.k__law_start rfl (qcons (qv 0) qnil)))
 (bcons (sforR1 PassesOwn.never rfl rfl T.z_range (qcons qint qnil) (gname 2 S.nd (Or.inl rfl))
 (bcons (sset 3 S.nd (Or.inl rfl) (qcall (o_law_frac.c (hr.mono (by decide))) T.g__law_frac T.k__law_frac rfl (qcons (qbin opd_sub (qcall (o_law_pull.c (hr.mono (by decide))) T.g__law_pull T.k__law_pull rfl (qcons (qv 1) (qcons qint qnil))) qint) (qcons (qbin (opd_add rfl) qint (qcall (o_law_pull.c (hr.mono (by decide))) T.g__law_pull T.k__law_pull rfl (qcons (qv 1) (qcons qint qnil)))) qnil))))
 (bcons (sset 4 S.nd (Or.inl rfl) (qcall (o_law_frac.c (hr.mono (by decide))) T.g__law_frac T.k__law_frac rfl (qcons (qcall (o_law_pull.c (hr.mono (by decide))) T.g__law_pull T.k__law_pull rfl (qcons (qv 1) (qcons qint qnil))) (qcons (qbin opd_mul (qcall (o_law_pick.c (hr.mono (by decide))) T.g__law_pick T.k__law_pick rfl (qcons (qv 1) (qcons (qlst (qcons qint (qcons qint (qcons (qbin opd_pow qint qint) (qcons (qbin opd_pow qint qint) qnil))))) qnil))) (qbin (opd_add rfl) qint (qcall (o_law_pull.c (hr.mono (by decide))) T.g__law_pull T.k__law_pull rfl (qcons (qv 1) (qcons qint qnil))))) qnil))))
 (bcons (sset 5 S.nd (Or.inl rfl) (qcall (o_law_add.c (hr.mono (by decide))) T.g__law_add T.k__law_add rfl (qcons (qv 3) (qcons (qv 4) qnil))))
 (bcons (sset 6 S.nd (Or.inl rfl) (qif (qtcmp (opd_eq rfl hr.units) (qv 3) (qv 5) (nomark _)) (qtup (qcons (qtup (qcons (qv 3) (qcons qint qnil))) (qcons (qtup (qcons (qv 5) (qcons qint qnil))) qnil))) (qtup (qcons (qtup (qcons (qv 3) (qcons (qcall (o_law_pull.c (hr.mono (by decide))) T.g__law_pull T.k__law_pull rfl (qcons (qv 1) (qcons qint qnil))) qnil))) (qcons (qtup (qcons (qv 5) (qcons (qcall (o_law_pull.c (hr.mono (by decide))) T.g__law_pull T.k__law_pull rfl (qcons (qv 1) (qcons qint qnil))) qnil))) qnil)))))
 (bcons (sif (qtcmp (opd_eq rfl hr.units) (qcall (o_law_pull.c (hr.mono (by decide))) T.g__law_pull T.k__law_pull rfl (qcons (qv 1) (qcons qint qnil))) qint (nomark _))
 (bone (sset 6 S.nd (Or.inl rfl) (qcall (o_law_some_area.c (hr.mono (by decide))) T.g__law_some_area T.k__law_some_area rfl (qcons (qv 1) qnil))))
 bnil)
 (bcons (sasg (qcall (o_law_of_ratio.c (hr.mono (by decide))) T.g__law_of_ratio T.k__law_of_ratio rfl (qcons (qmeth0 (qcall (o_law_made_span.c (hr.mono (by decide))) T.g__law_made_span T.k__law_made_span rfl (qcons (qv 6) qnil)) (fun c f h => match c, h with | 0, h => nomatch h | 1, h => nomatch h | 2, h => nomatch h | 3, h => nomatch h | 4, h => by cases h; exact (OkD.mt0 (c := 4) (name := "simplest") o_Span_simplest T.cl_Span T.me_Span_simplest (hr.mono (by decide))) | _ + 5, h => nomatch h) nmF_simplest) qnil)) (gtup rfl (gcons (gname 9 S.nd (Or.inl rfl)) (gcons (gname 10 S.nd (Or.inl rfl)) gnil))))
 (bcons (sif (qtnot (qt (qcall (o_law_within.c (hr.mono (by decide))) T.g__law_within T.k__law_within rfl (qcons (qtup (qcons (qv 9) (qcons (qv 10) qnil))) (qcons (qv 6) qnil)))))
 (bone (sret qbl))
 bnil)
 (bcons (sforR2 PassesOwn.never rfl rfl T.z_range (qcons qint (qcons (qblt (opd_min rfl) T.z_min rfl (by decide +kernel) (qcons (qv 10) (qcons qint qnil))) qnil)) (gname 7 S.nd (Or.inl rfl))
 (bone (sif (qt (qcall (o_law_within.c (hr.mono (by decide))) T.g__law_within T.k__law_within rfl (qcons (qcall (o_law_frac.c (hr.mono (by decide))) T.g__law_frac T.k__law_frac rfl (qcons (qcall (o_law_first_top.c (hr.mono (by decide))) T.g__law_first_top T.k__law_first_top rfl (qcons (qv 6) (qcons (qv 7) qnil))) (qcons (qv 7) qnil))) (qcons (qv 6) qnil))))
 (bone (sret qbl))
 bnil)))
 (bcons (sset 8 S.nd (Or.inl rfl) (qcall (o_law_frac.c (hr.mono (by decide))) T.g__law_frac T.k__law_frac rfl (qcons (qif (qtcmp opd_gt (qv 9) qint (nomark _)) (qbin opd_sub (qv 9) qint) (qbin (opd_add rfl) (qv 9) qint)) (qcons (qv 10) qnil))))
 (bone (sif (L2.PW.pt (qwand (qtcmp (opd_ne rfl hr.units) (qv 9) qint (nomark _)) (qw1 (qt (qcall (o_law_within.c (hr.mono (by decide))) T.g__law_within T.k__law_within rfl (qcons (qv 8) (qcons (qv 6) qnil)))))))
 (bone (sret qbl))
 bnil))))))))))))
 (bone (sret qbl))))
theorem ok_law (L : Nat) (T : Tx K mg) (o_law_within : OkD (pg K) P w mg base 3 (He.ga K "_law_within") 2 (m_law_within L) []) (o_law_frac : OkD (pg K) P w mg base 2 (He.ga K "_law_frac") 2 (m_law_frac L) []) (o_law_first_top : OkD (pg K) P w mg base 1 (He.ga K "_law_first_top") 2 (m_law_first_top L) []) (o_law_of_ratio : OkD (pg K) P w mg base 3 (He.ga K "_law_of_ratio") 1 (m_law_of_ratio L) []) (o_law_made_span : OkD (pg K) P w mg base 7 (He.ga K "_law_made_span") 1 (m_law_made_span L) []) (o_Span_simplest : OkD (pg K) P w mg base 7 (He.ma K (He.ga K "Span") "simplest") 1 (m_Span_simplest L) []) (o_law_pull : OkD (pg K) P w mg base 1 (He.ga K "_law_pull") 2 (m_law_pull L) []) (o_law_some_area : OkD (pg K) P w mg base 4 (He.ga K "_law_some_area") 1 (m_law_some_area L) []) (o_law_add : OkD (pg K) P w mg base 3 (He.ga K "_law_add") 2 (m_law_add L) []) (o_law_pick : OkD (pg K) P w mg base 2 (He.ga K "_law_pick") 2 (m_law_pick L) []) (o_law_start : OkD (pg K) P w mg base 1 (He.ga K "_law_start") 1 (m_law_start L) []) (F : ∃ fd, FunD K "law" "law" (defArgs s_law) (defBody s_law) (defScope s_law) [] [] (He.ga K "law") fd) : OkD (pg K) P w mg base 8 (He.ga K "law") 1 (m_law L) [] :=
  let ⟨fd, F⟩ := F; ⟨⟨fd, _, [], [], rfl, fn_law L T o_law_within o_law_frac o_law_first_top o_law_of_ratio o_law_made_span o_Span_simplest o_law_pull o_law_some_area o_law_add o_law_pick o_law_start F, .nil, F.bindsN (fun _ _ _ _ _ _ us hl => match us, hl with | [_], _ => rfl), fun _ _ => .nil⟩, fun ds s h => run_len h⟩
def fns : List DefQ := [
  ⟨fun K => (He.ga K "_law_less"), "_law_less", "_law_less", defArgs s_law_less, defBody s_law_less, defScope s_law_less, [], []⟩,
  ⟨fun K => (He.ga K "_law_ahead"), "_law_ahead", "_law_ahead", defArgs s_law_ahead, defBody s_law_ahead, defScope s_law_ahead, [], []⟩,
  ⟨fun K => (He.ga K "_law_within"), "_law_within", "_law_within", defArgs s_law_within, defBody s_law_within, defScope s_law_within, [], []⟩,
  ⟨fun K => (He.ga K "_law_gcd"), "_law_gcd", "_law_gcd", defArgs s_law_gcd, defBody s_law_gcd, defScope s_law_gcd, [], []⟩,
  ⟨fun K => (He.ga K "_law_frac"), "_law_frac", "_law_frac", defArgs s_law_frac, defBody s_law_frac, defScope s_law_frac, [], []⟩,
  ⟨fun K => (He.ga K "_law_first_top"), "_law_first_top", "_law_first_top", defArgs s_law_first_top, defBody s_law_first_top, defScope s_law_first_top, [], []⟩,
  ⟨fun K => (pga K (He.ma K (He.ga K "Ratio") "bottom")), "bottom", "Ratio.bottom", defArgs s_Ratio_bottom, defBody s_Ratio_bottom, defScope s_Ratio_bottom, [], []⟩,
  ⟨fun K => (pga K (He.ma K (He.ga K "Ratio") "top")), "top", "Ratio.top", defArgs s_Ratio_top, defBody s_Ratio_top, defScope s_Ratio_top, [], []⟩,
  ⟨fun K => (He.ga K "_law_of_ratio"), "_law_of_ratio", "_law_of_ratio", defArgs s_law_of_ratio, defBody s_law_of_ratio, defScope s_law_of_ratio, [], []⟩,
  ⟨fun K => (He.ma K (He.ga K "Ratio") "is_below"), "is_below", "Ratio.is_below", defArgs s_Ratio_is_below, defBody s_Ratio_is_below, defScope s_Ratio_is_below, [], []⟩,
  ⟨fun K => (He.ma K (He.ga K "Ratio") "__eq__"), "__eq__", "Ratio.__eq__", defArgs s_Ratiodd_eqdd, defBody s_Ratiodd_eqdd, defScope s_Ratiodd_eqdd, [], []⟩,
  ⟨fun K => (He.ga K "are_ends"), "are_ends", "are_ends", defArgs s_are_ends, defBody s_are_ends, defScope s_are_ends, [], []⟩,
  ⟨fun K => (He.ma K (He.ga K "Span") "__init__"), "__init__", "Span.__init__", defArgs s_Spandd_initdd, defBody s_Spandd_initdd, defScope s_Spandd_initdd, [], [("has_low", He.Dv.bl true), ("has_high", He.Dv.bl true)]⟩,
  ⟨fun K => (He.ga K "is_number"), "is_number", "is_number", defArgs s_is_number, defBody s_is_number, defScope s_is_number, [], []⟩,
  ⟨fun K => (He.ma K (He.ga K "Ratio") "__init__"), "__init__", "Ratio.__init__", defArgs s_Ratiodd_initdd, defBody s_Ratiodd_initdd, defScope s_Ratiodd_initdd, [He.Dv.int 1], []⟩,
  ⟨fun K => (He.ga K "_law_ratio"), "_law_ratio", "_law_ratio", defArgs s_law_ratio, defBody s_law_ratio, defScope s_law_ratio, [], []⟩,
  ⟨fun K => (He.ga K "_law_made_span"), "_law_made_span", "_law_made_span", defArgs s_law_made_span, defBody s_law_made_span, defScope s_law_made_span, [], []⟩,
  ⟨fun K => (He.ga K "unfolded"), "unfolded", "unfolded", defArgs s_unfolded, defBody s_unfolded, defScope s_unfolded, [], []⟩,
  ⟨fun K => (pga K (He.ma K (He.ga K "Span") "has_high")), "has_high", "Span.has_high", defArgs s_Span_has_high, defBody s_Span_has_high, defScope s_Span_has_high, [], []⟩,
  ⟨fun K => (pga K (He.ma K (He.ga K "Span") "has_low")), "has_low", "Span.has_low", defArgs s_Span_has_low, defBody s_Span_has_low, defScope s_Span_has_low, [], []⟩,
  ⟨fun K => (pga K (He.ma K (He.ga K "Span") "high")), "high", "Span.high", defArgs s_Span_high, defBody s_Span_high, defScope s_Span_high, [], []⟩,
  ⟨fun K => (pga K (He.ma K (He.ga K "Span") "low")), "low", "Span.low", defArgs s_Span_low, defBody s_Span_low, defScope s_Span_low, [], []⟩,
  ⟨fun K => (He.ga K "simplest_from_zero"), "simplest_from_zero", "simplest_from_zero", defArgs s_simplest_from_zero, defBody s_simplest_from_zero, defScope s_simplest_from_zero, [], []⟩,
  ⟨fun K => (He.ma K (He.ga K "Ratio") "__neg__"), "__neg__", "Ratio.__neg__", defArgs s_Ratiodd_negdd, defBody s_Ratiodd_negdd, defScope s_Ratiodd_negdd, [], []⟩,
  ⟨fun K => (He.ma K (He.ga K "Span") "__contains__"), "__contains__", "Span.__contains__", defArgs s_Spandd_containsdd, defBody s_Spandd_containsdd, defScope s_Spandd_containsdd, [], []⟩,
  ⟨fun K => (He.ma K (He.ga K "Span") "simplest"), "simplest", "Span.simplest", defArgs s_Span_simplest, defBody s_Span_simplest, defScope s_Span_simplest, [], []⟩,
  ⟨fun K => (He.ga K "_law_pull"), "_law_pull", "_law_pull", defArgs s_law_pull, defBody s_law_pull, defScope s_law_pull, [], []⟩,
  ⟨fun K => (He.ga K "_law_pick"), "_law_pick", "_law_pick", defArgs s_law_pick, defBody s_law_pick, defScope s_law_pick, [], []⟩,
  ⟨fun K => (He.ga K "_law_some_frac"), "_law_some_frac", "_law_some_frac", defArgs s_law_some_frac, defBody s_law_some_frac, defScope s_law_some_frac, [], []⟩,
  ⟨fun K => (He.ga K "_law_some_area"), "_law_some_area", "_law_some_area", defArgs s_law_some_area, defBody s_law_some_area, defScope s_law_some_area, [], []⟩,
  ⟨fun K => (He.ga K "_law_add"), "_law_add", "_law_add", defArgs s_law_add, defBody s_law_add, defScope s_law_add, [], []⟩,
  ⟨fun K => (He.ga K "_law_start"), "_law_start", "_law_start", defArgs s_law_start, defBody s_law_start, defScope s_law_start, [], []⟩,
  ⟨fun K => (He.ga K "law"), "law", "law", defArgs s_law, defBody s_law, defScope s_law, [], []⟩]
end
theorem law_end {P : Program} {w : World} {K : PySem.W.Frag} {h : Heap} {mg : Str → Option Value} {fa : Addr} (X : K.In h) (G : h.Ns mainGlobals mg) (hfa : mg "law" = some (.ref fa)) (c : SaysQ fns ex K) (L : Nat) : ∃ fd : FuncData, (∀ (s : Shared) (v : Value), BindsTo s fd ⟨[v], []⟩ [("_law_script", v)]) ∧ ∀ base : Heap, K.In base → base.Ns mainGlobals mg → FnOk P w K mg base CX0 8 fa fd ["_law_script"] (spD (pg K) We0 1 (m_law L)) := by
  have T := tx X G c.ex_
  have efa : fa = He.ga K "law" := by
    have e := hfa.symm.trans T.g_law
    injection e with e
    injection e
  subst efa
  have F_law_less : ∃ fd, FunD K "_law_less" "_law_less" (defArgs s_law_less) (defBody s_law_less) (defScope s_law_less) [] [] (He.ga K "_law_less") fd := c.fn_ 0
  have F_law_ahead : ∃ fd, FunD K "_law_ahead" "_law_ahead" (defArgs s_law_ahead) (defBody s_law_ahead) (defScope s_law_ahead) [] [] (He.ga K "_law_ahead") fd := c.fn_ 1
  have F_law_within : ∃ fd, FunD K "_law_within" "_law_within" (defArgs s_law_within) (defBody s_law_within) (defScope s_law_within) [] [] (He.ga K "_law_within") fd := c.fn_ 2
  have F_law_gcd : ∃ fd, FunD K "_law_gcd" "_law_gcd" (defArgs s_law_gcd) (defBody s_law_gcd) (defScope s_law_gcd) [] [] (He.ga K "_law_gcd") fd := c.fn_ 3
  have F_law_frac : ∃ fd, FunD K "_law_frac" "_law_frac" (defArgs s_law_frac) (defBody s_law_frac) (defScope s_law_frac) [] [] (He.ga K "_law_frac") fd := c.fn_ 4
  have F_law_first_top : ∃ fd, FunD K "_law_first_top" "_law_first_top" (defArgs s_law_first_top) (defBody s_law_first_top) (defScope s_law_first_top) [] [] (He.ga K "_law_first_top") fd := c.fn_ 5
  have F_Ratio_bottom : ∃ fd, FunD K "bottom" "Ratio.bottom" (defArgs s_Ratio_bottom) (defBody s_Ratio_bottom) (defScope s_Ratio_bottom) [] [] (pga K (He.ma K (He.ga K "Ratio") "bottom")) fd := c.fn_ 6
  have F_Ratio_top : ∃ fd, FunD K "top" "Ratio.top" (defArgs s_Ratio_top) (defBody s_Ratio_top) (defScope s_Ratio_top) [] [] (pga K (He.ma K (He.ga K "Ratio") "top")) fd := c.fn_ 7
  have F_law_of_ratio : ∃ fd, FunD K "_law_of_ratio" "_law_of_ratio" (defArgs s_law_of_ratio) (defBody s_law_of_ratio) (defScope s_law_of_ratio) [] [] (He.ga K "_law_of_ratio") fd := c.fn_ 8
  have F_Ratio_is_below : ∃ fd, FunD K "is_below" "Ratio.is_below" (defArgs s_Ratio_is_below) (defBody s_Ratio_is_below) (defScope s_Ratio_is_below) [] [] (He.ma K (He.ga K "Ratio") "is_below") fd := c.fn_ 9
  have F_Ratiodd_eqdd : ∃ fd, FunD K "__eq__" "Ratio.__eq__" (defArgs s_Ratiodd_eqdd) (defBody s_Ratiodd_eqdd) (defScope s_Ratiodd_eqdd) [] [] (He.ma K (He.ga K "Ratio") "__eq__") fd := c.fn_ 10
  have F_are_ends : ∃ fd, FunD K "are_ends" "are_ends" (defArgs s_are_ends) (defBody s_are_ends) (defScope s_are_ends) [] [] (He.ga K "are_ends") fd := c.fn_ 11
  have F_Spandd_initdd : ∃ fd, FunD K "__init__" "Span.__init__" (defArgs s_Spandd_initdd) (defBody s_Spandd_initdd) (defScope s_Spandd_initdd) [] [("has_low", V.bl true), ("has_high", V.bl true)] (He.ma K (He.ga K "Span") "__init__") fd := c.fn_ 12
  have F_is_number : ∃ fd, FunD K "is_number" "is_number" (defArgs s_is_number) (defBody s_is_number) (defScope s_is_number) [] [] (He.ga K "is_number") fd := c.fn_ 13
  have F_Ratiodd_initdd : ∃ fd, FunD K "__init__" "Ratio.__init__" (defArgs s_Ratiodd_initdd) (defBody s_Ratiodd_initdd) (defScope s_Ratiodd_initdd) [V.int 1] [] (He.ma K (He.ga K "Ratio") "__init__") fd := c.fn_ 14
  have F_law_ratio : ∃ fd, FunD K "_law_ratio" "_law_ratio" (defArgs s_law_ratio) (defBody s_law_ratio) (defScope s_law_ratio) [] [] (He.ga K "_law_ratio") fd := c.fn_ 15
  have F_law_made_span : ∃ fd, FunD K "_law_made_span" "_law_made_span" (defArgs s_law_made_span) (defBody s_law_made_span) (defScope s_law_made_span) [] [] (He.ga K "_law_made_span") fd := c.fn_ 16
  have F_unfolded : ∃ fd, FunD K "unfolded" "unfolded" (defArgs s_unfolded) (defBody s_unfolded) (defScope s_unfolded) [] [] (He.ga K "unfolded") fd := c.fn_ 17
  have F_Span_has_high : ∃ fd, FunD K "has_high" "Span.has_high" (defArgs s_Span_has_high) (defBody s_Span_has_high) (defScope s_Span_has_high) [] [] (pga K (He.ma K (He.ga K "Span") "has_high")) fd := c.fn_ 18
  have F_Span_has_low : ∃ fd, FunD K "has_low" "Span.has_low" (defArgs s_Span_has_low) (defBody s_Span_has_low) (defScope s_Span_has_low) [] [] (pga K (He.ma K (He.ga K "Span") "has_low")) fd := c.fn_ 19
  have F_Span_high : ∃ fd, FunD K "high" "Span.high" (defArgs s_Span_high) (defBody s_Span_high) (defScope s_Span_high) [] [] (pga K (He.ma K (He.ga K "Span") "high")) fd := c.fn_ 20
  have F_Span_low : ∃ fd, FunD K "low" "Span.low" (defArgs s_Span_low) (defBody s_Span_low) (defScope s_Span_low) [] [] (pga K (He.ma K (He.ga K "Span") "low")) fd := c.fn_ 21
  have F_simplest_from_zero : ∃ fd, FunD K "simplest_from_zero" "simplest_from_zero" (defArgs s_simplest_from_zero) (defBody s_simplest_from_zero) (defScope s_simplest_from_zero) [] [] (He.ga K "simplest_from_zero") fd := c.fn_ 22
  have F_Ratiodd_negdd : ∃ fd, FunD K "__neg__" "Ratio.__neg__" (defArgs s_Ratiodd_negdd) (defBody s_Ratiodd_negdd) (defScope s_Ratiodd_negdd) [] [] (He.ma K (He.ga K "Ratio") "__neg__") fd := c.fn_ 23
  have F_Spandd_containsdd : ∃ fd, FunD K "__contains__" "Span.__contains__" (defArgs s_Spandd_containsdd) (defBody s_Spandd_containsdd) (defScope s_Spandd_containsdd) [] [] (He.ma K (He.ga K "Span") "__contains__") fd := c.fn_ 24
  have F_Span_simplest : ∃ fd, FunD K "simplest" "Span.simplest" (defArgs s_Span_simplest) (defBody s_Span_simplest) (defScope s_Span_simplest) [] [] (He.ma K (He.ga K "Span") "simplest") fd := c.fn_ 25
  have F_law_pull : ∃ fd, FunD K "_law_pull" "_law_pull" (defArgs s_law_pull) (defBody s_law_pull) (defScope s_law_pull) [] [] (He.ga K "_law_pull") fd := c.fn_ 26
  have F_law_pick : ∃ fd, FunD K "_law_pick" "_law_pick" (defArgs s_law_pick) (defBody s_law_pick) (defScope s_law_pick) [] [] (He.ga K "_law_pick") fd := c.fn_ 27
  have F_law_some_frac : ∃ fd, FunD K "_law_some_frac" "_law_some_frac" (defArgs s_law_some_frac) (defBody s_law_some_frac) (defScope s_law_some_frac) [] [] (He.ga K "_law_some_frac") fd := c.fn_ 28
  have F_law_some_area : ∃ fd, FunD K "_law_some_area" "_law_some_area" (defArgs s_law_some_area) (defBody s_law_some_area) (defScope s_law_some_area) [] [] (He.ga K "_law_some_area") fd := c.fn_ 29
  have F_law_add : ∃ fd, FunD K "_law_add" "_law_add" (defArgs s_law_add) (defBody s_law_add) (defScope s_law_add) [] [] (He.ga K "_law_add") fd := c.fn_ 30
  have F_law_start : ∃ fd, FunD K "_law_start" "_law_start" (defArgs s_law_start) (defBody s_law_start) (defScope s_law_start) [] [] (He.ga K "_law_start") fd := c.fn_ 31
  obtain ⟨fd, F⟩ : ∃ fd, FunD K "law" "law" (defArgs s_law) (defBody s_law) (defScope s_law) [] [] (He.ga K "law") fd := c.fn_ 32
  have b := FunD.bindsA (ps := ["_law_script"]) F fun _ _ _ _ _ _ us hl => match us, hl with | [_], _ => rfl
  refine ⟨fd, fun s v => b s [v] rfl, fun base _ _ => ?_⟩
  have o_law_less := ok_law_less (P := P) (w := w) (base := base) L T  F_law_less
  have o_law_ahead := ok_law_ahead (P := P) (w := w) (base := base) L T o_law_less F_law_ahead
  have o_law_within := ok_law_within (P := P) (w := w) (base := base) L T o_law_ahead F_law_within
  have o_law_gcd := ok_law_gcd (P := P) (w := w) (base := base) L T  F_law_gcd
  have o_law_frac := ok_law_frac (P := P) (w := w) (base := base) L T o_law_gcd F_law_frac
  have o_law_first_top := ok_law_first_top (P := P) (w := w) (base := base) L T  F_law_first_top
  have o_Ratio_bottom := ok_Ratio_bottom (P := P) (w := w) (base := base) L T  F_Ratio_bottom
  have o_Ratio_top := ok_Ratio_top (P := P) (w := w) (base := base) L T  F_Ratio_top
  have o_law_of_ratio := ok_law_of_ratio (P := P) (w := w) (base := base) L T o_Ratio_bottom o_Ratio_top F_law_of_ratio
  have o_Ratio_is_below := ok_Ratio_is_below (P := P) (w := w) (base := base) L T o_Ratio_bottom o_Ratio_top F_Ratio_is_below
  have o_Ratiodd_eqdd := ok_Ratiodd_eqdd (P := P) (w := w) (base := base) L T  F_Ratiodd_eqdd
  have o_are_ends := ok_are_ends (P := P) (w := w) (base := base) L T o_Ratio_is_below o_Ratiodd_eqdd F_are_ends
  have o_Spandd_initdd_k2_has_low_has_high := ok_Spandd_initdd_k2_has_low_has_high (P := P) (w := w) (base := base) L T o_are_ends F_Spandd_initdd
  have o_is_number := ok_is_number (P := P) (w := w) (base := base) L T  F_is_number
  have o_Ratiodd_initdd := ok_Ratiodd_initdd (P := P) (w := w) (base := base) L T o_is_number F_Ratiodd_initdd
  have o_Ratiodd_initdd_d1 := ok_Ratiodd_initdd_d1 (P := P) (w := w) (base := base) L T o_is_number F_Ratiodd_initdd
  have o_law_ratio := ok_law_ratio (P := P) (w := w) (base := base) L T o_Ratiodd_initdd F_law_ratio
  have o_law_made_span := ok_law_made_span (P := P) (w := w) (base := base) L T o_Spandd_initdd_k2_has_low_has_high o_law_ratio F_law_made_span
  have o_unfolded := ok_unfolded (P := P) (w := w) (base := base) L T o_Ratiodd_initdd F_unfolded
  have o_Span_has_high := ok_Span_has_high (P := P) (w := w) (base := base) L T  F_Span_has_high
  have o_Span_has_low := ok_Span_has_low (P := P) (w := w) (base := base) L T  F_Span_has_low
  have o_Span_high := ok_Span_high (P := P) (w := w) (base := base) L T  F_Span_high
  have o_Span_low := ok_Span_low (P := P) (w := w) (base := base) L T  F_Span_low
  have o_simplest_from_zero := ok_simplest_from_zero (P := P) (w := w) (base := base) L T o_unfolded o_Span_has_high o_Span_has_low o_Span_high o_Ratio_bottom o_Ratio_top o_Span_low F_simplest_from_zero
  have o_Ratiodd_negdd := ok_Ratiodd_negdd (P := P) (w := w) (base := base) L T o_Ratiodd_initdd F_Ratiodd_negdd
  have o_Spandd_containsdd := ok_Spandd_containsdd (P := P) (w := w) (base := base) L T o_Ratio_is_below o_Ratiodd_eqdd F_Spandd_containsdd
  have o_Span_simplest := ok_Span_simplest (P := P) (w := w) (base := base) L T o_simplest_from_zero o_Ratiodd_negdd o_Spandd_initdd_k2_has_low_has_high o_Ratio_is_below o_Spandd_containsdd o_Ratiodd_initdd_d1 F_Span_simplest
  have o_law_pull := ok_law_pull (P := P) (w := w) (base := base) L T  F_law_pull
  have o_law_pick := ok_law_pick (P := P) (w := w) (base := base) L T o_law_pull F_law_pick
  have o_law_some_frac := ok_law_some_frac (P := P) (w := w) (base := base) L T o_law_frac o_law_pick o_law_pull F_law_some_frac
  have o_law_some_area := ok_law_some_area (P := P) (w := w) (base := base) L T o_law_pull o_law_less o_law_some_frac F_law_some_area
  have o_law_add := ok_law_add (P := P) (w := w) (base := base) L T o_law_frac F_law_add
  have o_law_start := ok_law_start (P := P) (w := w) (base := base) L T  F_law_start
  exact fn_law (P := P) (w := w) (base := base) L T o_law_within o_law_frac o_law_first_top o_law_of_ratio o_law_made_span o_Span_simplest o_law_pull o_law_some_area o_law_add o_law_pick o_law_start F
abbrev Rr : PySem.W.OpenRow := PySem.W.OpenLaw.row PySem.Challenge.rw_gustfloor_k05_simplest_ratios
def names : List PySem.Str := (["_wall", "GustError", "InvalidRatio", "InvalidSpan", "MOST_LETTERS", "CHUNK", "CHUNK_LIMIT", "is_number", "digits", "number_of", "ratio_of", "Ratio", "are_ends", "unfolded", "simplest_from_zero", "Span", "_law_start", "_law_gcd", "_law_frac", "_law_pull", "_law_pick", "_law_add", "_law_some_frac", "_law_less", "_law_some_area", "_law_of_ratio", "_law_ratio", "_law_made_span", "_law_ahead", "_law_within", "_law_first_top"] : List Str)
abbrev hk : PySem.W.Hook := hookQ 8 fns ex
def ob (s : PySem.W.SharedT) : AlQ := obsQG 8 fns ex (HandSHeadRun.getT s)
theorem ob_eq (s : PySem.W.SharedT) : ob s = hk.obs s.abs := obsQG_eq (HandSHeadRun.getT_eq s)
theorem run_ (w : World) : HandSHeadRun.RunEqI Rr (PySem.W.view Rr.prog [0, 36]) hk ob 6000 names w := by
  unfold HandSHeadRun.RunEqI
  kernel_rfl
end Row

namespace Row
open PySem PySem.Spec PyProof.Rows L2 Dq
abbrev fr (n d : Int) : DV := .tup [.int n, .int d]
abbrev rat (n d : Int) : DV := .ins 3 [0, 1] [.int n, .int d]
abbrev ar (a b k c d j : Int) : DV := .tup [.tup [fr a b, .int k], .tup [fr c d, .int j]]
abbrev spn (a b c d : Int) (l h : Bool) : DV := .ins 4 [2, 3, 4, 5] [rat a b, rat c d, .bl l, .bl h]
@[simp] theorem ix_fr0 (n d : DV) (s : Sto) : ixD (.tup [n, d]) (.int 0) s = .ok n s := rfl
@[simp] theorem ix_fr1 (n d : DV) (s : Sto) : ixD (.tup [n, d]) (.int 1) s = .ok d s := rfl
theorem ev_less (L : Nat) (a b c d : Int) (s : Sto) (ha : Sm a) (hb : Sm b) (hc : Sm c) (hd : Sm d) : m_law_less L [fr a b, fr c d] s = .ok (.bl (decide (a * d < c * b))) s := by
  simp [m_law_less, Dq.run, b_law_less, mulD_of, ha, hb, hc, hd]
def Ah (a b k c d j : Int) : Bool := decide (a * d < c * b) || (decide (a = c) && decide (b = d) && decide (k < j))
theorem ev_ahead (L : Nat) (a b c d k j : Int) (s : Sto) (ha : Sm a) (hb : Sm b) (hc : Sm c) (hd : Sm d) :
    m_law_ahead L [.tup [fr a b, .int k], .tup [fr c d, .int j]] s = .ok (.bl (Ah a b k c d j)) s := by
  have h := ev_less L a b c d s ha hb hc hd
  simp only [m_law_ahead, Dq.run, b_law_ahead, Ah]
  simp [h, eqD_tup2]
  generalize decide (a * d < c * b) = P1
  generalize decide (a = c) = P2
  generalize decide (b = d) = P3
  cases P1 <;> cases P2 <;> cases P3 <;> simp
theorem sizeLine2 : decide (([DV.non, DV.non] : List DV).length ≤ sizeLine) = true := by decide
@[simp] theorem tup2_ok : (2 : Nat) ≤ sizeLine := by decide
def Wi (a b p q k u v j : Int) : Bool := !Ah a b 0 p q k && !Ah u v j a b 1
theorem ev_within (L : Nat) (a b p q k u v j : Int) (s : Sto) (ha : Sm a) (hb : Sm b) (hp : Sm p) (hq : Sm q) (hu : Sm u) (hv : Sm v) :
    m_law_within L [fr a b, ar p q k u v j] s = .ok (.bl (Wi a b p q k u v j)) s := by
  have h1 := ev_ahead L a b p q 0 k s ha hb hp hq
  have h2 := ev_ahead L u v a b j 1 s hu hv ha hb
  simp only [m_law_within, Dq.run, b_law_within, Wi]
  simp [h1, h2]
  generalize Ah a b 0 p q k = P1
  cases P1 <;> simp
/-! gcd, fractions -/
theorem emod_lt {a b : Int} (h : 0 < b) : a % b < b := Int.emod_lt_of_pos a h
theorem ev_gcd_loop (s : Sto) : ∀ (n : Nat) (a b : Int), 0 ≤ a → 0 ≤ b → b < n →
    whR (gT truB (gBin gtD (gVar 1) (gC (.int 0)))) (gPar 0 1 (gCons (gVar 1) (gCons (gBin modD (gB intD (gCons (gVar 0) gNil)) (gVar 1)) gNil))) n [some (.int a), some (.int b)] s = .nx [some (.int (Int.gcd a b)), some (.int 0)] s
  | 0, a, b, _, h0, h => by omega
  | n + 1, a, b, ha, hb, h => by
    rw [whR]
    by_cases z : b = 0
    · subst z
      simp
      omega
    · have bp : 0 < b := by omega
      have e : a.fmod b = a % b := Int.fmod_eq_emod_of_nonneg a hb
      have ih := ev_gcd_loop s n b (a % b) hb (Int.emod_nonneg a z) (by have := emod_lt (a := a) bp; omega)
      have g : Int.gcd b (a % b) = Int.gcd a b := by
        have q : a = a % b + a / b * b := by have := Int.mul_ediv_add_emod a b; grind
        calc Int.gcd b (a % b) = Int.gcd b (a % b + a / b * b) := (Int.gcd_add_mul_right_right ..).symm
          _ = Int.gcd a b := by rw [← q, Int.gcd_comm]
      rw [g] at ih
      simp [bp, modD_of z, e]
      exact ih
theorem ev_gcd (L : Nat) (a b : Int) (s : Sto) (ha : 0 ≤ a) (hb : 0 ≤ b) (hL : b < L) : m_law_gcd L [.int a, .int b] s = .ok (.int (Int.gcd a b)) s := by
  simp only [m_law_gcd, Dq.run, b_law_gcd]
  have := ev_gcd_loop s L a b ha hb hL
  simp [-Dq.gCons, -gT, -gPar, this]
theorem fdiv_mul {g n : Int} (h : g ≠ 0) : (g * n).fdiv g = n := Int.mul_fdiv_cancel_left n h
/-- a fraction in lowest terms and its size -/
structure Fr (n d a b : Int) : Prop where
  p : 0 < d
  g : Int.gcd n d = 1
  e : n * b = a * d
  n : n.natAbs ≤ a.natAbs
  d : d.natAbs ≤ b.natAbs
theorem low_terms {a b : Int} (hb : b ≠ 0) : ∃ n0 d0 : Int, a = Int.gcd a b * n0 ∧ b = Int.gcd a b * d0 ∧ Int.gcd n0 d0 = 1 ∧ n0.natAbs ≤ a.natAbs ∧ d0.natAbs ≤ b.natAbs ∧ 0 < Int.gcd a b ∧ Int.gcd a b ≤ b.natAbs := by
  have g0 : 0 < Int.gcd a b := Int.gcd_pos_of_ne_zero_right a hb
  obtain ⟨n0, hn⟩ := Int.gcd_dvd_left a b
  obtain ⟨d0, hd⟩ := Int.gcd_dvd_right a b
  refine ⟨n0, d0, hn, hd, ?_, ?_, ?_, g0, Nat.le_of_dvd (by omega) (Int.natAbs_dvd_natAbs.mpr (Int.gcd_dvd_right a b))⟩
  · have : Int.gcd a b = Int.gcd a b * Int.gcd n0 d0 := by
      have e := Int.gcd_mul_left (Int.gcd a b) n0 d0
      rw [← hn, ← hd, Int.natAbs_natCast] at e
      exact e
    exact Nat.eq_of_mul_eq_mul_left g0 (by omega)
  · have : a.natAbs = Int.gcd a b * n0.natAbs := by
      have e := congrArg Int.natAbs hn
      rw [Int.natAbs_mul, Int.natAbs_natCast] at e
      exact e
    have := Nat.le_mul_of_pos_left n0.natAbs g0
    omega
  · have : b.natAbs = Int.gcd a b * d0.natAbs := by
      have e := congrArg Int.natAbs hd
      rw [Int.natAbs_mul, Int.natAbs_natCast] at e
      exact e
    have := Nat.le_mul_of_pos_left d0.natAbs g0
    omega
theorem ev_frac (L : Nat) (a b : Int) (s : Sto) (hb : b ≠ 0) (hs : Sm b) (hL : (b.natAbs : Int) < L) : ∃ n d, m_law_frac L [.int a, .int b] s = .ok (fr n d) s ∧ Fr n d a b := by
  obtain ⟨n0, d0, hn, hd, hg, b1, b2, g0, g1⟩ := low_terms (a := a) hb
  have ab : ∀ x : Int, (if x < 0 then -x else x) = (x.natAbs : Int) := fun x => by split <;> omega
  have h1 := ev_gcd L a.natAbs b.natAbs s (by omega) (by omega) hL
  rw [show Int.gcd (a.natAbs : Int) (b.natAbs : Int) = Int.gcd a b from by simp only [Int.gcd, Int.natAbs_natCast]] at h1
  have gs : Sm (Int.gcd a b : Int) := by
    show Int.natAbs _ < _
    rw [Int.natAbs_natCast]
    exact Nat.lt_of_le_of_lt g1 hs
  generalize Int.gcd a b = g at *
  by_cases p : 0 < b
  · have gz : (g : Int) ≠ 0 := by omega
    refine ⟨n0, d0, ?_, ?_, hg, ?_, b1, b2⟩
    · simp only [m_law_frac, Dq.run, b_law_frac]
      have x1 : a.fdiv (g : Int) = n0 := by rw [hn]; exact fdiv_mul gz
      have x2 : b.fdiv (g : Int) = d0 := by rw [hd]; exact fdiv_mul gz
      simp [ab, h1, p, fdivD_of gz gs, x1, x2]
    · rw [hd] at p
      exact Int.pos_of_mul_pos_right p (by omega)
    · rw [hn, hd]; grind
  · have gz : (0 - (g : Int)) ≠ 0 := by omega
    have gs' : Sm (0 - (g : Int)) := by rw [Int.zero_sub]; exact gs.neg
    refine ⟨-n0, -d0, ?_, ?_, by simpa using hg, ?_, by omega, by omega⟩
    · simp only [m_law_frac, Dq.run, b_law_frac]
      have x1 : a.fdiv (0 - (g : Int)) = -n0 := by
        rw [hn, show (g : Int) * n0 = (0 - (g : Int)) * (-n0) from by grind]; exact fdiv_mul gz
      have x2 : b.fdiv (0 - (g : Int)) = -d0 := by
        rw [hd, show (g : Int) * d0 = (0 - (g : Int)) * (-d0) from by grind]; exact fdiv_mul gz
      simp only [Int.zero_sub] at gz gs' x1 x2
      simp [ab, h1, p, fdivD_of gz gs', x1, x2]
    · have : (g : Int) * d0 < 0 := by rw [← hd]; omega
      have : 0 < (g : Int) * (-d0) := by rw [Int.mul_neg]; omega
      exact Int.pos_of_mul_pos_right this (by omega)
    · rw [hn, hd]; grind
/-! ratios -/
@[simp] theorem fct3 : fc__top 3 = true := rfl
@[simp] theorem fcb3 : fc__bottom 3 = true := rfl
@[simp] theorem fcl4 : fc__low 4 = true := rfl
@[simp] theorem fch4 : fc__high 4 = true := rfl
@[simp] theorem fchl4 : fc__has_low 4 = true := rfl
@[simp] theorem fchh4 : fc__has_high 4 = true := rfl
@[simp] theorem isi_rat (n d : DV) (s : Sto) : isiD isi_Ratio (.ins 3 [0, 1] [n, d]) s = .ok (.bl true) s := rfl
@[simp] theorem isi_int_int (n : Int) (s : Sto) : isiD isi_int (.int n) s = .ok (.bl true) s := rfl
@[simp] theorem isi_bool_int (n : Int) (s : Sto) : isiD isi_bool (.int n) s = .ok (.bl false) s := rfl
theorem ev_isnum (L : Nat) (n : Int) (s : Sto) : m_is_number L [.int n] s = .ok (.bl true) s := by
  simp [m_is_number, Dq.run, b_is_number]
@[simp] theorem ev_top (L : Nat) (n d : Int) (s : Sto) : m_Ratio_top L [rat n d] s = .ok (.int n) s := by
  simp [m_Ratio_top, Dq.run, b_Ratio_top]
@[simp] theorem ev_bottom (L : Nat) (n d : Int) (s : Sto) : m_Ratio_bottom L [rat n d] s = .ok (.int d) s := by
  simp [m_Ratio_bottom, Dq.run, b_Ratio_bottom]
theorem ev_rinit (L : Nat) (n d : Int) (s : Sto) (p : 0 < d) (g : Int.gcd n d = 1) : m_Ratiodd_initdd L [.mr s.length, .int n, .int d] (s ++ [some (.ins 3 [] [])]) = .ok .non (s ++ [some (.ins 3 [0, 1] [.int n, .int d])]) := by
  have z : ¬ d = 0 := by omega
  have z2 : ¬ d < 0 := by omega
  have e1 : ∀ x : Int, x.fdiv 1 = x := fun x => by simp
  have f1 : ∀ (x : Int) (s : Sto), fdivD (.int x) (.int 1) s = .ok (.int x) s := fun x s => by
    rw [fdivD_of (by decide) (Sm.of (k := 8) (by decide)), e1]
  simp [m_Ratiodd_initdd, Dq.run, b_Ratiodd_initdd, ev_isnum, eqD_int, z, z2, g, f1]
theorem ev_rmake (L : Nat) (n d : Int) (s : Sto) (p : 0 < d) (g : Int.gcd n d = 1) : makeD false 3 (m_Ratiodd_initdd L) [.int n, .int d] s = .ok (rat n d) s :=
  makeD_ins (ev_rinit L n d s p g) rfl
@[simp] theorem selTop (L : Nat) : sel_top_Ratio L 3 = some (m_Ratio_top L) := rfl
@[simp] theorem selBot (L : Nat) : sel_bottom_Ratio L 3 = some (m_Ratio_bottom L) := rfl
@[simp] theorem selBel (L : Nat) : sel_is_below_Ratio L 3 = some (m_Ratio_is_below L) := rfl
@[simp] theorem selEq (L : Nat) : sel_eq_op_Ratio L 3 = some (m_Ratiodd_eqdd L) := rfl
@[simp] theorem selNeg (L : Nat) : sel_neg_op_Ratio L 3 = some (m_Ratiodd_negdd L) := rfl
@[simp] theorem selLow (L : Nat) : sel_low_Span L 4 = some (m_Span_low L) := rfl
@[simp] theorem selHigh (L : Nat) : sel_high_Span L 4 = some (m_Span_high L) := rfl
@[simp] theorem selHl (L : Nat) : sel_has_low_Span L 4 = some (m_Span_has_low L) := rfl
@[simp] theorem selHh (L : Nat) : sel_has_high_Span L 4 = some (m_Span_has_high L) := rfl
@[simp] theorem selIn (L : Nat) : sel_contains_op_Span L 4 = some (m_Spandd_containsdd L) := rfl
@[simp] theorem selSi (L : Nat) : sel_simplest_Span L 4 = some (m_Span_simplest L) := rfl
theorem ev_below (L : Nat) (a b c d : Int) (s : Sto) (ha : Sm a) (hb : Sm b) (hc : Sm c) (hd : Sm d) : m_Ratio_is_below L [rat a b, rat c d] s = .ok (.bl (decide (a * d < c * b))) s := by
  simp [m_Ratio_is_below, Dq.run, b_Ratio_is_below, mulD_of, ha, hb, hc, hd]
theorem ev_req (L : Nat) (a b c d : Int) (s : Sto) : m_Ratiodd_eqdd L [rat a b, rat c d] s = .ok (.bl (decide (a = c) && decide (b = d))) s := by
  simp [m_Ratiodd_eqdd, Dq.run, b_Ratiodd_eqdd, eqD_int]
  generalize decide (a = c) = P2
  cases P2 <;> simp
theorem gcd_neg1 {n d : Int} (g : Int.gcd n d = 1) : Int.gcd (-n) d = 1 := by simpa using g
theorem ev_rneg (L : Nat) (n d : Int) (s : Sto) (p : 0 < d) (g : Int.gcd n d = 1) : m_Ratiodd_negdd L [rat n d] s = .ok (rat (-n) d) s := by
  have := ev_rmake L (-n) d s p (gcd_neg1 g)
  simp [m_Ratiodd_negdd, Dq.run, b_Ratiodd_negdd, this]
theorem ev_lratio (L : Nat) (n d : Int) (s : Sto) (p : 0 < d) (g : Int.gcd n d = 1) : m_law_ratio L [fr n d] s = .ok (rat n d) s := by
  have := ev_rmake L n d s p g
  simp [m_law_ratio, Dq.run, b_law_ratio, this]
theorem ev_lof (L : Nat) (n d : Int) (s : Sto) : m_law_of_ratio L [rat n d] s = .ok (fr n d) s := by
  simp [m_law_of_ratio, Dq.run, b_law_of_ratio]
@[simp] theorem ev_slow (L : Nat) (a b c d : Int) (l h : Bool) (s : Sto) : m_Span_low L [spn a b c d l h] s = .ok (rat a b) s := by
  simp [m_Span_low, Dq.run, b_Span_low]
@[simp] theorem ev_shigh (L : Nat) (a b c d : Int) (l h : Bool) (s : Sto) : m_Span_high L [spn a b c d l h] s = .ok (rat c d) s := by
  simp [m_Span_high, Dq.run, b_Span_high]
@[simp] theorem ev_shl (L : Nat) (a b c d : Int) (l h : Bool) (s : Sto) : m_Span_has_low L [spn a b c d l h] s = .ok (.bl l) s := by
  simp [m_Span_has_low, Dq.run, b_Span_has_low]
@[simp] theorem ev_shh (L : Nat) (a b c d : Int) (l h : Bool) (s : Sto) : m_Span_has_high L [spn a b c d l h] s = .ok (.bl h) s := by
  simp [m_Span_has_high, Dq.run, b_Span_has_high]
/-- ends that may be a span's -/
def Ends4 (a b c d : Int) (l h : Bool) : Prop := a * d < c * b ∨ ((a = c ∧ b = d) ∧ l = true ∧ h = true)
theorem ev_ends (L : Nat) (a b c d : Int) (l h : Bool) (s : Sto) (ha : Sm a) (hb : Sm b) (hc : Sm c) (hd : Sm d) (e : Ends4 a b c d l h) : m_are_ends L [rat a b, rat c d, .bl l, .bl h] s = .ok (.bl true) s := by
  have h1 := ev_below L a b c d s ha hb hc hd
  have h2 := ev_req L a b c d s
  rcases e with e | ⟨⟨e1, e2⟩, rfl, rfl⟩
  · simp [m_are_ends, Dq.run, b_are_ends, h1, h2, e]
  · subst e1 e2
    simp [m_are_ends, Dq.run, b_are_ends, h1, h2]
theorem ev_sinit (L : Nat) (a b c d : Int) (l h : Bool) (s : Sto) (ha : Sm a) (hb : Sm b) (hc : Sm c) (hd : Sm d) (e : Ends4 a b c d l h) :
    m_Spandd_initdd L [.mr s.length, rat a b, rat c d, .bl l, .bl h] (s ++ [some (.ins 4 [] [])]) = .ok .non (s ++ [some (.ins 4 [2, 3, 4, 5] [rat a b, rat c d, .bl l, .bl h])]) := by
  have h1 := ev_ends L a b c d l h (s ++ [some (.ins 4 [] [])]) ha hb hc hd e
  simp [m_Spandd_initdd, Dq.run, b_Spandd_initdd, h1]
theorem ev_smake (L : Nat) (a b c d : Int) (l h : Bool) (s : Sto) (ha : Sm a) (hb : Sm b) (hc : Sm c) (hd : Sm d) (e : Ends4 a b c d l h) : makeD false 4 (m_Spandd_initdd L) [rat a b, rat c d, .bl l, .bl h] s = .ok (spn a b c d l h) s :=
  makeD_ins (ev_sinit L a b c d l h s ha hb hc hd e) rfl
theorem ev_made (L : Nat) (a b k c d j : Int) (s : Sto) (ha : Sm a) (hb : Sm b) (hc : Sm c) (hd : Sm d) (p : 0 < b) (g : Int.gcd a b = 1) (p2 : 0 < d) (g2 : Int.gcd c d = 1)
    (e : Ends4 a b c d (decide (k = 0)) (decide (j = 1))) : m_law_made_span L [ar a b k c d j] s = .ok (spn a b c d (decide (k = 0)) (decide (j = 1))) s := by
  have h1 := ev_lratio L a b s p g
  have h2 := ev_lratio L c d s p2 g2
  have h3 := ev_smake L a b c d _ _ s ha hb hc hd e
  simp [m_law_made_span, Dq.run, b_law_made_span, h1, h2, eqD_int, mix_Spandd_initdd_k2_has_low_has_high, h3]
/-- membership as the program tells it -/
def Mem (a b c d : Int) (l h : Bool) (n m : Int) : Bool := (decide (a * m < n * b) || (l && (decide (a = n) && decide (b = m)))) && (decide (n * d < c * m) || (h && (decide (c = n) && decide (d = m))))
theorem ev_in (L : Nat) (a b c d : Int) (l h : Bool) (n m : Int) (s : Sto) (ha : Sm a) (hb : Sm b) (hc : Sm c) (hd : Sm d) (hn : Sm n) (hm : Sm m) :
    m_Spandd_containsdd L [spn a b c d l h, rat n m] s = .ok (.bl (Mem a b c d l h n m)) s := by
  have h1 := ev_below L a b n m s ha hb hn hm
  have h2 := ev_below L n m c d s hn hm hc hd
  have h3 := ev_req L a b n m s
  have h4 := ev_req L c d n m s
  unfold Mem
  generalize decide (a * m < n * b) = P1 at *
  generalize (decide (a = n) && decide (b = m)) = Q1 at *
  generalize decide (n * d < c * m) = P2 at *
  generalize (decide (c = n) && decide (d = m)) = Q2 at *
  simp only [m_Spandd_containsdd, Dq.run, b_Spandd_containsdd]
  cases P1 <;> cases Q1 <;> cases l <;> simp [h1, h2, h3, h4] <;> cases P2 <;> cases h <;> simp

end Row

namespace Row
open PySem PySem.Spec PyProof.Rows L2 Dq
theorem forR_two {b : DV → GS} (nb : ∀ d ρ s ρ' s', b d ρ s ≠ .bk ρ' s') {ys : List DV} : ∀ {xs : List DV} {ρ ρ1 : En} {s s1 : Sto}, forR b xs ρ s = .nx ρ1 s1 → forR b (xs ++ ys) ρ s = forR b ys ρ1 s1
  | [], ρ, ρ1, s, s1, h => by
    rw [forR] at h
    cases h
    rfl
  | x :: xs, ρ, ρ1, s, s1, h => by
    rw [forR] at h
    rw [List.cons_append, forR]
    split at h
    · exact forR_two nb h
    · exact forR_two nb h
    · rename_i e
      exact absurd e (nb _ _ _ _ _)
    · rename_i e1 e2 e3
      exact absurd h (e1 _ _)
abbrev ubody : GS := gPar 3 4 (gCons (gBin addD (gBin mulD (gVar 2) (gVar 3)) (gVar 4)) (gCons (gVar 3) gNil))
theorem ubody_nb : ∀ d ρ s ρ' s', turn (tN 2) ubody d ρ s ≠ .bk ρ' s' := by
  intro d ρ s ρ' s' h
  simp only [turn, tN, ubody, gPar] at h
  cases e : Dq.gCons (gBin addD (gBin mulD (gVar 2) (gVar 3)) (gVar 4)) (Dq.gCons (gVar 3) gNil) (ρ.set 2 (some d)) s with
  | ok l s1 =>
    rw [e] at h
    simp only [R.toS_ok] at h
    split at h <;> cases h
  | exc _ _ _ _ => rw [e] at h; cases h
  | bad => rw [e] at h; cases h
theorem ev_uloop (M : Int) (hM : Sm M) (w : Int) (x0 x1 : Option DV) (s : Sto) : ∀ (fl : List Int) (x2 : Option DV), N05.OKU M fl w →
    ∃ x3, forR (turn (tN 2) ubody) (fl.map DV.int).reverse [x0, x1, x2, some (.int w), some (.int 1)] s = .nx [x0, x1, x3, some (.int (N05.cfv fl w).1), some (.int (N05.cfv fl w).2)] s
  | [], x2, _ => ⟨x2, rfl⟩
  | f :: fl, x2, h => by
    obtain ⟨h1, h2, h3, h4, h5⟩ := h
    obtain ⟨x3, ih⟩ := ev_uloop M hM w x0 x1 s fl x2 h5
    refine ⟨some (.int f), ?_⟩
    rw [List.map_cons, List.reverse_cons, forR_two ubody_nb ih]
    have sf : Sm f := by unfold Sm at *; omega
    have st : Sm (N05.cfv fl w).1 := by unfold Sm at *; omega
    simp [forR, turn, ubody, mulD_of sf st, N05.cfv]
theorem ev_unf (L : Nat) (M : Int) (hM : Sm M) (k : Nat) (fl : List Int) (w a b : Int) (s : Sto) (hs : s[k]? = some (some (.lst (fl.map DV.int)))) (ho : N05.OKU M fl w) (hv : N05.cfv fl w = (a, b)) (p : 0 < b) (g : Int.gcd a b = 1) :
    m_unfolded L [.mr k, .int w] s = .ok (rat a b) s := by
  obtain ⟨x3, h⟩ := ev_uloop M hM w (some (.mr k)) (some (.int w)) s fl none ho
  rw [hv] at h
  have h2 := ev_rmake L a b s p g
  have hr : revD (.mr k) s = .ok (.lst (fl.map DV.int).reverse) s := by
    simp [revD, hs]
  simp only [m_unfolded, Dq.run, b_unfolded]
  simp [-List.map_reverse, hr, h, h2]
abbrev sbody (L : Nat) : GS :=
 (gSeq (gAsg (gB divmodD (gCons (gVar 2) (gCons (gVar 3) gNil))) (tTup 2 (tCons (tN 9) (tCons (tN 10) tNil))))
 (gSeq (gSet 8 (gIf (gAnd (gT truB (gBin eqD (gVar 10) (gC (.int 0)))) (gT truD (gVar 6))) (gVar 9) (gBin addD (gVar 9) (gC (.int 1)))))
 (gSeq (gIfS (gOr (gT truB (gBin ltD (gBin mulD (gVar 8) (gVar 5)) (gVar 4))) (gAnd (gT truB (gBin eqD (gBin mulD (gVar 8) (gVar 5)) (gVar 4))) (gT truD (gVar 7))))
 (gRet (gCall (m_unfolded L) [] (gCons (gVar 1) (gCons (gVar 8) gNil))))
 gNext)
 (gSeq (gExpr (gApp (gVar 1) (gVar 9)))
 (gSeq (gAsg (gTup (gCons (gVar 5) (gCons (gBin subD (gVar 4) (gBin mulD (gVar 9) (gVar 5))) (gCons (gVar 3) (gCons (gVar 10) gNil))))) (tTup 4 (tCons (tN 2) (tCons (tN 3) (tCons (tN 4) (tCons (tN 5) tNil))))))
 (gPar 6 7 (gCons (gVar 7) (gCons (gVar 6) gNil))))))))
@[simp] theorem tup4_ok : (4 : Nat) ≤ sizeLine := by decide
theorem divmod_of {i j : Int} (h : 0 < j) (hj : Sm j) (s : Sto) : divmodD [.int i, .int j] s = .ok (.tup [.int (i / j), .int (i % j)]) s := by
  show okIf _ _ s = _
  refine okIf_of ?_ _ s
  have b := log2_lt hj (by decide)
  simp only [Bool.and_eq_true, decide_eq_true_eq]
  omega
theorem Sm.ab {x : Int} (h0 : 0 ≤ x) {y : Int} (hy : Sm y) (h : x ≤ y) : Sm x := by unfold Sm at *; omega
theorem sb_whole (lt lb ht hb : Int) (hl hh : Bool) (x0 x1 x8 x9 x10 : Option DV) (S : Sto) (slb : Sm lb) (h2 : 0 < lb) (L : Nat) :
    sbody L [x0, x1, some (.int lt), some (.int lb), some (.int ht), some (.int hb), some (.bl hl), some (.bl hh), x8, x9, x10] S =
    (gSeq (gIfS (gOr (gT truB (gBin ltD (gBin mulD (gVar 8) (gVar 5)) (gVar 4))) (gAnd (gT truB (gBin eqD (gBin mulD (gVar 8) (gVar 5)) (gVar 4))) (gT truD (gVar 7))))
 (gRet (gCall (m_unfolded L) [] (gCons (gVar 1) (gCons (gVar 8) gNil))))
 gNext)
 (gSeq (gExpr (gApp (gVar 1) (gVar 9)))
 (gSeq (gAsg (gTup (gCons (gVar 5) (gCons (gBin subD (gVar 4) (gBin mulD (gVar 9) (gVar 5))) (gCons (gVar 3) (gCons (gVar 10) gNil))))) (tTup 4 (tCons (tN 2) (tCons (tN 3) (tCons (tN 4) (tCons (tN 5) tNil))))))
 (gPar 6 7 (gCons (gVar 7) (gCons (gVar 6) gNil)))))) [x0, x1, some (.int lt), some (.int lb), some (.int ht), some (.int hb), some (.bl hl), some (.bl hh), some (.int (N05.whole lt lb hl)), some (.int (lt / lb)), some (.int (lt % lb))] S := by
  unfold sbody
  rw [gSeq, gAsg]
  simp only [gB, Dq.gCons, gVar, Dq.gNil, List.getElem?_cons_succ, List.getElem?_cons_zero, R.bind_ok, divmod_of h2 slb, R.toS_ok, Dq.tTup, Dq.tCons, Dq.tN, Dq.tNil, List.set_cons_succ, List.set_cons_zero, Option.bind_some, List.length_cons, List.length_nil, decide_true, RS.seq]
  rw [gSeq, gSet]
  simp only [gIf, gAnd, gT, gBin, gVar, gC, List.getElem?_cons_succ, List.getElem?_cons_zero, R.bind_ok, eqD_int, truB, truD, addD]
  unfold N05.whole
  by_cases z : lt % lb = 0 <;> cases hl <;> simp [z] <;> rfl
theorem sb_stop (lt lb ht hb : Int) (hl hh : Bool) (x0 x8 x9 x10 : Option DV) (k : Nat) (S S2 : Sto) (d : DV) (slb : Sm lb) (h2 : 0 < lb) (L : Nat) (shb : Sm hb) (sw : Sm (N05.whole lt lb hl)) (c : N05.cond lt lb ht hb hl hh = true)
    (hu : m_unfolded L [.mr k, .int (N05.whole lt lb hl)] S = .ok d S2) :
    sbody L [x0, some (.mr k), some (.int lt), some (.int lb), some (.int ht), some (.int hb), some (.bl hl), some (.bl hh), x8, x9, x10] S = .rt d S2 := by
  rw [sb_whole _ _ _ _ _ _ _ _ _ _ _ _ slb h2]
  unfold N05.cond at c
  generalize N05.whole lt lb hl = W at *
  rw [gSeq, gIfS]
  have e1 : mulD (.int W) (.int hb) S = .ok (.int (W * hb)) S := mulD_of sw shb S
  by_cases q : W * hb < ht
  · simp [-gSeq, e1, q, hu, RS.seq]
  · simp only [q, decide_false, Bool.false_or, Bool.and_eq_true, decide_eq_true_eq] at c
    obtain ⟨c1, rfl⟩ := c
    simp [-gSeq, e1, c1, hu, RS.seq, eqD_int]
theorem sb_step (lt lb ht hb : Int) (hl hh : Bool) (x0 x8 x9 x10 : Option DV) (s : Sto) (fs : List Int) (slb : Sm lb) (h2 : 0 < lb) (L : Nat) (shb : Sm hb) (sf : Sm (lt / lb)) (sw : Sm (N05.whole lt lb hl)) (c : N05.cond lt lb ht hb hl hh = false) (hz : fs.length < sizeLine) :
    ∃ y8 y9 y10, sbody L [x0, some (.mr s.length), some (.int lt), some (.int lb), some (.int ht), some (.int hb), some (.bl hl), some (.bl hh), x8, x9, x10] (s ++ [some (.lst (fs.map DV.int))]) =
      .nx [x0, some (.mr s.length), some (.int hb), some (.int (ht - lt / lb * hb)), some (.int lb), some (.int (lt % lb)), some (.bl hh), some (.bl hl), y8, y9, y10] (s ++ [some (.lst ((fs ++ [lt / lb]).map DV.int))]) := by
  refine ⟨some (.int (N05.whole lt lb hl)), some (.int (lt / lb)), some (.int (lt % lb)), ?_⟩
  rw [sb_whole _ _ _ _ _ _ _ _ _ _ _ _ slb h2]
  unfold N05.cond at c
  generalize N05.whole lt lb hl = W at *
  simp only [Bool.or_eq_false_iff, decide_eq_false_iff_not, Bool.and_eq_false_iff] at c
  obtain ⟨c1, c2⟩ := c
  rw [gSeq, gIfS]
  have e1 : ∀ S, mulD (.int W) (.int hb) S = .ok (.int (W * hb)) S := mulD_of sw shb
  have e2 : ∀ S, mulD (.int (lt / lb)) (.int hb) S = .ok (.int (lt / lb * hb)) S := mulD_of sf shb
  have z : (fs.map DV.int).length < sizeLine := by simpa using hz
  have e3 : ((gOr (gT truB (gBin ltD (gBin mulD (gVar 8) (gVar 5)) (gVar 4))) (gAnd (gT truB (gBin eqD (gBin mulD (gVar 8) (gVar 5)) (gVar 4))) (gT truD (gVar 7)))) [x0, some (.mr s.length), some (.int lt), some (.int lb), some (.int ht), some (.int hb), some (.bl hl), some (.bl hh), some (.int W), some (.int (lt / lb)), some (.int (lt % lb))] (s ++ [some (.lst (fs.map DV.int))])) = .ok false (s ++ [some (.lst (fs.map DV.int))]) := by
    rcases c2 with c2 | c2
    · simp [e1, c1, c2, eqD_int]
    · subst c2
      by_cases q : W * hb = ht
      · simp [e1, c1, q, eqD_int]
      · simp [e1, c1, q, eqD_int]
  rw [e3]
  simp [e2, appD, hz]
theorem ev_sloop (L : Nat) (N : Int) (hN : Sm (N + 1)) (s : Sto) (x0 : Option DV) {lt lb ht hb : Int} {hl hh : Bool} {fl : List Int} {w a b : Int} (c : N05.CF lt lb ht hb hl hh fl w a b) :
    0 ≤ lt → 0 < lb → 0 ≤ hb → lt ≤ N → lb ≤ N → hb ≤ N → ∀ (fs : List Int) (n : Nat) (x8 x9 x10 : Option DV) (s2 : Sto) (d : DV), fl.length < n → fs.length + fl.length < sizeLine →
    m_unfolded L [.mr s.length, .int w] (s ++ [some (.lst ((fs ++ fl).map DV.int))]) = .ok d s2 →
    whR (gT truD (gC (.bl true))) (sbody L) n [x0, some (.mr s.length), some (.int lt), some (.int lb), some (.int ht), some (.int hb), some (.bl hl), some (.bl hh), x8, x9, x10] (s ++ [some (.lst (fs.map DV.int))]) = .rt d s2 := by
  have swh : ∀ {lt lb : Int} {hl : Bool}, 0 ≤ lt → 0 < lb → lt ≤ N → Sm (N05.whole lt lb hl) := fun {lt lb hl} h1 h2 b1 => by
    have f0 : 0 ≤ lt / lb := Int.ediv_nonneg h1 (Int.le_of_lt h2)
    have f1 : lt / lb ≤ lt := Int.ediv_le_self _ h1
    refine Sm.ab ?_ hN ?_ <;> unfold N05.whole <;> split <;> omega
  induction c with
  | @stop lt lb ht hb hl hh c =>
    intro h1 h2 h3 b1 b2 b3 fs n x8 x9 x10 s2 d hn hz hu
    cases n with
    | zero => simp at hn
    | succ n =>
      rw [List.append_nil] at hu
      rw [whR]
      have e := sb_stop lt lb ht hb hl hh x0 x8 x9 x10 s.length _ s2 d (Sm.ab (by omega) hN (by omega)) h2 L (Sm.ab (by omega) hN (by omega)) (swh h1 h2 b1) c hu
      simp only [gT, gC, R.bind_ok, truD, R.toS_ok]
      rw [e]
  | @step lt lb ht hb hl hh fl w a b c k1 k2 k3 c2 ih =>
    intro h1 h2 h3 b1 b2 b3 fs n x8 x9 x10 s2 d hn hz hu
    cases n with
    | zero => simp at hn
    | succ n =>
      simp only [List.length_cons] at hn hz
      have f0 : 0 ≤ lt / lb := Int.ediv_nonneg h1 (Int.le_of_lt h2)
      have f1 : lt / lb ≤ lt := Int.ediv_le_self _ h1
      obtain ⟨y8, y9, y10, e⟩ := sb_step lt lb ht hb hl hh x0 x8 x9 x10 s fs (Sm.ab (by omega) hN (by omega)) h2 L (Sm.ab (by omega) hN (by omega)) (Sm.ab f0 hN (by omega)) (swh h1 h2 b1) c (by omega)
      rw [whR]
      simp only [gT, gC, R.bind_ok, truD, R.toS_ok]
      rw [e]
      have r1 := Int.emod_lt_of_pos lt h2
      refine ih h3 k2 (Int.emod_nonneg _ (Int.ne_of_gt h2)) b3 (by omega) (by omega) (fs ++ [lt / lb]) n y8 y9 y10 s2 d (by omega) (by simp; omega) ?_
      rw [List.append_assoc]
      exact hu
/-- enough fuel -/
def Lb : Nat := 2 ^ 5000
theorem frz_rat (m : Nat) (x y : Int) (s : Sto) : frz 12 m (rat x y) s = some (rat x y, s) := rfl
theorem ev_sfz (L : Nat) (hL : Lb ≤ L) (a b c d : Int) (l h : Bool) (s : Sto) (i : N05.Inv a b c d l h) (ha : a.natAbs < 2 ^ 300) (hb : b.natAbs < 2 ^ 300) (hd : d.natAbs < 2 ^ 300) :
    ∃ x y, m_simplest_from_zero L [spn a b c d l h] s = .ok (rat x y) s ∧ N05.In a b c d l h x y ∧ 0 ≤ x ∧ Int.gcd x y = 1 ∧ ∀ p q, N05.In a b c d l h p q → y ≤ q ∧ x ≤ p := by
  obtain ⟨fl, w, x, y, cf, hv, hm, hin, hx, hg, hlen, hmin⟩ := N05.cf_min (b + d).toNat a b c d l h i (by omega)
  have hl2 : fl.length ≤ 2 * 300 := N05.cf_len 300 cf i.h0 (by have := i.h0; omega)
  refine ⟨x, y, ?_, hin, hx, hg, hmin⟩
  have i0 := i.l0
  have i1 := i.b0
  have i2 := i.h0
  have e300 : (2 ^ 300 : Int) = ((2 ^ 300 : Nat) : Int) := by norm_cast
  have sm1 : Sm ((2 ^ 300 : Int) + 1) := by
    refine Sm.of (k := 301) ?_
    rw [e300]
    have : (2 : Nat) ^ 301 = 2 ^ 300 * 2 := Nat.pow_succ ..
    have : 1 < (2 : Nat) ^ 300 := Nat.one_lt_two_pow (by decide)
    omega
  have smM : Sm ((2 ^ 300 : Int) + 2 ^ 300) := by
    refine Sm.of (k := 302) ?_
    rw [e300]
    have : (2 : Nat) ^ 302 = 2 ^ 300 * 4 := by rw [Nat.pow_add 2 300 2]
    have : 1 < (2 : Nat) ^ 300 := Nat.one_lt_two_pow (by decide)
    omega
  have g1 : (1 : Int) < 2 ^ 300 := by
    rw [e300]
    have : 1 < (2 : Nat) ^ 300 := Nat.one_lt_two_pow (by decide)
    omega
  have hu : m_unfolded L [.mr s.length, .int w] (s ++ [some (.lst (fl.map DV.int))]) = .ok (rat x y) (s ++ [some (.lst (fl.map DV.int))]) :=
    ev_unf L _ smM s.length fl w x y _ (by simp) (hm (2 ^ 300 + 2 ^ 300) (by omega) (by omega)) hv hin.p hg
  have hn : fl.length < L := by
    have : 600 < Lb := Nat.lt_of_lt_of_le (show 600 < 2 ^ 10 by decide) (Nat.pow_le_pow_right (by decide) (by decide))
    omega
  have hs : (0 : Nat) + fl.length < sizeLine := by
    have : 600 < sizeLine := by decide
    omega
  have := ev_sloop L (2 ^ 300) sm1 s (some (spn a b c d l h)) cf i0 i1 i2 (by omega) (by omega) (by omega) [] L none none none _ _ hn hs hu
  have hf : RS.fin s (.rt (rat x y) (s ++ [some (.lst (fl.map DV.int))])) = .ok (rat x y) s := fin_app s _ _ _ (frz_rat _ _ _ _) rfl
  simp only [m_simplest_from_zero, Dq.run, b_simplest_from_zero]
  simp [-gT, -gC, -gAsg]
  simp [-gT, -gC, -gAsg] at this
  refine Eq.trans (congrArg (RS.fin s) ?_) hf
  exact this
end Row

namespace Row
open PySem PySem.Spec PyProof.Rows L2 Dq
structure MemP (a b c d : Int) (l h : Bool) (x y : Int) : Prop where
  p : 0 < y
  l : a * y < x * b ∨ (a * y = x * b ∧ l = true)
  h : x * d < c * y ∨ (x * d = c * y ∧ h = true)
theorem MemP.in_ {a b c d : Int} {l h : Bool} {x y : Int} (m : MemP a b c d l h x y) : N05.In a b c d l h x y := ⟨m.p, m.l, m.h⟩
theorem MemP.of {a b c d : Int} {l h : Bool} {x y : Int} (m : N05.In a b c d l h x y) : MemP a b c d l h x y := ⟨m.p, m.l, m.h⟩
theorem MemP.mir {a b c d : Int} {l h : Bool} {x y : Int} (m : MemP a b c d l h x y) : MemP (-c) d (-a) b h l (-x) y := by
  refine ⟨m.p, ?_, ?_⟩
  · rcases m.h with k | ⟨k, q⟩
    · exact .inl (N05.lt_tr k (by grind))
    · exact .inr ⟨N05.eq_tr k.symm (by grind), q⟩
  · rcases m.l with k | ⟨k, q⟩
    · exact .inl (N05.lt_tr k (by grind))
    · exact .inr ⟨N05.eq_tr k.symm (by grind), q⟩
/-- the simplest ratio of a span -/
structure Smp (a b c d : Int) (l h : Bool) (x y : Int) : Prop where
  m : MemP a b c d l h x y
  g : Int.gcd x y = 1
  mn : ∀ p q, MemP a b c d l h p q → y ≤ q ∧ x.natAbs ≤ p.natAbs
theorem Ends4.med {a b c d : Int} {l h : Bool} (e : Ends4 a b c d l h) (hb : 0 < b) (hd : 0 < d) : MemP a b c d l h (a + c) (b + d) := by
  rcases e with e | ⟨⟨rfl, rfl⟩, rfl, rfl⟩
  · exact ⟨by omega, .inl (N05.lt_tr e (by grind)), .inl (N05.lt_tr e (by grind))⟩
  · exact ⟨by omega, .inr ⟨by grind, rfl⟩, .inr ⟨by grind, rfl⟩⟩
theorem Sm.of300 {x : Int} (h : x.natAbs < 2 ^ 300) : Sm x := Sm.of h
theorem ev_simp (L : Nat) (hL : Lb ≤ L) (a b c d : Int) (l h : Bool) (s : Sto) (e : Ends4 a b c d l h) (hb : 0 < b) (hd : 0 < d) (ga : Int.gcd a b = 1) (gc : Int.gcd c d = 1)
    (sa : a.natAbs < 2 ^ 300) (sb : b.natAbs < 2 ^ 300) (sc : c.natAbs < 2 ^ 300) (sd : d.natAbs < 2 ^ 300) :
    ∃ x y, m_Span_simplest L [spn a b c d l h] s = .ok (rat x y) s ∧ Smp a b c d l h x y := by
  have Sa := Sm.of300 sa
  have Sb := Sm.of300 sb
  have Sc := Sm.of300 sc
  have Sd := Sm.of300 sd
  have z1 : makeD false 3 (m_Ratiodd_initdd L) [.int 0, .int 1] s = .ok (rat 0 1) s := ev_rmake L 0 1 s (by decide) (by decide)
  have s0 : Sm 0 := Sm.of (k := 8) (by decide)
  have s1 : Sm 1 := Sm.of (k := 8) (by decide)
  have z2 := ev_in L a b c d l h 0 1 s Sa Sb Sc Sd s0 s1
  have z3 := ev_below L 0 1 c d s s0 s1 Sc Sd
  by_cases k : Mem a b c d l h 0 1 = true
  · refine ⟨0, 1, ?_, ⟨⟨by decide, ?_, ?_⟩, by decide, fun p q m => ⟨m.p, by simp⟩⟩⟩
    · simp only [m_Span_simplest, Dq.run, b_Span_simplest]
      simp [z1, z2, k]
    · unfold Mem at k
      simp only [Bool.and_eq_true, Bool.or_eq_true, decide_eq_true_eq] at k
      rcases k.1 with k | ⟨k1, k2, k3⟩
      · exact .inl k
      · subst k2; exact .inr ⟨by simp, k1⟩
    · unfold Mem at k
      simp only [Bool.and_eq_true, Bool.or_eq_true, decide_eq_true_eq] at k
      rcases k.2 with k | ⟨k1, k2, k3⟩
      · exact .inl k
      · subst k2; exact .inr ⟨by simp, k1⟩
  · have kf : Mem a b c d l h 0 1 = false := by simpa using k
    by_cases k2 : 0 < c
    · have a0 : 0 ≤ a := by
        unfold Mem at kf
        simp only [Int.zero_mul, Int.mul_one, k2, decide_true, Bool.true_or, Bool.and_true, Bool.or_eq_false_iff, decide_eq_false_iff_not] at kf
        omega
      have i : N05.Inv a b c d l h := ⟨a0, hb, Int.le_of_lt hd, by
        rcases e with e | ⟨⟨rfl, rfl⟩, q1, q2⟩
        · exact .inl e
        · exact .inr ⟨rfl, q1, q2, hd⟩⟩
      obtain ⟨x, y, ev, hin, hx, hg, hmin⟩ := ev_sfz L hL a b c d l h s i sa sb sd
      refine ⟨x, y, ?_, ⟨.of hin, hg, fun p q m => ?_⟩⟩
      · simp only [m_Span_simplest, Dq.run, b_Span_simplest]
        have z3' : m_Ratio_is_below L [rat 0 1, rat c d] s = .ok (.bl true) s := by rw [z3]; simp [k2]
        simp [z1, z2, kf, z3', ev]
      · obtain ⟨m1, m2⟩ := hmin p q m.in_
        exact ⟨m1, by omega⟩
    · have i : N05.Inv (-c) d (-a) b h l := ⟨by omega, hd, Int.le_of_lt hb, by
        rcases e with e | ⟨⟨rfl, rfl⟩, q1, q2⟩
        · exact .inl (N05.lt_tr e (by grind))
        · exact .inr ⟨rfl, q2, q1, hb⟩⟩
      have e' : Ends4 (-c) d (-a) b h l := by
        rcases e with e | ⟨⟨rfl, rfl⟩, q1, q2⟩
        · exact .inl (N05.lt_tr e (by grind))
        · exact .inr ⟨⟨rfl, rfl⟩, q2, q1⟩
      obtain ⟨x, y, ev, hin, hx, hg, hmin⟩ := ev_sfz L hL (-c) d (-a) b h l s i (by omega) sd sb
      refine ⟨-x, y, ?_, ⟨?_, gcd_neg1 hg, fun p q m => ?_⟩⟩
      · simp only [m_Span_simplest, Dq.run, b_Span_simplest]
        have z3' : m_Ratio_is_below L [rat 0 1, rat c d] s = .ok (.bl false) s := by rw [z3]; simp; omega
        have n1 := ev_rneg L c d s hd gc
        have n2 := ev_rneg L a b s hb ga
        have n3 := ev_smake L (-c) d (-a) b h l s Sc.neg Sd Sa.neg Sb e'
        have n4 := ev_rneg L x y s hin.p hg
        simp [z1, z2, kf, z3', n1, n2, mix_Spandd_initdd_k2_has_low_has_high, n3, ev, n4]
      · have := (MemP.of hin).mir
        simpa using this
      · obtain ⟨m1, m2⟩ := hmin (-p) q m.mir.in_
        exact ⟨m1, by omega⟩
end Row

namespace Row
open PySem PySem.Spec PyProof.Rows L2 Dq
abbrev bag (c : List DV) (i r sd ct : Int) : Sto := [some (.lst [.lst c, .int i, .int r, .int sd, .int ct])]
structure BagV (k : Nat) (c : List DV) (i r sd ct : Int) : Prop where
  c : ∃ ns : List Int, c = ns.map DV.int
  i0 : 0 ≤ i
  r0 : 0 ≤ r
  s0 : 0 ≤ sd
  s1 : sd < 2147483648
  t0 : 0 ≤ ct
  t1 : ct ≤ k
def BagOk (k : Nat) (s : Sto) : Prop := ∃ c i r sd ct, s = bag c i r sd ct ∧ BagV k c i r sd ct
theorem BagOk.mono {k j : Nat} {s : Sto} (h : BagOk k s) (l : k ≤ j) : BagOk j s := by
  obtain ⟨c, i, r, sd, ct, e, v⟩ := h
  exact ⟨c, i, r, sd, ct, e, ⟨v.c, v.i0, v.r0, v.s0, v.s1, v.t0, by have := v.t1; omega⟩⟩
section
variable (a b c d e : DV)
@[simp] theorem bx0 : ixD (.mr 0) (.int 0) [some (.lst [a, b, c, d, e])] = .ok a [some (.lst [a, b, c, d, e])] := rfl
@[simp] theorem bx1 : ixD (.mr 0) (.int 1) [some (.lst [a, b, c, d, e])] = .ok b [some (.lst [a, b, c, d, e])] := rfl
@[simp] theorem bx2 : ixD (.mr 0) (.int 2) [some (.lst [a, b, c, d, e])] = .ok c [some (.lst [a, b, c, d, e])] := rfl
@[simp] theorem bx3 : ixD (.mr 0) (.int 3) [some (.lst [a, b, c, d, e])] = .ok d [some (.lst [a, b, c, d, e])] := rfl
@[simp] theorem bx4 : ixD (.mr 0) (.int 4) [some (.lst [a, b, c, d, e])] = .ok e [some (.lst [a, b, c, d, e])] := rfl
variable (x : DV)
@[simp] theorem bs1 : setD (.mr 0) (.int 1) x [some (.lst [a, b, c, d, e])] = some [some (.lst [a, x, c, d, e])] := rfl
@[simp] theorem bs2 : setD (.mr 0) (.int 2) x [some (.lst [a, b, c, d, e])] = some [some (.lst [a, b, x, d, e])] := rfl
@[simp] theorem bs3 : setD (.mr 0) (.int 3) x [some (.lst [a, b, c, d, e])] = some [some (.lst [a, b, c, x, e])] := rfl
@[simp] theorem bs4 : setD (.mr 0) (.int 4) x [some (.lst [a, b, c, d, e])] = some [some (.lst [a, b, c, d, x])] := rfl
end
@[simp] theorem lenD_lst (xs : List DV) (s : Sto) : lenD [.lst xs] s = .ok (.int xs.length) s := rfl
theorem fmod_pos {a b : Int} (h : 0 < b) : a.fmod b = a % b := Int.fmod_eq_emod_of_nonneg a (Int.le_of_lt h)
theorem fdiv_pos {a b : Int} (h : 0 < b) : a.fdiv b = a / b := Int.fdiv_eq_ediv_of_nonneg a (Int.le_of_lt h)
theorem Sm.n {x : Int} (h : x.natAbs < 2 ^ 64) : Sm x := Sm.of h
@[simp] theorem pow18 (s : Sto) : powD (.int 10) (.int 18) s = .ok (.int 1000000000000000000) s := rfl
/-- the first part of a pull -/
abbrev pull1 : GS := (gIfS (gAnd (gT truB (gBin eqD (gBin ixD (gVar 0) (gC (.int 2))) (gC (.int 0)))) (gT truB (gBin ltD (gBin ixD (gVar 0) (gC (.int 1))) (gB lenD (gCons (gBin ixD (gVar 0) (gC (.int 0))) gNil)))))
 (gSeq (gSet 3 (gBin ixD (gBin ixD (gVar 0) (gC (.int 0))) (gBin ixD (gVar 0) (gC (.int 1)))))
 (gSeq (gSetI (gBin addD (gBin ixD (gVar 0) (gC (.int 1))) (gC (.int 1))) (gVar 0) (gC (.int 1)))
 (gIfS (gT truB (gBin geD (gVar 3) (gBin powD (gC (.int 10)) (gC (.int 18)))))
 (gSetI (gVar 3) (gVar 0) (gC (.int 2)))
 (gSetI (gBin modD (gB intD (gCons (gBin addD (gBin addD (gBin mulD (gBin ixD (gVar 0) (gC (.int 3))) (gC (.int 40237))) (gBin mulD (gBin modD (gB intD (gCons (gVar 3) gNil)) (gC (.int 2147483489))) (gC (.int 6581)))) (gC (.int 37))) gNil)) (gC (.int 2147483629))) (gVar 0) (gC (.int 3))))))
 gNext)
theorem ev_pull1 (k : Nat) (m : DV) (s : Sto) (h : BagOk k s) : ∃ x3 s', pull1 [some (.mr 0), some m, none, none, none] s = .nx [some (.mr 0), some m, none, x3, none] s' ∧ BagOk k s' := by
  obtain ⟨c, i, r, sd, ct, rfl, v⟩ := h
  obtain ⟨ns, rfl⟩ := v.c
  by_cases q : r = 0
  · by_cases q2 : i < ns.length
    · have hl : i.toNat < ns.length := by have := v.i0; omega
      have e1 : ∀ s, ixD (.lst (ns.map DV.int)) (.int i) s = .ok (.int ns[i.toNat]) s := fun s => ixD_seq (xs := ns.map DV.int) rfl (fun z h => nomatch h) v.i0 (by simp [hl])
      generalize ns[i.toNat] = cell at e1
      by_cases q3 : 1000000000000000000 ≤ cell
      · refine ⟨some (.int cell), bag (ns.map DV.int) (i + 1) cell sd ct, ?_, _, _, _, _, _, rfl, ⟨ns, rfl⟩, by have := v.i0; omega, by omega, v.s0, v.s1, v.t0, v.t1⟩
        simp only [pull1, bag]
        simp [q, q2, eqD_int, e1, q3]
      · have m1 : ∀ s, modD (.int cell) (.int 2147483489) s = .ok (.int (cell % 2147483489)) s := fun s => by rw [modD_of (by decide), fmod_pos (by decide)]
        have m2 : ∀ x s, modD (.int x) (.int 2147483629) s = .ok (.int (x % 2147483629)) s := fun x s => by rw [modD_of (by decide), fmod_pos (by decide)]
        have a1 : ∀ s, mulD (.int sd) (.int 40237) s = .ok (.int (sd * 40237)) s := mulD_of (Sm.n (by have := v.s0; have := v.s1; omega)) (Sm.n (by decide))
        have a2 : ∀ s, mulD (.int (cell % 2147483489)) (.int 6581) s = .ok (.int (cell % 2147483489 * 6581)) s := mulD_of (Sm.n (by omega)) (Sm.n (by decide))
        refine ⟨some (.int cell), bag (ns.map DV.int) (i + 1) r ((sd * 40237 + cell % 2147483489 * 6581 + 37) % 2147483629) ct, ?_, _, _, _, _, _, rfl, ⟨ns, rfl⟩, by have := v.i0; omega, v.r0, by omega, by omega, v.t0, v.t1⟩
        simp only [pull1, bag]
        simp [q, q2, eqD_int, e1, q3, m1, m2, a1, a2]
    · refine ⟨none, bag (ns.map DV.int) i r sd ct, ?_, _, _, _, _, _, rfl, v⟩
      simp only [pull1, bag]
      simp [q, q2, eqD_int]
  · refine ⟨none, bag (ns.map DV.int) i r sd ct, ?_, _, _, _, _, _, rfl, v⟩
    simp only [pull1, bag]
    simp [q, eqD_int]
theorem ev_pull (L k : Nat) (m : Int) (s : Sto) (h : BagOk k s) (hm : 0 < m) (sm : Sm m) (hk : k < 2 ^ 60) : ∃ v s', m_law_pull L [.mr 0, .int m] s = .ok (.int v) s' ∧ 0 ≤ v ∧ v < m ∧ BagOk (k + 1) s' := by
  obtain ⟨x3, s1, e, h1⟩ := ev_pull1 k (.int m) s h
  have hlen : s.length = 1 := by obtain ⟨c, i, r, sd, ct, rfl, _⟩ := h; rfl
  obtain ⟨c, i, r, sd, ct, rfl, v⟩ := h1
  have m1 : ∀ x s, modD (.int x) (.int m) s = .ok (.int (x % m)) s := fun x s => by rw [modD_of (by omega), fmod_pos hm]
  have d1 : ∀ x s, fdivD (.int x) (.int m) s = .ok (.int (x / m)) s := fun x s => by rw [fdivD_of (by omega) sm, fdiv_pos hm]
  have hb : ∀ x : Int, 0 ≤ x % m ∧ x % m < m := fun x => ⟨Int.emod_nonneg _ (by omega), Int.emod_lt_of_pos _ hm⟩
  by_cases q : 0 < r
  · refine ⟨r % m, bag c i (r / m) sd ct, ?_, (hb r).1, (hb r).2, _, _, _, _, _, rfl, ⟨v.c, v.i0, Int.ediv_nonneg v.r0 (Int.le_of_lt hm), v.s0, v.s1, v.t0, by have := v.t1; omega⟩⟩
    simp only [m_law_pull, Dq.run, b_law_pull]
    rw [gSeq]
    simp [-gSeq, -gIfS]
    refine Eq.trans (congrArg (fun r => RS.fin s (RS.seq r _)) e) ?_
    simp [bag, q, m1, d1, hlen]
  · have m2 : ∀ x s, modD (.int x) (.int 2147483579) s = .ok (.int (x % 2147483579)) s := fun x s => by rw [modD_of (by decide), fmod_pos (by decide)]
    have m3 : ∀ x s, modD (.int x) (.int 8059) s = .ok (.int (x % 8059)) s := fun x s => by rw [modD_of (by decide), fmod_pos (by decide)]
    have d2 : ∀ x s, fdivD (.int x) (.int 61) s = .ok (.int (x / 61)) s := fun x s => by rw [fdivD_of (by decide) (Sm.n (by decide)), fdiv_pos (by decide)]
    have ssd : Sm sd := Sm.n (by have := v.s0; have := v.s1; omega)
    have a1 : ∀ s, mulD (.int sd) (.int sd) s = .ok (.int (sd * sd)) s := mulD_of ssd ssd
    have a2 : ∀ s, mulD (.int sd) (.int 28657) s = .ok (.int (sd * 28657)) s := mulD_of ssd (Sm.n (by decide))
    have a3 : ∀ s, mulD (.int (ct + 1)) (.int 1300367) s = .ok (.int ((ct + 1) * 1300367)) s := mulD_of (Sm.n (by have := v.t0; have := v.t1; omega)) (Sm.n (by decide))
    have a4 : ∀ x s, mulD (.int (x % 8059)) (.int 47) s = .ok (.int (x % 8059 * 47)) s := fun x => mulD_of (Sm.n (by omega)) (Sm.n (by decide))
    let sd2 := (sd * sd + sd * 28657 + (ct + 1) * 1300367 + 70001) % 2147483579
    have e2 : (sd * sd + sd * 28657 + (ct + 1) * 1300367 + 70001) % 2147483579 = sd2 := rfl
    have g2 : 0 ≤ sd2 ∧ sd2 < 2147483579 := ⟨Int.emod_nonneg _ (by decide), Int.emod_lt_of_pos _ (by decide)⟩
    refine ⟨(sd2 / 61 + sd2 % 8059 * 47) % m, bag c i r sd2 (ct + 1), ?_, (hb _).1, (hb _).2, _, _, _, _, _, rfl, ⟨v.c, v.i0, v.r0, g2.1, by omega, by have := v.t0; omega, by have := v.t1; omega⟩⟩
    simp only [m_law_pull, Dq.run, b_law_pull]
    rw [gSeq]
    simp [-gSeq, -gIfS]
    refine Eq.trans (congrArg (fun r => RS.fin s (RS.seq r _)) e) ?_
    simp [bag, q, m1, m2, m3, d2, a1, a2, a3, a4, e2, hlen]
end Row

namespace Row
open PySem PySem.Spec PyProof.Rows L2 Dq
theorem ev_pick (L k : Nat) (xs : List DV) (s : Sto) (h : BagOk k s) (h0 : 0 < xs.length) (h1 : xs.length < 100) (hk : k < 2 ^ 60) : ∃ d s', m_law_pick L [.mr 0, .lst xs] s = .ok d s' ∧ d ∈ xs ∧ BagOk (k + 1) s' := by
  obtain ⟨v, s', e, v0, v1, b⟩ := ev_pull L k xs.length s h (by omega) (Sm.n (by omega)) hk
  have hl : v.toNat < xs.length := by omega
  have e1 : ixD (.lst xs) (.int v) s' = .ok xs[v.toNat] s' := ixD_seq (xs := xs) rfl (fun z h => nomatch h) v0 (by simp [hl])
  refine ⟨xs[v.toNat], s', ?_, List.getElem_mem _, b⟩
  have z : s'.length = s.length := by
    obtain ⟨c, i, r, sd, ct, rfl, _⟩ := h
    obtain ⟨c', i', r', sd', ct', rfl, _⟩ := b
    rfl
  simp only [m_law_pick, Dq.run, b_law_pick]
  simp [e, e1, z]
theorem BagOk.len {k j : Nat} {s s' : Sto} (h : BagOk k s) (b : BagOk j s') : s'.length = s.length := by
  obtain ⟨c, i, r, sd, ct, rfl, _⟩ := h
  obtain ⟨c', i', r', sd', ct', rfl, _⟩ := b
  rfl
/-- a fraction in lowest terms of some size -/
structure FrOk (n d : Int) : Prop where
  p : 0 < d
  g : Int.gcd n d = 1
  n : n.natAbs < 2 ^ 200
  d : d.natAbs < 2 ^ 200
theorem FrOk.sn {n d : Int} (h : FrOk n d) : Sm n := Sm.of h.n
theorem FrOk.sd {n d : Int} (h : FrOk n d) : Sm d := Sm.of h.d
theorem lt200 {n : Nat} (h : n < 2 ^ 128) : n < 2 ^ 200 := Nat.lt_of_lt_of_le h (Nat.pow_le_pow_right (by decide) (by decide))
theorem ltL {L : Nat} (hL : Lb ≤ L) {x : Int} (h : x.natAbs < 2 ^ 4000) : (x.natAbs : Int) < L := by
  have : (2 : Nat) ^ 4000 ≤ Lb := Nat.pow_le_pow_right (by decide) (by decide)
  omega
theorem Sm.ltL {L : Nat} (hL : Lb ≤ L) {x : Int} (h : Sm x) : (x.natAbs : Int) < L := Row.ltL hL h
@[simp] theorem pow6 (s : Sto) : powD (.int 10) (.int 6) s = .ok (.int 1000000) s := rfl
@[simp] theorem pow3 (s : Sto) : powD (.int 10) (.int 3) s = .ok (.int 1000) s := rfl
@[simp] theorem pow9 (s : Sto) : powD (.int 10) (.int 9) s = .ok (.int 1000000000) s := rfl
@[simp] theorem pow29 (s : Sto) : powD (.int 10) (.int 29) s = .ok (.int 100000000000000000000000000000) s := rfl
@[simp] theorem pow30 (s : Sto) : powD (.int 10) (.int 30) s = .ok (.int 1000000000000000000000000000000) s := rfl
theorem Sm.n2 {x : Int} (h : x.natAbs < 2 ^ 128) : Sm x := Sm.of h
@[simp] theorem sz3 : (3 : Nat) ≤ sizeLine := by decide
@[simp] theorem sz5 : (5 : Nat) ≤ sizeLine := by decide
theorem ev_some_frac (L k : Nat) (hL : Lb ≤ L) (s : Sto) (h : BagOk k s) (hk : k < 2 ^ 59) : ∃ n d s', m_law_some_frac L [.mr 0] s = .ok (fr n d) s' ∧ FrOk n d ∧ BagOk (k + 5) s' := by
  obtain ⟨d1, s1, e1, m1, b1⟩ := ev_pick L k [.int 1, .int 4, .int 12, .int 1000000, .int 100000000000000000000000000000] s h (by decide) (by decide) (by omega)
  obtain ⟨i1, rfl, i1p, i1q⟩ : ∃ i : Int, d1 = .int i ∧ 0 < i ∧ i ≤ 100000000000000000000000000000 := by
    simp only [List.mem_cons, List.not_mem_nil, or_false] at m1
    rcases m1 with rfl | rfl | rfl | rfl | rfl <;> exact ⟨_, rfl, by decide, by decide⟩
  obtain ⟨v2, s2, e2, v20, v21, b2⟩ := ev_pull L (k + 1) i1 s1 b1 i1p (Sm.n2 (by omega)) (by omega)
  have a1 : ∀ s, mulD (.int 3) (.int (1 + v2)) s = .ok (.int (3 * (1 + v2))) s := mulD_of (Sm.n (by decide)) (Sm.n2 (by omega))
  obtain ⟨d3, s3, e3, m3, b3⟩ := ev_pick L (k + 2) [.int 2, .int 9, .int (3 * (1 + v2) + 1), .int 1000000000000000000000000000000] s2 b2 (by simp) (by simp) (by omega)
  obtain ⟨i3, rfl, i3p, i3q⟩ : ∃ i : Int, d3 = .int i ∧ 0 < i ∧ i ≤ 1000000000000000000000000000000 := by
    simp only [List.mem_cons, List.not_mem_nil, or_false] at m3
    rcases m3 with rfl | rfl | rfl | rfl
    · exact ⟨_, rfl, by decide, by decide⟩
    · exact ⟨_, rfl, by decide, by decide⟩
    · exact ⟨_, rfl, by omega, by omega⟩
    · exact ⟨_, rfl, by decide, by decide⟩
  obtain ⟨v4, s4, e4, v40, v41, b4⟩ := ev_pull L (k + 3) i3 s3 b3 i3p (Sm.n2 (by omega)) (by omega)
  obtain ⟨d5, s5, e5, m5, b5⟩ := ev_pick L (k + 4) [.int v4, .int v4, .int (0 - v4)] s4 b4 (by simp) (by simp) (by omega)
  obtain ⟨i5, rfl, i5q⟩ : ∃ i : Int, d5 = .int i ∧ i.natAbs ≤ 1000000000000000000000000000000 := by
    simp only [List.mem_cons, List.not_mem_nil, or_false] at m5
    rcases m5 with rfl | rfl | rfl <;> exact ⟨_, rfl, by omega⟩
  obtain ⟨n, d, e6, f6⟩ := ev_frac L i5 (1 + v2) s5 (by omega) (Sm.n2 (by omega)) (Sm.ltL hL (Sm.n2 (by omega)))
  refine ⟨n, d, s5, ?_, ⟨f6.p, f6.g, lt200 (Nat.lt_of_le_of_lt f6.n (by omega)), lt200 (Nat.lt_of_le_of_lt f6.d (by omega))⟩, b5⟩
  simp only [m_law_some_frac, Dq.run, b_law_some_frac]
  simp only [Int.zero_sub] at e5
  simp [e1, e2, a1, e3, e4, e5, e6, h.len b5]
theorem dvd_cop {a b d : Int} (h : b ∣ a * d) (g : Int.gcd a b = 1) : b ∣ d := by
  have h1 : b.natAbs ∣ a.natAbs * d.natAbs := by rw [← Int.natAbs_mul]; exact Int.natAbs_dvd_natAbs.mpr h
  have c : Nat.Coprime b.natAbs a.natAbs := Nat.Coprime.symm g
  exact Int.natAbs_dvd_natAbs.mp (c.dvd_of_dvd_mul_left h1)
theorem fr_eq {a b c d : Int} (h : a * d = c * b) (pb : 0 < b) (pd : 0 < d) (g1 : Int.gcd a b = 1) (g2 : Int.gcd c d = 1) : a = c ∧ b = d := by
  have h1 : b ∣ d := by
    have : b ∣ a * d := by rw [h]; exact Int.dvd_mul_left ..
    exact dvd_cop this g1
  have h2 : d ∣ b := by
    have : d ∣ c * b := by rw [← h]; exact Int.dvd_mul_left ..
    exact dvd_cop this g2
  have e : b = d := Int.dvd_antisymm (Int.le_of_lt pb) (Int.le_of_lt pd) h1 h2
  subst e
  exact ⟨Int.eq_of_mul_eq_mul_right (Int.ne_of_gt pb) h, rfl⟩
structure AreaOk (a b k c d j : Int) : Prop where
  f : FrOk a b
  g : FrOk c d
  e : Ends4 a b c d (decide (k = 0)) (decide (j = 1))
  k : 0 ≤ k
  j : j ≤ 1
theorem area_of {a b k c d j : Int} (f : FrOk a b) (g : FrOk c d) (h : a * d ≤ c * b) (hn : ¬ (a = c ∧ b = d)) (k0 : 0 ≤ k) (j1 : j ≤ 1) : AreaOk a b k c d j := by
  refine ⟨f, g, .inl ?_, k0, j1⟩
  rcases Int.lt_or_eq_of_le h with q | q
  · exact q
  · exact absurd (fr_eq q f.p g.p f.g g.g) hn
theorem ev_some_area (L k : Nat) (hL : Lb ≤ L) (s : Sto) (h : BagOk k s) (hk : k < 2 ^ 58) : ∃ a b i c d j s', m_law_some_area L [.mr 0] s = .ok (ar a b i c d j) s' ∧ AreaOk a b i c d j ∧ BagOk (k + 12) s' := by
  obtain ⟨a, b, s1, e1, f1, b1⟩ := ev_some_frac L k hL s h (by omega)
  obtain ⟨c, d, s2, e2, f2, b2⟩ := ev_some_frac L (k + 5) hL s1 b1 (by omega)
  have e3 := ev_less L c d a b s2 f2.sn f2.sd f1.sn f1.sd
  obtain ⟨i, s3, e4, i0, i1, b3⟩ := ev_pull L (k + 10) 2 s2 b2 (by decide) (Sm.n (by decide)) (by omega)
  obtain ⟨j, s4, e5, j0, j1, b4⟩ := ev_pull L (k + 11) 2 s3 b3 (by decide) (Sm.n (by decide)) (by omega)
  by_cases q : c * b < a * d
  · have ne : ¬ (c = a ∧ d = b) := by rintro ⟨rfl, rfl⟩; omega
    refine ⟨c, d, i, a, b, j, s4, ?_, area_of f2 f1 (Int.le_of_lt q) ne i0 (by omega), b4⟩
    simp only [m_law_some_area, Dq.run, b_law_some_area]
    have e3' : m_law_less L [fr c d, fr a b] s2 = .ok (.bl true) s2 := by rw [e3]; simp [q]
    have ne' : decide (c = a ∧ d = b) = false := by simpa using ne
    simp [-decide_eq_false_iff_not, -Bool.decide_and, e1, e2, e3', e4, e5, eqD_tup2, ne', h.len b4]
  · by_cases q2 : a = c ∧ b = d
    · obtain ⟨rfl, rfl⟩ := q2
      refine ⟨a, b, 0, a, b, 1, s2, ?_, ⟨f1, f1, .inr ⟨⟨rfl, rfl⟩, rfl, rfl⟩, by decide, by decide⟩, b2.mono (by omega)⟩
      simp only [m_law_some_area, Dq.run, b_law_some_area]
      have e3' : m_law_less L [fr a b, fr a b] s2 = .ok (.bl false) s2 := by rw [e3]; simp
      simp [e1, e2, e3', eqD_tup2, h.len b2]
    · refine ⟨a, b, i, c, d, j, s4, ?_, area_of f1 f2 (by omega) q2 i0 (by omega), b4⟩
      simp only [m_law_some_area, Dq.run, b_law_some_area]
      have e3' : m_law_less L [fr c d, fr a b] s2 = .ok (.bl false) s2 := by rw [e3]; simp; omega
      have ne' : decide (a = c ∧ b = d) = false := by simpa using q2
      simp [-decide_eq_false_iff_not, -Bool.decide_and, e1, e2, e3', e4, e5, eqD_tup2, ne', h.len b4]
end Row

namespace Row
open PySem PySem.Spec PyProof.Rows L2 Dq
theorem wi_of {a b k c d j x y : Int} (ao : AreaOk a b k c d j) (m : MemP a b c d (decide (k = 0)) (decide (j = 1)) x y) : Wi x y a b k c d j = true := by
  unfold Wi Ah
  simp only [Bool.and_eq_true, Bool.not_eq_true', Bool.or_eq_false_iff, Bool.and_eq_false_iff, decide_eq_false_iff_not]
  refine ⟨⟨?_, ?_⟩, ⟨?_, ?_⟩⟩
  · rcases m.l with h | ⟨h, _⟩ <;> omega
  · rcases m.l with h | ⟨_, h⟩
    · left
      by_cases e : x = a
      · right; intro e2; subst e e2; omega
      · left; exact e
    · right; have := of_decide_eq_true h; omega
  · rcases m.h with h | ⟨h, _⟩ <;> omega
  · rcases m.h with h | ⟨_, h⟩
    · left
      by_cases e : c = x
      · right; intro e2; subst e e2; omega
      · left; exact e
    · right; have := of_decide_eq_true h; omega
theorem of_wi {a b k c d j x y : Int} (ao : AreaOk a b k c d j) (p : 0 < y) (g : Int.gcd x y = 1) (w : Wi x y a b k c d j = true) : MemP a b c d (decide (k = 0)) (decide (j = 1)) x y := by
  unfold Wi Ah at w
  simp only [Bool.and_eq_true, Bool.not_eq_true', Bool.or_eq_false_iff, Bool.and_eq_false_iff, decide_eq_false_iff_not] at w
  obtain ⟨⟨w1, w2⟩, ⟨w3, w4⟩⟩ := w
  refine ⟨p, ?_, ?_⟩
  · rcases Int.lt_or_eq_of_le (Int.not_lt.mp w1) with h | h
    · exact .inl h
    · obtain ⟨e1, e2⟩ := fr_eq h ao.f.p p ao.f.g g
      subst e1 e2
      have := ao.k
      refine .inr ⟨h, ?_⟩
      simp only [not_true_eq_false, or_self, false_or] at w2
      exact decide_eq_true (by omega)
  · rcases Int.lt_or_eq_of_le (Int.not_lt.mp w3) with h | h
    · exact .inl h
    · obtain ⟨e1, e2⟩ := fr_eq (a := x) (b := y) (c := c) (d := d) h p ao.g.p g ao.g.g
      subst e1 e2
      have := ao.j
      refine .inr ⟨h, ?_⟩
      simp only [not_true_eq_false, or_self, false_or] at w4
      exact decide_eq_true (by omega)
theorem mul_lt_pow {x y : Int} {i j : Nat} (hx : x.natAbs < 2 ^ i) (hy : y.natAbs < 2 ^ j) : (x * y).natAbs < 2 ^ (i + j) := by
  rw [Int.natAbs_mul, Nat.pow_add]
  exact Nat.mul_lt_mul_of_lt_of_lt hx hy
theorem ev_first (L : Nat) (a b k c d j m : Int) (s : Sto) (ha : a.natAbs < 2 ^ 200) (sb : Sm b) (hb : 0 < b) (hm : m.natAbs < 2 ^ 10) : ∃ t, m_law_first_top L [ar a b k c d j, .int m] s = .ok (.int t) s ∧ Sm t := by
  have e1 := mulD_of (Sm.of ha) (Sm.of hm) s
  have e2 : ∀ x, fdivD (.int x) (.int b) s = .ok (.int (x.fdiv b)) s := fun x => fdivD_of (by omega) sb s
  have g := mul_lt_pow ha hm
  have g2 : (2 : Nat) ^ 211 = 2 ^ (200 + 10) * 2 := Nat.pow_succ ..
  have g3 : 1 < (2 : Nat) ^ (200 + 10) := Nat.one_lt_two_pow (by decide)
  by_cases q : k = 0
  · refine ⟨-(-(a * m)).fdiv b, ?_, Sm.of (k := 211) ?_⟩
    · simp [m_law_first_top, Dq.run, b_law_first_top, e1, e2, eqD_int, q]
    · rw [fdiv_pos hb]
      have := Int.natAbs_ediv_le_natAbs (-(a * m)) b
      rw [Int.natAbs_neg] at this ⊢
      omega
  · refine ⟨(a * m).fdiv b + 1, ?_, Sm.of (k := 211) ?_⟩
    · simp [m_law_first_top, Dq.run, b_law_first_top, e1, e2, eqD_int, q]
    · rw [fdiv_pos hb]
      have := Int.natAbs_ediv_le_natAbs (a * m) b
      omega
theorem forR_inv {b : DV → GS} (I : En → Sto → Prop) : ∀ (xs : List DV), (∀ d ∈ xs, ∀ ρ s, I ρ s → ∃ ρ' s', b d ρ s = .nx ρ' s' ∧ I ρ' s') → ∀ ρ s, I ρ s → ∃ ρ' s', forR b xs ρ s = .nx ρ' s' ∧ I ρ' s'
  | [], _, ρ, s, i => ⟨ρ, s, rfl, i⟩
  | x :: xs, h, ρ, s, i => by
    obtain ⟨ρ1, s1, e1, i1⟩ := h x (List.mem_cons_self ..) ρ s i
    obtain ⟨ρ2, s2, e2, i2⟩ := forR_inv I xs (fun d hd => h d (List.mem_cons_of_mem _ hd)) ρ1 s1 i1
    exact ⟨ρ2, s2, by rw [forR, e1]; exact e2, i2⟩
abbrev lbody (L : Nat) : GS := (gIfS (gT truD (gCall (m_law_within L) [] (gCons (gCall (m_law_frac L) [] (gCons (gCall (m_law_first_top L) [] (gCons (gVar 6) (gCons (gVar 7) gNil))) (gCons (gVar 7) gNil))) (gCons (gVar 6) gNil))))
 (gRet (gC (.bl false)))
 gNext)
abbrev ltail (L : Nat) : GS := (gSeq (gAsg (gCall (m_law_of_ratio L) [] (gCons (gMeth 6 (sel_simplest_Span L) (gCall (m_law_made_span L) [] (gCons (gVar 6) gNil)) gNil) gNil)) (Dq.tTup 2 (Dq.tCons (tN 9) (Dq.tCons (tN 10) Dq.tNil))))
 (gSeq (gIfS (gNot (gT truD (gCall (m_law_within L) [] (gCons (Dq.gTup (gCons (gVar 9) (gCons (gVar 10) gNil))) (gCons (gVar 6) gNil)))))
 (gRet (gC (.bl false)))
 gNext)
 (gSeq (gForR rng2 (gCons (gC (.int 1)) (gCons (gB minD (gCons (gVar 10) (gCons (gC (.int 200)) gNil))) gNil)) (tN 7)
 (lbody L))
 (gSeq (gSet 8 (gCall (m_law_frac L) [] (gCons (gIf (gT truB (gBin gtD (gVar 9) (gC (.int 0)))) (gBin subD (gVar 9) (gC (.int 1))) (gBin addD (gVar 9) (gC (.int 1)))) (gCons (gVar 10) gNil))))
 (gIfS (gAnd (gT truB (gBin neD (gVar 9) (gC (.int 0)))) (gT truD (gCall (m_law_within L) [] (gCons (gVar 8) (gCons (gVar 6) gNil)))))
 (gRet (gC (.bl false)))
 gNext)))))
theorem add200 {x y : Int} (hx : x.natAbs < 2 ^ 200) (hy : y.natAbs < 2 ^ 200) {z : Int} (h : z.natAbs ≤ x.natAbs + y.natAbs) : z.natAbs < 2 ^ 201 := by
  have : (2 : Nat) ^ 201 = 2 ^ 200 * 2 := Nat.pow_succ ..
  omega
theorem lt300 {n : Nat} (h : n < 2 ^ 200) : n < 2 ^ 300 := Nat.lt_of_lt_of_le h (Nat.pow_le_pow_right (by decide) (by decide))
theorem ev_ltail (L : Nat) (hL : Lb ≤ L) (a b k c d j : Int) (ao : AreaOk a b k c d j) (x0 x1 x2 x3 x4 x5 x7 x8 x9 x10 : Option DV) (s : Sto) :
    ∃ y7 y8 y9 y10, ltail L [x0, x1, x2, x3, x4, x5, some (ar a b k c d j), x7, x8, x9, x10] s = .nx [x0, x1, x2, x3, x4, x5, some (ar a b k c d j), y7, y8, y9, y10] s := by
  have sa := ao.f.sn
  have sb := ao.f.sd
  have sc := ao.g.sn
  have sd := ao.g.sd
  have e1 := ev_made L a b k c d j s sa sb sc sd ao.f.p ao.f.g ao.g.p ao.g.g ao.e
  obtain ⟨x, y, e2, sm⟩ := ev_simp L hL a b c d _ _ s ao.e ao.f.p ao.g.p ao.f.g ao.g.g (lt300 ao.f.n) (lt300 ao.f.d) (lt300 ao.g.n) (lt300 ao.g.d)
  have e3 := ev_lof L x y s
  have hy := sm.m.p
  have md := sm.mn _ _ (ao.e.med ao.f.p ao.g.p)
  have bx : x.natAbs < 2 ^ 201 := add200 ao.f.n ao.g.n (z := x) (by omega)
  have by_ : y.natAbs < 2 ^ 201 := add200 ao.f.d ao.g.d (z := y) (by have := ao.f.p; have := ao.g.p; omega)
  have sx : Sm x := Sm.of bx
  have sy : Sm y := Sm.of by_
  have e4 := ev_within L x y a b k c d j s sx sy sa sb sc sd
  rw [wi_of ao sm.m] at e4
  -- the small bottoms
  let I : En → Sto → Prop := fun ρ t => t = s ∧ ∃ z7, ρ = [x0, x1, x2, x3, x4, x5, some (ar a b k c d j), z7, x8, some (.int x), some (.int y)]
  have step : ∀ dd ∈ rangeI 1 ((if 200 < y then 200 else y) - 1).toNat, ∀ ρ t, I ρ t → ∃ ρ' s', turn (tN 7) (lbody L) dd ρ t = .nx ρ' s' ∧ I ρ' s' := by
    intro dd hd ρ t ⟨ht, z7, hρ⟩
    subst ht hρ
    unfold rangeI at hd
    simp only [List.mem_map, List.mem_range] at hd
    obtain ⟨n, hn, rfl⟩ := hd
    have q1 : (1 : Int) + n < y ∧ (1 : Int) + n < 200 := by split at hn <;> omega
    have sn : Sm (1 + (n : Int)) := Sm.n (by omega)
    obtain ⟨tt, f1, st⟩ := ev_first L a b k c d j (1 + n) t ao.f.n sb ao.f.p (by omega)
    obtain ⟨fn, fd, f2, f3⟩ := ev_frac L tt (1 + n) t (by omega) sn (Sm.ltL hL sn)
    have sfn : Sm fn := Nat.lt_of_le_of_lt f3.n st
    have sfd : Sm fd := Nat.lt_of_le_of_lt f3.d sn
    have f4 := ev_within L fn fd a b k c d j t sfn sfd sa sb sc sd
    have f5 : Wi fn fd a b k c d j = false := by
      cases w : Wi fn fd a b k c d j with
      | false => rfl
      | true =>
        have := (sm.mn _ _ (of_wi ao f3.p f3.g w)).1
        have := f3.d
        have := f3.p
        omega
    rw [f5] at f4
    refine ⟨[x0, x1, x2, x3, x4, x5, some (ar a b k c d j), some (.int (1 + n)), x8, some (.int x), some (.int y)], t, ?_, rfl, _, rfl⟩
    simp [turn, lbody, f1, f2, f4]
  obtain ⟨ρ', s', e5, rfl, z7, rfl⟩ := forR_inv I _ step [x0, x1, x2, x3, x4, x5, some (ar a b k c d j), x7, x8, some (.int x), some (.int y)] s ⟨rfl, x7, rfl⟩
  -- the nearer top
  have sn : Sm (if 0 < x then x - 1 else x + 1) := Sm.of (k := 202) (by
    have g2 : (2 : Nat) ^ 202 = 2 ^ 201 * 2 := Nat.pow_succ ..
    have g3 : 1 < (2 : Nat) ^ 201 := Nat.one_lt_two_pow (by decide)
    split <;> omega)
  obtain ⟨fn, fd, f2, f3⟩ := ev_frac L (if 0 < x then x - 1 else x + 1) y s' (by omega) sy (Sm.ltL hL sy)
  have sfn : Sm fn := Nat.lt_of_le_of_lt f3.n sn
  have sfd : Sm fd := Nat.lt_of_le_of_lt f3.d sy
  have f4 := ev_within L fn fd a b k c d j s' sfn sfd sa sb sc sd
  have f5 : x ≠ 0 → Wi fn fd a b k c d j = false := fun hx => by
    cases w : Wi fn fd a b k c d j with
    | false => rfl
    | true =>
      have := (sm.mn _ _ (of_wi ao f3.p f3.g w)).2
      have := f3.n
      split at this <;> omega
  refine ⟨z7, some (fr fn fd), some (.int x), some (.int y), ?_⟩
  have r2 : rng2 [.int 1, .int (if 200 < y then 200 else y)] = some (1, ((if 200 < y then 200 else y) - 1).toNat) := by
    have q : -(2 ^ 62) ≤ (1 : Int) ∧ (1 : Int) < 2 ^ 62 ∧ -(2 ^ 62) ≤ (if 200 < y then 200 else y) ∧ (if 200 < y then 200 else y) < 2 ^ 62 := by
      split <;> omega
    exact rng2_of q
  have em : ∀ s, minD [.int y, .int 200] s = .ok (.int (if 200 < y then 200 else y)) s := fun s => rfl
  generalize (if 200 < y then 200 else y) = mn at *
  generalize (mn - 1).toNat = NN at *
  rw [ltail, gSeq]
  simp [-gSeq, -gIfS, -gForR, -gSet, e1, e2, e3]
  rw [gSeq]
  simp [-gSeq, -gForR, -gSet, e4]
  rw [gSeq, gForR]
  simp [-gSeq, -gForR, -gSet, -gIfS, em, r2, -minD]
  rw [e5]
  simp only [RS.seq]
  rw [gSeq, gSet]
  have ei : (gIf (gT truB (gBin gtD (gVar 9) (gC (.int 0)))) (gBin subD (gVar 9) (gC (.int 1))) (gBin addD (gVar 9) (gC (.int 1)))) [x0, x1, x2, x3, x4, x5, some (ar a b k c d j), z7, x8, some (.int x), some (.int y)] s' = .ok (.int (if 0 < x then x - 1 else x + 1)) s' := by
    by_cases q : 0 < x <;> simp [q]
  simp [-gSeq, -gIfS, -gIf, ei, f2]
  by_cases q : x = 0
  · simp [neD_int, q]
  · rw [f5 q] at f4
    simp [neD_int, q, f4]
end Row

namespace Row
open PySem PySem.Spec PyProof.Rows L2 Dq
abbrev lturn (L : Nat) : GS := (gSeq (gSet 3 (gCall (m_law_frac L) [] (gCons (gBin subD (gCall (m_law_pull L) [] (gCons (gVar 1) (gCons (gC (.int 60)) gNil))) (gC (.int 30))) (gCons (gBin addD (gC (.int 1)) (gCall (m_law_pull L) [] (gCons (gVar 1) (gCons (gC (.int 13)) gNil)))) gNil))))
 (gSeq (gSet 4 (gCall (m_law_frac L) [] (gCons (gCall (m_law_pull L) [] (gCons (gVar 1) (gCons (gC (.int 40)) gNil))) (gCons (gBin mulD (gCall (m_law_pick L) [] (gCons (gVar 1) (gCons (Dq.gLst (gCons (gC (.int 1)) (gCons (gC (.int 12)) (gCons (gBin powD (gC (.int 10)) (gC (.int 3))) (gCons (gBin powD (gC (.int 10)) (gC (.int 9))) gNil))))) gNil))) (gBin addD (gC (.int 1)) (gCall (m_law_pull L) [] (gCons (gVar 1) (gCons (gC (.int 9)) gNil))))) gNil))))
 (gSeq (gSet 5 (gCall (m_law_add L) [] (gCons (gVar 3) (gCons (gVar 4) gNil))))
 (gSeq (gSet 6 (gIf (gT truB (gBin eqD (gVar 3) (gVar 5))) (Dq.gTup (gCons (Dq.gTup (gCons (gVar 3) (gCons (gC (.int 0)) gNil))) (gCons (Dq.gTup (gCons (gVar 5) (gCons (gC (.int 1)) gNil))) gNil))) (Dq.gTup (gCons (Dq.gTup (gCons (gVar 3) (gCons (gCall (m_law_pull L) [] (gCons (gVar 1) (gCons (gC (.int 2)) gNil))) gNil))) (gCons (Dq.gTup (gCons (gVar 5) (gCons (gCall (m_law_pull L) [] (gCons (gVar 1) (gCons (gC (.int 2)) gNil))) gNil))) gNil)))))
 (gSeq (gIfS (gT truB (gBin eqD (gCall (m_law_pull L) [] (gCons (gVar 1) (gCons (gC (.int 8)) gNil))) (gC (.int 0))))
 (gSet 6 (gCall (m_law_some_area L) [] (gCons (gVar 1) gNil)))
 gNext)
 (ltail L))))))
theorem ev_add (L : Nat) (hL : Lb ≤ L) (a b c d : Int) (s : Sto) (hb : 0 < b) (hd : 0 < d) (ha : a.natAbs < 2 ^ 40) (hb2 : b.natAbs < 2 ^ 40) (hc : c.natAbs < 2 ^ 40) (hd2 : d.natAbs < 2 ^ 40) :
    ∃ n m, m_law_add L [fr a b, fr c d] s = .ok (fr n m) s ∧ Fr n m (a * d + c * b) (b * d) ∧ FrOk n m := by
  have e1 := mulD_of (Sm.of ha) (Sm.of hd2) s
  have e2 := mulD_of (Sm.of hc) (Sm.of hb2) s
  have e3 := mulD_of (Sm.of hb2) (Sm.of hd2) s
  have g1 := mul_lt_pow ha hd2
  have g2 := mul_lt_pow hc hb2
  have g3 := mul_lt_pow hb2 hd2
  have p : 0 < b * d := Int.mul_pos hb hd
  obtain ⟨n, m, e4, f⟩ := ev_frac L (a * d + c * b) (b * d) s (by omega) (Sm.of g3) (Sm.ltL hL (Sm.of g3))
  refine ⟨n, m, ?_, f, f.p, f.g, lt200 (Nat.lt_of_le_of_lt f.n (by omega)), lt200 (Nat.lt_of_le_of_lt f.d (by omega))⟩
  simp [m_law_add, Dq.run, b_law_add, e1, e2, e3, e4]
@[simp] theorem sz4 : (4 : Nat) ≤ sizeLine := by decide
theorem ev_turn (L k : Nat) (hL : Lb ≤ L) (x0 x2 x3 x4 x5 x6 x7 x8 x9 x10 : Option DV) (s : Sto) (h : BagOk k s) (hk : k < 2 ^ 57) :
    ∃ y3 y4 y5 y6 y7 y8 y9 y10 s', lturn L [x0, some (.mr 0), x2, x3, x4, x5, x6, x7, x8, x9, x10] s = .nx [x0, some (.mr 0), x2, y3, y4, y5, y6, y7, y8, y9, y10] s' ∧ BagOk (k + 100) s' := by
  obtain ⟨v1, s1, e1, p1, q1, b1⟩ := ev_pull L k 60 s h (by decide) (Sm.n (by decide)) (by omega)
  obtain ⟨v2, s2, e2, p2, q2, b2⟩ := ev_pull L (k + 1) 13 s1 b1 (by decide) (Sm.n (by decide)) (by omega)
  obtain ⟨a, b, e3, f3⟩ := ev_frac L (v1 - 30) (1 + v2) s2 (by omega) (Sm.n (by omega)) (Sm.ltL hL (Sm.n (by omega)))
  obtain ⟨v4, s4, e4, p4, q4, b4⟩ := ev_pull L (k + 2) 40 s2 b2 (by decide) (Sm.n (by decide)) (by omega)
  obtain ⟨d5, s5, e5, m5, b5⟩ := ev_pick L (k + 3) [.int 1, .int 12, .int 1000, .int 1000000000] s4 b4 (by simp) (by simp) (by omega)
  obtain ⟨i5, rfl, i5p, i5q⟩ : ∃ i : Int, d5 = .int i ∧ 0 < i ∧ i ≤ 1000000000 := by
    simp only [List.mem_cons, List.not_mem_nil, or_false] at m5
    rcases m5 with rfl | rfl | rfl | rfl <;> exact ⟨_, rfl, by decide, by decide⟩
  obtain ⟨v6, s6, e6, p6, q6, b6⟩ := ev_pull L (k + 4) 9 s5 b5 (by decide) (Sm.n (by decide)) (by omega)
  have m6 : ∀ s, mulD (.int i5) (.int (1 + v6)) s = .ok (.int (i5 * (1 + v6))) s := mulD_of (Sm.n (by omega)) (Sm.n (by omega))
  have u1 : 0 < i5 * (1 + v6) := Int.mul_pos i5p (by omega)
  have u2 : (i5 * (1 + v6)).natAbs < 2 ^ 34 := mul_lt_pow (i := 30) (j := 4) (by omega) (by omega)
  obtain ⟨c, d, e7, f7⟩ := ev_frac L v4 (i5 * (1 + v6)) s6 (by omega) (Sm.of u2) (Sm.ltL hL (Sm.of u2))
  have ba := f3.n
  have bb := f3.d
  have bc := f7.n
  have bd := f7.d
  obtain ⟨n, m, e8, f8, o8⟩ := ev_add L hL a b c d s6 f3.p f7.p (by omega) (by omega) (by omega) (by omega)
  have oab : FrOk a b := ⟨f3.p, f3.g, lt200 (by omega), lt200 (by omega)⟩
  -- the first is not above the second
  have c0 : 0 ≤ c := by
    have h1 := f7.e
    have h2 : 0 ≤ v4 * d := Int.mul_nonneg p4 (Int.le_of_lt f7.p)
    by_cases z : c < 0
    · have : c * (i5 * (1 + v6)) < 0 := Int.mul_neg_of_neg_of_pos z u1
      omega
    · omega
  have le : a * m ≤ n * b := by
    have h1 := f8.e
    have h2 : 0 ≤ c * b * m := Int.mul_nonneg (Int.mul_nonneg c0 (Int.le_of_lt f3.p)) (Int.le_of_lt f8.p)
    have h3 : a * m * d + c * b * m = n * b * d := N05.eq_tr h1.symm (by grind)
    have h4 : a * m * d ≤ n * b * d := by omega
    exact Int.le_of_mul_le_mul_right h4 f7.p
  have es1 : ∀ (x3 x4 x5 x6 x7 x8 x9 x10 : Option DV), (gSet 3 (gCall (m_law_frac L) [] (Dq.gCons (gBin subD (gCall (m_law_pull L) [] (Dq.gCons (gVar 1) (Dq.gCons (gC (.int 60)) Dq.gNil))) (gC (.int 30))) (Dq.gCons (gBin addD (gC (.int 1)) (gCall (m_law_pull L) [] (Dq.gCons (gVar 1) (Dq.gCons (gC (.int 13)) Dq.gNil)))) Dq.gNil)))) [x0, some (.mr 0), x2, x3, x4, x5, x6, x7, x8, x9, x10] s = .nx [x0, some (.mr 0), x2, some (fr a b), x4, x5, x6, x7, x8, x9, x10] s2 := fun _ _ _ _ _ _ _ _ => by
    simp [e1, e2, e3]
  -- the area
  obtain ⟨i, j, s8, ea, ao, b8⟩ : ∃ i j s8, (gIf (gT truB (gBin eqD (gVar 3) (gVar 5))) (Dq.gTup (Dq.gCons (Dq.gTup (Dq.gCons (gVar 3) (Dq.gCons (gC (.int 0)) Dq.gNil))) (Dq.gCons (Dq.gTup (Dq.gCons (gVar 5) (Dq.gCons (gC (.int 1)) Dq.gNil))) Dq.gNil))) (Dq.gTup (Dq.gCons (Dq.gTup (Dq.gCons (gVar 3) (Dq.gCons (gCall (m_law_pull L) [] (Dq.gCons (gVar 1) (Dq.gCons (gC (.int 2)) Dq.gNil))) Dq.gNil))) (Dq.gCons (Dq.gTup (Dq.gCons (gVar 5) (Dq.gCons (gCall (m_law_pull L) [] (Dq.gCons (gVar 1) (Dq.gCons (gC (.int 2)) Dq.gNil))) Dq.gNil))) Dq.gNil)))) [x0, some (.mr 0), x2, some (fr a b), some (fr c d), some (fr n m), x6, x7, x8, x9, x10] s6 = .ok (ar a b i n m j) s8 ∧ AreaOk a b i n m j ∧ BagOk (k + 7) s8 := by
    obtain ⟨v7, s7, e9, p7, q7, b7⟩ := ev_pull L (k + 5) 2 s6 b6 (by decide) (Sm.n (by decide)) (by omega)
    obtain ⟨v8, s8, e10, p8, q8, b8⟩ := ev_pull L (k + 6) 2 s7 b7 (by decide) (Sm.n (by decide)) (by omega)
    by_cases z : a = n ∧ b = m
    · obtain ⟨rfl, rfl⟩ := z
      refine ⟨0, 1, s6, ?_, ⟨oab, oab, .inr ⟨⟨rfl, rfl⟩, rfl, rfl⟩, by decide, by decide⟩, b6.mono (by omega)⟩
      simp [eqD_tup2]
    · refine ⟨v7, v8, s8, ?_, area_of oab o8 le z p7 (by omega), b8⟩
      have z' : decide (a = n ∧ b = m) = false := by simpa using z
      simp [-decide_eq_false_iff_not, -Bool.decide_and, eqD_tup2, z', e9, e10]
  obtain ⟨v9, s9, e9, p9, q9, b9⟩ := ev_pull L (k + 7) 8 s8 b8 (by decide) (Sm.n (by decide)) (by omega)
  obtain ⟨a2, b2', i2, c2, d2, j2, s10, e10, ao2, b10⟩ := ev_some_area L (k + 8) hL s9 b9 (by omega)
  rw [lturn, gSeq, es1]
  simp only [RS.seq]
  rw [gSeq]
  simp [-gSeq, -gIfS, -gIf, -gForR, e4, e5, e6, m6, e7]
  rw [gSeq]
  simp [-gSeq, -gIfS, -gIf, -gForR, e8]
  rw [gSeq]
  simp [-gSeq, -gIfS, -gIf, -gForR, ea]
  rw [gSeq]
  by_cases z : v9 = 0
  · obtain ⟨y7, y8, y9, y10, et⟩ := ev_ltail L hL a2 b2' i2 c2 d2 j2 ao2 x0 (some (.mr 0)) x2 (some (fr a b)) (some (fr c d)) (some (fr n m)) x7 x8 x9 x10 s10
    refine ⟨some (fr a b), some (fr c d), some (fr n m), some (ar a2 b2' i2 c2 d2 j2), y7, y8, y9, y10, s10, ?_, b10.mono (by omega)⟩
    simp [-gSeq, -gIf, -gForR, e9, z, eqD_int, e10]
    exact et
  · obtain ⟨y7, y8, y9, y10, et⟩ := ev_ltail L hL a b i n m j ao x0 (some (.mr 0)) x2 (some (fr a b)) (some (fr c d)) (some (fr n m)) x7 x8 x9 x10 s9
    refine ⟨some (fr a b), some (fr c d), some (fr n m), some (ar a b i n m j), y7, y8, y9, y10, s9, ?_, b9.mono (by omega)⟩
    simp [-gSeq, -gIf, -gForR, e9, z, eqD_int]
    exact et
theorem ev_start (L : Nat) (ns : List Int) (h : ns.length ≤ 63) : ∃ s, m_law_start L [.wl (ns.map DV.int)] [] = .ok (.mr 0) s ∧ BagOk 0 s := by
  refine ⟨bag (ns.map DV.int) 0 0 (49290 + ns.length) 0, ?_, _, _, _, _, _, rfl, ⟨ns, rfl⟩, by decide, by decide, by omega, by omega, by decide, by decide⟩
  have hc : Dq.cutD (ns.map DV.int) none (some 63) = ns.map DV.int := by
    unfold Dq.cutD
    have e1 : HT.sIx (ns.map DV.int).length 0 none = 0 := rfl
    have e2 : HT.sIx (ns.map DV.int).length (ns.map DV.int).length (some 63) = ns.length := by
      have := HT.sIx_nat (ns.map DV.int).length (ns.map DV.int).length 63
      refine this.trans ?_
      rw [List.length_map]
      omega
    rw [e1, e2]
    simp only [List.drop_zero, Nat.sub_zero]
    rw [List.take_of_length_le (by simp)]
  simp only [m_law_start, runK, b_law_start]
  simp [gSl, gNo, gPart, slD, hc, listD, lenD, RS.finK]
theorem ev_turns (L : Nat) (hL : Lb ≤ L) : ∀ (xs : List DV) (k : Nat) (x0 x2 x3 x4 x5 x6 x7 x8 x9 x10 : Option DV) (s : Sto), BagOk k s → k + 100 * xs.length < 2 ^ 56 →
    ∃ ρ' s', forR (turn (tN 2) (lturn L)) xs [x0, some (.mr 0), x2, x3, x4, x5, x6, x7, x8, x9, x10] s = .nx ρ' s'
  | [], k, _, _, _, _, _, _, _, _, _, _, s, _, _ => ⟨_, _, rfl⟩
  | x :: xs, k, x0, x2, x3, x4, x5, x6, x7, x8, x9, x10, s, h, hk => by
    rw [List.length_cons] at hk
    obtain ⟨y3, y4, y5, y6, y7, y8, y9, y10, s', e, b⟩ := ev_turn L k hL x0 (some x) x3 x4 x5 x6 x7 x8 x9 x10 s h (by omega)
    obtain ⟨ρ', s2, e2⟩ := ev_turns L hL xs (k + 100) x0 (some x) y3 y4 y5 y6 y7 y8 y9 y10 s' b (by omega)
    refine ⟨ρ', s2, ?_⟩
    rw [forR]
    have : turn (tN 2) (lturn L) x [x0, some (.mr 0), x2, x3, x4, x5, x6, x7, x8, x9, x10] s = .nx [x0, some (.mr 0), some x, y3, y4, y5, y6, y7, y8, y9, y10] s' := e
    rw [this]
    exact e2
theorem rt_bl (b : Bool) (s s' : Sto) : ∃ t, RS.fin s (.rt (.bl b) s') = .ok (.bl b) t := by
  show ∃ t, Dq.fin s (.bl b) s' = .ok (.bl b) t
  unfold Dq.fin
  cases decide (s'.length = s.length) with
  | true => exact ⟨_, rfl⟩
  | false =>
    simp only [frz]
    split <;> exact ⟨_, rfl⟩
def Lm : Nat := Lb
theorem math (ns : List Int) (h : ns.length ≤ 63) : ∃ s, m_law Lm [.wl (ns.map DV.int)] [] = .ok (.bl true) s := by
  obtain ⟨s0, e0, b0⟩ := ev_start Lm ns h
  obtain ⟨ρ', s', e⟩ := ev_turns Lm (Nat.le_refl _) (rangeI 0 6) 0 (some (.wl (ns.map DV.int))) none none none none none none none none none s0 b0 (by simp [rangeI])
  have hb : b_law Lm [some (.wl (ns.map DV.int)), none, none, none, none, none, none, none, none, none, none] [] = .rt (.bl true) s' := by
    unfold b_law
    rw [gSeq]
    simp [-gSeq, -gForR, e0]
    rw [gSeq, gForR]
    have r : rng1 [.int 6] = some (0, 6) := by decide
    simp only [Dq.gCons, gC, Dq.gNil, R.bind_ok, R.toS_ok, r]
    refine Eq.trans (congrArg (fun r => RS.seq r _) e) ?_
    simp [RS.seq]
  show ∃ s, RS.fin [] (b_law Lm [some (.wl (ns.map DV.int)), none, none, none, none, none, none, none, none, none, none] []) = _
  rw [hb]
  exact rt_bl ..
end Row

namespace Row
open PySem PySem.Spec PyProof.Rows L2 Dq
theorem law_sp {K : PySem.W.Frag} (H : Hp) (a : Addr) (ns : List Int) (hl : ns.length ≤ 63) (hS : SqL K H a (ns.map V.int)) : spD (pg K) We0 1 (m_law Lm) [.ref a] H (fun v _ => v = .bl true) fun _ _ _ => False := by
  obtain ⟨s, e⟩ := math ns hl
  exact Dq.law_sp' hS e
end Row
open PySem PySem.W PySem.Calls PyProof.Rows in
set_option maxRecDepth 100000 in
set_option maxHeartbeats 0 in
theorem PySem.Challenge.cw_gustfloor_k05_simplest_ratios_holds : PySem.Challenge.rw_gustfloor_k05_simplest_ratios.Holds := by
  w_on; o_law
  refine HandSHeadRun.head_imp (r := OpenLaw.row PySem.Challenge.rw_gustfloor_k05_simplest_ratios) (q := view (OpenLaw.row PySem.Challenge.rw_gustfloor_k05_simplest_ratios).prog [0, 36]) (H := Row.hk) (ob := Row.ob) (M := 6000) (loose := Row.names) (d := HandSHeadRun.topDef (OpenLaw.row PySem.Challenge.rw_gustfloor_k05_simplest_ratios).prog 36) (kwd := []) Row.ob_eq Row.run_
    (by kernel_rfl) (by kernel_rfl) (by kernel_rfl) (by rfl) (by first | assumption | decide +kernel) (by decide +kernel) ⟨rfl, rfl, rfl, rfl, rfl, by decide +kernel⟩ ?hw ?hc
  case hw => w_witness2
  case hc =>
    refine L2.walk_ofE (l := PySem.Challenge.rw_gustfloor_k05_simplest_ratios) (n := 63) (k := 8) (x := "_law_script") (CX := L2.CX0) rfl (by decide) (by kernel_rfl) ⟨rfl, by decide, by decide⟩ ?F (fun _ _ _ _ z => z)
    intro w mg fa h Y G hmg0
    obtain ⟨K, KX, c⟩ := Y
    have hmg : mg ("law" : PySem.Str) = some (.ref fa) := by
      have e : (HandSHeadRun.topDef (OpenLaw.row PySem.Challenge.rw_gustfloor_k05_simplest_ratios).prog 36).name = ("law" : PySem.Str) := by kernel_rfl
      rw [← e]
      exact hmg0
    obtain ⟨fd0, hb, hF⟩ := Row.law_end (P := PySem.Challenge.rw_gustfloor_k05_simplest_ratios.prog) (w := w) KX G hmg c Row.Lm
    exact ⟨K, fd0, Dq.spD (Row.pg K) Dq.We0 1 (Row.m_law Row.Lm), KX, hb, fun H a ns hl _ hS => Row.law_sp H a ns hl hS, hF⟩

