import PyProof.Rows.All
import Wide.All
import OpenK.AllK
import Wide.FinOn
import HandS.ForMost
import HandS.ForExc
import HandS.WideBits
import HandS.Wide
import HandS.Style
import HandS.Gcd
import HandS.StrMore
import HandS.Flow
import HandS.Defaults
import HandS.MakeKwOnly
import HandS.Property
import HandS.IsInst
import HandS.OwnEq
import HandS.HeadHook2
import HandS.HeadEnd
import HandS.Head2
import HandS.Head3
import HandS.Comp
import HandS.Iter
import HandS.Zip
import KE.KSuper
import KE.KExcSuper
import KE.KExcMake
import HandS.ExcInit
import HandS.ExcField
import HandS.ExcIs
import KE.KExcIs
import HandS.List
import PySem.Challenge.RW_gustfloor_k09_errors_by_themselves
set_option Elab.async false
set_option linter.all false
set_option maxRecDepth 100000
set_option maxHeartbeats 4000000
/-! Data by value over the hand layer: trees, mutable objects by number, readings by functions. -/
namespace Xq
open PySem PySem.Spec PyProof.Rows L2
/-- at a: an exception of the class at C, its dict at d -/
def ExV (a C d : Addr) : HO := .ext fun h => ∃ (oe : Obj) (vs : Array Value), h.get? a = some oe ∧ oe.cls = .ref C ∧ oe.dict = some d ∧ oe.data = .fields vs
end Xq
namespace Dq
open PySem PySem.Spec PyProof.Rows L2

/-! ### data -/
inductive DV where
  | non | bl (b : Bool) | int (i : Int) | str (x : Str)
  | lst (xs : List DV) | wl (xs : List DV) | tup (xs : List DV) | ins (c : Nat) (ks : List Nat) (xs : List DV) | mr (k : Nat) | exn (c : Nat) (ks : List Nat) (xs : List DV)
/-- a mutable object's content -/
inductive MO where
  | lst (xs : List DV) | ins (c : Nat) (ks : List Nat) (xs : List DV)
abbrev Sto := List (Option MO)
/-- results -/
inductive R (α : Type) where
  | ok (a : α) (s : Sto) | exc (c : Nat) (ks : List Nat) (xs : List DV) (s : Sto) | bad
def R.bind {α β : Type} : R α → (α → Sto → R β) → R β
  | .ok a s, k => k a s
  | .exc c ks xs s, _ => .exc c ks xs s
  | .bad, _ => .bad
@[simp] theorem R.bind_ok {α β : Type} (a : α) (s : Sto) (k : α → Sto → R β) : (R.ok a s).bind k = k a s := rfl
abbrev En := List (Option DV)

/-- the program's part: classes by number, attributes' names by number -/
structure Pg where
  K : PySem.W.Frag
  cA : Nat → Addr
  nm : Nat → Str
  nmi : ∀ i j, nm i = nm j → i = j

/-! ### what data stands for -/
mutual
inductive Rp (p : Pg) (F : Hp) (μ : List Addr) : DV → V → Prop
  | non : Rp p F μ .non .non
  | bl (b : Bool) : Rp p F μ (.bl b) (.bl b)
  | int (i : Int) : Rp p F μ (.int i) (.int i)
  | str (x : Str) : Rp p F μ (.str x) (.str x)
  | lst {a : Addr} {xs : List DV} {vs : List V} : F a = some (.lst vs) → Rps p F μ xs vs → Rp p F μ (.lst xs) (.ref a)
  | wl {a : Addr} {xs : List DV} {vs : List V} : SqL p.K F a vs → Rps p F μ xs vs → Rp p F μ (.wl xs) (.ref a)
  | tup {a : Addr} {xs : List DV} {vs : List V} : SqT p.K F a vs → Rps p F μ xs vs → Rp p F μ (.tup xs) (.ref a)
  | ins {a dx : Addr} {c : Nat} {ks : List Nat} {xs : List DV} {fs : List (Str × V)} : F a = some (.ins (p.cA c) dx fs) → fs.map (·.1) = ks.map p.nm → Rps p F μ xs (fs.map (·.2)) → Rp p F μ (.ins c ks xs) (.ref a)
  | mr {k : Nat} {a : Addr} : μ[k]? = some a → Rp p F μ (.mr k) (.ref a)
  | exn {a dx : Addr} {c : Nat} {ks : List Nat} {xs : List DV} {fs : List (Str × V)} : F a = some (Xq.ExV a (p.cA c) dx) → F dx = some (.xd fs) → fs.map (·.1) = ks.map p.nm → Rps p F μ xs (fs.map (·.2)) → Rp p F μ (.exn c ks xs) (.ref a)
inductive Rps (p : Pg) (F : Hp) (μ : List Addr) : List DV → List V → Prop
  | nil : Rps p F μ [] []
  | cons {d : DV} {v : V} {ds : List DV} {vs : List V} : Rp p F μ d v → Rps p F μ ds vs → Rps p F μ (d :: ds) (v :: vs)
end

structure Gh where
  F : Hp
  μ : List Addr
  st : Sto
structure GX (G G' : Gh) : Prop where
  f : ∀ a o, G.F a = some o → G'.F a = some o
  m : ∀ (k : Nat) a, G.μ[k]? = some a → G'.μ[k]? = some a
theorem GX.rfl' {G : Gh} : GX G G := ⟨fun _ _ h => h, fun _ _ h => h⟩
theorem GX.trans {G G1 G2 : Gh} (a : GX G G1) (b : GX G1 G2) : GX G G2 := ⟨fun x o h => b.f x o (a.f x o h), fun k x h => b.m k x (a.m k x h)⟩
theorem GX.st {G G' : Gh} (a : GX G G') (s : Sto) : GX { G with st := s } G' := ⟨a.f, a.m⟩

theorem sqL_up {K : PySem.W.Frag} {F H : Hp} {a : Addr} {xs : List V} (k : ∀ a o, F a = some o → H a = some o) (h : SqL K F a xs) : SqL K H a xs := by
  rcases h with (h | ⟨o, h⟩) | h
  · exact .inl (.inl (k _ _ h))
  · exact .inl (.inr ⟨o, k _ _ h⟩)
  · exact .inr h
theorem sqT_up {K : PySem.W.Frag} {F H : Hp} {a : Addr} {xs : List V} (k : ∀ a o, F a = some o → H a = some o) (h : SqT K F a xs) : SqT K H a xs := by
  rcases h with (h | ⟨o, h⟩) | h
  · exact .inl (.inl (k _ _ h))
  · exact .inl (.inr ⟨o, k _ _ h⟩)
  · exact .inr h
section
variable {p : Pg}
mutual
theorem Rp.up {F F' : Hp} {μ μ' : List Addr} (hf : ∀ a o, F a = some o → F' a = some o) (hm : ∀ (k : Nat) a, μ[k]? = some a → μ'[k]? = some a) : ∀ (d : DV) (v : V), Rp p F μ d v → Rp p F' μ' d v
  | .non, _, .non => .non
  | .bl _, _, .bl b => .bl b
  | .int _, _, .int i => .int i
  | .str _, _, .str x => .str x
  | .lst xs, _, .lst h r => .lst (hf _ _ h) (Rps.up hf hm xs _ r)
  | .wl xs, _, .wl h r => .wl (sqL_up hf h) (Rps.up hf hm xs _ r)
  | .tup xs, _, .tup h r => .tup (sqT_up hf h) (Rps.up hf hm xs _ r)
  | .ins _ _ xs, _, .ins h e r => .ins (hf _ _ h) e (Rps.up hf hm xs _ r)
  | .mr _, _, .mr h => .mr (hm _ _ h)
  | .exn _ _ xs, _, .exn h h2 e r => .exn (hf _ _ h) (hf _ _ h2) e (Rps.up hf hm xs _ r)
theorem Rps.up {F F' : Hp} {μ μ' : List Addr} (hf : ∀ a o, F a = some o → F' a = some o) (hm : ∀ (k : Nat) a, μ[k]? = some a → μ'[k]? = some a) : ∀ (ds : List DV) (vs : List V), Rps p F μ ds vs → Rps p F' μ' ds vs
  | [], _, .nil => .nil
  | d :: ds, _, .cons r t => .cons (Rp.up hf hm d _ r) (Rps.up hf hm ds _ t)
end
abbrev Rg (p : Pg) (G : Gh) (d : DV) (v : V) : Prop := Rp p G.F G.μ d v
abbrev Rgs (p : Pg) (G : Gh) (ds : List DV) (vs : List V) : Prop := Rps p G.F G.μ ds vs
theorem Rg.gx {G G' : Gh} {d : DV} {v : V} (h : Rp p G.F G.μ d v) (x : GX G G') : Rp p G'.F G'.μ d v := Rp.up x.f x.m d v h
theorem Rgs.gx {G G' : Gh} {d : List DV} {v : List V} (h : Rps p G.F G.μ d v) (x : GX G G') : Rps p G'.F G'.μ d v := Rps.up x.f x.m d v h
theorem Rps.length {F : Hp} {μ : List Addr} : ∀ {ds : List DV} {vs : List V}, Rps p F μ ds vs → ds.length = vs.length
  | [], _, .nil => rfl
  | _ :: _, _, .cons _ t => by rw [List.length_cons, List.length_cons, Rps.length t]
theorem Rps.get {F : Hp} {μ : List Addr} : ∀ {ds : List DV} {vs : List V} {i : Nat} {d : DV}, Rps p F μ ds vs → ds[i]? = some d → ∃ v, vs[i]? = some v ∧ Rp p F μ d v
  | [], _, _, _, _, e => by simp at e
  | _ :: _, _, 0, _, .cons r _, e => ⟨_, rfl, by simp at e; subst e; exact r⟩
  | _ :: _, _, i + 1, _, .cons _ t, e => by simpa using Rps.get (i := i) t (by simpa using e)
theorem Rps.get' {F : Hp} {μ : List Addr} : ∀ {ds : List DV} {vs : List V} {i : Nat} {v : V}, Rps p F μ ds vs → vs[i]? = some v → ∃ d, ds[i]? = some d ∧ Rp p F μ d v
  | [], _, _, _, .nil, e => by simp at e
  | _ :: _, _, 0, _, .cons r _, e => ⟨_, rfl, by simp at e; subst e; exact r⟩
  | _ :: _, _, i + 1, _, .cons _ t, e => by simpa using Rps.get' (i := i) t (by simpa using e)
theorem Rps.app {F : Hp} {μ : List Addr} : ∀ {ds es : List DV} {vs us : List V}, Rps p F μ ds vs → Rps p F μ es us → Rps p F μ (ds ++ es) (vs ++ us)
  | [], _, _, _, .nil, s => s
  | _ :: _, _, _, _, .cons r t, s => .cons r (Rps.app t s)
theorem Rps.set {F : Hp} {μ : List Addr} {e : DV} {u : V} (h : Rp p F μ e u) : ∀ {ds : List DV} {vs : List V} (i : Nat), Rps p F μ ds vs → Rps p F μ (ds.set i e) (vs.set i u)
  | _, _, _, .nil => .nil
  | _, _, 0, .cons _ t => .cons h t
  | _, _, i + 1, .cons r t => .cons r (Rps.set h i t)
theorem Rps.take {F : Hp} {μ : List Addr} : ∀ {ds : List DV} {vs : List V} (n : Nat), Rps p F μ ds vs → Rps p F μ (ds.take n) (vs.take n)
  | _, _, 0, _ => .nil
  | _, _, _ + 1, .nil => .nil
  | _, _, n + 1, .cons r t => .cons r (Rps.take n t)
theorem Rps.drop {F : Hp} {μ : List Addr} : ∀ {ds : List DV} {vs : List V} (n : Nat), Rps p F μ ds vs → Rps p F μ (ds.drop n) (vs.drop n)
  | _, _, 0, r => r
  | _, _, _ + 1, .nil => .nil
  | _, _, n + 1, .cons _ t => Rps.drop n t
theorem Rps.rev {F : Hp} {μ : List Addr} {ds : List DV} {vs : List V} (h : Rps p F μ ds vs) : Rps p F μ ds.reverse vs.reverse := by
  induction ds generalizing vs with
  | nil => cases h; exact .nil
  | cons d ds ih =>
    cases h with
    | cons r t => rw [List.reverse_cons, List.reverse_cons]; exact (ih t).app (.cons r .nil)
theorem Rps.rep {F : Hp} {μ : List Addr} {ds : List DV} {vs : List V} (h : Rps p F μ ds vs) (k : Nat) : Rps p F μ (List.replicate k ds).flatten (List.replicate k vs).flatten := by
  induction k with
  | zero => exact .nil
  | succ k ih => rw [List.replicate_succ, List.replicate_succ, List.flatten_cons, List.flatten_cons]; exact h.app ih

/-- a mutable object as it stands -/
def ObR (p : Pg) (G : Gh) : MO → Option HO → Prop
  | .lst xs, o => ∃ vs, o = some (.lst vs) ∧ Rps p G.F G.μ xs vs
  | .ins c ks xs, o => ∃ dx fs, o = some (.ins (p.cA c) dx fs) ∧ fs.map (·.1) = ks.map p.nm ∧ Rps p G.F G.μ xs (fs.map (·.2))
theorem ObR.gx {G G' : Gh} {m : MO} {o : Option HO} (h : ObR p G m o) (x : GX G G') : ObR p G' m o := by
  cases m with
  | lst xs => obtain ⟨vs, e, r⟩ := h; exact ⟨vs, e, Rgs.gx r x⟩
  | ins c ks xs => obtain ⟨dx, fs, e, k, r⟩ := h; exact ⟨dx, fs, e, k, Rgs.gx r x⟩
structure Gd (p : Pg) (G : Gh) (H : Hp) : Prop where
  le : ∀ a o, G.F a = some o → H a = some o
  len : G.μ.length = G.st.length
  live : ∀ (k : Nat) m, G.st[k]? = some (some m) → ∃ a, G.μ[k]? = some a ∧ G.F a = none ∧ ObR p G m (H a)
  all : ∀ (k : Nat) a, G.μ[k]? = some a → H a ≠ none
  inj : ∀ (j k : Nat) a, G.μ[j]? = some a → G.μ[k]? = some a → j = k
theorem Gd.free {G : Gh} {H : Hp} (g : Gd p G H) {a : Addr} (h : H a = none) : G.F a = none := by
  cases e : G.F a with
  | none => rfl
  | some o => rw [g.le a o e] at h; cases h
theorem Gd.nmu {G : Gh} {H : Hp} (g : Gd p G H) {a : Addr} (h : H a = none) {k : Nat} {b : Addr} (e : G.μ[k]? = some b) : b ≠ a := by
  rintro rfl
  exact g.all k b e h
/-- an object laid and kept for ever -/
def Gh.lay (G : Gh) (a : Addr) (o : HO) : Gh := { G with F := upd G.F a o }
theorem GX.lay {G : Gh} {H : Hp} (g : Gd p G H) {a : Addr} {o : HO} (h : H a = none) : GX G (G.lay a o) :=
  ⟨fun b u e => by
    show upd G.F a o b = some u
    have nb : b ≠ a := fun q => by
      rw [q, g.free h] at e
      exact nomatch e
    rw [upd_ne nb]
    exact e, fun _ _ e => e⟩
theorem Gd.lay {G : Gh} {H : Hp} (g : Gd p G H) {a : Addr} {o : HO} (h : H a = none) : Gd p (G.lay a o) (upd H a o) where
  le := fun b u e => by
    by_cases q : b = a
    · subst q
      have e' : upd G.F b o b = some u := e
      rw [upd_same] at e' ⊢; exact e'
    · have e' : upd G.F a o b = some u := e
      rw [upd_ne q] at e' ⊢; exact g.le b u e'
  len := g.len
  live := fun k m e => by
    obtain ⟨b, e1, e2, e3⟩ := g.live k m e
    have nb := g.nmu h e1
    refine ⟨b, e1, ?_, ?_⟩
    · show upd G.F a o b = none
      rw [upd_ne nb]; exact e2
    · rw [upd_ne nb]
      exact e3.gx (GX.lay g h)
  all := fun k b e => by
    rw [upd_ne (g.nmu h e)]
    exact g.all k b e
  inj := g.inj
/-- an object beside, which no data names -/
theorem Gd.beside {G : Gh} {H : Hp} (g : Gd p G H) {a : Addr} {o : HO} (h : H a = none) : Gd p G (upd H a o) where
  le := fun b u e => by
    rw [upd_ne]
    · exact g.le b u e
    · rintro rfl
      rw [g.free h] at e; cases e
  len := g.len
  live := fun k m e => by
    obtain ⟨b, e1, e2, e3⟩ := g.live k m e
    exact ⟨b, e1, e2, by rw [upd_ne (g.nmu h e1)]; exact e3⟩
  all := fun k b e => by
    rw [upd_ne (g.nmu h e)]
    exact g.all k b e
  inj := g.inj
/-- a new mutable object -/
def Gh.add (G : Gh) (a : Addr) (m : MO) : Gh := ⟨G.F, G.μ ++ [a], G.st ++ [some m]⟩
theorem GX.add {G : Gh} {a : Addr} {m : MO} : GX G (G.add a m) :=
  ⟨fun _ _ e => e, fun k b e => by
    show (G.μ ++ [a])[k]? = some b
    rw [List.getElem?_append_left (List.getElem?_eq_some_iff.mp e).1]
    exact e⟩
theorem Gh.add_at {G : Gh} {a : Addr} {m : MO} : (G.add a m).μ[G.μ.length]? = some a := by
  show (G.μ ++ [a])[G.μ.length]? = some a
  rw [List.getElem?_append_right (Nat.le_refl _), Nat.sub_self]; rfl
theorem mk_get {α : Type} {l : List α} {a b : α} {k : Nat} (e : (l ++ [a])[k]? = some b) : l[k]? = some b ∨ (k = l.length ∧ a = b) := by
  by_cases q : k < l.length
  · rw [List.getElem?_append_left q] at e; exact .inl e
  · rw [List.getElem?_append_right (by omega)] at e
    have q2 : k - l.length = 0 := by
      have := (List.getElem?_eq_some_iff.mp e).1
      simp at this; omega
    rw [q2] at e
    simp at e
    exact .inr ⟨by omega, e⟩
theorem Gd.add {G : Gh} {H : Hp} (g : Gd p G H) {a : Addr} {m : MO} {o : HO} (h : H a = none) (ho : ObR p G m (some o)) : Gd p (G.add a m) (upd H a o) where
  le := (g.beside h).le
  len := by
    show (G.μ ++ [a]).length = (G.st ++ [some m]).length
    simp [g.len]
  live := fun k m' e => by
    have e' : (G.st ++ [some m])[k]? = some (some m') := e
    rcases mk_get e' with e | ⟨q, e⟩
    · obtain ⟨b, e1, e2, e3⟩ := (g.beside (o := o) h).live k m' e
      exact ⟨b, GX.add.m k b e1, e2, e3.gx GX.add⟩
    · cases e
      refine ⟨a, ?_, g.free h, ?_⟩
      · rw [q, ← g.len]; exact Gh.add_at
      · rw [upd_same]; exact ho.gx GX.add
  all := fun k b e => by
    rcases mk_get e with e | ⟨_, e⟩
    · exact (g.beside h).all k b e
    · subst e; rw [upd_same]; exact fun z => nomatch z
  inj := fun j k b e1 e2 => by
    rcases mk_get e1 with e1 | ⟨r1, e1⟩
    · rcases mk_get e2 with e2 | ⟨_, e2⟩
      · exact g.inj j k b e1 e2
      · subst e2; exact absurd rfl (g.nmu h e1)
    · rcases mk_get e2 with e2 | ⟨r2, e2⟩
      · subst e1; exact absurd rfl (g.nmu h e2)
      · omega
/-- a mutable object is changed -/
def Gh.put (G : Gh) (k : Nat) (m : Option MO) : Gh := { G with st := G.st.set k m }
theorem GX.put {G : Gh} {k : Nat} {m : Option MO} : GX G (G.put k m) := ⟨fun _ _ e => e, fun _ _ e => e⟩
theorem Gd.put {G : Gh} {H : Hp} (g : Gd p G H) {k : Nat} {a : Addr} {m : MO} {o : HO} (ha : G.μ[k]? = some a) (hf : G.F a = none) (ho : ObR p G m (some o)) : Gd p (G.put k (some m)) (upd H a o) where
  le := fun b u e => by
    rw [upd_ne]
    · exact g.le b u e
    · rintro rfl
      have e' : G.F b = some u := e
      rw [hf] at e'; cases e'
  len := by
    show G.μ.length = (G.st.set k (some m)).length
    rw [List.length_set]; exact g.len
  live := fun j m' e => by
    have e' : (G.st.set k (some m))[j]? = some (some m') := e
    by_cases q : j = k
    · subst q
      rw [List.getElem?_set_self (by rw [← g.len]; exact (List.getElem?_eq_some_iff.mp ha).1)] at e'
      cases e'
      exact ⟨a, ha, hf, by rw [upd_same]; exact ho.gx GX.put⟩
    · rw [List.getElem?_set_ne (Ne.symm q)] at e'
      obtain ⟨b, e1, e2, e3⟩ := g.live j m' e'
      have nb : b ≠ a := by
        rintro rfl
        exact q (g.inj j k b e1 ha)
      exact ⟨b, e1, e2, by rw [upd_ne nb]; exact e3.gx GX.put⟩
  all := fun j b e => by
    by_cases q : b = a
    · subst q; rw [upd_same]; exact fun z => nomatch z
    · rw [upd_ne q]; exact g.all j b e
  inj := g.inj

/-! ### slots -/
structure EnR (p : Pg) (G : Gh) (ρ : En) (σ : L2.St) : Prop where
  len : ρ.length = σ.length
  at_ : ∀ (i : Nat) d, ρ[i]? = some (some d) → ∃ v, σ[i]? = some (some v) ∧ Rp p G.F G.μ d v
theorem EnR.gx {G G' : Gh} {ρ : En} {σ : L2.St} (e : EnR p G ρ σ) (x : GX G G') : EnR p G' ρ σ :=
  ⟨e.len, fun i d h => let ⟨v, a, b⟩ := e.at_ i d h; ⟨v, a, Rg.gx b x⟩⟩
theorem EnR.set {G : Gh} {ρ : En} {σ : L2.St} (e : EnR p G ρ σ) {d : DV} {v : V} (h : Rp p G.F G.μ d v) (i : Nat) : EnR p G (ρ.set i (some d)) (σ.set i (some v)) where
  len := by rw [List.length_set, List.length_set]; exact e.len
  at_ := fun j d' h' => by
    by_cases q : j = i
    · subst q
      have lt : j < ρ.length := by
        have := (List.getElem?_eq_some_iff.mp h').1
        rwa [List.length_set] at this
      rw [List.getElem?_set_self lt] at h'
      cases h'
      exact ⟨v, List.getElem?_set_self (by rw [← e.len]; exact lt), h⟩
    · rw [List.getElem?_set_ne (Ne.symm q)] at h'
      rw [List.getElem?_set_ne (Ne.symm q)]
      exact e.at_ j d' h'

/-! ### ends -/
/-- what is wanted of a result -/
def Po {α β : Type} (p : Pg) (Rl : Gh → α → β → Prop) (W : WX) (G : Gh) (σ : L2.St) : R α → (β → Hp → Prop) → Prop
  | .ok a s, Q => ∀ G' b H', GX G G' → G'.st = s → Gd p G' H' → Rl G' a b → Q b H'
  | .exc c ks xs s, _ => ∀ G' H' d fs, GX G G' → G'.st = s → Gd p G' H' → H' d = some (.xd fs) → fs.map (·.1) = ks.map p.nm → Rps p G'.F G'.μ xs (fs.map (·.2)) → W (.ref (p.cA c)) (some d) σ H'
  | .bad, _ => False
section
variable {α β γ δ : Type} {Rl : Gh → α → β → Prop} {Rm : Gh → γ → δ → Prop} {W : WX} {G G' : Gh} {σ : L2.St}
theorem Po.gx {r : R α} {Q : β → Hp → Prop} (h : Po p Rl W G σ r Q) (x : GX G G') : Po p Rl W G' σ r Q := by
  cases r with
  | ok a s => exact fun G2 b H2 x2 e g r => h G2 b H2 (x.trans x2) e g r
  | exc c ks xs s => exact fun G2 H2 d fs x2 e g k r => h G2 H2 d fs (x.trans x2) e g k r
  | bad => exact h
theorem Po.imp {r : R α} {Q Q' : β → Hp → Prop} (h : Po p Rl W G σ r Q) (k : ∀ b H, Q b H → Q' b H) : Po p Rl W G σ r Q' := by
  cases r with
  | ok a s => exact fun G2 b H2 x2 e g r => k _ _ (h G2 b H2 x2 e g r)
  | exc c ks xs s => exact h
  | bad => exact h
theorem Po.bind {r : R α} {k : α → Sto → R γ} {Q : δ → Hp → Prop} (h : Po p Rm W G σ (r.bind k) Q) :
    Po p Rl W G σ r (fun b H => ∃ G' a, GX G G' ∧ Gd p G' H ∧ Rl G' a b ∧ Po p Rm W G' σ (k a G'.st) Q) := by
  cases r with
  | ok a s =>
    intro G2 b H2 x2 e g rl
    subst e
    exact ⟨G2, a, x2, g, rl, Po.gx h x2⟩
  | exc c ks xs s => exact h
  | bad => exact h
theorem Po.ret {a : α} {b : β} {s : Sto} {H : Hp} {Q : β → Hp → Prop} (h : Po p Rl W G σ (.ok a s) Q) (x : GX G G') (e : G'.st = s) (g : Gd p G' H) (r : Rl G' a b) : Q b H := h G' b H x e g r
end
abbrev PoV (p : Pg) := Po p (Rg p)
abbrev PoL (p : Pg) := Po p (Rgs p)
abbrev RlB : Gh → Bool → Bool → Prop := fun _ a b => a = b
abbrev PoB (p : Pg) := Po p RlB

/-! ### readings -/
abbrev GE := En → Sto → R DV
abbrev GL := En → Sto → R (List DV)
abbrev GB := En → Sto → R Bool
def rd (p : Pg) (W : WX) (g : GE) : TE := fun σ H Q => ∃ G ρ, Gd p G H ∧ EnR p G ρ σ ∧ PoV p W G σ (g ρ G.st) Q
def rdL (p : Pg) (W : WX) (g : GL) : TA := fun σ H Q => ∃ G ρ, Gd p G H ∧ EnR p G ρ σ ∧ PoL p W G σ (g ρ G.st) Q
def rdB (p : Pg) (W : WX) (g : GB) : TT := fun σ H Q => ∃ G ρ, Gd p G H ∧ EnR p G ρ σ ∧ PoB p W G σ (g ρ G.st) Q
theorem PE.imp {X : Cx} {e : Expr} {t t' : TE} (h : PE X e t) (k : ∀ σ H Q, t' σ H Q → t σ H Q) : PE X e t' := ⟨fun pins s σ H Q I q => h.run pins s σ H Q I (k σ H Q q)⟩
theorem PT.imp {X : Cx} {e : Expr} {t t' : TT} (h : PT X e t) (k : ∀ σ H Q, t' σ H Q → t σ H Q) : PT X e t' := ⟨fun pins s σ H Q I q => h.run pins s σ H Q I (k σ H Q q)⟩
theorem PA.imp {X : Cx} {e : List Expr} {t t' : TA} (h : PA X e t) (k : ∀ σ H Q, t' σ H Q → t σ H Q) : PA X e t' := ⟨fun pos pins s σ H Q I q => h.run pos pins s σ H Q I (k σ H Q q)⟩
theorem PS.imp {X : Cx} {e : Stmt} {t t' : TS} (h : PS X e t) (k : ∀ D σ H, t' D σ H → t D σ H) : PS X e t' := ⟨fun pins s σ H D I q => h.run pins s σ H D I (k D σ H q)⟩
theorem PSs.imp {X : Cx} {e : List Stmt} {t t' : TS} (h : PSs X e t) (k : ∀ D σ H, t' D σ H → t D σ H) : PSs X e t' := ⟨fun pins s σ H D I q => h.run pins s σ H D I (k D σ H q)⟩

/-! ### statements -/
inductive RS where
  | nx (ρ : En) (s : Sto) | rt (d : DV) (s : Sto) | bk (ρ : En) (s : Sto) | ct (ρ : En) (s : Sto)
  | exc (c : Nat) (ks : List Nat) (xs : List DV) (ρ : En) (s : Sto) | bad
abbrev GS := En → Sto → RS
def PoS (p : Pg) (W : WX) (G : Gh) (D : Ends) : RS → Prop
  | .nx ρ s => ∀ G' σ' H', GX G G' → G'.st = s → Gd p G' H' → EnR p G' ρ σ' → D.nx σ' H'
  | .bk ρ s => ∀ G' σ' H', GX G G' → G'.st = s → Gd p G' H' → EnR p G' ρ σ' → D.bk σ' H'
  | .ct ρ s => ∀ G' σ' H', GX G G' → G'.st = s → Gd p G' H' → EnR p G' ρ σ' → D.ct σ' H'
  | .rt d s => ∀ G' v H', GX G G' → G'.st = s → Gd p G' H' → Rp p G'.F G'.μ d v → D.rt v H'
  | .exc c ks xs ρ s => ∀ G' σ' H' d fs, GX G G' → G'.st = s → Gd p G' H' → EnR p G' ρ σ' → H' d = some (.xd fs) → fs.map (·.1) = ks.map p.nm → Rps p G'.F G'.μ xs (fs.map (·.2)) → W (.ref (p.cA c)) (some d) σ' H'
  | .bad => False
def rdS (p : Pg) (W : WX) (g : GS) : TS := fun D σ H => ∃ G ρ, Gd p G H ∧ EnR p G ρ σ ∧ PoS p W G D (g ρ G.st)
theorem PoS.gx {W : WX} {G G' : Gh} {D : Ends} {r : RS} (h : PoS p W G D r) (x : GX G G') : PoS p W G' D r := by
  cases r with
  | nx ρ s => exact fun G2 σ2 H2 x2 => h G2 σ2 H2 (x.trans x2)
  | bk ρ s => exact fun G2 σ2 H2 x2 => h G2 σ2 H2 (x.trans x2)
  | ct ρ s => exact fun G2 σ2 H2 x2 => h G2 σ2 H2 (x.trans x2)
  | rt d s => exact fun G2 σ2 H2 x2 => h G2 σ2 H2 (x.trans x2)
  | exc c ks xs ρ s => exact fun G2 σ2 H2 d fs x2 => h G2 σ2 H2 d fs (x.trans x2)
  | bad => exact h
/-- an expression's result, then a statement's rest -/
def R.toS {α : Type} (ρ : En) : R α → (α → Sto → RS) → RS
  | .ok a s, k => k a s
  | .exc c ks xs s, _ => .exc c ks xs ρ s
  | .bad, _ => .bad
@[simp] theorem R.toS_ok {α : Type} (ρ : En) (a : α) (s : Sto) (k : α → Sto → RS) : (R.ok a s).toS ρ k = k a s := rfl
theorem PoS.of {α β : Type} {Rl : Gh → α → β → Prop} {W : WX} {G : Gh} {σ : L2.St} {ρ : En} {D : Ends} {r : R α} {k : α → Sto → RS} (h : PoS p W G D (r.toS ρ k)) (e : EnR p G ρ σ) :
    Po p Rl W G σ r (fun b H => ∃ G' a, GX G G' ∧ Gd p G' H ∧ Rl G' a b ∧ PoS p W G' D (k a G'.st)) := by
  cases r with
  | ok a s =>
    intro G2 b H2 x2 e2 g rl
    subst e2
    exact ⟨G2, a, x2, g, rl, PoS.gx h x2⟩
  | exc c ks xs s => exact fun G2 H2 d fs x2 e2 g k r rr => h G2 σ H2 d fs x2 e2 g (e.gx x2) k r rr
  | bad => exact h
@[simp] def RS.seq : RS → GS → RS
  | .nx ρ s, g => g ρ s
  | r, _ => r
theorem PoS.seq {W : WX} {G : Gh} {D : Ends} {r : RS} {g : GS} (h : PoS p W G D (r.seq g)) : PoS p W G { D with nx := rdS p W g D } r := by
  cases r with
  | nx ρ s =>
    intro G2 σ2 H2 x2 e2 gd en
    subst e2
    exact ⟨G2, ρ, gd, en, PoS.gx h x2⟩
  | bk ρ s => exact h
  | ct ρ s => exact h
  | rt d s => exact h
  | exc c ks xs ρ s => exact h
  | bad => exact h
end
end Dq

/-! Expressions. -/
namespace Dq
open PySem PySem.Spec PyProof.Rows L2
section
variable {p : Pg} {X : Cx} {W : WX}

/-! ### names, constants -/
@[simp] def gVar (i : Nat) : GE := fun ρ s => match ρ[i]? with
  | some (some d) => .ok d s
  | _ => .bad
@[simp] def gC (d : DV) : GE := fun _ s => .ok d s
theorem qv (i : Nat) {x : Str} {pos : Pos} (hN : X.N[i]? = some x := by rfl) (hv : Vis X.env.scope x := by first | exact Or.inl rfl | exact Or.inr (Or.inl rfl) | exact Or.inr (Or.inr rfl)) (hd : (x == ("__debug__" : Str)) = false := by decide)
    (hcd : (x == ("__classdict__" : Str)) = false := by decide) : PE X (.Name x pos) (rd p W (gVar i)) := by
  refine PE.imp (L2.pv i hN hv hd hcd) fun σ H Q ⟨G, ρ, g, en, po⟩ => ?_
  unfold gVar at po
  split at po
  · rename_i d e
    obtain ⟨v, e2, r⟩ := en.at_ i d e
    exact ⟨v, e2, Po.ret po GX.rfl' rfl g r⟩
  · exact po.elim
theorem qc {e : Expr} {d : DV} {v : V} (h : PE X e (tC v)) (r : ∀ F μ, Rp p F μ d v) : PE X e (rd p W (gC d)) :=
  PE.imp h fun σ H Q ⟨G, ρ, g, en, po⟩ => Po.ret po GX.rfl' rfl g (r _ _)
theorem qint {i : Int} {j pos} : PE X (.Constant (.int i) j pos) (rd p W (gC (.int i))) := qc pe_int fun _ _ => .int i
theorem qbl {b : Bool} {j pos} : PE X (.Constant (.bool b) j pos) (rd p W (gC (.bl b))) := qc pe_bl fun _ _ => .bl b
theorem qnon {j pos} : PE X (.Constant .none j pos) (rd p W (gC .non)) := qc pe_non fun _ _ => .non
theorem qstr {x : Str} {j pos} : PE X (.Constant (.str x) j pos) (rd p W (gC (.str x))) := qc pe_str fun _ _ => .str x

/-! ### operators -/
/-- what an operation on two values does, by data -/
def rOp (p : Pg) (W : WX) (g : DV → DV → Sto → R DV) : R2 := fun x y H Q => ∃ G a b σ, Gd p G H ∧ Rp p G.F G.μ a x ∧ Rp p G.F G.μ b y ∧ PoV p W G σ (g a b G.st) Q
@[simp] def gBin (g : DV → DV → Sto → R DV) (ga gb : GE) : GE := fun ρ s => (ga ρ s).bind fun a s1 => (gb ρ s1).bind fun b s2 => g a b s2
@[simp] def gUn (g : DV → Sto → R DV) (ga : GE) : GE := fun ρ s => (ga ρ s).bind fun a s1 => g a s1
section
variable {g : DV → DV → Sto → R DV} {ga gb : GE} {a b : Expr} {pos : Pos}
theorem two {ta tb : TE} {σ : L2.St} {H : Hp} {Q : VK} {r : R2} (ha : ∀ σ H Q, rd p W ga σ H Q → ta σ H Q) (hb : ∀ σ H Q, rd p W gb σ H Q → tb σ H Q)
    (hr : ∀ x y H Q, (∃ G a b, Gd p G H ∧ Rp p G.F G.μ a x ∧ Rp p G.F G.μ b y ∧ PoV p W G σ (g a b G.st) Q) → r x y H Q) (h : rd p W (gBin g ga gb) σ H Q) :
    ta σ H fun x H1 => tb σ H1 fun y H2 => r x y H2 Q := by
  obtain ⟨G, ρ, gd, en, po⟩ := h
  refine ha σ H _ ⟨G, ρ, gd, en, (Po.bind po).imp fun v H1 ⟨G1, a, x1, gd1, r1, po1⟩ => ?_⟩
  refine hb σ H1 _ ⟨G1, ρ, gd1, en.gx x1, (Po.bind po1).imp fun u H2 ⟨G2, b, x2, gd2, r2, po2⟩ => ?_⟩
  exact hr v u H2 Q ⟨G2, a, b, gd2, Rg.gx r1 x2, r2, po2⟩
theorem qbin {op : Operator} (ho : OpR X (binaryOp op) (rOp p W g)) (ha : PE X a (rd p W ga)) (hb : PE X b (rd p W gb)) : PE X (.BinOp a op b pos) (rd p W (gBin g ga gb)) :=
  PE.imp (pe_op ho ha hb) fun σ H Q h => two (fun _ _ _ z => z) (fun _ _ _ z => z) (fun x y H Q ⟨G, a, b, gd, r1, r2, po⟩ => ⟨G, a, b, σ, gd, r1, r2, po⟩) h
theorem qcmp {op : CmpOp} (ho : OpR X (compareOp op) (rOp p W g)) (ha : PE X a (rd p W ga)) (hb : PE X b (rd p W gb)) (hm : behindInMarks op b = false) : PE X (.Compare a [op] [b] pos) (rd p W (gBin g ga gb)) :=
  PE.imp (pe_cmpR ho ha hb hm) fun σ H Q h => two (fun _ _ _ z => z) (fun _ _ _ z => z) (fun x y H Q ⟨G, a, b, gd, r1, r2, po⟩ => ⟨G, a, b, σ, gd, r1, r2, po⟩) h
end
/-- a result that is not an exception -/
theorem OpR.of {f : Value → Value → Sem Value} {g : DV → DV → Sto → R DV} (h : ∀ (G : Gh) (H : Hp) (σ : L2.St) (a b : DV) (x y : V) (Q : VK), Gd p G H → Rp p G.F G.μ a x → Rp p G.F G.μ b y → PoV p W G σ (g a b G.st) Q →
      ∃ r : R2, OpR X f r ∧ r x y H Q) : OpR X f (rOp p W g) := fun pins s σ H x y v u Q I rx ry ⟨G, a, b, σ', gd, r1, r2, po⟩ => by
  obtain ⟨r, hr, q⟩ := h G H σ' a b x y Q gd r1 r2 po
  exact hr pins s σ H x y v u Q I rx ry q
/-- new immutable things -/
theorem new_lst {G : Gh} {H : Hp} {σ : L2.St} {xs : List DV} {vs : List V} {Q : VK} (gd : Gd p G H) (r : Rps p G.F G.μ xs vs) (po : PoV p W G σ (.ok (.lst xs) G.st) Q) {q : Addr} (hq : H q = none) : Q (.ref q) (upd H q (.lst vs)) :=
  Po.ret po (GX.lay gd hq) rfl (gd.lay hq) (.lst (by show upd G.F q _ q = _; rw [upd_same]) (Rgs.gx r (GX.lay gd hq)))
theorem new_tup {G : Gh} {H : Hp} {σ : L2.St} {xs : List DV} {vs : List V} {Q : VK} (gd : Gd p G H) (r : Rps p G.F G.μ xs vs) (po : PoV p W G σ (.ok (.tup xs) G.st) Q) {q : Addr} (hq : H q = none) : Q (.ref q) (upd H q (.tup vs)) :=
  Po.ret po (GX.lay gd hq) rfl (gd.lay hq) (.tup (SqT.of (by show upd G.F q _ q = _; rw [upd_same])) (Rgs.gx r (GX.lay gd hq)))
theorem new_mut {G : Gh} {H : Hp} {σ : L2.St} {xs : List DV} {vs : List V} {Q : VK} (gd : Gd p G H) (r : Rps p G.F G.μ xs vs) (po : PoV p W G σ (.ok (.mr G.st.length) (G.st ++ [some (.lst xs)])) Q) {q : Addr} (hq : H q = none) : Q (.ref q) (upd H q (.lst vs)) :=
  Po.ret po (GX.add (m := .lst xs) (a := q)) rfl (gd.add hq ⟨vs, rfl, r⟩) (.mr (by rw [← gd.len]; exact Gh.add_at))

/-! ### whole numbers, texts, lists under an operator -/
def mulOk (i j : Int) : Bool := decide (i.natAbs.log2 + j.natAbs.log2 < 134217000)
def divOk (j : Int) : Bool := decide (j ≠ 0) && decide (j.natAbs.log2 < 9000)
def powOk (i j : Int) : Bool := decide (0 ≤ j) && decide (j ≤ 1000000) && decide (i.natAbs < 2 ^ 64)
def okIf (c : Bool) (d : DV) (s : Sto) : R DV := match c with
  | true => .ok d s
  | false => .bad
theorem okIf_true {d : DV} {s : Sto} : okIf true d s = .ok d s := rfl
@[simp] def addD : DV → DV → Sto → R DV
  | .int i, .int j, s => .ok (.int (i + j)) s
  | .str x, .str y, s => okIf (decide (x.length + y.length ≤ sizeLine)) (.str (x ++ y)) s
  | .lst xs, .lst ys, s => okIf (decide (xs.length + ys.length ≤ sizeLine)) (.lst (xs ++ ys)) s
  | .tup xs, .tup ys, s => okIf (!xs.isEmpty && decide (xs.length + ys.length ≤ sizeLine)) (.tup (xs ++ ys)) s
  | _, _, _ => .bad
@[simp] def subD : DV → DV → Sto → R DV
  | .int i, .int j, s => .ok (.int (i - j)) s
  | _, _, _ => .bad
def mulD : DV → DV → Sto → R DV
  | .int i, .int j, s => okIf (mulOk i j) (.int (i * j)) s
  | .lst xs, .int k, s => okIf (decide (0 ≤ k ∧ k < 2 ^ 63 ∧ xs.length * k.toNat ≤ sizeLine)) (.lst (List.replicate k.toNat xs).flatten) s
  | _, _, _ => .bad
def fdivD : DV → DV → Sto → R DV
  | .int i, .int j, s => okIf (divOk j) (.int (i.fdiv j)) s
  | _, _, _ => .bad
def modD : DV → DV → Sto → R DV
  | .int i, .int j, s => okIf (decide (j ≠ 0)) (.int (i.fmod j)) s
  | _, _, _ => .bad
def powD : DV → DV → Sto → R DV
  | .int i, .int j, s => okIf (powOk i j) (.int (i ^ j.toNat)) s
  | _, _, _ => .bad
theorem okIf_po {c : Bool} {d : DV} {s : Sto} {G : Gh} {σ : L2.St} {Q : VK} (h : PoV p W G σ (okIf c d s) Q) : c = true ∧ PoV p W G σ (.ok d s) Q := by
  cases c with
  | true => exact ⟨rfl, h⟩
  | false => exact h.elim
theorem Rps.nil_iff {F : Hp} {μ : List Addr} {ds : List DV} {vs : List V} (h : Rps p F μ ds vs) : vs = [] ↔ ds = [] := by
  have := h.length
  constructor
  · rintro rfl; exact List.eq_nil_of_length_eq_zero (by simpa using this)
  · rintro rfl; exact List.eq_nil_of_length_eq_zero (by simpa using this.symm)
theorem opd_add (hK : X.K = p.K) : OpR X (binaryOp .Add) (rOp p W addD) := OpR.of fun G H σ a b x y Q gd ra rb po => by
  unfold addD at po
  split at po
  · cases ra; cases rb
    exact ⟨_, op_add, _, _, rfl, rfl, Po.ret po GX.rfl' rfl gd (.int _)⟩
  · cases ra; cases rb
    obtain ⟨c, po⟩ := okIf_po po
    exact ⟨_, op_add_str, _, _, rfl, rfl, of_decide_eq_true c, Po.ret po GX.rfl' rfl gd (.str _)⟩
  · cases ra with
    | lst ha rs =>
      cases rb with
      | lst hb rt =>
        obtain ⟨c, po⟩ := okIf_po po
        refine ⟨_, op_cat, _, _, _, _, rfl, rfl, gd.le _ _ ha, gd.le _ _ hb, ?_, fun q hq => new_lst gd (rs.app rt) po hq⟩
        rw [← rs.length, ← rt.length]; exact of_decide_eq_true c
  · cases ra with
    | tup ha rs =>
      cases rb with
      | tup hb rt =>
        obtain ⟨c, po⟩ := okIf_po po
        rw [Bool.and_eq_true] at c
        refine ⟨_, op_catT, _, _, _, _, rfl, rfl, by rw [hK]; exact sqT_up gd.le ha, by rw [hK]; exact sqT_up gd.le hb, fun z => ?_, ?_, fun z => ?_, fun z q hq => new_tup gd (rs.app rt) po hq⟩
        · rw [rs.nil_iff.mp z] at c; exact absurd c.1 (by decide)
        · rw [← rs.length, ← rt.length]; exact of_decide_eq_true c.2
        · rw [rt.nil_iff.mp z, List.append_nil] at po
          exact Po.ret po GX.rfl' rfl gd (.tup ha rs)
  · exact po.elim
theorem opd_sub : OpR X (binaryOp .Sub) (rOp p W subD) := OpR.of fun G H σ a b x y Q gd ra rb po => by
  unfold subD at po
  split at po
  · cases ra; cases rb
    exact ⟨_, op_sub, _, _, rfl, rfl, Po.ret po GX.rfl' rfl gd (.int _)⟩
  · exact po.elim
theorem mulOk_ok {i j : Int} (h : mulOk i j = true) : IntMulOk i j := by
  have h' := of_decide_eq_true h
  exact CMulX.ok (mulx_ok (a := i.natAbs.log2 + 1) (b := j.natAbs.log2 + 1) Nat.lt_log2_self Nat.lt_log2_self (by omega))
theorem opd_mul : OpR X (binaryOp .Mult) (rOp p W mulD) := OpR.of fun G H σ a b x y Q gd ra rb po => by
  unfold mulD at po
  split at po
  · cases ra; cases rb
    obtain ⟨c, po⟩ := okIf_po po
    exact ⟨_, opI (g := fun i j => i * j) (C := IntMulOk) fun _ _ _ _ _ _ _ hc q => mul_int q hc, _, _, rfl, rfl, mulOk_ok c, Po.ret po GX.rfl' rfl gd (.int _)⟩
  · cases rb
    cases ra with
    | lst ha rs =>
      obtain ⟨c, po⟩ := okIf_po po
      have c := of_decide_eq_true c
      refine ⟨_, op_rep, _, _, _, rfl, rfl, gd.le _ _ ha, by omega, c.2.1, ?_, fun q hq => new_lst gd (rs.rep _) po hq⟩
      rw [← rs.length]; exact c.2.2
  · exact po.elim
theorem opd_fdiv : OpR X (binaryOp .FloorDiv) (rOp p W fdivD) := OpR.of fun G H σ a b x y Q gd ra rb po => by
  unfold fdivD at po
  split at po
  · cases ra; cases rb
    obtain ⟨c, po⟩ := okIf_po po
    unfold divOk at c
    rw [Bool.and_eq_true] at c
    refine ⟨_, opI (g := fun i j => i.fdiv j) (C := fun _ j => j ≠ 0 ∧ j.natAbs.log2 < 9000) fun i j _ _ _ _ _ hc q => floordiv_int hc.1 q (.inl (PyProof.noPylong_of_log2 hc.2)), _, _, rfl, rfl, ⟨of_decide_eq_true c.1, of_decide_eq_true c.2⟩, Po.ret po GX.rfl' rfl gd (.int _)⟩
  · exact po.elim
theorem opd_mod : OpR X (binaryOp .Mod) (rOp p W modD) := OpR.of fun G H σ a b x y Q gd ra rb po => by
  unfold modD at po
  split at po
  · cases ra; cases rb
    obtain ⟨c, po⟩ := okIf_po po
    exact ⟨_, op_modN, _, _, rfl, rfl, of_decide_eq_true c, Po.ret po GX.rfl' rfl gd (.int _)⟩
  · exact po.elim
theorem opd_pow : OpR X (binaryOp .Pow) (rOp p W powD) := OpR.of fun G H σ a b x y Q gd ra rb po => by
  unfold powD at po
  split at po
  · cases ra; cases rb
    obtain ⟨c, po⟩ := okIf_po po
    unfold powOk at c
    rw [Bool.and_eq_true, Bool.and_eq_true] at c
    exact ⟨_, op_pow, _, _, rfl, rfl, ⟨of_decide_eq_true c.1.1, of_decide_eq_true c.1.2, of_decide_eq_true c.2⟩, Po.ret po GX.rfl' rfl gd (.int _)⟩
  · exact po.elim
def rUn1 (p : Pg) (W : WX) (g : DV → Sto → R DV) : V → Hp → VK → Prop := fun x H Q => ∃ G a σ, Gd p G H ∧ Rp p G.F G.μ a x ∧ PoV p W G σ (g a G.st) Q
@[simp] def negD : DV → Sto → R DV
  | .int i, s => .ok (.int (-i)) s
  | _, _ => .bad
theorem one {g : DV → Sto → R DV} {ga : GE} {ta : TE} {σ : L2.St} {H : Hp} {Q : VK} {r : V → Hp → VK → Prop} (ha : ∀ σ H Q, rd p W ga σ H Q → ta σ H Q)
    (hr : ∀ x H Q, (∃ G a, Gd p G H ∧ Rp p G.F G.μ a x ∧ PoV p W G σ (g a G.st) Q) → r x H Q) (h : rd p W (gUn g ga) σ H Q) : ta σ H fun x H1 => r x H1 Q := by
  obtain ⟨G, ρ, gd, en, po⟩ := h
  exact ha σ H _ ⟨G, ρ, gd, en, (Po.bind po).imp fun v H1 ⟨G1, a, x1, gd1, r1, po1⟩ => hr v H1 Q ⟨G1, a, gd1, r1, po1⟩⟩
theorem qun {op : UnaryOp} {g : DV → Sto → R DV} {ga : GE} {a : Expr} {pos : Pos} (ho : UnR X (unaryOp op) (rUn1 p W g)) (ha : PE X a (rd p W ga)) : PE X (.UnaryOp op a pos) (rd p W (gUn g ga)) :=
  PE.imp (pe_un ho ha) fun σ H Q h => one (fun _ _ _ z => z) (fun x H Q ⟨G, a, gd, r1, po⟩ => ⟨G, a, σ, gd, r1, po⟩) h
theorem UnR.of {f : Value → Sem Value} {g : DV → Sto → R DV} (h : ∀ (G : Gh) (H : Hp) (σ : L2.St) (a : DV) (x : V) (Q : VK), Gd p G H → Rp p G.F G.μ a x → PoV p W G σ (g a G.st) Q →
      ∃ r : V → Hp → VK → Prop, UnR X f r ∧ r x H Q) : UnR X f (rUn1 p W g) := fun pins s σ H x v Q I rx ⟨G, a, σ', gd, r1, po⟩ => by
  obtain ⟨r, hr, q⟩ := h G H σ' a x Q gd r1 po
  exact hr pins s σ H x v Q I rx q
theorem opd_neg : UnR X (unaryOp .USub) (rUn1 p W negD) := UnR.of fun G H σ a x Q gd ra po => by
  unfold negD at po
  split at po
  · cases ra
    exact ⟨_, un_neg, _, rfl, Po.ret po GX.rfl' rfl gd (.int _)⟩
  · exact po.elim

/-! ### comparisons -/
@[simp] def ordD (f : Int → Int → Bool) : DV → DV → Sto → R DV
  | .int i, .int j, s => .ok (.bl (f i j)) s
  | _, _, _ => .bad
abbrev ltD := ordD fun i j => decide (i < j)
abbrev leD := ordD fun i j => decide (i ≤ j)
abbrev gtD := ordD fun i j => decide (j < i)
abbrev geD := ordD fun i j => decide (j ≤ i)
theorem opd_ord {f : Value → Value → Sem Value} {k : Int → Int → Bool} (h : OpR X f (rI0 fun i j => .bl (k i j))) : OpR X f (rOp p W (ordD k)) := OpR.of fun G H σ a b x y Q gd ra rb po => by
  unfold ordD at po
  split at po
  · cases ra; cases rb
    exact ⟨_, h, _, _, rfl, rfl, Po.ret po GX.rfl' rfl gd (.bl _)⟩
  · exact po.elim
theorem opd_lt : OpR X (compareOp .Lt) (rOp p W ltD) := opd_ord op_lt
theorem opd_le : OpR X (compareOp .LtE) (rOp p W leD) := opd_ord op_le
theorem opd_gt : OpR X (compareOp .Gt) (rOp p W gtD) := opd_ord op_gt
theorem opd_ge : OpR X (compareOp .GtE) (rOp p W geD) := opd_ord op_ge
mutual
/-- as the library's data -/
def DV.py : DV → Option PyData
  | .non => some .none
  | .bl b => some (.bool b)
  | .int i => some (.int i)
  | .str x => some (.str x)
  | .lst xs => (DV.pys xs).map .list
  | .wl xs => (DV.pys xs).map .list
  | .tup xs => (DV.pys xs).map .tuple
  | .ins _ _ _ => none
  | .mr _ => none
  | .exn _ _ _ => none
def DV.pys : List DV → Option (List PyData)
  | [] => some []
  | x :: xs => match x.py, DV.pys xs with
    | some d, some ds => some (d :: ds)
    | _, _ => none
end
/-- with a list that is still in the making at the top -/
def pyS (s : Sto) : DV → Option PyData
  | .mr k => match s[k]? with
    | some (some (.lst xs)) => (DV.pys xs).map .list
    | _ => none
  | d => d.py
def eqD (a b : DV) (s : Sto) : R DV := match pyS s a, pyS s b with
  | some d, some e => okIf (SeqAt.shaped d && SeqAt.shaped e) (.bl (PyData.eqv d e)) s
  | _, _ => .bad
def neD (a b : DV) (s : Sto) : R DV := match pyS s a, pyS s b with
  | some d, some e => okIf (SeqAt.shaped d && SeqAt.shaped e) (.bl (!PyData.eqv d e)) s
  | _, _ => .bad
mutual
theorem dp_of {F : Hp} {μ : List Addr} : ∀ (d : DV) (v : V) (y : PyData), Rp p F μ d v → d.py = some y → Dp p.K F v y
  | .non, _, _, .non, h => by unfold DV.py at h; cases h; exact .non
  | .bl _, _, _, .bl b, h => by unfold DV.py at h; cases h; exact .bl b
  | .int _, _, _, .int i, h => by unfold DV.py at h; cases h; exact .int i
  | .str _, _, _, .str x, h => by unfold DV.py at h; cases h; exact .str x
  | .lst xs, _, _, .lst a r, h => by
    unfold DV.py at h
    cases e : DV.pys xs with
    | none => rw [e] at h; cases h
    | some ys => rw [e] at h; cases h; exact .lst (SqL.of a) (dps_of xs _ ys r e)
  | .wl xs, _, _, .wl a r, h => by
    unfold DV.py at h
    cases e : DV.pys xs with
    | none => rw [e] at h; cases h
    | some ys => rw [e] at h; cases h; exact .lst a (dps_of xs _ ys r e)
  | .tup xs, _, _, .tup a r, h => by
    unfold DV.py at h
    cases e : DV.pys xs with
    | none => rw [e] at h; cases h
    | some ys => rw [e] at h; cases h; exact .tup a (dps_of xs _ ys r e)
  | .ins _ _ _, _, _, _, h => by unfold DV.py at h; cases h
  | .mr _, _, _, _, h => by unfold DV.py at h; cases h
  | .exn _ _ _, _, _, _, h => by unfold DV.py at h; cases h
theorem dps_of {F : Hp} {μ : List Addr} : ∀ (ds : List DV) (vs : List V) (ys : List PyData), Rps p F μ ds vs → DV.pys ds = some ys → DpAll p.K F vs ys
  | [], _, _, .nil, h => by unfold DV.pys at h; cases h; exact .nil
  | d :: ds, _, _, .cons r t, h => by
    unfold DV.pys at h
    cases e1 : d.py with
    | none => rw [e1] at h; cases h
    | some y =>
      cases e2 : DV.pys ds with
      | none => rw [e1, e2] at h; cases h
      | some ys => rw [e1, e2] at h; cases h; exact .cons (dp_of d _ y r e1) (dps_of ds _ ys t e2)
end
mutual
theorem dp_up {K : PySem.W.Frag} {F H : Hp} (k : ∀ a o, F a = some o → H a = some o) : ∀ (y : PyData) (v : V), Dp K F v y → Dp K H v y
  | _, _, .non => .non
  | _, _, .bl b => .bl b
  | _, _, .int i => .int i
  | _, _, .str x => .str x
  | .list ys, _, .lst a r => .lst (sqL_up k a) (dps_up k ys _ r)
  | .tuple ys, _, .tup a r => .tup (sqT_up k a) (dps_up k ys _ r)
theorem dps_up {K : PySem.W.Frag} {F H : Hp} (k : ∀ a o, F a = some o → H a = some o) : ∀ (ys : List PyData) (vs : List V), DpAll K F vs ys → DpAll K H vs ys
  | [], _, .nil => .nil
  | y :: ys, _, .cons a b => .cons (dp_up k y _ a) (dps_up k ys _ b)
end
theorem dpS_of {G : Gh} {H : Hp} (gd : Gd p G H) {d : DV} {v : V} {y : PyData} (r : Rp p G.F G.μ d v) (h : pyS G.st d = some y) : Dp p.K H v y := by
  unfold pyS at h
  split at h
  · split at h
    · rename_i k _ xs e
      cases r with
      | mr hm =>
        obtain ⟨a, e1, e2, vs, e3, e4⟩ := gd.live k _ e
        rw [hm] at e1; cases e1
        cases e5 : DV.pys xs with
        | none => rw [e5] at h; cases h
        | some ys => rw [e5] at h; cases h; exact .lst (SqL.of e3) (dps_up gd.le ys _ (dps_of xs _ ys e4 e5))
    · cases h
  · exact dp_up gd.le y _ (dp_of d v y r h)
theorem opd_eq (hK : X.K = p.K) (hu : X.A.units + 64 < cLine) : OpR X (compareOp .Eq) (rOp p W eqD) := OpR.of fun G H σ a b x y Q gd ra rb po => by
  unfold eqD at po
  split at po
  · rename_i d e h1 h2
    obtain ⟨c, po⟩ := okIf_po po
    rw [Bool.and_eq_true] at c
    exact ⟨_, op_eqD hu, d, e, by rw [hK]; exact dpS_of gd ra h1, by rw [hK]; exact dpS_of gd rb h2, c.1, c.2, Po.ret po GX.rfl' rfl gd (.bl _)⟩
  · exact po.elim
theorem opd_ne (hK : X.K = p.K) (hu : X.A.units + 64 < cLine) : OpR X (compareOp .NotEq) (rOp p W neD) := OpR.of fun G H σ a b x y Q gd ra rb po => by
  unfold neD at po
  split at po
  · rename_i d e h1 h2
    obtain ⟨c, po⟩ := okIf_po po
    rw [Bool.and_eq_true] at c
    exact ⟨_, op_neD hu, d, e, by rw [hK]; exact dpS_of gd ra h1, by rw [hK]; exact dpS_of gd rb h2, c.1, c.2, Po.ret po GX.rfl' rfl gd (.bl _)⟩
  · exact po.elim
/-- is None -/
@[simp] def DV.isN : DV → Bool
  | .non => true
  | _ => false
@[simp] def isD (neg : Bool) : DV → DV → Sto → R DV
  | a, .non, s => .ok (.bl (if neg then !a.isN else a.isN)) s
  | _, _, _ => .bad
theorem Rp.isN {F : Hp} {μ : List Addr} {d : DV} {v : V} (h : Rp p F μ d v) : decide (v = .non) = d.isN := by
  cases h <;> rfl
theorem opd_is : OpR X (compareOp .Is) (rOp p W (isD false)) := OpR.of fun G H σ a b x y Q gd ra rb po => by
  unfold isD at po
  split at po
  · cases rb
    exact ⟨_, op_isN, rfl, by rw [ra.isN]; exact Po.ret po GX.rfl' rfl gd (.bl _)⟩
  · exact po.elim
theorem opd_isnot : OpR X (compareOp .IsNot) (rOp p W (isD true)) := OpR.of fun G H σ a b x y Q gd ra rb po => by
  unfold isD at po
  split at po
  · cases rb
    exact ⟨_, op_notN, rfl, by rw [ra.isN]; exact Po.ret po GX.rfl' rfl gd (.bl _)⟩
  · exact po.elim
/-- the items of a list or tuple -/
@[simp] def seqS (s : Sto) : DV → Option (List DV)
  | .lst xs => some xs
  | .wl xs => some xs
  | .tup xs => some xs
  | .mr k => match s[k]? with
    | some (some (.lst xs)) => some xs
    | _ => none
  | _ => none
theorem seq_of {G : Gh} {H : Hp} (gd : Gd p G H) {d : DV} {v : V} {xs : List DV} (r : Rp p G.F G.μ d v) (h : seqS G.st d = some xs) :
    ∃ a vs, v = .ref a ∧ (SqL p.K H a vs ∨ SqT p.K H a vs) ∧ Rps p G.F G.μ xs vs := by
  unfold seqS at h
  split at h
  · cases h
    cases r with
    | lst e rs => exact ⟨_, _, rfl, .inl (SqL.of (gd.le _ _ e)), rs⟩
  · cases h
    cases r with
    | wl e rs => exact ⟨_, _, rfl, .inl (sqL_up gd.le e), rs⟩
  · cases h
    cases r with
    | tup e rs => exact ⟨_, _, rfl, .inr (sqT_up gd.le e), rs⟩
  · split at h
    · rename_i k _ ys e
      cases h
      cases r with
      | mr hm =>
        obtain ⟨a, e1, e2, vs, e3, e4⟩ := gd.live k _ e
        rw [hm] at e1; cases e1
        exact ⟨_, vs, rfl, .inl (SqL.of e3), e4⟩
    · cases h
  · cases h
def DV.flat : DV → Bool
  | .non => true
  | .bl _ => true
  | .int _ => true
  | .str _ => true
  | _ => false
def eqF : DV → DV → Bool
  | .non, .non => true
  | .bl a, .bl b => a == b
  | .bl a, .int b => (if a then 1 else 0) == b
  | .int a, .bl b => a == (if b then 1 else 0)
  | .int a, .int b => a == b
  | .str a, .str b => a == b
  | _, _ => false
theorem flat_of {F : Hp} {μ : List Addr} {d : DV} {v : V} (h : Rp p F μ d v) (f : d.flat = true) : flatV v = true := by
  cases h <;> first | rfl | cases f
theorem flats_of {F : Hp} {μ : List Addr} : ∀ {ds : List DV} {vs : List V}, Rps p F μ ds vs → ds.all DV.flat = true → vs.all flatV = true
  | [], _, .nil, _ => rfl
  | _ :: _, _, .cons r t, f => by
    rw [List.all_cons, Bool.and_eq_true] at f ⊢
    exact ⟨flat_of r f.1, flats_of t f.2⟩
theorem eqV_of {F : Hp} {μ : List Addr} {d e : DV} {v u : V} (h : Rp p F μ d v) (k : Rp p F μ e u) : d.flat = true → e.flat = true → eqV v u = eqF d e := by
  intro f1 f2
  cases h <;> cases k <;> first | rfl | (exact nomatch f1) | (exact nomatch f2)
def inF (x : DV) (xs : List DV) : Bool := xs.any fun y => eqF y x
theorem inV_of {F : Hp} {μ : List Addr} {d : DV} {v : V} (h : Rp p F μ d v) (f : d.flat = true) : ∀ {ds : List DV} {vs : List V}, Rps p F μ ds vs → ds.all DV.flat = true → inV v vs = inF d ds
  | [], _, .nil, _ => rfl
  | _ :: _, _, .cons r t, g => by
    rw [List.all_cons, Bool.and_eq_true] at g
    unfold inV inF
    rw [List.any_cons, List.any_cons, eqV_of r h g.1 f]
    have := inV_of h f t g.2
    unfold inV inF at this
    rw [this]
def inD (neg : Bool) (x c : DV) (s : Sto) : R DV := match seqS s c with
  | some xs => okIf (x.flat && xs.all DV.flat) (.bl (if neg then !inF x xs else inF x xs)) s
  | none => .bad
theorem opd_inG {f : Value → Value → Sem Value} {neg : Bool} (h : OpR X f (rIn X.K neg)) (hK : X.K = p.K) : OpR X f (rOp p W (inD neg)) := OpR.of fun G H σ a b x y Q gd ra rb po => by
  unfold inD at po
  split at po
  · rename_i xs e
    obtain ⟨c, po⟩ := okIf_po po
    rw [Bool.and_eq_true] at c
    obtain ⟨q, vs, rfl, hs, rs⟩ := seq_of gd rb e
    refine ⟨_, h, q, vs, rfl, by rw [hK]; exact hs, flat_of ra c.1, flats_of rs c.2, ?_⟩
    rw [inV_of ra c.1 rs c.2]
    exact Po.ret po GX.rfl' rfl gd (.bl _)
  · exact po.elim
theorem opd_in (hK : X.K = p.K) : OpR X (compareOp .In) (rOp p W (inD false)) := opd_inG op_in_seq hK
theorem opd_notin (hK : X.K = p.K) : OpR X (compareOp .NotIn) (rOp p W (inD true)) := opd_inG op_notIn_seq hK
end
end Dq

/-! Tests, displays, items, arguments. -/
namespace Dq
open PySem PySem.Spec PyProof.Rows L2
section
variable {p : Pg} {X : Cx} {W : WX}

/-! ### tests -/
@[simp] def truB : DV → Sto → R Bool
  | .bl b, s => .ok b s
  | _, _ => .bad
@[simp] def truD : DV → Sto → R Bool
  | .non, s => .ok false s
  | .bl b, s => .ok b s
  | .int i, s => .ok (i != 0) s
  | .str x, s => match decide (x.length ≤ sizeLine) with
    | true => .ok ((x.length : Int) != 0) s
    | false => .bad
  | .lst xs, s => .ok (!xs.isEmpty) s
  | .wl xs, s => .ok (!xs.isEmpty) s
  | .tup xs, s => .ok (!xs.isEmpty) s
  | .mr k, s => match s[k]? with
    | some (some (.lst xs)) => .ok (!xs.isEmpty) s
    | _ => .bad
  | _, _ => .bad
@[simp] def gT (f : DV → Sto → R Bool) (g : GE) : GB := fun ρ s => (g ρ s).bind f
theorem Rps.isEmpty {F : Hp} {μ : List Addr} {ds : List DV} {vs : List V} (h : Rps p F μ ds vs) : (!vs.isEmpty) = !ds.isEmpty := by
  cases ds <;> cases vs <;> first | rfl | (exact nomatch h.length) | (cases h)
theorem tru_of {G : Gh} {H : Hp} {σ : L2.St} (gd : Gd p G H) {d : DV} {v : V} (r : Rp p G.F G.μ d v) {Q : Bool → Hp → Prop} (po : PoB p W G σ (truD d G.st) Q) : ∃ k, TruV p.K v H k ∧ Q k H := by
  unfold truD at po
  split at po
  · cases r; exact ⟨false, rfl, Po.ret po GX.rfl' rfl gd rfl⟩
  · cases r; exact ⟨_, rfl, Po.ret po GX.rfl' rfl gd rfl⟩
  · cases r; exact ⟨_, rfl, Po.ret po GX.rfl' rfl gd rfl⟩
  · cases r
    split at po
    · rename_i c
      exact ⟨_, ⟨of_decide_eq_true c, rfl⟩, Po.ret po GX.rfl' rfl gd rfl⟩
    · exact po.elim
  · cases r with
    | lst a rs => exact ⟨_, .inl ⟨_, SqL.of (gd.le _ _ a), (Rps.isEmpty rs).symm⟩, Po.ret po GX.rfl' rfl gd rfl⟩
  · cases r with
    | wl a rs => exact ⟨_, .inl ⟨_, sqL_up gd.le a, (Rps.isEmpty rs).symm⟩, Po.ret po GX.rfl' rfl gd rfl⟩
  · cases r with
    | tup a rs => exact ⟨_, .inr (.inl ⟨_, sqT_up gd.le a, (Rps.isEmpty rs).symm⟩), Po.ret po GX.rfl' rfl gd rfl⟩
  · cases r with
    | mr hm =>
      split at po
      · rename_i xs e
        obtain ⟨a, e1, e2, vs, e3, e4⟩ := gd.live _ _ e
        rw [hm] at e1; cases e1
        exact ⟨_, .inl ⟨_, SqL.of e3, (Rps.isEmpty e4).symm⟩, Po.ret po GX.rfl' rfl gd rfl⟩
      · exact po.elim
  · exact po.elim
theorem rdB_tru {g : GE} {σ : L2.St} {H : Hp} {Q : Bool → Hp → Prop} (h : rdB p W (gT truD g) σ H Q) : rd p W g σ H fun x H1 => ∃ k, TruV p.K x H1 k ∧ Q k H1 := by
  obtain ⟨G, ρ, gd, en, po⟩ := h
  exact ⟨G, ρ, gd, en, (Po.bind po).imp fun v H1 ⟨G1, a, x1, gd1, r1, po1⟩ => tru_of gd1 r1 po1⟩
theorem rdB_b {g : GE} {σ : L2.St} {H : Hp} {Q : Bool → Hp → Prop} (h : rdB p W (gT truB g) σ H Q) : rd p W g σ H fun x H1 => ∃ k, x = .bl k ∧ Q k H1 := by
  obtain ⟨G, ρ, gd, en, po⟩ := h
  refine ⟨G, ρ, gd, en, (Po.bind po).imp fun v H1 ⟨G1, a, x1, gd1, r1, po1⟩ => ?_⟩
  unfold truB at po1
  split at po1
  · cases r1; exact ⟨_, rfl, Po.ret po1 GX.rfl' rfl gd1 rfl⟩
  · exact po1.elim
section
variable {a b c : Expr} {pos : Pos} {g g2 : DV → DV → Sto → R DV} {ga gb gc : GE} {rest : List Expr} {ta tb : GB}
theorem qt (ha : PE X a (rd p W ga)) (he : ∀ whole, isTrue a X.env whole = (do let v ← whole; standAt a.pos; holding [v] (truthy v)) := by intro _; rfl) (hK : X.K = p.K := by rfl) : PT X a (rdB p W (gT truD ga)) :=
  PT.imp (pt_truth ha he) fun σ H Q h => by rw [hK]; exact rdB_tru h
theorem qtcmp {op : CmpOp} (ho : OpR X (compareOp op) (rOp p W g)) (ha : PE X a (rd p W ga)) (hb : PE X b (rd p W gb)) (hm : behindInMarks op b = false) : PT X (.Compare a [op] [b] pos) (rdB p W (gT truB (gBin g ga gb))) :=
  PT.imp (pt_cmpR ho ha hb hm) fun σ H Q h => two (fun _ _ _ z => z) (fun _ _ _ z => z) (fun x y H Q ⟨G, a, b, gd, r1, r2, po⟩ => ⟨G, a, b, σ, gd, r1, r2, po⟩) (rdB_b h)
/-- a op b op c -/
def gChain (g g2 : DV → DV → Sto → R DV) (ga gb gc : GE) : GE := fun ρ s => (ga ρ s).bind fun a s1 => (gb ρ s1).bind fun b s2 => (g a b s2).bind fun z s3 => match z with
  | .bl true => (gc ρ s3).bind fun c s4 => g2 b c s4
  | .bl false => .ok (.bl false) s3
  | _ => .bad
theorem chain_of {σ : L2.St} {H : Hp} {Q : VK} (h : rd p W (gChain g g2 ga gb gc) σ H Q) : tChain (rOp p W g) (rOp p W g2) (rd p W ga) (rd p W gb) (rd p W gc) σ H Q := by
  obtain ⟨G, ρ, gd, en, po⟩ := h
  refine ⟨G, ρ, gd, en, (Po.bind po).imp fun v H1 ⟨G1, a, x1, gd1, r1, po1⟩ => ?_⟩
  refine ⟨G1, ρ, gd1, en.gx x1, (Po.bind po1).imp fun u H2 ⟨G2, b, x2, gd2, r2, po2⟩ => ?_⟩
  refine ⟨G2, a, b, σ, gd2, Rg.gx r1 x2, r2, (Po.bind po2).imp fun z H3 ⟨G3, zd, x3, gd3, r3, po3⟩ => ?_⟩
  split at po3
  · cases r3
    refine ⟨true, rfl, ?_⟩
    show rd p W gc σ H3 _
    refine ⟨G3, ρ, gd3, en.gx (x1.trans (x2.trans x3)), (Po.bind po3).imp fun w H4 ⟨G4, c, x4, gd4, r4, po4⟩ => ?_⟩
    exact ⟨G4, b, c, σ, gd4, Rg.gx r2 (x3.trans x4), r4, po4⟩
  · cases r3
    exact ⟨false, rfl, Po.ret po3 GX.rfl' rfl gd3 (.bl _)⟩
  · exact po3.elim
theorem qchain {op op' : CmpOp} (ho : OpR X (compareOp op) (rOp p W g)) (ho' : OpR X (compareOp op') (rOp p W g2)) (ha : PE X a (rd p W ga)) (hb : PE X b (rd p W gb)) (hc : PE X c (rd p W gc))
    (hm : lastMarks [op, op'] [b, c] = false := by with_unfolding_all rfl) : PE X (.Compare a [op, op'] [b, c] pos) (rd p W (gChain g g2 ga gb gc)) :=
  PE.imp (pe_chain ho ho' ha hb hc hm) fun _ _ _ h => chain_of h
theorem qtchain {op op' : CmpOp} (ho : OpR X (compareOp op) (rOp p W g)) (ho' : OpR X (compareOp op') (rOp p W g2)) (ha : PE X a (rd p W ga)) (hb : PE X b (rd p W gb)) (hc : PE X c (rd p W gc))
    (hm : lastMarks [op, op'] [b, c] = false := by with_unfolding_all rfl) : PT X (.Compare a [op, op'] [b, c] pos) (rdB p W (gT truB (gChain g g2 ga gb gc))) :=
  PT.imp (pt_chain ho ho' ha hb hc hm) fun _ _ _ h => chain_of (rdB_b h)
@[simp] def gAnd (ta tb : GB) : GB := fun ρ s => (ta ρ s).bind fun c s1 => match c with
  | true => tb ρ s1
  | false => .ok false s1
@[simp] def gOr (ta tb : GB) : GB := fun ρ s => (ta ρ s).bind fun c s1 => match c with
  | true => .ok true s1
  | false => tb ρ s1
@[simp] def gNot (ta : GB) : GB := fun ρ s => (ta ρ s).bind fun c s1 => .ok (!c) s1
theorem qtnot (ha : PT X a (rdB p W ta)) : PT X (.UnaryOp .Not a pos) (rdB p W (gNot ta)) :=
  PT.imp (pt_not ha) fun σ H Q ⟨G, ρ, gd, en, po⟩ => ⟨G, ρ, gd, en, (Po.bind po).imp fun v H1 ⟨G1, a, x1, gd1, r1, po1⟩ => by cases r1; exact Po.ret po1 GX.rfl' rfl gd1 rfl⟩
theorem PW.imp {e : Expr} {t t' : TT} (h : PW X e t) (k : ∀ σ H Q, t' σ H Q → t σ H Q) : PW X e t' := ⟨fun wh pins s σ H Q I q => h.run wh pins s σ H Q I (k σ H Q q)⟩
theorem qw1 {op : BoolOp} (ha : PT X a (rdB p W ta)) : PW X (.BoolOp op [a] pos) (rdB p W ta) := by
  cases op with
  | And => exact pw_and1 ha
  | Or => exact pw_or1 ha
theorem qwand (ha : PT X a (rdB p W ta)) (hb : PW X (.BoolOp .And (b :: rest) pos) (rdB p W tb)) : PW X (.BoolOp .And (a :: b :: rest) pos) (rdB p W (gAnd ta tb)) :=
  PW.imp (pw_and ha hb) fun σ H Q ⟨G, ρ, gd, en, po⟩ => ⟨G, ρ, gd, en, (Po.bind po).imp fun v H1 ⟨G1, a, x1, gd1, r1, po1⟩ => by
    cases r1
    cases v with
    | true => exact iteT ⟨G1, ρ, gd1, en.gx x1, po1⟩
    | false => exact iteF (Po.ret po1 GX.rfl' rfl gd1 rfl)⟩
theorem qwor (ha : PT X a (rdB p W ta)) (hb : PW X (.BoolOp .Or (b :: rest) pos) (rdB p W tb)) : PW X (.BoolOp .Or (a :: b :: rest) pos) (rdB p W (gOr ta tb)) :=
  PW.imp (pw_or ha hb) fun σ H Q ⟨G, ρ, gd, en, po⟩ => ⟨G, ρ, gd, en, (Po.bind po).imp fun v H1 ⟨G1, a, x1, gd1, r1, po1⟩ => by
    cases r1
    cases v with
    | true => exact iteT (Po.ret po1 GX.rfl' rfl gd1 rfl)
    | false => exact iteF ⟨G1, ρ, gd1, en.gx x1, po1⟩⟩
/-! ### and, or, not as values; a if c else b -/
@[simp] def gAndV (ga gb : GE) : GE := fun ρ s => (ga ρ s).bind fun a s1 => (truD a s1).bind fun k s2 => match k with
  | true => gb ρ s2
  | false => .ok a s2
@[simp] def gOrV (ga gb : GE) : GE := fun ρ s => (ga ρ s).bind fun a s1 => (truD a s1).bind fun k s2 => match k with
  | true => .ok a s2
  | false => gb ρ s2
@[simp] def gNotV (ga : GE) : GE := fun ρ s => (ga ρ s).bind fun a s1 => (truD a s1).bind fun k s2 => .ok (.bl (!k)) s2
theorem q1 {op : BoolOp} (ha : PE X a (rd p W ga)) : PE X (.BoolOp op [a] pos) (rd p W ga) := pe_one ha
theorem tru_po {G : Gh} {H : Hp} {σ : L2.St} (gd : Gd p G H) {d : DV} {v : V} (r : Rp p G.F G.μ d v) {f : Bool → Sto → R DV} {Q : VK} (po : PoV p W G σ ((truD d G.st).bind f) Q) :
    ∃ k, TruV p.K v H k ∧ PoV p W G σ (f k G.st) Q := by
  have e := tru_of (W := W) (Q := fun k H' => PoV p W G σ (f k G.st) Q) gd r (σ := σ) (by
    cases h : truD d G.st with
    | ok k s =>
      rw [h] at po
      intro G' b H' x e g rl
      cases rl
      have es : s = G.st := by
        unfold truD at h
        split at h <;> first | (cases h; rfl) | (split at h <;> first | (cases h; rfl) | cases h) | cases h
      subst es
      exact po
    | exc c ks xs s =>
      unfold truD at h
      split at h <;> first | cases h | (split at h <;> cases h)
    | bad => rw [h] at po; exact po)
  exact e
theorem qand (ha : PE X a (rd p W ga)) (hb : PE X (.BoolOp .And (b :: rest) pos) (rd p W gb)) (hK : X.K = p.K := by rfl) : PE X (.BoolOp .And (a :: b :: rest) pos) (rd p W (gAndV ga gb)) :=
  PE.imp (pe_andT ha hb) fun σ H Q ⟨G, ρ, gd, en, po⟩ => ⟨G, ρ, gd, en, (Po.bind po).imp fun v H1 ⟨G1, a, x1, gd1, r1, po1⟩ => by
    obtain ⟨k, t, po2⟩ := tru_po gd1 r1 po1
    refine ⟨k, by rw [hK]; exact t, ?_⟩
    cases k with
    | true => exact iteT ⟨G1, ρ, gd1, en.gx x1, po2⟩
    | false => exact iteF (Po.ret po2 GX.rfl' rfl gd1 r1)⟩
theorem qor (ha : PE X a (rd p W ga)) (hb : PE X (.BoolOp .Or (b :: rest) pos) (rd p W gb)) (hK : X.K = p.K := by rfl) : PE X (.BoolOp .Or (a :: b :: rest) pos) (rd p W (gOrV ga gb)) :=
  PE.imp (pe_orT ha hb) fun σ H Q ⟨G, ρ, gd, en, po⟩ => ⟨G, ρ, gd, en, (Po.bind po).imp fun v H1 ⟨G1, a, x1, gd1, r1, po1⟩ => by
    obtain ⟨k, t, po2⟩ := tru_po gd1 r1 po1
    refine ⟨k, by rw [hK]; exact t, ?_⟩
    cases k with
    | true => exact iteT (Po.ret po2 GX.rfl' rfl gd1 r1)
    | false => exact iteF ⟨G1, ρ, gd1, en.gx x1, po2⟩⟩
theorem qnot (ha : PE X a (rd p W ga)) (hK : X.K = p.K := by rfl) : PE X (.UnaryOp .Not a pos) (rd p W (gNotV ga)) :=
  PE.imp (pe_notT ha) fun σ H Q ⟨G, ρ, gd, en, po⟩ => ⟨G, ρ, gd, en, (Po.bind po).imp fun v H1 ⟨G1, a, x1, gd1, r1, po1⟩ => by
    obtain ⟨k, t, po2⟩ := tru_po gd1 r1 po1
    exact ⟨k, by rw [hK]; exact t, Po.ret po2 GX.rfl' rfl gd1 (.bl _)⟩⟩
@[simp] def gIf (tc : GB) (ga gb : GE) : GE := fun ρ s => (tc ρ s).bind fun k s1 => match k with
  | true => ga ρ s1
  | false => gb ρ s1
theorem qif {tc : GB} (hc : PT X c (rdB p W tc)) (ha : PE X a (rd p W ga)) (hb : PE X b (rd p W gb)) : PE X (.IfExp c a b pos) (rd p W (gIf tc ga gb)) :=
  PE.imp (pe_ifExp hc ha hb) fun σ H Q ⟨G, ρ, gd, en, po⟩ => ⟨G, ρ, gd, en, (Po.bind po).imp fun v H1 ⟨G1, a, x1, gd1, r1, po1⟩ => by
    cases r1
    cases v with
    | true => exact iteT ⟨G1, ρ, gd1, en.gx x1, po1⟩
    | false => exact iteF ⟨G1, ρ, gd1, en.gx x1, po1⟩⟩
end

/-! ### argument lists, displays -/
@[simp] def gNil : GL := fun _ s => .ok [] s
@[simp] def gCons (ga : GE) (gl : GL) : GL := fun ρ s => (ga ρ s).bind fun a s1 => (gl ρ s1).bind fun l s2 => .ok (a :: l) s2
section
variable {e : Expr} {es : List Expr} {ga : GE} {gl : GL} {pos : Pos}
theorem qnil : PA X [] (rdL p W gNil) := PA.imp pa_nil fun σ H Q ⟨G, ρ, gd, en, po⟩ => Po.ret po GX.rfl' rfl gd .nil
theorem qcons (ha : PE X e (rd p W ga)) (hl : PA X es (rdL p W gl)) (hs : starEach (e :: es) X.env = (false, eval e X.env) :: starEach es X.env := by rfl) : PA X (e :: es) (rdL p W (gCons ga gl)) :=
  PA.imp (pa_cons ha hl hs) fun σ H Q ⟨G, ρ, gd, en, po⟩ => ⟨G, ρ, gd, en, (Po.bind po).imp fun v H1 ⟨G1, a, x1, gd1, r1, po1⟩ =>
    ⟨G1, ρ, gd1, en.gx x1, (Po.bind po1).imp fun vs H2 ⟨G2, l, x2, gd2, r2, po2⟩ => Po.ret po2 GX.rfl' rfl gd2 (.cons (Rg.gx r1 x2) r2)⟩⟩
@[simp] def gTup (gl : GL) : GE := fun ρ s => (gl ρ s).bind fun l s1 => okIf (decide (l.length ≤ sizeLine)) (.tup l) s1
@[simp] def gLst (gl : GL) : GE := fun ρ s => (gl ρ s).bind fun l s1 => okIf (decide (l.length ≤ sizeLine)) (.lst l) s1
/-- a list that will be changed -/
@[simp] def gMut (gl : GL) : GE := fun ρ s => (gl ρ s).bind fun l s1 => okIf (decide (l.length ≤ sizeLine)) (.mr s1.length) (s1 ++ [some (.lst l)])
theorem okIf_ok {c : Bool} {d : DV} {s : Sto} {G : Gh} {σ : L2.St} {Q : VK} (h : PoV p W G σ (okIf c d s) Q) : c = true ∧ PoV p W G σ (.ok d s) Q := okIf_po h
theorem qtup {x1} (hl : PA X es (rdL p W gl)) : PE X (.Tuple es x1 pos) (rd p W (gTup gl)) :=
  PE.imp (pe_tup hl) fun σ H Q ⟨G, ρ, gd, en, po⟩ => ⟨G, ρ, gd, en, (Po.bind po).imp fun vs H1 ⟨G1, l, x1, gd1, r1, po1⟩ => by
    obtain ⟨c, po1⟩ := okIf_po po1
    exact ⟨by rw [← Rps.length r1]; exact of_decide_eq_true c, fun q hq => new_tup gd1 r1 po1 hq⟩⟩
theorem qlst (hl : PA X es (rdL p W gl)) : PE X (.List es pos) (rd p W (gLst gl)) :=
  PE.imp (pe_lst hl) fun σ H Q ⟨G, ρ, gd, en, po⟩ => ⟨G, ρ, gd, en, (Po.bind po).imp fun vs H1 ⟨G1, l, x1, gd1, r1, po1⟩ => by
    obtain ⟨c, po1⟩ := okIf_po po1
    exact ⟨by rw [← Rps.length r1]; exact of_decide_eq_true c, fun q hq => new_lst gd1 r1 po1 hq⟩⟩
theorem qmut (hl : PA X es (rdL p W gl)) : PE X (.List es pos) (rd p W (gMut gl)) :=
  PE.imp (pe_lst hl) fun σ H Q ⟨G, ρ, gd, en, po⟩ => ⟨G, ρ, gd, en, (Po.bind po).imp fun vs H1 ⟨G1, l, x1, gd1, r1, po1⟩ => by
    obtain ⟨c, po1⟩ := okIf_po po1
    exact ⟨by rw [← Rps.length r1]; exact of_decide_eq_true c, fun q hq => new_mut gd1 r1 po1 hq⟩⟩
end

/-! ### items and slices -/
def ixD (a i : DV) (s : Sto) : R DV := match i with
  | .int k => match a with
    | .str z => match decide (z.length ≤ sizeLine), atI z.cps.toList k with
      | true, some c => .ok (.str ⟨#[c]⟩) s
      | _, _ => .bad
    | a => match seqS s a with
      | some xs => match atI xs k with
        | some d => .ok d s
        | none => .bad
      | none => .bad
  | _ => .bad
theorem atI_of {F : Hp} {μ : List Addr} {ds : List DV} {vs : List V} {k : Int} {d : DV} (h : Rps p F μ ds vs) (e : atI ds k = some d) : ∃ v, atI vs k = some v ∧ Rp p F μ d v := by
  unfold atI at e ⊢
  rw [← h.length]
  cases q : ixN ds.length k with
  | none => rw [q] at e; cases e
  | some j =>
    rw [q] at e
    exact h.get (i := j) (by simpa using e)
theorem opd_ix (hK : X.K = p.K) : IxR X (rOp p W ixD) := fun value slice pins s σ H x y v u Q I rx ry ⟨G, a, i, σ', gd, ra, ri, po⟩ hs => by
  unfold ixD at po
  split at po
  · cases ri
    split at po
    · cases ra
      split at po
      · rename_i h1 h2
        exact ix_str value slice pins s σ H _ _ v u Q I rx ry ⟨_, _, _, rfl, rfl, of_decide_eq_true h1, h2, Po.ret po GX.rfl' rfl gd (.str _)⟩ hs
      · exact po.elim
    · split at po
      · rename_i xs e
        split at po
        · rename_i d ed
          obtain ⟨q, vs, rfl, hq, rs⟩ := seq_of gd ra e
          obtain ⟨w, ew, rw'⟩ := atI_of rs ed
          rcases hq with hq | hq
          · exact ix_list value slice pins s σ H _ _ v u Q I rx ry ⟨q, vs, _, w, rfl, rfl, by rw [hK]; exact hq, ew, Po.ret po GX.rfl' rfl gd rw'⟩ hs
          · exact ix_tup value slice pins s σ H _ _ v u Q I rx ry ⟨q, vs, _, w, rfl, rfl, by rw [hK]; exact hq, ew, Po.ret po GX.rfl' rfl gd rw'⟩ hs
        · exact po.elim
      · exact po.elim
  · exact po.elim
theorem qix {a b : Expr} {ga gb : GE} {pos : Pos} (ha : PE X a (rd p W ga)) (hb : PE X b (rd p W gb)) (hs : PlainIx b) (hK : X.K = p.K := by rfl) : PE X (.Subscript a b pos) (rd p W (gBin ixD ga gb)) :=
  PE.imp (pe_ix (opd_ix hK) ha hb hs) fun σ H Q h => two (fun _ _ _ z => z) (fun _ _ _ z => z) (fun x y H Q ⟨G, a, b, gd, r1, r2, po⟩ => ⟨G, a, b, σ, gd, r1, r2, po⟩) h
/-- a slice's part -/
abbrev GO := En → Sto → R (Option Int)
def gNo : GO := fun _ s => .ok none s
def gPart (g : GE) : GO := fun ρ s => (g ρ s).bind fun d s1 => match d with
  | .int i => .ok (some i) s1
  | _ => .bad
def rdO (p : Pg) (W : WX) (g : GO) : TO := fun σ H Q => ∃ G ρ, Gd p G H ∧ EnR p G ρ σ ∧ Po p (fun _ (a b : Option Int) => a = b) W G σ (g ρ G.st) Q
theorem PO.imp {e : Option Expr} {t t' : TO} (h : PO X e t) (k : ∀ σ H Q, t' σ H Q → t σ H Q) : PO X e t' := ⟨fun pins s σ H Q I q => h.run pins s σ H Q I (k σ H Q q)⟩
theorem qno : PO X none (rdO p W gNo) := PO.imp po_none fun σ H Q ⟨G, ρ, gd, en, po⟩ => Po.ret po GX.rfl' rfl gd rfl
theorem qpart {e : Expr} {g : GE} (h : PE X e (rd p W g)) : PO X (some e) (rdO p W (gPart g)) :=
  PO.imp (po_some h) fun σ H Q ⟨G, ρ, gd, en, po⟩ => ⟨G, ρ, gd, en, (Po.bind po).imp fun v H1 ⟨G1, a, x1, gd1, r1, po1⟩ => by
    split at po1
    · cases r1; exact ⟨_, rfl, Po.ret po1 GX.rfl' rfl gd1 rfl⟩
    · exact po1.elim⟩
def cutD (xs : List DV) (lo hi : Option Int) : List DV := (xs.drop (HT.sIx xs.length 0 lo)).take (HT.sIx xs.length xs.length hi - HT.sIx xs.length 0 lo)
def slD (a : DV) (lo hi : Option Int) (s : Sto) : R DV := match a with
  | .lst xs => .ok (.lst (cutD xs lo hi)) s
  | .wl xs => .ok (.lst (cutD xs lo hi)) s
  | .mr k => match s[k]? with
    | some (some (.lst xs)) => .ok (.lst (cutD xs lo hi)) s
    | _ => .bad
  | .tup xs => okIf (!(decide (HT.sIx xs.length 0 lo = 0) && decide (HT.sIx xs.length xs.length hi = xs.length))) (.tup (cutD xs lo hi)) s
  | .str z => okIf (decide (z.length ≤ sizeLine)) (.str (cutS z lo hi)) s
  | _ => .bad
theorem Rps.cut {F : Hp} {μ : List Addr} {ds : List DV} {vs : List V} (h : Rps p F μ ds vs) (lo hi : Option Int) : Rps p F μ (cutD ds lo hi) (cutV vs lo hi) := by
  unfold cutD cutV
  rw [h.length]
  exact (h.drop _).take _
def gSl (ga : GE) (gl gh : GO) : GE := fun ρ s => (ga ρ s).bind fun a s1 => (gl ρ s1).bind fun l s2 => (gh ρ s2).bind fun h s3 => slD a l h s3
def rSlD (p : Pg) (W : WX) : V → Option Int → Option Int → Hp → VK → Prop := fun x lo hi H Q => ∃ G a σ, Gd p G H ∧ Rp p G.F G.μ a x ∧ PoV p W G σ (slD a lo hi G.st) Q
theorem opd_sl (hK : X.K = p.K) : SlR X (rSlD p W) := fun pins s σ H x v vl vu lo hi sl Q I rx hs pl pu ⟨G, a, σ', gd, ra, po⟩ => by
  unfold slD at po
  split at po
  · cases ra with
    | lst e rs => exact sl_list pins s σ H _ v vl vu lo hi sl Q I rx hs pl pu ⟨_, _, rfl, SqL.of (gd.le _ _ e), fun q hq => new_lst gd (rs.cut lo hi) po hq⟩
  · cases ra with
    | wl e rs => exact sl_list pins s σ H _ v vl vu lo hi sl Q I rx hs pl pu ⟨_, _, rfl, by rw [hK]; exact sqL_up gd.le e, fun q hq => new_lst gd (rs.cut lo hi) po hq⟩
  · cases ra with
    | mr hm =>
      split at po
      · rename_i xs e
        obtain ⟨a, e1, e2, vs, e3, e4⟩ := gd.live _ _ e
        rw [hm] at e1; cases e1
        exact sl_list pins s σ H _ v vl vu lo hi sl Q I rx hs pl pu ⟨_, _, rfl, SqL.of e3, fun q hq => new_lst gd (e4.cut lo hi) po hq⟩
      · exact po.elim
  · cases ra with
    | tup e rs =>
      obtain ⟨c, po⟩ := okIf_po po
      refine sl_tup pins s σ H _ v vl vu lo hi sl Q I rx hs pl pu ⟨_, _, rfl, by rw [hK]; exact sqT_up gd.le e, ?_, fun q hq => new_tup gd (rs.cut lo hi) po hq⟩
      rw [← rs.length]
      intro z
      rw [decide_eq_true z.1, decide_eq_true z.2] at c
      exact nomatch c
  · cases ra
    obtain ⟨c, po⟩ := okIf_po po
    exact sl_str pins s σ H _ v vl vu lo hi sl Q I rx hs pl pu ⟨_, rfl, of_decide_eq_true c, Po.ret po GX.rfl' rfl gd (.str _)⟩
  · exact po.elim
theorem qsl {e : Expr} {lo hi : Option Expr} {pos p2 : Pos} {ga : GE} {gl gh : GO} (he : PE X e (rd p W ga)) (hl : PO X lo (rdO p W gl)) (hh : PO X hi (rdO p W gh)) (hK : X.K = p.K := by rfl) : PE X (.Subscript e (.Slice lo hi none p2) pos) (rd p W (gSl ga gl gh)) :=
  PE.imp (pe_slice (opd_sl hK) he hl hh) fun σ H Q ⟨G, ρ, gd, en, po⟩ => ⟨G, ρ, gd, en, (Po.bind po).imp fun v H1 ⟨G1, a, x1, gd1, r1, po1⟩ =>
    ⟨G1, ρ, gd1, en.gx x1, (Po.bind po1).imp fun l H2 ⟨G2, l', x2, gd2, r2, po2⟩ => ⟨G2, ρ, gd2, en.gx (x1.trans x2), (Po.bind po2).imp fun h H3 ⟨G3, h', x3, gd3, r3, po3⟩ => by
      cases r2; cases r3
      exact ⟨G3, a, σ, gd3, Rg.gx r1 (x2.trans x3), po3⟩⟩⟩⟩
/-- xs[::-1] -/
def revD (a : DV) (s : Sto) : R DV := match a with
  | .lst xs => .ok (.lst xs.reverse) s
  | .wl xs => .ok (.lst xs.reverse) s
  | .mr k => match s[k]? with
    | some (some (.lst xs)) => .ok (.lst xs.reverse) s
    | _ => .bad
  | _ => .bad
theorem qrev {e : Expr} {ga : GE} {k : Nat} {p1 p2 p3 pos : Pos} (he : PE X e (rd p W ga)) (hK : X.K = p.K := by rfl) : PE X (.Subscript e (.Slice none none (some (.UnaryOp .USub (.Constant (.int 1) k p1) p2)) p3) pos) (rd p W (gUn revD ga)) :=
  PE.imp (pe_revL he) fun σ H Q h => one (r := fun x H1 Q => ∃ a xs, x = V.ref a ∧ SqL X.K H1 a xs ∧ ∀ q, H1 q = none → Q (.ref q) (upd H1 q (.lst xs.reverse))) (fun _ _ _ z => z) (fun x H Q ⟨G, a, gd, ra, po⟩ => by
    unfold revD at po
    split at po
    · cases ra with
      | lst e rs => exact ⟨_, _, rfl, SqL.of (gd.le _ _ e), fun q hq => new_lst gd rs.rev po hq⟩
    · cases ra with
      | wl e rs => exact ⟨_, _, rfl, by rw [hK]; exact sqL_up gd.le e, fun q hq => new_lst gd rs.rev po hq⟩
    · cases ra with
      | mr hm =>
        split at po
        · rename_i xs e
          obtain ⟨a, e1, e2, vs, e3, e4⟩ := gd.live _ _ e
          rw [hm] at e1; cases e1
          exact ⟨_, _, rfl, SqL.of e3, fun q hq => new_lst gd e4.rev po hq⟩
        · exact po.elim
    · exact po.elim) h
end
end Dq

/-! Statements. -/
namespace Dq
open PySem PySem.Spec PyProof.Rows L2
section
variable {p : Pg} {X : Cx} {W : WX}

/-! ### plain ones -/
@[simp] def gExpr (ge : GE) : GS := fun ρ s => (ge ρ s).toS ρ fun _ s1 => .nx ρ s1
@[simp] def gRet (ge : GE) : GS := fun ρ s => (ge ρ s).toS ρ fun d s1 => .rt d s1
@[simp] def gRetN : GS := fun _ s => .rt .non s
@[simp] def gNext : GS := fun ρ s => .nx ρ s
def gBreak : GS := fun ρ s => .bk ρ s
def gCont : GS := fun ρ s => .ct ρ s
@[simp] def gSet (i : Nat) (ge : GE) : GS := fun ρ s => (ge ρ s).toS ρ fun d s1 => .nx (ρ.set i (some d)) s1
@[simp] def gSeq (a b : GS) : GS := fun ρ s => (a ρ s).seq b
@[simp] def gIfS (c : GB) (a b : GS) : GS := fun ρ s => (c ρ s).toS ρ fun k s1 => match k with
  | true => a ρ s1
  | false => b ρ s1
def gBad : GS := fun _ _ => .bad
section
variable {e : Expr} {st : Stmt} {rest : List Stmt} {ge : GE} {ga gb : GS} {gc : GB} {pos : Pos}
theorem sexpr (he : PE X e (rd p W ge)) (hs : swapsWith e none pos.line X.env = pure false := by rfl) : PS X (.Expr e pos) (rdS p W (gExpr ge)) :=
  PS.imp (ps_expr he hs) fun D σ H ⟨G, ρ, gd, en, po⟩ => ⟨G, ρ, gd, en, (PoS.of po en).imp fun v H1 ⟨G1, a, x1, gd1, r1, po1⟩ => po1 G1 σ H1 GX.rfl' rfl gd1 (en.gx x1)⟩
theorem sret (he : PE X e (rd p W ge)) : PS X (.Return (some e) pos) (rdS p W (gRet ge)) :=
  PS.imp (ps_ret he) fun D σ H ⟨G, ρ, gd, en, po⟩ => ⟨G, ρ, gd, en, (PoS.of po en).imp fun v H1 ⟨G1, a, x1, gd1, r1, po1⟩ => po1 G1 v H1 GX.rfl' rfl gd1 r1⟩
theorem sretN : PS X (.Return none pos) (rdS p W gRetN) :=
  PS.imp ps_retN fun D σ H ⟨G, ρ, gd, en, po⟩ => po G .non H GX.rfl' rfl gd .non
theorem spass : PS X (.Pass pos) (rdS p W gNext) := PS.imp ps_pass fun D σ H ⟨G, ρ, gd, en, po⟩ => po G σ H GX.rfl' rfl gd en
theorem sdoc {x j pos pos'} : PS X (.Expr (.Constant (.str x) j pos) pos') (rdS p W gNext) := PS.imp ps_doc fun D σ H ⟨G, ρ, gd, en, po⟩ => po G σ H GX.rfl' rfl gd en
theorem sbreak : PS X (.Break pos) (rdS p W gBreak) := PS.imp ps_break fun D σ H ⟨G, ρ, gd, en, po⟩ => po G σ H GX.rfl' rfl gd en
theorem scont : PS X (.Continue pos) (rdS p W gCont) := PS.imp ps_continue fun D σ H ⟨G, ρ, gd, en, po⟩ => po G σ H GX.rfl' rfl gd en
/-- a statement that is not reached -/
theorem snever : PS X st (rdS p W gBad) := PS.imp ps_never fun D σ H ⟨G, ρ, gd, en, po⟩ => po
theorem bnil : PSs X [] (rdS p W gNext) := PSs.imp pss_nil fun D σ H ⟨G, ρ, gd, en, po⟩ => po G σ H GX.rfl' rfl gd en
theorem bone (h : PS X st (rdS p W ga)) : PSs X [st] (rdS p W ga) := pss_one h
theorem bcons (h : PS X st (rdS p W ga)) (hr : PSs X rest (rdS p W gb)) : PSs X (st :: rest) (rdS p W (gSeq ga gb)) :=
  PSs.imp (pss_cons h hr) fun D σ H ⟨G, ρ, gd, en, po⟩ => ⟨G, ρ, gd, en, PoS.seq po⟩
theorem sset (i : Nat) {x : Str} {pos' : Pos} (hN : X.N.Nodup) (hx : Loc X.env.scope x) (he : PE X e (rd p W ge)) (hi : X.N[i]? = some x := by rfl) (hs : swapsWith e (some (.Name x pos')) pos.line X.env = pure false := by rfl) (hf : X.fn x = true ∨ X.env.scope.names.lookup x = some .local := by first | exact .inl rfl | exact .inr rfl) :
    PS X (.Assign [.Name x pos'] e pos) (rdS p W (gSet i ge)) :=
  PS.imp (ps_set (i := i) hN hi hx he hs hf) fun D σ H ⟨G, ρ, gd, en, po⟩ => ⟨G, ρ, gd, en, (PoS.of po en).imp fun v H1 ⟨G1, a, x1, gd1, r1, po1⟩ => po1 G1 _ H1 GX.rfl' rfl gd1 ((en.gx x1).set r1 i)⟩
theorem sif {c : Expr} {a b : List Stmt} (hc : PT X c (rdB p W gc)) (ha : PSs X a (rdS p W ga)) (hb : PSs X b (rdS p W gb)) : PS X (.If c a b pos) (rdS p W (gIfS gc ga gb)) :=
  PS.imp (ps_if hc ha hb) fun D σ H ⟨G, ρ, gd, en, po⟩ => ⟨G, ρ, gd, en, (PoS.of po en).imp fun v H1 ⟨G1, a, x1, gd1, r1, po1⟩ => by
    cases r1
    cases v with
    | true => exact iteT ⟨G1, ρ, gd1, en.gx x1, po1⟩
    | false => exact iteF ⟨G1, ρ, gd1, en.gx x1, po1⟩⟩
end

/-! ### targets -/
abbrev GTg := DV → En → Option En
abbrev GTs := List DV → En → Option En
@[simp] def tN (i : Nat) : GTg := fun d ρ => some (ρ.set i (some d))
@[simp] def tNil : GTs := fun ds ρ => match ds with
  | [] => some ρ
  | _ => none
@[simp] def tCons (t : GTg) (ts : GTs) : GTs := fun ds ρ => match ds with
  | d :: r => (t d ρ).bind fun ρ1 => ts r ρ1
  | [] => none
@[simp] def tTup (n : Nat) (ts : GTs) : GTg := fun d ρ => match d with
  | .tup xs => match decide (xs.length = n) with
    | true => ts xs ρ
    | false => none
  | _ => none
def PoT (p : Pg) (G : Gh) (H : Hp) (Q : L2.St → Hp → Prop) : Option En → Prop
  | some ρ => ∀ σ', EnR p G ρ σ' → Q σ' H
  | none => False
def rdG (p : Pg) (g : GTg) : TG := fun v σ H Q => ∃ G ρ d, Gd p G H ∧ EnR p G ρ σ ∧ Rp p G.F G.μ d v ∧ PoT p G H Q (g d ρ)
def rdGs (p : Pg) (g : GTs) : TGs := fun vs σ H Q => ∃ G ρ ds, Gd p G H ∧ EnR p G ρ σ ∧ Rps p G.F G.μ ds vs ∧ PoT p G H Q (g ds ρ)
theorem PG.imp {e : Expr} {t t' : TG} (h : PG X e t) (k : ∀ v σ H Q, t' v σ H Q → t v σ H Q) : PG X e t' := ⟨fun pins s σ H v u Q I r q => h.run pins s σ H v u Q I r (k v σ H Q q)⟩
theorem PGs.imp {e : List Expr} {t t' : TGs} (h : PGs X e t) (k : ∀ v σ H Q, t' v σ H Q → t v σ H Q) : PGs X e t' := ⟨fun pins s σ H v u Q I r q => h.run pins s σ H v u Q I r (k v σ H Q q)⟩
theorem gname (i : Nat) {x : Str} {pos : Pos} (hN : X.N.Nodup) (hx : Loc X.env.scope x) (hi : X.N[i]? = some x := by rfl) (hf : X.fn x = true ∨ X.env.scope.names.lookup x = some .local := by first | exact .inl rfl | exact .inr rfl) : PG X (.Name x pos) (rdG p (tN i)) :=
  PG.imp (pg_name (i := i) hN hi hx hf) fun v σ H Q ⟨G, ρ, d, gd, en, r, po⟩ => po _ (en.set r i)
theorem gnil : PGs X [] (rdGs p tNil) := PGs.imp pgs_nil fun vs σ H Q ⟨G, ρ, ds, gd, en, r, po⟩ => by
  cases r with
  | nil => exact ⟨rfl, po σ en⟩
  | cons _ _ => exact po.elim
theorem gcons {e : Expr} {es : List Expr} {t : GTg} {ts : GTs} (h : PG X e (rdG p t)) (hr : PGs X es (rdGs p ts)) (hs : (assignEach (e :: es) X.env).map (·.2) = assign e X.env :: (assignEach es X.env).map (·.2) := by rfl) : PGs X (e :: es) (rdGs p (tCons t ts)) :=
  PGs.imp (pgs_cons h hr hs) fun vs σ H Q ⟨G, ρ, ds, gd, en, r, po⟩ => by
    cases r with
    | nil => exact po.elim
    | @cons d v ds' vs' r1 r2 =>
      refine ⟨v, vs', rfl, G, ρ, d, gd, en, r1, ?_⟩
      have po : PoT p G H Q ((t d ρ).bind fun ρ1 => ts ds' ρ1) := po
      cases e1 : t d ρ with
      | none => rw [e1] at po; exact po
      | some ρ1 =>
        rw [e1] at po
        exact fun σ' en' => ⟨G, ρ1, ds', gd, en', r2, po⟩
theorem gtup {es : List Expr} {k : Nat} {pos : Pos} {ts : GTs} {n : Nat} (hc : X.calm = true) (h : PGs X es (rdGs p ts)) (hK : X.K = p.K := by rfl)
    (hn : (assignEach es X.env).length = n := by rfl) (hst : (assignEach es X.env).findIdx? (·.1) = none := by rfl) : PG X (.Tuple es k pos) (rdG p (tTup n ts)) :=
  PG.imp (pg_tup hc h hn hst) fun v σ H Q ⟨G, ρ, d, gd, en, r, po⟩ => by
    unfold tTup at po
    split at po
    · cases r with
      | tup e rs =>
        split at po
        · rename_i c
          exact ⟨_, _, rfl, by rw [hK]; exact sqT_up gd.le e, by rw [← rs.length]; exact of_decide_eq_true c, G, ρ, _, gd, en, rs, po⟩
        · exact po.elim
    · exact po.elim
@[simp] def gAsg (ge : GE) (t : GTg) : GS := fun ρ s => (ge ρ s).toS ρ fun d s1 => match t d ρ with
  | some ρ' => .nx ρ' s1
  | none => .bad
theorem PoT.of {G : Gh} {H : Hp} {D : Ends} {o : Option En} (gd : Gd p G H) (h : PoS p W G D (match o with | some ρ' => RS.nx ρ' G.st | none => .bad)) : PoT p G H D.nx o := by
  cases o with
  | none => exact h
  | some ρ' => exact fun σ' en' => h G σ' H GX.rfl' rfl gd en'
theorem sasg {tg e : Expr} {ge : GE} {t : GTg} {pos : Pos} (he : PE X e (rd p W ge)) (hg : PG X tg (rdG p t)) (hs : swapsWithSole [tg] e pos.line X.env = pure false := by rfl) (hw : swappedStores [tg] e X.env = pure none := by rfl)
    (h1 : (assignEach [tg] X.env).map (·.2) = [assign tg X.env] := by rfl) : PS X (.Assign [tg] e pos) (rdS p W (gAsg ge t)) :=
  PS.imp (ps_asg he hg hs hw h1) fun D σ H ⟨G, ρ, gd, en, po⟩ => ⟨G, ρ, gd, en, (PoS.of po en).imp fun v H1 ⟨G1, a, x1, gd1, r1, po1⟩ =>
    ⟨G1, ρ, a, gd1, en.gx x1, r1, PoT.of gd1 po1⟩⟩
/-- a, b = x, y -/
@[simp] def gPar (i j : Nat) (gl : GL) : GS := fun ρ s => (gl ρ s).toS ρ fun ds s1 => match ds with
  | [d, e] => .nx ((ρ.set i (some d)).set j (some e)) s1
  | _ => .bad
theorem spar {i j : Nat} {x y : Str} {a b : Expr} {gl : GL} {px py pt pos : Pos} {kt k2 pt2} (hc : X.calm = true) (hN : X.N.Nodup) (hi : X.N[i]? = some x) (hj : X.N[j]? = some y) (hij : i ≠ j)
    (hx : X.env.scope.names.lookup x = some .local) (hy : X.env.scope.names.lookup y = some .local) (ha : PA X [a, b] (rdL p W gl))
    (hw : swappedStores [.Tuple [.Name x px, .Name y py] kt pt] (.Tuple [a, b] k2 pt2) X.env = pure (some [x, y]))
    (hs : swapsWithSole [.Tuple [.Name x px, .Name y py] kt pt] (.Tuple [a, b] k2 pt2) pos.line X.env = pure false := by rfl) :
    PS X (.Assign [.Tuple [.Name x px, .Name y py] kt pt] (.Tuple [a, b] k2 pt2) pos) (rdS p W (gPar i j gl)) :=
  PS.imp (ps_par (i := i) (j := j) hc hN hi hj hij hx hy ha hw hs) fun D σ H ⟨G, ρ, gd, en, po⟩ => ⟨G, ρ, gd, en, (PoS.of po en).imp fun vs H1 ⟨G1, l, x1, gd1, r1, po1⟩ => by
    split at po1
    · cases r1 with
      | cons r1 r2 =>
        cases r2 with
        | cons r2 r3 =>
          cases r3
          exact ⟨_, _, rfl, po1 G1 _ H1 GX.rfl' rfl gd1 (((en.gx x1).set r1 i).set r2 j)⟩
    · exact po1.elim⟩

/-! ### loops -/
def forR (b : DV → GS) : List DV → GS
  | [], ρ, s => .nx ρ s
  | d :: ds, ρ, s => match b d ρ s with
    | .nx ρ' s' => forR b ds ρ' s'
    | .ct ρ' s' => forR b ds ρ' s'
    | .bk ρ' s' => .nx ρ' s'
    | r => r
def turn (t : GTg) (gb : GS) : DV → GS := fun d ρ s => match t d ρ with
  | some ρ1 => gb ρ1 s
  | none => .bad
@[simp] def seqT : DV → Option (List DV)
  | .lst xs => some xs
  | .wl xs => some xs
  | .tup xs => some xs
  | _ => none
@[simp] def gForS (ge : GE) (t : GTg) (gb : GS) : GS := fun ρ s => (ge ρ s).toS ρ fun d s1 => match seqT d with
  | some xs => forR (turn t gb) xs ρ s1
  | none => .bad
/-- what the turns of a for keep -/
def ForI (p : Pg) (W : WX) (D : Ends) (G0 : Gh) (b : DV → GS) (xs : List DV) (σ : L2.St) (H : Hp) : Prop :=
  ∃ G ρ, GX G0 G ∧ Gd p G H ∧ EnR p G ρ σ ∧ PoS p W G D (forR b xs ρ G.st)
theorem forI_body {D : Ends} {G : Gh} {b : DV → GS} {d : DV} {ds : List DV} {ρ : En} (po : PoS p W G D (forR b (d :: ds) ρ G.st)) {N : L2.St → Hp → Prop} (hN : ∀ σ' H', ForI p W D G b ds σ' H' → N σ' H') :
    PoS p W G { D with nx := N, ct := N, bk := D.nx } (b d ρ G.st) := by
  unfold forR at po
  cases e : b d ρ G.st with
  | nx ρ' s' => rw [e] at po; exact fun G2 σ2 H2 x2 e2 gd en => hN _ _ ⟨G2, ρ', x2, gd, en, by rw [e2]; exact PoS.gx po x2⟩
  | ct ρ' s' => rw [e] at po; exact fun G2 σ2 H2 x2 e2 gd en => hN _ _ ⟨G2, ρ', x2, gd, en, by rw [e2]; exact PoS.gx po x2⟩
  | bk ρ' s' => rw [e] at po; exact po
  | rt d' s' => rw [e] at po; exact po
  | exc c ks xs ρ' s' => rw [e] at po; exact po
  | bad => rw [e] at po; exact po
theorem turn_of {D : Ends} {G : Gh} {t : GTg} {gb : GS} {d : DV} {ρ : En} {v : V} {σ : L2.St} {H : Hp} (gd : Gd p G H) (en : EnR p G ρ σ) (r : Rp p G.F G.μ d v) (po : PoS p W G D (turn t gb d ρ G.st)) :
    rdG p t v σ H fun σ2 H2 => rdS p W gb D σ2 H2 := by
  refine ⟨G, ρ, d, gd, en, r, ?_⟩
  unfold turn at po
  cases e : t d ρ with
  | none => rw [e] at po; exact po
  | some ρ1 => rw [e] at po; exact fun σ' en' => ⟨G, ρ1, gd, en', po⟩
section
variable {iter tg : Expr} {body : List Stmt} {ge : GE} {t : GTg} {gb : GS} {pos : Pos}
theorem PI.or {e : Expr} {w w' : TI} (h : PI X tg e w) (h' : PI X tg e w') : PI X tg e (fun σ H R => w σ H R ∨ w' σ H R) :=
  ⟨fun pins s σ H R I q => q.elim (h.run pins s σ H R I) (h'.run pins s σ H R I)⟩
theorem sfor (hp : PassesOwn (model X.prog X.w) X.A X.env X.xe) (hc : X.calm = true) (hi : PE X iter (rd p W ge)) (hg : PG X tg (rdG p t)) (hb : PSs X body (rdS p W gb)) (hK : X.K = p.K := by rfl)
    (hs : ∀ x, foldedSetIterable iter X.env x = pure x := by intro _; rfl) : PS X (.For tg iter body [] pos) (rdS p W (gForS ge t gb)) := by
  refine PS.imp (ps_for hp hc (PI.or (pi_list hi) (pi_tup hi)) hg hb hs) fun D σ H ⟨G, ρ, gd, en, po⟩ => ?_
  have bd : ∀ {xs : List DV} {vs : List V} {G1 : Gh} {H1 : Hp} {a : Addr}, GX G G1 → Gd p G1 H1 → Rps p G1.F G1.μ xs vs → PoS p W G1 D (forR (turn t gb) xs ρ G1.st) →
      ∀ (i : Nat) (x : V) (σ : L2.St) (H : Hp), vs[i]? = some x → ForI p W D G1 (turn t gb) (xs.drop i) σ H →
        rdG p t x σ H fun σ2 H2 => rdS p W gb { D with nx := ForI p W D G1 (turn t gb) (xs.drop (i + 1)), ct := ForI p W D G1 (turn t gb) (xs.drop (i + 1)), bk := D.nx } σ2 H2 := by
    intro xs vs G1 H1 a x1 gd1 rs po1 i x σ2 H2 hx ⟨G2, ρ2, x2, gd2, en2, po2⟩
    obtain ⟨d, hd, rd⟩ := rs.get' hx
    have e : xs.drop i = d :: xs.drop (i + 1) := by
      obtain ⟨lt, e⟩ := List.getElem?_eq_some_iff.mp hd
      rw [List.drop_eq_getElem_cons lt, e]
    rw [e] at po2
    refine turn_of gd2 en2 (Rg.gx rd x2) (forI_body po2 fun σ3 H3 ⟨G3, ρ3, x3, gd3, en3, po3⟩ => ⟨G3, ρ3, x2.trans x3, gd3, en3, po3⟩)
  have key : rd p W ge σ H fun v H1 => ∃ G1 d, GX G G1 ∧ Gd p G1 H1 ∧ Rp p G1.F G1.μ d v ∧ PoS p W G1 D (match seqT d with
      | some xs => forR (turn t gb) xs ρ G1.st
      | none => .bad) := ⟨G, ρ, gd, en, PoS.of po en⟩
  -- list or tuple: by the value at hand
  cases hr : ge ρ G.st with
  | bad => unfold gForS at po; rw [hr] at po; exact po.elim
  | exc c ks xs s =>
    refine .inl ⟨G, ρ, gd, en, ?_⟩
    unfold gForS at po
    rw [hr] at po ⊢
    exact fun G2 H2 d fs x2 e2 g2 k2 q2 r2 => po G2 σ H2 d fs x2 e2 g2 (en.gx x2) k2 q2 r2
  | ok d s =>
    unfold gForS at po
    rw [hr, R.toS_ok] at po
    cases hq : seqT d with
    | none => rw [hq] at po; exact po.elim
    | some xs =>
      rw [hq] at po
      have po : PoS p W G D (forR (turn t gb) xs ρ s) := po
      have hd : d = .lst xs ∨ d = .wl xs ∨ d = .tup xs := by
        cases d <;> first | cases hq <;> simp | cases hq
      rcases hd with rfl | rfl | rfl
      · refine .inl ⟨G, ρ, gd, en, ?_⟩
        rw [hr]
        intro G1 v H1 x1 e1 gd1 r1
        subst e1
        cases r1 with
        | lst a rs =>
          have po1 := PoS.gx po x1
          refine ⟨_, rfl, ⟨_, SqL.of (gd1.le _ _ a)⟩, for_list (xs := _) (fun i σ' H' => ForI p W D G1 (turn t gb) (xs.drop i) σ' H') ⟨G1, ρ, GX.rfl', gd1, en.gx x1, po1⟩ (fun i σ' H' _ ⟨G2, _, x2, gd2, _⟩ => SqL.of (gd2.le _ _ (x2.f _ _ a))) (bd (a := 0) x1 gd1 rs po1) fun σ' H' ⟨G2, ρ2, x2, gd2, en2, po2⟩ => ?_⟩
          rw [← rs.length, List.drop_length] at po2
          exact po2 G2 σ' H' GX.rfl' rfl gd2 en2
      · refine .inl ⟨G, ρ, gd, en, ?_⟩
        rw [hr]
        intro G1 v H1 x1 e1 gd1 r1
        subst e1
        cases r1 with
        | wl a rs =>
          have po1 := PoS.gx po x1
          refine ⟨_, rfl, ⟨_, by rw [hK]; exact sqL_up gd1.le a⟩, for_list (xs := _) (fun i σ' H' => ForI p W D G1 (turn t gb) (xs.drop i) σ' H') ⟨G1, ρ, GX.rfl', gd1, en.gx x1, po1⟩ (fun i σ' H' _ ⟨G2, _, x2, gd2, _⟩ => by rw [hK]; exact sqL_up gd2.le (sqL_up x2.f a)) (bd (a := 0) x1 gd1 rs po1) fun σ' H' ⟨G2, ρ2, x2, gd2, en2, po2⟩ => ?_⟩
          rw [← rs.length, List.drop_length] at po2
          exact po2 G2 σ' H' GX.rfl' rfl gd2 en2
      · refine .inr ⟨G, ρ, gd, en, ?_⟩
        rw [hr]
        intro G1 v H1 x1 e1 gd1 r1
        subst e1
        cases r1 with
        | tup a rs =>
          have po1 := PoS.gx po x1
          refine ⟨_, rfl, ⟨_, by rw [hK]; exact sqT_up gd1.le a⟩, for_tup (xs := _) (fun i σ' H' => ForI p W D G1 (turn t gb) (xs.drop i) σ' H') ⟨G1, ρ, GX.rfl', gd1, en.gx x1, po1⟩ (fun i σ' H' _ ⟨G2, _, x2, gd2, _⟩ => by rw [hK]; exact sqT_up gd2.le (sqT_up x2.f a)) (bd (a := 0) x1 gd1 rs po1) fun σ' H' ⟨G2, ρ2, x2, gd2, en2, po2⟩ => ?_⟩
          rw [← rs.length, List.drop_length] at po2
          exact po2 G2 σ' H' GX.rfl' rfl gd2 en2
/-- for x in range(..) -/
def rangeI (lo : Int) (n : Nat) : List DV := (List.range n).map fun (i : Nat) => DV.int (lo + i)
def rng1 : List DV → Option (Int × Nat)
  | [.int j] => match decide (-(2 ^ 62) ≤ j ∧ j < 2 ^ 62) with
    | true => some (0, j.toNat)
    | false => none
  | _ => none
def rng2 : List DV → Option (Int × Nat)
  | [.int i, .int j] => match decide (-(2 ^ 62) ≤ i ∧ i < 2 ^ 62 ∧ -(2 ^ 62) ≤ j ∧ j < 2 ^ 62) with
    | true => some (i, (j - i).toNat)
    | false => none
  | _ => none
@[simp] def gForR (f : List DV → Option (Int × Nat)) (gl : GL) (t : GTg) (gb : GS) : GS := fun ρ s => (gl ρ s).toS ρ fun l s1 => match f l with
  | some q => forR (turn t gb) (rangeI q.1 q.2) ρ s1
  | none => .bad
theorem rangeI_at {lo : Int} {n i : Nat} (h : i < n) : (rangeI lo n).drop i = .int (lo + i) :: (rangeI lo n).drop (i + 1) := by
  have lt : i < (rangeI lo n).length := by unfold rangeI; simpa using h
  rw [List.drop_eq_getElem_cons lt]
  congr 1
  simp [rangeI]
theorem for_rng {D : Ends} {G1 : Gh} {H1 : Hp} {ρ : En} {σ : L2.St} {lo : Int} {n : Nat} (gd1 : Gd p G1 H1) (en : EnR p G1 ρ σ) (po1 : PoS p W G1 D (forR (turn t gb) (rangeI lo n) ρ G1.st)) :
    ∃ W' : Nat → Nat → L2.St → Hp → Prop, (∃ m, W' 0 m σ H1) ∧ ∀ i m σ H, W' i m σ H →
      ((Itr lo n).stop i H ∧ D.nx σ H) ∨ ((Itr lo n).go i H ∧ ∃ N : L2.St → Hp → Prop, (∀ σ' H', N σ' H' → ∃ m', m' < m ∧ W' (i + 1) m' σ' H') ∧ ∀ x H', (Itr lo n).yld i H x H' → rdG p t x σ H' fun σ2 H2 => rdS p W gb { D with nx := N, ct := N, bk := D.nx } σ2 H2) := by
  refine for_range (fun i σ' H' => ForI p W D G1 (turn t gb) ((rangeI lo n).drop i) σ' H') ⟨G1, ρ, GX.rfl', gd1, en, po1⟩ ?_ ?_
  · intro i σ2 H2 hi ⟨G2, ρ2, x2, gd2, en2, po2⟩
    rw [rangeI_at hi] at po2
    exact turn_of gd2 en2 (.int _) (forI_body po2 fun σ3 H3 ⟨G3, ρ3, x3, gd3, en3, po3⟩ => ⟨G3, ρ3, x2.trans x3, gd3, en3, po3⟩)
  · intro σ' H' ⟨G2, ρ2, x2, gd2, en2, po2⟩
    have e : (rangeI lo n).drop n = [] := by
      apply List.drop_eq_nil_of_le
      simp [rangeI]
    rw [e] at po2
    exact po2 G2 σ' H' GX.rfl' rfl gd2 en2
theorem sforR1 {a : Expr} {gl : GL} {p1 pos1 : Pos} (hp : PassesOwn (model X.prog X.w) X.A X.env X.xe) (hc : X.calm = true) (hgl : Gl X "range") (hm : X.mg "range" = none) (ha : PA X [a] (rdL p W gl)) (hg : PG X tg (rdG p t)) (hb : PSs X body (rdS p W gb))
    (hse : starEach [a] X.env = [(false, eval a X.env)] := by rfl) (hs : ∀ x, foldedSetIterable (.Call (.Name "range" p1) [a] [] pos1) X.env x = pure x := by intro _; rfl) : PS X (.For tg (.Call (.Name "range" p1) [a] [] pos1) body [] pos) (rdS p W (gForR rng1 gl t gb)) :=
  PS.imp (ps_for hp hc (pi_range1 hgl hm ha hse) hg hb hs) fun D σ H ⟨G, ρ, gd, en, po⟩ => ⟨G, ρ, gd, en, (PoS.of po en).imp fun vs H1 ⟨G1, l, x1, gd1, r1, po1⟩ => by
    split at po1
    · rename_i q h
      unfold rng1 at h
      split at h
      · split at h
        · rename_i c
          cases h
          cases r1 with
          | cons r1 r2 =>
            cases r2; cases r1
            have c := of_decide_eq_true c
            exact ⟨_, rfl, c.1, c.2, for_rng gd1 (en.gx x1) po1⟩
        · cases h
      · cases h
    · exact po1.elim⟩
theorem sforR2 {a b : Expr} {gl : GL} {p1 pos1 : Pos} (hp : PassesOwn (model X.prog X.w) X.A X.env X.xe) (hc : X.calm = true) (hgl : Gl X "range") (hm : X.mg "range" = none) (ha : PA X [a, b] (rdL p W gl)) (hg : PG X tg (rdG p t)) (hb : PSs X body (rdS p W gb))
    (hse : starEach [a, b] X.env = [(false, eval a X.env), (false, eval b X.env)] := by rfl) (hse2 : starEach [b] X.env = [(false, eval b X.env)] := by rfl) (hs : ∀ x, foldedSetIterable (.Call (.Name "range" p1) [a, b] [] pos1) X.env x = pure x := by intro _; rfl) :
    PS X (.For tg (.Call (.Name "range" p1) [a, b] [] pos1) body [] pos) (rdS p W (gForR rng2 gl t gb)) :=
  PS.imp (ps_for hp hc (pi_range2 hgl hm ha hse hse2) hg hb hs) fun D σ H ⟨G, ρ, gd, en, po⟩ => ⟨G, ρ, gd, en, (PoS.of po en).imp fun vs H1 ⟨G1, l, x1, gd1, r1, po1⟩ => by
    split at po1
    · rename_i q h
      unfold rng2 at h
      split at h
      · split at h
        · rename_i c
          cases h
          cases r1 with
          | cons r1 r2 =>
            cases r2 with
            | cons r2 r3 =>
              cases r3; cases r1; cases r2
              have c := of_decide_eq_true c
              exact ⟨_, _, rfl, c, for_rng gd1 (en.gx x1) po1⟩
        · cases h
      · cases h
    · exact po1.elim⟩
/-! ### while, with fuel -/
def whR (gc : GB) (gb : GS) : Nat → GS
  | 0 => fun _ _ => .bad
  | n + 1 => fun ρ s => (gc ρ s).toS ρ fun k s1 => match k with
    | true => match gb ρ s1 with
      | .nx ρ' s' => whR gc gb n ρ' s'
      | .ct ρ' s' => whR gc gb n ρ' s'
      | .bk ρ' s' => .nx ρ' s'
      | r => r
    | false => .nx ρ s1
theorem swhile {c : Expr} {gc : GB} (L : Nat) (hp : PassesOwn (model X.prog X.w) X.A X.env X.xe) (hcd : PT X c (rdB p W gc)) (hb : PSs X body (rdS p W gb)) : PS X (.While c body [] pos) (rdS p W (whR gc gb L)) :=
  PS.imp (ps_while hp hcd hb) fun D σ H ⟨G, ρ, gd, en, po⟩ => by
    refine ⟨fun m σ' H' => ∃ G' ρ', GX G G' ∧ Gd p G' H' ∧ EnR p G' ρ' σ' ∧ PoS p W G' D (whR gc gb m ρ' G'.st), ⟨L, G, ρ, GX.rfl', gd, en, po⟩, ?_⟩
    intro m σ1 H1 ⟨G1, ρ1, x1, gd1, en1, po1⟩
    cases m with
    | zero => exact po1.elim
    | succ n =>
      unfold whR at po1
      refine ⟨G1, ρ1, gd1, en1, (PoS.of po1 en1).imp fun k H2 ⟨G2, a, x2, gd2, r2, po2⟩ => ?_⟩
      cases r2
      cases k with
      | false => exact iteF (po2 G2 σ1 H2 GX.rfl' rfl gd2 (en1.gx x2))
      | true =>
        refine iteT ⟨fun σ' H' => ∃ G' ρ', GX G G' ∧ Gd p G' H' ∧ EnR p G' ρ' σ' ∧ PoS p W G' D (whR gc gb n ρ' G'.st), fun σ' H' q => ⟨n, Nat.lt_succ_self n, q⟩, G2, ρ1, gd2, en1.gx x2, ?_⟩
        cases e : gb ρ1 G2.st with
        | nx ρ' s' => simp only [e] at po2; exact fun G3 σ3 H3 x3 e3 gd3 en3 => ⟨G3, ρ', x1.trans (x2.trans x3), gd3, en3, by rw [e3]; exact PoS.gx po2 x3⟩
        | ct ρ' s' => simp only [e] at po2; exact fun G3 σ3 H3 x3 e3 gd3 en3 => ⟨G3, ρ', x1.trans (x2.trans x3), gd3, en3, by rw [e3]; exact PoS.gx po2 x3⟩
        | bk ρ' s' => simp only [e] at po2; exact po2
        | rt d' s' => simp only [e] at po2; exact po2
        | exc c ks xs ρ' s' => simp only [e] at po2; exact po2
        | bad => simp only [e] at po2; exact po2
end
end
end Dq

/-! Defs: what is kept behind a call. -/
namespace Dq
open PySem PySem.Spec PyProof.Rows L2

/-! ### equality and reach of data, as reckoned -/
mutual
def beqD : DV → DV → Bool
  | .non, .non => true
  | .bl a, .bl b => a == b
  | .int a, .int b => a == b
  | .str a, .str b => decide (a = b)
  | .lst a, .lst b => beqDs a b
  | .wl a, .wl b => beqDs a b
  | .tup a, .tup b => beqDs a b
  | .ins c ks xs, .ins d js ys => c == d && (ks == js && beqDs xs ys)
  | .mr a, .mr b => a == b
  | .exn c ks xs, .exn d js ys => c == d && (ks == js && beqDs xs ys)
  | _, _ => false
def beqDs : List DV → List DV → Bool
  | [], [] => true
  | a :: as, b :: bs => beqD a b && beqDs as bs
  | _, _ => false
end
mutual
theorem beqD_eq : ∀ (a b : DV), beqD a b = true → a = b
  | .non, b, h => by cases b <;> first | rfl | (unfold beqD at h; exact nomatch h)
  | .bl x, b, h => by cases b <;> first | (unfold beqD at h; rw [eq_of_beq h]) | (unfold beqD at h; exact nomatch h)
  | .int x, b, h => by cases b <;> first | (unfold beqD at h; rw [eq_of_beq h]) | (unfold beqD at h; exact nomatch h)
  | .str x, b, h => by cases b <;> first | (unfold beqD at h; rw [of_decide_eq_true h]) | (unfold beqD at h; exact nomatch h)
  | .lst x, b, h => by cases b <;> first | (unfold beqD at h; rw [beqDs_eq _ _ h]) | (unfold beqD at h; exact nomatch h)
  | .wl x, b, h => by cases b <;> first | (unfold beqD at h; rw [beqDs_eq _ _ h]) | (unfold beqD at h; exact nomatch h)
  | .tup x, b, h => by cases b <;> first | (unfold beqD at h; rw [beqDs_eq _ _ h]) | (unfold beqD at h; exact nomatch h)
  | .ins c ks xs, b, h => by
    cases b <;> first
    | (unfold beqD at h
       rw [Bool.and_eq_true, Bool.and_eq_true] at h
       rw [eq_of_beq h.1, eq_of_beq h.2.1, beqDs_eq _ _ h.2.2])
    | (unfold beqD at h; exact nomatch h)
  | .mr x, b, h => by cases b <;> first | (unfold beqD at h; rw [eq_of_beq h]) | (unfold beqD at h; exact nomatch h)
  | .exn c ks xs, b, h => by
    cases b <;> first
    | (unfold beqD at h
       rw [Bool.and_eq_true, Bool.and_eq_true] at h
       rw [eq_of_beq h.1, eq_of_beq h.2.1, beqDs_eq _ _ h.2.2])
    | (unfold beqD at h; exact nomatch h)
theorem beqDs_eq : ∀ (a b : List DV), beqDs a b = true → a = b
  | [], [], _ => rfl
  | [], _ :: _, h => by unfold beqDs at h; exact nomatch h
  | _ :: _, [], h => by unfold beqDs at h; exact nomatch h
  | a :: as, b :: bs, h => by
    unfold beqDs at h
    rw [Bool.and_eq_true] at h
    rw [beqD_eq _ _ h.1, beqDs_eq _ _ h.2]
end
mutual
theorem beqD_rfl : ∀ (a : DV), beqD a a = true
  | .non => by unfold beqD; rfl
  | .bl x => by unfold beqD; exact beq_self_eq_true x
  | .int x => by unfold beqD; exact beq_self_eq_true x
  | .str x => by unfold beqD; exact decide_eq_true rfl
  | .lst x => by unfold beqD; exact beqDs_rfl x
  | .wl x => by unfold beqD; exact beqDs_rfl x
  | .tup x => by unfold beqD; exact beqDs_rfl x
  | .ins c ks xs => by unfold beqD; rw [beq_self_eq_true, beq_self_eq_true, beqDs_rfl xs]; rfl
  | .mr x => by unfold beqD; exact beq_self_eq_true x
  | .exn c ks xs => by unfold beqD; rw [beq_self_eq_true, beq_self_eq_true, beqDs_rfl xs]; rfl
theorem beqDs_rfl : ∀ (a : List DV), beqDs a a = true
  | [] => by unfold beqDs; rfl
  | a :: as => by unfold beqDs; rw [beqD_rfl a, beqDs_rfl as]; rfl
end
def beqO : Option MO → Option MO → Bool
  | none, none => true
  | some (.lst a), some (.lst b) => beqDs a b
  | some (.ins c ks xs), some (.ins d js ys) => c == d && (ks == js && beqDs xs ys)
  | _, _ => false
theorem beqO_eq {a b : Option MO} (h : beqO a b = true) : a = b := by
  unfold beqO at h
  split at h
  · rfl
  · rw [beqDs_eq _ _ h]
  · rw [Bool.and_eq_true, Bool.and_eq_true] at h
    rw [eq_of_beq h.1, eq_of_beq h.2.1, beqDs_eq _ _ h.2.2]
  · exact nomatch h
theorem beqO_rfl (a : Option MO) : beqO a a = true := by
  cases a with
  | none => rfl
  | some m => cases m with
    | lst x => exact beqDs_rfl x
    | ins c ks xs =>
      show (c == c && (ks == ks && beqDs xs xs)) = true
      rw [beq_self_eq_true, beq_self_eq_true, beqDs_rfl xs]; rfl
/-- the two stores are the same -/
def sameS : Sto → Sto → Bool
  | [], [] => true
  | a :: as, b :: bs => beqO a b && sameS as bs
  | _, _ => false
theorem sameS_eq : ∀ {a b : Sto}, sameS a b = true → a = b
  | [], [], _ => rfl
  | [], _ :: _, h => nomatch h
  | _ :: _, [], h => nomatch h
  | a :: as, b :: bs, h => by
    unfold sameS at h
    rw [Bool.and_eq_true] at h
    rw [beqO_eq h.1, sameS_eq h.2]
theorem sameS_rfl : ∀ (a : Sto), sameS a a = true
  | [] => rfl
  | a :: as => by unfold sameS; rw [beqO_rfl, sameS_rfl as]; rfl
mutual
/-- no mutable object from m on is named -/
def bel (m : Nat) : DV → Bool
  | .lst xs => bels m xs
  | .wl xs => bels m xs
  | .tup xs => bels m xs
  | .ins _ _ xs => bels m xs
  | .exn _ _ xs => bels m xs
  | .mr k => decide (k < m)
  | _ => true
def bels (m : Nat) : List DV → Bool
  | [] => true
  | x :: xs => bel m x && bels m xs
end
def belO (m : Nat) : Option MO → Bool
  | some (.lst xs) => bels m xs
  | some (.ins _ _ xs) => bels m xs
  | none => true
section
variable {p : Pg}
mutual
theorem bel_cut {F : Hp} {μ : List Addr} {m : Nat} : ∀ (d : DV) (v : V), bel m d = true → Rp p F μ d v → Rp p F (μ.take m) d v
  | .non, _, _, .non => .non
  | .bl _, _, _, .bl b => .bl b
  | .int _, _, _, .int i => .int i
  | .str _, _, _, .str x => .str x
  | .lst xs, _, h, .lst a r => .lst a (bels_cut xs _ (by unfold bel at h; exact h) r)
  | .wl xs, _, h, .wl a r => .wl a (bels_cut xs _ (by unfold bel at h; exact h) r)
  | .tup xs, _, h, .tup a r => .tup a (bels_cut xs _ (by unfold bel at h; exact h) r)
  | .ins _ _ xs, _, h, .ins a e r => .ins a e (bels_cut xs _ (by unfold bel at h; exact h) r)
  | .exn _ _ xs, _, h, .exn a b e r => .exn a b e (bels_cut xs _ (by unfold bel at h; exact h) r)
  | .mr k, _, h, .mr e => .mr (by
    unfold bel at h
    rw [List.getElem?_take_of_lt (of_decide_eq_true h)]
    exact e)
theorem bels_cut {F : Hp} {μ : List Addr} {m : Nat} : ∀ (ds : List DV) (vs : List V), bels m ds = true → Rps p F μ ds vs → Rps p F (μ.take m) ds vs
  | [], _, _, .nil => .nil
  | d :: ds, _, h, .cons r t => by
    unfold bels at h
    rw [Bool.and_eq_true] at h
    exact .cons (bel_cut d _ h.1 r) (bels_cut ds _ h.2 t)
end
mutual
theorem bel_of {F : Hp} {μ : List Addr} : ∀ (d : DV) (v : V), Rp p F μ d v → bel μ.length d = true
  | .non, _, _ => by unfold bel; rfl
  | .bl _, _, _ => by unfold bel; rfl
  | .int _, _, _ => by unfold bel; rfl
  | .str _, _, _ => by unfold bel; rfl
  | .lst xs, _, .lst _ r => by unfold bel; exact bels_of xs _ r
  | .wl xs, _, .wl _ r => by unfold bel; exact bels_of xs _ r
  | .tup xs, _, .tup _ r => by unfold bel; exact bels_of xs _ r
  | .ins _ _ xs, _, .ins _ _ r => by unfold bel; exact bels_of xs _ r
  | .exn _ _ xs, _, .exn _ _ _ r => by unfold bel; exact bels_of xs _ r
  | .mr k, _, .mr e => by unfold bel; exact decide_eq_true (List.getElem?_eq_some_iff.mp e).1
theorem bels_of {F : Hp} {μ : List Addr} : ∀ (ds : List DV) (vs : List V), Rps p F μ ds vs → bels μ.length ds = true
  | [], _, _ => by unfold bels; rfl
  | d :: ds, _, .cons r t => by unfold bels; rw [bel_of d _ r, bels_of ds _ t]; rfl
end
/-- the store cut back to what stood at the entry -/
def Gh.cut (G : Gh) (m : Nat) : Gh := ⟨G.F, G.μ.take m, G.st.take m⟩
theorem Gd.cut {G : Gh} {H : Hp} (g : Gd p G H) {m : Nat} (h : (G.st.take m).all (belO m) = true) : Gd p (G.cut m) H where
  le := g.le
  len := by
    show (G.μ.take m).length = (G.st.take m).length
    rw [List.length_take, List.length_take, g.len]
  live := fun k c e => by
    have e' : (G.st.take m)[k]? = some (some c) := e
    have hb : belO m (some c) = true := List.all_eq_true.mp h _ (List.mem_of_getElem? e')
    have lt : k < m := by
      have := (List.getElem?_eq_some_iff.mp e').1
      rw [List.length_take] at this; omega
    rw [List.getElem?_take_of_lt lt] at e'
    obtain ⟨a, e1, e2, e3⟩ := g.live k c e'
    refine ⟨a, ?_, e2, ?_⟩
    · show (G.μ.take m)[k]? = some a
      rw [List.getElem?_take_of_lt lt]; exact e1
    · cases c with
      | lst xs => obtain ⟨vs, q1, q2⟩ := e3; exact ⟨vs, q1, bels_cut xs _ hb q2⟩
      | ins c ks xs => obtain ⟨dx, fs, q1, q2, q3⟩ := e3; exact ⟨dx, fs, q1, q2, bels_cut xs _ hb q3⟩
  all := fun k a e => by
    have e' : (G.μ.take m)[k]? = some a := e
    have lt : k < m := by
      have := (List.getElem?_eq_some_iff.mp e').1
      rw [List.length_take] at this; omega
    rw [List.getElem?_take_of_lt lt] at e'
    exact g.all k a e'
  inj := fun j k a e1 e2 => by
    have e1' : (G.μ.take m)[j]? = some a := e1
    have e2' : (G.μ.take m)[k]? = some a := e2
    have l1 : j < m := by
      have := (List.getElem?_eq_some_iff.mp e1').1
      rw [List.length_take] at this; omega
    have l2 : k < m := by
      have := (List.getElem?_eq_some_iff.mp e2').1
      rw [List.length_take] at this; omega
    rw [List.getElem?_take_of_lt l1] at e1'
    rw [List.getElem?_take_of_lt l2] at e2'
    exact g.inj j k a e1' e2'
theorem GX.cut {G0 G : Gh} {m : Nat} (x : GX G0 G) (h : G0.μ.length = m) : GX G0 (G.cut m) :=
  ⟨x.f, fun k a e => by
    have lt : k < m := by rw [← h]; exact (List.getElem?_eq_some_iff.mp e).1
    show (G.μ.take m)[k]? = some a
    rw [List.getElem?_take_of_lt lt]
    exact x.m k a e⟩
/-- what stood at the entry names nothing younger -/
theorem Gd.bels {G : Gh} {H : Hp} (g : Gd p G H) : G.st.all (belO G.st.length) = true := by
  rw [List.all_eq_true]
  intro o ho
  cases o with
  | none => rfl
  | some c =>
    obtain ⟨k, hk, e⟩ := List.mem_iff_getElem.mp ho
    obtain ⟨a, _, _, e3⟩ := g.live k c (List.getElem?_eq_some_iff.mpr ⟨hk, e⟩)
    rw [← g.len]
    cases c with
    | lst xs => obtain ⟨vs, _, q⟩ := e3; exact bels_of xs _ q
    | ins c ks xs => obtain ⟨dx, fs, _, _, q⟩ := e3; exact bels_of xs _ q

/-! ### freezing -/
mutual
def frz : Nat → Nat → DV → Sto → Option (DV × Sto)
  | 0, _, _, _ => none
  | n + 1, m, d, s => match d with
    | .mr k => match decide (k < m) with
      | true => some (.mr k, s)
      | false => match s[k]? with
        | some (some (.lst xs)) => match frzL n m xs s with
          | some (ys, s1) => some (.lst ys, s1.set k none)
          | none => none
        | _ => some (.mr k, s)
    | .lst xs => match frzL n m xs s with
      | some (ys, s1) => some (.lst ys, s1)
      | none => none
    | .tup xs => match frzL n m xs s with
      | some (ys, s1) => some (.tup ys, s1)
      | none => none
    | .ins c ks xs => match frzL n m xs s with
      | some (ys, s1) => some (.ins c ks ys, s1)
      | none => none
    | d => some (d, s)
def frzL : Nat → Nat → List DV → Sto → Option (List DV × Sto)
  | 0, _, _, _ => none
  | n + 1, m, l, s => match l with
    | [] => some ([], s)
    | d :: ds => match frz n m d s with
      | some (d1, s1) => match frzL n m ds s1 with
        | some (ds1, s2) => some (d1 :: ds1, s2)
        | none => none
      | none => none
end
theorem Gd.drop {G : Gh} {H : Hp} (g : Gd p G H) {k : Nat} {a : Addr} {o : HO} (ha : G.μ[k]? = some a) (ho : H a = some o) :
    GX G ⟨upd G.F a o, G.μ, G.st.set k none⟩ ∧ Gd p ⟨upd G.F a o, G.μ, G.st.set k none⟩ H := by
  have up : ∀ b u, G.F b = some u → upd G.F a o b = some u := fun b u e => by
    by_cases q : b = a
    · subst q
      have := g.le b u e
      rw [ho] at this; cases this
      exact upd_same
    · rw [upd_ne q]; exact e
  refine ⟨⟨up, fun _ _ e => e⟩, ?_, ?_, ?_, g.all, g.inj⟩
  · intro b u e
    have e' : upd G.F a o b = some u := e
    by_cases q : b = a
    · subst q
      rw [upd_same] at e'; cases e'; exact ho
    · rw [upd_ne q] at e'; exact g.le b u e'
  · show G.μ.length = (G.st.set k none).length
    rw [List.length_set]; exact g.len
  · intro j c e
    have e' : (G.st.set k none)[j]? = some (some c) := e
    by_cases q : j = k
    · subst q
      rw [List.getElem?_set_self (by rw [← g.len]; exact (List.getElem?_eq_some_iff.mp ha).1)] at e'
      cases e'
    · rw [List.getElem?_set_ne (Ne.symm q)] at e'
      obtain ⟨b, e1, e2, e3⟩ := g.live j c e'
      have nb : b ≠ a := fun z => q (g.inj j k b e1 (z ▸ ha))
      refine ⟨b, e1, ?_, ?_⟩
      · show upd G.F a o b = none
        rw [upd_ne nb]; exact e2
      · exact ObR.gx (G := G) e3 ⟨up, fun _ _ e => e⟩
mutual
theorem frz_ok {H : Hp} {m : Nat} : ∀ (n : Nat) (G : Gh) (d : DV) (v : V) (d' : DV) (s' : Sto), Gd p G H → Rp p G.F G.μ d v → frz n m d G.st = some (d', s') →
    ∃ G', GX G G' ∧ G'.st = s' ∧ Gd p G' H ∧ Rp p G'.F G'.μ d' v
  | 0, G, d, v, d', s', gd, r, e => by unfold frz at e; cases e
  | n + 1, G, d, v, d', s', gd, r, e => by
    unfold frz at e
    split at e
    · split at e
      · cases e; exact ⟨G, GX.rfl', rfl, gd, r⟩
      · split at e
        · rename_i xs hk
          split at e
          · rename_i ys s1 h1
            cases e
            obtain ⟨a, e1, e2, vs, e3, e4⟩ := gd.live _ _ hk
            cases r with
            | mr hm =>
              rw [hm] at e1; cases e1
              obtain ⟨G1, x1, es, gd1, r1⟩ := frzL_ok n G xs vs ys s1 gd e4 h1
              obtain ⟨x2, gd2⟩ := gd1.drop (x1.m _ _ hm) e3
              refine ⟨_, x1.trans x2, by rw [← es], gd2, .lst (by show upd G1.F a _ a = _; rw [upd_same]) (Rgs.gx r1 x2)⟩
          · cases e
        · cases e; exact ⟨G, GX.rfl', rfl, gd, r⟩
    · split at e
      · rename_i ys s1 h1
        cases e
        cases r with
        | lst a rs =>
          obtain ⟨G1, x1, es, gd1, r1⟩ := frzL_ok n G _ _ _ _ gd rs h1
          exact ⟨G1, x1, es, gd1, .lst (x1.f _ _ a) r1⟩
      · cases e
    · split at e
      · rename_i ys s1 h1
        cases e
        cases r with
        | tup a rs =>
          obtain ⟨G1, x1, es, gd1, r1⟩ := frzL_ok n G _ _ _ _ gd rs h1
          exact ⟨G1, x1, es, gd1, .tup (sqT_up x1.f a) r1⟩
      · cases e
    · split at e
      · rename_i ys s1 h1
        cases e
        cases r with
        | ins a q rs =>
          obtain ⟨G1, x1, es, gd1, r1⟩ := frzL_ok n G _ _ _ _ gd rs h1
          exact ⟨G1, x1, es, gd1, .ins (x1.f _ _ a) q r1⟩
      · cases e
    · cases e; exact ⟨G, GX.rfl', rfl, gd, r⟩
theorem frzL_ok {H : Hp} {m : Nat} : ∀ (n : Nat) (G : Gh) (d : List DV) (v : List V) (d' : List DV) (s' : Sto), Gd p G H → Rps p G.F G.μ d v → frzL n m d G.st = some (d', s') →
    ∃ G', GX G G' ∧ G'.st = s' ∧ Gd p G' H ∧ Rps p G'.F G'.μ d' v
  | 0, G, d, v, d', s', gd, r, e => by unfold frzL at e; cases e
  | n + 1, G, d, v, d', s', gd, r, e => by
    unfold frzL at e
    split at e
    · cases e; exact ⟨G, GX.rfl', rfl, gd, r⟩
    · split at e
      · rename_i d1 s1 h1
        split at e
        · rename_i ds1 s2 h2
          cases e
          cases r with
          | cons r1 r2 =>
            obtain ⟨G1, x1, es, gd1, q1⟩ := frz_ok n G _ _ d1 s1 gd r1 h1
            subst es
            obtain ⟨G2, x2, es, gd2, q2⟩ := frzL_ok n G1 _ _ _ _ gd1 (Rgs.gx r2 x1) h2
            exact ⟨G2, x1.trans x2, es, gd2, .cons (Rg.gx q1 x2) q2⟩
        · cases e
      · cases e
end

/-! ### the end of a def -/
/-- may the store be cut back to the m objects that stood at the entry, s0 then -/
def cutOk (s0 s : Sto) : Bool := sameS (s.take s0.length) s0 || (s.take s0.length).all (belO s0.length)
def fin (s0 : Sto) (d : DV) (s : Sto) : R DV := match decide (s.length = s0.length) with
  | true => .ok d s
  | false => match frz 12 s0.length d s with
    | some (d', s') => match bel s0.length d' && cutOk s0 s' with
      | true => .ok d' (s'.take s0.length)
      | false => .ok d' s'
    | none => .bad
def finX (s0 : Sto) (c : Nat) (ks : List Nat) (xs : List DV) (s : Sto) : R DV := match decide (s.length = s0.length) with
  | true => .exc c ks xs s
  | false => match bels s0.length xs && cutOk s0 s with
    | true => .exc c ks xs (s.take s0.length)
    | false => .exc c ks xs s
def RS.fin (s0 : Sto) : RS → R DV
  | .nx _ s => Dq.fin s0 .non s
  | .rt d s => Dq.fin s0 d s
  | .exc c ks xs _ s => finX s0 c ks xs s
  | _ => .bad
theorem cut_ok {G0 G : Gh} {H0 H : Hp} (g0 : Gd p G0 H0) (x : GX G0 G) (g : Gd p G H) (h : cutOk G0.st G.st = true) : GX G0 (G.cut G0.st.length) ∧ Gd p (G.cut G0.st.length) H := by
  refine ⟨x.cut g0.len, g.cut ?_⟩
  unfold cutOk at h
  rw [Bool.or_eq_true] at h
  rcases h with h | h
  · rw [sameS_eq h]; exact g0.bels
  · exact h
theorem fin_of {G0 G : Gh} {H0 H : Hp} {σ : L2.St} {W : WX} {d : DV} {v : V} {Q : VK} (g0 : Gd p G0 H0) (x : GX G0 G) (g : Gd p G H) (r : Rp p G.F G.μ d v) (po : PoV p W G0 σ (fin G0.st d G.st) Q) : Q v H := by
  unfold fin at po
  split at po
  · exact Po.ret po x rfl g r
  · split at po
    · rename_i d' s' e
      obtain ⟨G1, x1, es, g1, r1⟩ := frz_ok 12 G d v d' s' g r e
      subst es
      split at po
      · rename_i c
        rw [Bool.and_eq_true] at c
        obtain ⟨x2, g2⟩ := cut_ok g0 (x.trans x1) g1 c.2
        exact Po.ret po x2 rfl g2 (bel_cut d' v c.1 r1)
      · exact Po.ret po (x.trans x1) rfl g1 r1
    · exact po.elim

/-! ### a def by its body -/
/-- what is wished of exceptions by what the caller wishes: nothing may leave; what leaves lies as he wishes -/
abbrev W0 : WX := fun _ _ _ _ => False
abbrev We0 : XK → WX := fun _ => W0
abbrev WeX : XK → WX := fun E c d _ H => E c d H
/-- what a def promises -/
def spD (p : Pg) (We : XK → WX) (n : Nat) (g : List DV → Sto → R DV) : Sp := fun vs H Q E => vs.length = n ∧ ∃ G ds, Gd p G H ∧ Rps p G.F G.μ ds vs ∧ PoV p (We E) G [] (g ds G.st) Q
/-- the body's function as the def's -/
def run (N n : Nat) (b : GS) : List DV → Sto → R DV := fun ds s => match decide (ds.length = n) with
  | true => (b (ds.map some ++ List.replicate (N - n) none) s).fin s
  | false => .bad
theorem start_en {G : Gh} {N : List Str} {ds : List DV} {vs : List V} (r : Rps p G.F G.μ ds vs) (h : vs.length ≤ N.length) : EnR p G (ds.map some ++ List.replicate (N.length - vs.length) none) (L2.start N vs) where
  len := by
    unfold L2.start
    rw [List.length_append, List.length_append, List.length_map, List.length_map, List.length_replicate, List.length_replicate, r.length]
  at_ := fun i d e => by
    unfold L2.start
    by_cases q : i < ds.length
    · rw [List.getElem?_append_left (by rw [List.length_map]; exact q), List.getElem?_map] at e
      cases e2 : ds[i]? with
      | none => rw [e2] at e; cases e
      | some d' =>
        rw [e2] at e; cases e
        obtain ⟨v, e3, e4⟩ := r.get e2
        refine ⟨v, ?_, e4⟩
        rw [List.getElem?_append_left (by rw [List.length_map, ← r.length]; exact q), List.getElem?_map, e3]
        rfl
    · rw [List.getElem?_append_right (by rw [List.length_map]; omega)] at e
      have := List.mem_of_getElem? e
      rw [List.mem_replicate] at this
      cases this.2
theorem body_of {We : XK → WX} (hW : ∀ E c d σ σ' H, We E c d σ H → We E c d σ' H) {N : List Str} {n : Nat} {b : GS} {vs : List V} {H : Hp} {Q : VK} {E : XK} (hn : n ≤ N.length) (h : spD p We n (run N.length n b) vs H Q E) :
    rdS p (We E) b { nx := fun _ H' => Q .non H', rt := Q } (L2.start N vs) H := by
  obtain ⟨hl, G, ds, gd, r, po⟩ := h
  unfold run at po
  split at po
  · rename_i c
    have c := of_decide_eq_true c
    have hv : vs.length = n := hl
    refine ⟨G, _, gd, start_en r (by omega), ?_⟩
    rw [hv]
    cases e : b (ds.map some ++ List.replicate (N.length - n) none) G.st with
    | nx ρ s =>
      rw [e] at po
      intro G1 σ1 H1 x1 e1 g1 en1
      subst e1
      exact fin_of gd x1 g1 .non po
    | rt d s =>
      rw [e] at po
      intro G1 v H1 x1 e1 g1 r1
      subst e1
      exact fin_of gd x1 g1 r1 po
    | exc c ks xs ρ s =>
      rw [e] at po
      intro G1 σ1 H1 d fs x1 e1 g1 en1 hd hk rs
      subst e1
      have po : PoV p (We E) G [] (finX G.st c ks xs G1.st) Q := po
      refine hW E _ _ [] σ1 H1 ?_
      unfold finX at po
      split at po
      · exact po G1 H1 d fs x1 rfl g1 hd hk rs
      · split at po
        · rename_i c2
          rw [Bool.and_eq_true] at c2
          obtain ⟨x2, g2⟩ := cut_ok gd x1 g1 c2.2
          exact po _ H1 d fs x2 rfl g2 hd hk (bels_cut xs _ c2.1 rs)
        · exact po G1 H1 d fs x1 rfl g1 hd hk rs
    | bk ρ s => rw [e] at po; exact po.elim
    | ct ρ s => rw [e] at po; exact po.elim
    | bad => rw [e] at po; exact po.elim
  · exact po.elim
theorem run_len {N n : Nat} {b : GS} {ds : List DV} {s : Sto} (h : ds.length ≠ n) : run N n b ds s = .bad := by
  unfold run
  rw [decide_eq_false h]
end
section
variable {p : Pg} {P : Program} {w : World} {K : PySem.W.Frag} {mg : Str → Option Value} {base : Heap} {x qual : Str} {params : Arguments} {body : List Stmt} {scope : Scope} {dvs : List V} {kws : List (Str × V)} {f : Addr} {fd : FuncData} {N ps : List Str} {k : Nat} {b : GS}
/-- a def that lets nothing out -/
theorem def0 (F : FunD K x qual params body scope dvs kws f fd) (S : FnScope N ps scope) (hn : ps.length ≤ N.length)
    (h : ∀ (cdv : Value) (A : Around) (outer : List Env) (s : Shared) (H : Hp) (E : XK), Room k (A.deeper (envOfC qual scope s.heap.objs.size f cdv)) →
      PSs (cxOf CX0 P w K mg base N qual scope f cdv A outer s H E).nox body (rdS p W0 b)) : FnOk P w K mg base CX0 (k + 1) f fd ps (spD p We0 ps.length (run N.length ps.length b)) :=
  F.ok S (fun vs H Q E h => h.1) fun cdv A outer s H vs Q E hr hs => ⟨_, PSs.nox (h cdv A outer s H E hr), body_of (We := We0) (fun _ _ _ _ _ _ z => z) hn hs⟩
/-- a def that may let exceptions out -/
theorem defX (F : FunD K x qual params body scope dvs kws f fd) (S : FnScope N ps scope) (hn : ps.length ≤ N.length)
    (h : ∀ (cdv : Value) (A : Around) (outer : List Env) (s : Shared) (H : Hp) (E : XK), Room k (A.deeper (envOfC qual scope s.heap.objs.size f cdv)) →
      PSs (cxOf (L2.CX P w) P w K mg base N qual scope f cdv A outer s H E) body (rdS p (WeX E) b)) : FnOk P w K mg base (L2.CX P w) (k + 1) f fd ps (spD p WeX ps.length (run N.length ps.length b)) :=
  F.ok S (fun vs H Q E h => h.1) fun cdv A outer s H vs Q E hr hs => ⟨_, h cdv A outer s H E hr, body_of (We := WeX) (fun _ _ _ _ _ _ z => z) hn hs⟩
end
end Dq

/-! Calls, attributes. -/
namespace Dq
open PySem PySem.Spec PyProof.Rows L2
section
variable {p : Pg} {X : Cx} {W : WX} {CX : CXT} {E : XK} {We : XK → WX}

theorem sp_of {n : Nat} {g : List DV → Sto → R DV} {G : Gh} {H : Hp} {σ : L2.St} {ds : List DV} {vs : List V} {Q : VK} (hg : ∀ ds s, ds.length ≠ n → g ds s = .bad) (hW : ∀ c d σ H, W c d σ H → We E c d [] H)
    (gd : Gd p G H) (r : Rps p G.F G.μ ds vs) (po : PoV p W G σ (g ds G.st) Q) : spD p We n g vs H Q E := by
  by_cases q : ds.length = n
  · refine ⟨by rw [← r.length]; exact q, G, ds, gd, r, ?_⟩
    cases e : g ds G.st with
    | ok d s => rw [e] at po; exact po
    | exc c ks xs s => rw [e] at po; exact fun G2 H2 d fs x2 e2 g2 hd hk rs => hW _ _ σ H2 (po G2 H2 d fs x2 e2 g2 hd hk rs)
    | bad => rw [e] at po; exact po.elim
  · rw [hg ds G.st q] at po; exact po.elim

/-! ### f(..) -/
@[simp] def gCall (g : List DV → Sto → R DV) (ds0 : List DV) (gl : GL) : GE := fun ρ s => (gl ρ s).bind fun l s1 => g (l ++ ds0) s1
/-- what a caller needs of a def: f stands there, it does what g says of the arguments and its defaults ds0 -/
structure FnC (p : Pg) (X : Cx) (W : WX) (f : Addr) (g : List DV → Sto → R DV) (ds0 : List DV) : Prop where
  ex : ∃ (CX : CXT) (E : XK) (We : XK → WX) (k : Nat) (fd : FuncData) (ps : List Str) (dvs : List V) (dsv : List Value),
    FnOk X.prog X.w X.K X.mg X.base CX k f fd ps (spD p We ps.length g) ∧ Room k X.A ∧ Binds X.K fd ps dsv ∧ Vals dvs dsv ∧ (∀ F μ, Rps p F μ ds0 dvs) ∧ Passes CX X E ∧ (∀ c d σ H, W c d σ H → We E c d [] H) ∧ (∀ ds s, ds.length ≠ ps.length → g ds s = .bad)
section
variable {x : Str} {pp pos : Pos} {e : Expr} {es : List Expr} {gl : GL} {f : Addr} {g : List DV → Sto → R DV} {ds0 : List DV}
theorem qcall (C : FnC p X W f g ds0) (hm : X.mg x = some (.ref f)) (hk : PySem.W.keepIn X.K (.ref f) = true) (hg : Gl X x) (ha : PA X (e :: es) (rdL p W gl))
    (hdb : (x == ("__debug__" : Str)) = false := by decide) (he : starEach (e :: es) X.env = (false, eval e X.env) :: starEach es X.env := by rfl) (hpl : (backTo pos (starEach es X.env)).any (·.1) = false := by rfl) :
    PE X (.Call (.Name x pp) (e :: es) [] pos) (rd p W (gCall g ds0 gl)) := by
  obtain ⟨CX, E, We, k, fd, ps, dvs, dsv, F, hr, hb, hd, h0, hx, hW, hl⟩ := C.ex
  exact PE.imp (pe_call F hr hg hm hk hb hd hx ha hdb he hpl) fun σ H Q ⟨G, ρ, gd, en, po⟩ => ⟨G, ρ, gd, en, (Po.bind po).imp fun vs H1 ⟨G1, l, x1, gd1, r1, po1⟩ =>
    sp_of hl hW gd1 (r1.app (h0 _ _)) po1⟩
theorem qcall0 (C : FnC p X W f g ds0) (hm : X.mg x = some (.ref f)) (hk : PySem.W.keepIn X.K (.ref f) = true) (hg : Gl X x)
    (hdb : (x == ("__debug__" : Str)) = false := by decide) : PE X (.Call (.Name x pp) [] [] pos) (rd p W (gCall g ds0 gNil)) := by
  obtain ⟨CX, E, We, k, fd, ps, dvs, dsv, F, hr, hb, hd, h0, hx, hW, hl⟩ := C.ex
  exact PE.imp (pe_call0 F hr hg hm hk hb hd hx hdb) fun σ H Q ⟨G, ρ, gd, en, po⟩ => sp_of (ds := [] ++ ds0) (vs := [] ++ dvs) hl hW gd (h0 _ _) po
end

/-! ### C(..) -/
def makeD (mb : Bool) (c : Nat) (g : List DV → Sto → R DV) (l : List DV) (s : Sto) : R DV := match g (.mr s.length :: l) (s ++ [some (.ins c [] [])]) with
  | .ok .non s2 => match mb with
    | true => .ok (.mr s.length) s2
    | false => match s2[s.length]? with
      | some (some (.ins c' ks xs)) => match decide (c' = c) with
        | true => match bels s.length xs && cutOk s (s2.set s.length none) with
          | true => .ok (.ins c ks xs) ((s2.set s.length none).take s.length)
          | false => .ok (.ins c ks xs) (s2.set s.length none)
        | false => .bad
      | _ => .bad
  | .ok _ _ => .bad
  | .exc c ks xs s2 => finX s c ks xs s2
  | .bad => .bad
theorem make_of {n : Nat} {mb : Bool} {c : Nat} {g : List DV → Sto → R DV} {G : Gh} {H : Hp} {σ : L2.St} {ds : List DV} {vs : List V} {Q : VK} (hg : ∀ ds s, ds.length ≠ n → g ds s = .bad) (hW : ∀ c d σ H, W c d σ H → We E c d [] H)
    (gd : Gd p G H) (r : Rps p G.F G.μ ds vs) (po : PoV p W G σ (makeD mb c g ds G.st) Q) {x dx : Addr} (hx : H x = none) (hdx : H dx = none) (ne : dx ≠ x) :
    spD p We n g (.ref x :: vs) (upd (upd H dx (.own x)) x (.ins (p.cA c) dx [])) (fun v H2 => v = .non ∧ Q (.ref x) H2) E := by
  have hx' : upd H dx (.own x) x = none := by rw [upd_ne (Ne.symm ne)]; exact hx
  have g1 := (gd.beside (o := .own x) hdx).add (m := .ins c [] []) (o := .ins (p.cA c) dx []) hx' ⟨dx, [], rfl, rfl, .nil⟩
  have r1 : Rps p (G.add x (.ins c [] [])).F (G.add x (.ins c [] [])).μ (.mr G.st.length :: ds) (.ref x :: vs) := .cons (.mr (by rw [← gd.len]; exact Gh.add_at)) (Rgs.gx r GX.add)
  refine sp_of (W := W) (σ := σ) hg hW g1 r1 ?_
  have est : (G.add x (.ins c [] [])).st = G.st ++ [some (.ins c [] [])] := rfl
  rw [est]
  unfold makeD at po
  cases e : g (.mr G.st.length :: ds) (G.st ++ [some (.ins c [] [])]) with
  | bad => rw [e] at po; exact po
  | exc c' ks xs s =>
    simp only [e] at po
    intro G2 H2 d fs x2 e2 g2 hd hk rs
    subst e2
    have xx : GX G G2 := GX.add.trans x2
    unfold finX at po
    split at po
    · exact po G2 H2 d fs xx rfl g2 hd hk rs
    · split at po
      · rename_i c2
        rw [Bool.and_eq_true] at c2
        obtain ⟨x3, g3⟩ := cut_ok gd xx g2 c2.2
        exact po _ H2 d fs x3 rfl g3 hd hk (bels_cut xs _ c2.1 rs)
      · exact po G2 H2 d fs xx rfl g2 hd hk rs
  | ok d s =>
    simp only [e] at po
    intro G2 v H2 x2 e2 g2 r2
    subst e2
    have xx : GX G G2 := GX.add.trans x2
    have hm2 : G2.μ[G.st.length]? = some x := x2.m _ _ (by rw [← gd.len]; exact Gh.add_at)
    cases d with
    | non =>
      cases r2
      refine ⟨rfl, ?_⟩
      cases mb with
      | true => exact Po.ret po xx rfl g2 (.mr hm2)
      | false =>
        simp only at po
        split at po
        · rename_i c' ks xs hk
          split at po
          · rename_i hc
            have hc := of_decide_eq_true hc
            subst hc
            obtain ⟨a, e1, e3, dx', fs, e4, e5, e6⟩ := g2.live _ _ hk
            rw [hm2] at e1; cases e1
            obtain ⟨x3, g3⟩ := g2.drop hm2 e4
            have r3 : Rp p (upd G2.F x (.ins (p.cA c') dx' fs)) G2.μ (.ins c' ks xs) (.ref x) := .ins upd_same e5 (Rgs.gx e6 x3)
            split at po
            · rename_i c2
              rw [Bool.and_eq_true] at c2
              obtain ⟨x4, g4⟩ := cut_ok gd (xx.trans x3) g3 c2.2
              exact Po.ret po x4 rfl g4 (bel_cut _ _ (by unfold bel; exact c2.1) r3)
            · exact Po.ret po (xx.trans x3) rfl g3 r3
          · exact po.elim
        · exact po.elim
    | _ => exact po.elim
@[simp] def gMake (mb : Bool) (c : Nat) (g : List DV → Sto → R DV) (ds0 : List DV) (gl : GL) : GE := fun ρ s => (gl ρ s).bind fun l s1 => makeD mb c g (l ++ ds0) s1
/-- what a caller needs of a class -/
structure MkC (p : Pg) (X : Cx) (W : WX) (c : Nat) (g : List DV → Sto → R DV) (ds0 : List DV) : Prop where
  ex : ∃ (CX : CXT) (E : XK) (We : XK → WX) (k : Nat) (f : Addr) (fd : FuncData) (ps : List Str) (dvs : List V) (dsv : List Value),
    Mk X.K (p.cA c) f ∧ FnOk X.prog X.w X.K X.mg X.base CX k f fd ps (spD p We ps.length g) ∧ Room (k + 1) X.A ∧ Binds X.K fd ps dsv ∧ Vals dvs dsv ∧ (∀ F μ, Rps p F μ ds0 dvs) ∧ Passes CX X E ∧ (∀ c d σ H, W c d σ H → We E c d [] H) ∧ (∀ ds s, ds.length ≠ ps.length → g ds s = .bad)
section
variable {x : Str} {pp pos : Pos} {e : Expr} {es : List Expr} {gl : GL} {f : Addr} {g : List DV → Sto → R DV} {ds0 : List DV} {c : Nat} {mb : Bool}
theorem qmake (C : MkC p X W c g ds0) (hm : X.mg x = some (.ref (p.cA c))) (hg : Gl X x) (ha : PA X (e :: es) (rdL p W gl))
    (hdb : (x == ("__debug__" : Str)) = false := by decide) (he : starEach (e :: es) X.env = (false, eval e X.env) :: starEach es X.env := by rfl) (hpl : (backTo pos (starEach es X.env)).any (·.1) = false := by rfl) :
    PE X (.Call (.Name x pp) (e :: es) [] pos) (rd p W (gMake mb c g ds0 gl)) := by
  obtain ⟨CX, E, We, k, f, fd, ps, dvs, dsv, M, F, hr, hb, hd, h0, hx, hW, hl⟩ := C.ex
  exact PE.imp (pe_make M F hr hg hm hb hd hx ha hdb he hpl) fun σ H Q ⟨G, ρ, gd, en, po⟩ => ⟨G, ρ, gd, en, (Po.bind po).imp fun vs H1 ⟨G1, l, x1, gd1, r1, po1⟩ x dx hx hdx ne =>
    make_of hl hW gd1 (r1.app (h0 _ _)) po1 hx hdx ne⟩
end

/-! ### calls with keywords -/
section
variable {x : Str} {pp pos kpos : Pos} {e : Expr} {es : List Expr} {kws : List Keyword}  {gl gk : GL} {ge : GE} {f : Addr} {g : List DV → Sto → R DV} {c : Nat} {mb : Bool} {nm : Option Str}
theorem PK.imp {t t' : TA} (h : PK X kws t) (k : ∀ σ H Q, t' σ H Q → t σ H Q) : PK X kws t' := ⟨fun pos pins s σ H Q I q => h.run pos pins s σ H Q I (k σ H Q q)⟩
theorem knil : PK X [] (rdL p W gNil) := PK.imp pk_nil fun σ H Q ⟨G, ρ, gd, en, po⟩ => Po.ret po GX.rfl' rfl gd .nil
theorem kcons (ha : PE X e (rd p W ge)) (hr : PK X kws (rdL p W gk)) : PK X (⟨nm, e, kpos⟩ :: kws) (rdL p W (gCons ge gk)) :=
  PK.imp (pk_cons ha hr) fun σ H Q ⟨G, ρ, gd, en, po⟩ => ⟨G, ρ, gd, en, (Po.bind po).imp fun v H1 ⟨G1, a, x1, gd1, r1, po1⟩ =>
    ⟨G1, ρ, gd1, en.gx x1, (Po.bind po1).imp fun vs H2 ⟨G2, l, x2, gd2, r2, po2⟩ => Po.ret po2 GX.rfl' rfl gd2 (.cons (Rg.gx r1 x2) r2)⟩⟩
/-- how positional and keyword values become the arguments -/
abbrev Mix := List DV → List DV → Option (List DV)
@[simp] def gMakeK (mb : Bool) (c : Nat) (g : List DV → Sto → R DV) (mx : Mix) (gl gk : GL) : GE := fun ρ s => (gl ρ s).bind fun l s1 => (gk ρ s1).bind fun z s2 => match mx l z with
  | some a => makeD mb c g a s2
  | none => .bad
@[simp] def gCallK (g : List DV → Sto → R DV) (mx : Mix) (gl gk : GL) : GE := fun ρ s => (gl ρ s).bind fun l s1 => (gk ρ s1).bind fun z s2 => match mx l z with
  | some a => g a s2
  | none => .bad
structure MkK (p : Pg) (X : Cx) (W : WX) (c : Nat) (g : List DV → Sto → R DV) (n : Nat) (ks : List Str) (mx : Mix) : Prop where
  ex : ∃ (CX : CXT) (E : XK) (We : XK → WX) (k : Nat) (f : Addr) (fd : FuncData) (ps : List Str) (gg : List Value → List Value → List Value) (gV : List V → List V → List V),
    Mk X.K (p.cA c) f ∧ FnOk X.prog X.w X.K X.mg X.base CX k f fd ps (spD p We ps.length g) ∧ Room (k + 1) X.A ∧ KBn X.K fd ps (n + 1) ks gg gV ∧ Passes CX X E ∧ (∀ c d σ H, W c d σ H → We E c d [] H) ∧ (∀ ds s, ds.length ≠ ps.length → g ds s = .bad) ∧
      ∀ (F : Hp) (μ : List Addr) (l z a : List DV) (vs zs : List V) (u : V), Rps p F μ l vs → Rps p F μ z zs → mx l z = some a → vs.length = n ∧ zs.length = ks.length ∧ ∃ vs', gV (u :: vs) zs = u :: vs' ∧ Rps p F μ a vs'
structure FnK (p : Pg) (X : Cx) (W : WX) (f : Addr) (g : List DV → Sto → R DV) (n : Nat) (ks : List Str) (mx : Mix) : Prop where
  ex : ∃ (CX : CXT) (E : XK) (We : XK → WX) (k : Nat) (fd : FuncData) (ps : List Str) (gg : List Value → List Value → List Value) (gV : List V → List V → List V),
    FnOk X.prog X.w X.K X.mg X.base CX k f fd ps (spD p We ps.length g) ∧ Room k X.A ∧ KBn X.K fd ps n ks gg gV ∧ Passes CX X E ∧ (∀ c d σ H, W c d σ H → We E c d [] H) ∧ (∀ ds s, ds.length ≠ ps.length → g ds s = .bad) ∧
      ∀ (F : Hp) (μ : List Addr) (l z a : List DV) (vs zs : List V), Rps p F μ l vs → Rps p F μ z zs → mx l z = some a → vs.length = n ∧ zs.length = ks.length ∧ Rps p F μ a (gV vs zs)
theorem qmakeK {n : Nat} {ks : List Str} {mx : Mix} (C : MkK p X W c g n ks mx) (hm : X.mg x = some (.ref (p.cA c))) (hg : Gl X x) (ha : PA X (e :: es) (rdL p W gl)) (hkw : PK X kws (rdL p W gk))
    (hall : (backToKw pos (keywordEach kws X.env)).all (·.1.isSome) = true := by rfl) (hks : (backToKw pos (keywordEach kws X.env)).filterMap (·.1) = ks := by rfl) (hdb : (x == ("__debug__" : Str)) = false := by decide)
    (he : starEach (e :: es) X.env = (false, eval e X.env) :: starEach es X.env := by rfl)
    (hpl : ((backTo pos (starEach (e :: es) X.env)).any (·.1) || (backToKw pos (keywordEach kws X.env)).any (·.1.isNone)) = false := by rfl) :
    PE X (.Call (.Name x pp) (e :: es) kws pos) (rd p W (gMakeK mb c g mx gl gk)) := by
  obtain ⟨CX, E, We, k, f, fd, ps, gg, gV, M, F, hr, hb, hx, hW, hl, hmx⟩ := C.ex
  refine PE.imp (pe_makeK M F hr hg hm hb hx ha hkw hall hks hdb he hpl) fun σ H Q ⟨G, ρ, gd, en, po⟩ => ⟨G, ρ, gd, en, (Po.bind po).imp fun vs H1 ⟨G1, l, x1, gd1, r1, po1⟩ =>
    ⟨G1, ρ, gd1, en.gx x1, (Po.bind po1).imp fun zs H2 ⟨G2, z, x2, gd2, r2, po2⟩ => ?_⟩⟩
  cases e1 : mx l z with
  | none => simp only [e1] at po2; exact po2.elim
  | some a =>
    simp only [e1] at po2
    obtain ⟨l1, l2, _⟩ := hmx _ _ l z a vs zs (.non) (Rgs.gx r1 x2) r2 e1
    refine ⟨l1, l2, fun x dx hx hdx ne => ?_⟩
    obtain ⟨_, _, vs', e3, r3⟩ := hmx _ _ l z a vs zs (.ref x) (Rgs.gx r1 x2) r2 e1
    rw [e3]
    exact make_of hl hW gd2 r3 po2 hx hdx ne
theorem qcallK {n : Nat} {ks : List Str} {mx : Mix} (C : FnK p X W f g n ks mx) (hm : X.mg x = some (.ref f)) (hk : PySem.W.keepIn X.K (.ref f) = true) (hg : Gl X x) (ha : PA X (e :: es) (rdL p W gl)) (hkw : PK X kws (rdL p W gk))
    (hall : (backToKw pos (keywordEach kws X.env)).all (·.1.isSome) = true := by rfl) (hks : (backToKw pos (keywordEach kws X.env)).filterMap (·.1) = ks := by rfl) (hdb : (x == ("__debug__" : Str)) = false := by decide)
    (he : starEach (e :: es) X.env = (false, eval e X.env) :: starEach es X.env := by rfl)
    (hpl : ((backTo pos (starEach (e :: es) X.env)).any (·.1) || (backToKw pos (keywordEach kws X.env)).any (·.1.isNone)) = false := by rfl) :
    PE X (.Call (.Name x pp) (e :: es) kws pos) (rd p W (gCallK g mx gl gk)) := by
  obtain ⟨CX, E, We, k, fd, ps, gg, gV, F, hr, hb, hx, hW, hl, hmx⟩ := C.ex
  refine PE.imp (pe_callN F hr hg hm hk hb hx ha hkw hall hks hdb he hpl) fun σ H Q ⟨G, ρ, gd, en, po⟩ => ⟨G, ρ, gd, en, (Po.bind po).imp fun vs H1 ⟨G1, l, x1, gd1, r1, po1⟩ =>
    ⟨G1, ρ, gd1, en.gx x1, (Po.bind po1).imp fun zs H2 ⟨G2, z, x2, gd2, r2, po2⟩ => ?_⟩⟩
  cases e1 : mx l z with
  | none => simp only [e1] at po2; exact po2.elim
  | some a =>
    simp only [e1] at po2
    obtain ⟨l1, l2, r3⟩ := hmx _ _ l z a vs zs (Rgs.gx r1 x2) r2 e1
    exact ⟨l1, l2, sp_of hl hW gd2 r3 po2⟩
end

/-! ### attributes -/
/-- an instance: its class, its attributes -/
@[simp] def insS (s : Sto) : DV → Option (Nat × List Nat × List DV)
  | .ins c ks xs => some (c, ks, xs)
  | .mr k => match s[k]? with
    | some (some (.ins c ks xs)) => some (c, ks, xs)
    | _ => none
  | _ => none
theorem ins_of {G : Gh} {H : Hp} (gd : Gd p G H) {d : DV} {v : V} {c : Nat} {ks : List Nat} {xs : List DV} (r : Rp p G.F G.μ d v) (h : insS G.st d = some (c, ks, xs)) :
    ∃ a dx fs, v = .ref a ∧ H a = some (.ins (p.cA c) dx fs) ∧ fs.map (·.1) = ks.map p.nm ∧ Rps p G.F G.μ xs (fs.map (·.2)) := by
  unfold insS at h
  split at h
  · cases h
    cases r with
    | ins e k rs => exact ⟨_, _, _, rfl, gd.le _ _ e, k, rs⟩
  · split at h
    · rename_i e
      cases h
      cases r with
      | mr hm =>
        obtain ⟨a, e1, e2, dx, fs, e3, e4, e5⟩ := gd.live _ _ e
        rw [hm] at e1; cases e1
        exact ⟨_, dx, fs, rfl, e3, e4, e5⟩
    · cases h
  · cases h
@[simp] def lkD (n : Nat) : List Nat → List DV → Option DV
  | k :: ks, x :: xs => match decide (k = n) with
    | true => some x
    | false => lkD n ks xs
  | _, _ => none
theorem lk_of {F : Hp} {μ : List Addr} {n : Nat} {d : DV} : ∀ {ks : List Nat} {xs : List DV} {fs : List (Str × V)}, fs.map (·.1) = ks.map p.nm → Rps p F μ xs (fs.map (·.2)) → lkD n ks xs = some d → ∃ v, fs.lookup (p.nm n) = some v ∧ Rp p F μ d v
  | [], _, _, _, _, h => by unfold lkD at h; cases h
  | _ :: _, [], _, _, _, h => by unfold lkD at h; cases h
  | k :: ks, x :: xs, [], hk, _, _ => by cases hk
  | k :: ks, x :: xs, (f, v) :: fs, hk, r, h => by
    cases r with
    | cons r1 r2 =>
      have hk1 : f = p.nm k := by injection hk
      have hk2 : fs.map (·.1) = ks.map p.nm := by injection hk
      unfold lkD at h
      split at h
      · rename_i c
        have c := of_decide_eq_true c
        cases h
        refine ⟨v, ?_, r1⟩
        rw [hk1, c, List.lookup_cons, beq_self_eq_true]
      · rename_i c
        have c := of_decide_eq_false c
        obtain ⟨u, e, r3⟩ := lk_of hk2 r2 h
        refine ⟨u, ?_, r3⟩
        rw [List.lookup_cons]
        have ne : (p.nm n == f) = false := by
          rw [beq_eq_false_iff_ne, hk1]
          intro q
          exact c (p.nmi _ _ q.symm)
        rw [ne]
        exact e
theorem lk_none {m : Str} : ∀ {ks : List Nat} {fs : List (Str × V)}, fs.map (·.1) = ks.map p.nm → (∀ k ∈ ks, p.nm k ≠ m) → fs.lookup m = none
  | [], [], _, _ => rfl
  | [], _ :: _, h, _ => by cases h
  | _ :: _, [], h, _ => by cases h
  | k :: ks, (f, v) :: fs, hk, h => by
    have hk1 : f = p.nm k := by injection hk
    have hk2 : fs.map (·.1) = ks.map p.nm := by injection hk
    rw [List.lookup_cons]
    have ne : (m == f) = false := by
      rw [beq_eq_false_iff_ne, hk1]
      exact fun q => h k (List.mem_cons_self ..) q.symm
    rw [ne]
    exact lk_none hk2 fun j hj => h j (List.mem_cons_of_mem _ hj)
/-- a property's getter, by the class -/
abbrev Sel := Nat → Option (List DV → Sto → R DV)
@[simp] def atD (n : Nat) (ps : Sel) (fc : Nat → Bool) (d : DV) (s : Sto) : R DV := match insS s d with
  | some (c, ks, xs) => match ps c with
    | some g => g [d] s
    | none => match fc c, lkD n ks xs with
      | true, some e => .ok e s
      | _, _ => .bad
  | none => .bad
/-- what is needed of a property -/
structure PrC (p : Pg) (X : Cx) (W : WX) (c : Nat) (f : Str) (g : List DV → Sto → R DV) : Prop where
  ex : ∃ (CX : CXT) (E : XK) (We : XK → WX) (k : Nat) (pa ga : Addr) (fd : FuncData) (ps : List Str),
    Cls X.K (p.cA c) ∧ PropOf X.K (p.cA c) f pa ga ∧ FnOk X.prog X.w X.K X.mg X.base CX k ga fd ps (spD p We ps.length g) ∧ Room (k + 1) X.A ∧ Binds X.K fd ps [] ∧ Passes CX X.nox E ∧ (∀ c d σ H, W0 c d σ H → We E c d [] H) ∧ (∀ ds s, ds.length ≠ ps.length → g ds s = .bad) ∧ (W = W0 ∨ ∀ ds s c ks xs s', g ds s ≠ .exc c ks xs s')
theorem PoV.noexc {G : Gh} {σ : L2.St} {r : R DV} {Q : VK} (h : PoV p W G σ r Q) (n : ∀ c ks xs s', r ≠ .exc c ks xs s') : PoV p W0 G σ r Q := by
  cases r with
  | ok d s => exact h
  | exc c ks xs s => exact absurd rfl (n c ks xs s)
  | bad => exact h
section
variable {e : Expr} {f : Str} {pos : Pos} {ge : GE} {n : Nat} {sel : Sel} {fc : Nat → Bool}
theorem qattr (he : PE X e (rd p W ge)) (hp : ∀ c g, sel c = some g → PrC p X W c f g) (hf : ∀ c, fc c = true → Cls X.K (p.cA c) ∧ NoAttr X.K (p.cA c) f) (hn : p.nm n = f := by rfl) (hab : attributeBase e f X.env (eval e X.env) = eval e X.env := by rfl) :
    PE X (.Attribute e f pos) (rd p W (gUn (atD n sel fc) ge)) := by
  refine ⟨fun pins s σ H Q I h => ?_⟩
  refine attr_of hab ?_
  have key := one (W := W) (p := p) (ga := ge) (g := atD n sel fc) (ta := rd p W ge) (σ := σ) (H := H) (Q := Q) (r := fun x H Q => ∃ G a, Gd p G H ∧ Rp p G.F G.μ a x ∧ PoV p W G σ (atD n sel fc a G.st) Q) (fun _ _ _ z => z) (fun x H Q z => z) h
  refine thn (he.run pins s σ H _ I key) fun u s1 ⟨x, H1, I1, rx, G, d, gd, r, po⟩ => ?_
  unfold atD at po
  split at po
  · rename_i c ks xs hi
    obtain ⟨a, dx, fs, rfl, ea, ek, er⟩ := ins_of gd r hi
    obtain rfl : u = Value.ref a := rx
    split at po
    · rename_i g hg
      obtain ⟨CX, E, We, k, pa, ga, fd, ps, cl, pr, F, hr, hb, hx, hW, hl, nx⟩ := (hp c g hg).ex
      refine getprop_ok I1 ea cl pr F hr hb (.nil : Vals [] []) hx ?_
      have po0 : PoV p W0 G σ (g [d] G.st) Q := by
        rcases nx with nx | nx
        · rw [← nx]; exact po
        · exact PoV.noexc po fun c ks xs s' => nx _ _ c ks xs s'
      exact sp_of hl hW gd (.cons r .nil) po0
    · split at po
      · rename_i e2 h1 h2
        obtain ⟨v, lv, rv⟩ := lk_of ek er h2
        obtain ⟨cl, na⟩ := hf c h1
        rw [hn] at lv
        exact getattr_ok I1 ea cl na lv fun u' s' I' ru => ⟨v, H1, I', ru, Po.ret po GX.rfl' rfl gd rv⟩
      · exact po.elim
  · exact po.elim
end
/-! ### o.m(..) -/
structure MtC (p : Pg) (X : Cx) (W : WX) (c : Nat) (m : Str) (g : List DV → Sto → R DV) : Prop where
  ex : ∃ (CX : CXT) (E : XK) (We : XK → WX) (k : Nat) (f : Addr) (fd : FuncData) (ps : List Str) (dvs : List V) (dsv : List Value) (ds0 : List DV) (g0 : List DV → Sto → R DV),
    Cls X.K (p.cA c) ∧ Meth X.K (p.cA c) m f ∧ FnOk X.prog X.w X.K X.mg X.base CX k f fd ps (spD p We ps.length g0) ∧ Room k X.A ∧ Binds X.K fd ps dsv ∧ Vals dvs dsv ∧ (∀ F μ, Rps p F μ ds0 dvs) ∧ Passes CX X E ∧ (∀ c d σ H, W c d σ H → We E c d [] H) ∧ (∀ ds s, ds.length ≠ ps.length → g0 ds s = .bad) ∧ g = fun l s => g0 (l ++ ds0) s
@[simp] def gMeth (nF : Nat) (sel : Sel) (go : GE) (gl : GL) : GE := fun ρ s => (go ρ s).bind fun o s1 => match insS s1 o with
  | some (c, ks, _) => match sel c, ks.all (fun k => decide (k < nF)) with
    | some g, true => (gl ρ s1).bind fun l s2 => g (o :: l) s2
    | _, _ => .bad
  | none => .bad
section
variable {o e : Expr} {es : List Expr} {m : Str} {pos apos : Pos} {go : GE} {gl : GL} {sel : Sel} {nF : Nat} {pl : Sem Bool}
theorem meth_at {G : Gh} {H : Hp} {σ : L2.St} {d : DV} {v : V} {ρ : En} {Q : VK} (hs : ∀ c g, sel c = some g → MtC p X W c m g) (hF : ∀ k, k < nF → p.nm k ≠ m) (gd : Gd p G H) (r : Rp p G.F G.μ d v)
    (po : PoV p W G σ (match insS G.st d with
      | some (c, ks, _) => match sel c, ks.all (fun k => decide (k < nF)) with
        | some g, true => (gl ρ G.st).bind fun l s2 => g (d :: l) s2
        | _, _ => .bad
      | none => .bad) Q) :
    ∃ c a dx fs g, v = .ref a ∧ H a = some (.ins (p.cA c) dx fs) ∧ fs.lookup m = none ∧ MtC p X W c m g ∧ PoV p W G σ ((gl ρ G.st).bind fun l s2 => g (d :: l) s2) Q := by
  split at po
  · rename_i c ks xs hi
    split at po
    · rename_i g h1 h2
      obtain ⟨a, dx, fs, rfl, ea, ek, er⟩ := ins_of gd r hi
      exact ⟨c, a, dx, fs, g, rfl, ea, lk_none ek fun k hk => hF k (of_decide_eq_true (List.all_eq_true.mp h2 k hk)), hs c g h1, po⟩
    · exact po.elim
  · exact po.elim
theorem qmeth (ho : PE X o (rd p W go)) (hs : ∀ c g, sel c = some g → MtC p X W c m g) (hF : ∀ k, k < nF → p.nm k ≠ m) (ha : PA X (e :: es) (rdL p W gl))
    (hst : starEach (e :: es) X.env = (false, eval e X.env) :: starEach es X.env := by rfl) (hpl : (backTo pos (starEach es X.env)).any (·.1) = false := by rfl)
    (ht : eval (.Call (.Attribute o m apos) (e :: es) [] pos) X.env = (do
      let r ← eval o X.env
      standAt apos.atName
      let (f, first) ← holding [r] (getMethod r m pl)
      callWith pos f first (backTo pos (starEach (e :: es) X.env)) (backToKw pos (keywordEach [] X.env))) := by rfl) :
    PE X (.Call (.Attribute o m apos) (e :: es) [] pos) (rd p W (gMeth nF sel go gl)) := by
  refine ⟨fun pins s σ H Q I ⟨G, ρ, gd, en, po⟩ => ?_⟩
  refine PySem.W.methodCall_KW (pl := pl) (thn (ho.run pins s σ H _ I ⟨G, ρ, gd, en, Po.bind po⟩) fun u s1 ⟨x, H1, I1, rx, G1, d, x1, gd1, r1, po1⟩ => ?_) ht
  obtain ⟨c, a, dx, fs, g, rfl, ea, el, C, po2⟩ := meth_at hs hF gd1 r1 po1
  obtain ⟨CX, E, We, k, f, fd, ps, dvs, dsv, ds0, g0, cl, hm, F, hr, hb, hd, h0, hx, hW, hl, rfl⟩ := C.ex
  obtain rfl : u = Value.ref a := rx
  refine getmeth_ok I1 ea cl hm el ?_
  refine PySem.W.callWith_K (first := [.ref a]) (h₀ := X.base) I.ok.mod.kin hm.kp (thn (ha.run pos pins s1 σ H1 _ I1 ⟨G1, ρ, gd1, en.gx x1, Po.bind po2⟩) fun us s2 ⟨vs, H2, I2, rv, G2, l, x2, gd2, r2, po3⟩ => ⟨I2.kIn, ?_⟩) hst hpl
  refine run_fn (us := .ref a :: us) (vs := .ref a :: vs) F hr hb hd hx I2 (.cons rfl rv) ?_
  exact sp_of (ds := (d :: l) ++ ds0) hl hW gd2 ((Rps.cons (Rg.gx r1 x2) r2).app (h0 _ _)) po3
theorem qmeth0 (ho : PE X o (rd p W go)) (hs : ∀ c g, sel c = some g → MtC p X W c m g) (hF : ∀ k, k < nF → p.nm k ≠ m)
    (ht : eval (.Call (.Attribute o m apos) [] [] pos) X.env = (do
      let r ← eval o X.env
      standAt apos.atName
      let (f, first) ← holding [r] (getMethod r m pl)
      callWith pos f first (backTo pos (starEach [] X.env)) (backToKw pos (keywordEach [] X.env))) := by rfl) :
    PE X (.Call (.Attribute o m apos) [] [] pos) (rd p W (gMeth nF sel go gNil)) := by
  refine ⟨fun pins s σ H Q I ⟨G, ρ, gd, en, po⟩ => ?_⟩
  refine PySem.W.methodCall_KW (pl := pl) (thn (ho.run pins s σ H _ I ⟨G, ρ, gd, en, Po.bind po⟩) fun u s1 ⟨x, H1, I1, rx, G1, d, x1, gd1, r1, po1⟩ => ?_) ht
  obtain ⟨c, a, dx, fs, g, rfl, ea, el, C, po2⟩ := meth_at hs hF gd1 r1 po1
  obtain ⟨CX, E, We, k, f, fd, ps, dvs, dsv, ds0, g0, cl, hm, F, hr, hb, hd, h0, hx, hW, hl, rfl⟩ := C.ex
  obtain rfl : u = Value.ref a := rx
  refine getmeth_ok I1 ea cl hm el ?_
  refine PySem.W.callWith_K0 I1.kIn hm.kp ?_
  refine run_fn (us := [.ref a]) (vs := [.ref a]) F hr hb hd hx I1 (.cons rfl .nil) ?_
  exact sp_of (ds := [d] ++ ds0) hl hW gd1 ((Rps.cons r1 .nil).app (h0 _ _)) po2
end

/-! ### o.f = e in a method; o[i] = e; built-in functions and methods -/
@[simp] def putK (n : Nat) (d : DV) : List Nat → List DV → List Nat × List DV
  | k :: ks, x :: xs => match decide (k = n) with
    | true => (k :: ks, d :: xs)
    | false => match putK n d ks xs with
      | (a, b) => (k :: a, x :: b)
  | _, _ => ([n], [d])
@[simp] def fldD (n : Nat) (fc : Nat → Bool) (o d : DV) (s : Sto) : Option Sto := match o with
  | .mr k => match s[k]? with
    | some (some (.ins c ks xs)) => match fc c && decide (ks.length < 999) with
      | true => match putK n d ks xs with
        | (a, b) => some (s.set k (some (.ins c a b)))
      | false => none
    | _ => none
  | _ => none
theorem put_of {F : Hp} {μ : List Addr} {n : Nat} {d : DV} {v : V} (r : Rp p F μ d v) : ∀ {ks : List Nat} {xs : List DV} {fs : List (Str × V)}, fs.map (·.1) = ks.map p.nm → Rps p F μ xs (fs.map (·.2)) →
    (putF (p.nm n) v fs).map (·.1) = (putK n d ks xs).1.map p.nm ∧ Rps p F μ (putK n d ks xs).2 ((putF (p.nm n) v fs).map (·.2))
  | [], [], [], _, _ => ⟨rfl, .cons r .nil⟩
  | [], _ :: _, [], _, t => by cases t
  | k :: ks, _, [], hk, _ => by cases hk
  | [], _, _ :: _, hk, _ => by cases hk
  | k :: ks, [], (f, u) :: fs, _, t => by cases t
  | k :: ks, x :: xs, (f, u) :: fs, hk, t => by
    cases t with
    | cons t1 t2 =>
      have hk1 : f = p.nm k := by injection hk
      have hk2 : fs.map (·.1) = ks.map p.nm := by injection hk
      unfold putK putF
      by_cases q : k = n
      · subst q
        rw [if_pos hk1, decide_eq_true rfl]
        refine ⟨?_, .cons r t2⟩
        show f :: fs.map (·.1) = p.nm k :: ks.map p.nm
        rw [hk1, hk2]
      · have ne : f ≠ p.nm n := fun z => q (p.nmi _ _ (hk1.symm.trans z))
        rw [if_neg ne, decide_eq_false q]
        obtain ⟨h1, h2⟩ := put_of r hk2 t2
        refine ⟨?_, .cons t1 h2⟩
        show f :: (putF (p.nm n) v fs).map (·.1) = p.nm k :: (putK n d ks xs).1.map p.nm
        rw [hk1, h1]
@[simp] def gFld (n : Nat) (fc : Nat → Bool) (gv go : GE) : GS := fun ρ s => (gv ρ s).toS ρ fun d s1 => (go ρ s1).toS ρ fun o s2 => match fldD n fc o d s2 with
  | some s3 => .nx ρ s3
  | none => .bad
section
variable {o value : Expr} {f : Str} {pos pos' : Pos} {go gv : GE} {n : Nat} {fc : Nat → Bool}
theorem sfld (ho : PE X o (rd p W go)) (hv : PE X value (rd p W gv)) (hf : ∀ c, fc c = true → Cls X.K (p.cA c) ∧ NoAttr X.K (p.cA c) f) (hn : p.nm n = f := by rfl) (hs : swapsWith value (some (.Attribute o f pos')) pos.line X.env = pure false := by rfl) :
    PS X (.Assign [.Attribute o f pos'] value pos) (rdS p W (gFld n fc gv go)) :=
  PS.imp (ps_fld ho hv hs) fun D σ H ⟨G, ρ, gd, en, po⟩ => ⟨G, ρ, gd, en, (PoS.of po en).imp fun y H1 ⟨G1, d, x1, gd1, r1, po1⟩ =>
    ⟨G1, ρ, gd1, en.gx x1, (PoS.of po1 (en.gx x1)).imp fun x H2 ⟨G2, od, x2, gd2, r2, po2⟩ => by
      unfold fldD at po2
      split at po2
      · rename_i s3 h
        split at h
        · rename_i k
          split at h
          · rename_i c ks xs hk
            split at h
            · rename_i hc
              rw [Bool.and_eq_true] at hc
              cases h
              cases r2 with
              | mr hm =>
                obtain ⟨a, e1, e2, dx, fs, e3, e4, e5⟩ := gd2.live k _ hk
                rw [hm] at e1; cases e1
                obtain ⟨cl, na⟩ := hf c hc.1
                obtain ⟨h1, h2⟩ := put_of (n := n) (Rg.gx r1 x2) e4 e5
                rw [hn] at h1 h2
                refine ⟨_, _, dx, fs, rfl, e3, cl, na, ?_, ?_⟩
                · have : fs.length = ks.length := by
                    have := congrArg List.length e4
                    rwa [List.length_map, List.length_map] at this
                  rw [this]
                  have := of_decide_eq_true hc.2
                  omega
                · exact po2 _ σ _ GX.put rfl (gd2.put hm e2 ⟨dx, _, rfl, h1, h2⟩) ((en.gx (x1.trans x2)).gx GX.put)
            · cases h
          · cases h
        · cases h
      · exact po2.elim⟩⟩
/-- o[i] = e, o a list in the making -/
def setD (o i d : DV) (s : Sto) : Option Sto := match o, i with
  | .mr k, .int j => match s[k]? with
    | some (some (.lst xs)) => match ixN xs.length j with
      | some m => some (s.set k (some (.lst (xs.set m d))))
      | none => none
    | _ => none
  | _, _ => none
@[simp] def gSetI (gv go gi : GE) : GS := fun ρ s => (gv ρ s).toS ρ fun d s1 => (go ρ s1).toS ρ fun o s2 => (gi ρ s2).toS ρ fun i s3 => match setD o i d s3 with
  | some s4 => .nx ρ s4
  | none => .bad
theorem sseti {i : Expr} {gi : GE} (hv : PE X value (rd p W gv)) (ho : PE X o (rd p W go)) (hi : PE X i (rd p W gi))
    (ha : ∀ v, assign (.Subscript o i pos') X.env v = (do
      let ov ← holding [v] (eval o X.env)
      let iv ← holding [v, ov] (eval i X.env)
      standAt pos'
      holding [v, ov, iv] (setItem ov iv v)
      release [v, ov, iv] []) := by intro _; rfl)
    (hs : swapsWithSole [.Subscript o i pos'] value pos.line X.env = pure false := by rfl) (hw : swappedStores [.Subscript o i pos'] value X.env = pure none := by rfl)
    (h1 : (assignEach [.Subscript o i pos'] X.env).map (·.2) = [assign (.Subscript o i pos') X.env] := by rfl) :
    PS X (.Assign [.Subscript o i pos'] value pos) (rdS p W (gSetI gv go gi)) :=
  PS.imp (ps_asg hv (pg_sub ho hi set_list ha) hs hw h1) fun D σ H ⟨G, ρ, gd, en, po⟩ => ⟨G, ρ, gd, en, (PoS.of po en).imp fun y H1 ⟨G1, d, x1, gd1, r1, po1⟩ =>
    ⟨G1, ρ, gd1, en.gx x1, (PoS.of po1 (en.gx x1)).imp fun x H2 ⟨G2, od, x2, gd2, r2, po2⟩ =>
      ⟨G2, ρ, gd2, en.gx (x1.trans x2), (PoS.of po2 (en.gx (x1.trans x2))).imp fun z H3 ⟨G3, id, x3, gd3, r3, po3⟩ => by
        unfold setD at po3
        split at po3
        · rename_i s4 h
          split at h
          · rename_i k j
            split at h
            · rename_i xs hk
              split at h
              · rename_i m hm
                cases h
                cases r3
                cases Rg.gx r2 x3 with
                | mr hmu =>
                  obtain ⟨a, e1, e2, vs, e3, e4⟩ := gd3.live _ _ hk
                  rw [hmu] at e1; cases e1
                  refine ⟨_, vs, _, m, rfl, rfl, e3, by rw [← e4.length]; exact hm, ?_⟩
                  exact po3 _ σ _ GX.put rfl (gd3.put hmu e2 ⟨_, rfl, Rps.set (Rg.gx r1 (x2.trans x3)) m e4⟩) ((en.gx (x1.trans (x2.trans x3))).gx GX.put)
              · cases h
            · cases h
          · cases h
        · exact po3.elim⟩⟩⟩
end
/-! ### built-in functions by data -/
def rCal (p : Pg) (W : WX) (g : List DV → Sto → R DV) : List V → Hp → VK → Prop := fun vs H Q => ∃ G ds σ, Gd p G H ∧ Rps p G.F G.μ ds vs ∧ PoV p W G σ (g ds G.st) Q
@[simp] def gB (g : List DV → Sto → R DV) (gl : GL) : GE := fun ρ s => (gl ρ s).bind fun l s1 => g l s1
theorem CallR.of {f : Value} {g : List DV → Sto → R DV} (h : ∀ (G : Gh) (H : Hp) (σ : L2.St) (ds : List DV) (vs : List V) (Q : VK), Gd p G H → Rps p G.F G.μ ds vs → PoV p W G σ (g ds G.st) Q →
      ∃ r : List V → Hp → VK → Prop, CallR X f r ∧ r vs H Q) : CallR X f (rCal p W g) := fun pins s σ H vs us Q I r ⟨G, ds, σ', gd, rs, po⟩ => by
  obtain ⟨q, hq, z⟩ := h G H σ' ds vs Q gd rs po
  exact hq pins s σ H vs us Q I r z
section
variable {x : Str} {pp pos : Pos} {e : Expr} {es : List Expr} {gl : GL} {g : List DV → Sto → R DV} {id T : String}
theorem tcb_of {σ : L2.St} {H : Hp} {Q : VK} (h : rd p W (gB g gl) σ H Q) : tCB (rCal p W g) (rdL p W gl) σ H Q := by
  obtain ⟨G, ρ, gd, en, po⟩ := h
  exact ⟨G, ρ, gd, en, (Po.bind po).imp fun vs H1 ⟨G1, l, x1, gd1, r1, po1⟩ => ⟨G1, l, σ, gd1, r1, po1⟩⟩
theorem qblt (hc : CallR X (.builtin id) (rCal p W g)) (hm : X.mg x = none) (hg : Gl X x) (hv : bootBuiltins x = some (.builtin id)) (ha : PA X (e :: es) (rdL p W gl)) (hn : x ≠ "__name__" := by decide) (hdb : (x == ("__debug__" : Str)) = false := by decide)
    (he : starEach (e :: es) X.env = (false, eval e X.env) :: starEach es X.env := by rfl) (hpl : (backTo pos (starEach es X.env)).any (·.1) = false := by rfl) : PE X (.Call (.Name x pp) (e :: es) [] pos) (rd p W (gB g gl)) :=
  PE.imp (pe_callB hc hg hm hv ha hn hdb he hpl) fun σ H Q h => tcb_of h
theorem qbty (hc : CallR X (.type T) (rCal p W g)) (hm : X.mg x = none) (hg : Gl X x) (hv : bootBuiltins x = some (.type T)) (ha : PA X (e :: es) (rdL p W gl)) (hn : x ≠ "__name__" := by decide) (hdb : (x == ("__debug__" : Str)) = false := by decide)
    (he : starEach (e :: es) X.env = (false, eval e X.env) :: starEach es X.env := by rfl) (hpl : (backTo pos (starEach es X.env)).any (·.1) = false := by rfl) : PE X (.Call (.Name x pp) (e :: es) [] pos) (rd p W (gB g gl)) :=
  PE.imp (pe_callTy hc hg hm hv ha hn hdb he hpl) fun σ H Q h => tcb_of h
/-- a built-in that the module has by its own name (gcd) -/
theorem qbfn (hc : CallR X (.builtin id) (rCal p W g)) (hm : X.mg x = some (.builtin id)) (hg : Gl X x) (ha : PA X (e :: es) (rdL p W gl)) (hdb : (x == ("__debug__" : Str)) = false := by decide)
    (he : starEach (e :: es) X.env = (false, eval e X.env) :: starEach es X.env := by rfl) (hpl : (backTo pos (starEach es X.env)).any (·.1) = false := by rfl) : PE X (.Call (.Name x pp) (e :: es) [] pos) (rd p W (gB g gl)) :=
  PE.imp (pe_callBfun hc hg hm ha hdb he hpl) fun σ H Q h => tcb_of h
end
def lenD : List DV → Sto → R DV
  | [.str z], s => okIf (decide (z.length ≤ sizeLine)) (.int z.length) s
  | [d], s => match seqS s d with
    | some xs => .ok (.int xs.length) s
    | none => .bad
  | _, _ => .bad
theorem opd_len (hK : X.K = p.K) : CallR X (.builtin "len") (rCal p W lenD) := CallR.of fun G H σ ds vs Q gd rs po => by
  unfold lenD at po
  split at po
  · cases rs with
    | cons r t =>
      cases t; cases r
      obtain ⟨c, po⟩ := okIf_po po
      exact ⟨_, call_len, _, _, rfl, ⟨of_decide_eq_true c, rfl⟩, Po.ret po GX.rfl' rfl gd (.int _)⟩
  · cases rs with
    | cons r t =>
      cases t
      split at po
      · rename_i xs e
        obtain ⟨a, vs, rfl, hs, r2⟩ := seq_of gd r e
        refine ⟨_, call_len_seq, a, vs, rfl, by rw [hK]; exact hs, ?_⟩
        rw [← r2.length]
        exact Po.ret po GX.rfl' rfl gd (.int _)
      · exact po.elim
  · exact po.elim
@[simp] def absD : List DV → Sto → R DV
  | [.int i], s => .ok (.int (if i < 0 then -i else i)) s
  | _, _ => .bad
theorem opd_abs : CallR X (.builtin "abs") (rCal p W absD) := CallR.of fun G H σ ds vs Q gd rs po => by
  unfold absD at po
  split at po
  · cases rs with
    | cons r t => cases t; cases r; exact ⟨_, call_abs, _, rfl, Po.ret po GX.rfl' rfl gd (.int _)⟩
  · exact po.elim
@[simp] def maxD : List DV → Sto → R DV
  | [.int i, .int j], s => .ok (.int (if j > i then j else i)) s
  | _, _ => .bad
@[simp] def minD : List DV → Sto → R DV
  | [.int i, .int j], s => .ok (.int (if j < i then j else i)) s
  | _, _ => .bad
theorem opd_max (hc : X.calm = true) : CallR X (.builtin "max") (rCal p W maxD) := CallR.of fun G H σ ds vs Q gd rs po => by
  unfold maxD at po
  split at po
  · cases rs with
    | cons r t => cases t with
      | cons r2 t2 => cases t2; cases r; cases r2; exact ⟨_, call_max2 hc, _, _, rfl, Po.ret po GX.rfl' rfl gd (.int _)⟩
  · exact po.elim
theorem opd_min (hc : X.calm = true) : CallR X (.builtin "min") (rCal p W minD) := CallR.of fun G H σ ds vs Q gd rs po => by
  unfold minD at po
  split at po
  · cases rs with
    | cons r t => cases t with
      | cons r2 t2 => cases t2; cases r; cases r2; exact ⟨_, call_min2 hc, _, _, rfl, Po.ret po GX.rfl' rfl gd (.int _)⟩
  · exact po.elim
@[simp] def intD : List DV → Sto → R DV
  | [.int i], s => .ok (.int i) s
  | [.bl k], s => .ok (.int (if k then 1 else 0)) s
  | _, _ => .bad
theorem opd_int : CallR X (.type "int") (rCal p W intD) := CallR.of fun G H σ ds vs Q gd rs po => by
  unfold intD at po
  split at po
  · cases rs with
    | cons r t => cases t; cases r; exact ⟨_, call_int1, .inl ⟨_, rfl, Po.ret po GX.rfl' rfl gd (.int _)⟩⟩
  · cases rs with
    | cons r t => cases t; cases r; exact ⟨_, call_int1, .inr ⟨_, rfl, Po.ret po GX.rfl' rfl gd (.int _)⟩⟩
  · exact po.elim
def listD : List DV → Sto → R DV
  | [d], s => match seqS s d with
    | some xs => .ok (.lst xs) s
    | none => .bad
  | _, _ => .bad
theorem opd_list (hK : X.K = p.K) : CallR X (.type "list") (rCal p W listD) := CallR.of fun G H σ ds vs Q gd rs po => by
  unfold listD at po
  split at po
  · cases rs with
    | cons r t =>
      cases t
      split at po
      · rename_i xs e
        obtain ⟨a, vs, rfl, hs, r2⟩ := seq_of gd r e
        exact ⟨_, call_list_of, a, vs, rfl, by rw [hK]; exact hs, fun q hq => new_lst gd r2 po hq⟩
      · exact po.elim
  · exact po.elim
@[simp] def gcdD : List DV → Sto → R DV
  | [.int i, .int j], s => .ok (.int (Int.gcd i j : Nat)) s
  | _, _ => .bad
/-! ### built-in methods -/
def appD (k : Nat) (d : DV) (s : Sto) : R DV := match s[k]? with
  | some (some (.lst xs)) => match decide (xs.length < sizeLine) with
    | true => .ok .non (s.set k (some (.lst (xs ++ [d]))))
    | false => .bad
  | _ => .bad
/-- xs.append(e), xs a list in the making -/
@[simp] def gApp (go ge : GE) : GE := fun ρ s => (go ρ s).bind fun o s1 => match o with
  | .mr k => match s1[k]? with
    | some (some (.lst _)) => (ge ρ s1).bind fun d s2 => appD k d s2
    | _ => .bad
  | _ => .bad
theorem qapp {o e : Expr} {go ge : GE} {apos cpos : Pos} (ho : PE X o (rd p W go)) (he : PE X e (rd p W ge))
    (hbase : attributeBase o "append" X.env (eval o X.env) = eval o X.env := by rfl)
    (hfew : ((backTo cpos (starEach [e] X.env)).all (fun x => !x.1) && (backToKw cpos (keywordEach [] X.env)).all (fun x => x.1.isSome)
      && decide ([e].length + ([] : List Keyword).length + (if ([] : List Keyword).isEmpty then 0 else 1) < 30)) = true := by rfl)
    (hline : (apos.endLine == cpos.line) = true := by rfl) (hs : starEach [e] X.env = (false, eval e X.env) :: starEach [] X.env := by rfl) : PE X (.Call (.Attribute o "append" apos) [e] [] cpos) (rd p W (gApp go ge)) :=
  PE.imp (pe_bm PySem.F.plainAttrs_list PySem.F.slot_list_append PySem.F.type_list_append mt_append ho (pa_cons he pa_nil hs) hbase hfew hline hs rfl) fun σ H Q ⟨G, ρ, gd, en, po⟩ => ⟨G, ρ, gd, en, (Po.bind po).imp fun v H1 ⟨G1, od, x1, gd1, r1, po1⟩ => by
    split at po1
    · split at po1
      · rename_i k _ xs hk
        cases r1 with
        | mr hm =>
          obtain ⟨a, e1, e2, vs, e3, e4⟩ := gd1.live k _ hk
          rw [hm] at e1; cases e1
          refine ⟨.inl ⟨rfl, _, SqL.of e3⟩, G1, ρ, gd1, en.gx x1, (Po.bind po1).imp fun u H2 ⟨G2, d, x2, gd2, r2, po2⟩ => ?_⟩
          unfold appD at po2
          split at po2
          · rename_i ys hk2
            split at po2
            · rename_i c
              obtain ⟨b, f1, f2, us, f3, f4⟩ := gd2.live k _ hk2
              have hm2 := x2.m _ _ hm
              rw [hm2] at f1; cases f1
              refine ⟨_, us, u, rfl, rfl, f3, by rw [← f4.length]; exact of_decide_eq_true c, ?_⟩
              exact Po.ret po2 GX.put rfl (gd2.put hm2 f2 ⟨_, rfl, f4.app (.cons r2 .nil)⟩) .non
            · exact po2.elim
          · exact po2.elim
      · exact po1.elim
    · exact po1.elim⟩
end
end Dq

/-! The text's own operators; more built-ins. -/
namespace Dq
open PySem PySem.Spec PyProof.Rows L2
section
variable {p : Pg} {X : Cx} {W : WX}

theorem FnC.run {f : Addr} {g : List DV → Sto → R DV} {ds0 : List DV} (C : FnC p X W f g ds0) {pins : List (Addr × Obj)} {σ σ' : L2.St} {H : Hp} {s : Shared} {us : List Value} {vs : List V} {ds : List DV} {G : Gh} {Q : VK} (I : Inv X pins σ H s) (r : Vals vs us)
    (gd : Gd p G H) (rs : Rps p G.F G.μ ds vs) (po : PoV p W G σ' (g (ds ++ ds0) G.st) Q) : wpAny (model X.prog X.w) X.A (call (.ref f) us) (EP X pins σ Q) X.xe s := by
  obtain ⟨CX, E, We, k, fd, ps, dvs, dsv, F, hr, hb, hd, h0, hx, hW, hl⟩ := C.ex
  exact run_fn F hr hb hd hx I r (sp_of hl hW gd (rs.app (h0 _ _)) po)
/-- the class has the special method name; g is what it does -/
structure SpC (p : Pg) (X : Cx) (W : WX) (c : Nat) (name : Str) (g : List DV → Sto → R DV) : Prop where
  ex : ∃ f, PySem.W.findIn X.K (.ref (p.cA c)) name = some (some (.ref f)) ∧ PySem.W.isFn X.K (.ref f) = true ∧ FnC p X W f g []
theorem inst_at {pins : List (Addr × Obj)} {σ : L2.St} {H : Hp} {s : Shared} {a C dx : Addr} {fs : List (Str × V)} (I : Inv X pins σ H s) (e : H a = some (.ins C dx fs)) : ∃ ox od, PySem.W.InstAt s.heap a ox C od := by
  obtain ⟨mA, O, _⟩ := ins_get I.hok e
  obtain ⟨od, J, _⟩ := O.look
  exact ⟨_, _, J⟩
theorem cmpBack_of {Q : VK} {pins : List (Addr × Obj)} {σ : L2.St} {u : Value} {s : Shared} (h : EP X pins σ Q u s) : PySem.W.CmpBack (EP X pins σ Q) u s := by
  obtain ⟨v, H, I, r, q⟩ := h
  cases u <;> first | exact ⟨v, H, I, r, q⟩ | (cases v <;> first | (obtain ⟨_, r⟩ := r; cases r) | cases r)
/-! ### a op b, a an instance, b one of the same class -/
def ownBin (own : Sel) (g : DV → DV → Sto → R DV) (a b : DV) (s : Sto) : R DV := match insS s a with
  | some (c, _, _) => match own c, insS s b with
    | some f, some (c', _, _) => match decide (c' = c) with
      | true => f [a, b] s
      | false => .bad
    | _, _ => .bad
  | none => g a b s
theorem opd_own {op : Operator} {own : Sel} {g : DV → DV → Sto → R DV} (h : OpR X (binaryOp op) (rOp p W g)) (hs : ∀ c f, own c = some f → SpC p X W c (PySem.dunder op.info.2) f ∧ PySem.W.selfFirst X.K (p.cA c) = true) : OpR X (binaryOp op) (rOp p W (ownBin own g)) :=
  fun pins s σ H x y v u Q I rx ry ⟨G, a, b, σ', gd, ra, rb, po⟩ => by
    unfold ownBin at po
    split at po
    · rename_i c ks xs hi
      split at po
      · rename_i f c' ks' xs' hf hi'
        split at po
        · rename_i hc
          have hc := of_decide_eq_true hc
          subst hc
          obtain ⟨x1, dx, fs, rfl, ea, _, _⟩ := ins_of gd ra hi
          obtain ⟨y1, dy, fs', rfl, eb, _, _⟩ := ins_of gd rb hi'
          obtain rfl : v = Value.ref x1 := rx
          obtain rfl : u = Value.ref y1 := ry
          obtain ⟨ox, od, J⟩ := inst_at I ea
          obtain ⟨oy, od', J'⟩ := inst_at I eb
          obtain ⟨m, hF⟩ := I.fr
          obtain ⟨⟨f1, h1, h2, C⟩, h3⟩ := hs _ f hf
          refine PySem.W.binop_K hF I.ok.mod.kin J J'.type h3 h1 h2 (thn (C.run (Q := Q) I (.cons rfl (.cons rfl .nil) : Vals [.ref x1, .ref y1] [.ref x1, .ref y1]) gd (.cons ra (.cons rb .nil)) (by rw [List.append_nil]; exact po)) fun u s' z => cmpBack_of z)
        · exact po.elim
      · exact po.elim
    · exact h pins s σ H x y v u Q I rx ry ⟨G, a, b, σ', gd, ra, rb, po⟩
/-! ### a == b, a an instance, b one of the same class -/
@[simp] def ownEq (own : Sel) (g : DV → DV → Sto → R DV) (a b : DV) (s : Sto) : R DV := match insS s a with
  | some (c, _, _) => match own c, insS s b with
    | some f, some (c', _, _) => match decide (c' = c) with
      | true => f [a, b] s
      | false => .bad
    | _, _ => .bad
  | none => g a b s
theorem opd_ownEq {own : Sel} {g : DV → DV → Sto → R DV} (hu : X.A.units < cLine) (h : OpR X (compareOp .Eq) (rOp p W g)) (hs : ∀ c f, own c = some f → SpC p X W c "__eq__" f) : OpR X (compareOp .Eq) (rOp p W (ownEq own g)) :=
  fun pins s σ H x y v u Q I rx ry ⟨G, a, b, σ', gd, ra, rb, po⟩ => by
    unfold ownEq at po
    split at po
    · rename_i c ks xs hi
      split at po
      · rename_i f c' ks' xs' hf hi'
        split at po
        · rename_i hc
          have hc := of_decide_eq_true hc
          subst hc
          obtain ⟨x1, dx, fs, rfl, ea, _, _⟩ := ins_of gd ra hi
          obtain ⟨y1, dy, fs', rfl, eb, _, _⟩ := ins_of gd rb hi'
          obtain rfl : v = Value.ref x1 := rx
          obtain rfl : u = Value.ref y1 := ry
          obtain ⟨ox, od, J⟩ := inst_at I ea
          obtain ⟨oy, od', J'⟩ := inst_at I eb
          obtain ⟨m, hF⟩ := I.fr
          obtain ⟨f1, h1, h2, C⟩ := (hs _ f hf).ex
          show wpAny (model X.prog X.w) X.A (richCompare .Eq (.ref x1) (.ref y1)) (EP X pins σ Q) X.xe s
          refine PySem.W.cmp_K (op := .Eq) hu hF I.ok.mod.kin J J'.type (by simp [PySem.W.notFirst]) h1 h2 (thn (C.run (Q := Q) I (.cons rfl (.cons rfl .nil) : Vals [.ref x1, .ref y1] [.ref x1, .ref y1]) gd (.cons ra (.cons rb .nil)) (by rw [List.append_nil]; exact po)) fun u s' z => cmpBack_of z)
        · exact po.elim
      · exact po.elim
    · exact h pins s σ H x y v u Q I rx ry ⟨G, a, b, σ', gd, ra, rb, po⟩
/-! ### -a -/
@[simp] def ownUn (own : Sel) (g : DV → Sto → R DV) (a : DV) (s : Sto) : R DV := match insS s a with
  | some (c, _, _) => match own c with
    | some f => f [a] s
    | none => .bad
  | none => g a s
theorem opd_ownNeg {own : Sel} {g : DV → Sto → R DV} (h : UnR X (unaryOp .USub) (rUn1 p W g)) (hs : ∀ c f, own c = some f → SpC p X W c "__neg__" f) : UnR X (unaryOp .USub) (rUn1 p W (ownUn own g)) :=
  fun pins s σ H x v Q I rx ⟨G, a, σ', gd, ra, po⟩ => by
    unfold ownUn at po
    split at po
    · rename_i c ks xs hi
      split at po
      · rename_i f hf
        obtain ⟨x1, dx, fs, rfl, ea, _, _⟩ := ins_of gd ra hi
        obtain rfl : v = Value.ref x1 := rx
        obtain ⟨ox, od, J⟩ := inst_at I ea
        obtain ⟨f1, h1, h2, C⟩ := (hs _ f hf).ex
        unfold unaryOp
        refine wpAny_holding ?_
        show wpAny _ _ (callSpecial? (.ref x1) "__neg__" >>= _) _ _ _
        refine wpAny_bind (PySem.W.special_fn I.kIn J h1 (beq_iff_eq.mp h2) (thn (C.run (Q := Q) I (.cons rfl .nil : Vals [.ref x1] [.ref x1]) gd (.cons ra .nil) (by rw [List.append_nil]; exact po)) fun u s' z => ?_))
        exact wpAny_pure z
      · exact po.elim
    · exact h pins s σ H x v Q I rx ⟨G, a, σ', gd, ra, po⟩
/-! ### a in b -/
@[simp] def ownIn (neg : Bool) (own : Sel) (g : DV → DV → Sto → R DV) (a b : DV) (s : Sto) : R DV := match insS s b with
  | some (c, _, _) => match own c with
    | some f => (f [b, a] s).bind fun r s1 => match r with
      | .bl k => .ok (.bl (if neg then !k else k)) s1
      | _ => .bad
    | none => .bad
  | none => g a b s
theorem opd_ownIn {own : Sel} {g : DV → DV → Sto → R DV} (h : OpR X (compareOp .In) (rOp p W g)) (hs : ∀ c f, own c = some f → SpC p X W c "__contains__" f) : OpR X (compareOp .In) (rOp p W (ownIn false own g)) :=
  fun pins s σ H x y v u Q I rx ry ⟨G, a, b, σ', gd, ra, rb, po⟩ => by
    unfold ownIn at po
    split at po
    · rename_i c ks xs hi
      split at po
      · rename_i f hf
        obtain ⟨y1, dy, fs', rfl, eb, _, _⟩ := ins_of gd rb hi
        obtain rfl : u = Value.ref y1 := ry
        obtain ⟨ox, od, J⟩ := inst_at I eb
        obtain ⟨m, hF⟩ := I.fr
        obtain ⟨f1, h1, h2, C⟩ := (hs _ f hf).ex
        refine PySem.W.in_K hF I.ok.mod.kin J h1 h2 (thn (C.run I (.cons rfl (.cons rx .nil) : Vals [.ref y1, x] [.ref y1, v]) gd (.cons rb (.cons ra .nil)) (by rw [List.append_nil]; exact Po.bind po)) fun r s' z => ?_)
        obtain ⟨w, H1, I1, rw', G1, d, x1, gd1, r1, po1⟩ := z
        split at po1
        · cases r1
          cases rw'
          exact wpAny_truthy_bool ⟨.bl _, H1, I1, rfl, Po.ret po1 GX.rfl' rfl gd1 (.bl _)⟩
        · exact po1.elim
      · exact po.elim
    · exact h pins s σ H x y v u Q I rx ry ⟨G, a, b, σ', gd, ra, rb, po⟩
theorem opd_ownNotIn {own : Sel} {g : DV → DV → Sto → R DV} (h : OpR X (compareOp .NotIn) (rOp p W g)) (hs : ∀ c f, own c = some f → SpC p X W c "__contains__" f) : OpR X (compareOp .NotIn) (rOp p W (ownIn true own g)) :=
  fun pins s σ H x y v u Q I rx ry ⟨G, a, b, σ', gd, ra, rb, po⟩ => by
    unfold ownIn at po
    split at po
    · rename_i c ks xs hi
      split at po
      · rename_i f hf
        obtain ⟨y1, dy, fs', rfl, eb, _, _⟩ := ins_of gd rb hi
        obtain rfl : u = Value.ref y1 := ry
        obtain ⟨ox, od, J⟩ := inst_at I eb
        obtain ⟨m, hF⟩ := I.fr
        obtain ⟨f1, h1, h2, C⟩ := (hs _ f hf).ex
        refine PySem.W.notIn_K hF I.ok.mod.kin J h1 h2 (thn (C.run I (.cons rfl (.cons rx .nil) : Vals [.ref y1, x] [.ref y1, v]) gd (.cons rb (.cons ra .nil)) (by rw [List.append_nil]; exact Po.bind po)) fun r s' z => ?_)
        obtain ⟨w, H1, I1, rw', G1, d, x1, gd1, r1, po1⟩ := z
        split at po1
        · cases r1
          cases rw'
          exact wpAny_truthy_bool ⟨.bl _, H1, I1, rfl, Po.ret po1 GX.rfl' rfl gd1 (.bl _)⟩
        · exact po1.elim
      · exact po.elim
    · exact h pins s σ H x y v u Q I rx ry ⟨G, a, b, σ', gd, ra, rb, po⟩
/-! ### gcd, divmod -/
theorem opd_gcd : CallR X (.builtin "math.gcd") (rCal p W gcdD) := CallR.of fun G H σ ds vs Q gd rs po => by
  unfold gcdD at po
  split at po
  · cases rs with
    | cons r t => cases t with
      | cons r2 t2 => cases t2; cases r; cases r2; exact ⟨_, cr_gcd, _, _, rfl, Po.ret po GX.rfl' rfl gd (.int _)⟩
  · exact po.elim
def divmodD : List DV → Sto → R DV
  | [.int i, .int j], s => okIf (decide (0 < j) && decide (j.natAbs.log2 < 9000)) (.tup [.int (i / j), .int (i % j)]) s
  | _, _ => .bad
theorem opd_divmod : CallR X (.builtin "divmod") (rCal p W divmodD) := CallR.of fun G H σ ds vs Q gd rs po => by
  unfold divmodD at po
  split at po
  · cases rs with
    | cons r t => cases t with
      | cons r2 t2 =>
        cases t2; cases r; cases r2
        obtain ⟨c, po⟩ := okIf_po po
        rw [Bool.and_eq_true] at c
        exact ⟨_, call_divmodW, _, _, rfl, ⟨of_decide_eq_true c.1, PyProof.noPylong_of_log2 (of_decide_eq_true c.2)⟩, fun q hq => new_tup gd (.cons (.int _) (.cons (.int _) .nil)) po hq⟩
  · exact po.elim

/-! ### isinstance(x, a class) -/
inductive Ty where
  | bi (n : String) | own (c : Nat)
def tyD (s : Sto) : DV → Option Ty
  | .non => some (.bi "NoneType")
  | .bl _ => some (.bi "bool")
  | .int _ => some (.bi "int")
  | .str _ => some (.bi "str")
  | .lst _ => some (.bi "list")
  | .wl _ => some (.bi "list")
  | .tup _ => some (.bi "tuple")
  | .ins c _ _ => some (.own c)
  | .mr k => match s[k]? with
    | some (some (.lst _)) => some (.bi "list")
    | some (some (.ins c _ _)) => some (.own c)
    | _ => none
  | .exn _ _ _ => none
def Ty.val (p : Pg) : Ty → Value
  | .bi n => .type n
  | .own c => .ref (p.cA c)
/-- what isinstance wants of a class of the text -/
structure IsC (p : Pg) (K : PySem.W.Frag) (c : Nat) : Prop where
  cl : Cls K (p.cA c)
  ha : PySem.W.findIn K (.ref (p.cA c)) "__class__" = some (some (.builtin "object.__class__"))
  hn : PySem.W.specialIn K (.builtin "object.__class__") "__get__" = some (some (.builtin "getset_descriptor.__get__"))
  hk : PySem.W.takesIn K (.builtin "object.__class__") = some true
  hm : PySem.W.mroIn K (p.cA c) (.type "object") = some true
def sqTy (K : PySem.W.Frag) (H : Hp) (a : Addr) (xs : List V) (h : SqL K H a xs) : TyX K H (.ref a) (.type "list") := by
  rcases h with (h | ⟨o, h⟩) | ⟨o, its, n, h1, h2, _⟩
  · exact .base (.lst h)
  · exact .base (.frz h)
  · exact .kList h1 h2
def tqTy (K : PySem.W.Frag) (H : Hp) (a : Addr) (xs : List V) (h : SqT K H a xs) : TyX K H (.ref a) (.type "tuple") := by
  rcases h with (h | ⟨o, h⟩) | ⟨o, its, n, h1, h2, _⟩
  · exact .base (.tup h)
  · exact .fTuple h
  · exact .kTuple h1 h2
theorem ty_of {G : Gh} {H : Hp} (gd : Gd p G H) {d : DV} {v : V} {t : Ty} (hc : ∀ c, t = .own c → IsC p p.K c) (r : Rp p G.F G.μ d v) (h : tyD G.st d = some t) : TyX p.K H v (t.val p) := by
  have own : ∀ {c : Nat} {a dx : Addr} {fs : List (Str × V)}, t = .own c → H a = some (.ins (p.cA c) dx fs) → TyX p.K H (.ref a) (Ty.val p (.own c)) := fun e ea =>
    let z := hc _ e; .base (.ins ea z.cl z.ha z.hn z.hk z.hm)
  unfold tyD at h
  split at h
  · cases h; cases r; exact .base .non
  · cases h; cases r; exact .base (.bl _)
  · cases h; cases r; exact .base (.int _)
  · cases h; cases r; exact .base (.str _)
  · cases h; cases r with
    | lst a rs => exact sqTy _ _ _ _ (SqL.of (gd.le _ _ a))
  · cases h; cases r with
    | wl a rs => exact sqTy _ _ _ _ (sqL_up gd.le a)
  · cases h; cases r with
    | tup a rs => exact tqTy _ _ _ _ (sqT_up gd.le a)
  · cases h; cases r with
    | ins a k rs => exact own rfl (gd.le _ _ a)
  · cases r with
    | mr hm =>
      split at h
      · rename_i xs e
        cases h
        obtain ⟨a, e1, e2, vs, e3, e4⟩ := gd.live _ _ e
        rw [hm] at e1; cases e1
        exact sqTy _ _ _ _ (SqL.of e3)
      · rename_i c ks xs e
        cases h
        obtain ⟨a, e1, e2, dx, fs, e3, e4, e5⟩ := gd.live _ _ e
        rw [hm] at e1; cases e1
        exact own rfl e3
      · cases h
  · cases h
/-- isinstance(x, C): the answers for one C by the type of x -/
def isiD (ans : Ty → Option Bool) (d : DV) (s : Sto) : R DV := match tyD s d with
  | some t => match ans t with
    | some b => .ok (.bl b) s
    | none => .bad
  | none => .bad
theorem qisi {x : Str} {pp pos : Pos} {e c : Expr} {ge : GE} {cv : V} {cu : Value} {ans : Ty → Option Bool} (hm : X.mg x = none) (hg : Gl X x) (hv : bootBuiltins x = some (.builtin "isinstance")) (he : PE X e (rd p W ge)) (hc : PE X c (tC cv)) (hcu : ClsV cv cu) (hK : X.K = p.K)
    (ha : ∀ t b, ans t = some b → PySem.W.kitOne p.K (t.val p) cu = some b ∧ ∀ c, t = .own c → IsC p p.K c)
    (hn : x ≠ "__name__" := by decide) (hdb : (x == ("__debug__" : Str)) = false := by decide)
    (hse : starEach [e, c] X.env = (false, eval e X.env) :: starEach [c] X.env := by rfl) (hse2 : starEach [c] X.env = (false, eval c X.env) :: starEach [] X.env := by rfl) (hpl : (backTo pos (starEach [c] X.env)).any (·.1) = false := by rfl) :
    PE X (.Call (.Name x pp) [e, c] [] pos) (rd p W (gUn (isiD ans) ge)) :=
  PE.imp (pe_callB call_isi hg hm hv (pa_cons he (pa_cons hc pa_nil hse2) hse) hn hdb hse hpl) fun σ H Q ⟨G, ρ, gd, en, po⟩ => ⟨G, ρ, gd, en, (Po.bind po).imp fun v H1 ⟨G1, d, x1, gd1, r1, po1⟩ => by
    unfold isiD at po1
    split at po1
    · rename_i t ht
      split at po1
      · rename_i b hb
        obtain ⟨h1, h2⟩ := ha t b hb
        exact ⟨v, cv, _, cu, b, rfl, hcu, by rw [hK]; exact ty_of gd1 h2 r1 ht, by rw [hK]; exact h1, Po.ret po1 GX.rfl' rfl gd1 (.bl _)⟩
      · exact po1.elim
    · exact po1.elim⟩
end
end Dq

/-! Defs in a row; the head. -/
namespace Dq
open PySem PySem.Spec PyProof.Rows L2

/-! ### a def that hands back what it made, not frozen -/
def RS.finK : RS → R DV
  | .nx _ s => .ok .non s
  | .rt d s => .ok d s
  | .exc c ks xs _ s => .exc c ks xs s
  | _ => .bad
def runK (N n : Nat) (b : GS) : List DV → Sto → R DV := fun ds s => match decide (ds.length = n) with
  | true => (b (ds.map some ++ List.replicate (N - n) none) s).finK
  | false => .bad
theorem runK_len {N n : Nat} {b : GS} {ds : List DV} {s : Sto} (h : ds.length ≠ n) : runK N n b ds s = .bad := by
  unfold runK
  rw [decide_eq_false h]
section
variable {p : Pg}
theorem body_ofK {We : XK → WX} (hW : ∀ E c d σ σ' H, We E c d σ H → We E c d σ' H) {N : List Str} {n : Nat} {b : GS} {vs : List V} {H : Hp} {Q : VK} {E : XK} (hn : n ≤ N.length) (h : spD p We n (runK N.length n b) vs H Q E) :
    rdS p (We E) b { nx := fun _ H' => Q .non H', rt := Q } (L2.start N vs) H := by
  obtain ⟨hl, G, ds, gd, r, po⟩ := h
  unfold runK at po
  split at po
  · rename_i c
    have hv : vs.length = n := hl
    refine ⟨G, _, gd, start_en r (by omega), ?_⟩
    rw [hv]
    cases e : b (ds.map some ++ List.replicate (N.length - n) none) G.st with
    | nx ρ s =>
      rw [e] at po
      exact fun G1 σ1 H1 x1 e1 g1 en1 => po G1 .non H1 x1 e1 g1 .non
    | rt d s =>
      rw [e] at po
      exact fun G1 v H1 x1 e1 g1 r1 => po G1 v H1 x1 e1 g1 r1
    | exc c ks xs ρ s =>
      rw [e] at po
      exact fun G1 σ1 H1 d fs x1 e1 g1 en1 hd hk rs => hW E _ _ [] σ1 H1 (po G1 H1 d fs x1 e1 g1 hd hk rs)
    | bk ρ s => rw [e] at po; exact po.elim
    | ct ρ s => rw [e] at po; exact po.elim
    | bad => rw [e] at po; exact po.elim
  · exact po.elim

variable {P : Program} {w : World} {mg : Str → Option Value} {base : Heap}
theorem def0K {K : PySem.W.Frag} {x qual : Str} {params : Arguments} {body : List Stmt} {scope : Scope} {dvs : List V} {kws : List (Str × V)} {f : Addr} {fd : FuncData} {N ps : List Str} {k : Nat} {b : GS} (F : FunD K x qual params body scope dvs kws f fd) (S : FnScope N ps scope) (hn : ps.length ≤ N.length)
    (h : ∀ (cdv : Value) (A : Around) (outer : List Env) (s : Shared) (H : Hp) (E : XK), Room k (A.deeper (envOfC qual scope s.heap.objs.size f cdv)) →
      PSs (cxOf CX0 P w K mg base N qual scope f cdv A outer s H E).nox body (rdS p W0 b)) : FnOk P w K mg base CX0 (k + 1) f fd ps (spD p We0 ps.length (runK N.length ps.length b)) :=
  F.ok S (fun vs H Q E h => h.1) fun cdv A outer s H vs Q E hr hs => ⟨_, PSs.nox (h cdv A outer s H E hr), body_ofK (We := We0) (fun _ _ _ _ _ _ z => z) hn hs⟩

/-! ### what one def has of another -/
/-- the def at f, its parameters ps, does m; called with all its parameters but the last, which have ds0 -/
structure OkD (p : Pg) (P : Program) (w : World) (mg : Str → Option Value) (base : Heap) (lv : Nat) (f : Addr) (n : Nat) (m : List DV → Sto → R DV) (ds0 : List DV) : Prop where
  ex : ∃ fd ps dvs dsv, ps.length = n ∧ FnOk P w p.K mg base CX0 lv f fd ps (spD p We0 n m) ∧ Vals dvs dsv ∧ Binds p.K fd ps dsv ∧ (∀ F μ, Rps p F μ ds0 dvs)
  len : ∀ ds s, ds.length ≠ n → m ds s = .bad
structure OkK (p : Pg) (P : Program) (w : World) (mg : Str → Option Value) (base : Heap) (lv : Nat) (f : Addr) (n : Nat) (m : List DV → Sto → R DV) (npos : Nat) (ks : List Str) (mx : Mix) : Prop where
  ex : ∃ fd ps gg gV, ps.length = n ∧ FnOk P w p.K mg base CX0 lv f fd ps (spD p We0 n m) ∧ KBn p.K fd ps npos ks gg gV ∧
    ∀ (F : Hp) (μ : List Addr) (l z a : List DV) (vs zs : List V), Rps p F μ l vs → Rps p F μ z zs → mx l z = some a → vs.length = npos ∧ zs.length = ks.length ∧ Rps p F μ a (gV vs zs)
  len : ∀ ds s, ds.length ≠ n → m ds s = .bad
section
variable {X : Cx} {lv n : Nat} {f : Addr} {m : List DV → Sto → R DV} {ds0 : List DV}
structure At (X : Cx) (p : Pg) (P : Program) (w : World) (mg : Str → Option Value) (base : Heap) : Prop where
  e1 : X.prog = P
  e2 : X.w = w
  e3 : X.K = p.K
  e4 : X.mg = mg
  e5 : X.base = base
theorem OkD.c (o : OkD p P w mg base lv f n m ds0) (hr : Room lv X.A) (e : At X p P w mg base := by exact ⟨rfl, rfl, rfl, rfl, rfl⟩) : FnC p X W0 f m ds0 := by
  obtain ⟨fd, ps, dvs, dsv, hn, F, hd, hb, h0⟩ := o.ex
  obtain ⟨e1, e2, e3, e4, e5⟩ := e
  subst e1 e2 e4 e5 hn
  rw [← e3] at F hb
  exact ⟨CX0, E0, We0, lv, fd, ps, dvs, dsv, F, hr, hb, hd, h0, pass0, fun _ _ _ _ h => h, o.len⟩
theorem OkD.mk' {c : Nat} (o : OkD p P w mg base lv f n m ds0) (M : Mk X.K (p.cA c) f) (hr : Room (lv + 1) X.A) (e : At X p P w mg base := by exact ⟨rfl, rfl, rfl, rfl, rfl⟩) : MkC p X W0 c m ds0 := by
  obtain ⟨fd, ps, dvs, dsv, hn, F, hd, hb, h0⟩ := o.ex
  obtain ⟨e1, e2, e3, e4, e5⟩ := e
  subst e1 e2 e4 e5 hn
  rw [← e3] at F hb
  exact ⟨CX0, E0, We0, lv, f, fd, ps, dvs, dsv, M, F, hr, hb, hd, h0, pass0, fun _ _ _ _ h => h, o.len⟩
theorem OkD.sp {c : Nat} {name : Str} (o : OkD p P w mg base lv f n m []) (h1 : PySem.W.findIn X.K (.ref (p.cA c)) name = some (some (.ref f))) (h2 : PySem.W.isFn X.K (.ref f) = true) (hr : Room lv X.A) (e : At X p P w mg base := by exact ⟨rfl, rfl, rfl, rfl, rfl⟩) : SpC p X W0 c name m :=
  ⟨f, h1, h2, o.c hr e⟩
theorem OkD.mt {c : Nat} {name : Str} (o : OkD p P w mg base lv f n m ds0) (cl : Cls X.K (p.cA c)) (hm : Meth X.K (p.cA c) name f) (hr : Room lv X.A) (e : At X p P w mg base := by exact ⟨rfl, rfl, rfl, rfl, rfl⟩) : MtC p X W0 c name (fun l s => m (l ++ ds0) s) := by
  obtain ⟨fd, ps, dvs, dsv, hn, F, hd, hb, h0⟩ := o.ex
  obtain ⟨e1, e2, e3, e4, e5⟩ := e
  subst e1 e2 e4 e5 hn
  rw [← e3] at F hb
  exact ⟨CX0, E0, We0, lv, f, fd, ps, dvs, dsv, ds0, m, cl, hm, F, hr, hb, hd, h0, pass0, fun _ _ _ _ h => h, o.len, rfl⟩
theorem OkD.pr {c : Nat} {name : Str} {pa : Addr} (o : OkD p P w mg base lv f n m []) (cl : Cls X.K (p.cA c)) (hp : PropOf X.K (p.cA c) name pa f) (hr : Room (lv + 1) X.A) (e : At X p P w mg base := by exact ⟨rfl, rfl, rfl, rfl, rfl⟩) : PrC p X W0 c name m := by
  obtain ⟨fd, ps, dvs, dsv, hn, F, hd, hb, h0⟩ := o.ex
  obtain ⟨e1, e2, e3, e4, e5⟩ := e
  subst e1 e2 e4 e5 hn
  rw [← e3] at F hb
  have e6 : dvs = [] := by
    have := h0 (fun _ => none) []
    cases this; rfl
  subst e6
  cases hd
  exact ⟨CX0, E0, We0, lv, pa, f, fd, ps, cl, hp, F, hr, hb, pass0, fun _ _ _ _ h => h, o.len, .inl rfl⟩
theorem OkK.c {npos : Nat} {ks : List Str} {mx : Mix} (o : OkK p P w mg base lv f n m npos ks mx) (hr : Room lv X.A) (e : At X p P w mg base := by exact ⟨rfl, rfl, rfl, rfl, rfl⟩) : FnK p X W0 f m npos ks mx := by
  obtain ⟨fd, ps, gg, gV, hn, F, hb, h0⟩ := o.ex
  obtain ⟨e1, e2, e3, e4, e5⟩ := e
  subst e1 e2 e4 e5 hn
  rw [← e3] at F hb
  exact ⟨CX0, E0, We0, lv, fd, ps, gg, gV, F, hr, hb, pass0, fun _ _ _ _ h => h, o.len, h0⟩
/-- an __init__ called by keywords: mx tells the parameters behind self -/
structure OkMK (p : Pg) (P : Program) (w : World) (mg : Str → Option Value) (base : Heap) (lv : Nat) (f : Addr) (n : Nat) (m : List DV → Sto → R DV) (npos : Nat) (ks : List Str) (mx : Mix) : Prop where
  ex : ∃ fd ps gg gV, ps.length = n ∧ FnOk P w p.K mg base CX0 lv f fd ps (spD p We0 n m) ∧ KBn p.K fd ps (npos + 1) ks gg gV ∧
    ∀ (F : Hp) (μ : List Addr) (l z a : List DV) (vs zs : List V) (u : V), Rps p F μ l vs → Rps p F μ z zs → mx l z = some a → vs.length = npos ∧ zs.length = ks.length ∧ ∃ vs', gV (u :: vs) zs = u :: vs' ∧ Rps p F μ a vs'
  len : ∀ ds s, ds.length ≠ n → m ds s = .bad
theorem OkMK.mk' {c npos : Nat} {ks : List Str} {mx : Mix} (o : OkMK p P w mg base lv f n m npos ks mx) (M : Mk X.K (p.cA c) f) (hr : Room (lv + 1) X.A) (e : At X p P w mg base := by exact ⟨rfl, rfl, rfl, rfl, rfl⟩) : MkK p X W0 c m npos ks mx := by
  obtain ⟨fd, ps, gg, gV, hn, F, hb, h0⟩ := o.ex
  obtain ⟨e1, e2, e3, e4, e5⟩ := e
  subst e1 e2 e4 e5 hn
  rw [← e3] at F hb
  exact ⟨CX0, E0, We0, lv, f, fd, ps, gg, gV, M, F, hr, hb, pass0, fun _ _ _ _ h => h, o.len, h0⟩
end
end
/-! ### attributes' names by number -/
def nmOf (l : List Str) (i : Nat) : Str := match l[i]? with
  | some x => x
  | none => ⟨#[i + 2000000]⟩
theorem nmOf_inj {l : List Str} (hn : l.Nodup) (hs : l.all (fun x => !(x.cps.size == 1)) = true) (i j : Nat) (e : nmOf l i = nmOf l j) : i = j := by
  have one : ∀ (x : Str) (k : Nat), x ∈ l → x = ⟨#[k]⟩ → False := fun x k hx q => by
    have := List.all_eq_true.mp hs x hx
    rw [q] at this
    simp at this
  unfold nmOf at e
  cases h1 : l[i]? with
  | none =>
    cases h2 : l[j]? with
    | none =>
      rw [h1, h2] at e
      simp only [PySem.Str.mk.injEq] at e
      have := congrArg (fun a : Array Nat => a[0]?) e
      simp at this
      omega
    | some y => rw [h1, h2] at e; exact (one y _ (List.mem_of_getElem? h2) e.symm).elim
  | some x =>
    cases h2 : l[j]? with
    | none => rw [h1, h2] at e; exact (one x _ (List.mem_of_getElem? h1) e).elim
    | some y =>
      rw [h1, h2] at e
      simp only at e
      subst e
      obtain ⟨a, b⟩ := List.getElem?_eq_some_iff.mp h1
      obtain ⟨c, d⟩ := List.getElem?_eq_some_iff.mp h2
      exact (List.getElem_inj hn).mp (b.trans d.symm)

/-! ### the head: defs at any place, facts by truth -/
abbrev FnQ : Type := Option (Str × Str × Arguments × FuncBody × Scope × Addr × List Str × Addr)
def fnQ (K : PySem.W.Frag) (a : Addr) : FnQ := match K.lookup a with
  | some ⟨_, _, .func fd, _⟩ => some (fd.name, fd.qualname, fd.params, fd.body, fd.scope, fd.globals, fd.closure.map (·.1), fd.builtins)
  | _ => none
structure DefQ where
  place : PySem.W.Frag → Addr
  name : Str
  qual : Str
  params : Arguments
  body : List Stmt
  scope : Scope
  dfl : List He.Dv := []
  kwd : List (Str × He.Dv) := []
  clo : List Str := []
def DefQ.val (d : DefQ) : FnQ := some (d.name, d.qual, d.params, .stmts d.body, d.scope, mainGlobals, d.clo, builtinsNs)
def DefQ.ok (K : PySem.W.Frag) (d : DefQ) : Bool := PySem.W.keepIn K (.ref (d.place K)) && (match K.lookup (d.place K) with
  | some ⟨_, _, .func fd, _⟩ => PySem.W.codeIn K fd.code d.qual && (He.dflB K fd.defaults (d.dfl.map (He.Dv.v K)) && He.kwdB K fd.kwdefaults (d.kwd.map fun q => (q.1, q.2.v K)))
  | _ => false)
theorem DefQ.fun_ {K : PySem.W.Frag} {d : DefQ} (e : fnQ K (d.place K) = d.val) (c : d.ok K = true) (hc : d.clo = []) : ∃ fd, FunD K d.name d.qual d.params d.body d.scope (d.dfl.map (He.Dv.v K)) (d.kwd.map fun q => (q.1, q.2.v K)) (d.place K) fd := by
  unfold DefQ.ok at c
  rw [Bool.and_eq_true] at c
  obtain ⟨kp, c2⟩ := c
  unfold fnQ at e
  split at e
  · rename_i oc od fd osl h
    rw [h] at c2
    simp only [Bool.and_eq_true] at c2
    obtain ⟨k1, k2, k3⟩ := c2
    obtain ⟨n1, n2, n3, n4, n5, n6, n7, n8, n9, n10, n11, n12, n13, n14, n15⟩ := fd
    unfold DefQ.val at e
    simp only [Option.some.injEq, Prod.mk.injEq] at e
    obtain ⟨h1, h2, h3, h4, h5, h6, h7, h8⟩ := e
    rw [hc] at h7
    have h7 := List.map_eq_nil_iff.mp h7
    subst h1 h2 h3 h4 h5 h6 h7 h8
    exact ⟨_, ⟨oc, od, n8, n9, n10, n11, n12, n13, n14, osl, rfl, h, k1, He.dflB_ok k2, He.kwdB_ok k3⟩, kp⟩
  · cases e
abbrev AlQ : Type := Bool × List FnQ
def obsQ (fn : List DefQ) (ex : PySem.W.Frag → Bool) (K : PySem.W.Frag) : AlQ := (ex K && fn.all fun d => d.ok K, fn.map fun d => fnQ K (d.place K))
def valQ (fn : List DefQ) : AlQ := (true, fn.map DefQ.val)
def SaysQ (fn : List DefQ) (ex : PySem.W.Frag → Bool) (K : PySem.W.Frag) : Prop := obsQ fn ex K = valQ fn
def obsQG (n : Nat) (fn : List DefQ) (ex : PySem.W.Frag → Bool) (g : Addr → Option Obj) : AlQ := obsQ fn ex (He.frG g (cStatics :: He.asD g n))
def hookQ (n : Nat) (fn : List DefQ) (ex : PySem.W.Frag → Bool) : PySem.W.Hook where
  α := AlQ
  obs := fun s => obsQG n fn ex s.heap.get?
  val := fun _ => valQ fn
  says := fun _ h => ∃ K : PySem.W.Frag, K.In h ∧ SaysQ fn ex K
  of := fun _ _ e => ⟨_, He.frG_in, e⟩
  keeps := fun _ _ _ ⟨K, hK, c⟩ k => ⟨K, PySem.W.Frag.In.keeps hK k, c⟩
theorem obsQG_eq {n : Nat} {fn : List DefQ} {ex : PySem.W.Frag → Bool} {g : Addr → Option Obj} {s : Shared} (h : ∀ a, g a = s.heap.get? a) : obsQG n fn ex g = (hookQ n fn ex).obs s := by
  have e : g = s.heap.get? := funext h
  rw [e]
  rfl
section
variable {fn : List DefQ} {ex : PySem.W.Frag → Bool} {K : PySem.W.Frag}
theorem SaysQ.ex_ (c : SaysQ fn ex K) : ex K = true := by
  have h := congrArg Prod.fst c
  exact (Bool.and_eq_true_iff.mp h).1
theorem SaysQ.fn_ (c : SaysQ fn ex K) (i : Nat) {d : DefQ} (h : fn[i]? = some d := by rfl) (hc : d.clo = [] := by rfl) : ∃ fd, FunD K d.name d.qual d.params d.body d.scope (d.dfl.map (He.Dv.v K)) (d.kwd.map fun q => (q.1, q.2.v K)) (d.place K) fd := by
  have h1 : (ex K && fn.all fun d => d.ok K) = true := congrArg Prod.fst c
  have h2 : (fn.map fun d => fnQ K (d.place K)) = fn.map DefQ.val := congrArg Prod.snd c
  have ok := List.all_eq_true.mp (Bool.and_eq_true_iff.mp h1).2 d (List.mem_of_getElem? h)
  refine DefQ.fun_ ?_ ok hc
  have e := congrArg (fun l : List FnQ => l[i]?) h2
  simp only [List.getElem?_map, h, Option.map_some, Option.some.injEq] at e
  exact e
end
end Dq
namespace Dq
theorem lookup_mem {α β : Type} [BEq α] [LawfulBEq α] {a : α} {b : β} : ∀ {l : List (α × β)}, l.lookup a = some b → (a, b) ∈ l
  | [], h => by cases h
  | (x, y) :: l, h => by
    rw [List.lookup_cons] at h
    split at h
    · rename_i e
      cases h
      have := eq_of_beq e
      subst this
      exact List.mem_cons_self ..
    · exact List.mem_cons_of_mem _ (lookup_mem h)
end Dq
namespace Dq
open PySem PySem.Spec PyProof.Rows L2
section
variable {p : Pg} {P : Program} {w : World} {K : PySem.W.Frag} {mg : Str → Option Value} {base : Heap} {x qual : Str} {params : Arguments} {body : List Stmt} {scope : Scope} {dvs : List V} {kws : List (Str × V)} {f : Addr} {fd : FuncData} {N ps : List Str} {k nN n : Nat} {b : GS} {m : List DV → Sto → R DV}
theorem def0' (F : FunD K x qual params body scope dvs kws f fd) (S : FnScope N ps scope) (hN : N.length = nN) (hp : ps.length = n) (hn : n ≤ nN) (hm : m = run nN n b)
    (h : ∀ (cdv : Value) (A : Around) (outer : List Env) (s : Shared) (H : Hp) (E : XK), Room k (A.deeper (envOfC qual scope s.heap.objs.size f cdv)) →
      PSs (cxOf CX0 P w K mg base N qual scope f cdv A outer s H E).nox body (rdS p W0 b)) : FnOk P w K mg base CX0 (k + 1) f fd ps (spD p We0 n m) := by
  subst hN hp hm
  exact def0 F S hn h
theorem def0K' (F : FunD K x qual params body scope dvs kws f fd) (S : FnScope N ps scope) (hN : N.length = nN) (hp : ps.length = n) (hn : n ≤ nN) (hm : m = runK nN n b)
    (h : ∀ (cdv : Value) (A : Around) (outer : List Env) (s : Shared) (H : Hp) (E : XK), Room k (A.deeper (envOfC qual scope s.heap.objs.size f cdv)) →
      PSs (cxOf CX0 P w K mg base N qual scope f cdv A outer s H E).nox body (rdS p W0 b)) : FnOk P w K mg base CX0 (k + 1) f fd ps (spD p We0 n m) := by
  subst hN hp hm
  exact def0K F S hn h
end
end Dq
namespace Dq
open PySem PySem.Spec PyProof.Rows L2
theorem OkD.mt0 {p : Pg} {P : Program} {w : World} {mg : Str → Option Value} {base : Heap} {X : Cx} {lv n : Nat} {f : Addr} {m : List DV → Sto → R DV} {c : Nat} {name : Str} (o : OkD p P w mg base lv f n m []) (cl : Cls X.K (p.cA c)) (hm : Meth X.K (p.cA c) name f) (hr : Room lv X.A) (e : At X p P w mg base := by exact ⟨rfl, rfl, rfl, rfl, rfl⟩) : MtC p X W0 c name m := by
  have h := o.mt cl hm hr e
  have q : (fun l s => m (l ++ []) s) = m := by
    funext l s
    rw [List.append_nil]
  rw [q] at h
  exact h
end Dq
namespace Dq
open PySem PySem.Spec PyProof.Rows L2
theorem rps_ints {p : Pg} {F : Hp} {μ : List Addr} : ∀ ns : List Int, Rps p F μ (ns.map DV.int) (ns.map V.int)
  | [] => .nil
  | n :: ns => .cons (.int n) (rps_ints ns)
theorem law_sp' {p : Pg} {m : List DV → Sto → R DV} {H : Hp} {a : Addr} {ns : List Int} {s : Sto} (hS : SqL p.K H a (ns.map V.int)) (e : m [.wl (ns.map DV.int)] [] = .ok (.bl true) s) :
    spD p We0 1 m [.ref a] H (fun v _ => v = .bl true) (fun _ _ _ => False) := by
  refine ⟨rfl, ⟨H, [], []⟩, [.wl (ns.map DV.int)], ⟨fun _ _ h => h, rfl, fun k m h => ?_, fun k a h => ?_, fun j k a h => ?_⟩, .cons (.wl hS (rps_ints ns)) .nil, ?_⟩
  · cases k <;> cases h
  · cases k <;> cases h
  · cases j <;> cases h
  · show Po _ _ _ _ _ (m [.wl (ns.map DV.int)] []) _
    rw [e]
    intro G' b H' _ _ _ r
    have r' : Rp p G'.F G'.μ (.bl true) b := r
    cases r'
    rfl
end Dq

/-! List comprehensions, recursion. -/
namespace Dq
open PySem PySem.Spec PyProof.Rows L2
def lcR (t : GTg) (tst : GB) (el : GE) (ρ : En) (k : Nat) : List DV → Sto → Option Sto
  | [], s => some s
  | d :: ds, s => match t d ρ with
    | some ρ1 => match tst ρ1 s with
      | .ok true s1 => match el ρ1 s1 with
        | .ok y s2 => match s2[k]? with
          | some (some (.lst acc)) => match decide (acc.length < sizeLine) with
            | true => lcR t tst el ρ k ds (s2.set k (some (.lst (acc ++ [y]))))
            | false => none
          | _ => none
        | _ => none
      | .ok false s1 => lcR t tst el ρ k ds s1
      | _ => none
    | none => none
def lcEnd (s0 s : Sto) : R DV := match s[s0.length]? with
  | some (some (.lst acc)) => match bels s0.length acc && cutOk s0 (s.set s0.length none) with
    | true => .ok (.lst acc) ((s.set s0.length none).take s0.length)
    | false => .ok (.lst acc) (s.set s0.length none)
  | _ => .bad
def wipeD (ρ : En) : List Nat → En
  | [] => ρ
  | v :: vs => (wipeD ρ vs).set v none
def gLc (ge : GE) (t : GTg) (vs : List Nat) (tst : GB) (el : GE) : GE := fun ρ s => (ge ρ s).bind fun d s1 => match seqT d with
  | some xs => match lcR t tst el (wipeD ρ vs) s1.length xs (s1 ++ [some (.lst [])]) with
    | some s2 => lcEnd s1 s2
    | none => .bad
  | none => .bad
section
variable {p : Pg} {W : WX} {X : Cx}
theorem wipe_en {G : Gh} {ρ : En} {σ : L2.St} (e : EnR p G ρ σ) : ∀ vs : List Nat, EnR p G (wipeD ρ vs) (wipe σ vs)
  | [] => e
  | v :: vs => by
    have ih := wipe_en e vs
    refine ⟨?_, fun i d h => ?_⟩
    · show ((wipeD ρ vs).set v none).length = ((wipe σ vs).set v none).length
      rw [List.length_set, List.length_set]; exact ih.len
    · have h : ((wipeD ρ vs).set v none)[i]? = some (some d) := h
      have ne : v ≠ i := by
        rintro rfl
        by_cases q : v < (wipeD ρ vs).length
        · rw [List.getElem?_set_self q] at h; cases h
        · rw [List.getElem?_eq_none (by rw [List.length_set]; omega)] at h; cases h
      rw [List.getElem?_set_ne ne] at h
      obtain ⟨u, a, b⟩ := ih.at_ i d h
      refine ⟨u, ?_, b⟩
      show ((wipe σ vs).set v none)[i]? = _
      rw [List.getElem?_set_ne ne]
      exact a
/-- a target of a comprehension: g the hand layer's reading, t by data -/
def TgB (p : Pg) (g : TG) (t : GTg) (vs : List Nat) : Prop := ∀ (G : Gh) (ρ : En) (σ : L2.St) (d : DV) (v : V) (H : Hp) (Q : L2.St → Hp → Prop) (ρ1 : En), Gd p G H → EnR p G ρ (wipe σ vs) → Rp p G.F G.μ d v → t d ρ = some ρ1 →
  (∀ σ2, EnR p G ρ1 σ2 → wipe σ2 vs = wipe σ vs → Q σ2 H) → g v (wipe σ vs) H Q
theorem PTs.imp {ifs : List Expr} {t t' : TT} (h : PTs X ifs t) (k : ∀ σ H Q, t' σ H Q → t σ H Q) : PTs X ifs t' := ⟨fun pins s σ H Q I q => h.run pins s σ H Q I (k σ H Q q)⟩
abbrev gYes : GB := fun _ s => .ok true s
theorem qts_nil : PTs X [] (rdB p W0 gYes) := PTs.imp pts_nil fun σ H Q ⟨G, ρ, gd, en, po⟩ => Po.ret po GX.rfl' rfl gd rfl
theorem qts_one {c : Expr} {g : GB} (h : PT X c (rdB p W0 g)) : PTs X [c] (rdB p W0 g) := pts_one h
theorem wipe_self {σ : L2.St} {i : Nat} {x : Option V} : wipe ((wipe σ [i]).set i x) [i] = wipe σ [i] := by
  show ((σ.set i none).set i x).set i none = σ.set i none
  rw [List.set_set, List.set_set]
theorem tgb_name (i : Nat) : TgB p (L2.gName i) (tN i) [i] := by
  intro G ρ σ d v H Q ρ1 gd en r e h
  cases e
  exact h _ (en.set r i) wipe_self
theorem lc_end {G1 G2 : Gh} {H1 H2 : Hp} {σ : L2.St} {Q : VK} {D : Addr} (g1 : Gd p G1 H1) (x : GX (G1.add D (.lst [])) G2) (g2 : Gd p G2 H2) (po : PoV p W G1 σ (lcEnd G1.st G2.st) Q) : Q (.ref D) H2 := by
  have hm2 : G2.μ[G1.st.length]? = some D := x.m _ _ (by rw [← g1.len]; exact Gh.add_at)
  have xx : GX G1 G2 := GX.add.trans x
  unfold lcEnd at po
  split at po
  · rename_i acc hk
    obtain ⟨a, e1, e2, vs, e4, e5⟩ := g2.live _ _ hk
    rw [hm2] at e1; cases e1
    obtain ⟨x3, g3⟩ := g2.drop hm2 e4
    have r3 : Rp p (upd G2.F D (.lst vs)) G2.μ (.lst acc) (.ref D) := .lst upd_same (Rgs.gx e5 x3)
    split at po
    · rename_i c2
      rw [Bool.and_eq_true] at c2
      obtain ⟨x4, g4⟩ := cut_ok g1 (xx.trans x3) g3 c2.2
      exact Po.ret po x4 rfl g4 (bel_cut _ _ (by unfold bel; exact c2.1) r3)
    · exact Po.ret po (xx.trans x3) rfl g3 r3
  · exact po.elim
/-- what is left of a comprehension -/
def LcI (p : Pg) (G1 : Gh) (D : Addr) (t : GTg) (tst : GB) (el : GE) (ρ : En) (σ : L2.St) (Qd : Hp → Prop) (ds : List DV) (H : Hp) : Prop :=
  ∃ G2 s2, GX (G1.add D (.lst [])) G2 ∧ Gd p G2 H ∧ lcR t tst el ρ G1.st.length ds G2.st = some s2 ∧ ∀ G3 H3, GX (G1.add D (.lst [])) G3 → Gd p G3 H3 → G3.st = s2 → Qd H3
theorem lc_turnG {G1 G2 : Gh} {s2 : Sto} {H1 : Hp} {D : Addr} {g : TG} {t : GTg} {vs : List Nat} {tst : GB} {el : GE} {ρ : En} {σ : L2.St} {Qd : Hp → Prop} {d : DV} {ds : List DV} {v : V} {H : Hp} (g1 : Gd p G1 H1) (en : EnR p G1 ρ σ) (tg : TgB p g t vs)
    (x2 : GX (G1.add D (.lst [])) G2) (g2 : Gd p G2 H) (e2 : lcR t tst el (wipeD ρ vs) G1.st.length (d :: ds) G2.st = some s2) (h2 : ∀ G3 H3, GX (G1.add D (.lst [])) G3 → Gd p G3 H3 → G3.st = s2 → Qd H3) (r : Rp p G2.F G2.μ d v) :
    g v (wipe σ vs) H fun σ2 H2 => wipe σ2 vs = wipe σ vs ∧ rdB p W0 tst σ2 H2 fun b H3 =>
      if b = true then rd p W0 el σ2 H3 fun y H4 => ∃ acc, H4 D = some (.lst acc) ∧ acc.length < sizeLine ∧ LcI p G1 D t tst el (wipeD ρ vs) σ Qd ds (upd H4 D (.lst (acc ++ [y]))) else LcI p G1 D t tst el (wipeD ρ vs) σ Qd ds H3 := by
  have xx : GX G1 G2 := GX.add.trans x2
  rw [lcR] at e2
  cases et : t d (wipeD ρ vs) with
  | none => rw [et] at e2; cases e2
  | some ρ1 =>
    rw [et] at e2
    refine tg G2 (wipeD ρ vs) σ d v H _ ρ1 g2 ((wipe_en en vs).gx xx) r et fun σ2 en2 hw => ⟨hw, G2, ρ1, g2, en2, ?_⟩
    simp only at e2
    cases eb : tst ρ1 G2.st with
    | bad => rw [eb] at e2; cases e2
    | exc _ _ _ _ => rw [eb] at e2; cases e2
    | ok b s3 =>
      rw [eb] at e2
      intro G3 b' H3 x3 es3 g3 rb
      cases rb
      subst es3
      cases b with
      | false => exact ⟨G3, s2, x2.trans x3, g3, e2, h2⟩
      | true =>
        refine ⟨G3, ρ1, g3, en2.gx x3, ?_⟩
        simp only at e2
        cases ee : el ρ1 G3.st with
        | bad => rw [ee] at e2; cases e2
        | exc _ _ _ _ => rw [ee] at e2; cases e2
        | ok y s4 =>
          rw [ee] at e2
          intro G4 yv H4 x4 es4 g4 ry
          subst es4
          simp only at e2
          have x5 : GX (G1.add D (.lst [])) G4 := x2.trans (x3.trans x4)
          have hm4 : G4.μ[G1.st.length]? = some D := x5.m _ _ (by rw [← g1.len]; exact Gh.add_at)
          split at e2
          · rename_i acc hk
            obtain ⟨a, f1, f2, us, f3, f4⟩ := g4.live _ _ hk
            rw [hm4] at f1; cases f1
            split at e2
            · rename_i c
              exact ⟨us, f3, by rw [← f4.length]; exact of_decide_eq_true c, _, s2, x5.trans GX.put, g4.put (m := .lst (acc ++ [y])) hm4 f2 ⟨us ++ [yv], rfl, f4.app (.cons ry .nil)⟩, e2, h2⟩
            · cases e2
          · cases e2
theorem lc_turn {G1 : Gh} {H1 : Hp} {D : Addr} {g : TG} {t : GTg} {vs : List Nat} {tst : GB} {el : GE} {ρ : En} {σ : L2.St} {Qd : Hp → Prop} {d : DV} {ds : List DV} {v : V} {H : Hp} (g1 : Gd p G1 H1) (en : EnR p G1 ρ σ) (tg : TgB p g t vs)
    (r : Rp p G1.F G1.μ d v) (i : LcI p G1 D t tst el (wipeD ρ vs) σ Qd (d :: ds) H) :
    g v (wipe σ vs) H fun σ2 H2 => wipe σ2 vs = wipe σ vs ∧ rdB p W0 tst σ2 H2 fun b H3 =>
      if b = true then rd p W0 el σ2 H3 fun y H4 => ∃ acc, H4 D = some (.lst acc) ∧ acc.length < sizeLine ∧ LcI p G1 D t tst el (wipeD ρ vs) σ Qd ds (upd H4 D (.lst (acc ++ [y]))) else LcI p G1 D t tst el (wipeD ρ vs) σ Qd ds H3 := by
  obtain ⟨G2, s2, x2, g2, e2, h2⟩ := i
  exact lc_turnG g1 en tg x2 g2 e2 h2 (Rg.gx r (GX.add.trans x2))
theorem lc_imp {vs0 : List Nat} {iter tg : Expr} {ge : GE} {g : TG} {t : GTg} {tst : GB} {el : GE} {σ : L2.St} {H : Hp} {Q : VK} (tb : TgB p g t vs0) (hK : X.K = p.K) (h : rd p W (gLc ge t vs0 tst el) σ H Q) :
    tLc (fun σ H R => iList X.K (rd p W ge) σ H R ∨ iTup X.K (rd p W ge) σ H R) g (rdB p W0 tst) (rd p W0 el) vs0 σ H Q := by
  obtain ⟨G, ρ, gd, en, po⟩ := h
  unfold gLc at po
  cases hr : ge ρ G.st with
  | bad => rw [hr] at po; exact po.elim
  | exc c ks xs s =>
    rw [hr] at po
    refine .inl ⟨G, ρ, gd, en, ?_⟩
    rw [hr]
    exact po
  | ok d s =>
    rw [hr, R.bind_ok] at po
    cases hq : seqT d with
    | none => rw [hq] at po; exact po.elim
    | some xs =>
      rw [hq] at po
      simp only at po
      cases hl : lcR t tst el (wipeD ρ vs0) s.length xs (s ++ [some (.lst [])]) with
      | none => rw [hl] at po; exact po.elim
      | some s2 =>
        rw [hl] at po
        have po : PoV p W G σ (lcEnd s s2) Q := po
        have hd : d = .lst xs ∨ d = .wl xs ∨ d = .tup xs := by
          cases d <;> first | cases hq <;> simp | cases hq
        -- from a ghost that has the list, to the end
        have fini : ∀ {G1 : Gh} {H1 : Hp} {D : Addr}, GX G G1 → G1.st = s → Gd p G1 H1 → H1 D = none → LcI p G1 D t tst el (wipeD ρ vs0) σ (fun H => Q (.ref D) H) xs (upd H1 D (.lst [])) := by
          intro G1 H1 D x1 e1 gd1 hD
          subst e1
          refine ⟨G1.add D (.lst []), s2, GX.rfl', gd1.add hD ⟨[], rfl, .nil⟩, hl, fun G3 H3 x3 g3 e3 => ?_⟩
          subst e3
          exact lc_end gd1 x3 g3 (po.gx x1)
        have stop : ∀ {G1 : Gh} {D : Addr} {H : Hp}, LcI p G1 D t tst el (wipeD ρ vs0) σ (fun H => Q (.ref D) H) [] H → Q (.ref D) H := by
          intro G1 D H ⟨G2, s3, x2, g2, e2, h2⟩
          rw [lcR] at e2
          cases e2
          exact h2 G2 H x2 g2 rfl
        have dr : ∀ {i : Nat} {x : V} {G1 : Gh} {vs : List V}, Rps p G1.F G1.μ xs vs → vs[i]? = some x → ∃ d, Rp p G1.F G1.μ d x ∧ xs.drop i = d :: xs.drop (i + 1) := by
          intro i x G1 vs rs hx
          obtain ⟨d, hd, rd⟩ := rs.get' hx
          obtain ⟨lt, e⟩ := List.getElem?_eq_some_iff.mp hd
          exact ⟨d, rd, by rw [List.drop_eq_getElem_cons lt, e]⟩
        rcases hd with rfl | rfl | rfl
        · refine .inl ⟨G, ρ, gd, en, ?_⟩
          rw [hr]
          intro G1 v H1 x1 e1 gd1 r1
          cases r1 with
          | @lst a _ vs' ha rs =>
            refine ⟨_, rfl, ⟨_, SqL.of (gd1.le _ _ ha)⟩, fun D hD => ?_⟩
            refine lc_list (xs := vs') (fun i H => LcI p G1 D t tst el (wipeD ρ vs0) σ (fun H => Q (.ref D) H) (xs.drop i) H) (fini x1 e1 gd1 hD) (fun i H' _ ⟨G2, _, x2, g2, _⟩ => SqL.of (g2.le _ _ ((GX.add.trans x2).f _ _ ha))) (fun i x H' hx hI => ?_) (fun H' hI => ?_)
            · obtain ⟨d, rd, ed⟩ := dr rs hx
              have hI : LcI p G1 D t tst el (wipeD ρ vs0) σ (fun H => Q (.ref D) H) (xs.drop i) H' := hI
              rw [ed] at hI
              exact lc_turn gd1 (en.gx x1) tb rd hI
            · rw [← rs.length, List.drop_length] at hI
              exact stop hI
        · refine .inl ⟨G, ρ, gd, en, ?_⟩
          rw [hr]
          intro G1 v H1 x1 e1 gd1 r1
          cases r1 with
          | @wl a _ vs' ha rs =>
            refine ⟨_, rfl, ⟨_, by rw [hK]; exact sqL_up gd1.le ha⟩, fun D hD => ?_⟩
            refine lc_list (xs := vs') (fun i H => LcI p G1 D t tst el (wipeD ρ vs0) σ (fun H => Q (.ref D) H) (xs.drop i) H) (fini x1 e1 gd1 hD) (fun i H' _ ⟨G2, _, x2, g2, _⟩ => by rw [hK]; exact sqL_up g2.le (sqL_up (GX.add.trans x2).f ha)) (fun i x H' hx hI => ?_) (fun H' hI => ?_)
            · obtain ⟨d, rd, ed⟩ := dr rs hx
              have hI : LcI p G1 D t tst el (wipeD ρ vs0) σ (fun H => Q (.ref D) H) (xs.drop i) H' := hI
              rw [ed] at hI
              exact lc_turn gd1 (en.gx x1) tb rd hI
            · rw [← rs.length, List.drop_length] at hI
              exact stop hI
        · refine .inr ⟨G, ρ, gd, en, ?_⟩
          rw [hr]
          intro G1 v H1 x1 e1 gd1 r1
          cases r1 with
          | @tup a _ vs' ha rs =>
            refine ⟨_, rfl, ⟨_, by rw [hK]; exact sqT_up gd1.le ha⟩, fun D hD => ?_⟩
            refine lc_tup (xs := vs') (fun i H => LcI p G1 D t tst el (wipeD ρ vs0) σ (fun H => Q (.ref D) H) (xs.drop i) H) (fini x1 e1 gd1 hD) (fun i H' _ ⟨G2, _, x2, g2, _⟩ => by rw [hK]; exact sqT_up g2.le (sqT_up (GX.add.trans x2).f ha)) (fun i x H' hx hI => ?_) (fun H' hI => ?_)
            · obtain ⟨d, rd, ed⟩ := dr rs hx
              have hI : LcI p G1 D t tst el (wipeD ρ vs0) σ (fun H => Q (.ref D) H) (xs.drop i) H' := hI
              rw [ed] at hI
              exact lc_turn gd1 (en.gx x1) tb rd hI
            · rw [← rs.length, List.drop_length] at hI
              exact stop hI
theorem qlc {elt tg iter : Expr} {ifs : List Expr} {scope : Scope} {own : List (Str × Nat)} {pos : Pos} {ge : GE} {g : TG} {t : GTg} {tst : GB} {el : GE} (hc : X.calm = true) (hN : X.N.Nodup) (hi : PE X iter (rd p W ge)) (ok : BlkOk X.N X.env.scope scope own)
    (tb : TgB p g t (own.map (·.2))) (hg : ∀ (s : Shared) (H : Hp) (C : Addr) (cl : List (Str × Addr)) (fp : List Addr), PG (X.blk s H scope (compEnvC scope cl C X.env) fp) tg g)
    (ht : ∀ (s : Shared) (H : Hp) (C : Addr) (cl : List (Str × Addr)) (fp : List Addr), PTs (X.blk s H scope (compEnvC scope cl C X.env) fp) ifs (rdB p W0 tst))
    (he : ∀ (s : Shared) (H : Hp) (C : Addr) (cl : List (Str × Addr)) (fp : List Addr), PE (X.blk s H scope (compEnvC scope cl C X.env) fp) elt (rd p W0 el)) (hK : X.K = p.K := by rfl) (hs : ∀ x, foldedSetIterable iter X.env x = pure x := by intro _; rfl) :
    PE X (.ListComp elt [⟨tg, iter, ifs, 0⟩] scope pos) (rd p W (gLc ge t (own.map (·.2)) tst el)) :=
  PE.imp (pe_lc hc hN (PI.or (pi_list hi) (pi_tup hi)) ok hg ht he hs) fun σ H Q h => lc_imp (X := X) (iter := iter) (tg := tg) tb hK h
/-- name = [..], the name a local -/
theorem ssetLc (i : Nat) {y : Str} {py spos : Pos} {elt tg iter : Expr} {ifs : List Expr} {scope : Scope} {own : List (Str × Nat)} {pos : Pos} {ge : GE} {g : TG} {t : GTg} {tst : GB} {el : GE} (hc : X.calm = true) (hN : X.N.Nodup) (hi : PE X iter (rd p W ge)) (ok : BlkOk X.N X.env.scope scope own)
    (tb : TgB p g t (own.map (·.2))) (hg : ∀ (s : Shared) (H : Hp) (C : Addr) (cl : List (Str × Addr)) (fp : List Addr), PG (X.blk s H scope (compEnvC scope cl C X.env) fp) tg g)
    (ht : ∀ (s : Shared) (H : Hp) (C : Addr) (cl : List (Str × Addr)) (fp : List Addr), PTs (X.blk s H scope (compEnvC scope cl C X.env) fp) ifs (rdB p W0 tst))
    (he : ∀ (s : Shared) (H : Hp) (C : Addr) (cl : List (Str × Addr)) (fp : List Addr), PE (X.blk s H scope (compEnvC scope cl C X.env) fp) elt (rd p W0 el)) (hK : X.K = p.K := by rfl) (hs : ∀ x, foldedSetIterable iter X.env x = pure x := by intro _; rfl) (hyl : X.env.scope.names.lookup y = some .local := by rfl) (hy : X.N[i]? = some y := by rfl) (hsw : swapsWith (.ListComp elt [⟨tg, iter, ifs, 0⟩] scope pos) (some (.Name y py)) spos.line X.env = pure true := by rfl) :
    PS X (.Assign [.Name y py] (.ListComp elt [⟨tg, iter, ifs, 0⟩] scope pos) spos) (rdS p W (gSet i (gLc ge t (own.map (·.2)) tst el))) :=
  PS.imp (ps_setLc hc hN hy hyl hsw (PI.or (pi_list hi) (pi_tup hi)) ok hg ht he hs) fun D σ H ⟨G, ρ, gd, en, po⟩ => by
    have q : rd p W (gLc ge t (own.map (·.2)) tst el) σ H fun x H1 => L2.gName i x σ H1 D.nx :=
      ⟨G, ρ, gd, en, (PoS.of po en).imp fun v H1 ⟨G1, a, x1, gd1, r1, po1⟩ => po1 G1 _ H1 GX.rfl' rfl gd1 ((en.gx x1).set r1 i)⟩
    exact lc_imp (X := X) (iter := iter) (tg := tg) tb hK q
end
end Dq
namespace Dq
open PySem PySem.Spec PyProof.Rows L2
theorem bnever {p : Pg} {W : WX} {X : Cx} {b : List Stmt} : PSs X b (rdS p W gBad) := ⟨fun pins s σ H D I ⟨G, ρ, _, _, po⟩ => po.elim⟩
end Dq
namespace Dq
open PySem PySem.Spec PyProof.Rows L2
section
variable {p : Pg} {W : WX} {X : Cx}
/-- x = y = e -/
@[simp] def gSet2 (i j : Nat) (ge : GE) : GS := fun ρ s => (ge ρ s).toS ρ fun d s1 => .nx ((ρ.set i (some d)).set j (some d)) s1
theorem sset2 (i j : Nat) {x y : Str} {px py pos : Pos} {e : Expr} {ge : GE} (hN : X.N.Nodup) (hx : Loc X.env.scope x) (hy : Loc X.env.scope y) (he : PE X e (rd p W ge)) (hi : X.N[i]? = some x := by rfl) (hj : X.N[j]? = some y := by rfl)
    (hs : swapsWithSole [.Name x px, .Name y py] e pos.line X.env = pure false := by rfl) (hw : swappedStores [.Name x px, .Name y py] e X.env = pure none := by rfl)
    (h1 : (assignEach [.Name x px, .Name y py] X.env).map (·.2) = [assign (.Name x px) X.env, assign (.Name y py) X.env] := by rfl)
    (hf : X.fn x = true ∨ X.env.scope.names.lookup x = some .local := by first | exact .inl rfl | exact .inr rfl) (hf2 : X.fn y = true ∨ X.env.scope.names.lookup y = some .local := by first | exact .inl rfl | exact .inr rfl) :
    PS X (.Assign [.Name x px, .Name y py] e pos) (rdS p W (gSet2 i j ge)) := by
  refine ⟨fun pins s σ H D I ⟨G, ρ, gd, en, po⟩ => ?_⟩
  refine wpAny_Assign_stores (thn (he.run pins s σ H (fun v H1 => D.nx ((σ.set i (some v)).set j (some v)) H1) I ⟨G, ρ, gd, en, (PoS.of po en).imp fun v H1 ⟨G1, a, x1, gd1, r1, po1⟩ => po1 G1 _ H1 GX.rfl' rfl gd1 (((en.gx x1).set r1 i).set r1 j)⟩) fun v s1 ⟨x', H1, I1, r1, q1⟩ => ?_) hs hw
  rw [h1]
  refine wpAny_bind (wpAny_holding (thn ((pg_name (i := i) (pos := px) hN hi hx hf).run pins s1 σ H1 x' v (fun σ2 H2 => σ2 = σ.set i (some x') ∧ H2 = H1) I1 r1 ⟨rfl, rfl⟩) fun _ s2 ⟨σ2, H2, I2, e1, e2⟩ => ?_))
  subst e1 e2
  exact thn ((pg_name (i := j) (pos := py) hN hj hy hf2).run pins s2 _ _ x' v D.nx I2 r1 q1) fun _ s3 q => q
end
end Dq

/-! Constant tables of the text: tuples, nested. -/
namespace Dq
open PySem PySem.Spec PyProof.Rows L2
mutual
def cstB (K : PySem.W.Frag) : DV → Value → Bool
  | .non, .none => true
  | .bl b, .bool c => b == c
  | .int i, .int j _ => decide (i = j)
  | .str x, .str y _ => decide (x = y)
  | .tup xs, .ref a => match K.lookup a with
    | some ⟨.type c, _, .seq its _, _⟩ => decide (c = "tuple") && (decide (its.size ≤ sizeLine) && cstsB K xs its.toList)
    | _ => false
  | _, _ => false
def cstsB (K : PySem.W.Frag) : List DV → List Value → Bool
  | [], [] => true
  | d :: ds, v :: vs => cstB K d v && cstsB K ds vs
  | _, _ => false
end
mutual
theorem cst_ok {p : Pg} : ∀ (d : DV) (v : Value), cstB p.K d v = true → ∃ u, RelV u v ∧ ∀ F μ, Rp p F μ d u
  | .non, v, h => by
    unfold cstB at h
    cases v <;> first | exact ⟨.non, rfl, fun _ _ => .non⟩ | cases h
  | .bl b, v, h => by
    unfold cstB at h
    cases v <;> first | (have e := eq_of_beq h; subst e; exact ⟨.bl _, rfl, fun _ _ => .bl _⟩) | cases h
  | .int i, v, h => by
    unfold cstB at h
    cases v <;> first | (have e := of_decide_eq_true h; subst e; exact ⟨.int _, ⟨_, rfl⟩, fun _ _ => .int _⟩) | cases h
  | .str x, v, h => by
    unfold cstB at h
    cases v <;> first | (have e := of_decide_eq_true h; subst e; exact ⟨.str _, ⟨_, rfl⟩, fun _ _ => .str _⟩) | cases h
  | .tup xs, v, h => by
    unfold cstB at h
    cases v with
    | ref a =>
      simp only at h
      split at h
      · rename_i c od its n sl q
        simp only [Bool.and_eq_true, decide_eq_true_eq] at h
        obtain ⟨h1, h2, h3⟩ := h
        obtain ⟨us, r1, r2⟩ := csts_ok xs _ h3
        exact ⟨.ref a, rfl, fun F μ => .tup (.inr ⟨_, its, n, q, by rw [h1], rfl, h2, r1⟩) (r2 F μ)⟩
      · cases h
    | _ => cases h
  | .lst _, v, h => by unfold cstB at h; cases v <;> cases h
  | .wl _, v, h => by unfold cstB at h; cases v <;> cases h
  | .ins _ _ _, v, h => by unfold cstB at h; cases v <;> cases h
  | .mr _, v, h => by unfold cstB at h; cases v <;> cases h
theorem csts_ok {p : Pg} : ∀ (ds : List DV) (vs : List Value), cstsB p.K ds vs = true → ∃ us, Vals us vs ∧ ∀ F μ, Rps p F μ ds us
  | [], [], _ => ⟨[], .nil, fun _ _ => .nil⟩
  | [], _ :: _, h => by unfold cstsB at h; cases h
  | _ :: _, [], h => by unfold cstsB at h; cases h
  | d :: ds, v :: vs, h => by
    unfold cstsB at h
    rw [Bool.and_eq_true] at h
    obtain ⟨u, a1, a2⟩ := cst_ok d v h.1
    obtain ⟨us, b1, b2⟩ := csts_ok ds vs h.2
    exact ⟨u :: us, .cons a1 b1, fun F μ => .cons (a2 F μ) (b2 F μ)⟩
end
/-- the module's name x holds d -/
def gcB (K : PySem.W.Frag) (x : Str) (d : DV) : Bool := match PySem.W.nsIn K mainGlobals x with
  | some (some v) => cstB K d v
  | _ => false
def GC (p : Pg) (mg : Str → Option Value) (x : Str) (d : DV) : Prop := ∃ v u, mg x = some v ∧ RelV u v ∧ ∀ F μ, Rp p F μ d u
theorem gc_ok {p : Pg} {h : Heap} {mg : Str → Option Value} {x : Str} {d : DV} (X : p.K.In h) (G : h.Ns mainGlobals mg) (e : gcB p.K x d = true) : GC p mg x d := by
  unfold gcB at e
  split at e
  · rename_i v q
    obtain ⟨u, a, b⟩ := cst_ok d v e
    exact ⟨v, u, PySem.W.mg_of X G q, a, b⟩
  · cases e
theorem qgc {p : Pg} {W : WX} {X : Cx} {x : Str} {d : DV} {pos : Pos} (c : GC p X.mg x d) (hg : Gl X x := by rfl) (hd : (x == ("__debug__" : Str)) = false := by decide) : PE X (.Name x pos) (rd p W (gC d)) := by
  obtain ⟨v, u, h1, h2, h3⟩ := c
  exact qc (pe_glob hg h1 h2 hd) h3
end Dq

/-! Comprehensions over zip; pairs as targets. -/
namespace Dq
open PySem PySem.Spec PyProof.Rows L2
def seqL : DV → Option (List DV)
  | .lst xs => some xs
  | .wl xs => some xs
  | _ => none
def zipD : List DV → List DV → List DV
  | x :: xs, y :: ys => .tup [x, y] :: zipD xs ys
  | _, _ => []
/-- two lists, or two tuples -/
def seqsL : DV → DV → Option (List DV × List DV)
  | .tup xs, .tup ys => some (xs, ys)
  | .lst xs, b => (seqL b).map fun ys => (xs, ys)
  | .wl xs, b => (seqL b).map fun ys => (xs, ys)
  | _, _ => none
def gLz (gl : GL) (t : GTg) (vs : List Nat) (tst : GB) (el : GE) : GE := fun ρ s => (gl ρ s).bind fun l s1 => match l with
  | [da, db] => match seqsL da db with
    | some (xs, ys) => match lcR t tst el (wipeD ρ vs) s1.length (zipD xs ys) (s1 ++ [some (.lst [])]) with
      | some s2 => lcEnd s1 s2
      | none => .bad
    | none => .bad
  | _ => .bad
section
variable {p : Pg} {W : WX} {X : Cx}
theorem wipe_two {σ : L2.St} {i j : Nat} {x y : Option V} : wipe (((wipe σ [i, j]).set i x).set j y) [i, j] = wipe σ [i, j] := by
  show ((((((σ.set j none).set i none).set i x).set j y).set j none).set i none) = (σ.set j none).set i none
  apply List.ext_getElem?
  intro k
  simp only [List.getElem?_set, List.length_set]
  by_cases e1 : i = k <;> by_cases e2 : j = k <;> simp [e1, e2]
theorem tgb_pair {K : PySem.W.Frag} (hK : K = p.K) (i j : Nat) : TgB p (L2.gTup K 2 (L2.gCons (L2.gName i) (L2.gCons (L2.gName j) L2.gNil))) (tTup 2 (tCons (tN i) (tCons (tN j) tNil))) [i, j] := by
  subst hK
  intro G ρ σ d v H Q ρ1 gd en r e h
  cases r with
  | tup a rs =>
    cases rs with
    | nil => cases e
    | cons r1 rs =>
      cases rs with
      | nil => cases e
      | cons r2 rs =>
        cases rs with
        | cons _ _ => cases e
        | nil =>
          cases e
          exact ⟨_, _, rfl, sqT_up gd.le a, rfl, _, _, rfl, _, _, rfl, rfl, h _ ((en.set r1 i).set r2 j) wipe_two⟩
  | _ => cases e
theorem zipD_get : ∀ {xs ys : List DV} {i : Nat} {x y : DV}, xs[i]? = some x → ys[i]? = some y → (zipD xs ys).drop i = .tup [x, y] :: (zipD xs ys).drop (i + 1)
  | a :: xs, b :: ys, 0, x, y, h1, h2 => by cases h1; cases h2; rfl
  | a :: xs, b :: ys, i + 1, x, y, h1, h2 => zipD_get (xs := xs) (ys := ys) (i := i) h1 h2
  | [], _, _, _, _, h1, _ => by cases h1
  | _ :: _, [], _, _, _, _, h2 => by cases h2
theorem zipD_end : ∀ {xs ys : List DV} {i : Nat}, (xs.length ≤ i ∨ ys.length ≤ i) → (zipD xs ys).drop i = []
  | [], ys, i, _ => by unfold zipD; simp
  | _ :: _, [], i, _ => by unfold zipD; simp
  | _ :: xs, _ :: ys, 0, h => by simp at h
  | _ :: xs, _ :: ys, i + 1, h => by
    show (zipD xs ys).drop i = []
    exact zipD_end (by simp only [List.length_cons] at h; omega)
/-- pairs of two sequences, whichever kind -/
def ItG (Sq : PySem.W.Frag → Hp → Addr → List V → Prop) (K : PySem.W.Frag) (a b : Addr) : It :=
  ⟨fun i H => ∃ (xs ys : List V) (x y : V), Sq K H a xs ∧ Sq K H b ys ∧ xs[i]? = some x ∧ ys[i]? = some y,
    fun i H v H' => ∃ T x y, v = .ref T ∧ H T = none ∧ H' = upd H T (.tup [x, y]) ∧ (∀ us, Sq K H a us → us[i]? = some x) ∧ ∀ ws, Sq K H b ws → ws[i]? = some y,
    fun i H => ∃ xs ys : List V, Sq K H a xs ∧ Sq K H b ys ∧ (xs.length ≤ i ∨ ys.length ≤ i)⟩
theorem lcz_walk {Sq : PySem.W.Frag → Hp → Addr → List V → Prop} (up : ∀ {F H : Hp} {a : Addr} {zs : List V}, (∀ c o, F c = some o → H c = some o) → Sq p.K F a zs → Sq p.K H a zs) {vs0 : List Nat} {g : TG} {t : GTg} {tst : GB} {el : GE} {σ : L2.St} {Q : VK} (tb : TgB p g t vs0)
    {G1 : Gh} {ρ : En} {H1 : Hp} {xs ys : List DV} {s2 : Sto} {a b : Addr} {us ws : List V} (en : EnR p G1 ρ σ) (gd1 : Gd p G1 H1) (sa : Sq p.K G1.F a us) (rsa : Rps p G1.F G1.μ xs us) (sb : Sq p.K G1.F b ws) (rsb : Rps p G1.F G1.μ ys ws)
    (hl : lcR t tst el (wipeD ρ vs0) G1.st.length (zipD xs ys) (G1.st ++ [some (.lst [])]) = some s2) (po1 : PoV p W G1 σ (lcEnd G1.st s2) Q) (D : Addr) (hD : H1 D = none) : ∃ W : Nat → Nat → Hp → Prop, (∃ m, W 0 m (upd H1 D (.lst []))) ∧ ∀ i m H, W i m H →
      ((ItG Sq p.K a b).stop i H ∧ Q (.ref D) H) ∨ ((ItG Sq p.K a b).go i H ∧ ∃ Nx : Hp → Prop, (∀ H', Nx H' → ∃ m', m' < m ∧ W (i + 1) m' H') ∧ ∀ x H', (ItG Sq p.K a b).yld i H x H' → g x (wipe σ vs0) H' fun σ2 H2 => wipe σ2 vs0 = wipe σ vs0 ∧ rdB p W0 tst σ2 H2 fun b H3 =>
        if b = true then rd p W0 el σ2 H3 fun y H4 => ∃ acc, H4 D = some (.lst acc) ∧ acc.length < sizeLine ∧ Nx (upd H4 D (.lst (acc ++ [y]))) else Nx H3) := by
  have fini : LcI p G1 D t tst el (wipeD ρ vs0) σ (fun H => Q (.ref D) H) (zipD xs ys) (upd H1 D (.lst [])) :=
    ⟨G1.add D (.lst []), s2, GX.rfl', gd1.add hD ⟨[], rfl, .nil⟩, hl, fun G3 H3 x3 g3 e3 => by
      subst e3
      exact lc_end gd1 x3 g3 po1⟩
  refine ⟨fun i m H => m = us.length - i ∧ i ≤ us.length ∧ LcI p G1 D t tst el (wipeD ρ vs0) σ (fun H => Q (.ref D) H) ((zipD xs ys).drop i) H, ⟨us.length, by simp, Nat.zero_le _, fini⟩, ?_⟩
  rintro i m H ⟨rfl, hi, hI⟩
  obtain ⟨G2, s3, x2, g2, e3, h2⟩ := hI
  have xx : GX G1 G2 := GX.add.trans x2
  have sa2 : Sq p.K H a us := up g2.le (up xx.f sa)
  have sb2 : Sq p.K H b ws := up g2.le (up xx.f sb)
  by_cases hlt : i < us.length ∧ i < ws.length
  · obtain ⟨l1, l2⟩ := hlt
    refine .inr ⟨⟨us, ws, us[i], ws[i], sa2, sb2, by simp [l1], by simp [l2]⟩, LcI p G1 D t tst el (wipeD ρ vs0) σ (fun H => Q (.ref D) H) ((zipD xs ys).drop (i + 1)), fun H' p' => ⟨us.length - (i + 1), by omega, rfl, l1, p'⟩, fun v H' y => ?_⟩
    obtain ⟨T, u, w, rfl, hT, rfl, hu, hw⟩ := y
    obtain ⟨du, hdu, rdu⟩ := rsa.get' (hu us sa2)
    obtain ⟨dw, hdw, rdw⟩ := rsb.get' (hw ws sb2)
    rw [zipD_get hdu hdw] at e3
    have xl := GX.lay g2 (o := .tup [u, w]) hT
    refine lc_turnG gd1 en tb (x2.trans xl) (g2.lay hT) e3 h2 (.tup (SqT.of (by show upd G2.F T _ T = _; rw [upd_same])) (.cons (Rg.gx rdu (xx.trans xl)) (.cons (Rg.gx rdw (xx.trans xl)) .nil)))
  · have hh : us.length ≤ i ∨ ws.length ≤ i := by omega
    have he : (zipD xs ys).drop i = [] := zipD_end (by rw [rsa.length, rsb.length]; exact hh)
    rw [he, lcR] at e3
    cases e3
    exact .inl ⟨⟨us, ws, sa2, sb2, hh⟩, h2 G2 H x2 g2 rfl⟩
theorem lcz_imp {vs0 : List Nat} {gl : GL} {g : TG} {t : GTg} {tst : GB} {el : GE} {σ : L2.St} {H : Hp} {Q : VK} (tb : TgB p g t vs0) (hK : X.K = p.K) (h : rd p W (gLz gl t vs0 tst el) σ H Q) :
    tLc (RZ.iZipA X.K (rdL p W gl)) g (rdB p W0 tst) (rd p W0 el) vs0 σ H Q := by
  obtain ⟨G, ρ, gd, en, po⟩ := h
  refine ⟨G, ρ, gd, en, (Po.bind po).imp fun ls H1 ⟨G1, l, x1, gd1, r1, po1⟩ => ?_⟩
  split at po1
  · rename_i da db
    split at po1
    · rename_i xs ys ee
      split at po1
      · rename_i s2 hl
        cases r1 with
        | @cons _ va _ _ ra r1 =>
          cases r1 with
          | @cons _ vb _ _ rb r1 =>
            cases r1
            have sq : ∀ {d : DV} {v : V} {zs : List DV}, seqL d = some zs → Rp p G1.F G1.μ d v → ∃ a us, v = .ref a ∧ SqL p.K G1.F a us ∧ Rps p G1.F G1.μ zs us := by
              intro d v zs e r
              cases r with
              | lst a rs => cases e; exact ⟨_, _, rfl, SqL.of a, rs⟩
              | wl a rs => cases e; exact ⟨_, _, rfl, a, rs⟩
              | _ => cases e
            have kinds : (seqL da = some xs ∧ seqL db = some ys) ∨ (da = .tup xs ∧ db = .tup ys) := by
              unfold seqsL at ee
              split at ee
              · cases ee
                exact .inr ⟨rfl, rfl⟩
              · rename_i zs b
                cases e4 : seqL db with
                | none => rw [e4] at ee; cases ee
                | some ws => rw [e4] at ee; cases ee; exact .inl ⟨rfl, rfl⟩
              · rename_i zs b
                cases e4 : seqL db with
                | none => rw [e4] at ee; cases ee
                | some ws => rw [e4] at ee; cases ee; exact .inl ⟨rfl, rfl⟩
              · cases ee
            rw [hK]
            rcases kinds with ⟨e1, e2⟩ | ⟨rfl, rfl⟩
            · obtain ⟨a, us, rfl, sa, rsa⟩ := sq e1 ra
              obtain ⟨b, ws, rfl, sb, rsb⟩ := sq e2 rb
              exact ⟨a, b, us, ws, rfl, .inl ⟨sqL_up gd1.le sa, sqL_up gd1.le sb, lcz_walk (Sq := SqL) sqL_up tb (en.gx x1) gd1 sa rsa sb rsb hl po1⟩⟩
            · cases ra with
              | tup a rsa =>
                cases rb with
                | tup b rsb =>
                  exact ⟨_, _, _, _, rfl, .inr ⟨sqT_up gd1.le a, sqT_up gd1.le b, lcz_walk (Sq := SqT) sqT_up tb (en.gx x1) gd1 a rsa b rsb hl po1⟩⟩
      · exact po1.elim
    · exact po1.elim
  · exact po1.elim
theorem qlz {elt e1 e2 : Expr} {es : List Expr} {kk : Nat} {tp zp cp : Pos} {ifs : List Expr} {scope : Scope} {own : List (Str × Nat)} {pos : Pos} {gl : GL} {g : TG} {t : GTg} {tst : GB} {el : GE} (hc : X.calm = true) (hN : X.N.Nodup) (hz : X.mg "zip" = none) (ha : PA X [e1, e2] (rdL p W gl)) (ok : BlkOk X.N X.env.scope scope own)
    (tb : TgB p g t (own.map (·.2))) (hg : ∀ (s : Shared) (H : Hp) (C : Addr) (cl : List (Str × Addr)) (fp : List Addr), PG (X.blk s H scope (compEnvC scope cl C X.env) fp) (.Tuple es kk tp) g)
    (ht : ∀ (s : Shared) (H : Hp) (C : Addr) (cl : List (Str × Addr)) (fp : List Addr), PTs (X.blk s H scope (compEnvC scope cl C X.env) fp) ifs (rdB p W0 tst))
    (he : ∀ (s : Shared) (H : Hp) (C : Addr) (cl : List (Str × Addr)) (fp : List Addr), PE (X.blk s H scope (compEnvC scope cl C X.env) fp) elt (rd p W0 el)) (hgz : Gl X "zip" := by rfl) (hK : X.K = p.K := by rfl)
    (hs1 : starEach [e1, e2] X.env = (false, eval e1 X.env) :: starEach [e2] X.env := by rfl) (hpl : (backTo cp (starEach [e2] X.env)).any (·.1) = false := by rfl) (hs : ∀ x, foldedSetIterable (.Call (.Name "zip" zp) [e1, e2] [] cp) X.env x = pure x := by intro _; rfl) :
    PE X (.ListComp elt [⟨.Tuple es kk tp, .Call (.Name "zip" zp) [e1, e2] [] cp, ifs, 0⟩] scope pos) (rd p W (gLz gl t (own.map (·.2)) tst el)) :=
  PE.imp (pe_lc hc hN (RZ.pi_zipA hgz hz ha hs1 hpl) ok hg ht he hs) fun σ H Q h => lcz_imp (X := X) tb hK h
/-- the raw reading of a pair of names -/
theorem gpair (i j : Nat) {x y : Str} {kk : Nat} {px py pt : Pos} (hc : X.calm = true) (hN : X.N.Nodup) (hx : Loc X.env.scope x) (hy : Loc X.env.scope y) (hi : X.N[i]? = some x := by rfl) (hj : X.N[j]? = some y := by rfl)
    (hf : X.fn x = true ∨ X.env.scope.names.lookup x = some .local := by first | exact .inl rfl | exact .inr rfl) (hf2 : X.fn y = true ∨ X.env.scope.names.lookup y = some .local := by first | exact .inl rfl | exact .inr rfl) :
    PG X (.Tuple [.Name x px, .Name y py] kk pt) (L2.gTup X.K 2 (L2.gCons (L2.gName i) (L2.gCons (L2.gName j) L2.gNil))) :=
  pg_tup hc (pgs_cons (pg_name hN hi hx hf) (pgs_cons (pg_name hN hj hy hf2) pgs_nil))
end
end Dq

/-! xs[a::c]: every c-th item. -/
namespace Dq
open PySem PySem.Spec PyProof.Rows L2
def ixs (lo hi st : Option Int) (n : Nat) : List Nat := sliceRange (sliceBounds lo hi st n).1 (sliceBounds lo hi st n).2.1 (sliceBounds lo hi st n).2.2
def pickV {α : Type} (lo hi st : Option Int) (xs : List α) : List α := (ixs lo hi st xs.length).filterMap (xs[·]?)
theorem pick_arr (its : List Value) (lo hi st : Option Int) : slicePick its.toArray lo hi st = (pickV lo hi st its).toArray := by
  unfold slicePick pickV ixs
  congr 1
  show List.filterMap (fun x => its.toArray[x]?) _ = _
  simp
theorem pick_vals {xs : List V} {us : List Value} (r : Vals xs us) : ∀ ix : List Nat, Vals (ix.filterMap (xs[·]?)) (ix.filterMap (us[·]?))
  | [] => .nil
  | i :: ix => by
    have ih := pick_vals r ix
    have hl := r.length
    by_cases q : i < xs.length
    · have q2 : i < us.length := by omega
      obtain ⟨u, hu, ru⟩ := r.get (show xs[i]? = some xs[i] by simp [q])
      have e2 : us[i] = u := by simpa [q2] using hu
      rw [List.filterMap_cons_some (by simp [q]; rfl), List.filterMap_cons_some (by simp [q2]; rfl)]
      exact .cons (by rw [e2]; exact ru) ih
    · rw [List.filterMap_cons_none (by simp; omega), List.filterMap_cons_none (by simp; omega)]
      exact ih
theorem pick_rps {p : Pg} {F : Hp} {μ : List Addr} {xs : List DV} {us : List V} (r : Rps p F μ xs us) : ∀ ix : List Nat, Rps p F μ (ix.filterMap (xs[·]?)) (ix.filterMap (us[·]?))
  | [] => .nil
  | i :: ix => by
    have ih := pick_rps r ix
    have hl := r.length
    by_cases q : i < xs.length
    · have q2 : i < us.length := by omega
      obtain ⟨d, hd, rd⟩ := r.get' (show us[i]? = some us[i] by simp [q2])
      have e2 : xs[i] = d := by simpa [q] using hd
      rw [List.filterMap_cons_some (by simp [q]; rfl), List.filterMap_cons_some (by simp [q2]; rfl)]
      exact .cons (by rw [e2]; exact rd) ih
    · rw [List.filterMap_cons_none (by simp; omega), List.filterMap_cons_none (by simp; omega)]
      exact ih
theorem ixs_len {α β : Type} {xs : List α} {ys : List β} {lo hi st : Option Int} (h : xs.length = ys.length) : ixs lo hi st xs.length = ixs lo hi st ys.length := by rw [h]
def tStepL (K : PySem.W.Frag) (te : TE) (lo : Option Int) (c : Int) : TE := fun σ H Q => te σ H fun x H1 => ∃ a xs, x = .ref a ∧ SqL K H1 a xs ∧ (pickV lo none (some c) xs).length ≤ sizeLine ∧ ∀ p, H1 p = none → Q (.ref p) (upd H1 p (.lst (pickV lo none (some c) xs)))
section
variable {p : Pg} {W : WX} {X : Cx}
theorem pe_stepL {e : Expr} {te : TE} {elo : Option Expr} {tlo : TO} {lo : Option Int} {k : Nat} {c : Int} {p1 p3 pos : Pos} (he : PE X e te) (hl : PO X elo tlo) (hlo : ∀ σ H (Q : Option Int → Hp → Prop), Q lo H → tlo σ H Q) (hc : c ≠ 0)
    (hb : ∀ r, letTemporaryGo e (.ref r) = letTemporaryGo e (.ref r) := by intro _; rfl)
    (hsub : ∀ (a b : Addr), subscripted (.Slice elo none (some (.Constant (.int c) k p1)) p3) false (.ref a) (.ref b) = operate [.ref a, .ref b] (getItem (.ref a) (.ref b)) := by intro _ _; with_unfolding_all rfl) :
    PE X (.Subscript e (.Slice elo none (some (.Constant (.int c) k p1)) p3) pos) (tStepL X.K te lo c) := by
  refine ⟨fun pins s σ H Q I h => ?_⟩
  refine Subscript_ (thn (he.run pins s σ H _ I h) fun v s1 ⟨x, H1, I1, r1, q1⟩ => ?_)
  obtain ⟨a, xs, ex, hx, hzz, q⟩ := q1
  subst ex
  cases r1
  have hst : PO X (some (.Constant (.int c) k p1)) (tPart (tC (.int c))) := po_some pe_int
  refine wpAny_Slice (thn (hl.run pins s1 σ H1 (fun o H2 => o = lo ∧ H2 = H1) I1 (hlo _ _ _ ⟨rfl, rfl⟩)) fun vl s2 ⟨l, H2, I2, pl, el, e2⟩ => ?_)
  subst el e2
  refine thn (po_none.run pins s2 σ H2 (fun o H3 => o = none ∧ H3 = H2) I2 ⟨rfl, rfl⟩) fun vu s3 ⟨u, H3, I3, pu, eu, e3⟩ => ?_
  subst eu e3
  refine thn (hst.run pins s3 σ H3 (fun o H4 => o = some c ∧ H4 = H3) I3 ⟨c, rfl, rfl, rfl⟩) fun vs s4 ⟨o, H4, I4, ps, eo, e4⟩ => ?_
  subst eo e4
  have I5 : Inv X pins σ H4 { s4 with heap := s4.heap.push { cls := .type "slice", data := .fields #[vl, vu, vs] } } := I4.kept (t' := s4.toks) fun b ob q => Heap.get?_push_of_some _ q
  obtain ⟨its, r, ht, hz⟩ := I5.list hx
  have hlen := r.length
  show wpAny (model X.prog X.w) X.A (subscriptTail e (.Slice elo none (some (.Constant (.int c) k p1)) p3) (.ref a) (.ref s4.heap.objs.size)) (EP X pins σ Q) X.xe { s4 with heap := s4.heap.push { cls := .type "slice", data := .fields #[vl, vu, vs] } }
  refine tail_any (ops := [.ref a, .ref s4.heap.objs.size]) ht.isList.typeIs (PySem.slot_list_getitem.lookup) ?_ (hsub _ _)
  refine wpAny_getItem_list_slice ht.isList (Heap.IsSliceOf.new _ vl vu vs) pl pu ps (fun z => hc (by injection z)) ?_ (by rw [List.size_toArray]; omega)
  rw [pick_arr]
  have rp : Vals (pickV l none (some c) xs) (pickV l none (some c) its) := by
    unfold pickV
    rw [hlen]
    exact pick_vals r _
  refine ⟨.ref _, _, I5.laid (t' := s4.toks) (o := .lst (pickV l none (some c) xs)) (fun b ob q => Heap.get?_push_of_some _ q) (Nat.le_refl _) ?_, rfl, q _ (I5.hok.fresh (Nat.le_refl _))⟩
  exact ⟨hzz, _, 0, rp, Heap.get?_push_size _ rfl⟩
def stepD (lo : Option Int) (c : Int) (a : DV) (s : Sto) : R DV := match seqS s a with
  | some xs => match a with
    | .tup _ => .bad
    | _ => okIf (decide ((pickV lo none (some c) xs).length ≤ sizeLine)) (.lst (pickV lo none (some c) xs)) s
  | none => .bad
theorem qstep {e : Expr} {ge : GE} {elo : Option Expr} {tlo : TO} {lo : Option Int} {k : Nat} {c : Int} {p1 p3 pos : Pos} (he : PE X e (rd p W ge)) (hl : PO X elo tlo) (hlo : ∀ σ H (Q : Option Int → Hp → Prop), Q lo H → tlo σ H Q) (hc : c ≠ 0 := by decide) (hK : X.K = p.K := by rfl)
    (hsub : ∀ (a b : Addr), subscripted (.Slice elo none (some (.Constant (.int c) k p1)) p3) false (.ref a) (.ref b) = operate [.ref a, .ref b] (getItem (.ref a) (.ref b)) := by intro _ _; with_unfolding_all rfl) :
    PE X (.Subscript e (.Slice elo none (some (.Constant (.int c) k p1)) p3) pos) (rd p W (gUn (stepD lo c) ge)) :=
  PE.imp (pe_stepL he hl hlo hc (fun _ => rfl) hsub) fun σ H Q ⟨G, ρ, gd, en, po⟩ => ⟨G, ρ, gd, en, (Po.bind po).imp fun v H1 ⟨G1, a, x1, gd1, r1, po1⟩ => by
    unfold stepD at po1
    have fin : ∀ {xs : List DV} {us : List V} {ad : Addr}, v = .ref ad → SqL X.K H1 ad us → Rps p G1.F G1.μ xs us → PoV p W G1 σ (okIf (decide ((pickV lo none (some c) xs).length ≤ sizeLine)) (.lst (pickV lo none (some c) xs)) G1.st) Q →
        ∃ a xs, v = .ref a ∧ SqL X.K H1 a xs ∧ (pickV lo none (some c) xs).length ≤ sizeLine ∧ ∀ q, H1 q = none → Q (.ref q) (upd H1 q (.lst (pickV lo none (some c) xs))) := by
      intro xs us ad e1 h1 rs po
      obtain ⟨cc, po⟩ := okIf_po po
      have rp : Rps p G1.F G1.μ (pickV lo none (some c) xs) (pickV lo none (some c) us) := by
        unfold pickV
        rw [rs.length]
        exact pick_rps rs _
      exact ⟨ad, us, e1, h1, by rw [← rp.length]; exact of_decide_eq_true cc, fun q hq => new_lst gd1 rp po hq⟩
    split at po1
    · rename_i xs hs
      cases r1 with
      | lst f rs => cases hs; exact fin rfl (SqL.of (gd1.le _ _ f)) rs po1
      | wl f rs => cases hs; exact fin rfl (by rw [hK]; exact sqL_up gd1.le f) rs po1
      | @mr k a hm =>
        have hs : (match G1.st[k]? with | some (some (.lst xs)) => some xs | _ => none) = some xs := hs
        split at hs
        · rename_i ys hk
          cases hs
          obtain ⟨b, f1, f2, us, f3, f4⟩ := gd1.live k _ hk
          rw [hm] at f1; cases f1
          exact fin rfl (SqL.of f3) f4 po1
        · cases hs
      | _ => first | exact po1.elim | cases hs
    · exact po1.elim⟩
theorem hlo_none {σ : L2.St} {H : Hp} {Q : Option Int → Hp → Prop} (h : Q none H) : tNoPart σ H Q := h
end
end Dq

/-! Exception classes whose __init__ says super().__init__: the run of that __init__. -/
namespace Xq
open PySem PySem.Spec PyProof.Rows L2 PySem.W PySem.Calls

/-- what is known of a built-in exception class that own ones stand on -/
structure XB (B newId initId : String) (T : List Value) : Prop where
  base : ExcBaseFacts B newId initId T
  store : StoreFacts B T "object.__setattr__" "object"
  kx : KxsFacts B initId
theorem xbV : XB "ValueError" "ValueError.__new__" "ValueError.__init__" [.type "ValueError", .type "Exception", .type "BaseException", .type "object"] := ⟨F.excBase_ValueError, F.store_ValueError, kxs_ValueError⟩
theorem xbL : XB "LookupError" "LookupError.__new__" "LookupError.__init__" [.type "LookupError", .type "Exception", .type "BaseException", .type "object"] := ⟨F.excBase_LookupError, F.store_LookupError, kxs_LookupError⟩
theorem xbI : XB "IndexError" "IndexError.__new__" "IndexError.__init__" [.type "IndexError", .type "LookupError", .type "Exception", .type "BaseException", .type "object"] := ⟨F.excBase_IndexError, F.store_IndexError, kxs_IndexError⟩
/-- what the written part says of an own exception class -/
structure XC (K : PySem.W.Frag) (C : Addr) (B newId initId : String) (T : List Value) : Prop where
  xb : XB B newId initId T
  made : excInitIn K C T newId = true
  over : excOver K C T = true
  sa : PySem.W.findIn K (.ref C) "__setattr__" = some (some (.builtin "object.__setattr__"))
  dict : PySem.W.hasDictIn K C = true
  subB : PySem.W.subIn K (.ref C) (.type B) = some true
  exC : PySem.W.subIn K (.ref C) (.type "BaseException") = some true
  tyC : PySem.W.typeIn K (.ref C) = some (.type "type")
  kC : PySem.W.keepIn K (.ref C) = true
  up : ks_superIn K C C "__init__" = some (some (.builtin initId))
  self : PySem.W.mroIn K C (.ref C) = some true
  op : PySem.W.nsIn K cStatics "thirdparty.any" = some none
  sup : PySem.W.nsIn K mainGlobals "super" = some none
  isC : (PySem.W.clsIn K C).isSome = true
abbrev obX (C t : Addr) (d : Option Addr) : Obj := excObj C t d .none
section
variable {prog : Program} {w : World} {A : Around} {E : Value → Shared → Prop} {K : PySem.W.Frag} {C x t0 : Addr} {B newId initId : String} {T : List Value} {s : Shared}
/-- self.f = v, no dict as yet -/
theorem set_new {f : Str} {v : Value} {Q : Unit → Shared → Prop} (c : XC K C B newId initId T) (X : K.In s.heap) (hx : s.heap.get? x = some (obX C t0 none)) (ht : takerIn K C f = some none)
    (h : ∀ h' tk' dx, (∀ b o, b ≠ x → s.heap.get? b = some o → h'.get? b = some o) → s.heap.objs.size ≤ dx → dx ≠ x → h'.get? x = some (obX C t0 (some dx)) → h'.Ns1 dx (fun y => if y = f then some v else none) → Q () { s with heap := h', toks := tk' }) :
    wpAny (model prog w) A (setAttr (.ref x) f v) Q E s := by
  obtain ⟨hp, g, d, tk, os⟩ := s
  have hxs : x ≠ hp.objs.size := Nat.ne_of_lt (Heap.lt_size hx)
  obtain ⟨cd, hc, hd'⟩ := any_some c.dict
  refine set_plain (od := none) X ⟨hx, rfl, rfl, trivial⟩ c.sa (osa_openX (od := none) c.xb.store X ⟨hx, rfl, rfl, trivial⟩ c.over ht fun b => ?_)
  refine wpAny_bind (wpAny_pure (wpAny_bind (instanceDict_exc hx (looks_clsIn X hc) hd' ?_)))
  refine HandSPX.store_in_new (dx := hp.objs.size) ?_ fun h' tk' hn' hs => ?_
  · exact ⟨_, #[], _, (Heap.get?_update_ne _ _ _ _ hxs.symm).trans (Heap.get?_push_at rfl rfl), rfl, fun e he => absurd he (by simp), fun _ => rfl⟩
  · have hx₁ : (hp.push (dictOf [] 0)).get? x = some (obX C t0 none) := Heap.get?_push_of_some _ hx
    refine h h' tk' hp.objs.size (fun b o hb ho => ?_) (Nat.le_refl _) hxs.symm ?_ hn'
    · exact (hs.2 b (Nat.ne_of_lt (Heap.lt_size ho))).trans ((Heap.get?_update_ne _ _ _ _ hb).trans (Heap.get?_push_of_some _ ho))
    · exact (hs.2 x hxs).trans (Heap.get?_update_self _ hx₁ rfl)
/-- self.f = v, a further one -/
theorem set_old {f : Str} {v : Value} {dx : Addr} {m0 : Str → Option Value} {nl : List Str} {Q : Unit → Shared → Prop} (c : XC K C B newId initId T) (X : K.In s.heap) (hx : s.heap.get? x = some (obX C t0 (some dx))) (hn : s.heap.Ns1 dx m0) (hw : Within m0 nl) (hz : nl.length ≤ 1000) (ht : takerIn K C f = some none)
    (h : ∀ h' tk', (∀ b o, b ≠ dx → s.heap.get? b = some o → h'.get? b = some o) → h'.Ns1 dx (fun y => if y = f then some v else m0 y) → Q () { s with heap := h', toks := tk' }) :
    wpAny (model prog w) A (setAttr (.ref x) f v) Q E s := by
  obtain ⟨hp, g, d, tk, os⟩ := s
  obtain ⟨oD, _, _, hoD, _, _⟩ := hn.count hw
  obtain ⟨cd, hc, hd'⟩ := any_some c.dict
  refine set_plain (od := some oD) X ⟨hx, rfl, rfl, hoD⟩ c.sa (osa_openX (od := some oD) c.xb.store X ⟨hx, rfl, rfl, hoD⟩ c.over ht fun b => ?_)
  refine wpAny_bind (wpAny_pure (wpAny_bind (wpAny_bind (wpAny_loadPart hx (wpAny_bind (Looks.here (s := ⟨hp, g, d, tk + 1, os⟩) (looks_clsIn X hc) ?_))))))
  rw [hd']
  refine wpAny_pure (a := some dx) ?_
  exact OEX.store_in_old hn hw hz fun h' tk' hn' hs => h h' tk' (fun b o hb ho => (hs.2 b hb).trans ho) hn'
/-- super().__init__(..) called: the exception's args are laid anew -/
theorem call_up {u : Addr} {rest : List Value} {Q : Value → Shared → Prop} (c : XC K C B newId initId T) (X : K.In s.heap) (hu : s.heap.get? u = some (kxs_mw initId x)) (hx : s.heap.get? x = some (obX C t0 none)) (hz : rest.length ≤ sizeLine)
    (h : ∀ h' t', (∀ b o, b ≠ x → s.heap.get? b = some o → h'.get? b = some o) → h'.get? x = some (obX C t' none) → Q .none { s with heap := h' }) :
    wpAny (model prog w) A (call (.ref u) rest) Q E s := by
  obtain ⟨nm, N', qn, bs, bm, hdct, sn, sub, ab, col, dd, k0, k1, k2, k3, k5, hC, hT⟩ := excInit_of X c.made
  obtain ⟨hp, g, d, tk, os⟩ := s
  refine wpAny_call (codeAny_of_tree ?_)
  show wpAny _ A.in1 (callAny (.ref u) ⟨rest, []⟩) _ _ _
  simp only [callAny]
  refine wpAny_bind (wpAny_load hu ?_)
  simp only [kxs_mw, show (Value.type "method-wrapper" == Value.type "method" || Value.type "method-wrapper" == Value.type "builtin_function_or_method" || Value.type "method-wrapper" == Value.type "method-wrapper") = true by decide, if_true]
  refine KFB.if_so (by decide) ?_
  refine wpAny_bind (check_bound_init c.xb.base.toExcCallFacts hC hx rfl ?_)
  refine wpAny_bind (wpAny_pure (wpAny_pure ?_))
  refine ⟨plainId_quiet c.xb.base.init.plain _, codeAny_builtin c.xb.base.initEntry ?_⟩
  exact exc_init_tree (cls := .ref C) (t0 := t0) (dv := none) (c2 := .none) (c3 := .none) (b4 := .bool false) hx hz fun h' k e _ => h h' _ k e
end
end Xq

/-! C(.., k = ..), C an own exception class. -/
namespace Xq
open PySem PySem.Spec PyProof.Rows L2 PySem.W PySem.Calls
section
variable {M : Model} {A : Around} {E : Value → Shared → Prop} {h : Heap} {g : Array GenState} {d : Drawn} {t : Nat} {os : OsState}
variable {nm q : Str} {C N : Addr} {bs bm bmB : List Value} {hdct : Bool} {sn : List Str} {sub : List Value} {ab : Bool} {col : Option Bool} {dd : Option Addr} {k0 k1 k2 k3 k5 : Option Value} {B newId initId : String}
theorem star_any (f sh full short : String) (r : Manifest.Receiver) (n : Nat) (kw : List Str) : Bind.check ⟨.any, f, sh, r, [⟨"args", .varPos, false⟩, ⟨"kwargs", .varKw, false⟩]⟩ full short n kw = pure () := by
  simp [Bind.check, Bind.checkCount, Bind.isPositional]
theorem newCheck (Fb : ExcBaseFacts B newId initId bmB) (hT : ∀ X : String, bm.contains (.type X) = bmB.contains (.type X)) {rest : List Value} {kw : List (Str × Value)} {Q : Unit → Shared → Prop}
    (hC : h.get? C = some (excClassObj nm q C N bs bm hdct sn sub ab col dd k0 k1 k2 k3 k5 newId)) (hq : Q () ⟨h, g, d, t, os⟩) :
    wpAny M A (checkBuiltinCall newId ⟨.ref C :: rest, kw⟩) Q E ⟨h, g, d, t, os⟩ := by
  have hc : (Value.ref C :: bm).contains (.type B) = true := by rw [List.contains_cons, hT, Fb.hasB, Bool.or_true]
  have hs := Fb.noStar
  simp only [checkBuiltinCall, Fb.newKind, Fb.newSplit, Fb.newRow]
  repeat (first
    | refine wpAny_loadPart_at hC ?_
    | (refine wpAny_isSubtype_exc hC ?_
       rw [hc])
    | refine wpAny_staticBase_exc hC ?_
    | refine wpAny_madeBy_exc hC ?_
    | simp only [bne_self_eq_false, Bool.false_eq_true, if_false]
    | wp_step)
  all_goals first | exact hq | skip
end
section
variable {prog : Program} {w : World} {A : Around} {E : Value → Shared → Prop} {R : Result → Shared → Prop} {h : Heap} {g : Array GenState} {d : Drawn} {t : Nat} {os : OsState}
variable {nm q : Str} {C N : Addr} {bs bm bmB : List Value} {hdct : Bool} {sn : List Str} {sub : List Value} {ab : Bool} {col : Option Bool} {dd : Option Addr} {k0 k1 k2 k3 k5 : Option Value} {B newId initId : String}
abbrev twoH (h : Heap) (C : Addr) (rest : List Value) : Heap := (h.push (excTup rest)).push (obX C h.objs.size none)
theorem newRun (Fb : ExcBaseFacts B newId initId bmB) (hT : ∀ X : String, bm.contains (.type X) = bmB.contains (.type X)) {rest : List Value} {kw : List (Str × Value)}
    (hC : h.get? C = some (excClassObj nm q C N bs bm hdct sn sub ab col dd k0 k1 k2 k3 k5 newId))
    (hq : R (.ok (.ret (.ref (h.objs.size + 1)))) ⟨twoH h C rest, g, d, t, os⟩) (hz : rest.length ≤ sizeLine) :
    codeAny (model prog w) A (.builtin newId ⟨.ref C :: rest, kw⟩) R ⟨h, g, d, t, os⟩ := by
  have he := Fb.ends
  have c1 : (Value.ref C :: bm).contains (.type B) = true := by rw [List.contains_cons, hT, Fb.hasB, Bool.or_true]
  have c2 : (Value.ref C :: bm).contains (.type "AttributeError") = false := by
    rw [List.contains_cons, hT, Fb.noAttr]
    rfl
  have c3 : (Value.ref C :: bm).contains (.type "NameError") = false := by
    rw [List.contains_cons, hT, Fb.noName]
    rfl
  refine codeAny_builtinAt Fb.entry ?_
  unfold Builtin.«BaseException.__new__»
  refine PySem.wpAt_bind ?_
  show PySem.wpAt _ _ _ (stack >>= _) _ _ _
  refine PySem.wpAt_bind (PySem.wpAt_stack fun p below => PySem.wpAt_of_wpAny ?_)
  wp_walk
  refine PySem.wpAt_of_wpAny ?_
  rw [Fb.owner]
  repeat (first
    | with_reducible refine wpAny_madeHere_exc Fb.canon hC ?_
    | with_reducible refine wpAny_loadPart_at hC ?_
    | (with_reducible refine wpAny_isSubtype_exc hC ?_
       first | rw [c1] | rw [c2] | rw [c3])
    | wp_step)
  show R _ _
  rw [Heap.size_push]
  exact hq
theorem typeCall (Fb : ExcBaseFacts B newId initId bmB) (hT : ∀ X : String, bm.contains (.type X) = bmB.contains (.type X)) {rest : List Value} {kw : List (Str × Value)} {fI : Addr} {Q : Fin → Shared → Prop}
    (hC : h.get? C = some (excClassObj nm q C N bs bm hdct sn sub ab col dd k0 k1 k2 k3 k5 newId))
    (hi : W.Looks (model prog w) h (typeLookup (.ref C) "__init__") (some (.ref fI))) (hb : ∀ self, W.Looks (model prog w) h (bindSpecial (.ref fI) self) (.ref fI, [self])) (hz : rest.length ≤ sizeLine)
    (hq : codeAny (model prog w) A (.call (.ref fI) ⟨.ref (h.objs.size + 1) :: rest, kw⟩)
      (fun r s' => match r with | .ok (.ret v) => v = .none ∧ Q (.done (.ret (.ref (h.objs.size + 1)))) s' | .ok _ => False | .error e => E e s') ⟨twoH h C rest, g, d, t, os⟩) :
    wpAny (model prog w) A (Builtin.«type.__call__» ⟨.ref C :: rest, kw⟩) Q E ⟨h, g, d, t, os⟩ := by
  repeat (first
    | with_reducible refine wpAny_loadPart_at hC ?_
    | with_reducible refine wpAny_madeBy_exc hC ?_
    | wp_step)
  refine codeAny_call_builtin_code (Code.quiet_builtin _ Fb.quiet) (newCheck Fb hT hC ?_)
  refine newRun Fb hT hC ?_ hz
  show wpAny _ _ _ _ _ _
  have k : ∀ b o, h.get? b = some o → (twoH h C rest).get? b = some o := fun b o e => Heap.get?_push_of_some _ (Heap.get?_push_of_some _ e)
  have hC₁ := k _ _ hC
  have hg : (twoH h C rest).get? (h.objs.size + 1) = some (obX C h.objs.size none) := by heap_get
  have c4 : (Value.ref C :: bm).contains (.ref C) = true := by simp
  have i1 := hi.keeps k
  have b1 := (hb (.ref (h.objs.size + 1))).keeps k
  unfold isInstance
  repeat (first
    | with_reducible refine wpAny_loadPart_at hg ?_
    | (with_reducible refine wpAny_isSubtype_exc hC₁ ?_
       rw [c4])
    | wp_step)
  show wpAny _ _ (typeLookup (.ref C) _) _ _ _
  refine i1.at ?_
  refine wpAny_holding (wpAny_bind (b1.at ?_))
  refine wpAny_bind (wpAny_call (codeAny_mono hq fun r s' z => ?_))
  rcases r with e | (v | _ | _ | _) <;> first | exact z | exact z.elim | skip
  obtain ⟨rfl, z⟩ := z
  first
    | exact wpAny_pure (wpAny_pure z)
    | (wp_walk; exact z)
theorem callX (Fb : ExcBaseFacts B newId initId bmB) (hT : ∀ X : String, bm.contains (.type X) = bmB.contains (.type X)) {rest : List Value} {kw : List (Str × Value)} {fI : Addr}
    (hC : h.get? C = some (excClassObj nm q C N bs bm hdct sn sub ab col dd k0 k1 k2 k3 k5 newId))
    (hi : W.Looks (model prog w) h (typeLookup (.ref C) "__init__") (some (.ref fI))) (hb : ∀ self, W.Looks (model prog w) h (bindSpecial (.ref fI) self) (.ref fI, [self])) (hz : rest.length ≤ sizeLine)
    (hq : codeAny (model prog w) (A.under (.builtin "type.__call__" ⟨.ref C :: rest, kw⟩)) (.call (.ref fI) ⟨.ref (h.objs.size + 1) :: rest, kw⟩) (W.InitBack (h.objs.size + 1) R) ⟨twoH h C rest, g, d, t, os⟩) :
    codeAny (model prog w) A (.call (.ref C) ⟨rest, kw⟩) R ⟨h, g, d, t, os⟩ := by
  have f1 := tc_lookup
  have f2 := tc_bind (.ref C)
  have hTy : (⟨h, g, d, t, os⟩ : Shared).TypeIs (.ref C) "type" := ⟨_, hC, rfl⟩
  refine codeAny_of_tree ?_
  show wpAny _ _ (callAny (.ref C) _) _ _ _
  repeat (any_goals (first
    | assumption
    | with_reducible refine wpAny_loadPart_at hC ?_
    | wp_step))
  refine ⟨rfl, ?_⟩
  refine codeAny_call_builtin_at (Code.quiet_builtin _ (by decide +kernel)) entry_typeCall (wpAny_check_type_call_sub hC (typeCall Fb hT hC hi hb hz ?_))
  refine codeAny_mono hq fun r s' z => ?_
  rcases r with e | (v | _ | _ | _) <;> exact z
end
end Xq

/-! The body of such an __init__. -/
namespace Xq
open PySem PySem.Spec PyProof.Rows L2 PySem.W PySem.Calls
/-- where the def stands: its file, the class that super() means -/
structure XF (P : Program) (K : PySem.W.Frag) (C f : Addr) (fd : FuncData) (cda cc : Addr) : Prop where
  lk : ∃ oc od osl, K.lookup f = some ⟨oc, od, .func fd, osl⟩
  code : ∃ ccl cdd vs ccs file tf, K.lookup cda = some ⟨ccl, cdd, .fields vs, ccs⟩ ∧ vs[2]? = some (.str file tf) ∧ ((P.main.file : Str) == file) = true
  cell : ∃ cl cld csl, K.lookup cc = some ⟨cl, cld, .cell (some (.ref C)), csl⟩
  top : (P.main.scope.names.lookup ("super" : Str)).isSome = false
/-- the scope of such an __init__ -/
structure XS (scope : Scope) : Prop where
  sup : scope.names.lookup ("super" : Str) = some .globalImplicit
  cls : scope.names.lookup ("__class__" : Str) = some .free
  self : scope.names.lookup ("self" : Str) = some .local
  kind : scope.kind = .function
  co : scope.isCoroutine = false
  gen : scope.isGenerator = false
  cells : ∀ x ∈ scope.names, x.2 ≠ .cell
section
variable {prog : Program} {w : World} {A : Around} {E : Value → Shared → Prop} {K : PySem.W.Frag} {C x t0 L f cda cc : Addr} {B newId initId : String} {T : List Value} {s : Shared} {q : Str} {scope : Scope} {fd : FuncData} {body : List Stmt} {m mg mb : Str → Option Value}
theorem exec_up {p0 p1 p2 p3 p4 apos : Pos} {j : Nat} {msg : Str} {ar : Arg} {Q : Flow → Shared → Prop} (c : XC K C B newId initId T) (z : XF prog K C f fd cda cc) (S : XS scope) (X : K.In s.heap) (hp : (fd.params.posonlyargs ++ fd.params.args).head? = some ar) (har : ar.arg = "self")
    (hG : s.heap.Ns mainGlobals mg) (hm : mg "super" = none) (hB : s.heap.Ns builtinsNs mb) (hb : mb "super" = some (.type "super")) (hL : s.heap.Ns L m) (hs : m "self" = some (.ref x)) (hx : s.heap.get? x = some (obX C t0 none))
    (hev : ∃ pl : Sem Bool, eval (.Call (.Attribute (.Call (.Name "super" p0) [] [] p1) "__init__" apos) [.Constant (.str msg) j p2] [] p3) (ksEnv q scope L f (.ref cda) cc) = (do
      let ov ← attributeBase (.Call (.Name "super" p0) [] [] p1) "__init__" (ksEnv q scope L f (.ref cda) cc) (eval (.Call (.Name "super" p0) [] [] p1) (ksEnv q scope L f (.ref cda) cc))
      standAt apos.atName
      let (f1, first) ← holding [ov] (getMethod ov "__init__" pl)
      callWith p3 f1 first (backTo p3 (starEach [.Constant (.str msg) j p2] (ksEnv q scope L f (.ref cda) cc))) [])) (hin : interactive (ksEnv q scope L f (.ref cda) cc) = false)
    (hsw : swapsWith (.Call (.Attribute (.Call (.Name "super" p0) [] [] p1) "__init__" apos) [.Constant (.str msg) j p2] [] p3) none p4.line (ksEnv q scope L f (.ref cda) cc) = pure false)
    (h : ∀ h' tk' t', (∀ b o, b ≠ x → s.heap.get? b = some o → h'.get? b = some o) → h'.get? x = some (obX C t' none) → Q .next { s with heap := h', toks := tk' }) :
    PySem.wpAt (model prog w) A (.func body (ksEnv q scope L f (.ref cda) cc)) (exec (.Expr (.Call (.Attribute (.Call (.Name "super" p0) [] [] p1) "__init__" apos) [.Constant (.str msg) j p2] [] p3) p4) (ksEnv q scope L f (.ref cda) cc)) Q E s := by
  obtain ⟨oc, od, osl, lk⟩ := z.lk
  obtain ⟨ccl, cdd, vs, ccs, file, tf, hcode, hvs, hfile⟩ := z.code
  obtain ⟨cl, cld, csl, hcell⟩ := z.cell
  obtain ⟨hp0, g, d, tk, os⟩ := s
  have I : InstAt hp0 x (obX C t0 none) C none := ⟨hx, rfl, rfl, trivial⟩
  cases hc : PySem.W.clsIn K C with
  | none =>
    have := c.isC
    rw [hc] at this
    cases this
  | some cd =>
    obtain ⟨oD, hD1, hD2⟩ : ∃ oD, hp0.get? C = some oD ∧ oD.data = .cls cd := by
      have hc' := hc
      unfold PySem.W.clsIn at hc'
      split at hc'
      · rename_i a1 a2 a3 a4 ho
        cases hc'
        exact ⟨_, X _ _ ho, rfl⟩
      · cases hc'
    obtain ⟨pl, hev⟩ := hev
    refine ks_wpAt_Expr_any (ks_wpAt_MethodCall (pl := pl) ?_ hev) hin hsw
    refine ks_wpAt_super_base (env := ksEnv q scope L f (.ref cda) cc) S.sup S.cls rfl rfl (X _ _ lk) rfl hp rfl (X _ _ hcode) rfl hvs hfile z.top ?_
    refine ks_loadName_global S.kind S.sup (loadGlobal_builtin (env := ksEnv q scope L f (.ref cda) cc) hG hm hB hb ⟨rfl, ?_⟩)
    refine wpAny_loadName_free S.kind S.cls rfl ⟨_, X _ _ hcell, rfl⟩ ?_
    rw [har]
    refine wpAny_loadName_local S.kind S.self hL hs ?_
    refine ks_wpAny_isType_cls hD1 hD2 ⟨rfl, ?_⟩
    refine ks_wpAny_call_super hD1 hD2 hx rfl (fun c e => nomatch e) (looks_mroIn X c.self) (fun h1 e1 k1 => ?_)
    have X1 : K.In h1 := X.keeps k1
    have I1 : InstAt h1 x (obX C t0 none) C none := ⟨k1 _ _ hx, rfl, rfl, trivial⟩
    have hI : Looks (model prog w) h1 (isInstance (.ref x) (.type B)) true := I1.type.andThen (looks_subIn X1 c.subB)
    have hm2 := c.up
    unfold ks_superIn at hm2
    rw [hc] at hm2
    refine kxs_getMethod (l₀ := cd.mro) c.xb.kx e1 (looks_opaque X1 c.op) ?_ rfl X1 hm2 hI (ks_ne X I hc) rfl ?_
    · exact fun A Q E s k q => wpAny_bind ((looks_clsIn X1 hc) A _ E s k (wpAny_pure q))
    · refine kxs_callWith (i := initId) (x := x) rfl (evalArgs_plain (spliced_cons (Constant_str (k := j) (pos := p2) (spliced_nil ⟨?_, ?_⟩))))
      · exact Heap.get?_push_at rfl rfl
      · have k2 : ∀ b o, hp0.get? b = some o → (h1.push (kxs_mw initId x)).get? b = some o := fun b o e => Heap.get?_push_of_some _ (k1 b o e)
        refine call_up c (X.keeps k2) (Heap.get?_push_at rfl rfl) (k2 _ _ hx) (show 1 ≤ sizeLine by decide) fun h' t' k e => ?_
        exact h h' _ t' (fun b o hb ho => k b o hb (k2 b o ho)) e
end
/-- within such an __init__: x has the attributes fs, all else stands as in s0 -/
structure Mid (K : PySem.W.Frag) (s0 s : Shared) (x C L : Addr) (m : Str → Option Value) (fs : List (Str × V)) : Prop where
  kin : K.In s.heap
  kx : ∀ o, K.lookup x ≠ some o
  keep : ∀ b o, b ≠ x → s0.heap.get? b = some o → s.heap.get? b = some o
  loc : s.heap.Ns L m
  le : s0.heap.objs.size ≤ s.heap.objs.size
  obj : (fs = [] ∧ ∃ t, s.heap.get? x = some (obX C t none)) ∨ (∃ t d mA, s.heap.get? x = some (obX C t (some d)) ∧ s0.heap.objs.size ≤ d ∧ d ≠ x ∧ d ≠ L ∧ s.heap.Ns1 d mA ∧ ∀ f, RelO (fs.lookup f) (mA f))
  gens : s.gens = s0.gens
  os : s.os = s0.os
section
variable {prog : Program} {w : World} {A : Around} {E : Value → Shared → Prop} {K : PySem.W.Frag} {C x L f cda cc : Addr} {B newId initId : String} {T : List Value} {s0 s : Shared} {q : Str} {scope : Scope} {fs : List (Str × V)} {m : Str → Option Value}
theorem nsLives {h h' : Heap} {L : Addr} {m : Str → Option Value} (n : h.Ns L m) (k : ∀ o, h.get? L = some o → h'.get? L = some o) : h'.Ns L m := by
  obtain ⟨o, es, ep, ho, r⟩ := n
  exact ⟨o, es, ep, k _ ho, r⟩
theorem mid_set {fl : Str} {v : V} {u : Value} {Q : Unit → Shared → Prop} (c : XC K C B newId initId T) (K0 : K.In s0.heap) (M : Mid K s0 s x C L m fs) (ru : RelV v u) (hz : fs.length ≤ 900) (ht : takerIn K C fl = some none)
    (h : ∀ s', Mid K s0 s' x C L m ((fl, v) :: fs) → Q () s') : wpAny (model prog w) A (setAttr (.ref x) fl u) Q E s := by
  obtain ⟨kin, kx, keep, loc, le, obj, gens, os⟩ := M
  have kd : ∀ d, s0.heap.objs.size ≤ d → ∀ o, K.lookup d ≠ some o := fun d hd o e => absurd (Heap.lt_size (K0 _ _ e)) (Nat.not_lt.mpr hd)
  have Lx : L ≠ x := fun z => by
    obtain ⟨o, es, ep, ho, hd, _⟩ := loc
    rcases obj with ⟨_, t, hx⟩ | ⟨t, d, mA, hx, _⟩
    · rw [z, hx] at ho; cases ho; cases hd
    · rw [z, hx] at ho; cases ho; cases hd
  rcases obj with ⟨rfl, t, hx⟩ | ⟨t, d, mA, hx, hd, ndx, ndL, hn, r⟩
  · refine set_new c kin hx ht fun h' tk' dx k dn dne e n => h _ ⟨fun b o z => k b o (fun y => kx o (y ▸ z)) (kin b o z), kx, fun b o hb z => k b o hb (keep b o hb z), nsLives loc fun o z => k L o Lx z, ?_, .inr ⟨t, dx, _, e, Nat.le_trans le dn, dne, ?_, n, ?_⟩, gens, os⟩
    · obtain ⟨o, es, ep, ho, _⟩ := n
      exact Nat.le_of_lt (Nat.lt_of_le_of_lt (Nat.le_trans le dn) (Heap.lt_size ho))
    · obtain ⟨o, es, ep, ho, _⟩ := loc
      exact Nat.ne_of_gt (Nat.lt_of_lt_of_le (Heap.lt_size ho) dn)
    · exact relO_put (fs := []) ru fun g => True.intro
  · have hw := within_of r
    refine set_old c kin hx hn hw (by rw [List.length_map]; omega) ht fun h' tk' k n => h _ ⟨fun b o z => k b o (fun y => kd d hd o (y ▸ z)) (kin b o z), kx, fun b o hb z => k b o ?_ (keep b o hb z), nsLives loc fun o z => k L o ndL.symm z, ?_, .inr ⟨t, d, _, k _ _ ndx.symm hx, hd, ndx, ndL, n, ?_⟩, gens, os⟩
    · exact Nat.ne_of_lt (Nat.lt_of_lt_of_le (Heap.lt_size z) hd)
    · obtain ⟨o, es, ep, ho, _⟩ := n
      exact Nat.le_trans hd (Nat.le_of_lt (Heap.lt_size ho))
    · exact relO_put ru r
theorem ldLoc {M : Model} {env : Env} {y : Str} {pos : Pos} {v : Value} {Q : Value → Shared → Prop} (hl : env.locals = L) (hn : s.heap.Ns L m) (hv : m y = some v) (h : Q v s) (hk : env.scope.kind = .function) (k : env.kindOf y = some .local) (hd : (y == ("__debug__" : Str)) = false) :
    wpAny M A (eval (.Name y pos) env) Q E s := wpAny_Name (wpAny_loadName_local hk k (by rw [hl]; exact hn) hv h) hd
/-- self.f = a parameter; self.f = '..' -/
inductive St1 (m : Str → Option Value) (env : Env) : Stmt → Str → V → Prop
  | var {fl y : Str} {v : V} {u : Value} {q0 q1 q2 q3 : Pos} : m y = some u → RelV v u → env.kindOf y = some .local → (y == ("__debug__" : Str)) = false → swapsWith (.Name y q2) (some (.Attribute (.Name "self" q0) fl q1)) q3.line env = pure false →
      St1 m env (.Assign [.Attribute (.Name "self" q0) fl q1] (.Name y q2) q3) fl v
  | con {fl : Str} {z : Str} {j : Nat} {q0 q1 q2 q3 : Pos} : swapsWith (.Constant (.str z) j q2) (some (.Attribute (.Name "self" q0) fl q1)) q3.line env = pure false →
      St1 m env (.Assign [.Attribute (.Name "self" q0) fl q1] (.Constant (.str z) j q2) q3) fl (.str z)
inductive Sts (m : Str → Option Value) (env : Env) : List Stmt → List (Str × V) → Prop
  | nil : Sts m env [] []
  | cons {st : Stmt} {rest : List Stmt} {fl : Str} {v : V} {l : List (Str × V)} : St1 m env st fl v → Sts m env rest l → Sts m env (st :: rest) ((fl, v) :: l)
theorem run_st {env : Env} {st : Stmt} {fl : Str} {v : V} {Q : Flow → Shared → Prop} (c : XC K C B newId initId T) (K0 : K.In s0.heap) (hk : env.scope.kind = .function) (hs : env.kindOf "self" = some .local) (hl : env.locals = L) (hself : m "self" = some (.ref x)) (M : Mid K s0 s x C L m fs) (hz : fs.length ≤ 900) (ht : takerIn K C fl = some none) (i : St1 m env st fl v)
    (h : ∀ s', Mid K s0 s' x C L m ((fl, v) :: fs) → Q .next s') : wpAny (model prog w) A (exec st env) Q E s := by
  have tok : ∀ {s : Shared} {t : Nat}, Mid K s0 s x C L m fs → Mid K s0 { s with toks := t } x C L m fs := fun M => ⟨M.kin, M.kx, M.keep, M.loc, M.le, M.obj, M.gens, M.os⟩
  cases i with
  | var e r k hd sw =>
    refine plainObj_wpAny_Assign_Attribute (ldLoc hl M.loc e ?_ hk k hd) sw
    refine ldLoc hl M.loc hself ?_ hk hs rfl
    exact mid_set c K0 M r hz ht h
  | con sw =>
    refine plainObj_wpAny_Assign_Attribute (Constant_str ?_) sw
    refine ldLoc hl M.loc hself ?_ hk hs rfl
    exact mid_set (v := .str _) c K0 (tok M) (show ∃ t, _ = _ from ⟨_, rfl⟩) hz ht h
theorem run_sts {env : Env} {Q : Flow → Shared → Prop} (c : XC K C B newId initId T) (K0 : K.In s0.heap) (hk : env.scope.kind = .function) (hs : env.kindOf "self" = some .local) (hl : env.locals = L) (hself : m "self" = some (.ref x)) {sts : List Stmt} {l : List (Str × V)} (i : Sts m env sts l) :
    ∀ {s : Shared} {fs : List (Str × V)}, Mid K s0 s x C L m fs → fs.length + l.length ≤ 900 → (∀ p ∈ l, takerIn K C p.1 = some none) → (∀ s', Mid K s0 s' x C L m (l.reverse ++ fs) → Q .next s') → wpAny (model prog w) A (execs sts env) Q E s := by
  induction i with
  | nil => exact fun M _ _ h => wpAny_execs_nil (h _ M)
  | @cons st rest fl v l a b ih =>
    intro s fs M hz ht h
    refine wpAny_execs_cons (run_st c K0 hk hs hl hself M (by rw [List.length_cons] at hz; omega) (ht _ (List.mem_cons_self ..)) a fun s' M' => ?_)
    refine ih M' (by rw [List.length_cons] at hz ⊢; omega) (fun p hp => ht p (List.mem_cons_of_mem _ hp)) fun s2 M2 => h s2 ?_
    rw [List.reverse_cons, List.append_assoc]
    exact M2

/-- the whole __init__ -/
theorem run_init {fI cda cc : Addr} {qual : Str} {params : Arguments} {scope : Scope} {dV kV doc pm ct : Value} {an : Option Addr} {p0 p1 p2 p3 p4 apos : Pos} {j : Nat} {msg : Str} {sts : List Stmt} {ar : Arg} {args : Args} {binds : List (Str × Value)} {l : List (Str × V)} {t0 : Addr} {mg mb : Str → Option Value} {R : Result → Shared → Prop} {s : Shared}
    (c : XC K C B newId initId T) (z : XF prog K C fI (ksFn "__init__" qual params (.Expr (.Call (.Attribute (.Call (.Name "super" p0) [] [] p1) "__init__" apos) [.Constant (.str msg) j p2] [] p3) p4 :: sts) scope dV kV doc pm an (.ref cda) ct cc) cda cc) (S : XS scope)
    (X : K.In s.heap) (hcd : codeIn K (.ref cda) qual = true) (lim : s.heap.NoLimit) (hroom : A.depth < recursionLimit) (hp : (params.posonlyargs ++ params.args).head? = some ar) (har : ar.arg = "self")
    (hG : s.heap.Ns mainGlobals mg) (hm : mg "super" = none) (hB : s.heap.Ns builtinsNs mb) (hb : mb "super" = some (.type "super")) (hx : s.heap.get? x = some (obX C t0 none)) (kx : ∀ o, K.lookup x ≠ some o)
    (hbind : BindsTo s (ksFn "__init__" qual params (.Expr (.Call (.Attribute (.Call (.Name "super" p0) [] [] p1) "__init__" apos) [.Constant (.str msg) j p2] [] p3) p4 :: sts) scope dV kV doc pm an (.ref cda) ct cc) args binds)
    (hloc : ∀ y ∈ binds, scope.names.lookup y.1 = some .local) (hself : binds.reverse.lookup ("self" : Str) = some (Value.ref x))
    (hev : ∀ env : Env, env.scope = scope → ∃ pl : Sem Bool, eval (.Call (.Attribute (.Call (.Name "super" p0) [] [] p1) "__init__" apos) [.Constant (.str msg) j p2] [] p3) env = (do
      let ov ← attributeBase (.Call (.Name "super" p0) [] [] p1) "__init__" env (eval (.Call (.Name "super" p0) [] [] p1) env)
      standAt apos.atName
      let (f1, first) ← holding [ov] (getMethod ov "__init__" pl)
      callWith p3 f1 first (backTo p3 (starEach [.Constant (.str msg) j p2] env)) [])) (hin : ∀ env : Env, env.scope = scope → interactive env = false)
    (hsw : ∀ env : Env, env.scope = scope → swapsWith (.Call (.Attribute (.Call (.Name "super" p0) [] [] p1) "__init__" apos) [.Constant (.str msg) j p2] [] p3) none p4.line env = pure false)
    (hsts : ∀ env : Env, env.scope = scope → Sts (fun y => binds.reverse.lookup y) env sts l) (hz : l.length ≤ 900) (ht : ∀ p ∈ l, takerIn K C p.1 = some none)
    (h : ∀ s' t d mA, (∀ b o, b ≠ x → s.heap.get? b = some o → s'.heap.get? b = some o) → s'.heap.get? x = some (obX C t (some d)) → s.heap.objs.size ≤ d → d ≠ x → s'.heap.Ns1 d mA → (∀ f, RelO (l.reverse.lookup f) (mA f)) → s'.gens = s.gens → s'.os = s.os → R (.ok (.ret .none)) s') (hl : l ≠ []) :
    codeAny (model prog w) A (.call (.ref fI) args) R s := by
  obtain ⟨oc, od, osl, lk⟩ := z.lk
  refine ks_codeAny_call_defAt (binds := binds) hroom (X _ _ lk) rfl lim (codeRec_of X hcd) rfl hbind S.cells hloc (fun h₀ hns hk => ?_) S.co S.gen S.kind
  have Lx : s.heap.objs.size ≠ x := Nat.ne_of_gt (Heap.lt_size hx)
  refine ks_wpAt_execs_cons (exec_up (s := { s with heap := h₀, toks := s.toks + binds.length }) c z S (X.keeps hk) hp har (nsLives hG fun o e => hk _ _ e) hm (nsLives hB fun o e => hk _ _ e) hb hns hself (hk _ _ hx) (hev _ rfl) (hin _ rfl) (hsw _ rfl) fun h' tk' t' k e => ?_)
  refine PySem.wpAt_of_wpAny (run_sts (env := ksEnv qual scope s.heap.objs.size fI (.ref cda) cc) (s0 := s) (fs := []) (L := s.heap.objs.size) (m := fun y => binds.reverse.lookup y) (x := x) c X S.kind S.self rfl hself (hsts _ rfl) ⟨?_, kx, fun b o hb y => k b o hb (hk b o y), nsLives hns fun o y => k _ o Lx y, ?_, .inl ⟨rfl, t', e⟩, rfl, rfl⟩ (by simpa using hz) ht fun s2 M2 => ?_)
  · exact fun b o y => k b o (fun q => kx o (q ▸ y)) (hk b o (X b o y))
  · obtain ⟨o, es, ep, ho, _⟩ := nsLives (h' := h') hns fun o y => k _ o Lx y
    exact Nat.le_of_lt (Heap.lt_size ho)
  · rw [List.append_nil] at M2
    rcases M2.obj with ⟨e1, _⟩ | ⟨t, d, mA, e1, hd, n1, n2, hn, r⟩
    · exact absurd (List.reverse_eq_nil_iff.mp e1) hl
    · exact h s2 t d mA M2.keep e1 hd n1 hn r M2.gens M2.os
end
end Xq

/-! An own exception made, as a value. -/
namespace Xq
open PySem PySem.Spec PyProof.Rows L2 PySem.W PySem.Calls
theorem exV_ok {P : Program} {w : World} {H : Hp} {h : Heap} {a C d : Addr} {oe : Obj} {vs : Array Value} (e : h.get? a = some oe) (h1 : oe.cls = .ref C) (h2 : oe.dict = some d) (h3 : oe.data = .fields vs) : ObjOk P w H h a (ExV a C d) :=
  ⟨⟨oe, vs, e, h1, h2, h3⟩, ⟨oe, e⟩, fun _ _ ⟨o, v, q, r⟩ k => ⟨o, v, k o q, r⟩⟩
theorem exV_at {P : Program} {w : World} {H : Hp} {h : Heap} {a C d : Addr} (hok : HOk P w H h) (he : H a = some (ExV a C d)) : ∃ (oe : Obj) (vs : Array Value), h.get? a = some oe ∧ oe.cls = .ref C ∧ oe.dict = some d ∧ oe.data = .fields vs := by
  have x : ObjOk P w H h a (.ext fun h => ∃ (oe : Obj) (vs : Array Value), h.get? a = some oe ∧ oe.cls = .ref C ∧ oe.dict = some d ∧ oe.data = .fields vs) := hok a _ he
  exact x.1
/-- C called with n positional values and the keywords ks; bl: its attributes, the last one stored first -/
structure MkX (X : Cx) (C : Addr) (n : Nat) (ks : List Str) (bl : List V → List V → List (Str × V)) : Prop where
  kC : PySem.W.keepIn X.K (.ref C) = true
  run : ∀ {pins : List (Addr × Obj)} {σ : L2.St} {H : Hp} {s : Shared} {us ws : List Value} {vs zs : List V} {Q : VK}, Inv X pins σ H s → Vals vs us → Vals zs ws → vs.length = n → zs.length = ks.length →
    (∀ a d, H a = none → H d = none → d ≠ a → Q (.ref a) (upd (upd H d (.xd (bl vs zs))) a (ExV a C d))) → wpAny (model X.prog X.w) X.A (call (.ref C) us (ks.zip ws)) (EP X pins σ Q) X.xe s
theorem made_inv {X : Cx} {pins : List (Addr × Obj)} {σ : L2.St} {H : Hp} {s s' : Shared} {a C d t : Addr} {fs : List (Str × V)} {mA : Str → Option Value} (I : Inv X pins σ H s) (k : ∀ b o, s.heap.get? b = some o → s'.heap.get? b = some o) (hge : s.heap.objs.size ≤ a) (hgd : s.heap.objs.size ≤ d) (ne : d ≠ a)
    (ha : s'.heap.get? a = some (obX C t (some d))) (hn : s'.heap.Ns1 d mA) (r : ∀ f, RelO (fs.lookup f) (mA f)) (eg : s'.gens = s.gens) (eo : s'.os = s.os) : Inv X pins σ (upd (upd H d (.xd fs)) a (ExV a C d)) s' := by
  have na : H a = none := I.hok.fresh hge
  have nd : H d = none := I.hok.fresh hgd
  have lt1 : ∀ b o, s.heap.get? b = some o → b ≠ a := fun b o e => Nat.ne_of_lt (Nat.lt_of_lt_of_le (Heap.lt_size e) hge)
  have lt2 : ∀ b o, s.heap.get? b = some o → b ≠ d := fun b o e => Nat.ne_of_lt (Nat.lt_of_lt_of_le (Heap.lt_size e) hgd)
  have so : ∀ b u, H b = some u → upd (upd H d (.xd fs)) a (ExV a C d) b = some u := fun b u e => by
    rw [upd_ne (ne_of_none e na), upd_ne (ne_of_none e nd)]
    exact e
  have U : Un (frs X.stack) [] H (upd (upd H d (.xd fs)) a (ExV a C d)) s.heap s'.heap :=
    ⟨fun b o e _ _ _ => k b o e, fun b o e _ _ _ => ⟨o.slots, k b o e⟩, fun b o e n _ => by rw [upd_ne (lt1 b o e), upd_ne (lt2 b o e)]; exact n, fun b o e _ => ⟨o, k b o e⟩, fun b xs e => so b _ e, fun b o u e => so b _ e, fun b ps e => ⟨#[], by rw [so b _ e]; simp⟩⟩
  have ok : HOk X.prog X.w (upd (upd H d (.xd fs)) a (ExV a C d)) s'.heap := fun b u e => by
    by_cases q1 : b = a
    · subst q1
      rw [upd_same] at e
      cases e
      exact exV_ok ha rfl rfl rfl
    · rw [upd_ne q1] at e
      by_cases q2 : b = d
      · subst q2
        rw [upd_same] at e
        cases e
        exact ⟨mA, hn, r⟩
      · rw [upd_ne q2] at e
        exact (I.hok b u e).stay (fun c v _ y => k c v y) (fun c y => so c _ y) fun c xs y => so c _ y
  obtain ⟨h', g', d', t', o'⟩ := s'
  have eo : o' = s.os := eo
  have eg : g' = s.gens := eg
  subst eo eg
  exact I.call (ch := []) (g' := s.gens) (t' := t') (d' := d') U ok I.bare (fun _ z => nomatch z)
section
variable {X : Cx} {C fI cda cc : Addr} {B newId initId : String} {T : List Value} {qual : Str} {params : Arguments} {scope : Scope} {dV kV doc pm ct : Value} {an : Option Addr} {p0 p1 p2 p3 p4 apos : Pos} {j k n : Nat} {msg : Str} {sts : List Stmt} {ar : Arg} {ps ks : List Str} {pm' : List Value → List Value → List Value} {bl : List V → List V → List (Str × V)}
abbrev upSt (p0 p1 p2 p3 p4 apos : Pos) (j : Nat) (msg : Str) : Stmt := .Expr (.Call (.Attribute (.Call (.Name "super" p0) [] [] p1) "__init__" apos) [.Constant (.str msg) j p2] [] p3) p4
/-- what the text of such an __init__ shows by itself -/
structure XT (scope : Scope) (p0 p1 p2 p3 p4 apos : Pos) (j : Nat) (msg : Str) : Prop where
  ev : ∀ env : Env, env.scope = scope → ∃ pl : Sem Bool, eval (.Call (.Attribute (.Call (.Name "super" p0) [] [] p1) "__init__" apos) [.Constant (.str msg) j p2] [] p3) env = (do
      let ov ← attributeBase (.Call (.Name "super" p0) [] [] p1) "__init__" env (eval (.Call (.Name "super" p0) [] [] p1) env)
      standAt apos.atName
      let (f1, first) ← holding [ov] (getMethod ov "__init__" pl)
      callWith p3 f1 first (backTo p3 (starEach [.Constant (.str msg) j p2] env)) [])
  int : ∀ env : Env, env.scope = scope → interactive env = false
  sw : ∀ env : Env, env.scope = scope → swapsWith (.Call (.Attribute (.Call (.Name "super" p0) [] [] p1) "__init__" apos) [.Constant (.str msg) j p2] [] p3) none p4.line env = pure false
theorem mkX_of (c : XC X.K C B newId initId T) (z : XF X.prog X.K C fI (ksFn "__init__" qual params (upSt p0 p1 p2 p3 p4 apos j msg :: sts) scope dV kV doc pm an (.ref cda) ct cc) cda cc) (S : XS scope) (t : XT scope p0 p1 p2 p3 p4 apos j msg)
    (hcd : codeIn X.K (.ref cda) qual = true) (hi : PySem.W.findIn X.K (.ref C) "__init__" = some (some (.ref fI))) (hf : PySem.W.typeIn X.K (.ref fI) = some (.type "function")) (hr : Room (k + 1) X.A) (hp : (params.posonlyargs ++ params.args).head? = some ar) (har : ar.arg = "self") (hm : X.mg "super" = none)
    (hb : ∀ (us ws : List Value), us.length = n → ws.length = ks.length → ∀ e : Value, bindArgs (ksFn "__init__" qual params (upSt p0 p1 p2 p3 p4 apos j msg :: sts) scope dV kV doc pm an (.ref cda) ct cc) ⟨e :: us, ks.zip ws⟩ = pure ((("self" : Str), e) :: ps.zip (pm' us ws)))
    (hps : ∀ y ∈ ps, scope.names.lookup y = some .local ∧ y ≠ "self")
    (hsts : ∀ (us ws : List Value) (vs zs : List V), Vals vs us → Vals zs ws → us.length = n → ws.length = ks.length → ∀ (e : Value) (env : Env), env.scope = scope → ∃ l, bl vs zs = l.reverse ∧ l ≠ [] ∧ l.length ≤ 900 ∧ (∀ p ∈ l, takerIn X.K C p.1 = some none) ∧ Sts (fun y => (((("self" : Str), e) :: ps.zip (pm' us ws) : List (Str × Value))).reverse.lookup y) env sts l)
    (hn : n ≤ 1000) : MkX X C n ks bl := by
  refine ⟨c.kC, fun {pins σ H s us ws vs zs Q} I r1 r2 l1 l2 h => ?_⟩
  obtain ⟨hp0, g, d, tk, os⟩ := s
  have KI : X.K.In hp0 := I.kIn
  obtain ⟨nm, N', qn, bs, bm, hdct, sn, sub, ab, col, dd, k0, k1, k2, k3, k5, hC, hT⟩ := excInit_of KI c.made
  have lu : us.length = n := by rw [← r1.length]; exact l1
  have lw : ws.length = ks.length := by rw [← r2.length]; exact l2
  have hus : us.length ≤ sizeLine := by
    rw [sizeLine_eq]
    omega
  have kk : ∀ b o, hp0.get? b = some o → (twoH hp0 C us).get? b = some o := fun b o e => Heap.get?_push_of_some _ (Heap.get?_push_of_some _ e)
  have hget : (twoH hp0 C us).get? (hp0.objs.size + 1) = some (obX C hp0.objs.size none) := by heap_get
  have bk : ∀ b o, X.base.get? b = some o → (twoH hp0 C us).get? b = some o := fun b o e => kk b o (I.bk b o e)
  obtain ⟨mb, hB, hbb⟩ := I.mod.blt
  have sz : (twoH hp0 C us).objs.size = hp0.objs.size + 2 := by simp [twoH, Heap.size_push]
  refine wpAny_call (callX c.xb.base hT hC (looks_findIn KI hi) (fun self => bind_fn KI self hf) hus ?_)
  have hra := hr.make C us (ks.zip ws)
  have hdp : (X.A.under (.builtin "type.__call__" ⟨.ref C :: us, ks.zip ws⟩)).depth < recursionLimit := by
    have := hra.dp
    omega
  have hrev : ∀ (e : Value), (((("self" : Str), e) :: ps.zip (pm' us ws) : List (Str × Value))).reverse.lookup ("self" : Str) = some e := by
    intro e
    rw [List.reverse_cons]
    have gen : ∀ (l : List (Str × Value)), (∀ y ∈ l, y.1 ≠ ("self" : Str)) → (l ++ [(("self" : Str), e)]).lookup ("self" : Str) = some e := by
      intro l
      induction l with
      | nil => intro _; simp [List.lookup]
      | cons y l ih =>
        intro hy
        have ne : (("self" : Str) == y.1) = false := by
          rw [beq_eq_false_iff_ne]
          exact (hy y (List.mem_cons_self ..)).symm
        rw [List.cons_append, List.lookup_cons, ne]
        exact ih fun q hq => hy q (List.mem_cons_of_mem _ hq)
    exact gen _ fun y hy => (hps y.1 (List.of_mem_zip (List.mem_reverse.mp hy)).1).2
  obtain ⟨l, e1, e2, e3, e4, _⟩ := hsts us ws vs zs r1 r2 lu lw (.ref (hp0.objs.size + 1)) { (default : Env) with scope := scope } rfl
  refine run_init (binds := (("self" : Str), Value.ref (hp0.objs.size + 1)) :: ps.zip (pm' us ws)) (l := l) (x := hp0.objs.size + 1) c z S (KI.keeps kk) hcd (I.mod.nolimit.keeps bk) hdp hp har (nsLives I.mod.glob fun o e => bk _ _ e) hm (nsLives hB fun o e => bk _ _ e) ((hbb _ (by decide)).trans PyProof.Rows.Boot.«super») hget ?_ ?_ ?_ (hrev _) t.ev t.int t.sw ?_ e3 e4 ?_ e2
  · intro o e
    exact absurd (Heap.lt_size (KI _ _ e)) (Nat.not_lt.mpr (Nat.le_succ _))
  · exact .of_eq (hb us ws lu lw _)
  · intro y hy
    rcases List.mem_cons.mp hy with rfl | hy
    · exact S.self
    · exact (hps y.1 (List.of_mem_zip hy).1).1
  · intro env he
    obtain ⟨l', q1, _, _, _, q5⟩ := hsts us ws vs zs r1 r2 lu lw (.ref (hp0.objs.size + 1)) env he
    have : l' = l := by
      have := q1.symm.trans e1
      exact List.reverse_inj.mp this
    rw [← this]
    exact q5
  · intro s' t' d' mA k e hd nd hns rr eg eo
    refine ⟨rfl, ?_⟩
    show EP X pins σ Q (.ref (hp0.objs.size + 1)) s'
    have na : H (hp0.objs.size + 1) = none := I.hok.fresh (Nat.le_succ _)
    have hd' : hp0.objs.size ≤ d' := by
      have : (twoH hp0 C us).objs.size ≤ d' := hd
      omega
    have ndd : H d' = none := I.hok.fresh hd'
    rw [← e1] at rr
    exact ⟨.ref (hp0.objs.size + 1), _, made_inv I (fun b o y => k b o (by have := Heap.lt_size y; exact Nat.ne_of_lt (Nat.lt_succ_of_lt this)) (kk b o y)) (Nat.le_succ _) hd' nd e hns rr eg eo, rfl, h _ _ na ndd nd⟩
end
end Xq

/-! Own exceptions by data. -/
namespace Dq
open PySem PySem.Spec PyProof.Rows L2
section
variable {p : Pg} {X : Cx} {W : WX}
/-! ### e.f -/
@[simp] def atE (n : Nat) (fx : Nat → Bool) (d : DV) (s : Sto) : R DV := match d with
  | .exn c ks xs => match fx c, lkD n ks xs with
    | true, some e => .ok e s
    | _, _ => .bad
  | _ => .bad
theorem exn_at {pins : List (Addr × Obj)} {σ : L2.St} {H : Hp} {s : Shared} {a C d : Addr} {fs : List (Str × V)} (I : Inv X pins σ H s) (ha : H a = some (Xq.ExV a C d)) (hd : H d = some (.xd fs)) :
    ∃ (oe od : Obj) (mA : Str → Option Value), PySem.W.InstAt s.heap a oe C (some od) ∧ (∀ f, RelO (fs.lookup f) (mA f)) ∧ (∀ name, PySem.W.lookIn name od = some (mA name)) := by
  obtain ⟨oe, vs, e, h1, h2, h3⟩ := Xq.exV_at I.hok ha
  have hx : ObjOk X.prog X.w H s.heap d (.xd fs) := I.hok d _ hd
  obtain ⟨mA, hns, hr⟩ := hx
  obtain ⟨od, ho, hl⟩ := lookIn_ns hns
  exact ⟨oe, od, mA, ⟨e, h1, by unfold PySem.W.notCls; rw [h3], by rw [h2]; exact ho⟩, hr, hl⟩
theorem qattrE {e : Expr} {f : Str} {pos : Pos} {ge : GE} {n : Nat} {fx : Nat → Bool} (he : PE X e (rd p W ge)) (hf : ∀ c, fx c = true → XfC X.K (p.cA c) ∧ PySem.W.findIn X.K (.ref (p.cA c)) f = some none) (hn : p.nm n = f := by rfl) (hab : attributeBase e f X.env (eval e X.env) = eval e X.env := by rfl) :
    PE X (.Attribute e f pos) (rd p W (gUn (atE n fx) ge)) := by
  refine ⟨fun pins s σ H Q I h => ?_⟩
  refine attr_of hab ?_
  have key := one (W := W) (p := p) (ga := ge) (g := atE n fx) (ta := rd p W ge) (σ := σ) (H := H) (Q := Q) (r := fun x H Q => ∃ G a, Gd p G H ∧ Rp p G.F G.μ a x ∧ PoV p W G σ (atE n fx a G.st) Q) (fun _ _ _ z => z) (fun x H Q z => z) h
  refine thn (he.run pins s σ H _ I key) fun u s1 ⟨x, H1, I1, rx, G, d, gd, r, po⟩ => ?_
  unfold atE at po
  split at po
  · rename_i c ks xs
    split at po
    · rename_i e2 h1 h2
      cases r with
      | @exn a dx _ _ _ fs e1 e3 ek er =>
        obtain rfl : u = Value.ref a := rx
        obtain ⟨T, hno⟩ := hf c h1
        obtain ⟨oe, od, mA, J, hr, hl⟩ := exn_at I1 (gd.le _ _ e1) (gd.le _ _ e3)
        obtain ⟨v, lv, rv⟩ := lk_of ek er h2
        rw [hn] at lv
        obtain ⟨u', hu, ru⟩ := RelO.some_of (v := v) (o := mA f) (by rw [← lv]; exact hr f)
        exact HandSPX.exc_get I1.kIn J T.ga T.gg T.exC (PySem.W.findObj_own T.hdC hno rfl (by rw [hl, hu])) (handed_of ru) ⟨v, H1, I1.tok _, ru, Po.ret po GX.rfl' rfl gd rv⟩
    · exact po.elim
  · exact po.elim
/-! ### isinstance(x, a class), x perhaps an exception -/
def isiX (ans : Ty → Option Bool) (ansE : Nat → Option Bool) (d : DV) (s : Sto) : R DV := match d with
  | .exn c _ _ => match ansE c with
    | some b => .ok (.bl b) s
    | none => .bad
  | d => isiD ans d s
def rIsX (X : Cx) : List V → Hp → VK → Prop := fun xs H Q => rIsi X.K xs H Q ∨ ∃ (a C d : Addr) (fs : List (Str × V)) (c : V) (cv : Value) (b : Bool), xs = [.ref a, c] ∧ H a = some (Xq.ExV a C d) ∧ H d = some (.xd fs) ∧ ExcC X.K C ∧ (∀ u, RelV c u → u = cv) ∧ PySem.W.kitOne X.K (.ref C) cv = some b ∧ Q (.bl b) H
theorem call_isX : CallR X (.builtin "isinstance") (rIsX X) := by
  intro pins s σ H xs us Q I r h
  rcases h with h | ⟨a, C, d, fs, c, cv, b, rfl, ha, hd, hC, hcv, e, q⟩
  · exact call_isi pins s σ H xs us Q I r h
  · cases r with
    | cons rx rr =>
      cases rr with
      | cons rt rr =>
        cases rr
        cases rx
        have ec := hcv _ rt
        subst ec
        obtain ⟨oe, od, mA, J, hr, hl⟩ := exn_at I ha hd
        have hcl : (PySem.W.clsIn X.K C).isSome = true := by
          obtain ⟨cd, hc, _⟩ := PySem.W.any_some hC.hd
          rw [hc]
          rfl
        exact PySem.W.kia_one (PySem.W.kitx_exc hcl hC.hg hC.hk hC.hs hC.ha hC.hn hC.ht hC.hm) I.kIn J e (fun z => nomatch z) fun tk => ⟨.bl b, H, I.kept (t' := tk) fun _ _ z => z, rfl, q⟩
theorem qisiX {x : Str} {pp pos : Pos} {e c : Expr} {ge : GE} {cv : V} {cu : Value} {ans : Ty → Option Bool} {ansE : Nat → Option Bool} (hm : X.mg x = none) (hg : Gl X x) (hv : bootBuiltins x = some (.builtin "isinstance")) (he : PE X e (rd p W ge)) (hc : PE X c (tC cv)) (hcu : ClsV cv cu) (hK : X.K = p.K)
    (ha : ∀ t b, ans t = some b → PySem.W.kitOne p.K (t.val p) cu = some b ∧ ∀ c, t = .own c → IsC p p.K c) (haE : ∀ c b, ansE c = some b → PySem.W.kitOne p.K (.ref (p.cA c)) cu = some b ∧ ExcC p.K (p.cA c))
    (hn : x ≠ "__name__" := by decide) (hdb : (x == ("__debug__" : Str)) = false := by decide)
    (hse : starEach [e, c] X.env = (false, eval e X.env) :: starEach [c] X.env := by rfl) (hse2 : starEach [c] X.env = (false, eval c X.env) :: starEach [] X.env := by rfl) (hpl : (backTo pos (starEach [c] X.env)).any (·.1) = false := by rfl) :
    PE X (.Call (.Name x pp) [e, c] [] pos) (rd p W (gUn (isiX ans ansE) ge)) :=
  PE.imp (pe_callB call_isX hg hm hv (pa_cons he (pa_cons hc pa_nil hse2) hse) hn hdb hse hpl) fun σ H Q ⟨G, ρ, gd, en, po⟩ => ⟨G, ρ, gd, en, (Po.bind po).imp fun v H1 ⟨G1, d, x1, gd1, r1, po1⟩ => by
    unfold isiX at po1
    split at po1
    · rename_i k ks xs
      split at po1
      · rename_i b hb
        obtain ⟨h1, h2⟩ := haE _ b hb
        cases r1 with
        | @exn a dx _ _ _ fs e1 e3 ek er =>
          exact .inr ⟨a, p.cA k, dx, fs, cv, cu, b, rfl, gd1.le _ _ e1, gd1.le _ _ e3, by rw [hK]; exact h2, fun u r => hcu.eq r, by rw [hK]; exact h1, Po.ret po1 GX.rfl' rfl gd1 (.bl _)⟩
      · exact po1.elim
    · unfold isiD at po1
      split at po1
      · rename_i t ht
        split at po1
        · rename_i b hb
          obtain ⟨h1, h2⟩ := ha t b hb
          exact .inl ⟨v, cv, _, cu, b, rfl, hcu, by rw [hK]; exact ty_of gd1 h2 r1 ht, by rw [hK]; exact h1, Po.ret po1 GX.rfl' rfl gd1 (.bl _)⟩
        · exact po1.elim
      · exact po1.elim⟩
/-! ### C(..) -/
abbrev MixE := List DV → List DV → Option (List Nat × List DV)
@[simp] def exnD (c : Nat) (mx : MixE) (l z : List DV) (s : Sto) : R DV := match mx l z with
  | some (ks, xs) => .ok (.exn c ks xs) s
  | none => .bad
@[simp] def gExn (c : Nat) (mx : MixE) (gl gk : GL) : GE := fun ρ s => (gl ρ s).bind fun l s1 => (gk ρ s1).bind fun z s2 => exnD c mx l z s2
/-- what C(..) gives, by data -/
structure ExD (p : Pg) (n m : Nat) (bl : List V → List V → List (Str × V)) (mx : MixE) : Prop where
  ok : ∀ (F : Hp) (μ : List Addr) (l z : List DV) (ks : List Nat) (xs : List DV) (vs zs : List V), Rps p F μ l vs → Rps p F μ z zs → mx l z = some (ks, xs) → vs.length = n ∧ zs.length = m ∧ (bl vs zs).map (·.1) = ks.map p.nm ∧ Rps p F μ xs ((bl vs zs).map (·.2))
theorem exn_run {c n : Nat} {ks : List Str} {bl : List V → List V → List (Str × V)} {mx : MixE} {pins : List (Addr × Obj)} {σ : L2.St} {H : Hp} {s : Shared} {us ws : List Value} {vs zs : List V} {Q : VK} {G : Gh} {l z : List DV} (M : Xq.MkX X (p.cA c) n ks bl) (D : ExD p n ks.length bl mx) (I : Inv X pins σ H s) (ru : Vals vs us) (rw' : Vals zs ws)
    (gd : Gd p G H) (rl : Rps p G.F G.μ l vs) (rz : Rps p G.F G.μ z zs) (po : PoV p W G σ (exnD c mx l z G.st) Q) : wpAny (model X.prog X.w) X.A (call (.ref (p.cA c)) us (ks.zip ws)) (EP X pins σ Q) X.xe s := by
  unfold exnD at po
  split at po
  · rename_i kk xs hm
    obtain ⟨l1, l2, e1, e2⟩ := D.ok _ _ l z kk xs vs zs rl rz hm
    refine M.run I ru rw' l1 l2 fun a d na nd ne => ?_
    have x1 := GX.lay gd (o := .xd (bl vs zs)) nd
    have g1 := gd.lay (o := .xd (bl vs zs)) nd
    have na' : upd H d (.xd (bl vs zs)) a = none := by rw [upd_ne (Ne.symm ne)]; exact na
    have x2 := GX.lay g1 (o := Xq.ExV a (p.cA c) d) na'
    have g2 := g1.lay (o := Xq.ExV a (p.cA c) d) na'
    refine Po.ret po (x1.trans x2) rfl g2 (.exn (dx := d) (fs := bl vs zs) ?_ ?_ e1 (Rgs.gx e2 (x1.trans x2)))
    · show upd _ a _ a = _
      rw [upd_same]
    · refine x2.f d _ ?_
      show upd _ d _ d = _
      rw [upd_same]
  · exact po.elim
section
variable {x : Str} {pp pos : Pos} {e : Expr} {es : List Expr} {kws : List Keyword} {gl gk : GL} {c n : Nat} {ks : List Str} {bl : List V → List V → List (Str × V)} {mx : MixE}
theorem qexnK (M : Xq.MkX X (p.cA c) n ks bl) (D : ExD p n ks.length bl mx) (hm : X.mg x = some (.ref (p.cA c))) (hg : Gl X x) (ha : PA X (e :: es) (rdL p W gl)) (hkw : PK X kws (rdL p W gk))
    (hall : (backToKw pos (keywordEach kws X.env)).all (·.1.isSome) = true := by rfl) (hks : (backToKw pos (keywordEach kws X.env)).filterMap (·.1) = ks := by rfl) (hdb : (x == ("__debug__" : Str)) = false := by decide)
    (he : starEach (e :: es) X.env = (false, eval e X.env) :: starEach es X.env := by rfl)
    (hpl : ((backTo pos (starEach (e :: es) X.env)).any (·.1) || (backToKw pos (keywordEach kws X.env)).any (·.1.isNone)) = false := by rfl) :
    PE X (.Call (.Name x pp) (e :: es) kws pos) (rd p W (gExn c mx gl gk)) := by
  refine ⟨fun pins s σ H Q I h => ?_⟩
  refine wpAny_Call_Name_kw (ld_glob I hg hm ?_ hdb)
  obtain ⟨G, ρ, gd, en, po⟩ := h
  refine PySem.W.callWith_KW (h₀ := X.base) I.ok.mod.kin M.kC hall (thn (ha.run pos pins s σ H _ I ⟨G, ρ, gd, en, Po.bind po⟩) fun us s1 ⟨vs, H1, I1, r1, G1, l, x1, gd1, rl, po1⟩ => ?_) hpl he
  refine thn (hkw.run pos pins s1 σ H1 _ I1 ⟨G1, ρ, gd1, en.gx x1, Po.bind po1⟩) fun ws s2 ⟨zs, H2, I2, r2, G2, z, x2, gd2, rz, po2⟩ => ⟨I2.kIn, ?_⟩
  rw [hks]
  exact exn_run M D I2 r1 r2 gd2 (Rgs.gx rl x2) rz po2
theorem qexnK0 (M : Xq.MkX X (p.cA c) 0 ks bl) (D : ExD p 0 ks.length bl mx) (hm : X.mg x = some (.ref (p.cA c))) (hg : Gl X x) (hkw : PK X kws (rdL p W gk))
    (hall : (backToKw pos (keywordEach kws X.env)).all (·.1.isSome) = true := by rfl) (hks : (backToKw pos (keywordEach kws X.env)).filterMap (·.1) = ks := by rfl) (hdb : (x == ("__debug__" : Str)) = false := by decide)
    (hpl : ((backTo pos (starEach [] X.env)).any (·.1) || (backToKw pos (keywordEach kws X.env)).any (·.1.isNone)) = false := by rfl) :
    PE X (.Call (.Name x pp) [] kws pos) (rd p W (gExn c mx gNil gk)) := by
  refine ⟨fun pins s σ H Q I h => ?_⟩
  refine wpAny_Call_Name_kw (ld_glob I hg hm ?_ hdb)
  obtain ⟨G, ρ, gd, en, po⟩ := h
  refine PySem.W.callWith_KW0 (h₀ := X.base) I.ok.mod.kin M.kC hall ?_ hpl
  refine thn (hkw.run pos pins s σ H _ I ⟨G, ρ, gd, en, Po.bind po⟩) fun ws s2 ⟨zs, H2, I2, r2, G2, z, x2, gd2, rz, po2⟩ => ⟨I2.kIn, ?_⟩
  rw [hks]
  exact exn_run M D I2 .nil r2 gd2 .nil rz po2
theorem qexnP (M : Xq.MkX X (p.cA c) n [] bl) (D : ExD p n 0 bl mx) (hm : X.mg x = some (.ref (p.cA c))) (hg : Gl X x) (ha : PA X (e :: es) (rdL p W gl))
    (hdb : (x == ("__debug__" : Str)) = false := by decide) (he : starEach (e :: es) X.env = (false, eval e X.env) :: starEach es X.env := by rfl) (hpl : (backTo pos (starEach es X.env)).any (·.1) = false := by rfl) :
    PE X (.Call (.Name x pp) (e :: es) [] pos) (rd p W (gExn c mx gl gNil)) := by
  refine ⟨fun pins s σ H Q I h => ?_⟩
  refine wpAny_Call_Name_kw (ld_glob I hg hm ?_ hdb)
  obtain ⟨G, ρ, gd, en, po⟩ := h
  refine PySem.W.callWith_K (h₀ := X.base) I.ok.mod.kin M.kC (thn (ha.run pos pins s σ H _ I ⟨G, ρ, gd, en, Po.bind po⟩) fun us s1 ⟨vs, H1, I1, r1, G1, l, x1, gd1, rl, po1⟩ => ⟨I1.kIn, ?_⟩) he hpl
  exact exn_run (ks := []) (ws := []) (zs := []) (z := []) M D I1 r1 .nil gd1 rl .nil po1
theorem qexn0 (M : Xq.MkX X (p.cA c) 0 [] bl) (D : ExD p 0 0 bl mx) (hm : X.mg x = some (.ref (p.cA c))) (hg : Gl X x) (hdb : (x == ("__debug__" : Str)) = false := by decide) :
    PE X (.Call (.Name x pp) [] [] pos) (rd p W (gExn c mx gNil gNil)) := by
  refine ⟨fun pins s σ H Q I h => ?_⟩
  refine wpAny_Call_Name_kw (ld_glob I hg hm ?_ hdb)
  obtain ⟨G, ρ, gd, en, po⟩ := h
  exact PySem.W.callWith_K0 I.kIn M.kC (exn_run (ks := []) (ws := []) (zs := []) (z := []) (l := []) (vs := []) M D I .nil .nil gd .nil .nil po)
end
end
end Dq

/-! xs.index(e); all, any. -/
namespace Dq
open PySem PySem.Spec PyProof.Rows L2
section
variable {p : Pg} {X : Cx} {W : WX}
/-- the first place of y -/
def idxF (y : DV) : List DV → Option Nat
  | [] => none
  | x :: xs => match eqF x y with
    | true => some 0
    | false => match idxF y xs with
      | some j => some (j + 1)
      | none => none
@[simp] def listS (s : Sto) : DV → Option (List DV)
  | .lst xs => some xs
  | .wl xs => some xs
  | .mr k => match s[k]? with
    | some (some (.lst xs)) => some xs
    | _ => none
  | _ => none
theorem list_of {G : Gh} {H : Hp} (gd : Gd p G H) {d : DV} {v : V} {xs : List DV} (r : Rp p G.F G.μ d v) (h : listS G.st d = some xs) : ∃ a vs, v = .ref a ∧ SqL p.K H a vs ∧ Rps p G.F G.μ xs vs := by
  cases r with
  | lst e rs => cases h; exact ⟨_, _, rfl, SqL.of (gd.le _ _ e), rs⟩
  | wl e rs => cases h; exact ⟨_, _, rfl, sqL_up gd.le e, rs⟩
  | @mr k a hm =>
    have h : (match G.st[k]? with | some (some (.lst xs)) => some xs | _ => none) = some xs := h
    split at h
    · rename_i ys e
      cases h
      obtain ⟨b, e1, e2, vs, e3, e4⟩ := gd.live _ _ e
      rw [hm] at e1; cases e1
      exact ⟨_, vs, rfl, SqL.of e3, e4⟩
    · cases h
  | _ => cases h
theorem idx_of {F : Hp} {μ : List Addr} {y : DV} {u : V} (ry : Rp p F μ y u) (fy : y.flat = true) : ∀ {xs : List DV} {vs : List V} {j : Nat}, Rps p F μ xs vs → xs.all DV.flat = true → idxF y xs = some j →
    ∃ z, vs[j]? = some z ∧ eqV z u = true ∧ ∀ (m : Nat) (z' : V), m < j → vs[m]? = some z' → eqV z' u = false
  | [], _, _, _, _, h => by cases h
  | x :: xs, _, j, .cons (v := v) (vs := vs) r t, f, h => by
    rw [List.all_cons, Bool.and_eq_true] at f
    have e := eqV_of r ry f.1 fy
    unfold idxF at h
    split at h
    · rename_i q
      cases h
      exact ⟨v, rfl, by rw [e]; exact q, fun m z' hm => absurd hm (Nat.not_lt_zero m)⟩
    · rename_i q
      split at h
      · rename_i i hi
        cases h
        obtain ⟨z, h1, h2, h3⟩ := idx_of ry fy t f.2 hi
        refine ⟨z, h1, h2, fun m z' hm hz => ?_⟩
        cases m with
        | zero =>
          have hz : some v = some z' := hz
          cases hz
          rw [e]
          exact q
        | succ m => exact h3 m z' (by omega) hz
      · cases h
def idxD (o y : DV) (s : Sto) : R DV := match listS s o with
  | some xs => match y.flat && xs.all DV.flat, idxF y xs with
    | true, some j => .ok (.int j) s
    | _, _ => .bad
  | none => .bad
/-- xs.index(e) -/
@[simp] def gIdx (go ge : GE) : GE := fun ρ s => (go ρ s).bind fun o s1 => match listS s1 o with
  | some _ => (ge ρ s1).bind fun y s2 => idxD o y s2
  | none => .bad
theorem qidx {o e : Expr} {go ge : GE} {apos cpos : Pos} (ho : PE X o (rd p W go)) (he : PE X e (rd p W ge)) (hK : X.K = p.K := by rfl)
    (hbase : attributeBase o "index" X.env (eval o X.env) = eval o X.env := by rfl)
    (hfew : ((backTo cpos (starEach [e] X.env)).all (fun x => !x.1) && (backToKw cpos (keywordEach [] X.env)).all (fun x => x.1.isSome)
      && decide ([e].length + ([] : List Keyword).length + (if ([] : List Keyword).isEmpty then 0 else 1) < 30)) = true := by rfl)
    (hline : (apos.endLine == cpos.line) = true := by rfl) (hs : starEach [e] X.env = (false, eval e X.env) :: starEach [] X.env := by rfl) : PE X (.Call (.Attribute o "index" apos) [e] [] cpos) (rd p W (gIdx go ge)) :=
  PE.imp (pe_bm PySem.F.plainAttrs_list PySem.F.slot_list_index PySem.F.type_list_index mt_index ho (pa_cons he pa_nil hs) hbase hfew hline hs rfl) fun σ H Q ⟨G, ρ, gd, en, po⟩ => ⟨G, ρ, gd, en, (Po.bind po).imp fun v H1 ⟨G1, od, x1, gd1, r1, po1⟩ => by
    split at po1
    · rename_i xs0 hx0
      obtain ⟨a, vs, rfl, hq, rs⟩ := list_of gd1 r1 hx0
      refine ⟨.inl ⟨rfl, _, by rw [hK]; exact hq⟩, G1, ρ, gd1, en.gx x1, (Po.bind po1).imp fun u H2 ⟨G2, y, x2, gd2, r2, po2⟩ => ?_⟩
      unfold idxD at po2
      split at po2
      · rename_i xs hx
        split at po2
        · rename_i j c hj
          rw [Bool.and_eq_true] at c
          obtain ⟨b, us, eb, hq2, rs2⟩ := list_of gd2 (Rg.gx r1 x2) hx
          cases eb
          obtain ⟨z, h1, h2, h3⟩ := idx_of r2 c.1 rs2 c.2 hj
          exact ⟨a, us, u, j, z, rfl, rfl, by rw [hK]; exact hq2, flat_of r2 c.1, flats_of rs2 c.2, h1, h2, h3, Po.ret po2 GX.rfl' rfl gd2 (.int _)⟩
        · exact po2.elim
      · exact po2.elim
    · exact po1.elim⟩
/-! ### all, any over a list of truths -/
@[simp] def blsD : List DV → Option (List Bool)
  | [] => some []
  | .bl b :: xs => match blsD xs with
    | some bs => some (b :: bs)
    | none => none
  | _ :: _ => none
theorem bls_of {F : Hp} {μ : List Addr} : ∀ {xs : List DV} {vs : List V} {bs : List Bool}, Rps p F μ xs vs → blsD xs = some bs → vs = bs.map V.bl
  | [], _, _, .nil, h => by cases h; rfl
  | x :: xs, _, bs, .cons r t, h => by
    cases r with
    | bl b =>
      have h : (match blsD xs with | some bs => some (b :: bs) | none => none) = some bs := h
      split at h
      · rename_i cs hc
        cases h
        rw [bls_of t hc]
        rfl
      · cases h
    | _ => cases h
def allD : List DV → Sto → R DV
  | [d], s => match listS s d with
    | some xs => match blsD xs with
      | some bs => .ok (.bl (bs.all id)) s
      | none => .bad
    | none => .bad
  | _, _ => .bad
def anyD : List DV → Sto → R DV
  | [d], s => match listS s d with
    | some xs => match blsD xs with
      | some bs => .ok (.bl (bs.any id)) s
      | none => .bad
    | none => .bad
  | _, _ => .bad
theorem opd_all (hc : X.calm = true) (hK : X.K = p.K) : CallR X (.builtin "all") (rCal p W allD) := CallR.of fun G H σ ds vs Q gd rs po => by
  unfold allD at po
  split at po
  · cases rs with
    | cons r t =>
      cases t
      split at po
      · rename_i xs hx
        split at po
        · rename_i bs hb
          obtain ⟨a, us, rfl, hq, rs⟩ := list_of gd r hx
          have := bls_of rs hb
          subst this
          exact ⟨_, cr_all hc, a, bs, rfl, by rw [hK]; exact hq, Po.ret po GX.rfl' rfl gd (.bl _)⟩
        · exact po.elim
      · exact po.elim
  · exact po.elim
theorem opd_any (hc : X.calm = true) (hK : X.K = p.K) : CallR X (.builtin "any") (rCal p W anyD) := CallR.of fun G H σ ds vs Q gd rs po => by
  unfold anyD at po
  split at po
  · cases rs with
    | cons r t =>
      cases t
      split at po
      · rename_i xs hx
        split at po
        · rename_i bs hb
          obtain ⟨a, us, rfl, hq, rs⟩ := list_of gd r hx
          have := bls_of rs hb
          subst this
          exact ⟨_, cr_any hc, a, bs, rfl, by rw [hK]; exact hq, Po.ret po GX.rfl' rfl gd (.bl _)⟩
        · exact po.elim
      · exact po.elim
  · exact po.elim
end
end Dq

/-! Facts of own exception classes by truth; what a def has of them. -/
namespace Dq
open PySem PySem.Spec PyProof.Rows L2
def xcB (K : PySem.W.Frag) (C : Addr) (B newId initId : String) (T : List Value) : Bool :=
  PySem.W.excInitIn K C T newId && (PySem.W.excOver K C T && (decide (PySem.W.findIn K (.ref C) "__setattr__" = some (some (.builtin "object.__setattr__"))) && (PySem.W.hasDictIn K C && (decide (PySem.W.subIn K (.ref C) (.type B) = some true) &&
  (decide (PySem.W.subIn K (.ref C) (.type "BaseException") = some true) && (decide (PySem.W.typeIn K (.ref C) = some (.type "type")) && (PySem.W.keepIn K (.ref C) && (decide (PySem.W.ks_superIn K C C "__init__" = some (some (.builtin initId))) &&
  (decide (PySem.W.mroIn K C (.ref C) = some true) && (decide (PySem.W.nsIn K cStatics "thirdparty.any" = some none) && (decide (PySem.W.nsIn K mainGlobals "super" = some none) && (PySem.W.clsIn K C).isSome)))))))))))
theorem xcB_ok {K : PySem.W.Frag} {C : Addr} {B newId initId : String} {T : List Value} (b : Xq.XB B newId initId T) (h : xcB K C B newId initId T = true) : Xq.XC K C B newId initId T := by
  unfold xcB at h
  simp only [Bool.and_eq_true] at h
  obtain ⟨h1, h2, h3, h4, h5, h6, h7, h8, h9, h10, h11, h12, h13⟩ := h
  exact ⟨b, h1, h2, of_decide_eq_true h3, h4, of_decide_eq_true h5, of_decide_eq_true h6, of_decide_eq_true h7, h8, of_decide_eq_true h9, of_decide_eq_true h10, of_decide_eq_true h11, of_decide_eq_true h12, h13⟩
/-- the __init__ at f: the file of its code, the class in its closure -/
def xiB (K : PySem.W.Frag) (f C : Addr) (file : Str) : Bool := decide (PySem.W.findIn K (.ref C) "__init__" = some (some (.ref f))) && (decide (PySem.W.typeIn K (.ref f) = some (.type "function")) && (match K.lookup f with
  | some ⟨_, _, .func fd, _⟩ => (match fd.code with
    | .ref c => (match K.lookup c with
      | some ⟨_, _, .fields vs, _⟩ => (match (vs[2]? : Option Value) with
        | some (Value.str y _) => decide (y = file)
        | _ => false)
      | _ => false)
    | _ => false) && (match fd.closure with
    | [(_, cc)] => (match K.lookup cc with
      | some ⟨_, _, .cell (some (.ref D)), _⟩ => decide (D = C)
      | _ => false)
    | _ => false)
  | _ => false))
/-- an __init__ that says super() -/
structure FunX (P : Program) (K : PySem.W.Frag) (C f : Addr) (qual : Str) (params : Arguments) (body : List Stmt) (scope : Scope) : Prop where
  ex : ∃ (kV doc pm : Value) (an : Option Addr) (cda : Addr) (ct : Value) (cc : Addr), Xq.XF P K C f (PySem.W.ksFn "__init__" qual params body scope .none kV doc pm an (.ref cda) ct cc) cda cc ∧ PySem.W.codeIn K (.ref cda) qual = true
  init : PySem.W.findIn K (.ref C) "__init__" = some (some (.ref f))
  fn : PySem.W.typeIn K (.ref f) = some (.type "function")
theorem funX_of {P : Program} {K : PySem.W.Frag} {fn : List DefQ} {ex : PySem.W.Frag → Bool} (c : SaysQ fn ex K) (i : Nat) {d : DefQ} {C : Addr} {file : Str} (h : fn[i]? = some d) (hx : xiB K (d.place K) C file = true) (hf : ((P.main.file : Str) == file) = true) (ht : (P.main.scope.names.lookup ("super" : Str)).isSome = false)
    (hn : d.name = "__init__" := by rfl) (hc : d.clo = (["__class__"] : List Str) := by rfl) (hd : d.dfl = [] := by rfl) : FunX P K C (d.place K) d.qual d.params d.body d.scope := by
  have h1 : (ex K && fn.all fun d => d.ok K) = true := congrArg Prod.fst c
  have h2 : (fn.map fun d => fnQ K (d.place K)) = fn.map DefQ.val := congrArg Prod.snd c
  have ok := List.all_eq_true.mp (Bool.and_eq_true_iff.mp h1).2 d (List.mem_of_getElem? h)
  have e := congrArg (fun l : List FnQ => l[i]?) h2
  simp only [List.getElem?_map, h, Option.map_some, Option.some.injEq] at e
  unfold DefQ.ok at ok
  rw [Bool.and_eq_true] at ok
  obtain ⟨kp, c2⟩ := ok
  unfold xiB at hx
  rw [Bool.and_eq_true, Bool.and_eq_true] at hx
  obtain ⟨x1, x2, x3⟩ := hx
  unfold fnQ at e
  split at e
  · rename_i oc od fd osl hl
    rw [hl] at c2 x3
    simp only [Bool.and_eq_true] at c2 x3
    obtain ⟨k1, k2, k3⟩ := c2
    obtain ⟨x3, x4⟩ := x3
    obtain ⟨n1, n2, n3, n4, n5, n6, n7, n8, n9, n10, n11, n12, n13, n14, n15⟩ := fd
    unfold DefQ.val at e
    simp only [Option.some.injEq, Prod.mk.injEq] at e
    obtain ⟨q1, q2, q3, q4, q5, q6, q7, q8⟩ := e
    rw [hc] at q7
    have k2 := He.dflB_ok k2
    rw [hd] at k2
    rcases k2 with ⟨_, q9⟩ | ⟨z, _⟩
    · subst q1 q2 q3 q4 q5 q6 q8 q9
      simp only at x3 x4 k1
      split at x3
      · rename_i cda
        split at x3
        · rename_i vs sl1 hv
          split at x3
          · rename_i y tk hy
            split at x4
            · rename_i nm cc
              split at x4
              · rename_i D sl2 hD
                have x4 := of_decide_eq_true x4
                subst x4
                have x3 := of_decide_eq_true x3
                subst x3
                have q7 : [nm] = [("__class__" : Str)] := q7
                cases q7
                refine ⟨⟨n9, n10, n11, n12, cda, n14, cc, ⟨⟨oc, od, osl, ?_⟩, ⟨_, _, vs, _, y, tk, hv, hy, hf⟩, ⟨_, _, _, hD⟩, ht⟩, k1⟩, of_decide_eq_true x1, of_decide_eq_true x2⟩
                rw [hl, hn]
              · cases x4
            · cases x4
          · cases x3
        · cases x3
      · cases x3
    · exact absurd rfl z
  · cases e
def excCB (K : PySem.W.Frag) (D : Addr) : Bool := decide (PySem.W.findIn K (.ref D) "__getattribute__" = some (some (.builtin "BaseException.__getattribute__"))) && (decide (PySem.W.findIn K (.ref D) "__getattr__" = some none) && (decide (PySem.W.subIn K (.ref D) (.type "BaseException") = some true) && (PySem.W.hasDictIn K D &&
  (decide (PySem.W.findIn K (.ref D) "__class__" = some (some (.builtin "object.__class__"))) && (decide (PySem.W.specialIn K (.builtin "object.__class__") "__get__" = some (some (.builtin "getset_descriptor.__get__"))) && (decide (PySem.W.takesIn K (.builtin "object.__class__") = some true) && decide (PySem.W.mroIn K D (.type "object") = some true)))))))
theorem excCB_ok {K : PySem.W.Frag} {D : Addr} (h : excCB K D = true) : ExcC K D := by
  unfold excCB at h
  simp only [Bool.and_eq_true] at h
  obtain ⟨h1, h2, h3, h4, h5, h6, h7, h8⟩ := h
  exact ⟨of_decide_eq_true h1, of_decide_eq_true h2, of_decide_eq_true h3, h4, of_decide_eq_true h5, of_decide_eq_true h6, of_decide_eq_true h7, of_decide_eq_true h8⟩
theorem ExcC.xf {K : PySem.W.Frag} {D : Addr} (h : ExcC K D) : XfC K D := ⟨h.hg, h.hk, h.hs, h.hd⟩
/-- what a def has of an own exception class: C(..) of this shape gives bl -/
structure OkE (p : Pg) (P : Program) (w : World) (mg : Str → Option Value) (base : Heap) (c n : Nat) (ks : List Str) (bl : List V → List V → List (Str × V)) : Prop where
  m' : ∀ X : Cx, At X p P w mg base → Room 1 X.A → Xq.MkX X (p.cA c) n ks bl
theorem OkE.m {p : Pg} {P : Program} {w : World} {mg : Str → Option Value} {base : Heap} {c n : Nat} {ks : List Str} {bl : List V → List V → List (Str × V)} {X : Cx} (o : OkE p P w mg base c n ks bl) (hr : Room 1 X.A) (e : At X p P w mg base := by exact ⟨rfl, rfl, rfl, rfl, rfl⟩) : Xq.MkX X (p.cA c) n ks bl := o.m' X e hr
end Dq

namespace Dq
open PySem PySem.Spec PyProof.Rows L2
@[simp] theorem okIf_t (d : DV) (s : Sto) : okIf true d s = .ok d s := rfl
theorem okIf_of {c : Bool} (h : c = true) (d : DV) (s : Sto) : okIf c d s = .ok d s := by subst h; rfl
@[simp] theorem fin_same (s s' : Sto) (d : DV) (h : s'.length = s.length) : RS.fin s (.rt d s') = .ok d s' := by
  show fin s d s' = _
  unfold fin
  simp [h]
@[simp] theorem finN_same (s s' : Sto) (ρ : En) (h : s'.length = s.length) : RS.fin s (.nx ρ s') = .ok .non s' := by
  show fin s .non s' = _
  unfold fin
  simp [h]
theorem cutOk_app (s t : Sto) : cutOk s (s ++ t) = true := by
  unfold cutOk
  rw [List.take_left]
  simp [sameS_rfl]
theorem fin_app (s t : Sto) (d : DV) (t' : Sto) (hf : frz 12 s.length d (s ++ t) = some (d, s ++ t')) (hb : bel s.length d = true) : RS.fin s (.rt d (s ++ t)) = .ok d s := by
  cases t with
  | nil =>
    rw [List.append_nil]
    exact fin_same s s d rfl
  | cons x t =>
    show fin s d _ = _
    unfold fin
    rw [hf]
    have : decide ((s ++ x :: t).length = s.length) = false := by simp
    rw [this]
    simp only
    rw [hb, cutOk_app, List.take_left]
    rfl
theorem makeD_ins {c : Nat} {g : List DV → Sto → R DV} {l : List DV} {s : Sto} {ks : List Nat} {xs : List DV}
    (h : g (.mr s.length :: l) (s ++ [some (.ins c [] [])]) = .ok .non (s ++ [some (.ins c ks xs)])) (hb : bels s.length xs = true) : makeD false c g l s = .ok (.ins c ks xs) s := by
  unfold makeD
  rw [h]
  have e1 : (s ++ [some (MO.ins c ks xs)])[s.length]? = some (some (MO.ins c ks xs)) := by simp
  have e2 : (s ++ [some (MO.ins c ks xs)]).set s.length none = s ++ [none] := by simp [List.set_append]
  simp only [e1, e2]
  simp [hb, cutOk_app]
/-- small enough to be multiplied -/
def Sm (x : Int) : Prop := x.natAbs < 2 ^ 4000
theorem log2_lt {n k : Nat} (h : n < 2 ^ k) (hk : 0 < k) : n.log2 < k := by
  by_cases z : n = 0
  · subst z; simpa using hk
  · exact (Nat.log2_lt z).mpr h
theorem mulOk_of {i j : Int} (hi : Sm i) (hj : Sm j) : mulOk i j = true := by
  unfold mulOk
  have a := log2_lt hi (by decide)
  have b := log2_lt hj (by decide)
  simp only [decide_eq_true_eq]
  omega
theorem divOk_of {j : Int} (h0 : j ≠ 0) (hj : Sm j) : divOk j = true := by
  unfold divOk
  have b := log2_lt hj (by decide)
  simp only [Bool.and_eq_true, decide_eq_true_eq]
  omega
theorem Sm.of {x : Int} {k : Nat} (h : x.natAbs < 2 ^ k) (hk : k ≤ 4000 := by decide) : Sm x := Nat.lt_of_lt_of_le h (Nat.pow_le_pow_right (by decide) hk)
theorem Sm.neg {x : Int} (h : Sm x) : Sm (-x) := by unfold Sm; rw [Int.natAbs_neg]; exact h
theorem mulD_of {i j : Int} (hi : Sm i) (hj : Sm j) (s : Sto) : mulD (.int i) (.int j) s = .ok (.int (i * j)) s := by
  show okIf (mulOk i j) _ s = _
  exact okIf_of (mulOk_of hi hj) _ s
theorem fdivD_of {i j : Int} (h0 : j ≠ 0) (hj : Sm j) (s : Sto) : fdivD (.int i) (.int j) s = .ok (.int (i.fdiv j)) s := by
  show okIf (divOk j) _ s = _
  exact okIf_of (divOk_of h0 hj) _ s
theorem modD_of {i j : Int} (h0 : j ≠ 0) (s : Sto) : modD (.int i) (.int j) s = .ok (.int (i.fmod j)) s := by
  show okIf (decide (j ≠ 0)) _ s = _
  exact okIf_of (by simpa using h0) _ s
theorem shaped_int (i : Int) : SeqAt.shaped (.int i) = true := rfl
theorem shaped_tup2 (i j : Int) : SeqAt.shaped (.tuple [.int i, .int j]) = true := rfl
theorem eqD_int (i j : Int) (s : Sto) : eqD (.int i) (.int j) s = .ok (.bl (decide (i = j))) s := by
  show okIf (SeqAt.shaped (.int i) && SeqAt.shaped (.int j)) (.bl (PyData.eqv (.int i) (.int j))) s = _
  rw [shaped_int, shaped_int]
  show R.ok (DV.bl (PyData.eqv (.int i) (.int j))) s = _
  have : PyData.eqv (.int i) (.int j) = decide (i = j) := by
    unfold PyData.eqv
    by_cases h : i = j <;> simp [h]
  rw [this]
theorem neD_int (i j : Int) (s : Sto) : neD (.int i) (.int j) s = .ok (.bl (!decide (i = j))) s := by
  show okIf (SeqAt.shaped (.int i) && SeqAt.shaped (.int j)) (.bl (!PyData.eqv (.int i) (.int j))) s = _
  rw [shaped_int, shaped_int]
  show R.ok (DV.bl (!PyData.eqv (.int i) (.int j))) s = _
  have : PyData.eqv (.int i) (.int j) = decide (i = j) := by
    unfold PyData.eqv
    by_cases h : i = j <;> simp [h]
  rw [this]
theorem eqD_tup2 (a b c d : Int) (s : Sto) : eqD (.tup [.int a, .int b]) (.tup [.int c, .int d]) s = .ok (.bl (decide (a = c ∧ b = d))) s := by
  show okIf (SeqAt.shaped (.tuple [.int a, .int b]) && SeqAt.shaped (.tuple [.int c, .int d])) (.bl (PyData.eqv (.tuple [.int a, .int b]) (.tuple [.int c, .int d]))) s = _
  rw [shaped_tup2, shaped_tup2]
  show R.ok (DV.bl (PyData.eqv (.tuple [.int a, .int b]) (.tuple [.int c, .int d]))) s = _
  have : PyData.eqv (.tuple [.int a, .int b]) (.tuple [.int c, .int d]) = decide (a = c ∧ b = d) := by
    simp only [PyData.eqv, PyData.eqvAll]
    by_cases h : a = c <;> by_cases h2 : b = d <;> simp [h, h2]
  rw [this]
theorem ixD_tup (xs : List DV) (i : Nat) (s : Sto) (h : i < xs.length) : ixD (.tup xs) (.int i) s = .ok xs[i] s := by
  have : atI xs (i : Int) = some xs[i] := by
    unfold atI L2.ixN
    simp [h]
  simp [ixD, this]
theorem ixD_seq {a : DV} {xs : List DV} {i : Int} {s : Sto} {d : DV} (hs : seqS s a = some xs) (ha : ∀ z, a ≠ .str z) (h0 : 0 ≤ i) (h : xs[i.toNat]? = some d) : ixD a (.int i) s = .ok d s := by
  have hl : i.toNat < xs.length := by
    rcases Nat.lt_or_ge i.toNat xs.length with q | q
    · exact q
    · rw [List.getElem?_eq_none q] at h; cases h
  have : atI xs i = some d := by
    unfold atI L2.ixN
    have : i < xs.length := by omega
    rw [List.getElem?_eq_getElem hl] at h
    injection h with h
    simp [h0, this, h, hl]
  unfold ixD
  cases a with
  | str z => exact absurd rfl (ha z)
  | _ => simp only [hs, this]
theorem rng2_of {i j : Int} (h : -(2 ^ 62) ≤ i ∧ i < 2 ^ 62 ∧ -(2 ^ 62) ≤ j ∧ j < 2 ^ 62) : rng2 [.int i, .int j] = some (i, (j - i).toNat) := by
  show (match decide (-(2 ^ 62) ≤ i ∧ i < 2 ^ 62 ∧ -(2 ^ 62) ≤ j ∧ j < 2 ^ 62) with
    | true => some (i, (j - i).toNat)
    | false => none) = _
  rw [decide_eq_true h]
theorem rng1_of {j : Int} (h : -(2 ^ 62) ≤ j ∧ j < 2 ^ 62) : rng1 [.int j] = some (0, j.toNat) := by
  show (match decide (-(2 ^ 62) ≤ j ∧ j < 2 ^ 62) with
    | true => some ((0 : Int), j.toNat)
    | false => none) = _
  rw [decide_eq_true h]
end Dq

namespace Dq
open PySem PySem.Spec PyProof.Rows L2
/-- the turns of a comprehension give these -/
inductive LcF (t : GTg) (el : GE) (ρ : En) (n : Nat) : List DV → List DV → Prop
  | nil : LcF t el ρ n [] []
  | cons {x y : DV} {xs ys : List DV} (h : ∃ ρ1, t x ρ = some ρ1 ∧ ∀ S : Sto, S.length = n + 1 → el ρ1 S = .ok y S) (r : LcF t el ρ n xs ys) : LcF t el ρ n (x :: xs) (y :: ys)
theorem LcF.len {t : GTg} {el : GE} {ρ : En} {n : Nat} {xs ys : List DV} (h : LcF t el ρ n xs ys) : ys.length = xs.length := by
  induction h with
  | nil => rfl
  | cons _ _ ih => rw [List.length_cons, List.length_cons, ih]
theorem LcF.map {t : GTg} {el : GE} {ρ : En} {n : Nat} {f : DV → DV} : ∀ {xs : List DV}, (∀ x ∈ xs, ∃ ρ1, t x ρ = some ρ1 ∧ ∀ S : Sto, S.length = n + 1 → el ρ1 S = .ok (f x) S) → LcF t el ρ n xs (xs.map f)
  | [], _ => .nil
  | _ :: _, h => .cons (h _ (.head _)) (LcF.map fun x m => h x (.tail _ m))
theorem LcF.app {t : GTg} {el : GE} {ρ : En} {n : Nat} {xs ys xs' ys' : List DV} (h : LcF t el ρ n xs ys) (h' : LcF t el ρ n xs' ys') : LcF t el ρ n (xs ++ xs') (ys ++ ys') := by
  induction h with
  | nil => exact h'
  | cons a _ ih => exact .cons a ih
theorem lcR_ok {t : GTg} {el : GE} {ρ : En} (s : Sto) {xs ys : List DV} (h : LcF t el ρ s.length xs ys) : ∀ acc : List DV, acc.length + xs.length ≤ sizeLine → lcR t gYes el ρ s.length xs (s ++ [some (.lst acc)]) = some (s ++ [some (.lst (acc ++ ys))]) := by
  induction h with
  | nil => intro acc _; rw [lcR, List.append_nil]
  | @cons x y xs ys e _ ih =>
    intro acc hl
    obtain ⟨ρ1, e1, e2⟩ := e
    rw [List.length_cons] at hl
    have e3 := e2 (s ++ [some (.lst acc)]) (by simp)
    have e4 : (s ++ [some (MO.lst acc)])[s.length]? = some (some (MO.lst acc)) := by simp
    have e5 : (s ++ [some (MO.lst acc)]).set s.length (some (MO.lst (acc ++ [y]))) = s ++ [some (MO.lst (acc ++ [y]))] := by simp [List.set_append]
    have e6 : decide (acc.length < sizeLine) = true := decide_eq_true (by omega)
    have e7 := ih (acc ++ [y]) (by rw [List.length_append, List.length_cons, List.length_nil]; omega)
    rw [List.append_assoc] at e7
    rw [lcR, e1]
    show (match el ρ1 (s ++ [some (MO.lst acc)]) with
        | .ok y s2 => match s2[s.length]? with
          | some (some (.lst acc)) => match decide (acc.length < sizeLine) with
            | true => lcR t gYes el ρ s.length xs (s2.set s.length (some (.lst (acc ++ [y]))))
            | false => none
          | _ => none
        | _ => none) = _
    rw [e3]
    simp only [e4, e6, e5]
    exact e7
theorem lcEnd_ok (s : Sto) {ys : List DV} (hb : bels s.length ys = true) : lcEnd s (s ++ [some (.lst ys)]) = .ok (.lst ys) s := by
  unfold lcEnd
  have e4 : (s ++ [some (MO.lst ys)])[s.length]? = some (some (MO.lst ys)) := by simp
  have e5 : (s ++ [some (MO.lst ys)]).set s.length none = s ++ [none] := by simp [List.set_append]
  simp only [e4, e5, hb, cutOk_app, Bool.and_self, List.take_left]
theorem gLc_ok {ge : GE} {t : GTg} {vs : List Nat} {el : GE} {ρ : En} {s : Sto} {d : DV} {xs ys : List DV} (hg : ge ρ s = .ok d s) (hx : seqT d = some xs) (hz : xs.length ≤ sizeLine) (h : LcF t el (wipeD ρ vs) s.length xs ys) (hb : bels s.length ys = true) :
    gLc ge t vs gYes el ρ s = .ok (.lst ys) s := by
  unfold gLc
  have e := lcR_ok s h [] (by rw [List.length_nil]; omega)
  rw [hg]
  simp only [R.bind_ok, hx, e, List.nil_append]
  exact lcEnd_ok s hb
theorem gLz_ok {gl : GL} {t : GTg} {vs : List Nat} {el : GE} {ρ : En} {s : Sto} {da db : DV} {xs xs' ys : List DV} (hg : gl ρ s = .ok [da, db] s) (hx : seqsL da db = some (xs, xs')) (hz : (zipD xs xs').length ≤ sizeLine) (h : LcF t el (wipeD ρ vs) s.length (zipD xs xs') ys) (hb : bels s.length ys = true) :
    gLz gl t vs gYes el ρ s = .ok (.lst ys) s := by
  unfold gLz
  have e := lcR_ok s h [] (by rw [List.length_nil]; omega)
  rw [hg]
  simp only [R.bind_ok, hx, e, List.nil_append]
  exact lcEnd_ok s hb
theorem bels_app {m : Nat} : ∀ {xs ys : List DV}, bels m (xs ++ ys) = (bels m xs && bels m ys)
  | [], ys => by simp [bels]
  | x :: xs, ys => by simp only [List.cons_append, bels, bels_app (xs := xs), Bool.and_assoc]
theorem bels_rep {m : Nat} {d : DV} (h : bel m d = true) : ∀ n, bels m (List.replicate n d) = true
  | 0 => by simp [bels]
  | n + 1 => by rw [List.replicate_succ]; unfold bels; rw [h, bels_rep h n]; rfl
/-- constants and sequences of such, at most n deep -/
def plain : Nat → DV → Bool
  | _, .non => true
  | _, .bl _ => true
  | _, .int _ => true
  | _, .str x => SeqAt.shaped (.str x)
  | n + 1, .lst xs => decide (xs.length ≤ 64) && xs.all (plain n)
  | n + 1, .tup xs => decide (xs.length ≤ 64) && xs.all (plain n)
  | _, _ => false
mutual
theorem bel_plain {m : Nat} : ∀ {n : Nat} (d : DV), plain n d = true → bel m d = true
  | _, .non, _ => by unfold bel; rfl
  | _, .bl _, _ => by unfold bel; rfl
  | _, .int _, _ => by unfold bel; rfl
  | _, .str _, _ => by unfold bel; rfl
  | 0, .lst _, h => nomatch h
  | 0, .tup _, h => nomatch h
  | n + 1, .lst xs, h => by
    unfold plain at h
    rw [Bool.and_eq_true] at h
    unfold bel
    exact bels_plain xs h.2
  | n + 1, .tup xs, h => by
    unfold plain at h
    rw [Bool.and_eq_true] at h
    unfold bel
    exact bels_plain xs h.2
  | 0, .wl _, h => nomatch h
  | 0, .ins _ _ _, h => nomatch h
  | 0, .mr _, h => nomatch h
  | 0, .exn _ _ _, h => nomatch h
  | _ + 1, .wl _, h => nomatch h
  | _ + 1, .ins _ _ _, h => nomatch h
  | _ + 1, .mr _, h => nomatch h
  | _ + 1, .exn _ _ _, h => nomatch h
theorem bels_plain {m : Nat} : ∀ {n : Nat} (xs : List DV), xs.all (plain n) = true → bels m xs = true
  | _, [], _ => by unfold bels; rfl
  | n, x :: xs, h => by
    rw [List.all_cons, Bool.and_eq_true] at h
    unfold bels
    rw [bel_plain x h.1, bels_plain xs h.2]
    rfl
end
theorem zipD_self : ∀ xs : List DV, zipD xs xs = xs.map fun x => .tup [x, x]
  | [] => by unfold zipD; rfl
  | x :: xs => by unfold zipD; rw [zipD_self xs]; rfl
@[simp] theorem blsD_rep (b : Bool) : ∀ n, blsD (List.replicate n (.bl b)) = some (List.replicate n b)
  | 0 => rfl
  | n + 1 => by
    show (match blsD (List.replicate n (.bl b)) with | some bs => some (b :: bs) | none => none) = _
    rw [blsD_rep b n]
    rfl
theorem allD_rep (n : Nat) (s : Sto) : allD [.lst (List.replicate n (.bl true))] s = .ok (.bl true) s := by
  show (match blsD (List.replicate n (.bl true)) with
      | some bs => R.ok (DV.bl (bs.all id)) s
      | none => .bad) = _
  rw [blsD_rep]
  simp
theorem run_rt {N n : Nat} {b : GS} {ds : List DV} {s s' : Sto} {d : DV} (hn : ds.length = n) (h : b (ds.map some ++ List.replicate (N - n) none) s = .rt d s') (hl : s'.length = s.length) : run N n b ds s = .ok d s' := by
  unfold run
  rw [decide_eq_true hn]
  simp only
  rw [h]
  exact fin_same _ _ _ hl
theorem seq_nx {a b : GS} {ρ ρ' : En} {s s' : Sto} (h : a ρ s = .nx ρ' s') : gSeq a b ρ s = b ρ' s' := by
  show RS.seq (a ρ s) b = _
  rw [h]
  rfl
end Dq

/-! The defs of the row gustfloor_k09_errors_by_themselves by data; printed by a program. -/
namespace Row
open PySem PySem.Spec PyProof.Rows L2 Dq
def top (i : Nat) : Stmt := PySem.Challenge.pw_gustfloor_k09_errors_by_themselves.main.body.getD i (.Pass ⟨0, 0, 0, 0⟩)
def NM : List Str := (["given", "code", "line", "name", "at", "side", "most", "one", "other", "corner", "value", "index"] : List Str)
theorem NM1 : NM.Nodup := by decide +kernel
theorem NM2 : NM.all (fun x => !(x.cps.size == 1)) = true := by decide +kernel
def cAd (K : PySem.W.Frag) : Nat → Addr
  | 0 => He.ga K "GustError"
  | 1 => He.ga K "InvalidRatio"
  | 2 => He.ga K "InvalidSpan"
  | 3 => He.ga K "InvalidText"
  | 4 => He.ga K "InvalidName"
  | 5 => He.ga K "DuplicateName"
  | 6 => He.ga K "InvalidCorners"
  | 7 => He.ga K "NotConvex"
  | 8 => He.ga K "InvalidWinds"
  | 9 => He.ga K "SplitSide"
  | 10 => He.ga K "InvalidTiles"
  | 11 => He.ga K "TooMany"
  | 12 => He.ga K "Overlap"
  | 13 => He.ga K "LooseCorner"
  | 14 => He.ga K "InvalidWall"
  | 15 => He.ga K "InvalidChord"
  | 16 => He.ga K "NotJoined"
  | 17 => He.ga K "MarkedSide"
  | 18 => He.ga K "InvalidPlace"
  | 19 => He.ga K "InvalidRound"
  | 20 => He.ga K "InvalidCount"
  | 21 => He.ga K "TooFar"
  | 22 => He.ga K "InvalidDeed"
  | 23 => He.ga K "InvalidLimit"
  | 24 => He.ga K "Missing"
  | 25 => He.ga K "UnknownTile"
  | 26 => He.ga K "UnknownSide"
  | 27 => He.ga K "UnknownMark"
  | 28 => He.ga K "NothingLeft"
  | _ => 0
abbrev pg (K : PySem.W.Frag) : Pg := ⟨K, cAd K, nmOf NM, nmOf_inj NM1 NM2⟩
def pga (K : PySem.W.Frag) (a : Addr) : Addr := match PySem.W.recIn K a "property" with
  | some (.ref g :: _) => g
  | _ => 0
def isi_GustError : Ty → Option Bool
  | .bi n => (([("NoneType", false), ("bool", false), ("int", false), ("str", false), ("list", false), ("tuple", false)] : List (String × Bool)).lookup n)
  | .own c => (([] : List (Nat × Bool)).lookup c)
def isi_IndexError : Ty → Option Bool
  | .bi n => (([("NoneType", false), ("bool", false), ("int", false), ("str", false), ("list", false), ("tuple", false)] : List (String × Bool)).lookup n)
  | .own c => (([] : List (Nat × Bool)).lookup c)
def isi_InvalidName : Ty → Option Bool
  | .bi n => (([("NoneType", false), ("bool", false), ("int", false), ("str", false), ("list", false), ("tuple", false)] : List (String × Bool)).lookup n)
  | .own c => (([] : List (Nat × Bool)).lookup c)
def isi_InvalidPlace : Ty → Option Bool
  | .bi n => (([("NoneType", false), ("bool", false), ("int", false), ("str", false), ("list", false), ("tuple", false)] : List (String × Bool)).lookup n)
  | .own c => (([] : List (Nat × Bool)).lookup c)
def isi_InvalidSpan : Ty → Option Bool
  | .bi n => (([("NoneType", false), ("bool", false), ("int", false), ("str", false), ("list", false), ("tuple", false)] : List (String × Bool)).lookup n)
  | .own c => (([] : List (Nat × Bool)).lookup c)
def isi_InvalidText : Ty → Option Bool
  | .bi n => (([("NoneType", false), ("bool", false), ("int", false), ("str", false), ("list", false), ("tuple", false)] : List (String × Bool)).lookup n)
  | .own c => (([] : List (Nat × Bool)).lookup c)
def isi_InvalidWall : Ty → Option Bool
  | .bi n => (([("NoneType", false), ("bool", false), ("int", false), ("str", false), ("list", false), ("tuple", false)] : List (String × Bool)).lookup n)
  | .own c => (([] : List (Nat × Bool)).lookup c)
def isi_LookupError : Ty → Option Bool
  | .bi n => (([("NoneType", false), ("bool", false), ("int", false), ("str", false), ("list", false), ("tuple", false)] : List (String × Bool)).lookup n)
  | .own c => (([] : List (Nat × Bool)).lookup c)
def isi_Missing : Ty → Option Bool
  | .bi n => (([("NoneType", false), ("bool", false), ("int", false), ("str", false), ("list", false), ("tuple", false)] : List (String × Bool)).lookup n)
  | .own c => (([] : List (Nat × Bool)).lookup c)
def isi_TooMany : Ty → Option Bool
  | .bi n => (([("NoneType", false), ("bool", false), ("int", false), ("str", false), ("list", false), ("tuple", false)] : List (String × Bool)).lookup n)
  | .own c => (([] : List (Nat × Bool)).lookup c)
def isi_UnknownMark : Ty → Option Bool
  | .bi n => (([("NoneType", false), ("bool", false), ("int", false), ("str", false), ("list", false), ("tuple", false)] : List (String × Bool)).lookup n)
  | .own c => (([] : List (Nat × Bool)).lookup c)
def isi_ValueError : Ty → Option Bool
  | .bi n => (([("NoneType", false), ("bool", false), ("int", false), ("str", false), ("list", false), ("tuple", false)] : List (String × Bool)).lookup n)
  | .own c => (([] : List (Nat × Bool)).lookup c)
def isi_bool : Ty → Option Bool
  | .bi n => (([("NoneType", false), ("bool", true), ("int", false), ("str", false), ("list", false), ("tuple", false)] : List (String × Bool)).lookup n)
  | .own c => (([] : List (Nat × Bool)).lookup c)
def isi_int : Ty → Option Bool
  | .bi n => (([("NoneType", false), ("bool", true), ("int", true), ("str", false), ("list", false), ("tuple", false)] : List (String × Bool)).lookup n)
  | .own c => (([] : List (Nat × Bool)).lookup c)
def isi_list : Ty → Option Bool
  | .bi n => (([("NoneType", false), ("bool", false), ("int", false), ("str", false), ("list", true), ("tuple", false)] : List (String × Bool)).lookup n)
  | .own c => (([] : List (Nat × Bool)).lookup c)
def isi_str : Ty → Option Bool
  | .bi n => (([("NoneType", false), ("bool", false), ("int", false), ("str", true), ("list", false), ("tuple", false)] : List (String × Bool)).lookup n)
  | .own c => (([] : List (Nat × Bool)).lookup c)
def isi_tuple : Ty → Option Bool
  | .bi n => (([("NoneType", false), ("bool", false), ("int", false), ("str", false), ("list", false), ("tuple", true)] : List (String × Bool)).lookup n)
  | .own c => (([] : List (Nat × Bool)).lookup c)
def FILE : Str := "/claim/cut.py"
def tabx_GustError : List (Nat × Bool) := [(1, true), (2, true), (3, true), (4, true), (5, true), (6, true), (7, true), (8, true), (9, true), (10, true), (11, true), (12, true), (13, true), (14, true), (15, true), (16, true), (17, true), (18, true), (19, true), (20, true), (21, true), (22, true), (23, true), (25, false), (26, false), (27, false), (28, false)]
def isx_GustError (c : Nat) : Option Bool := tabx_GustError.lookup c
def tabx_IndexError : List (Nat × Bool) := [(1, false), (2, false), (3, false), (4, false), (5, false), (6, false), (7, false), (8, false), (9, false), (10, false), (11, false), (12, false), (13, false), (14, false), (15, false), (16, false), (17, false), (18, false), (19, false), (20, false), (21, false), (22, false), (23, false), (25, false), (26, false), (27, false), (28, true)]
def isx_IndexError (c : Nat) : Option Bool := tabx_IndexError.lookup c
def tabx_InvalidName : List (Nat × Bool) := [(1, false), (2, false), (3, false), (4, true), (5, false), (6, false), (7, false), (8, false), (9, false), (10, false), (11, false), (12, false), (13, false), (14, false), (15, false), (16, false), (17, false), (18, false), (19, false), (20, false), (21, false), (22, false), (23, false), (25, false), (26, false), (27, false), (28, false)]
def isx_InvalidName (c : Nat) : Option Bool := tabx_InvalidName.lookup c
def tabx_InvalidPlace : List (Nat × Bool) := [(1, false), (2, false), (3, false), (4, false), (5, false), (6, false), (7, false), (8, false), (9, false), (10, false), (11, false), (12, false), (13, false), (14, false), (15, false), (16, false), (17, false), (18, true), (19, false), (20, false), (21, false), (22, false), (23, false), (25, false), (26, false), (27, false), (28, false)]
def isx_InvalidPlace (c : Nat) : Option Bool := tabx_InvalidPlace.lookup c
def tabx_InvalidSpan : List (Nat × Bool) := [(1, false), (2, true), (3, false), (4, false), (5, false), (6, false), (7, false), (8, false), (9, false), (10, false), (11, false), (12, false), (13, false), (14, false), (15, false), (16, false), (17, false), (18, false), (19, false), (20, false), (21, false), (22, false), (23, false), (25, false), (26, false), (27, false), (28, false)]
def isx_InvalidSpan (c : Nat) : Option Bool := tabx_InvalidSpan.lookup c
def tabx_InvalidText : List (Nat × Bool) := [(1, false), (2, false), (3, true), (4, false), (5, false), (6, false), (7, false), (8, false), (9, false), (10, false), (11, false), (12, false), (13, false), (14, false), (15, false), (16, false), (17, false), (18, false), (19, false), (20, false), (21, false), (22, false), (23, false), (25, false), (26, false), (27, false), (28, false)]
def isx_InvalidText (c : Nat) : Option Bool := tabx_InvalidText.lookup c
def tabx_InvalidWall : List (Nat × Bool) := [(1, false), (2, false), (3, false), (4, false), (5, false), (6, false), (7, false), (8, false), (9, false), (10, false), (11, false), (12, false), (13, false), (14, true), (15, false), (16, false), (17, false), (18, false), (19, false), (20, false), (21, false), (22, false), (23, false), (25, false), (26, false), (27, false), (28, false)]
def isx_InvalidWall (c : Nat) : Option Bool := tabx_InvalidWall.lookup c
def tabx_LookupError : List (Nat × Bool) := [(1, false), (2, false), (3, false), (4, false), (5, false), (6, false), (7, false), (8, false), (9, false), (10, false), (11, false), (12, false), (13, false), (14, false), (15, false), (16, false), (17, false), (18, false), (19, false), (20, false), (21, false), (22, false), (23, false), (25, true), (26, true), (27, true), (28, true)]
def isx_LookupError (c : Nat) : Option Bool := tabx_LookupError.lookup c
def tabx_Missing : List (Nat × Bool) := [(1, false), (2, false), (3, false), (4, false), (5, false), (6, false), (7, false), (8, false), (9, false), (10, false), (11, false), (12, false), (13, false), (14, false), (15, false), (16, false), (17, false), (18, false), (19, false), (20, false), (21, false), (22, false), (23, false), (25, true), (26, true), (27, true), (28, false)]
def isx_Missing (c : Nat) : Option Bool := tabx_Missing.lookup c
def tabx_TooMany : List (Nat × Bool) := [(1, false), (2, false), (3, false), (4, false), (5, false), (6, false), (7, false), (8, false), (9, false), (10, false), (11, true), (12, false), (13, false), (14, false), (15, false), (16, false), (17, false), (18, false), (19, false), (20, false), (21, false), (22, false), (23, false), (25, false), (26, false), (27, false), (28, false)]
def isx_TooMany (c : Nat) : Option Bool := tabx_TooMany.lookup c
def tabx_UnknownMark : List (Nat × Bool) := [(1, false), (2, false), (3, false), (4, false), (5, false), (6, false), (7, false), (8, false), (9, false), (10, false), (11, false), (12, false), (13, false), (14, false), (15, false), (16, false), (17, false), (18, false), (19, false), (20, false), (21, false), (22, false), (23, false), (25, false), (26, false), (27, true), (28, false)]
def isx_UnknownMark (c : Nat) : Option Bool := tabx_UnknownMark.lookup c
def tabx_ValueError : List (Nat × Bool) := [(1, true), (2, true), (3, true), (4, true), (5, true), (6, true), (7, true), (8, true), (9, true), (10, true), (11, true), (12, true), (13, true), (14, true), (15, true), (16, true), (17, true), (18, true), (19, true), (20, true), (21, true), (22, true), (23, true), (25, false), (26, false), (27, false), (28, false)]
def isx_ValueError (c : Nat) : Option Bool := tabx_ValueError.lookup c
def tabf_at : List Nat := [6, 10]
def fx_at (c : Nat) : Bool := tabf_at.contains c
def tabf_code : List Nat := [1, 2, 3, 4, 5, 6, 7, 8, 9, 10, 11, 12, 13, 14, 15, 16, 17, 18, 19, 20, 21, 22, 23, 25, 26, 27, 28]
def fx_code (c : Nat) : Bool := tabf_code.contains c
def tabf_corner : List Nat := [13]
def fx_corner (c : Nat) : Bool := tabf_corner.contains c
def tabf_given : List Nat := [1, 2, 20, 23]
def fx_given (c : Nat) : Bool := tabf_given.contains c
def tabf_index : List Nat := [22]
def fx_index (c : Nat) : Bool := tabf_index.contains c
def tabf_line : List Nat := [3]
def fx_line (c : Nat) : Bool := tabf_line.contains c
def tabf_most : List Nat := [11, 21]
def fx_most (c : Nat) : Bool := tabf_most.contains c
def tabf_name : List Nat := [4, 5, 25, 27]
def fx_name (c : Nat) : Bool := tabf_name.contains c
def tabf_one : List Nat := [12, 15, 16]
def fx_one (c : Nat) : Bool := tabf_one.contains c
def tabf_other : List Nat := [12, 15, 16]
def fx_other (c : Nat) : Bool := tabf_other.contains c
def tabf_side : List Nat := [9, 14, 17, 26]
def fx_side (c : Nat) : Bool := tabf_side.contains c
def tabf_value : List Nat := [18, 19]
def fx_value (c : Nat) : Bool := tabf_value.contains c
def propB (K : PySem.W.Frag) (C : Addr) (f : Str) : Bool := decide (PySem.W.findIn K (.ref C) f = some (some (.ref (He.ma K C f)))) && (decide (PySem.W.specialIn K (.ref (He.ma K C f)) "__get__" = some (some (.builtin "property.__get__"))) && (decide (PySem.W.takesIn K (.ref (He.ma K C f)) = some true) && (match PySem.W.recIn K (He.ma K C f) "property" with
  | some (.ref _ :: _) => true
  | _ => false)))
theorem prop_ok {K : PySem.W.Frag} {C : Addr} {f : Str} (h : propB K C f = true) : PropOf K C f (He.ma K C f) (pga K (He.ma K C f)) := by
  unfold propB at h
  rw [Bool.and_eq_true, Bool.and_eq_true, Bool.and_eq_true] at h
  obtain ⟨h1, h2, h3, h4⟩ := h
  refine ⟨of_decide_eq_true h1, of_decide_eq_true h2, of_decide_eq_true h3, ?_⟩
  unfold pga
  split at h4
  · rename_i g r e
    exact ⟨r, by rw [e]⟩
  · cases h4
def specB (K : PySem.W.Frag) (C : Addr) (f : Str) : Bool := decide (PySem.W.findIn K (.ref C) f = some (some (.ref (He.ma K C f)))) && PySem.W.isFn K (.ref (He.ma K C f))
theorem spec_ok {K : PySem.W.Frag} {C : Addr} {f : Str} (h : specB K C f = true) : PySem.W.findIn K (.ref C) f = some (some (.ref (He.ma K C f))) ∧ PySem.W.isFn K (.ref (He.ma K C f)) = true := by
  unfold specB at h
  rw [Bool.and_eq_true] at h
  exact ⟨of_decide_eq_true h.1, h.2⟩
def iscB (K : PySem.W.Frag) (C : Addr) : Bool := decide (PySem.W.findIn K (.ref C) "__class__" = some (some (.builtin "object.__class__"))) && (decide (PySem.W.specialIn K (.builtin "object.__class__") "__get__" = some (some (.builtin "getset_descriptor.__get__"))) && (decide (PySem.W.takesIn K (.builtin "object.__class__") = some true) && decide (PySem.W.mroIn K C (.type "object") = some true)))
theorem isc_ok {K : PySem.W.Frag} {c : Nat} {x : Str} (h0 : (He.Fa.cls x).ok K = true) (h : iscB K (He.ga K x) = true) (e : (pg K).cA c = He.ga K x := by rfl) : IsC (pg K) K c := by
  unfold iscB at h
  rw [Bool.and_eq_true, Bool.and_eq_true, Bool.and_eq_true] at h
  obtain ⟨h1, h2, h3, h4⟩ := h
  exact ⟨by rw [e]; exact He.cls_ok h0, by rw [e]; exact of_decide_eq_true h1, of_decide_eq_true h2, of_decide_eq_true h3, by rw [e]; exact of_decide_eq_true h4⟩
def facts (K : PySem.W.Frag) : List Bool := [
  (tabf_at.all fun c => excCB K (cAd K c) && decide (PySem.W.findIn K (.ref (cAd K c)) "at" = some none)),
  (tabf_code.all fun c => excCB K (cAd K c) && decide (PySem.W.findIn K (.ref (cAd K c)) "code" = some none)),
  (tabf_corner.all fun c => excCB K (cAd K c) && decide (PySem.W.findIn K (.ref (cAd K c)) "corner" = some none)),
  (tabf_given.all fun c => excCB K (cAd K c) && decide (PySem.W.findIn K (.ref (cAd K c)) "given" = some none)),
  (tabf_index.all fun c => excCB K (cAd K c) && decide (PySem.W.findIn K (.ref (cAd K c)) "index" = some none)),
  (tabf_line.all fun c => excCB K (cAd K c) && decide (PySem.W.findIn K (.ref (cAd K c)) "line" = some none)),
  (tabf_most.all fun c => excCB K (cAd K c) && decide (PySem.W.findIn K (.ref (cAd K c)) "most" = some none)),
  (tabf_name.all fun c => excCB K (cAd K c) && decide (PySem.W.findIn K (.ref (cAd K c)) "name" = some none)),
  (tabf_one.all fun c => excCB K (cAd K c) && decide (PySem.W.findIn K (.ref (cAd K c)) "one" = some none)),
  (tabf_other.all fun c => excCB K (cAd K c) && decide (PySem.W.findIn K (.ref (cAd K c)) "other" = some none)),
  (tabf_side.all fun c => excCB K (cAd K c) && decide (PySem.W.findIn K (.ref (cAd K c)) "side" = some none)),
  (tabf_value.all fun c => excCB K (cAd K c) && decide (PySem.W.findIn K (.ref (cAd K c)) "value" = some none)),
  (He.Fa.glo "DuplicateName").ok K,
  (He.Fa.glo "GustError").ok K,
  (He.Fa.glo "InvalidChord").ok K,
  (He.Fa.glo "InvalidCorners").ok K,
  (He.Fa.glo "InvalidCount").ok K,
  (He.Fa.glo "InvalidDeed").ok K,
  (He.Fa.glo "InvalidLimit").ok K,
  (He.Fa.glo "InvalidName").ok K,
  (He.Fa.glo "InvalidPlace").ok K,
  (He.Fa.glo "InvalidRatio").ok K,
  (He.Fa.glo "InvalidRound").ok K,
  (He.Fa.glo "InvalidSpan").ok K,
  (He.Fa.glo "InvalidText").ok K,
  (He.Fa.glo "InvalidTiles").ok K,
  (He.Fa.glo "InvalidWall").ok K,
  (He.Fa.glo "InvalidWinds").ok K,
  (He.Fa.glo "LooseCorner").ok K,
  (He.Fa.glo "MarkedSide").ok K,
  (He.Fa.glo "Missing").ok K,
  (He.Fa.glo "NotConvex").ok K,
  (He.Fa.glo "NotJoined").ok K,
  (He.Fa.glo "NothingLeft").ok K,
  (He.Fa.glo "Overlap").ok K,
  (He.Fa.glo "SplitSide").ok K,
  (He.Fa.glo "TooFar").ok K,
  (He.Fa.glo "TooMany").ok K,
  (He.Fa.glo "UnknownMark").ok K,
  (He.Fa.glo "UnknownSide").ok K,
  (He.Fa.glo "UnknownTile").ok K,
  (He.Fa.glo "_law_errors_so").ok K,
  (He.Fa.glo "_law_fields").ok K,
  (He.Fa.glo "_law_kinds_apart").ok K,
  (He.Fa.glo "_law_pick").ok K,
  (He.Fa.glo "_law_pull").ok K,
  (He.Fa.glo "_law_same").ok K,
  (He.Fa.glo "_law_sort").ok K,
  (He.Fa.glo "_law_start").ok K,
  (He.Fa.glo "_law_stray").ok K,
  (He.Fa.glo "law").ok K,
  (tabx_GustError.all fun q => decide (PySem.W.kitOne K (.ref (cAd K q.1)) (.ref (He.ga K "GustError")) = some q.2) && excCB K (cAd K q.1)),
  (tabx_IndexError.all fun q => decide (PySem.W.kitOne K (.ref (cAd K q.1)) (.type "IndexError") = some q.2) && excCB K (cAd K q.1)),
  (tabx_InvalidName.all fun q => decide (PySem.W.kitOne K (.ref (cAd K q.1)) (.ref (He.ga K "InvalidName")) = some q.2) && excCB K (cAd K q.1)),
  (tabx_InvalidPlace.all fun q => decide (PySem.W.kitOne K (.ref (cAd K q.1)) (.ref (He.ga K "InvalidPlace")) = some q.2) && excCB K (cAd K q.1)),
  (tabx_InvalidSpan.all fun q => decide (PySem.W.kitOne K (.ref (cAd K q.1)) (.ref (He.ga K "InvalidSpan")) = some q.2) && excCB K (cAd K q.1)),
  (tabx_InvalidText.all fun q => decide (PySem.W.kitOne K (.ref (cAd K q.1)) (.ref (He.ga K "InvalidText")) = some q.2) && excCB K (cAd K q.1)),
  (tabx_InvalidWall.all fun q => decide (PySem.W.kitOne K (.ref (cAd K q.1)) (.ref (He.ga K "InvalidWall")) = some q.2) && excCB K (cAd K q.1)),
  (tabx_LookupError.all fun q => decide (PySem.W.kitOne K (.ref (cAd K q.1)) (.type "LookupError") = some q.2) && excCB K (cAd K q.1)),
  (tabx_Missing.all fun q => decide (PySem.W.kitOne K (.ref (cAd K q.1)) (.ref (He.ga K "Missing")) = some q.2) && excCB K (cAd K q.1)),
  (tabx_TooMany.all fun q => decide (PySem.W.kitOne K (.ref (cAd K q.1)) (.ref (He.ga K "TooMany")) = some q.2) && excCB K (cAd K q.1)),
  (tabx_UnknownMark.all fun q => decide (PySem.W.kitOne K (.ref (cAd K q.1)) (.ref (He.ga K "UnknownMark")) = some q.2) && excCB K (cAd K q.1)),
  (tabx_ValueError.all fun q => decide (PySem.W.kitOne K (.ref (cAd K q.1)) (.type "ValueError") = some q.2) && excCB K (cAd K q.1)),
  PySem.W.keepIn K (.ref (He.ga K "_law_errors_so")),
  PySem.W.keepIn K (.ref (He.ga K "_law_fields")),
  PySem.W.keepIn K (.ref (He.ga K "_law_kinds_apart")),
  PySem.W.keepIn K (.ref (He.ga K "_law_pick")),
  PySem.W.keepIn K (.ref (He.ga K "_law_pull")),
  PySem.W.keepIn K (.ref (He.ga K "_law_same")),
  PySem.W.keepIn K (.ref (He.ga K "_law_sort")),
  PySem.W.keepIn K (.ref (He.ga K "_law_start")),
  PySem.W.keepIn K (.ref (He.ga K "_law_stray")),
  decide (PySem.W.takerIn K (He.ga K "DuplicateName") "code" = some none),
  decide (PySem.W.takerIn K (He.ga K "DuplicateName") "name" = some none),
  decide (PySem.W.takerIn K (He.ga K "InvalidChord") "code" = some none),
  decide (PySem.W.takerIn K (He.ga K "InvalidChord") "one" = some none),
  decide (PySem.W.takerIn K (He.ga K "InvalidChord") "other" = some none),
  decide (PySem.W.takerIn K (He.ga K "InvalidCorners") "at" = some none),
  decide (PySem.W.takerIn K (He.ga K "InvalidCorners") "code" = some none),
  decide (PySem.W.takerIn K (He.ga K "InvalidCount") "code" = some none),
  decide (PySem.W.takerIn K (He.ga K "InvalidCount") "given" = some none),
  decide (PySem.W.takerIn K (He.ga K "InvalidDeed") "code" = some none),
  decide (PySem.W.takerIn K (He.ga K "InvalidDeed") "index" = some none),
  decide (PySem.W.takerIn K (He.ga K "InvalidLimit") "code" = some none),
  decide (PySem.W.takerIn K (He.ga K "InvalidLimit") "given" = some none),
  decide (PySem.W.takerIn K (He.ga K "InvalidName") "code" = some none),
  decide (PySem.W.takerIn K (He.ga K "InvalidName") "name" = some none),
  decide (PySem.W.takerIn K (He.ga K "InvalidPlace") "code" = some none),
  decide (PySem.W.takerIn K (He.ga K "InvalidPlace") "value" = some none),
  decide (PySem.W.takerIn K (He.ga K "InvalidRatio") "code" = some none),
  decide (PySem.W.takerIn K (He.ga K "InvalidRatio") "given" = some none),
  decide (PySem.W.takerIn K (He.ga K "InvalidRound") "code" = some none),
  decide (PySem.W.takerIn K (He.ga K "InvalidRound") "value" = some none),
  decide (PySem.W.takerIn K (He.ga K "InvalidSpan") "code" = some none),
  decide (PySem.W.takerIn K (He.ga K "InvalidSpan") "given" = some none),
  decide (PySem.W.takerIn K (He.ga K "InvalidText") "code" = some none),
  decide (PySem.W.takerIn K (He.ga K "InvalidText") "line" = some none),
  decide (PySem.W.takerIn K (He.ga K "InvalidTiles") "at" = some none),
  decide (PySem.W.takerIn K (He.ga K "InvalidTiles") "code" = some none),
  decide (PySem.W.takerIn K (He.ga K "InvalidWall") "code" = some none),
  decide (PySem.W.takerIn K (He.ga K "InvalidWall") "side" = some none),
  decide (PySem.W.takerIn K (He.ga K "InvalidWinds") "code" = some none),
  decide (PySem.W.takerIn K (He.ga K "LooseCorner") "code" = some none),
  decide (PySem.W.takerIn K (He.ga K "LooseCorner") "corner" = some none),
  decide (PySem.W.takerIn K (He.ga K "MarkedSide") "code" = some none),
  decide (PySem.W.takerIn K (He.ga K "MarkedSide") "side" = some none),
  decide (PySem.W.takerIn K (He.ga K "NotConvex") "code" = some none),
  decide (PySem.W.takerIn K (He.ga K "NotJoined") "code" = some none),
  decide (PySem.W.takerIn K (He.ga K "NotJoined") "one" = some none),
  decide (PySem.W.takerIn K (He.ga K "NotJoined") "other" = some none),
  decide (PySem.W.takerIn K (He.ga K "NothingLeft") "code" = some none),
  decide (PySem.W.takerIn K (He.ga K "Overlap") "code" = some none),
  decide (PySem.W.takerIn K (He.ga K "Overlap") "one" = some none),
  decide (PySem.W.takerIn K (He.ga K "Overlap") "other" = some none),
  decide (PySem.W.takerIn K (He.ga K "SplitSide") "code" = some none),
  decide (PySem.W.takerIn K (He.ga K "SplitSide") "side" = some none),
  decide (PySem.W.takerIn K (He.ga K "TooFar") "code" = some none),
  decide (PySem.W.takerIn K (He.ga K "TooFar") "most" = some none),
  decide (PySem.W.takerIn K (He.ga K "TooMany") "code" = some none),
  decide (PySem.W.takerIn K (He.ga K "TooMany") "most" = some none),
  decide (PySem.W.takerIn K (He.ga K "UnknownMark") "code" = some none),
  decide (PySem.W.takerIn K (He.ga K "UnknownMark") "name" = some none),
  decide (PySem.W.takerIn K (He.ga K "UnknownSide") "code" = some none),
  decide (PySem.W.takerIn K (He.ga K "UnknownSide") "side" = some none),
  decide (PySem.W.takerIn K (He.ga K "UnknownTile") "code" = some none),
  decide (PySem.W.takerIn K (He.ga K "UnknownTile") "name" = some none),
  xcB K (He.ga K "DuplicateName") "ValueError" "ValueError.__new__" "ValueError.__init__" [.type "ValueError", .type "Exception", .type "BaseException", .type "object"],
  xcB K (He.ga K "InvalidChord") "ValueError" "ValueError.__new__" "ValueError.__init__" [.type "ValueError", .type "Exception", .type "BaseException", .type "object"],
  xcB K (He.ga K "InvalidCorners") "ValueError" "ValueError.__new__" "ValueError.__init__" [.type "ValueError", .type "Exception", .type "BaseException", .type "object"],
  xcB K (He.ga K "InvalidCount") "ValueError" "ValueError.__new__" "ValueError.__init__" [.type "ValueError", .type "Exception", .type "BaseException", .type "object"],
  xcB K (He.ga K "InvalidDeed") "ValueError" "ValueError.__new__" "ValueError.__init__" [.type "ValueError", .type "Exception", .type "BaseException", .type "object"],
  xcB K (He.ga K "InvalidLimit") "ValueError" "ValueError.__new__" "ValueError.__init__" [.type "ValueError", .type "Exception", .type "BaseException", .type "object"],
  xcB K (He.ga K "InvalidName") "ValueError" "ValueError.__new__" "ValueError.__init__" [.type "ValueError", .type "Exception", .type "BaseException", .type "object"],
  xcB K (He.ga K "InvalidPlace") "ValueError" "ValueError.__new__" "ValueError.__init__" [.type "ValueError", .type "Exception", .type "BaseException", .type "object"],
  xcB K (He.ga K "InvalidRatio") "ValueError" "ValueError.__new__" "ValueError.__init__" [.type "ValueError", .type "Exception", .type "BaseException", .type "object"],
  xcB K (He.ga K "InvalidRound") "ValueError" "ValueError.__new__" "ValueError.__init__" [.type "ValueError", .type "Exception", .type "BaseException", .type "object"],
  xcB K (He.ga K "InvalidSpan") "ValueError" "ValueError.__new__" "ValueError.__init__" [.type "ValueError", .type "Exception", .type "BaseException", .type "object"],
  xcB K (He.ga K "InvalidText") "ValueError" "ValueError.__new__" "ValueError.__init__" [.type "ValueError", .type "Exception", .type "BaseException", .type "object"],
  xcB K (He.ga K "InvalidTiles") "ValueError" "ValueError.__new__" "ValueError.__init__" [.type "ValueError", .type "Exception", .type "BaseException", .type "object"],
  xcB K (He.ga K "InvalidWall") "ValueError" "ValueError.__new__" "ValueError.__init__" [.type "ValueError", .type "Exception", .type "BaseException", .type "object"],
  xcB K (He.ga K "InvalidWinds") "ValueError" "ValueError.__new__" "ValueError.__init__" [.type "ValueError", .type "Exception", .type "BaseException", .type "object"],
  xcB K (He.ga K "LooseCorner") "ValueError" "ValueError.__new__" "ValueError.__init__" [.type "ValueError", .type "Exception", .type "BaseException", .type "object"],
  xcB K (He.ga K "MarkedSide") "ValueError" "ValueError.__new__" "ValueError.__init__" [.type "ValueError", .type "Exception", .type "BaseException", .type "object"],
  xcB K (He.ga K "NotConvex") "ValueError" "ValueError.__new__" "ValueError.__init__" [.type "ValueError", .type "Exception", .type "BaseException", .type "object"],
  xcB K (He.ga K "NotJoined") "ValueError" "ValueError.__new__" "ValueError.__init__" [.type "ValueError", .type "Exception", .type "BaseException", .type "object"],
  xcB K (He.ga K "NothingLeft") "IndexError" "IndexError.__new__" "IndexError.__init__" [.type "IndexError", .type "LookupError", .type "Exception", .type "BaseException", .type "object"],
  xcB K (He.ga K "Overlap") "ValueError" "ValueError.__new__" "ValueError.__init__" [.type "ValueError", .type "Exception", .type "BaseException", .type "object"],
  xcB K (He.ga K "SplitSide") "ValueError" "ValueError.__new__" "ValueError.__init__" [.type "ValueError", .type "Exception", .type "BaseException", .type "object"],
  xcB K (He.ga K "TooFar") "ValueError" "ValueError.__new__" "ValueError.__init__" [.type "ValueError", .type "Exception", .type "BaseException", .type "object"],
  xcB K (He.ga K "TooMany") "ValueError" "ValueError.__new__" "ValueError.__init__" [.type "ValueError", .type "Exception", .type "BaseException", .type "object"],
  xcB K (He.ga K "UnknownMark") "LookupError" "LookupError.__new__" "LookupError.__init__" [.type "LookupError", .type "Exception", .type "BaseException", .type "object"],
  xcB K (He.ga K "UnknownSide") "LookupError" "LookupError.__new__" "LookupError.__init__" [.type "LookupError", .type "Exception", .type "BaseException", .type "object"],
  xcB K (He.ga K "UnknownTile") "LookupError" "LookupError.__new__" "LookupError.__init__" [.type "LookupError", .type "Exception", .type "BaseException", .type "object"],
  xiB K (He.ma K (He.ga K "DuplicateName") "__init__") (He.ga K "DuplicateName") FILE,
  xiB K (He.ma K (He.ga K "InvalidChord") "__init__") (He.ga K "InvalidChord") FILE,
  xiB K (He.ma K (He.ga K "InvalidCorners") "__init__") (He.ga K "InvalidCorners") FILE,
  xiB K (He.ma K (He.ga K "InvalidCount") "__init__") (He.ga K "InvalidCount") FILE,
  xiB K (He.ma K (He.ga K "InvalidDeed") "__init__") (He.ga K "InvalidDeed") FILE,
  xiB K (He.ma K (He.ga K "InvalidLimit") "__init__") (He.ga K "InvalidLimit") FILE,
  xiB K (He.ma K (He.ga K "InvalidName") "__init__") (He.ga K "InvalidName") FILE,
  xiB K (He.ma K (He.ga K "InvalidPlace") "__init__") (He.ga K "InvalidPlace") FILE,
  xiB K (He.ma K (He.ga K "InvalidRatio") "__init__") (He.ga K "InvalidRatio") FILE,
  xiB K (He.ma K (He.ga K "InvalidRound") "__init__") (He.ga K "InvalidRound") FILE,
  xiB K (He.ma K (He.ga K "InvalidSpan") "__init__") (He.ga K "InvalidSpan") FILE,
  xiB K (He.ma K (He.ga K "InvalidText") "__init__") (He.ga K "InvalidText") FILE,
  xiB K (He.ma K (He.ga K "InvalidTiles") "__init__") (He.ga K "InvalidTiles") FILE,
  xiB K (He.ma K (He.ga K "InvalidWall") "__init__") (He.ga K "InvalidWall") FILE,
  xiB K (He.ma K (He.ga K "InvalidWinds") "__init__") (He.ga K "InvalidWinds") FILE,
  xiB K (He.ma K (He.ga K "LooseCorner") "__init__") (He.ga K "LooseCorner") FILE,
  xiB K (He.ma K (He.ga K "MarkedSide") "__init__") (He.ga K "MarkedSide") FILE,
  xiB K (He.ma K (He.ga K "NotConvex") "__init__") (He.ga K "NotConvex") FILE,
  xiB K (He.ma K (He.ga K "NotJoined") "__init__") (He.ga K "NotJoined") FILE,
  xiB K (He.ma K (He.ga K "NothingLeft") "__init__") (He.ga K "NothingLeft") FILE,
  xiB K (He.ma K (He.ga K "Overlap") "__init__") (He.ga K "Overlap") FILE,
  xiB K (He.ma K (He.ga K "SplitSide") "__init__") (He.ga K "SplitSide") FILE,
  xiB K (He.ma K (He.ga K "TooFar") "__init__") (He.ga K "TooFar") FILE,
  xiB K (He.ma K (He.ga K "TooMany") "__init__") (He.ga K "TooMany") FILE,
  xiB K (He.ma K (He.ga K "UnknownMark") "__init__") (He.ga K "UnknownMark") FILE,
  xiB K (He.ma K (He.ga K "UnknownSide") "__init__") (He.ga K "UnknownSide") FILE,
  xiB K (He.ma K (He.ga K "UnknownTile") "__init__") (He.ga K "UnknownTile") FILE,
  (He.Fa.free "IndexError").ok K,
  (He.Fa.free "LookupError").ok K,
  (He.Fa.free "ValueError").ok K,
  (He.Fa.free "all").ok K,
  (He.Fa.free "bool").ok K,
  (He.Fa.free "int").ok K,
  (He.Fa.free "isinstance").ok K,
  (He.Fa.free "len").ok K,
  (He.Fa.free "list").ok K,
  (He.Fa.free "str").ok K,
  (He.Fa.free "super").ok K,
  (He.Fa.free "tuple").ok K,
  (He.Fa.free "zip").ok K,
  decide (PySem.W.kitOne K (.type "NoneType") (.ref (He.ga K "GustError")) = some false),
  decide (PySem.W.kitOne K (.type "bool") (.ref (He.ga K "GustError")) = some false),
  decide (PySem.W.kitOne K (.type "int") (.ref (He.ga K "GustError")) = some false),
  decide (PySem.W.kitOne K (.type "str") (.ref (He.ga K "GustError")) = some false),
  decide (PySem.W.kitOne K (.type "list") (.ref (He.ga K "GustError")) = some false),
  decide (PySem.W.kitOne K (.type "tuple") (.ref (He.ga K "GustError")) = some false),
  decide (PySem.W.kitOne K (.type "NoneType") (.type "IndexError") = some false),
  decide (PySem.W.kitOne K (.type "bool") (.type "IndexError") = some false),
  decide (PySem.W.kitOne K (.type "int") (.type "IndexError") = some false),
  decide (PySem.W.kitOne K (.type "str") (.type "IndexError") = some false),
  decide (PySem.W.kitOne K (.type "list") (.type "IndexError") = some false),
  decide (PySem.W.kitOne K (.type "tuple") (.type "IndexError") = some false),
  decide (PySem.W.kitOne K (.type "NoneType") (.ref (He.ga K "InvalidName")) = some false),
  decide (PySem.W.kitOne K (.type "bool") (.ref (He.ga K "InvalidName")) = some false),
  decide (PySem.W.kitOne K (.type "int") (.ref (He.ga K "InvalidName")) = some false),
  decide (PySem.W.kitOne K (.type "str") (.ref (He.ga K "InvalidName")) = some false),
  decide (PySem.W.kitOne K (.type "list") (.ref (He.ga K "InvalidName")) = some false),
  decide (PySem.W.kitOne K (.type "tuple") (.ref (He.ga K "InvalidName")) = some false),
  decide (PySem.W.kitOne K (.type "NoneType") (.ref (He.ga K "InvalidPlace")) = some false),
  decide (PySem.W.kitOne K (.type "bool") (.ref (He.ga K "InvalidPlace")) = some false),
  decide (PySem.W.kitOne K (.type "int") (.ref (He.ga K "InvalidPlace")) = some false),
  decide (PySem.W.kitOne K (.type "str") (.ref (He.ga K "InvalidPlace")) = some false),
  decide (PySem.W.kitOne K (.type "list") (.ref (He.ga K "InvalidPlace")) = some false),
  decide (PySem.W.kitOne K (.type "tuple") (.ref (He.ga K "InvalidPlace")) = some false),
  decide (PySem.W.kitOne K (.type "NoneType") (.ref (He.ga K "InvalidSpan")) = some false),
  decide (PySem.W.kitOne K (.type "bool") (.ref (He.ga K "InvalidSpan")) = some false),
  decide (PySem.W.kitOne K (.type "int") (.ref (He.ga K "InvalidSpan")) = some false),
  decide (PySem.W.kitOne K (.type "str") (.ref (He.ga K "InvalidSpan")) = some false),
  decide (PySem.W.kitOne K (.type "list") (.ref (He.ga K "InvalidSpan")) = some false),
  decide (PySem.W.kitOne K (.type "tuple") (.ref (He.ga K "InvalidSpan")) = some false),
  decide (PySem.W.kitOne K (.type "NoneType") (.ref (He.ga K "InvalidText")) = some false),
  decide (PySem.W.kitOne K (.type "bool") (.ref (He.ga K "InvalidText")) = some false),
  decide (PySem.W.kitOne K (.type "int") (.ref (He.ga K "InvalidText")) = some false),
  decide (PySem.W.kitOne K (.type "str") (.ref (He.ga K "InvalidText")) = some false),
  decide (PySem.W.kitOne K (.type "list") (.ref (He.ga K "InvalidText")) = some false),
  decide (PySem.W.kitOne K (.type "tuple") (.ref (He.ga K "InvalidText")) = some false),
  decide (PySem.W.kitOne K (.type "NoneType") (.ref (He.ga K "InvalidWall")) = some false),
  decide (PySem.W.kitOne K (.type "bool") (.ref (He.ga K "InvalidWall")) = some false),
  decide (PySem.W.kitOne K (.type "int") (.ref (He.ga K "InvalidWall")) = some false),
  decide (PySem.W.kitOne K (.type "str") (.ref (He.ga K "InvalidWall")) = some false),
  decide (PySem.W.kitOne K (.type "list") (.ref (He.ga K "InvalidWall")) = some false),
  decide (PySem.W.kitOne K (.type "tuple") (.ref (He.ga K "InvalidWall")) = some false),
  decide (PySem.W.kitOne K (.type "NoneType") (.type "LookupError") = some false),
  decide (PySem.W.kitOne K (.type "bool") (.type "LookupError") = some false),
  decide (PySem.W.kitOne K (.type "int") (.type "LookupError") = some false),
  decide (PySem.W.kitOne K (.type "str") (.type "LookupError") = some false),
  decide (PySem.W.kitOne K (.type "list") (.type "LookupError") = some false),
  decide (PySem.W.kitOne K (.type "tuple") (.type "LookupError") = some false),
  decide (PySem.W.kitOne K (.type "NoneType") (.ref (He.ga K "Missing")) = some false),
  decide (PySem.W.kitOne K (.type "bool") (.ref (He.ga K "Missing")) = some false),
  decide (PySem.W.kitOne K (.type "int") (.ref (He.ga K "Missing")) = some false),
  decide (PySem.W.kitOne K (.type "str") (.ref (He.ga K "Missing")) = some false),
  decide (PySem.W.kitOne K (.type "list") (.ref (He.ga K "Missing")) = some false),
  decide (PySem.W.kitOne K (.type "tuple") (.ref (He.ga K "Missing")) = some false),
  decide (PySem.W.kitOne K (.type "NoneType") (.ref (He.ga K "TooMany")) = some false),
  decide (PySem.W.kitOne K (.type "bool") (.ref (He.ga K "TooMany")) = some false),
  decide (PySem.W.kitOne K (.type "int") (.ref (He.ga K "TooMany")) = some false),
  decide (PySem.W.kitOne K (.type "str") (.ref (He.ga K "TooMany")) = some false),
  decide (PySem.W.kitOne K (.type "list") (.ref (He.ga K "TooMany")) = some false),
  decide (PySem.W.kitOne K (.type "tuple") (.ref (He.ga K "TooMany")) = some false),
  decide (PySem.W.kitOne K (.type "NoneType") (.ref (He.ga K "UnknownMark")) = some false),
  decide (PySem.W.kitOne K (.type "bool") (.ref (He.ga K "UnknownMark")) = some false),
  decide (PySem.W.kitOne K (.type "int") (.ref (He.ga K "UnknownMark")) = some false),
  decide (PySem.W.kitOne K (.type "str") (.ref (He.ga K "UnknownMark")) = some false),
  decide (PySem.W.kitOne K (.type "list") (.ref (He.ga K "UnknownMark")) = some false),
  decide (PySem.W.kitOne K (.type "tuple") (.ref (He.ga K "UnknownMark")) = some false),
  decide (PySem.W.kitOne K (.type "NoneType") (.type "ValueError") = some false),
  decide (PySem.W.kitOne K (.type "bool") (.type "ValueError") = some false),
  decide (PySem.W.kitOne K (.type "int") (.type "ValueError") = some false),
  decide (PySem.W.kitOne K (.type "str") (.type "ValueError") = some false),
  decide (PySem.W.kitOne K (.type "list") (.type "ValueError") = some false),
  decide (PySem.W.kitOne K (.type "tuple") (.type "ValueError") = some false),
  decide (PySem.W.kitOne K (.type "NoneType") (.type "bool") = some false),
  decide (PySem.W.kitOne K (.type "bool") (.type "bool") = some true),
  decide (PySem.W.kitOne K (.type "int") (.type "bool") = some false),
  decide (PySem.W.kitOne K (.type "str") (.type "bool") = some false),
  decide (PySem.W.kitOne K (.type "list") (.type "bool") = some false),
  decide (PySem.W.kitOne K (.type "tuple") (.type "bool") = some false),
  decide (PySem.W.kitOne K (.type "NoneType") (.type "int") = some false),
  decide (PySem.W.kitOne K (.type "bool") (.type "int") = some true),
  decide (PySem.W.kitOne K (.type "int") (.type "int") = some true),
  decide (PySem.W.kitOne K (.type "str") (.type "int") = some false),
  decide (PySem.W.kitOne K (.type "list") (.type "int") = some false),
  decide (PySem.W.kitOne K (.type "tuple") (.type "int") = some false),
  decide (PySem.W.kitOne K (.type "NoneType") (.type "list") = some false),
  decide (PySem.W.kitOne K (.type "bool") (.type "list") = some false),
  decide (PySem.W.kitOne K (.type "int") (.type "list") = some false),
  decide (PySem.W.kitOne K (.type "str") (.type "list") = some false),
  decide (PySem.W.kitOne K (.type "list") (.type "list") = some true),
  decide (PySem.W.kitOne K (.type "tuple") (.type "list") = some false),
  decide (PySem.W.kitOne K (.type "NoneType") (.type "str") = some false),
  decide (PySem.W.kitOne K (.type "bool") (.type "str") = some false),
  decide (PySem.W.kitOne K (.type "int") (.type "str") = some false),
  decide (PySem.W.kitOne K (.type "str") (.type "str") = some true),
  decide (PySem.W.kitOne K (.type "list") (.type "str") = some false),
  decide (PySem.W.kitOne K (.type "tuple") (.type "str") = some false),
  decide (PySem.W.kitOne K (.type "NoneType") (.type "tuple") = some false),
  decide (PySem.W.kitOne K (.type "bool") (.type "tuple") = some false),
  decide (PySem.W.kitOne K (.type "int") (.type "tuple") = some false),
  decide (PySem.W.kitOne K (.type "str") (.type "tuple") = some false),
  decide (PySem.W.kitOne K (.type "list") (.type "tuple") = some false),
  decide (PySem.W.kitOne K (.type "tuple") (.type "tuple") = some true)]
def ex (K : PySem.W.Frag) : Bool := (facts K).all id
structure Tx (K : PySem.W.Frag) (mg : Str → Option Value) : Prop where
  fxb_at : (tabf_at.all fun c => excCB K (cAd K c) && decide (PySem.W.findIn K (.ref (cAd K c)) "at" = some none)) = true
  fxb_code : (tabf_code.all fun c => excCB K (cAd K c) && decide (PySem.W.findIn K (.ref (cAd K c)) "code" = some none)) = true
  fxb_corner : (tabf_corner.all fun c => excCB K (cAd K c) && decide (PySem.W.findIn K (.ref (cAd K c)) "corner" = some none)) = true
  fxb_given : (tabf_given.all fun c => excCB K (cAd K c) && decide (PySem.W.findIn K (.ref (cAd K c)) "given" = some none)) = true
  fxb_index : (tabf_index.all fun c => excCB K (cAd K c) && decide (PySem.W.findIn K (.ref (cAd K c)) "index" = some none)) = true
  fxb_line : (tabf_line.all fun c => excCB K (cAd K c) && decide (PySem.W.findIn K (.ref (cAd K c)) "line" = some none)) = true
  fxb_most : (tabf_most.all fun c => excCB K (cAd K c) && decide (PySem.W.findIn K (.ref (cAd K c)) "most" = some none)) = true
  fxb_name : (tabf_name.all fun c => excCB K (cAd K c) && decide (PySem.W.findIn K (.ref (cAd K c)) "name" = some none)) = true
  fxb_one : (tabf_one.all fun c => excCB K (cAd K c) && decide (PySem.W.findIn K (.ref (cAd K c)) "one" = some none)) = true
  fxb_other : (tabf_other.all fun c => excCB K (cAd K c) && decide (PySem.W.findIn K (.ref (cAd K c)) "other" = some none)) = true
  fxb_side : (tabf_side.all fun c => excCB K (cAd K c) && decide (PySem.W.findIn K (.ref (cAd K c)) "side" = some none)) = true
  fxb_value : (tabf_value.all fun c => excCB K (cAd K c) && decide (PySem.W.findIn K (.ref (cAd K c)) "value" = some none)) = true
  g_DuplicateName : mg "DuplicateName" = some (.ref (He.ga K "DuplicateName"))
  g_GustError : mg "GustError" = some (.ref (He.ga K "GustError"))
  g_InvalidChord : mg "InvalidChord" = some (.ref (He.ga K "InvalidChord"))
  g_InvalidCorners : mg "InvalidCorners" = some (.ref (He.ga K "InvalidCorners"))
  g_InvalidCount : mg "InvalidCount" = some (.ref (He.ga K "InvalidCount"))
  g_InvalidDeed : mg "InvalidDeed" = some (.ref (He.ga K "InvalidDeed"))
  g_InvalidLimit : mg "InvalidLimit" = some (.ref (He.ga K "InvalidLimit"))
  g_InvalidName : mg "InvalidName" = some (.ref (He.ga K "InvalidName"))
  g_InvalidPlace : mg "InvalidPlace" = some (.ref (He.ga K "InvalidPlace"))
  g_InvalidRatio : mg "InvalidRatio" = some (.ref (He.ga K "InvalidRatio"))
  g_InvalidRound : mg "InvalidRound" = some (.ref (He.ga K "InvalidRound"))
  g_InvalidSpan : mg "InvalidSpan" = some (.ref (He.ga K "InvalidSpan"))
  g_InvalidText : mg "InvalidText" = some (.ref (He.ga K "InvalidText"))
  g_InvalidTiles : mg "InvalidTiles" = some (.ref (He.ga K "InvalidTiles"))
  g_InvalidWall : mg "InvalidWall" = some (.ref (He.ga K "InvalidWall"))
  g_InvalidWinds : mg "InvalidWinds" = some (.ref (He.ga K "InvalidWinds"))
  g_LooseCorner : mg "LooseCorner" = some (.ref (He.ga K "LooseCorner"))
  g_MarkedSide : mg "MarkedSide" = some (.ref (He.ga K "MarkedSide"))
  g_Missing : mg "Missing" = some (.ref (He.ga K "Missing"))
  g_NotConvex : mg "NotConvex" = some (.ref (He.ga K "NotConvex"))
  g_NotJoined : mg "NotJoined" = some (.ref (He.ga K "NotJoined"))
  g_NothingLeft : mg "NothingLeft" = some (.ref (He.ga K "NothingLeft"))
  g_Overlap : mg "Overlap" = some (.ref (He.ga K "Overlap"))
  g_SplitSide : mg "SplitSide" = some (.ref (He.ga K "SplitSide"))
  g_TooFar : mg "TooFar" = some (.ref (He.ga K "TooFar"))
  g_TooMany : mg "TooMany" = some (.ref (He.ga K "TooMany"))
  g_UnknownMark : mg "UnknownMark" = some (.ref (He.ga K "UnknownMark"))
  g_UnknownSide : mg "UnknownSide" = some (.ref (He.ga K "UnknownSide"))
  g_UnknownTile : mg "UnknownTile" = some (.ref (He.ga K "UnknownTile"))
  g__law_errors_so : mg "_law_errors_so" = some (.ref (He.ga K "_law_errors_so"))
  g__law_fields : mg "_law_fields" = some (.ref (He.ga K "_law_fields"))
  g__law_kinds_apart : mg "_law_kinds_apart" = some (.ref (He.ga K "_law_kinds_apart"))
  g__law_pick : mg "_law_pick" = some (.ref (He.ga K "_law_pick"))
  g__law_pull : mg "_law_pull" = some (.ref (He.ga K "_law_pull"))
  g__law_same : mg "_law_same" = some (.ref (He.ga K "_law_same"))
  g__law_sort : mg "_law_sort" = some (.ref (He.ga K "_law_sort"))
  g__law_start : mg "_law_start" = some (.ref (He.ga K "_law_start"))
  g__law_stray : mg "_law_stray" = some (.ref (He.ga K "_law_stray"))
  g_law : mg "law" = some (.ref (He.ga K "law"))
  ix_GustError : (tabx_GustError.all fun q => decide (PySem.W.kitOne K (.ref (cAd K q.1)) (.ref (He.ga K "GustError")) = some q.2) && excCB K (cAd K q.1)) = true
  ix_IndexError : (tabx_IndexError.all fun q => decide (PySem.W.kitOne K (.ref (cAd K q.1)) (.type "IndexError") = some q.2) && excCB K (cAd K q.1)) = true
  ix_InvalidName : (tabx_InvalidName.all fun q => decide (PySem.W.kitOne K (.ref (cAd K q.1)) (.ref (He.ga K "InvalidName")) = some q.2) && excCB K (cAd K q.1)) = true
  ix_InvalidPlace : (tabx_InvalidPlace.all fun q => decide (PySem.W.kitOne K (.ref (cAd K q.1)) (.ref (He.ga K "InvalidPlace")) = some q.2) && excCB K (cAd K q.1)) = true
  ix_InvalidSpan : (tabx_InvalidSpan.all fun q => decide (PySem.W.kitOne K (.ref (cAd K q.1)) (.ref (He.ga K "InvalidSpan")) = some q.2) && excCB K (cAd K q.1)) = true
  ix_InvalidText : (tabx_InvalidText.all fun q => decide (PySem.W.kitOne K (.ref (cAd K q.1)) (.ref (He.ga K "InvalidText")) = some q.2) && excCB K (cAd K q.1)) = true
  ix_InvalidWall : (tabx_InvalidWall.all fun q => decide (PySem.W.kitOne K (.ref (cAd K q.1)) (.ref (He.ga K "InvalidWall")) = some q.2) && excCB K (cAd K q.1)) = true
  ix_LookupError : (tabx_LookupError.all fun q => decide (PySem.W.kitOne K (.ref (cAd K q.1)) (.type "LookupError") = some q.2) && excCB K (cAd K q.1)) = true
  ix_Missing : (tabx_Missing.all fun q => decide (PySem.W.kitOne K (.ref (cAd K q.1)) (.ref (He.ga K "Missing")) = some q.2) && excCB K (cAd K q.1)) = true
  ix_TooMany : (tabx_TooMany.all fun q => decide (PySem.W.kitOne K (.ref (cAd K q.1)) (.ref (He.ga K "TooMany")) = some q.2) && excCB K (cAd K q.1)) = true
  ix_UnknownMark : (tabx_UnknownMark.all fun q => decide (PySem.W.kitOne K (.ref (cAd K q.1)) (.ref (He.ga K "UnknownMark")) = some q.2) && excCB K (cAd K q.1)) = true
  ix_ValueError : (tabx_ValueError.all fun q => decide (PySem.W.kitOne K (.ref (cAd K q.1)) (.type "ValueError") = some q.2) && excCB K (cAd K q.1)) = true
  k__law_errors_so : PySem.W.keepIn K (.ref (He.ga K "_law_errors_so")) = true
  k__law_fields : PySem.W.keepIn K (.ref (He.ga K "_law_fields")) = true
  k__law_kinds_apart : PySem.W.keepIn K (.ref (He.ga K "_law_kinds_apart")) = true
  k__law_pick : PySem.W.keepIn K (.ref (He.ga K "_law_pick")) = true
  k__law_pull : PySem.W.keepIn K (.ref (He.ga K "_law_pull")) = true
  k__law_same : PySem.W.keepIn K (.ref (He.ga K "_law_same")) = true
  k__law_sort : PySem.W.keepIn K (.ref (He.ga K "_law_sort")) = true
  k__law_start : PySem.W.keepIn K (.ref (He.ga K "_law_start")) = true
  k__law_stray : PySem.W.keepIn K (.ref (He.ga K "_law_stray")) = true
  tk_DuplicateName_code : PySem.W.takerIn K (He.ga K "DuplicateName") "code" = some none
  tk_DuplicateName_name : PySem.W.takerIn K (He.ga K "DuplicateName") "name" = some none
  tk_InvalidChord_code : PySem.W.takerIn K (He.ga K "InvalidChord") "code" = some none
  tk_InvalidChord_one : PySem.W.takerIn K (He.ga K "InvalidChord") "one" = some none
  tk_InvalidChord_other : PySem.W.takerIn K (He.ga K "InvalidChord") "other" = some none
  tk_InvalidCorners_at : PySem.W.takerIn K (He.ga K "InvalidCorners") "at" = some none
  tk_InvalidCorners_code : PySem.W.takerIn K (He.ga K "InvalidCorners") "code" = some none
  tk_InvalidCount_code : PySem.W.takerIn K (He.ga K "InvalidCount") "code" = some none
  tk_InvalidCount_given : PySem.W.takerIn K (He.ga K "InvalidCount") "given" = some none
  tk_InvalidDeed_code : PySem.W.takerIn K (He.ga K "InvalidDeed") "code" = some none
  tk_InvalidDeed_index : PySem.W.takerIn K (He.ga K "InvalidDeed") "index" = some none
  tk_InvalidLimit_code : PySem.W.takerIn K (He.ga K "InvalidLimit") "code" = some none
  tk_InvalidLimit_given : PySem.W.takerIn K (He.ga K "InvalidLimit") "given" = some none
  tk_InvalidName_code : PySem.W.takerIn K (He.ga K "InvalidName") "code" = some none
  tk_InvalidName_name : PySem.W.takerIn K (He.ga K "InvalidName") "name" = some none
  tk_InvalidPlace_code : PySem.W.takerIn K (He.ga K "InvalidPlace") "code" = some none
  tk_InvalidPlace_value : PySem.W.takerIn K (He.ga K "InvalidPlace") "value" = some none
  tk_InvalidRatio_code : PySem.W.takerIn K (He.ga K "InvalidRatio") "code" = some none
  tk_InvalidRatio_given : PySem.W.takerIn K (He.ga K "InvalidRatio") "given" = some none
  tk_InvalidRound_code : PySem.W.takerIn K (He.ga K "InvalidRound") "code" = some none
  tk_InvalidRound_value : PySem.W.takerIn K (He.ga K "InvalidRound") "value" = some none
  tk_InvalidSpan_code : PySem.W.takerIn K (He.ga K "InvalidSpan") "code" = some none
  tk_InvalidSpan_given : PySem.W.takerIn K (He.ga K "InvalidSpan") "given" = some none
  tk_InvalidText_code : PySem.W.takerIn K (He.ga K "InvalidText") "code" = some none
  tk_InvalidText_line : PySem.W.takerIn K (He.ga K "InvalidText") "line" = some none
  tk_InvalidTiles_at : PySem.W.takerIn K (He.ga K "InvalidTiles") "at" = some none
  tk_InvalidTiles_code : PySem.W.takerIn K (He.ga K "InvalidTiles") "code" = some none
  tk_InvalidWall_code : PySem.W.takerIn K (He.ga K "InvalidWall") "code" = some none
  tk_InvalidWall_side : PySem.W.takerIn K (He.ga K "InvalidWall") "side" = some none
  tk_InvalidWinds_code : PySem.W.takerIn K (He.ga K "InvalidWinds") "code" = some none
  tk_LooseCorner_code : PySem.W.takerIn K (He.ga K "LooseCorner") "code" = some none
  tk_LooseCorner_corner : PySem.W.takerIn K (He.ga K "LooseCorner") "corner" = some none
  tk_MarkedSide_code : PySem.W.takerIn K (He.ga K "MarkedSide") "code" = some none
  tk_MarkedSide_side : PySem.W.takerIn K (He.ga K "MarkedSide") "side" = some none
  tk_NotConvex_code : PySem.W.takerIn K (He.ga K "NotConvex") "code" = some none
  tk_NotJoined_code : PySem.W.takerIn K (He.ga K "NotJoined") "code" = some none
  tk_NotJoined_one : PySem.W.takerIn K (He.ga K "NotJoined") "one" = some none
  tk_NotJoined_other : PySem.W.takerIn K (He.ga K "NotJoined") "other" = some none
  tk_NothingLeft_code : PySem.W.takerIn K (He.ga K "NothingLeft") "code" = some none
  tk_Overlap_code : PySem.W.takerIn K (He.ga K "Overlap") "code" = some none
  tk_Overlap_one : PySem.W.takerIn K (He.ga K "Overlap") "one" = some none
  tk_Overlap_other : PySem.W.takerIn K (He.ga K "Overlap") "other" = some none
  tk_SplitSide_code : PySem.W.takerIn K (He.ga K "SplitSide") "code" = some none
  tk_SplitSide_side : PySem.W.takerIn K (He.ga K "SplitSide") "side" = some none
  tk_TooFar_code : PySem.W.takerIn K (He.ga K "TooFar") "code" = some none
  tk_TooFar_most : PySem.W.takerIn K (He.ga K "TooFar") "most" = some none
  tk_TooMany_code : PySem.W.takerIn K (He.ga K "TooMany") "code" = some none
  tk_TooMany_most : PySem.W.takerIn K (He.ga K "TooMany") "most" = some none
  tk_UnknownMark_code : PySem.W.takerIn K (He.ga K "UnknownMark") "code" = some none
  tk_UnknownMark_name : PySem.W.takerIn K (He.ga K "UnknownMark") "name" = some none
  tk_UnknownSide_code : PySem.W.takerIn K (He.ga K "UnknownSide") "code" = some none
  tk_UnknownSide_side : PySem.W.takerIn K (He.ga K "UnknownSide") "side" = some none
  tk_UnknownTile_code : PySem.W.takerIn K (He.ga K "UnknownTile") "code" = some none
  tk_UnknownTile_name : PySem.W.takerIn K (He.ga K "UnknownTile") "name" = some none
  xc_DuplicateName : Xq.XC K (He.ga K "DuplicateName") "ValueError" "ValueError.__new__" "ValueError.__init__" [.type "ValueError", .type "Exception", .type "BaseException", .type "object"]
  xc_InvalidChord : Xq.XC K (He.ga K "InvalidChord") "ValueError" "ValueError.__new__" "ValueError.__init__" [.type "ValueError", .type "Exception", .type "BaseException", .type "object"]
  xc_InvalidCorners : Xq.XC K (He.ga K "InvalidCorners") "ValueError" "ValueError.__new__" "ValueError.__init__" [.type "ValueError", .type "Exception", .type "BaseException", .type "object"]
  xc_InvalidCount : Xq.XC K (He.ga K "InvalidCount") "ValueError" "ValueError.__new__" "ValueError.__init__" [.type "ValueError", .type "Exception", .type "BaseException", .type "object"]
  xc_InvalidDeed : Xq.XC K (He.ga K "InvalidDeed") "ValueError" "ValueError.__new__" "ValueError.__init__" [.type "ValueError", .type "Exception", .type "BaseException", .type "object"]
  xc_InvalidLimit : Xq.XC K (He.ga K "InvalidLimit") "ValueError" "ValueError.__new__" "ValueError.__init__" [.type "ValueError", .type "Exception", .type "BaseException", .type "object"]
  xc_InvalidName : Xq.XC K (He.ga K "InvalidName") "ValueError" "ValueError.__new__" "ValueError.__init__" [.type "ValueError", .type "Exception", .type "BaseException", .type "object"]
  xc_InvalidPlace : Xq.XC K (He.ga K "InvalidPlace") "ValueError" "ValueError.__new__" "ValueError.__init__" [.type "ValueError", .type "Exception", .type "BaseException", .type "object"]
  xc_InvalidRatio : Xq.XC K (He.ga K "InvalidRatio") "ValueError" "ValueError.__new__" "ValueError.__init__" [.type "ValueError", .type "Exception", .type "BaseException", .type "object"]
  xc_InvalidRound : Xq.XC K (He.ga K "InvalidRound") "ValueError" "ValueError.__new__" "ValueError.__init__" [.type "ValueError", .type "Exception", .type "BaseException", .type "object"]
  xc_InvalidSpan : Xq.XC K (He.ga K "InvalidSpan") "ValueError" "ValueError.__new__" "ValueError.__init__" [.type "ValueError", .type "Exception", .type "BaseException", .type "object"]
  xc_InvalidText : Xq.XC K (He.ga K "InvalidText") "ValueError" "ValueError.__new__" "ValueError.__init__" [.type "ValueError", .type "Exception", .type "BaseException", .type "object"]
  xc_InvalidTiles : Xq.XC K (He.ga K "InvalidTiles") "ValueError" "ValueError.__new__" "ValueError.__init__" [.type "ValueError", .type "Exception", .type "BaseException", .type "object"]
  xc_InvalidWall : Xq.XC K (He.ga K "InvalidWall") "ValueError" "ValueError.__new__" "ValueError.__init__" [.type "ValueError", .type "Exception", .type "BaseException", .type "object"]
  xc_InvalidWinds : Xq.XC K (He.ga K "InvalidWinds") "ValueError" "ValueError.__new__" "ValueError.__init__" [.type "ValueError", .type "Exception", .type "BaseException", .type "object"]
  xc_LooseCorner : Xq.XC K (He.ga K "LooseCorner") "ValueError" "ValueError.__new__" "ValueError.__init__" [.type "ValueError", .type "Exception", .type "BaseException", .type "object"]
  xc_MarkedSide : Xq.XC K (He.ga K "MarkedSide") "ValueError" "ValueError.__new__" "ValueError.__init__" [.type "ValueError", .type "Exception", .type "BaseException", .type "object"]
  xc_NotConvex : Xq.XC K (He.ga K "NotConvex") "ValueError" "ValueError.__new__" "ValueError.__init__" [.type "ValueError", .type "Exception", .type "BaseException", .type "object"]
  xc_NotJoined : Xq.XC K (He.ga K "NotJoined") "ValueError" "ValueError.__new__" "ValueError.__init__" [.type "ValueError", .type "Exception", .type "BaseException", .type "object"]
  xc_NothingLeft : Xq.XC K (He.ga K "NothingLeft") "IndexError" "IndexError.__new__" "IndexError.__init__" [.type "IndexError", .type "LookupError", .type "Exception", .type "BaseException", .type "object"]
  xc_Overlap : Xq.XC K (He.ga K "Overlap") "ValueError" "ValueError.__new__" "ValueError.__init__" [.type "ValueError", .type "Exception", .type "BaseException", .type "object"]
  xc_SplitSide : Xq.XC K (He.ga K "SplitSide") "ValueError" "ValueError.__new__" "ValueError.__init__" [.type "ValueError", .type "Exception", .type "BaseException", .type "object"]
  xc_TooFar : Xq.XC K (He.ga K "TooFar") "ValueError" "ValueError.__new__" "ValueError.__init__" [.type "ValueError", .type "Exception", .type "BaseException", .type "object"]
  xc_TooMany : Xq.XC K (He.ga K "TooMany") "ValueError" "ValueError.__new__" "ValueError.__init__" [.type "ValueError", .type "Exception", .type "BaseException", .type "object"]
  xc_UnknownMark : Xq.XC K (He.ga K "UnknownMark") "LookupError" "LookupError.__new__" "LookupError.__init__" [.type "LookupError", .type "Exception", .type "BaseException", .type "object"]
  xc_UnknownSide : Xq.XC K (He.ga K "UnknownSide") "LookupError" "LookupError.__new__" "LookupError.__init__" [.type "LookupError", .type "Exception", .type "BaseException", .type "object"]
  xc_UnknownTile : Xq.XC K (He.ga K "UnknownTile") "LookupError" "LookupError.__new__" "LookupError.__init__" [.type "LookupError", .type "Exception", .type "BaseException", .type "object"]
  xi_DuplicateName : xiB K (He.ma K (He.ga K "DuplicateName") "__init__") (He.ga K "DuplicateName") FILE = true
  xi_InvalidChord : xiB K (He.ma K (He.ga K "InvalidChord") "__init__") (He.ga K "InvalidChord") FILE = true
  xi_InvalidCorners : xiB K (He.ma K (He.ga K "InvalidCorners") "__init__") (He.ga K "InvalidCorners") FILE = true
  xi_InvalidCount : xiB K (He.ma K (He.ga K "InvalidCount") "__init__") (He.ga K "InvalidCount") FILE = true
  xi_InvalidDeed : xiB K (He.ma K (He.ga K "InvalidDeed") "__init__") (He.ga K "InvalidDeed") FILE = true
  xi_InvalidLimit : xiB K (He.ma K (He.ga K "InvalidLimit") "__init__") (He.ga K "InvalidLimit") FILE = true
  xi_InvalidName : xiB K (He.ma K (He.ga K "InvalidName") "__init__") (He.ga K "InvalidName") FILE = true
  xi_InvalidPlace : xiB K (He.ma K (He.ga K "InvalidPlace") "__init__") (He.ga K "InvalidPlace") FILE = true
  xi_InvalidRatio : xiB K (He.ma K (He.ga K "InvalidRatio") "__init__") (He.ga K "InvalidRatio") FILE = true
  xi_InvalidRound : xiB K (He.ma K (He.ga K "InvalidRound") "__init__") (He.ga K "InvalidRound") FILE = true
  xi_InvalidSpan : xiB K (He.ma K (He.ga K "InvalidSpan") "__init__") (He.ga K "InvalidSpan") FILE = true
  xi_InvalidText : xiB K (He.ma K (He.ga K "InvalidText") "__init__") (He.ga K "InvalidText") FILE = true
  xi_InvalidTiles : xiB K (He.ma K (He.ga K "InvalidTiles") "__init__") (He.ga K "InvalidTiles") FILE = true
  xi_InvalidWall : xiB K (He.ma K (He.ga K "InvalidWall") "__init__") (He.ga K "InvalidWall") FILE = true
  xi_InvalidWinds : xiB K (He.ma K (He.ga K "InvalidWinds") "__init__") (He.ga K "InvalidWinds") FILE = true
  xi_LooseCorner : xiB K (He.ma K (He.ga K "LooseCorner") "__init__") (He.ga K "LooseCorner") FILE = true
  xi_MarkedSide : xiB K (He.ma K (He.ga K "MarkedSide") "__init__") (He.ga K "MarkedSide") FILE = true
  xi_NotConvex : xiB K (He.ma K (He.ga K "NotConvex") "__init__") (He.ga K "NotConvex") FILE = true
  xi_NotJoined : xiB K (He.ma K (He.ga K "NotJoined") "__init__") (He.ga K "NotJoined") FILE = true
  xi_NothingLeft : xiB K (He.ma K (He.ga K "NothingLeft") "__init__") (He.ga K "NothingLeft") FILE = true
  xi_Overlap : xiB K (He.ma K (He.ga K "Overlap") "__init__") (He.ga K "Overlap") FILE = true
  xi_SplitSide : xiB K (He.ma K (He.ga K "SplitSide") "__init__") (He.ga K "SplitSide") FILE = true
  xi_TooFar : xiB K (He.ma K (He.ga K "TooFar") "__init__") (He.ga K "TooFar") FILE = true
  xi_TooMany : xiB K (He.ma K (He.ga K "TooMany") "__init__") (He.ga K "TooMany") FILE = true
  xi_UnknownMark : xiB K (He.ma K (He.ga K "UnknownMark") "__init__") (He.ga K "UnknownMark") FILE = true
  xi_UnknownSide : xiB K (He.ma K (He.ga K "UnknownSide") "__init__") (He.ga K "UnknownSide") FILE = true
  xi_UnknownTile : xiB K (He.ma K (He.ga K "UnknownTile") "__init__") (He.ga K "UnknownTile") FILE = true
  z_IndexError : mg "IndexError" = none
  z_LookupError : mg "LookupError" = none
  z_ValueError : mg "ValueError" = none
  z_all : mg "all" = none
  z_bool : mg "bool" = none
  z_int : mg "int" = none
  z_isinstance : mg "isinstance" = none
  z_len : mg "len" = none
  z_list : mg "list" = none
  z_str : mg "str" = none
  z_super : mg "super" = none
  z_tuple : mg "tuple" = none
  z_zip : mg "zip" = none
  ki_GustError_NoneType : PySem.W.kitOne K (.type "NoneType") (.ref (He.ga K "GustError")) = some false
  ki_GustError_bool : PySem.W.kitOne K (.type "bool") (.ref (He.ga K "GustError")) = some false
  ki_GustError_int : PySem.W.kitOne K (.type "int") (.ref (He.ga K "GustError")) = some false
  ki_GustError_str : PySem.W.kitOne K (.type "str") (.ref (He.ga K "GustError")) = some false
  ki_GustError_list : PySem.W.kitOne K (.type "list") (.ref (He.ga K "GustError")) = some false
  ki_GustError_tuple : PySem.W.kitOne K (.type "tuple") (.ref (He.ga K "GustError")) = some false
  ki_IndexError_NoneType : PySem.W.kitOne K (.type "NoneType") (.type "IndexError") = some false
  ki_IndexError_bool : PySem.W.kitOne K (.type "bool") (.type "IndexError") = some false
  ki_IndexError_int : PySem.W.kitOne K (.type "int") (.type "IndexError") = some false
  ki_IndexError_str : PySem.W.kitOne K (.type "str") (.type "IndexError") = some false
  ki_IndexError_list : PySem.W.kitOne K (.type "list") (.type "IndexError") = some false
  ki_IndexError_tuple : PySem.W.kitOne K (.type "tuple") (.type "IndexError") = some false
  ki_InvalidName_NoneType : PySem.W.kitOne K (.type "NoneType") (.ref (He.ga K "InvalidName")) = some false
  ki_InvalidName_bool : PySem.W.kitOne K (.type "bool") (.ref (He.ga K "InvalidName")) = some false
  ki_InvalidName_int : PySem.W.kitOne K (.type "int") (.ref (He.ga K "InvalidName")) = some false
  ki_InvalidName_str : PySem.W.kitOne K (.type "str") (.ref (He.ga K "InvalidName")) = some false
  ki_InvalidName_list : PySem.W.kitOne K (.type "list") (.ref (He.ga K "InvalidName")) = some false
  ki_InvalidName_tuple : PySem.W.kitOne K (.type "tuple") (.ref (He.ga K "InvalidName")) = some false
  ki_InvalidPlace_NoneType : PySem.W.kitOne K (.type "NoneType") (.ref (He.ga K "InvalidPlace")) = some false
  ki_InvalidPlace_bool : PySem.W.kitOne K (.type "bool") (.ref (He.ga K "InvalidPlace")) = some false
  ki_InvalidPlace_int : PySem.W.kitOne K (.type "int") (.ref (He.ga K "InvalidPlace")) = some false
  ki_InvalidPlace_str : PySem.W.kitOne K (.type "str") (.ref (He.ga K "InvalidPlace")) = some false
  ki_InvalidPlace_list : PySem.W.kitOne K (.type "list") (.ref (He.ga K "InvalidPlace")) = some false
  ki_InvalidPlace_tuple : PySem.W.kitOne K (.type "tuple") (.ref (He.ga K "InvalidPlace")) = some false
  ki_InvalidSpan_NoneType : PySem.W.kitOne K (.type "NoneType") (.ref (He.ga K "InvalidSpan")) = some false
  ki_InvalidSpan_bool : PySem.W.kitOne K (.type "bool") (.ref (He.ga K "InvalidSpan")) = some false
  ki_InvalidSpan_int : PySem.W.kitOne K (.type "int") (.ref (He.ga K "InvalidSpan")) = some false
  ki_InvalidSpan_str : PySem.W.kitOne K (.type "str") (.ref (He.ga K "InvalidSpan")) = some false
  ki_InvalidSpan_list : PySem.W.kitOne K (.type "list") (.ref (He.ga K "InvalidSpan")) = some false
  ki_InvalidSpan_tuple : PySem.W.kitOne K (.type "tuple") (.ref (He.ga K "InvalidSpan")) = some false
  ki_InvalidText_NoneType : PySem.W.kitOne K (.type "NoneType") (.ref (He.ga K "InvalidText")) = some false
  ki_InvalidText_bool : PySem.W.kitOne K (.type "bool") (.ref (He.ga K "InvalidText")) = some false
  ki_InvalidText_int : PySem.W.kitOne K (.type "int") (.ref (He.ga K "InvalidText")) = some false
  ki_InvalidText_str : PySem.W.kitOne K (.type "str") (.ref (He.ga K "InvalidText")) = some false
  ki_InvalidText_list : PySem.W.kitOne K (.type "list") (.ref (He.ga K "InvalidText")) = some false
  ki_InvalidText_tuple : PySem.W.kitOne K (.type "tuple") (.ref (He.ga K "InvalidText")) = some false
  ki_InvalidWall_NoneType : PySem.W.kitOne K (.type "NoneType") (.ref (He.ga K "InvalidWall")) = some false
  ki_InvalidWall_bool : PySem.W.kitOne K (.type "bool") (.ref (He.ga K "InvalidWall")) = some false
  ki_InvalidWall_int : PySem.W.kitOne K (.type "int") (.ref (He.ga K "InvalidWall")) = some false
  ki_InvalidWall_str : PySem.W.kitOne K (.type "str") (.ref (He.ga K "InvalidWall")) = some false
  ki_InvalidWall_list : PySem.W.kitOne K (.type "list") (.ref (He.ga K "InvalidWall")) = some false
  ki_InvalidWall_tuple : PySem.W.kitOne K (.type "tuple") (.ref (He.ga K "InvalidWall")) = some false
  ki_LookupError_NoneType : PySem.W.kitOne K (.type "NoneType") (.type "LookupError") = some false
  ki_LookupError_bool : PySem.W.kitOne K (.type "bool") (.type "LookupError") = some false
  ki_LookupError_int : PySem.W.kitOne K (.type "int") (.type "LookupError") = some false
  ki_LookupError_str : PySem.W.kitOne K (.type "str") (.type "LookupError") = some false
  ki_LookupError_list : PySem.W.kitOne K (.type "list") (.type "LookupError") = some false
  ki_LookupError_tuple : PySem.W.kitOne K (.type "tuple") (.type "LookupError") = some false
  ki_Missing_NoneType : PySem.W.kitOne K (.type "NoneType") (.ref (He.ga K "Missing")) = some false
  ki_Missing_bool : PySem.W.kitOne K (.type "bool") (.ref (He.ga K "Missing")) = some false
  ki_Missing_int : PySem.W.kitOne K (.type "int") (.ref (He.ga K "Missing")) = some false
  ki_Missing_str : PySem.W.kitOne K (.type "str") (.ref (He.ga K "Missing")) = some false
  ki_Missing_list : PySem.W.kitOne K (.type "list") (.ref (He.ga K "Missing")) = some false
  ki_Missing_tuple : PySem.W.kitOne K (.type "tuple") (.ref (He.ga K "Missing")) = some false
  ki_TooMany_NoneType : PySem.W.kitOne K (.type "NoneType") (.ref (He.ga K "TooMany")) = some false
  ki_TooMany_bool : PySem.W.kitOne K (.type "bool") (.ref (He.ga K "TooMany")) = some false
  ki_TooMany_int : PySem.W.kitOne K (.type "int") (.ref (He.ga K "TooMany")) = some false
  ki_TooMany_str : PySem.W.kitOne K (.type "str") (.ref (He.ga K "TooMany")) = some false
  ki_TooMany_list : PySem.W.kitOne K (.type "list") (.ref (He.ga K "TooMany")) = some false
  ki_TooMany_tuple : PySem.W.kitOne K (.type "tuple") (.ref (He.ga K "TooMany")) = some false
  ki_UnknownMark_NoneType : PySem.W.kitOne K (.type "NoneType") (.ref (He.ga K "UnknownMark")) = some false
  ki_UnknownMark_bool : PySem.W.kitOne K (.type "bool") (.ref (He.ga K "UnknownMark")) = some false
  ki_UnknownMark_int : PySem.W.kitOne K (.type "int") (.ref (He.ga K "UnknownMark")) = some false
  ki_UnknownMark_str : PySem.W.kitOne K (.type "str") (.ref (He.ga K "UnknownMark")) = some false
  ki_UnknownMark_list : PySem.W.kitOne K (.type "list") (.ref (He.ga K "UnknownMark")) = some false
  ki_UnknownMark_tuple : PySem.W.kitOne K (.type "tuple") (.ref (He.ga K "UnknownMark")) = some false
  ki_ValueError_NoneType : PySem.W.kitOne K (.type "NoneType") (.type "ValueError") = some false
  ki_ValueError_bool : PySem.W.kitOne K (.type "bool") (.type "ValueError") = some false
  ki_ValueError_int : PySem.W.kitOne K (.type "int") (.type "ValueError") = some false
  ki_ValueError_str : PySem.W.kitOne K (.type "str") (.type "ValueError") = some false
  ki_ValueError_list : PySem.W.kitOne K (.type "list") (.type "ValueError") = some false
  ki_ValueError_tuple : PySem.W.kitOne K (.type "tuple") (.type "ValueError") = some false
  ki_bool_NoneType : PySem.W.kitOne K (.type "NoneType") (.type "bool") = some false
  ki_bool_bool : PySem.W.kitOne K (.type "bool") (.type "bool") = some true
  ki_bool_int : PySem.W.kitOne K (.type "int") (.type "bool") = some false
  ki_bool_str : PySem.W.kitOne K (.type "str") (.type "bool") = some false
  ki_bool_list : PySem.W.kitOne K (.type "list") (.type "bool") = some false
  ki_bool_tuple : PySem.W.kitOne K (.type "tuple") (.type "bool") = some false
  ki_int_NoneType : PySem.W.kitOne K (.type "NoneType") (.type "int") = some false
  ki_int_bool : PySem.W.kitOne K (.type "bool") (.type "int") = some true
  ki_int_int : PySem.W.kitOne K (.type "int") (.type "int") = some true
  ki_int_str : PySem.W.kitOne K (.type "str") (.type "int") = some false
  ki_int_list : PySem.W.kitOne K (.type "list") (.type "int") = some false
  ki_int_tuple : PySem.W.kitOne K (.type "tuple") (.type "int") = some false
  ki_list_NoneType : PySem.W.kitOne K (.type "NoneType") (.type "list") = some false
  ki_list_bool : PySem.W.kitOne K (.type "bool") (.type "list") = some false
  ki_list_int : PySem.W.kitOne K (.type "int") (.type "list") = some false
  ki_list_str : PySem.W.kitOne K (.type "str") (.type "list") = some false
  ki_list_list : PySem.W.kitOne K (.type "list") (.type "list") = some true
  ki_list_tuple : PySem.W.kitOne K (.type "tuple") (.type "list") = some false
  ki_str_NoneType : PySem.W.kitOne K (.type "NoneType") (.type "str") = some false
  ki_str_bool : PySem.W.kitOne K (.type "bool") (.type "str") = some false
  ki_str_int : PySem.W.kitOne K (.type "int") (.type "str") = some false
  ki_str_str : PySem.W.kitOne K (.type "str") (.type "str") = some true
  ki_str_list : PySem.W.kitOne K (.type "list") (.type "str") = some false
  ki_str_tuple : PySem.W.kitOne K (.type "tuple") (.type "str") = some false
  ki_tuple_NoneType : PySem.W.kitOne K (.type "NoneType") (.type "tuple") = some false
  ki_tuple_bool : PySem.W.kitOne K (.type "bool") (.type "tuple") = some false
  ki_tuple_int : PySem.W.kitOne K (.type "int") (.type "tuple") = some false
  ki_tuple_str : PySem.W.kitOne K (.type "str") (.type "tuple") = some false
  ki_tuple_list : PySem.W.kitOne K (.type "list") (.type "tuple") = some false
  ki_tuple_tuple : PySem.W.kitOne K (.type "tuple") (.type "tuple") = some true
theorem fa_ {K : PySem.W.Frag} (h : ex K = true) (i : Nat) {b : Bool} (e : (facts K)[i]? = some b) : b = true := List.all_eq_true.mp h b (List.mem_of_getElem? e)
theorem tx {K : PySem.W.Frag} {h : Heap} {mg : Str → Option Value} (X : K.In h) (G : h.Ns mainGlobals mg) (c : ex K = true) : Tx K mg := by
  have fa : ∀ (i : Nat) {b : Bool} (e : (facts K)[i]? = some b := by rfl), b = true := fun i b e => fa_ c i e
  exact {
    fxb_at := fa 0
    fxb_code := fa 1
    fxb_corner := fa 2
    fxb_given := fa 3
    fxb_index := fa 4
    fxb_line := fa 5
    fxb_most := fa 6
    fxb_name := fa 7
    fxb_one := fa 8
    fxb_other := fa 9
    fxb_side := fa 10
    fxb_value := fa 11
    g_DuplicateName := He.glo_ok X G (fa 12)
    g_GustError := He.glo_ok X G (fa 13)
    g_InvalidChord := He.glo_ok X G (fa 14)
    g_InvalidCorners := He.glo_ok X G (fa 15)
    g_InvalidCount := He.glo_ok X G (fa 16)
    g_InvalidDeed := He.glo_ok X G (fa 17)
    g_InvalidLimit := He.glo_ok X G (fa 18)
    g_InvalidName := He.glo_ok X G (fa 19)
    g_InvalidPlace := He.glo_ok X G (fa 20)
    g_InvalidRatio := He.glo_ok X G (fa 21)
    g_InvalidRound := He.glo_ok X G (fa 22)
    g_InvalidSpan := He.glo_ok X G (fa 23)
    g_InvalidText := He.glo_ok X G (fa 24)
    g_InvalidTiles := He.glo_ok X G (fa 25)
    g_InvalidWall := He.glo_ok X G (fa 26)
    g_InvalidWinds := He.glo_ok X G (fa 27)
    g_LooseCorner := He.glo_ok X G (fa 28)
    g_MarkedSide := He.glo_ok X G (fa 29)
    g_Missing := He.glo_ok X G (fa 30)
    g_NotConvex := He.glo_ok X G (fa 31)
    g_NotJoined := He.glo_ok X G (fa 32)
    g_NothingLeft := He.glo_ok X G (fa 33)
    g_Overlap := He.glo_ok X G (fa 34)
    g_SplitSide := He.glo_ok X G (fa 35)
    g_TooFar := He.glo_ok X G (fa 36)
    g_TooMany := He.glo_ok X G (fa 37)
    g_UnknownMark := He.glo_ok X G (fa 38)
    g_UnknownSide := He.glo_ok X G (fa 39)
    g_UnknownTile := He.glo_ok X G (fa 40)
    g__law_errors_so := He.glo_ok X G (fa 41)
    g__law_fields := He.glo_ok X G (fa 42)
    g__law_kinds_apart := He.glo_ok X G (fa 43)
    g__law_pick := He.glo_ok X G (fa 44)
    g__law_pull := He.glo_ok X G (fa 45)
    g__law_same := He.glo_ok X G (fa 46)
    g__law_sort := He.glo_ok X G (fa 47)
    g__law_start := He.glo_ok X G (fa 48)
    g__law_stray := He.glo_ok X G (fa 49)
    g_law := He.glo_ok X G (fa 50)
    ix_GustError := fa 51
    ix_IndexError := fa 52
    ix_InvalidName := fa 53
    ix_InvalidPlace := fa 54
    ix_InvalidSpan := fa 55
    ix_InvalidText := fa 56
    ix_InvalidWall := fa 57
    ix_LookupError := fa 58
    ix_Missing := fa 59
    ix_TooMany := fa 60
    ix_UnknownMark := fa 61
    ix_ValueError := fa 62
    k__law_errors_so := fa 63
    k__law_fields := fa 64
    k__law_kinds_apart := fa 65
    k__law_pick := fa 66
    k__law_pull := fa 67
    k__law_same := fa 68
    k__law_sort := fa 69
    k__law_start := fa 70
    k__law_stray := fa 71
    tk_DuplicateName_code := of_decide_eq_true (fa 72)
    tk_DuplicateName_name := of_decide_eq_true (fa 73)
    tk_InvalidChord_code := of_decide_eq_true (fa 74)
    tk_InvalidChord_one := of_decide_eq_true (fa 75)
    tk_InvalidChord_other := of_decide_eq_true (fa 76)
    tk_InvalidCorners_at := of_decide_eq_true (fa 77)
    tk_InvalidCorners_code := of_decide_eq_true (fa 78)
    tk_InvalidCount_code := of_decide_eq_true (fa 79)
    tk_InvalidCount_given := of_decide_eq_true (fa 80)
    tk_InvalidDeed_code := of_decide_eq_true (fa 81)
    tk_InvalidDeed_index := of_decide_eq_true (fa 82)
    tk_InvalidLimit_code := of_decide_eq_true (fa 83)
    tk_InvalidLimit_given := of_decide_eq_true (fa 84)
    tk_InvalidName_code := of_decide_eq_true (fa 85)
    tk_InvalidName_name := of_decide_eq_true (fa 86)
    tk_InvalidPlace_code := of_decide_eq_true (fa 87)
    tk_InvalidPlace_value := of_decide_eq_true (fa 88)
    tk_InvalidRatio_code := of_decide_eq_true (fa 89)
    tk_InvalidRatio_given := of_decide_eq_true (fa 90)
    tk_InvalidRound_code := of_decide_eq_true (fa 91)
    tk_InvalidRound_value := of_decide_eq_true (fa 92)
    tk_InvalidSpan_code := of_decide_eq_true (fa 93)
    tk_InvalidSpan_given := of_decide_eq_true (fa 94)
    tk_InvalidText_code := of_decide_eq_true (fa 95)
    tk_InvalidText_line := of_decide_eq_true (fa 96)
    tk_InvalidTiles_at := of_decide_eq_true (fa 97)
    tk_InvalidTiles_code := of_decide_eq_true (fa 98)
    tk_InvalidWall_code := of_decide_eq_true (fa 99)
    tk_InvalidWall_side := of_decide_eq_true (fa 100)
    tk_InvalidWinds_code := of_decide_eq_true (fa 101)
    tk_LooseCorner_code := of_decide_eq_true (fa 102)
    tk_LooseCorner_corner := of_decide_eq_true (fa 103)
    tk_MarkedSide_code := of_decide_eq_true (fa 104)
    tk_MarkedSide_side := of_decide_eq_true (fa 105)
    tk_NotConvex_code := of_decide_eq_true (fa 106)
    tk_NotJoined_code := of_decide_eq_true (fa 107)
    tk_NotJoined_one := of_decide_eq_true (fa 108)
    tk_NotJoined_other := of_decide_eq_true (fa 109)
    tk_NothingLeft_code := of_decide_eq_true (fa 110)
    tk_Overlap_code := of_decide_eq_true (fa 111)
    tk_Overlap_one := of_decide_eq_true (fa 112)
    tk_Overlap_other := of_decide_eq_true (fa 113)
    tk_SplitSide_code := of_decide_eq_true (fa 114)
    tk_SplitSide_side := of_decide_eq_true (fa 115)
    tk_TooFar_code := of_decide_eq_true (fa 116)
    tk_TooFar_most := of_decide_eq_true (fa 117)
    tk_TooMany_code := of_decide_eq_true (fa 118)
    tk_TooMany_most := of_decide_eq_true (fa 119)
    tk_UnknownMark_code := of_decide_eq_true (fa 120)
    tk_UnknownMark_name := of_decide_eq_true (fa 121)
    tk_UnknownSide_code := of_decide_eq_true (fa 122)
    tk_UnknownSide_side := of_decide_eq_true (fa 123)
    tk_UnknownTile_code := of_decide_eq_true (fa 124)
    tk_UnknownTile_name := of_decide_eq_true (fa 125)
    xc_DuplicateName := xcB_ok Xq.xbV (fa 126)
    xc_InvalidChord := xcB_ok Xq.xbV (fa 127)
    xc_InvalidCorners := xcB_ok Xq.xbV (fa 128)
    xc_InvalidCount := xcB_ok Xq.xbV (fa 129)
    xc_InvalidDeed := xcB_ok Xq.xbV (fa 130)
    xc_InvalidLimit := xcB_ok Xq.xbV (fa 131)
    xc_InvalidName := xcB_ok Xq.xbV (fa 132)
    xc_InvalidPlace := xcB_ok Xq.xbV (fa 133)
    xc_InvalidRatio := xcB_ok Xq.xbV (fa 134)
    xc_InvalidRound := xcB_ok Xq.xbV (fa 135)
    xc_InvalidSpan := xcB_ok Xq.xbV (fa 136)
    xc_InvalidText := xcB_ok Xq.xbV (fa 137)
    xc_InvalidTiles := xcB_ok Xq.xbV (fa 138)
    xc_InvalidWall := xcB_ok Xq.xbV (fa 139)
    xc_InvalidWinds := xcB_ok Xq.xbV (fa 140)
    xc_LooseCorner := xcB_ok Xq.xbV (fa 141)
    xc_MarkedSide := xcB_ok Xq.xbV (fa 142)
    xc_NotConvex := xcB_ok Xq.xbV (fa 143)
    xc_NotJoined := xcB_ok Xq.xbV (fa 144)
    xc_NothingLeft := xcB_ok Xq.xbI (fa 145)
    xc_Overlap := xcB_ok Xq.xbV (fa 146)
    xc_SplitSide := xcB_ok Xq.xbV (fa 147)
    xc_TooFar := xcB_ok Xq.xbV (fa 148)
    xc_TooMany := xcB_ok Xq.xbV (fa 149)
    xc_UnknownMark := xcB_ok Xq.xbL (fa 150)
    xc_UnknownSide := xcB_ok Xq.xbL (fa 151)
    xc_UnknownTile := xcB_ok Xq.xbL (fa 152)
    xi_DuplicateName := fa 153
    xi_InvalidChord := fa 154
    xi_InvalidCorners := fa 155
    xi_InvalidCount := fa 156
    xi_InvalidDeed := fa 157
    xi_InvalidLimit := fa 158
    xi_InvalidName := fa 159
    xi_InvalidPlace := fa 160
    xi_InvalidRatio := fa 161
    xi_InvalidRound := fa 162
    xi_InvalidSpan := fa 163
    xi_InvalidText := fa 164
    xi_InvalidTiles := fa 165
    xi_InvalidWall := fa 166
    xi_InvalidWinds := fa 167
    xi_LooseCorner := fa 168
    xi_MarkedSide := fa 169
    xi_NotConvex := fa 170
    xi_NotJoined := fa 171
    xi_NothingLeft := fa 172
    xi_Overlap := fa 173
    xi_SplitSide := fa 174
    xi_TooFar := fa 175
    xi_TooMany := fa 176
    xi_UnknownMark := fa 177
    xi_UnknownSide := fa 178
    xi_UnknownTile := fa 179
    z_IndexError := He.free_ok X G (fa 180)
    z_LookupError := He.free_ok X G (fa 181)
    z_ValueError := He.free_ok X G (fa 182)
    z_all := He.free_ok X G (fa 183)
    z_bool := He.free_ok X G (fa 184)
    z_int := He.free_ok X G (fa 185)
    z_isinstance := He.free_ok X G (fa 186)
    z_len := He.free_ok X G (fa 187)
    z_list := He.free_ok X G (fa 188)
    z_str := He.free_ok X G (fa 189)
    z_super := He.free_ok X G (fa 190)
    z_tuple := He.free_ok X G (fa 191)
    z_zip := He.free_ok X G (fa 192)
    ki_GustError_NoneType := of_decide_eq_true (fa 193)
    ki_GustError_bool := of_decide_eq_true (fa 194)
    ki_GustError_int := of_decide_eq_true (fa 195)
    ki_GustError_str := of_decide_eq_true (fa 196)
    ki_GustError_list := of_decide_eq_true (fa 197)
    ki_GustError_tuple := of_decide_eq_true (fa 198)
    ki_IndexError_NoneType := of_decide_eq_true (fa 199)
    ki_IndexError_bool := of_decide_eq_true (fa 200)
    ki_IndexError_int := of_decide_eq_true (fa 201)
    ki_IndexError_str := of_decide_eq_true (fa 202)
    ki_IndexError_list := of_decide_eq_true (fa 203)
    ki_IndexError_tuple := of_decide_eq_true (fa 204)
    ki_InvalidName_NoneType := of_decide_eq_true (fa 205)
    ki_InvalidName_bool := of_decide_eq_true (fa 206)
    ki_InvalidName_int := of_decide_eq_true (fa 207)
    ki_InvalidName_str := of_decide_eq_true (fa 208)
    ki_InvalidName_list := of_decide_eq_true (fa 209)
    ki_InvalidName_tuple := of_decide_eq_true (fa 210)
    ki_InvalidPlace_NoneType := of_decide_eq_true (fa 211)
    ki_InvalidPlace_bool := of_decide_eq_true (fa 212)
    ki_InvalidPlace_int := of_decide_eq_true (fa 213)
    ki_InvalidPlace_str := of_decide_eq_true (fa 214)
    ki_InvalidPlace_list := of_decide_eq_true (fa 215)
    ki_InvalidPlace_tuple := of_decide_eq_true (fa 216)
    ki_InvalidSpan_NoneType := of_decide_eq_true (fa 217)
    ki_InvalidSpan_bool := of_decide_eq_true (fa 218)
    ki_InvalidSpan_int := of_decide_eq_true (fa 219)
    ki_InvalidSpan_str := of_decide_eq_true (fa 220)
    ki_InvalidSpan_list := of_decide_eq_true (fa 221)
    ki_InvalidSpan_tuple := of_decide_eq_true (fa 222)
    ki_InvalidText_NoneType := of_decide_eq_true (fa 223)
    ki_InvalidText_bool := of_decide_eq_true (fa 224)
    ki_InvalidText_int := of_decide_eq_true (fa 225)
    ki_InvalidText_str := of_decide_eq_true (fa 226)
    ki_InvalidText_list := of_decide_eq_true (fa 227)
    ki_InvalidText_tuple := of_decide_eq_true (fa 228)
    ki_InvalidWall_NoneType := of_decide_eq_true (fa 229)
    ki_InvalidWall_bool := of_decide_eq_true (fa 230)
    ki_InvalidWall_int := of_decide_eq_true (fa 231)
    ki_InvalidWall_str := of_decide_eq_true (fa 232)
    ki_InvalidWall_list := of_decide_eq_true (fa 233)
    ki_InvalidWall_tuple := of_decide_eq_true (fa 234)
    ki_LookupError_NoneType := of_decide_eq_true (fa 235)
    ki_LookupError_bool := of_decide_eq_true (fa 236)
    ki_LookupError_int := of_decide_eq_true (fa 237)
    ki_LookupError_str := of_decide_eq_true (fa 238)
    ki_LookupError_list := of_decide_eq_true (fa 239)
    ki_LookupError_tuple := of_decide_eq_true (fa 240)
    ki_Missing_NoneType := of_decide_eq_true (fa 241)
    ki_Missing_bool := of_decide_eq_true (fa 242)
    ki_Missing_int := of_decide_eq_true (fa 243)
    ki_Missing_str := of_decide_eq_true (fa 244)
    ki_Missing_list := of_decide_eq_true (fa 245)
    ki_Missing_tuple := of_decide_eq_true (fa 246)
    ki_TooMany_NoneType := of_decide_eq_true (fa 247)
    ki_TooMany_bool := of_decide_eq_true (fa 248)
    ki_TooMany_int := of_decide_eq_true (fa 249)
    ki_TooMany_str := of_decide_eq_true (fa 250)
    ki_TooMany_list := of_decide_eq_true (fa 251)
    ki_TooMany_tuple := of_decide_eq_true (fa 252)
    ki_UnknownMark_NoneType := of_decide_eq_true (fa 253)
    ki_UnknownMark_bool := of_decide_eq_true (fa 254)
    ki_UnknownMark_int := of_decide_eq_true (fa 255)
    ki_UnknownMark_str := of_decide_eq_true (fa 256)
    ki_UnknownMark_list := of_decide_eq_true (fa 257)
    ki_UnknownMark_tuple := of_decide_eq_true (fa 258)
    ki_ValueError_NoneType := of_decide_eq_true (fa 259)
    ki_ValueError_bool := of_decide_eq_true (fa 260)
    ki_ValueError_int := of_decide_eq_true (fa 261)
    ki_ValueError_str := of_decide_eq_true (fa 262)
    ki_ValueError_list := of_decide_eq_true (fa 263)
    ki_ValueError_tuple := of_decide_eq_true (fa 264)
    ki_bool_NoneType := of_decide_eq_true (fa 265)
    ki_bool_bool := of_decide_eq_true (fa 266)
    ki_bool_int := of_decide_eq_true (fa 267)
    ki_bool_str := of_decide_eq_true (fa 268)
    ki_bool_list := of_decide_eq_true (fa 269)
    ki_bool_tuple := of_decide_eq_true (fa 270)
    ki_int_NoneType := of_decide_eq_true (fa 271)
    ki_int_bool := of_decide_eq_true (fa 272)
    ki_int_int := of_decide_eq_true (fa 273)
    ki_int_str := of_decide_eq_true (fa 274)
    ki_int_list := of_decide_eq_true (fa 275)
    ki_int_tuple := of_decide_eq_true (fa 276)
    ki_list_NoneType := of_decide_eq_true (fa 277)
    ki_list_bool := of_decide_eq_true (fa 278)
    ki_list_int := of_decide_eq_true (fa 279)
    ki_list_str := of_decide_eq_true (fa 280)
    ki_list_list := of_decide_eq_true (fa 281)
    ki_list_tuple := of_decide_eq_true (fa 282)
    ki_str_NoneType := of_decide_eq_true (fa 283)
    ki_str_bool := of_decide_eq_true (fa 284)
    ki_str_int := of_decide_eq_true (fa 285)
    ki_str_str := of_decide_eq_true (fa 286)
    ki_str_list := of_decide_eq_true (fa 287)
    ki_str_tuple := of_decide_eq_true (fa 288)
    ki_tuple_NoneType := of_decide_eq_true (fa 289)
    ki_tuple_bool := of_decide_eq_true (fa 290)
    ki_tuple_int := of_decide_eq_true (fa 291)
    ki_tuple_str := of_decide_eq_true (fa 292)
    ki_tuple_list := of_decide_eq_true (fa 293)
    ki_tuple_tuple := of_decide_eq_true (fa 294)
  }
theorem Tx.isi_GustError {K : PySem.W.Frag} {mg : Str → Option Value} (T : Tx K mg) : ∀ t b, Row.isi_GustError t = some b → PySem.W.kitOne K (t.val (pg K)) (.ref (He.ga K "GustError")) = some b ∧ ∀ c, t = .own c → IsC (pg K) K c := by
  intro t b h
  cases t with
  | bi n =>
    refine ⟨?_, fun c z => nomatch z⟩
    obtain h := lookup_mem h
    simp only [List.mem_cons, List.not_mem_nil, or_false, Prod.mk.injEq] at h
    rcases h with ⟨rfl, rfl⟩ | ⟨rfl, rfl⟩ | ⟨rfl, rfl⟩ | ⟨rfl, rfl⟩ | ⟨rfl, rfl⟩ | ⟨rfl, rfl⟩
    · exact T.ki_GustError_NoneType
    · exact T.ki_GustError_bool
    · exact T.ki_GustError_int
    · exact T.ki_GustError_str
    · exact T.ki_GustError_list
    · exact T.ki_GustError_tuple
  | own k => exact absurd (lookup_mem h) (by simp)
theorem Tx.isi_IndexError {K : PySem.W.Frag} {mg : Str → Option Value} (T : Tx K mg) : ∀ t b, Row.isi_IndexError t = some b → PySem.W.kitOne K (t.val (pg K)) (.type "IndexError") = some b ∧ ∀ c, t = .own c → IsC (pg K) K c := by
  intro t b h
  cases t with
  | bi n =>
    refine ⟨?_, fun c z => nomatch z⟩
    obtain h := lookup_mem h
    simp only [List.mem_cons, List.not_mem_nil, or_false, Prod.mk.injEq] at h
    rcases h with ⟨rfl, rfl⟩ | ⟨rfl, rfl⟩ | ⟨rfl, rfl⟩ | ⟨rfl, rfl⟩ | ⟨rfl, rfl⟩ | ⟨rfl, rfl⟩
    · exact T.ki_IndexError_NoneType
    · exact T.ki_IndexError_bool
    · exact T.ki_IndexError_int
    · exact T.ki_IndexError_str
    · exact T.ki_IndexError_list
    · exact T.ki_IndexError_tuple
  | own k => exact absurd (lookup_mem h) (by simp)
theorem Tx.isi_InvalidName {K : PySem.W.Frag} {mg : Str → Option Value} (T : Tx K mg) : ∀ t b, Row.isi_InvalidName t = some b → PySem.W.kitOne K (t.val (pg K)) (.ref (He.ga K "InvalidName")) = some b ∧ ∀ c, t = .own c → IsC (pg K) K c := by
  intro t b h
  cases t with
  | bi n =>
    refine ⟨?_, fun c z => nomatch z⟩
    obtain h := lookup_mem h
    simp only [List.mem_cons, List.not_mem_nil, or_false, Prod.mk.injEq] at h
    rcases h with ⟨rfl, rfl⟩ | ⟨rfl, rfl⟩ | ⟨rfl, rfl⟩ | ⟨rfl, rfl⟩ | ⟨rfl, rfl⟩ | ⟨rfl, rfl⟩
    · exact T.ki_InvalidName_NoneType
    · exact T.ki_InvalidName_bool
    · exact T.ki_InvalidName_int
    · exact T.ki_InvalidName_str
    · exact T.ki_InvalidName_list
    · exact T.ki_InvalidName_tuple
  | own k => exact absurd (lookup_mem h) (by simp)
theorem Tx.isi_InvalidPlace {K : PySem.W.Frag} {mg : Str → Option Value} (T : Tx K mg) : ∀ t b, Row.isi_InvalidPlace t = some b → PySem.W.kitOne K (t.val (pg K)) (.ref (He.ga K "InvalidPlace")) = some b ∧ ∀ c, t = .own c → IsC (pg K) K c := by
  intro t b h
  cases t with
  | bi n =>
    refine ⟨?_, fun c z => nomatch z⟩
    obtain h := lookup_mem h
    simp only [List.mem_cons, List.not_mem_nil, or_false, Prod.mk.injEq] at h
    rcases h with ⟨rfl, rfl⟩ | ⟨rfl, rfl⟩ | ⟨rfl, rfl⟩ | ⟨rfl, rfl⟩ | ⟨rfl, rfl⟩ | ⟨rfl, rfl⟩
    · exact T.ki_InvalidPlace_NoneType
    · exact T.ki_InvalidPlace_bool
    · exact T.ki_InvalidPlace_int
    · exact T.ki_InvalidPlace_str
    · exact T.ki_InvalidPlace_list
    · exact T.ki_InvalidPlace_tuple
  | own k => exact absurd (lookup_mem h) (by simp)
theorem Tx.isi_InvalidSpan {K : PySem.W.Frag} {mg : Str → Option Value} (T : Tx K mg) : ∀ t b, Row.isi_InvalidSpan t = some b → PySem.W.kitOne K (t.val (pg K)) (.ref (He.ga K "InvalidSpan")) = some b ∧ ∀ c, t = .own c → IsC (pg K) K c := by
  intro t b h
  cases t with
  | bi n =>
    refine ⟨?_, fun c z => nomatch z⟩
    obtain h := lookup_mem h
    simp only [List.mem_cons, List.not_mem_nil, or_false, Prod.mk.injEq] at h
    rcases h with ⟨rfl, rfl⟩ | ⟨rfl, rfl⟩ | ⟨rfl, rfl⟩ | ⟨rfl, rfl⟩ | ⟨rfl, rfl⟩ | ⟨rfl, rfl⟩
    · exact T.ki_InvalidSpan_NoneType
    · exact T.ki_InvalidSpan_bool
    · exact T.ki_InvalidSpan_int
    · exact T.ki_InvalidSpan_str
    · exact T.ki_InvalidSpan_list
    · exact T.ki_InvalidSpan_tuple
  | own k => exact absurd (lookup_mem h) (by simp)
theorem Tx.isi_InvalidText {K : PySem.W.Frag} {mg : Str → Option Value} (T : Tx K mg) : ∀ t b, Row.isi_InvalidText t = some b → PySem.W.kitOne K (t.val (pg K)) (.ref (He.ga K "InvalidText")) = some b ∧ ∀ c, t = .own c → IsC (pg K) K c := by
  intro t b h
  cases t with
  | bi n =>
    refine ⟨?_, fun c z => nomatch z⟩
    obtain h := lookup_mem h
    simp only [List.mem_cons, List.not_mem_nil, or_false, Prod.mk.injEq] at h
    rcases h with ⟨rfl, rfl⟩ | ⟨rfl, rfl⟩ | ⟨rfl, rfl⟩ | ⟨rfl, rfl⟩ | ⟨rfl, rfl⟩ | ⟨rfl, rfl⟩
    · exact T.ki_InvalidText_NoneType
    · exact T.ki_InvalidText_bool
    · exact T.ki_InvalidText_int
    · exact T.ki_InvalidText_str
    · exact T.ki_InvalidText_list
    · exact T.ki_InvalidText_tuple
  | own k => exact absurd (lookup_mem h) (by simp)
theorem Tx.isi_InvalidWall {K : PySem.W.Frag} {mg : Str → Option Value} (T : Tx K mg) : ∀ t b, Row.isi_InvalidWall t = some b → PySem.W.kitOne K (t.val (pg K)) (.ref (He.ga K "InvalidWall")) = some b ∧ ∀ c, t = .own c → IsC (pg K) K c := by
  intro t b h
  cases t with
  | bi n =>
    refine ⟨?_, fun c z => nomatch z⟩
    obtain h := lookup_mem h
    simp only [List.mem_cons, List.not_mem_nil, or_false, Prod.mk.injEq] at h
    rcases h with ⟨rfl, rfl⟩ | ⟨rfl, rfl⟩ | ⟨rfl, rfl⟩ | ⟨rfl, rfl⟩ | ⟨rfl, rfl⟩ | ⟨rfl, rfl⟩
    · exact T.ki_InvalidWall_NoneType
    · exact T.ki_InvalidWall_bool
    · exact T.ki_InvalidWall_int
    · exact T.ki_InvalidWall_str
    · exact T.ki_InvalidWall_list
    · exact T.ki_InvalidWall_tuple
  | own k => exact absurd (lookup_mem h) (by simp)
theorem Tx.isi_LookupError {K : PySem.W.Frag} {mg : Str → Option Value} (T : Tx K mg) : ∀ t b, Row.isi_LookupError t = some b → PySem.W.kitOne K (t.val (pg K)) (.type "LookupError") = some b ∧ ∀ c, t = .own c → IsC (pg K) K c := by
  intro t b h
  cases t with
  | bi n =>
    refine ⟨?_, fun c z => nomatch z⟩
    obtain h := lookup_mem h
    simp only [List.mem_cons, List.not_mem_nil, or_false, Prod.mk.injEq] at h
    rcases h with ⟨rfl, rfl⟩ | ⟨rfl, rfl⟩ | ⟨rfl, rfl⟩ | ⟨rfl, rfl⟩ | ⟨rfl, rfl⟩ | ⟨rfl, rfl⟩
    · exact T.ki_LookupError_NoneType
    · exact T.ki_LookupError_bool
    · exact T.ki_LookupError_int
    · exact T.ki_LookupError_str
    · exact T.ki_LookupError_list
    · exact T.ki_LookupError_tuple
  | own k => exact absurd (lookup_mem h) (by simp)
theorem Tx.isi_Missing {K : PySem.W.Frag} {mg : Str → Option Value} (T : Tx K mg) : ∀ t b, Row.isi_Missing t = some b → PySem.W.kitOne K (t.val (pg K)) (.ref (He.ga K "Missing")) = some b ∧ ∀ c, t = .own c → IsC (pg K) K c := by
  intro t b h
  cases t with
  | bi n =>
    refine ⟨?_, fun c z => nomatch z⟩
    obtain h := lookup_mem h
    simp only [List.mem_cons, List.not_mem_nil, or_false, Prod.mk.injEq] at h
    rcases h with ⟨rfl, rfl⟩ | ⟨rfl, rfl⟩ | ⟨rfl, rfl⟩ | ⟨rfl, rfl⟩ | ⟨rfl, rfl⟩ | ⟨rfl, rfl⟩
    · exact T.ki_Missing_NoneType
    · exact T.ki_Missing_bool
    · exact T.ki_Missing_int
    · exact T.ki_Missing_str
    · exact T.ki_Missing_list
    · exact T.ki_Missing_tuple
  | own k => exact absurd (lookup_mem h) (by simp)
theorem Tx.isi_TooMany {K : PySem.W.Frag} {mg : Str → Option Value} (T : Tx K mg) : ∀ t b, Row.isi_TooMany t = some b → PySem.W.kitOne K (t.val (pg K)) (.ref (He.ga K "TooMany")) = some b ∧ ∀ c, t = .own c → IsC (pg K) K c := by
  intro t b h
  cases t with
  | bi n =>
    refine ⟨?_, fun c z => nomatch z⟩
    obtain h := lookup_mem h
    simp only [List.mem_cons, List.not_mem_nil, or_false, Prod.mk.injEq] at h
    rcases h with ⟨rfl, rfl⟩ | ⟨rfl, rfl⟩ | ⟨rfl, rfl⟩ | ⟨rfl, rfl⟩ | ⟨rfl, rfl⟩ | ⟨rfl, rfl⟩
    · exact T.ki_TooMany_NoneType
    · exact T.ki_TooMany_bool
    · exact T.ki_TooMany_int
    · exact T.ki_TooMany_str
    · exact T.ki_TooMany_list
    · exact T.ki_TooMany_tuple
  | own k => exact absurd (lookup_mem h) (by simp)
theorem Tx.isi_UnknownMark {K : PySem.W.Frag} {mg : Str → Option Value} (T : Tx K mg) : ∀ t b, Row.isi_UnknownMark t = some b → PySem.W.kitOne K (t.val (pg K)) (.ref (He.ga K "UnknownMark")) = some b ∧ ∀ c, t = .own c → IsC (pg K) K c := by
  intro t b h
  cases t with
  | bi n =>
    refine ⟨?_, fun c z => nomatch z⟩
    obtain h := lookup_mem h
    simp only [List.mem_cons, List.not_mem_nil, or_false, Prod.mk.injEq] at h
    rcases h with ⟨rfl, rfl⟩ | ⟨rfl, rfl⟩ | ⟨rfl, rfl⟩ | ⟨rfl, rfl⟩ | ⟨rfl, rfl⟩ | ⟨rfl, rfl⟩
    · exact T.ki_UnknownMark_NoneType
    · exact T.ki_UnknownMark_bool
    · exact T.ki_UnknownMark_int
    · exact T.ki_UnknownMark_str
    · exact T.ki_UnknownMark_list
    · exact T.ki_UnknownMark_tuple
  | own k => exact absurd (lookup_mem h) (by simp)
theorem Tx.isi_ValueError {K : PySem.W.Frag} {mg : Str → Option Value} (T : Tx K mg) : ∀ t b, Row.isi_ValueError t = some b → PySem.W.kitOne K (t.val (pg K)) (.type "ValueError") = some b ∧ ∀ c, t = .own c → IsC (pg K) K c := by
  intro t b h
  cases t with
  | bi n =>
    refine ⟨?_, fun c z => nomatch z⟩
    obtain h := lookup_mem h
    simp only [List.mem_cons, List.not_mem_nil, or_false, Prod.mk.injEq] at h
    rcases h with ⟨rfl, rfl⟩ | ⟨rfl, rfl⟩ | ⟨rfl, rfl⟩ | ⟨rfl, rfl⟩ | ⟨rfl, rfl⟩ | ⟨rfl, rfl⟩
    · exact T.ki_ValueError_NoneType
    · exact T.ki_ValueError_bool
    · exact T.ki_ValueError_int
    · exact T.ki_ValueError_str
    · exact T.ki_ValueError_list
    · exact T.ki_ValueError_tuple
  | own k => exact absurd (lookup_mem h) (by simp)
theorem Tx.isi_bool {K : PySem.W.Frag} {mg : Str → Option Value} (T : Tx K mg) : ∀ t b, Row.isi_bool t = some b → PySem.W.kitOne K (t.val (pg K)) (.type "bool") = some b ∧ ∀ c, t = .own c → IsC (pg K) K c := by
  intro t b h
  cases t with
  | bi n =>
    refine ⟨?_, fun c z => nomatch z⟩
    obtain h := lookup_mem h
    simp only [List.mem_cons, List.not_mem_nil, or_false, Prod.mk.injEq] at h
    rcases h with ⟨rfl, rfl⟩ | ⟨rfl, rfl⟩ | ⟨rfl, rfl⟩ | ⟨rfl, rfl⟩ | ⟨rfl, rfl⟩ | ⟨rfl, rfl⟩
    · exact T.ki_bool_NoneType
    · exact T.ki_bool_bool
    · exact T.ki_bool_int
    · exact T.ki_bool_str
    · exact T.ki_bool_list
    · exact T.ki_bool_tuple
  | own k => exact absurd (lookup_mem h) (by simp)
theorem Tx.isi_int {K : PySem.W.Frag} {mg : Str → Option Value} (T : Tx K mg) : ∀ t b, Row.isi_int t = some b → PySem.W.kitOne K (t.val (pg K)) (.type "int") = some b ∧ ∀ c, t = .own c → IsC (pg K) K c := by
  intro t b h
  cases t with
  | bi n =>
    refine ⟨?_, fun c z => nomatch z⟩
    obtain h := lookup_mem h
    simp only [List.mem_cons, List.not_mem_nil, or_false, Prod.mk.injEq] at h
    rcases h with ⟨rfl, rfl⟩ | ⟨rfl, rfl⟩ | ⟨rfl, rfl⟩ | ⟨rfl, rfl⟩ | ⟨rfl, rfl⟩ | ⟨rfl, rfl⟩
    · exact T.ki_int_NoneType
    · exact T.ki_int_bool
    · exact T.ki_int_int
    · exact T.ki_int_str
    · exact T.ki_int_list
    · exact T.ki_int_tuple
  | own k => exact absurd (lookup_mem h) (by simp)
theorem Tx.isi_list {K : PySem.W.Frag} {mg : Str → Option Value} (T : Tx K mg) : ∀ t b, Row.isi_list t = some b → PySem.W.kitOne K (t.val (pg K)) (.type "list") = some b ∧ ∀ c, t = .own c → IsC (pg K) K c := by
  intro t b h
  cases t with
  | bi n =>
    refine ⟨?_, fun c z => nomatch z⟩
    obtain h := lookup_mem h
    simp only [List.mem_cons, List.not_mem_nil, or_false, Prod.mk.injEq] at h
    rcases h with ⟨rfl, rfl⟩ | ⟨rfl, rfl⟩ | ⟨rfl, rfl⟩ | ⟨rfl, rfl⟩ | ⟨rfl, rfl⟩ | ⟨rfl, rfl⟩
    · exact T.ki_list_NoneType
    · exact T.ki_list_bool
    · exact T.ki_list_int
    · exact T.ki_list_str
    · exact T.ki_list_list
    · exact T.ki_list_tuple
  | own k => exact absurd (lookup_mem h) (by simp)
theorem Tx.isi_str {K : PySem.W.Frag} {mg : Str → Option Value} (T : Tx K mg) : ∀ t b, Row.isi_str t = some b → PySem.W.kitOne K (t.val (pg K)) (.type "str") = some b ∧ ∀ c, t = .own c → IsC (pg K) K c := by
  intro t b h
  cases t with
  | bi n =>
    refine ⟨?_, fun c z => nomatch z⟩
    obtain h := lookup_mem h
    simp only [List.mem_cons, List.not_mem_nil, or_false, Prod.mk.injEq] at h
    rcases h with ⟨rfl, rfl⟩ | ⟨rfl, rfl⟩ | ⟨rfl, rfl⟩ | ⟨rfl, rfl⟩ | ⟨rfl, rfl⟩ | ⟨rfl, rfl⟩
    · exact T.ki_str_NoneType
    · exact T.ki_str_bool
    · exact T.ki_str_int
    · exact T.ki_str_str
    · exact T.ki_str_list
    · exact T.ki_str_tuple
  | own k => exact absurd (lookup_mem h) (by simp)
theorem Tx.isi_tuple {K : PySem.W.Frag} {mg : Str → Option Value} (T : Tx K mg) : ∀ t b, Row.isi_tuple t = some b → PySem.W.kitOne K (t.val (pg K)) (.type "tuple") = some b ∧ ∀ c, t = .own c → IsC (pg K) K c := by
  intro t b h
  cases t with
  | bi n =>
    refine ⟨?_, fun c z => nomatch z⟩
    obtain h := lookup_mem h
    simp only [List.mem_cons, List.not_mem_nil, or_false, Prod.mk.injEq] at h
    rcases h with ⟨rfl, rfl⟩ | ⟨rfl, rfl⟩ | ⟨rfl, rfl⟩ | ⟨rfl, rfl⟩ | ⟨rfl, rfl⟩ | ⟨rfl, rfl⟩
    · exact T.ki_tuple_NoneType
    · exact T.ki_tuple_bool
    · exact T.ki_tuple_int
    · exact T.ki_tuple_str
    · exact T.ki_tuple_list
    · exact T.ki_tuple_tuple
  | own k => exact absurd (lookup_mem h) (by simp)
theorem Tx.isx_GustError {K : PySem.W.Frag} {mg : Str → Option Value} (T : Tx K mg) : ∀ c b, Row.isx_GustError c = some b → PySem.W.kitOne K (.ref ((pg K).cA c)) (.ref (He.ga K "GustError")) = some b ∧ ExcC K ((pg K).cA c) := by
  intro c b h
  have z := List.all_eq_true.mp T.ix_GustError (c, b) (lookup_mem h)
  rw [Bool.and_eq_true] at z
  exact ⟨of_decide_eq_true z.1, excCB_ok z.2⟩
theorem Tx.isx_IndexError {K : PySem.W.Frag} {mg : Str → Option Value} (T : Tx K mg) : ∀ c b, Row.isx_IndexError c = some b → PySem.W.kitOne K (.ref ((pg K).cA c)) (.type "IndexError") = some b ∧ ExcC K ((pg K).cA c) := by
  intro c b h
  have z := List.all_eq_true.mp T.ix_IndexError (c, b) (lookup_mem h)
  rw [Bool.and_eq_true] at z
  exact ⟨of_decide_eq_true z.1, excCB_ok z.2⟩
theorem Tx.isx_InvalidName {K : PySem.W.Frag} {mg : Str → Option Value} (T : Tx K mg) : ∀ c b, Row.isx_InvalidName c = some b → PySem.W.kitOne K (.ref ((pg K).cA c)) (.ref (He.ga K "InvalidName")) = some b ∧ ExcC K ((pg K).cA c) := by
  intro c b h
  have z := List.all_eq_true.mp T.ix_InvalidName (c, b) (lookup_mem h)
  rw [Bool.and_eq_true] at z
  exact ⟨of_decide_eq_true z.1, excCB_ok z.2⟩
theorem Tx.isx_InvalidPlace {K : PySem.W.Frag} {mg : Str → Option Value} (T : Tx K mg) : ∀ c b, Row.isx_InvalidPlace c = some b → PySem.W.kitOne K (.ref ((pg K).cA c)) (.ref (He.ga K "InvalidPlace")) = some b ∧ ExcC K ((pg K).cA c) := by
  intro c b h
  have z := List.all_eq_true.mp T.ix_InvalidPlace (c, b) (lookup_mem h)
  rw [Bool.and_eq_true] at z
  exact ⟨of_decide_eq_true z.1, excCB_ok z.2⟩
theorem Tx.isx_InvalidSpan {K : PySem.W.Frag} {mg : Str → Option Value} (T : Tx K mg) : ∀ c b, Row.isx_InvalidSpan c = some b → PySem.W.kitOne K (.ref ((pg K).cA c)) (.ref (He.ga K "InvalidSpan")) = some b ∧ ExcC K ((pg K).cA c) := by
  intro c b h
  have z := List.all_eq_true.mp T.ix_InvalidSpan (c, b) (lookup_mem h)
  rw [Bool.and_eq_true] at z
  exact ⟨of_decide_eq_true z.1, excCB_ok z.2⟩
theorem Tx.isx_InvalidText {K : PySem.W.Frag} {mg : Str → Option Value} (T : Tx K mg) : ∀ c b, Row.isx_InvalidText c = some b → PySem.W.kitOne K (.ref ((pg K).cA c)) (.ref (He.ga K "InvalidText")) = some b ∧ ExcC K ((pg K).cA c) := by
  intro c b h
  have z := List.all_eq_true.mp T.ix_InvalidText (c, b) (lookup_mem h)
  rw [Bool.and_eq_true] at z
  exact ⟨of_decide_eq_true z.1, excCB_ok z.2⟩
theorem Tx.isx_InvalidWall {K : PySem.W.Frag} {mg : Str → Option Value} (T : Tx K mg) : ∀ c b, Row.isx_InvalidWall c = some b → PySem.W.kitOne K (.ref ((pg K).cA c)) (.ref (He.ga K "InvalidWall")) = some b ∧ ExcC K ((pg K).cA c) := by
  intro c b h
  have z := List.all_eq_true.mp T.ix_InvalidWall (c, b) (lookup_mem h)
  rw [Bool.and_eq_true] at z
  exact ⟨of_decide_eq_true z.1, excCB_ok z.2⟩
theorem Tx.isx_LookupError {K : PySem.W.Frag} {mg : Str → Option Value} (T : Tx K mg) : ∀ c b, Row.isx_LookupError c = some b → PySem.W.kitOne K (.ref ((pg K).cA c)) (.type "LookupError") = some b ∧ ExcC K ((pg K).cA c) := by
  intro c b h
  have z := List.all_eq_true.mp T.ix_LookupError (c, b) (lookup_mem h)
  rw [Bool.and_eq_true] at z
  exact ⟨of_decide_eq_true z.1, excCB_ok z.2⟩
theorem Tx.isx_Missing {K : PySem.W.Frag} {mg : Str → Option Value} (T : Tx K mg) : ∀ c b, Row.isx_Missing c = some b → PySem.W.kitOne K (.ref ((pg K).cA c)) (.ref (He.ga K "Missing")) = some b ∧ ExcC K ((pg K).cA c) := by
  intro c b h
  have z := List.all_eq_true.mp T.ix_Missing (c, b) (lookup_mem h)
  rw [Bool.and_eq_true] at z
  exact ⟨of_decide_eq_true z.1, excCB_ok z.2⟩
theorem Tx.isx_TooMany {K : PySem.W.Frag} {mg : Str → Option Value} (T : Tx K mg) : ∀ c b, Row.isx_TooMany c = some b → PySem.W.kitOne K (.ref ((pg K).cA c)) (.ref (He.ga K "TooMany")) = some b ∧ ExcC K ((pg K).cA c) := by
  intro c b h
  have z := List.all_eq_true.mp T.ix_TooMany (c, b) (lookup_mem h)
  rw [Bool.and_eq_true] at z
  exact ⟨of_decide_eq_true z.1, excCB_ok z.2⟩
theorem Tx.isx_UnknownMark {K : PySem.W.Frag} {mg : Str → Option Value} (T : Tx K mg) : ∀ c b, Row.isx_UnknownMark c = some b → PySem.W.kitOne K (.ref ((pg K).cA c)) (.ref (He.ga K "UnknownMark")) = some b ∧ ExcC K ((pg K).cA c) := by
  intro c b h
  have z := List.all_eq_true.mp T.ix_UnknownMark (c, b) (lookup_mem h)
  rw [Bool.and_eq_true] at z
  exact ⟨of_decide_eq_true z.1, excCB_ok z.2⟩
theorem Tx.isx_ValueError {K : PySem.W.Frag} {mg : Str → Option Value} (T : Tx K mg) : ∀ c b, Row.isx_ValueError c = some b → PySem.W.kitOne K (.ref ((pg K).cA c)) (.type "ValueError") = some b ∧ ExcC K ((pg K).cA c) := by
  intro c b h
  have z := List.all_eq_true.mp T.ix_ValueError (c, b) (lookup_mem h)
  rw [Bool.and_eq_true] at z
  exact ⟨of_decide_eq_true z.1, excCB_ok z.2⟩
theorem Tx.fx_at {K : PySem.W.Frag} {mg : Str → Option Value} (T : Tx K mg) : ∀ c, Row.fx_at c = true → XfC K ((pg K).cA c) ∧ PySem.W.findIn K (.ref ((pg K).cA c)) "at" = some none := by
  intro c h
  have z := List.all_eq_true.mp T.fxb_at c (List.elem_iff.mp h)
  rw [Bool.and_eq_true] at z
  exact ⟨Dq.ExcC.xf (excCB_ok z.1), of_decide_eq_true z.2⟩
theorem Tx.fx_code {K : PySem.W.Frag} {mg : Str → Option Value} (T : Tx K mg) : ∀ c, Row.fx_code c = true → XfC K ((pg K).cA c) ∧ PySem.W.findIn K (.ref ((pg K).cA c)) "code" = some none := by
  intro c h
  have z := List.all_eq_true.mp T.fxb_code c (List.elem_iff.mp h)
  rw [Bool.and_eq_true] at z
  exact ⟨Dq.ExcC.xf (excCB_ok z.1), of_decide_eq_true z.2⟩
theorem Tx.fx_corner {K : PySem.W.Frag} {mg : Str → Option Value} (T : Tx K mg) : ∀ c, Row.fx_corner c = true → XfC K ((pg K).cA c) ∧ PySem.W.findIn K (.ref ((pg K).cA c)) "corner" = some none := by
  intro c h
  have z := List.all_eq_true.mp T.fxb_corner c (List.elem_iff.mp h)
  rw [Bool.and_eq_true] at z
  exact ⟨Dq.ExcC.xf (excCB_ok z.1), of_decide_eq_true z.2⟩
theorem Tx.fx_given {K : PySem.W.Frag} {mg : Str → Option Value} (T : Tx K mg) : ∀ c, Row.fx_given c = true → XfC K ((pg K).cA c) ∧ PySem.W.findIn K (.ref ((pg K).cA c)) "given" = some none := by
  intro c h
  have z := List.all_eq_true.mp T.fxb_given c (List.elem_iff.mp h)
  rw [Bool.and_eq_true] at z
  exact ⟨Dq.ExcC.xf (excCB_ok z.1), of_decide_eq_true z.2⟩
theorem Tx.fx_index {K : PySem.W.Frag} {mg : Str → Option Value} (T : Tx K mg) : ∀ c, Row.fx_index c = true → XfC K ((pg K).cA c) ∧ PySem.W.findIn K (.ref ((pg K).cA c)) "index" = some none := by
  intro c h
  have z := List.all_eq_true.mp T.fxb_index c (List.elem_iff.mp h)
  rw [Bool.and_eq_true] at z
  exact ⟨Dq.ExcC.xf (excCB_ok z.1), of_decide_eq_true z.2⟩
theorem Tx.fx_line {K : PySem.W.Frag} {mg : Str → Option Value} (T : Tx K mg) : ∀ c, Row.fx_line c = true → XfC K ((pg K).cA c) ∧ PySem.W.findIn K (.ref ((pg K).cA c)) "line" = some none := by
  intro c h
  have z := List.all_eq_true.mp T.fxb_line c (List.elem_iff.mp h)
  rw [Bool.and_eq_true] at z
  exact ⟨Dq.ExcC.xf (excCB_ok z.1), of_decide_eq_true z.2⟩
theorem Tx.fx_most {K : PySem.W.Frag} {mg : Str → Option Value} (T : Tx K mg) : ∀ c, Row.fx_most c = true → XfC K ((pg K).cA c) ∧ PySem.W.findIn K (.ref ((pg K).cA c)) "most" = some none := by
  intro c h
  have z := List.all_eq_true.mp T.fxb_most c (List.elem_iff.mp h)
  rw [Bool.and_eq_true] at z
  exact ⟨Dq.ExcC.xf (excCB_ok z.1), of_decide_eq_true z.2⟩
theorem Tx.fx_name {K : PySem.W.Frag} {mg : Str → Option Value} (T : Tx K mg) : ∀ c, Row.fx_name c = true → XfC K ((pg K).cA c) ∧ PySem.W.findIn K (.ref ((pg K).cA c)) "name" = some none := by
  intro c h
  have z := List.all_eq_true.mp T.fxb_name c (List.elem_iff.mp h)
  rw [Bool.and_eq_true] at z
  exact ⟨Dq.ExcC.xf (excCB_ok z.1), of_decide_eq_true z.2⟩
theorem Tx.fx_one {K : PySem.W.Frag} {mg : Str → Option Value} (T : Tx K mg) : ∀ c, Row.fx_one c = true → XfC K ((pg K).cA c) ∧ PySem.W.findIn K (.ref ((pg K).cA c)) "one" = some none := by
  intro c h
  have z := List.all_eq_true.mp T.fxb_one c (List.elem_iff.mp h)
  rw [Bool.and_eq_true] at z
  exact ⟨Dq.ExcC.xf (excCB_ok z.1), of_decide_eq_true z.2⟩
theorem Tx.fx_other {K : PySem.W.Frag} {mg : Str → Option Value} (T : Tx K mg) : ∀ c, Row.fx_other c = true → XfC K ((pg K).cA c) ∧ PySem.W.findIn K (.ref ((pg K).cA c)) "other" = some none := by
  intro c h
  have z := List.all_eq_true.mp T.fxb_other c (List.elem_iff.mp h)
  rw [Bool.and_eq_true] at z
  exact ⟨Dq.ExcC.xf (excCB_ok z.1), of_decide_eq_true z.2⟩
theorem Tx.fx_side {K : PySem.W.Frag} {mg : Str → Option Value} (T : Tx K mg) : ∀ c, Row.fx_side c = true → XfC K ((pg K).cA c) ∧ PySem.W.findIn K (.ref ((pg K).cA c)) "side" = some none := by
  intro c h
  have z := List.all_eq_true.mp T.fxb_side c (List.elem_iff.mp h)
  rw [Bool.and_eq_true] at z
  exact ⟨Dq.ExcC.xf (excCB_ok z.1), of_decide_eq_true z.2⟩
theorem Tx.fx_value {K : PySem.W.Frag} {mg : Str → Option Value} (T : Tx K mg) : ∀ c, Row.fx_value c = true → XfC K ((pg K).cA c) ∧ PySem.W.findIn K (.ref ((pg K).cA c)) "value" = some none := by
  intro c h
  have z := List.all_eq_true.mp T.fxb_value c (List.elem_iff.mp h)
  rw [Bool.and_eq_true] at z
  exact ⟨Dq.ExcC.xf (excCB_ok z.1), of_decide_eq_true z.2⟩
section
variable {P : Program} {w : World} {K : PySem.W.Frag} {mg : Str → Option Value} {base : Heap}
def bl_InvalidWinds_p0 : List V → List V → List (Str × V) := fun vs zs => match vs, zs with
  | [], [] => [("code", .str "InvalidWinds")]
  | _, _ => []
def mxe_InvalidWinds_p0 : MixE := fun l z => match l, z with
  | [], [] => some ([1], [.str "InvalidWinds"])
  | _, _ => none
theorem exd_InvalidWinds_p0 : ExD (pg K) 0 ([] : List Str).length bl_InvalidWinds_p0 mxe_InvalidWinds_p0 := ⟨fun F μ l z ks xs vs zs r1 r2 h => by
  unfold mxe_InvalidWinds_p0 at h
  split at h
  · cases h
    cases r1
    cases r2
    exact ⟨rfl, rfl, rfl, .cons (.str _) (.nil)⟩
  · cases h⟩
abbrev s_InvalidWindsdd_initdd_xInvalidWinds_p0 : Stmt := inClass (top 9) 0
theorem okx_InvalidWinds_p0 (T : Tx K mg) (F : FunX P K (He.ga K "InvalidWinds") (He.ma K (He.ga K "InvalidWinds") "__init__") "InvalidWinds.__init__" (defArgs s_InvalidWindsdd_initdd_xInvalidWinds_p0) (defBody s_InvalidWindsdd_initdd_xInvalidWinds_p0) (defScope s_InvalidWindsdd_initdd_xInvalidWinds_p0)) : OkE (pg K) P w mg base 8 0 ([] : List Str) bl_InvalidWinds_p0 := ⟨fun X e hr => by
  obtain ⟨e1, e2, e3, e4, e5⟩ := e
  have e3 : X.K = K := e3
  subst e1 e2 e3 e4 e5
  obtain ⟨kV, doc, pm, an, cda, ct, cc, z, hcd⟩ := F.ex
  refine Xq.mkX_of (k := 0) (n := 0) (ps := ([] : List Str)) (pm' := fun us ws => match us, ws with | [], [] => [] | _, _ => []) T.xc_InvalidWinds z ⟨rfl, rfl, rfl, rfl, rfl, rfl, by decide +kernel⟩ ⟨fun env h => by cases env; cases h; exact ⟨_, rfl⟩, fun env h => by cases env; cases h; rfl, fun env h => by cases env; cases h; rfl⟩ hcd F.init F.fn hr rfl rfl T.z_super
    (fun us ws h1 h2 e => match us, ws, h1, h2 with | [], [], _, _ => rfl) (fun y hy => absurd hy (by simp)) ?_ (by decide)
  intro us ws vs zs r1 r2 h1 h2 e env he
  cases env
  cases he
  cases r1 with
  | cons _ _ => cases h1
  | nil =>
    cases r2 with
    | cons _ _ => cases h2
    | nil =>
      refine ⟨_, rfl, ?_, ?_, ?_, .cons (.con rfl) (.nil)⟩
      · simp
      · simp
      · intro p hp
        simp only [List.mem_cons, List.not_mem_nil, or_false] at hp
        subst hp
        exact T.tk_InvalidWinds_code⟩
def bl_NotConvex_p0 : List V → List V → List (Str × V) := fun vs zs => match vs, zs with
  | [], [] => [("code", .str "NotConvex")]
  | _, _ => []
def mxe_NotConvex_p0 : MixE := fun l z => match l, z with
  | [], [] => some ([1], [.str "NotConvex"])
  | _, _ => none
theorem exd_NotConvex_p0 : ExD (pg K) 0 ([] : List Str).length bl_NotConvex_p0 mxe_NotConvex_p0 := ⟨fun F μ l z ks xs vs zs r1 r2 h => by
  unfold mxe_NotConvex_p0 at h
  split at h
  · cases h
    cases r1
    cases r2
    exact ⟨rfl, rfl, rfl, .cons (.str _) (.nil)⟩
  · cases h⟩
abbrev s_NotConvexdd_initdd_xNotConvex_p0 : Stmt := inClass (top 8) 0
theorem okx_NotConvex_p0 (T : Tx K mg) (F : FunX P K (He.ga K "NotConvex") (He.ma K (He.ga K "NotConvex") "__init__") "NotConvex.__init__" (defArgs s_NotConvexdd_initdd_xNotConvex_p0) (defBody s_NotConvexdd_initdd_xNotConvex_p0) (defScope s_NotConvexdd_initdd_xNotConvex_p0)) : OkE (pg K) P w mg base 7 0 ([] : List Str) bl_NotConvex_p0 := ⟨fun X e hr => by
  obtain ⟨e1, e2, e3, e4, e5⟩ := e
  have e3 : X.K = K := e3
  subst e1 e2 e3 e4 e5
  obtain ⟨kV, doc, pm, an, cda, ct, cc, z, hcd⟩ := F.ex
  refine Xq.mkX_of (k := 0) (n := 0) (ps := ([] : List Str)) (pm' := fun us ws => match us, ws with | [], [] => [] | _, _ => []) T.xc_NotConvex z ⟨rfl, rfl, rfl, rfl, rfl, rfl, by decide +kernel⟩ ⟨fun env h => by cases env; cases h; exact ⟨_, rfl⟩, fun env h => by cases env; cases h; rfl, fun env h => by cases env; cases h; rfl⟩ hcd F.init F.fn hr rfl rfl T.z_super
    (fun us ws h1 h2 e => match us, ws, h1, h2 with | [], [], _, _ => rfl) (fun y hy => absurd hy (by simp)) ?_ (by decide)
  intro us ws vs zs r1 r2 h1 h2 e env he
  cases env
  cases he
  cases r1 with
  | cons _ _ => cases h1
  | nil =>
    cases r2 with
    | cons _ _ => cases h2
    | nil =>
      refine ⟨_, rfl, ?_, ?_, ?_, .cons (.con rfl) (.nil)⟩
      · simp
      · simp
      · intro p hp
        simp only [List.mem_cons, List.not_mem_nil, or_false] at hp
        subst hp
        exact T.tk_NotConvex_code⟩
def bl_NothingLeft_p0 : List V → List V → List (Str × V) := fun vs zs => match vs, zs with
  | [], [] => [("code", .str "NothingLeft")]
  | _, _ => []
def mxe_NothingLeft_p0 : MixE := fun l z => match l, z with
  | [], [] => some ([1], [.str "NothingLeft"])
  | _, _ => none
theorem exd_NothingLeft_p0 : ExD (pg K) 0 ([] : List Str).length bl_NothingLeft_p0 mxe_NothingLeft_p0 := ⟨fun F μ l z ks xs vs zs r1 r2 h => by
  unfold mxe_NothingLeft_p0 at h
  split at h
  · cases h
    cases r1
    cases r2
    exact ⟨rfl, rfl, rfl, .cons (.str _) (.nil)⟩
  · cases h⟩
abbrev s_NothingLeftdd_initdd_xNothingLeft_p0 : Stmt := inClass (top 29) 0
theorem okx_NothingLeft_p0 (T : Tx K mg) (F : FunX P K (He.ga K "NothingLeft") (He.ma K (He.ga K "NothingLeft") "__init__") "NothingLeft.__init__" (defArgs s_NothingLeftdd_initdd_xNothingLeft_p0) (defBody s_NothingLeftdd_initdd_xNothingLeft_p0) (defScope s_NothingLeftdd_initdd_xNothingLeft_p0)) : OkE (pg K) P w mg base 28 0 ([] : List Str) bl_NothingLeft_p0 := ⟨fun X e hr => by
  obtain ⟨e1, e2, e3, e4, e5⟩ := e
  have e3 : X.K = K := e3
  subst e1 e2 e3 e4 e5
  obtain ⟨kV, doc, pm, an, cda, ct, cc, z, hcd⟩ := F.ex
  refine Xq.mkX_of (k := 0) (n := 0) (ps := ([] : List Str)) (pm' := fun us ws => match us, ws with | [], [] => [] | _, _ => []) T.xc_NothingLeft z ⟨rfl, rfl, rfl, rfl, rfl, rfl, by decide +kernel⟩ ⟨fun env h => by cases env; cases h; exact ⟨_, rfl⟩, fun env h => by cases env; cases h; rfl, fun env h => by cases env; cases h; rfl⟩ hcd F.init F.fn hr rfl rfl T.z_super
    (fun us ws h1 h2 e => match us, ws, h1, h2 with | [], [], _, _ => rfl) (fun y hy => absurd hy (by simp)) ?_ (by decide)
  intro us ws vs zs r1 r2 h1 h2 e env he
  cases env
  cases he
  cases r1 with
  | cons _ _ => cases h1
  | nil =>
    cases r2 with
    | cons _ _ => cases h2
    | nil =>
      refine ⟨_, rfl, ?_, ?_, ?_, .cons (.con rfl) (.nil)⟩
      · simp
      · simp
      · intro p hp
        simp only [List.mem_cons, List.not_mem_nil, or_false] at hp
        subst hp
        exact T.tk_NothingLeft_code⟩
def bl_UnknownMark_p0_name : List V → List V → List (Str × V) := fun vs zs => match vs, zs with
  | [], [k0] => [("code", .str "UnknownMark"), ("name", k0)]
  | _, _ => []
def mxe_UnknownMark_p0_name : MixE := fun l z => match l, z with
  | [], [k0] => some ([1, 3], [.str "UnknownMark", k0])
  | _, _ => none
theorem exd_UnknownMark_p0_name : ExD (pg K) 0 (["name"] : List Str).length bl_UnknownMark_p0_name mxe_UnknownMark_p0_name := ⟨fun F μ l z ks xs vs zs r1 r2 h => by
  unfold mxe_UnknownMark_p0_name at h
  split at h
  · cases h
    cases r1
    cases r2 with
    | cons q0 qt0 =>
      cases qt0
      exact ⟨rfl, rfl, rfl, .cons (.str _) (.cons q0 (.nil))⟩
  · cases h⟩
abbrev s_UnknownMarkdd_initdd_xUnknownMark_p0_name : Stmt := inClass (top 28) 0
theorem okx_UnknownMark_p0_name (T : Tx K mg) (F : FunX P K (He.ga K "UnknownMark") (He.ma K (He.ga K "UnknownMark") "__init__") "UnknownMark.__init__" (defArgs s_UnknownMarkdd_initdd_xUnknownMark_p0_name) (defBody s_UnknownMarkdd_initdd_xUnknownMark_p0_name) (defScope s_UnknownMarkdd_initdd_xUnknownMark_p0_name)) : OkE (pg K) P w mg base 27 0 (["name"] : List Str) bl_UnknownMark_p0_name := ⟨fun X e hr => by
  obtain ⟨e1, e2, e3, e4, e5⟩ := e
  have e3 : X.K = K := e3
  subst e1 e2 e3 e4 e5
  obtain ⟨kV, doc, pm, an, cda, ct, cc, z, hcd⟩ := F.ex
  refine Xq.mkX_of (k := 0) (n := 0) (ps := (["name"] : List Str)) (pm' := fun us ws => match us, ws with | [], [k0] => [k0] | _, _ => []) T.xc_UnknownMark z ⟨rfl, rfl, rfl, rfl, rfl, rfl, by decide +kernel⟩ ⟨fun env h => by cases env; cases h; exact ⟨_, rfl⟩, fun env h => by cases env; cases h; rfl, fun env h => by cases env; cases h; rfl⟩ hcd F.init F.fn hr rfl rfl T.z_super
    (fun us ws h1 h2 e => match us, ws, h1, h2 with | [], [_], _, _ => rfl) (by decide +kernel) ?_ (by decide)
  intro us ws vs zs r1 r2 h1 h2 e env he
  cases env
  cases he
  cases r1 with
  | cons _ _ => cases h1
  | nil =>
    cases r2 with
    | nil => cases h2
    | cons q0 qt0 =>
      cases qt0 with
      | cons _ _ => cases h2
      | nil =>
        refine ⟨_, rfl, ?_, ?_, ?_, .cons (.var (by rfl) q0 rfl rfl rfl) (.cons (.con rfl) (.nil))⟩
        · simp
        · simp
        · intro p hp
          simp only [List.mem_cons, List.not_mem_nil, or_false] at hp
          rcases hp with rfl | rfl
          · exact T.tk_UnknownMark_name
          · exact T.tk_UnknownMark_code⟩
def bl_UnknownSide_p0_side : List V → List V → List (Str × V) := fun vs zs => match vs, zs with
  | [], [k0] => [("code", .str "UnknownSide"), ("side", k0)]
  | _, _ => []
def mxe_UnknownSide_p0_side : MixE := fun l z => match l, z with
  | [], [k0] => some ([1, 5], [.str "UnknownSide", k0])
  | _, _ => none
theorem exd_UnknownSide_p0_side : ExD (pg K) 0 (["side"] : List Str).length bl_UnknownSide_p0_side mxe_UnknownSide_p0_side := ⟨fun F μ l z ks xs vs zs r1 r2 h => by
  unfold mxe_UnknownSide_p0_side at h
  split at h
  · cases h
    cases r1
    cases r2 with
    | cons q0 qt0 =>
      cases qt0
      exact ⟨rfl, rfl, rfl, .cons (.str _) (.cons q0 (.nil))⟩
  · cases h⟩
abbrev s_UnknownSidedd_initdd_xUnknownSide_p0_side : Stmt := inClass (top 27) 0
theorem okx_UnknownSide_p0_side (T : Tx K mg) (F : FunX P K (He.ga K "UnknownSide") (He.ma K (He.ga K "UnknownSide") "__init__") "UnknownSide.__init__" (defArgs s_UnknownSidedd_initdd_xUnknownSide_p0_side) (defBody s_UnknownSidedd_initdd_xUnknownSide_p0_side) (defScope s_UnknownSidedd_initdd_xUnknownSide_p0_side)) : OkE (pg K) P w mg base 26 0 (["side"] : List Str) bl_UnknownSide_p0_side := ⟨fun X e hr => by
  obtain ⟨e1, e2, e3, e4, e5⟩ := e
  have e3 : X.K = K := e3
  subst e1 e2 e3 e4 e5
  obtain ⟨kV, doc, pm, an, cda, ct, cc, z, hcd⟩ := F.ex
  refine Xq.mkX_of (k := 0) (n := 0) (ps := (["side"] : List Str)) (pm' := fun us ws => match us, ws with | [], [k0] => [k0] | _, _ => []) T.xc_UnknownSide z ⟨rfl, rfl, rfl, rfl, rfl, rfl, by decide +kernel⟩ ⟨fun env h => by cases env; cases h; exact ⟨_, rfl⟩, fun env h => by cases env; cases h; rfl, fun env h => by cases env; cases h; rfl⟩ hcd F.init F.fn hr rfl rfl T.z_super
    (fun us ws h1 h2 e => match us, ws, h1, h2 with | [], [_], _, _ => rfl) (by decide +kernel) ?_ (by decide)
  intro us ws vs zs r1 r2 h1 h2 e env he
  cases env
  cases he
  cases r1 with
  | cons _ _ => cases h1
  | nil =>
    cases r2 with
    | nil => cases h2
    | cons q0 qt0 =>
      cases qt0 with
      | cons _ _ => cases h2
      | nil =>
        refine ⟨_, rfl, ?_, ?_, ?_, .cons (.var (by rfl) q0 rfl rfl rfl) (.cons (.con rfl) (.nil))⟩
        · simp
        · simp
        · intro p hp
          simp only [List.mem_cons, List.not_mem_nil, or_false] at hp
          rcases hp with rfl | rfl
          · exact T.tk_UnknownSide_side
          · exact T.tk_UnknownSide_code⟩
def bl_UnknownTile_p0_name : List V → List V → List (Str × V) := fun vs zs => match vs, zs with
  | [], [k0] => [("code", .str "UnknownTile"), ("name", k0)]
  | _, _ => []
def mxe_UnknownTile_p0_name : MixE := fun l z => match l, z with
  | [], [k0] => some ([1, 3], [.str "UnknownTile", k0])
  | _, _ => none
theorem exd_UnknownTile_p0_name : ExD (pg K) 0 (["name"] : List Str).length bl_UnknownTile_p0_name mxe_UnknownTile_p0_name := ⟨fun F μ l z ks xs vs zs r1 r2 h => by
  unfold mxe_UnknownTile_p0_name at h
  split at h
  · cases h
    cases r1
    cases r2 with
    | cons q0 qt0 =>
      cases qt0
      exact ⟨rfl, rfl, rfl, .cons (.str _) (.cons q0 (.nil))⟩
  · cases h⟩
abbrev s_UnknownTiledd_initdd_xUnknownTile_p0_name : Stmt := inClass (top 26) 0
theorem okx_UnknownTile_p0_name (T : Tx K mg) (F : FunX P K (He.ga K "UnknownTile") (He.ma K (He.ga K "UnknownTile") "__init__") "UnknownTile.__init__" (defArgs s_UnknownTiledd_initdd_xUnknownTile_p0_name) (defBody s_UnknownTiledd_initdd_xUnknownTile_p0_name) (defScope s_UnknownTiledd_initdd_xUnknownTile_p0_name)) : OkE (pg K) P w mg base 25 0 (["name"] : List Str) bl_UnknownTile_p0_name := ⟨fun X e hr => by
  obtain ⟨e1, e2, e3, e4, e5⟩ := e
  have e3 : X.K = K := e3
  subst e1 e2 e3 e4 e5
  obtain ⟨kV, doc, pm, an, cda, ct, cc, z, hcd⟩ := F.ex
  refine Xq.mkX_of (k := 0) (n := 0) (ps := (["name"] : List Str)) (pm' := fun us ws => match us, ws with | [], [k0] => [k0] | _, _ => []) T.xc_UnknownTile z ⟨rfl, rfl, rfl, rfl, rfl, rfl, by decide +kernel⟩ ⟨fun env h => by cases env; cases h; exact ⟨_, rfl⟩, fun env h => by cases env; cases h; rfl, fun env h => by cases env; cases h; rfl⟩ hcd F.init F.fn hr rfl rfl T.z_super
    (fun us ws h1 h2 e => match us, ws, h1, h2 with | [], [_], _, _ => rfl) (by decide +kernel) ?_ (by decide)
  intro us ws vs zs r1 r2 h1 h2 e env he
  cases env
  cases he
  cases r1 with
  | cons _ _ => cases h1
  | nil =>
    cases r2 with
    | nil => cases h2
    | cons q0 qt0 =>
      cases qt0 with
      | cons _ _ => cases h2
      | nil =>
        refine ⟨_, rfl, ?_, ?_, ?_, .cons (.var (by rfl) q0 rfl rfl rfl) (.cons (.con rfl) (.nil))⟩
        · simp
        · simp
        · intro p hp
          simp only [List.mem_cons, List.not_mem_nil, or_false] at hp
          rcases hp with rfl | rfl
          · exact T.tk_UnknownTile_name
          · exact T.tk_UnknownTile_code⟩
def bl_NotJoined_p1_other : List V → List V → List (Str × V) := fun vs zs => match vs, zs with
  | [a0], [k0] => [("code", .str "NotJoined"), ("other", k0), ("one", a0)]
  | _, _ => []
def mxe_NotJoined_p1_other : MixE := fun l z => match l, z with
  | [a0], [k0] => some ([1, 8, 7], [.str "NotJoined", k0, a0])
  | _, _ => none
theorem exd_NotJoined_p1_other : ExD (pg K) 1 (["other"] : List Str).length bl_NotJoined_p1_other mxe_NotJoined_p1_other := ⟨fun F μ l z ks xs vs zs r1 r2 h => by
  unfold mxe_NotJoined_p1_other at h
  split at h
  · cases h
    cases r1 with
    | cons p0 pt0 =>
      cases pt0
      cases r2 with
      | cons q0 qt0 =>
        cases qt0
        exact ⟨rfl, rfl, rfl, .cons (.str _) (.cons q0 (.cons p0 (.nil)))⟩
  · cases h⟩
abbrev s_NotJoineddd_initdd_xNotJoined_p1_other : Stmt := inClass (top 17) 0
theorem okx_NotJoined_p1_other (T : Tx K mg) (F : FunX P K (He.ga K "NotJoined") (He.ma K (He.ga K "NotJoined") "__init__") "NotJoined.__init__" (defArgs s_NotJoineddd_initdd_xNotJoined_p1_other) (defBody s_NotJoineddd_initdd_xNotJoined_p1_other) (defScope s_NotJoineddd_initdd_xNotJoined_p1_other)) : OkE (pg K) P w mg base 16 1 (["other"] : List Str) bl_NotJoined_p1_other := ⟨fun X e hr => by
  obtain ⟨e1, e2, e3, e4, e5⟩ := e
  have e3 : X.K = K := e3
  subst e1 e2 e3 e4 e5
  obtain ⟨kV, doc, pm, an, cda, ct, cc, z, hcd⟩ := F.ex
  refine Xq.mkX_of (k := 0) (n := 1) (ps := (["one", "other"] : List Str)) (pm' := fun us ws => match us, ws with | [a0], [k0] => [a0, k0] | _, _ => []) T.xc_NotJoined z ⟨rfl, rfl, rfl, rfl, rfl, rfl, by decide +kernel⟩ ⟨fun env h => by cases env; cases h; exact ⟨_, rfl⟩, fun env h => by cases env; cases h; rfl, fun env h => by cases env; cases h; rfl⟩ hcd F.init F.fn hr rfl rfl T.z_super
    (fun us ws h1 h2 e => match us, ws, h1, h2 with | [_], [_], _, _ => rfl) (by decide +kernel) ?_ (by decide)
  intro us ws vs zs r1 r2 h1 h2 e env he
  cases env
  cases he
  cases r1 with
  | nil => cases h1
  | cons p0 pt0 =>
    cases pt0 with
    | cons _ _ => cases h1
    | nil =>
      cases r2 with
      | nil => cases h2
      | cons q0 qt0 =>
        cases qt0 with
        | cons _ _ => cases h2
        | nil =>
          refine ⟨_, rfl, ?_, ?_, ?_, .cons (.var (by rfl) p0 rfl rfl rfl) (.cons (.var (by rfl) q0 rfl rfl rfl) (.cons (.con rfl) (.nil)))⟩
          · simp
          · simp
          · intro p hp
            simp only [List.mem_cons, List.not_mem_nil, or_false] at hp
            rcases hp with rfl | rfl | rfl
            · exact T.tk_NotJoined_one
            · exact T.tk_NotJoined_other
            · exact T.tk_NotJoined_code⟩
def bl_InvalidChord_p2 : List V → List V → List (Str × V) := fun vs zs => match vs, zs with
  | [a0, a1], [] => [("code", .str "InvalidChord"), ("other", a1), ("one", a0)]
  | _, _ => []
def mxe_InvalidChord_p2 : MixE := fun l z => match l, z with
  | [a0, a1], [] => some ([1, 8, 7], [.str "InvalidChord", a1, a0])
  | _, _ => none
theorem exd_InvalidChord_p2 : ExD (pg K) 2 ([] : List Str).length bl_InvalidChord_p2 mxe_InvalidChord_p2 := ⟨fun F μ l z ks xs vs zs r1 r2 h => by
  unfold mxe_InvalidChord_p2 at h
  split at h
  · cases h
    cases r1 with
    | cons p0 pt0 =>
      cases pt0 with
      | cons p1 pt1 =>
        cases pt1
        cases r2
        exact ⟨rfl, rfl, rfl, .cons (.str _) (.cons p1 (.cons p0 (.nil)))⟩
  · cases h⟩
abbrev s_InvalidChorddd_initdd_xInvalidChord_p2 : Stmt := inClass (top 16) 0
theorem okx_InvalidChord_p2 (T : Tx K mg) (F : FunX P K (He.ga K "InvalidChord") (He.ma K (He.ga K "InvalidChord") "__init__") "InvalidChord.__init__" (defArgs s_InvalidChorddd_initdd_xInvalidChord_p2) (defBody s_InvalidChorddd_initdd_xInvalidChord_p2) (defScope s_InvalidChorddd_initdd_xInvalidChord_p2)) : OkE (pg K) P w mg base 15 2 ([] : List Str) bl_InvalidChord_p2 := ⟨fun X e hr => by
  obtain ⟨e1, e2, e3, e4, e5⟩ := e
  have e3 : X.K = K := e3
  subst e1 e2 e3 e4 e5
  obtain ⟨kV, doc, pm, an, cda, ct, cc, z, hcd⟩ := F.ex
  refine Xq.mkX_of (k := 0) (n := 2) (ps := (["one", "other"] : List Str)) (pm' := fun us ws => match us, ws with | [a0, a1], [] => [a0, a1] | _, _ => []) T.xc_InvalidChord z ⟨rfl, rfl, rfl, rfl, rfl, rfl, by decide +kernel⟩ ⟨fun env h => by cases env; cases h; exact ⟨_, rfl⟩, fun env h => by cases env; cases h; rfl, fun env h => by cases env; cases h; rfl⟩ hcd F.init F.fn hr rfl rfl T.z_super
    (fun us ws h1 h2 e => match us, ws, h1, h2 with | [_, _], [], _, _ => rfl) (by decide +kernel) ?_ (by decide)
  intro us ws vs zs r1 r2 h1 h2 e env he
  cases env
  cases he
  cases r1 with
  | nil => cases h1
  | cons p0 pt0 =>
    cases pt0 with
    | nil => cases h1
    | cons p1 pt1 =>
      cases pt1 with
      | cons _ _ => cases h1
      | nil =>
        cases r2 with
        | cons _ _ => cases h2
        | nil =>
          refine ⟨_, rfl, ?_, ?_, ?_, .cons (.var (by rfl) p0 rfl rfl rfl) (.cons (.var (by rfl) p1 rfl rfl rfl) (.cons (.con rfl) (.nil)))⟩
          · simp
          · simp
          · intro p hp
            simp only [List.mem_cons, List.not_mem_nil, or_false] at hp
            rcases hp with rfl | rfl | rfl
            · exact T.tk_InvalidChord_one
            · exact T.tk_InvalidChord_other
            · exact T.tk_InvalidChord_code⟩
def bl_Overlap_p0_one_other : List V → List V → List (Str × V) := fun vs zs => match vs, zs with
  | [], [k0, k1] => [("code", .str "Overlap"), ("other", k1), ("one", k0)]
  | _, _ => []
def mxe_Overlap_p0_one_other : MixE := fun l z => match l, z with
  | [], [k0, k1] => some ([1, 8, 7], [.str "Overlap", k1, k0])
  | _, _ => none
theorem exd_Overlap_p0_one_other : ExD (pg K) 0 (["one", "other"] : List Str).length bl_Overlap_p0_one_other mxe_Overlap_p0_one_other := ⟨fun F μ l z ks xs vs zs r1 r2 h => by
  unfold mxe_Overlap_p0_one_other at h
  split at h
  · cases h
    cases r1
    cases r2 with
    | cons q0 qt0 =>
      cases qt0 with
      | cons q1 qt1 =>
        cases qt1
        exact ⟨rfl, rfl, rfl, .cons (.str _) (.cons q1 (.cons q0 (.nil)))⟩
  · cases h⟩
abbrev s_Overlapdd_initdd_xOverlap_p0_one_other : Stmt := inClass (top 13) 0
theorem okx_Overlap_p0_one_other (T : Tx K mg) (F : FunX P K (He.ga K "Overlap") (He.ma K (He.ga K "Overlap") "__init__") "Overlap.__init__" (defArgs s_Overlapdd_initdd_xOverlap_p0_one_other) (defBody s_Overlapdd_initdd_xOverlap_p0_one_other) (defScope s_Overlapdd_initdd_xOverlap_p0_one_other)) : OkE (pg K) P w mg base 12 0 (["one", "other"] : List Str) bl_Overlap_p0_one_other := ⟨fun X e hr => by
  obtain ⟨e1, e2, e3, e4, e5⟩ := e
  have e3 : X.K = K := e3
  subst e1 e2 e3 e4 e5
  obtain ⟨kV, doc, pm, an, cda, ct, cc, z, hcd⟩ := F.ex
  refine Xq.mkX_of (k := 0) (n := 0) (ps := (["one", "other"] : List Str)) (pm' := fun us ws => match us, ws with | [], [k0, k1] => [k0, k1] | _, _ => []) T.xc_Overlap z ⟨rfl, rfl, rfl, rfl, rfl, rfl, by decide +kernel⟩ ⟨fun env h => by cases env; cases h; exact ⟨_, rfl⟩, fun env h => by cases env; cases h; rfl, fun env h => by cases env; cases h; rfl⟩ hcd F.init F.fn hr rfl rfl T.z_super
    (fun us ws h1 h2 e => match us, ws, h1, h2 with | [], [_, _], _, _ => rfl) (by decide +kernel) ?_ (by decide)
  intro us ws vs zs r1 r2 h1 h2 e env he
  cases env
  cases he
  cases r1 with
  | cons _ _ => cases h1
  | nil =>
    cases r2 with
    | nil => cases h2
    | cons q0 qt0 =>
      cases qt0 with
      | nil => cases h2
      | cons q1 qt1 =>
        cases qt1 with
        | cons _ _ => cases h2
        | nil =>
          refine ⟨_, rfl, ?_, ?_, ?_, .cons (.var (by rfl) q0 rfl rfl rfl) (.cons (.var (by rfl) q1 rfl rfl rfl) (.cons (.con rfl) (.nil)))⟩
          · simp
          · simp
          · intro p hp
            simp only [List.mem_cons, List.not_mem_nil, or_false] at hp
            rcases hp with rfl | rfl | rfl
            · exact T.tk_Overlap_one
            · exact T.tk_Overlap_other
            · exact T.tk_Overlap_code⟩
def bl_LooseCorner_p0_corner : List V → List V → List (Str × V) := fun vs zs => match vs, zs with
  | [], [k0] => [("code", .str "LooseCorner"), ("corner", k0)]
  | _, _ => []
def mxe_LooseCorner_p0_corner : MixE := fun l z => match l, z with
  | [], [k0] => some ([1, 9], [.str "LooseCorner", k0])
  | _, _ => none
theorem exd_LooseCorner_p0_corner : ExD (pg K) 0 (["corner"] : List Str).length bl_LooseCorner_p0_corner mxe_LooseCorner_p0_corner := ⟨fun F μ l z ks xs vs zs r1 r2 h => by
  unfold mxe_LooseCorner_p0_corner at h
  split at h
  · cases h
    cases r1
    cases r2 with
    | cons q0 qt0 =>
      cases qt0
      exact ⟨rfl, rfl, rfl, .cons (.str _) (.cons q0 (.nil))⟩
  · cases h⟩
abbrev s_LooseCornerdd_initdd_xLooseCorner_p0_corner : Stmt := inClass (top 14) 0
theorem okx_LooseCorner_p0_corner (T : Tx K mg) (F : FunX P K (He.ga K "LooseCorner") (He.ma K (He.ga K "LooseCorner") "__init__") "LooseCorner.__init__" (defArgs s_LooseCornerdd_initdd_xLooseCorner_p0_corner) (defBody s_LooseCornerdd_initdd_xLooseCorner_p0_corner) (defScope s_LooseCornerdd_initdd_xLooseCorner_p0_corner)) : OkE (pg K) P w mg base 13 0 (["corner"] : List Str) bl_LooseCorner_p0_corner := ⟨fun X e hr => by
  obtain ⟨e1, e2, e3, e4, e5⟩ := e
  have e3 : X.K = K := e3
  subst e1 e2 e3 e4 e5
  obtain ⟨kV, doc, pm, an, cda, ct, cc, z, hcd⟩ := F.ex
  refine Xq.mkX_of (k := 0) (n := 0) (ps := (["corner"] : List Str)) (pm' := fun us ws => match us, ws with | [], [k0] => [k0] | _, _ => []) T.xc_LooseCorner z ⟨rfl, rfl, rfl, rfl, rfl, rfl, by decide +kernel⟩ ⟨fun env h => by cases env; cases h; exact ⟨_, rfl⟩, fun env h => by cases env; cases h; rfl, fun env h => by cases env; cases h; rfl⟩ hcd F.init F.fn hr rfl rfl T.z_super
    (fun us ws h1 h2 e => match us, ws, h1, h2 with | [], [_], _, _ => rfl) (by decide +kernel) ?_ (by decide)
  intro us ws vs zs r1 r2 h1 h2 e env he
  cases env
  cases he
  cases r1 with
  | cons _ _ => cases h1
  | nil =>
    cases r2 with
    | nil => cases h2
    | cons q0 qt0 =>
      cases qt0 with
      | cons _ _ => cases h2
      | nil =>
        refine ⟨_, rfl, ?_, ?_, ?_, .cons (.var (by rfl) q0 rfl rfl rfl) (.cons (.con rfl) (.nil))⟩
        · simp
        · simp
        · intro p hp
          simp only [List.mem_cons, List.not_mem_nil, or_false] at hp
          rcases hp with rfl | rfl
          · exact T.tk_LooseCorner_corner
          · exact T.tk_LooseCorner_code⟩
def bl_InvalidRound_p0_value : List V → List V → List (Str × V) := fun vs zs => match vs, zs with
  | [], [k0] => [("code", .str "InvalidRound"), ("value", k0)]
  | _, _ => []
def mxe_InvalidRound_p0_value : MixE := fun l z => match l, z with
  | [], [k0] => some ([1, 10], [.str "InvalidRound", k0])
  | _, _ => none
theorem exd_InvalidRound_p0_value : ExD (pg K) 0 (["value"] : List Str).length bl_InvalidRound_p0_value mxe_InvalidRound_p0_value := ⟨fun F μ l z ks xs vs zs r1 r2 h => by
  unfold mxe_InvalidRound_p0_value at h
  split at h
  · cases h
    cases r1
    cases r2 with
    | cons q0 qt0 =>
      cases qt0
      exact ⟨rfl, rfl, rfl, .cons (.str _) (.cons q0 (.nil))⟩
  · cases h⟩
abbrev s_InvalidRounddd_initdd_xInvalidRound_p0_value : Stmt := inClass (top 20) 0
theorem okx_InvalidRound_p0_value (T : Tx K mg) (F : FunX P K (He.ga K "InvalidRound") (He.ma K (He.ga K "InvalidRound") "__init__") "InvalidRound.__init__" (defArgs s_InvalidRounddd_initdd_xInvalidRound_p0_value) (defBody s_InvalidRounddd_initdd_xInvalidRound_p0_value) (defScope s_InvalidRounddd_initdd_xInvalidRound_p0_value)) : OkE (pg K) P w mg base 19 0 (["value"] : List Str) bl_InvalidRound_p0_value := ⟨fun X e hr => by
  obtain ⟨e1, e2, e3, e4, e5⟩ := e
  have e3 : X.K = K := e3
  subst e1 e2 e3 e4 e5
  obtain ⟨kV, doc, pm, an, cda, ct, cc, z, hcd⟩ := F.ex
  refine Xq.mkX_of (k := 0) (n := 0) (ps := (["value"] : List Str)) (pm' := fun us ws => match us, ws with | [], [k0] => [k0] | _, _ => []) T.xc_InvalidRound z ⟨rfl, rfl, rfl, rfl, rfl, rfl, by decide +kernel⟩ ⟨fun env h => by cases env; cases h; exact ⟨_, rfl⟩, fun env h => by cases env; cases h; rfl, fun env h => by cases env; cases h; rfl⟩ hcd F.init F.fn hr rfl rfl T.z_super
    (fun us ws h1 h2 e => match us, ws, h1, h2 with | [], [_], _, _ => rfl) (by decide +kernel) ?_ (by decide)
  intro us ws vs zs r1 r2 h1 h2 e env he
  cases env
  cases he
  cases r1 with
  | cons _ _ => cases h1
  | nil =>
    cases r2 with
    | nil => cases h2
    | cons q0 qt0 =>
      cases qt0 with
      | cons _ _ => cases h2
      | nil =>
        refine ⟨_, rfl, ?_, ?_, ?_, .cons (.var (by rfl) q0 rfl rfl rfl) (.cons (.con rfl) (.nil))⟩
        · simp
        · simp
        · intro p hp
          simp only [List.mem_cons, List.not_mem_nil, or_false] at hp
          rcases hp with rfl | rfl
          · exact T.tk_InvalidRound_value
          · exact T.tk_InvalidRound_code⟩
def bl_InvalidPlace_p0_value : List V → List V → List (Str × V) := fun vs zs => match vs, zs with
  | [], [k0] => [("code", .str "InvalidPlace"), ("value", k0)]
  | _, _ => []
def mxe_InvalidPlace_p0_value : MixE := fun l z => match l, z with
  | [], [k0] => some ([1, 10], [.str "InvalidPlace", k0])
  | _, _ => none
theorem exd_InvalidPlace_p0_value : ExD (pg K) 0 (["value"] : List Str).length bl_InvalidPlace_p0_value mxe_InvalidPlace_p0_value := ⟨fun F μ l z ks xs vs zs r1 r2 h => by
  unfold mxe_InvalidPlace_p0_value at h
  split at h
  · cases h
    cases r1
    cases r2 with
    | cons q0 qt0 =>
      cases qt0
      exact ⟨rfl, rfl, rfl, .cons (.str _) (.cons q0 (.nil))⟩
  · cases h⟩
abbrev s_InvalidPlacedd_initdd_xInvalidPlace_p0_value : Stmt := inClass (top 19) 0
theorem okx_InvalidPlace_p0_value (T : Tx K mg) (F : FunX P K (He.ga K "InvalidPlace") (He.ma K (He.ga K "InvalidPlace") "__init__") "InvalidPlace.__init__" (defArgs s_InvalidPlacedd_initdd_xInvalidPlace_p0_value) (defBody s_InvalidPlacedd_initdd_xInvalidPlace_p0_value) (defScope s_InvalidPlacedd_initdd_xInvalidPlace_p0_value)) : OkE (pg K) P w mg base 18 0 (["value"] : List Str) bl_InvalidPlace_p0_value := ⟨fun X e hr => by
  obtain ⟨e1, e2, e3, e4, e5⟩ := e
  have e3 : X.K = K := e3
  subst e1 e2 e3 e4 e5
  obtain ⟨kV, doc, pm, an, cda, ct, cc, z, hcd⟩ := F.ex
  refine Xq.mkX_of (k := 0) (n := 0) (ps := (["value"] : List Str)) (pm' := fun us ws => match us, ws with | [], [k0] => [k0] | _, _ => []) T.xc_InvalidPlace z ⟨rfl, rfl, rfl, rfl, rfl, rfl, by decide +kernel⟩ ⟨fun env h => by cases env; cases h; exact ⟨_, rfl⟩, fun env h => by cases env; cases h; rfl, fun env h => by cases env; cases h; rfl⟩ hcd F.init F.fn hr rfl rfl T.z_super
    (fun us ws h1 h2 e => match us, ws, h1, h2 with | [], [_], _, _ => rfl) (by decide +kernel) ?_ (by decide)
  intro us ws vs zs r1 r2 h1 h2 e env he
  cases env
  cases he
  cases r1 with
  | cons _ _ => cases h1
  | nil =>
    cases r2 with
    | nil => cases h2
    | cons q0 qt0 =>
      cases qt0 with
      | cons _ _ => cases h2
      | nil =>
        refine ⟨_, rfl, ?_, ?_, ?_, .cons (.var (by rfl) q0 rfl rfl rfl) (.cons (.con rfl) (.nil))⟩
        · simp
        · simp
        · intro p hp
          simp only [List.mem_cons, List.not_mem_nil, or_false] at hp
          rcases hp with rfl | rfl
          · exact T.tk_InvalidPlace_value
          · exact T.tk_InvalidPlace_code⟩
def bl_TooFar_p0_most : List V → List V → List (Str × V) := fun vs zs => match vs, zs with
  | [], [k0] => [("code", .str "TooFar"), ("most", k0)]
  | _, _ => []
def mxe_TooFar_p0_most : MixE := fun l z => match l, z with
  | [], [k0] => some ([1, 6], [.str "TooFar", k0])
  | _, _ => none
theorem exd_TooFar_p0_most : ExD (pg K) 0 (["most"] : List Str).length bl_TooFar_p0_most mxe_TooFar_p0_most := ⟨fun F μ l z ks xs vs zs r1 r2 h => by
  unfold mxe_TooFar_p0_most at h
  split at h
  · cases h
    cases r1
    cases r2 with
    | cons q0 qt0 =>
      cases qt0
      exact ⟨rfl, rfl, rfl, .cons (.str _) (.cons q0 (.nil))⟩
  · cases h⟩
abbrev s_TooFardd_initdd_xTooFar_p0_most : Stmt := inClass (top 22) 0
theorem okx_TooFar_p0_most (T : Tx K mg) (F : FunX P K (He.ga K "TooFar") (He.ma K (He.ga K "TooFar") "__init__") "TooFar.__init__" (defArgs s_TooFardd_initdd_xTooFar_p0_most) (defBody s_TooFardd_initdd_xTooFar_p0_most) (defScope s_TooFardd_initdd_xTooFar_p0_most)) : OkE (pg K) P w mg base 21 0 (["most"] : List Str) bl_TooFar_p0_most := ⟨fun X e hr => by
  obtain ⟨e1, e2, e3, e4, e5⟩ := e
  have e3 : X.K = K := e3
  subst e1 e2 e3 e4 e5
  obtain ⟨kV, doc, pm, an, cda, ct, cc, z, hcd⟩ := F.ex
  refine Xq.mkX_of (k := 0) (n := 0) (ps := (["most"] : List Str)) (pm' := fun us ws => match us, ws with | [], [k0] => [k0] | _, _ => []) T.xc_TooFar z ⟨rfl, rfl, rfl, rfl, rfl, rfl, by decide +kernel⟩ ⟨fun env h => by cases env; cases h; exact ⟨_, rfl⟩, fun env h => by cases env; cases h; rfl, fun env h => by cases env; cases h; rfl⟩ hcd F.init F.fn hr rfl rfl T.z_super
    (fun us ws h1 h2 e => match us, ws, h1, h2 with | [], [_], _, _ => rfl) (by decide +kernel) ?_ (by decide)
  intro us ws vs zs r1 r2 h1 h2 e env he
  cases env
  cases he
  cases r1 with
  | cons _ _ => cases h1
  | nil =>
    cases r2 with
    | nil => cases h2
    | cons q0 qt0 =>
      cases qt0 with
      | cons _ _ => cases h2
      | nil =>
        refine ⟨_, rfl, ?_, ?_, ?_, .cons (.var (by rfl) q0 rfl rfl rfl) (.cons (.con rfl) (.nil))⟩
        · simp
        · simp
        · intro p hp
          simp only [List.mem_cons, List.not_mem_nil, or_false] at hp
          rcases hp with rfl | rfl
          · exact T.tk_TooFar_most
          · exact T.tk_TooFar_code⟩
def bl_TooMany_p0_most : List V → List V → List (Str × V) := fun vs zs => match vs, zs with
  | [], [k0] => [("code", .str "TooMany"), ("most", k0)]
  | _, _ => []
def mxe_TooMany_p0_most : MixE := fun l z => match l, z with
  | [], [k0] => some ([1, 6], [.str "TooMany", k0])
  | _, _ => none
theorem exd_TooMany_p0_most : ExD (pg K) 0 (["most"] : List Str).length bl_TooMany_p0_most mxe_TooMany_p0_most := ⟨fun F μ l z ks xs vs zs r1 r2 h => by
  unfold mxe_TooMany_p0_most at h
  split at h
  · cases h
    cases r1
    cases r2 with
    | cons q0 qt0 =>
      cases qt0
      exact ⟨rfl, rfl, rfl, .cons (.str _) (.cons q0 (.nil))⟩
  · cases h⟩
abbrev s_TooManydd_initdd_xTooMany_p0_most : Stmt := inClass (top 12) 0
theorem okx_TooMany_p0_most (T : Tx K mg) (F : FunX P K (He.ga K "TooMany") (He.ma K (He.ga K "TooMany") "__init__") "TooMany.__init__" (defArgs s_TooManydd_initdd_xTooMany_p0_most) (defBody s_TooManydd_initdd_xTooMany_p0_most) (defScope s_TooManydd_initdd_xTooMany_p0_most)) : OkE (pg K) P w mg base 11 0 (["most"] : List Str) bl_TooMany_p0_most := ⟨fun X e hr => by
  obtain ⟨e1, e2, e3, e4, e5⟩ := e
  have e3 : X.K = K := e3
  subst e1 e2 e3 e4 e5
  obtain ⟨kV, doc, pm, an, cda, ct, cc, z, hcd⟩ := F.ex
  refine Xq.mkX_of (k := 0) (n := 0) (ps := (["most"] : List Str)) (pm' := fun us ws => match us, ws with | [], [k0] => [k0] | _, _ => []) T.xc_TooMany z ⟨rfl, rfl, rfl, rfl, rfl, rfl, by decide +kernel⟩ ⟨fun env h => by cases env; cases h; exact ⟨_, rfl⟩, fun env h => by cases env; cases h; rfl, fun env h => by cases env; cases h; rfl⟩ hcd F.init F.fn hr rfl rfl T.z_super
    (fun us ws h1 h2 e => match us, ws, h1, h2 with | [], [_], _, _ => rfl) (by decide +kernel) ?_ (by decide)
  intro us ws vs zs r1 r2 h1 h2 e env he
  cases env
  cases he
  cases r1 with
  | cons _ _ => cases h1
  | nil =>
    cases r2 with
    | nil => cases h2
    | cons q0 qt0 =>
      cases qt0 with
      | cons _ _ => cases h2
      | nil =>
        refine ⟨_, rfl, ?_, ?_, ?_, .cons (.var (by rfl) q0 rfl rfl rfl) (.cons (.con rfl) (.nil))⟩
        · simp
        · simp
        · intro p hp
          simp only [List.mem_cons, List.not_mem_nil, or_false] at hp
          rcases hp with rfl | rfl
          · exact T.tk_TooMany_most
          · exact T.tk_TooMany_code⟩
def bl_MarkedSide_p0_side : List V → List V → List (Str × V) := fun vs zs => match vs, zs with
  | [], [k0] => [("code", .str "MarkedSide"), ("side", k0)]
  | _, _ => []
def mxe_MarkedSide_p0_side : MixE := fun l z => match l, z with
  | [], [k0] => some ([1, 5], [.str "MarkedSide", k0])
  | _, _ => none
theorem exd_MarkedSide_p0_side : ExD (pg K) 0 (["side"] : List Str).length bl_MarkedSide_p0_side mxe_MarkedSide_p0_side := ⟨fun F μ l z ks xs vs zs r1 r2 h => by
  unfold mxe_MarkedSide_p0_side at h
  split at h
  · cases h
    cases r1
    cases r2 with
    | cons q0 qt0 =>
      cases qt0
      exact ⟨rfl, rfl, rfl, .cons (.str _) (.cons q0 (.nil))⟩
  · cases h⟩
abbrev s_MarkedSidedd_initdd_xMarkedSide_p0_side : Stmt := inClass (top 18) 0
theorem okx_MarkedSide_p0_side (T : Tx K mg) (F : FunX P K (He.ga K "MarkedSide") (He.ma K (He.ga K "MarkedSide") "__init__") "MarkedSide.__init__" (defArgs s_MarkedSidedd_initdd_xMarkedSide_p0_side) (defBody s_MarkedSidedd_initdd_xMarkedSide_p0_side) (defScope s_MarkedSidedd_initdd_xMarkedSide_p0_side)) : OkE (pg K) P w mg base 17 0 (["side"] : List Str) bl_MarkedSide_p0_side := ⟨fun X e hr => by
  obtain ⟨e1, e2, e3, e4, e5⟩ := e
  have e3 : X.K = K := e3
  subst e1 e2 e3 e4 e5
  obtain ⟨kV, doc, pm, an, cda, ct, cc, z, hcd⟩ := F.ex
  refine Xq.mkX_of (k := 0) (n := 0) (ps := (["side"] : List Str)) (pm' := fun us ws => match us, ws with | [], [k0] => [k0] | _, _ => []) T.xc_MarkedSide z ⟨rfl, rfl, rfl, rfl, rfl, rfl, by decide +kernel⟩ ⟨fun env h => by cases env; cases h; exact ⟨_, rfl⟩, fun env h => by cases env; cases h; rfl, fun env h => by cases env; cases h; rfl⟩ hcd F.init F.fn hr rfl rfl T.z_super
    (fun us ws h1 h2 e => match us, ws, h1, h2 with | [], [_], _, _ => rfl) (by decide +kernel) ?_ (by decide)
  intro us ws vs zs r1 r2 h1 h2 e env he
  cases env
  cases he
  cases r1 with
  | cons _ _ => cases h1
  | nil =>
    cases r2 with
    | nil => cases h2
    | cons q0 qt0 =>
      cases qt0 with
      | cons _ _ => cases h2
      | nil =>
        refine ⟨_, rfl, ?_, ?_, ?_, .cons (.var (by rfl) q0 rfl rfl rfl) (.cons (.con rfl) (.nil))⟩
        · simp
        · simp
        · intro p hp
          simp only [List.mem_cons, List.not_mem_nil, or_false] at hp
          rcases hp with rfl | rfl
          · exact T.tk_MarkedSide_side
          · exact T.tk_MarkedSide_code⟩
def bl_InvalidWall_p0_side : List V → List V → List (Str × V) := fun vs zs => match vs, zs with
  | [], [k0] => [("code", .str "InvalidWall"), ("side", k0)]
  | _, _ => []
def mxe_InvalidWall_p0_side : MixE := fun l z => match l, z with
  | [], [k0] => some ([1, 5], [.str "InvalidWall", k0])
  | _, _ => none
theorem exd_InvalidWall_p0_side : ExD (pg K) 0 (["side"] : List Str).length bl_InvalidWall_p0_side mxe_InvalidWall_p0_side := ⟨fun F μ l z ks xs vs zs r1 r2 h => by
  unfold mxe_InvalidWall_p0_side at h
  split at h
  · cases h
    cases r1
    cases r2 with
    | cons q0 qt0 =>
      cases qt0
      exact ⟨rfl, rfl, rfl, .cons (.str _) (.cons q0 (.nil))⟩
  · cases h⟩
abbrev s_InvalidWalldd_initdd_xInvalidWall_p0_side : Stmt := inClass (top 15) 0
theorem okx_InvalidWall_p0_side (T : Tx K mg) (F : FunX P K (He.ga K "InvalidWall") (He.ma K (He.ga K "InvalidWall") "__init__") "InvalidWall.__init__" (defArgs s_InvalidWalldd_initdd_xInvalidWall_p0_side) (defBody s_InvalidWalldd_initdd_xInvalidWall_p0_side) (defScope s_InvalidWalldd_initdd_xInvalidWall_p0_side)) : OkE (pg K) P w mg base 14 0 (["side"] : List Str) bl_InvalidWall_p0_side := ⟨fun X e hr => by
  obtain ⟨e1, e2, e3, e4, e5⟩ := e
  have e3 : X.K = K := e3
  subst e1 e2 e3 e4 e5
  obtain ⟨kV, doc, pm, an, cda, ct, cc, z, hcd⟩ := F.ex
  refine Xq.mkX_of (k := 0) (n := 0) (ps := (["side"] : List Str)) (pm' := fun us ws => match us, ws with | [], [k0] => [k0] | _, _ => []) T.xc_InvalidWall z ⟨rfl, rfl, rfl, rfl, rfl, rfl, by decide +kernel⟩ ⟨fun env h => by cases env; cases h; exact ⟨_, rfl⟩, fun env h => by cases env; cases h; rfl, fun env h => by cases env; cases h; rfl⟩ hcd F.init F.fn hr rfl rfl T.z_super
    (fun us ws h1 h2 e => match us, ws, h1, h2 with | [], [_], _, _ => rfl) (by decide +kernel) ?_ (by decide)
  intro us ws vs zs r1 r2 h1 h2 e env he
  cases env
  cases he
  cases r1 with
  | cons _ _ => cases h1
  | nil =>
    cases r2 with
    | nil => cases h2
    | cons q0 qt0 =>
      cases qt0 with
      | cons _ _ => cases h2
      | nil =>
        refine ⟨_, rfl, ?_, ?_, ?_, .cons (.var (by rfl) q0 rfl rfl rfl) (.cons (.con rfl) (.nil))⟩
        · simp
        · simp
        · intro p hp
          simp only [List.mem_cons, List.not_mem_nil, or_false] at hp
          rcases hp with rfl | rfl
          · exact T.tk_InvalidWall_side
          · exact T.tk_InvalidWall_code⟩
def bl_SplitSide_p0_side : List V → List V → List (Str × V) := fun vs zs => match vs, zs with
  | [], [k0] => [("code", .str "SplitSide"), ("side", k0)]
  | _, _ => []
def mxe_SplitSide_p0_side : MixE := fun l z => match l, z with
  | [], [k0] => some ([1, 5], [.str "SplitSide", k0])
  | _, _ => none
theorem exd_SplitSide_p0_side : ExD (pg K) 0 (["side"] : List Str).length bl_SplitSide_p0_side mxe_SplitSide_p0_side := ⟨fun F μ l z ks xs vs zs r1 r2 h => by
  unfold mxe_SplitSide_p0_side at h
  split at h
  · cases h
    cases r1
    cases r2 with
    | cons q0 qt0 =>
      cases qt0
      exact ⟨rfl, rfl, rfl, .cons (.str _) (.cons q0 (.nil))⟩
  · cases h⟩
abbrev s_SplitSidedd_initdd_xSplitSide_p0_side : Stmt := inClass (top 10) 0
theorem okx_SplitSide_p0_side (T : Tx K mg) (F : FunX P K (He.ga K "SplitSide") (He.ma K (He.ga K "SplitSide") "__init__") "SplitSide.__init__" (defArgs s_SplitSidedd_initdd_xSplitSide_p0_side) (defBody s_SplitSidedd_initdd_xSplitSide_p0_side) (defScope s_SplitSidedd_initdd_xSplitSide_p0_side)) : OkE (pg K) P w mg base 9 0 (["side"] : List Str) bl_SplitSide_p0_side := ⟨fun X e hr => by
  obtain ⟨e1, e2, e3, e4, e5⟩ := e
  have e3 : X.K = K := e3
  subst e1 e2 e3 e4 e5
  obtain ⟨kV, doc, pm, an, cda, ct, cc, z, hcd⟩ := F.ex
  refine Xq.mkX_of (k := 0) (n := 0) (ps := (["side"] : List Str)) (pm' := fun us ws => match us, ws with | [], [k0] => [k0] | _, _ => []) T.xc_SplitSide z ⟨rfl, rfl, rfl, rfl, rfl, rfl, by decide +kernel⟩ ⟨fun env h => by cases env; cases h; exact ⟨_, rfl⟩, fun env h => by cases env; cases h; rfl, fun env h => by cases env; cases h; rfl⟩ hcd F.init F.fn hr rfl rfl T.z_super
    (fun us ws h1 h2 e => match us, ws, h1, h2 with | [], [_], _, _ => rfl) (by decide +kernel) ?_ (by decide)
  intro us ws vs zs r1 r2 h1 h2 e env he
  cases env
  cases he
  cases r1 with
  | cons _ _ => cases h1
  | nil =>
    cases r2 with
    | nil => cases h2
    | cons q0 qt0 =>
      cases qt0 with
      | cons _ _ => cases h2
      | nil =>
        refine ⟨_, rfl, ?_, ?_, ?_, .cons (.var (by rfl) q0 rfl rfl rfl) (.cons (.con rfl) (.nil))⟩
        · simp
        · simp
        · intro p hp
          simp only [List.mem_cons, List.not_mem_nil, or_false] at hp
          rcases hp with rfl | rfl
          · exact T.tk_SplitSide_side
          · exact T.tk_SplitSide_code⟩
def bl_DuplicateName_p0_name : List V → List V → List (Str × V) := fun vs zs => match vs, zs with
  | [], [k0] => [("code", .str "DuplicateName"), ("name", k0)]
  | _, _ => []
def mxe_DuplicateName_p0_name : MixE := fun l z => match l, z with
  | [], [k0] => some ([1, 3], [.str "DuplicateName", k0])
  | _, _ => none
theorem exd_DuplicateName_p0_name : ExD (pg K) 0 (["name"] : List Str).length bl_DuplicateName_p0_name mxe_DuplicateName_p0_name := ⟨fun F μ l z ks xs vs zs r1 r2 h => by
  unfold mxe_DuplicateName_p0_name at h
  split at h
  · cases h
    cases r1
    cases r2 with
    | cons q0 qt0 =>
      cases qt0
      exact ⟨rfl, rfl, rfl, .cons (.str _) (.cons q0 (.nil))⟩
  · cases h⟩
abbrev s_DuplicateNamedd_initdd_xDuplicateName_p0_name : Stmt := inClass (top 6) 0
theorem okx_DuplicateName_p0_name (T : Tx K mg) (F : FunX P K (He.ga K "DuplicateName") (He.ma K (He.ga K "DuplicateName") "__init__") "DuplicateName.__init__" (defArgs s_DuplicateNamedd_initdd_xDuplicateName_p0_name) (defBody s_DuplicateNamedd_initdd_xDuplicateName_p0_name) (defScope s_DuplicateNamedd_initdd_xDuplicateName_p0_name)) : OkE (pg K) P w mg base 5 0 (["name"] : List Str) bl_DuplicateName_p0_name := ⟨fun X e hr => by
  obtain ⟨e1, e2, e3, e4, e5⟩ := e
  have e3 : X.K = K := e3
  subst e1 e2 e3 e4 e5
  obtain ⟨kV, doc, pm, an, cda, ct, cc, z, hcd⟩ := F.ex
  refine Xq.mkX_of (k := 0) (n := 0) (ps := (["name"] : List Str)) (pm' := fun us ws => match us, ws with | [], [k0] => [k0] | _, _ => []) T.xc_DuplicateName z ⟨rfl, rfl, rfl, rfl, rfl, rfl, by decide +kernel⟩ ⟨fun env h => by cases env; cases h; exact ⟨_, rfl⟩, fun env h => by cases env; cases h; rfl, fun env h => by cases env; cases h; rfl⟩ hcd F.init F.fn hr rfl rfl T.z_super
    (fun us ws h1 h2 e => match us, ws, h1, h2 with | [], [_], _, _ => rfl) (by decide +kernel) ?_ (by decide)
  intro us ws vs zs r1 r2 h1 h2 e env he
  cases env
  cases he
  cases r1 with
  | cons _ _ => cases h1
  | nil =>
    cases r2 with
    | nil => cases h2
    | cons q0 qt0 =>
      cases qt0 with
      | cons _ _ => cases h2
      | nil =>
        refine ⟨_, rfl, ?_, ?_, ?_, .cons (.var (by rfl) q0 rfl rfl rfl) (.cons (.con rfl) (.nil))⟩
        · simp
        · simp
        · intro p hp
          simp only [List.mem_cons, List.not_mem_nil, or_false] at hp
          rcases hp with rfl | rfl
          · exact T.tk_DuplicateName_name
          · exact T.tk_DuplicateName_code⟩
def bl_InvalidName_p0_name : List V → List V → List (Str × V) := fun vs zs => match vs, zs with
  | [], [k0] => [("code", .str "InvalidName"), ("name", k0)]
  | _, _ => []
def mxe_InvalidName_p0_name : MixE := fun l z => match l, z with
  | [], [k0] => some ([1, 3], [.str "InvalidName", k0])
  | _, _ => none
theorem exd_InvalidName_p0_name : ExD (pg K) 0 (["name"] : List Str).length bl_InvalidName_p0_name mxe_InvalidName_p0_name := ⟨fun F μ l z ks xs vs zs r1 r2 h => by
  unfold mxe_InvalidName_p0_name at h
  split at h
  · cases h
    cases r1
    cases r2 with
    | cons q0 qt0 =>
      cases qt0
      exact ⟨rfl, rfl, rfl, .cons (.str _) (.cons q0 (.nil))⟩
  · cases h⟩
abbrev s_InvalidNamedd_initdd_xInvalidName_p0_name : Stmt := inClass (top 5) 0
theorem okx_InvalidName_p0_name (T : Tx K mg) (F : FunX P K (He.ga K "InvalidName") (He.ma K (He.ga K "InvalidName") "__init__") "InvalidName.__init__" (defArgs s_InvalidNamedd_initdd_xInvalidName_p0_name) (defBody s_InvalidNamedd_initdd_xInvalidName_p0_name) (defScope s_InvalidNamedd_initdd_xInvalidName_p0_name)) : OkE (pg K) P w mg base 4 0 (["name"] : List Str) bl_InvalidName_p0_name := ⟨fun X e hr => by
  obtain ⟨e1, e2, e3, e4, e5⟩ := e
  have e3 : X.K = K := e3
  subst e1 e2 e3 e4 e5
  obtain ⟨kV, doc, pm, an, cda, ct, cc, z, hcd⟩ := F.ex
  refine Xq.mkX_of (k := 0) (n := 0) (ps := (["name"] : List Str)) (pm' := fun us ws => match us, ws with | [], [k0] => [k0] | _, _ => []) T.xc_InvalidName z ⟨rfl, rfl, rfl, rfl, rfl, rfl, by decide +kernel⟩ ⟨fun env h => by cases env; cases h; exact ⟨_, rfl⟩, fun env h => by cases env; cases h; rfl, fun env h => by cases env; cases h; rfl⟩ hcd F.init F.fn hr rfl rfl T.z_super
    (fun us ws h1 h2 e => match us, ws, h1, h2 with | [], [_], _, _ => rfl) (by decide +kernel) ?_ (by decide)
  intro us ws vs zs r1 r2 h1 h2 e env he
  cases env
  cases he
  cases r1 with
  | cons _ _ => cases h1
  | nil =>
    cases r2 with
    | nil => cases h2
    | cons q0 qt0 =>
      cases qt0 with
      | cons _ _ => cases h2
      | nil =>
        refine ⟨_, rfl, ?_, ?_, ?_, .cons (.var (by rfl) q0 rfl rfl rfl) (.cons (.con rfl) (.nil))⟩
        · simp
        · simp
        · intro p hp
          simp only [List.mem_cons, List.not_mem_nil, or_false] at hp
          rcases hp with rfl | rfl
          · exact T.tk_InvalidName_name
          · exact T.tk_InvalidName_code⟩
def bl_InvalidDeed_p0_index : List V → List V → List (Str × V) := fun vs zs => match vs, zs with
  | [], [k0] => [("code", .str "InvalidDeed"), ("index", k0)]
  | _, _ => []
def mxe_InvalidDeed_p0_index : MixE := fun l z => match l, z with
  | [], [k0] => some ([1, 11], [.str "InvalidDeed", k0])
  | _, _ => none
theorem exd_InvalidDeed_p0_index : ExD (pg K) 0 (["index"] : List Str).length bl_InvalidDeed_p0_index mxe_InvalidDeed_p0_index := ⟨fun F μ l z ks xs vs zs r1 r2 h => by
  unfold mxe_InvalidDeed_p0_index at h
  split at h
  · cases h
    cases r1
    cases r2 with
    | cons q0 qt0 =>
      cases qt0
      exact ⟨rfl, rfl, rfl, .cons (.str _) (.cons q0 (.nil))⟩
  · cases h⟩
abbrev s_InvalidDeeddd_initdd_xInvalidDeed_p0_index : Stmt := inClass (top 23) 0
theorem okx_InvalidDeed_p0_index (T : Tx K mg) (F : FunX P K (He.ga K "InvalidDeed") (He.ma K (He.ga K "InvalidDeed") "__init__") "InvalidDeed.__init__" (defArgs s_InvalidDeeddd_initdd_xInvalidDeed_p0_index) (defBody s_InvalidDeeddd_initdd_xInvalidDeed_p0_index) (defScope s_InvalidDeeddd_initdd_xInvalidDeed_p0_index)) : OkE (pg K) P w mg base 22 0 (["index"] : List Str) bl_InvalidDeed_p0_index := ⟨fun X e hr => by
  obtain ⟨e1, e2, e3, e4, e5⟩ := e
  have e3 : X.K = K := e3
  subst e1 e2 e3 e4 e5
  obtain ⟨kV, doc, pm, an, cda, ct, cc, z, hcd⟩ := F.ex
  refine Xq.mkX_of (k := 0) (n := 0) (ps := (["index"] : List Str)) (pm' := fun us ws => match us, ws with | [], [k0] => [k0] | _, _ => []) T.xc_InvalidDeed z ⟨rfl, rfl, rfl, rfl, rfl, rfl, by decide +kernel⟩ ⟨fun env h => by cases env; cases h; exact ⟨_, rfl⟩, fun env h => by cases env; cases h; rfl, fun env h => by cases env; cases h; rfl⟩ hcd F.init F.fn hr rfl rfl T.z_super
    (fun us ws h1 h2 e => match us, ws, h1, h2 with | [], [_], _, _ => rfl) (by decide +kernel) ?_ (by decide)
  intro us ws vs zs r1 r2 h1 h2 e env he
  cases env
  cases he
  cases r1 with
  | cons _ _ => cases h1
  | nil =>
    cases r2 with
    | nil => cases h2
    | cons q0 qt0 =>
      cases qt0 with
      | cons _ _ => cases h2
      | nil =>
        refine ⟨_, rfl, ?_, ?_, ?_, .cons (.var (by rfl) q0 rfl rfl rfl) (.cons (.con rfl) (.nil))⟩
        · simp
        · simp
        · intro p hp
          simp only [List.mem_cons, List.not_mem_nil, or_false] at hp
          rcases hp with rfl | rfl
          · exact T.tk_InvalidDeed_index
          · exact T.tk_InvalidDeed_code⟩
def bl_InvalidTiles_p0_at : List V → List V → List (Str × V) := fun vs zs => match vs, zs with
  | [], [k0] => [("code", .str "InvalidTiles"), ("at", k0)]
  | _, _ => []
def mxe_InvalidTiles_p0_at : MixE := fun l z => match l, z with
  | [], [k0] => some ([1, 4], [.str "InvalidTiles", k0])
  | _, _ => none
theorem exd_InvalidTiles_p0_at : ExD (pg K) 0 (["at"] : List Str).length bl_InvalidTiles_p0_at mxe_InvalidTiles_p0_at := ⟨fun F μ l z ks xs vs zs r1 r2 h => by
  unfold mxe_InvalidTiles_p0_at at h
  split at h
  · cases h
    cases r1
    cases r2 with
    | cons q0 qt0 =>
      cases qt0
      exact ⟨rfl, rfl, rfl, .cons (.str _) (.cons q0 (.nil))⟩
  · cases h⟩
abbrev s_InvalidTilesdd_initdd_xInvalidTiles_p0_at : Stmt := inClass (top 11) 0
theorem okx_InvalidTiles_p0_at (T : Tx K mg) (F : FunX P K (He.ga K "InvalidTiles") (He.ma K (He.ga K "InvalidTiles") "__init__") "InvalidTiles.__init__" (defArgs s_InvalidTilesdd_initdd_xInvalidTiles_p0_at) (defBody s_InvalidTilesdd_initdd_xInvalidTiles_p0_at) (defScope s_InvalidTilesdd_initdd_xInvalidTiles_p0_at)) : OkE (pg K) P w mg base 10 0 (["at"] : List Str) bl_InvalidTiles_p0_at := ⟨fun X e hr => by
  obtain ⟨e1, e2, e3, e4, e5⟩ := e
  have e3 : X.K = K := e3
  subst e1 e2 e3 e4 e5
  obtain ⟨kV, doc, pm, an, cda, ct, cc, z, hcd⟩ := F.ex
  refine Xq.mkX_of (k := 0) (n := 0) (ps := (["at"] : List Str)) (pm' := fun us ws => match us, ws with | [], [k0] => [k0] | _, _ => []) T.xc_InvalidTiles z ⟨rfl, rfl, rfl, rfl, rfl, rfl, by decide +kernel⟩ ⟨fun env h => by cases env; cases h; exact ⟨_, rfl⟩, fun env h => by cases env; cases h; rfl, fun env h => by cases env; cases h; rfl⟩ hcd F.init F.fn hr rfl rfl T.z_super
    (fun us ws h1 h2 e => match us, ws, h1, h2 with | [], [_], _, _ => rfl) (by decide +kernel) ?_ (by decide)
  intro us ws vs zs r1 r2 h1 h2 e env he
  cases env
  cases he
  cases r1 with
  | cons _ _ => cases h1
  | nil =>
    cases r2 with
    | nil => cases h2
    | cons q0 qt0 =>
      cases qt0 with
      | cons _ _ => cases h2
      | nil =>
        refine ⟨_, rfl, ?_, ?_, ?_, .cons (.var (by rfl) q0 rfl rfl rfl) (.cons (.con rfl) (.nil))⟩
        · simp
        · simp
        · intro p hp
          simp only [List.mem_cons, List.not_mem_nil, or_false] at hp
          rcases hp with rfl | rfl
          · exact T.tk_InvalidTiles_at
          · exact T.tk_InvalidTiles_code⟩
def bl_InvalidCorners_p0_at : List V → List V → List (Str × V) := fun vs zs => match vs, zs with
  | [], [k0] => [("code", .str "InvalidCorners"), ("at", k0)]
  | _, _ => []
def mxe_InvalidCorners_p0_at : MixE := fun l z => match l, z with
  | [], [k0] => some ([1, 4], [.str "InvalidCorners", k0])
  | _, _ => none
theorem exd_InvalidCorners_p0_at : ExD (pg K) 0 (["at"] : List Str).length bl_InvalidCorners_p0_at mxe_InvalidCorners_p0_at := ⟨fun F μ l z ks xs vs zs r1 r2 h => by
  unfold mxe_InvalidCorners_p0_at at h
  split at h
  · cases h
    cases r1
    cases r2 with
    | cons q0 qt0 =>
      cases qt0
      exact ⟨rfl, rfl, rfl, .cons (.str _) (.cons q0 (.nil))⟩
  · cases h⟩
abbrev s_InvalidCornersdd_initdd_xInvalidCorners_p0_at : Stmt := inClass (top 7) 0
theorem okx_InvalidCorners_p0_at (T : Tx K mg) (F : FunX P K (He.ga K "InvalidCorners") (He.ma K (He.ga K "InvalidCorners") "__init__") "InvalidCorners.__init__" (defArgs s_InvalidCornersdd_initdd_xInvalidCorners_p0_at) (defBody s_InvalidCornersdd_initdd_xInvalidCorners_p0_at) (defScope s_InvalidCornersdd_initdd_xInvalidCorners_p0_at)) : OkE (pg K) P w mg base 6 0 (["at"] : List Str) bl_InvalidCorners_p0_at := ⟨fun X e hr => by
  obtain ⟨e1, e2, e3, e4, e5⟩ := e
  have e3 : X.K = K := e3
  subst e1 e2 e3 e4 e5
  obtain ⟨kV, doc, pm, an, cda, ct, cc, z, hcd⟩ := F.ex
  refine Xq.mkX_of (k := 0) (n := 0) (ps := (["at"] : List Str)) (pm' := fun us ws => match us, ws with | [], [k0] => [k0] | _, _ => []) T.xc_InvalidCorners z ⟨rfl, rfl, rfl, rfl, rfl, rfl, by decide +kernel⟩ ⟨fun env h => by cases env; cases h; exact ⟨_, rfl⟩, fun env h => by cases env; cases h; rfl, fun env h => by cases env; cases h; rfl⟩ hcd F.init F.fn hr rfl rfl T.z_super
    (fun us ws h1 h2 e => match us, ws, h1, h2 with | [], [_], _, _ => rfl) (by decide +kernel) ?_ (by decide)
  intro us ws vs zs r1 r2 h1 h2 e env he
  cases env
  cases he
  cases r1 with
  | cons _ _ => cases h1
  | nil =>
    cases r2 with
    | nil => cases h2
    | cons q0 qt0 =>
      cases qt0 with
      | cons _ _ => cases h2
      | nil =>
        refine ⟨_, rfl, ?_, ?_, ?_, .cons (.var (by rfl) q0 rfl rfl rfl) (.cons (.con rfl) (.nil))⟩
        · simp
        · simp
        · intro p hp
          simp only [List.mem_cons, List.not_mem_nil, or_false] at hp
          rcases hp with rfl | rfl
          · exact T.tk_InvalidCorners_at
          · exact T.tk_InvalidCorners_code⟩
def bl_InvalidText_p0_line : List V → List V → List (Str × V) := fun vs zs => match vs, zs with
  | [], [k0] => [("code", .str "InvalidText"), ("line", k0)]
  | _, _ => []
def mxe_InvalidText_p0_line : MixE := fun l z => match l, z with
  | [], [k0] => some ([1, 2], [.str "InvalidText", k0])
  | _, _ => none
theorem exd_InvalidText_p0_line : ExD (pg K) 0 (["line"] : List Str).length bl_InvalidText_p0_line mxe_InvalidText_p0_line := ⟨fun F μ l z ks xs vs zs r1 r2 h => by
  unfold mxe_InvalidText_p0_line at h
  split at h
  · cases h
    cases r1
    cases r2 with
    | cons q0 qt0 =>
      cases qt0
      exact ⟨rfl, rfl, rfl, .cons (.str _) (.cons q0 (.nil))⟩
  · cases h⟩
abbrev s_InvalidTextdd_initdd_xInvalidText_p0_line : Stmt := inClass (top 4) 0
theorem okx_InvalidText_p0_line (T : Tx K mg) (F : FunX P K (He.ga K "InvalidText") (He.ma K (He.ga K "InvalidText") "__init__") "InvalidText.__init__" (defArgs s_InvalidTextdd_initdd_xInvalidText_p0_line) (defBody s_InvalidTextdd_initdd_xInvalidText_p0_line) (defScope s_InvalidTextdd_initdd_xInvalidText_p0_line)) : OkE (pg K) P w mg base 3 0 (["line"] : List Str) bl_InvalidText_p0_line := ⟨fun X e hr => by
  obtain ⟨e1, e2, e3, e4, e5⟩ := e
  have e3 : X.K = K := e3
  subst e1 e2 e3 e4 e5
  obtain ⟨kV, doc, pm, an, cda, ct, cc, z, hcd⟩ := F.ex
  refine Xq.mkX_of (k := 0) (n := 0) (ps := (["line"] : List Str)) (pm' := fun us ws => match us, ws with | [], [k0] => [k0] | _, _ => []) T.xc_InvalidText z ⟨rfl, rfl, rfl, rfl, rfl, rfl, by decide +kernel⟩ ⟨fun env h => by cases env; cases h; exact ⟨_, rfl⟩, fun env h => by cases env; cases h; rfl, fun env h => by cases env; cases h; rfl⟩ hcd F.init F.fn hr rfl rfl T.z_super
    (fun us ws h1 h2 e => match us, ws, h1, h2 with | [], [_], _, _ => rfl) (by decide +kernel) ?_ (by decide)
  intro us ws vs zs r1 r2 h1 h2 e env he
  cases env
  cases he
  cases r1 with
  | cons _ _ => cases h1
  | nil =>
    cases r2 with
    | nil => cases h2
    | cons q0 qt0 =>
      cases qt0 with
      | cons _ _ => cases h2
      | nil =>
        refine ⟨_, rfl, ?_, ?_, ?_, .cons (.var (by rfl) q0 rfl rfl rfl) (.cons (.con rfl) (.nil))⟩
        · simp
        · simp
        · intro p hp
          simp only [List.mem_cons, List.not_mem_nil, or_false] at hp
          rcases hp with rfl | rfl
          · exact T.tk_InvalidText_line
          · exact T.tk_InvalidText_code⟩
def bl_InvalidLimit_p0_given : List V → List V → List (Str × V) := fun vs zs => match vs, zs with
  | [], [k0] => [("code", .str "InvalidLimit"), ("given", k0)]
  | _, _ => []
def mxe_InvalidLimit_p0_given : MixE := fun l z => match l, z with
  | [], [k0] => some ([1, 0], [.str "InvalidLimit", k0])
  | _, _ => none
theorem exd_InvalidLimit_p0_given : ExD (pg K) 0 (["given"] : List Str).length bl_InvalidLimit_p0_given mxe_InvalidLimit_p0_given := ⟨fun F μ l z ks xs vs zs r1 r2 h => by
  unfold mxe_InvalidLimit_p0_given at h
  split at h
  · cases h
    cases r1
    cases r2 with
    | cons q0 qt0 =>
      cases qt0
      exact ⟨rfl, rfl, rfl, .cons (.str _) (.cons q0 (.nil))⟩
  · cases h⟩
abbrev s_InvalidLimitdd_initdd_xInvalidLimit_p0_given : Stmt := inClass (top 24) 0
theorem okx_InvalidLimit_p0_given (T : Tx K mg) (F : FunX P K (He.ga K "InvalidLimit") (He.ma K (He.ga K "InvalidLimit") "__init__") "InvalidLimit.__init__" (defArgs s_InvalidLimitdd_initdd_xInvalidLimit_p0_given) (defBody s_InvalidLimitdd_initdd_xInvalidLimit_p0_given) (defScope s_InvalidLimitdd_initdd_xInvalidLimit_p0_given)) : OkE (pg K) P w mg base 23 0 (["given"] : List Str) bl_InvalidLimit_p0_given := ⟨fun X e hr => by
  obtain ⟨e1, e2, e3, e4, e5⟩ := e
  have e3 : X.K = K := e3
  subst e1 e2 e3 e4 e5
  obtain ⟨kV, doc, pm, an, cda, ct, cc, z, hcd⟩ := F.ex
  refine Xq.mkX_of (k := 0) (n := 0) (ps := (["given"] : List Str)) (pm' := fun us ws => match us, ws with | [], [k0] => [k0] | _, _ => []) T.xc_InvalidLimit z ⟨rfl, rfl, rfl, rfl, rfl, rfl, by decide +kernel⟩ ⟨fun env h => by cases env; cases h; exact ⟨_, rfl⟩, fun env h => by cases env; cases h; rfl, fun env h => by cases env; cases h; rfl⟩ hcd F.init F.fn hr rfl rfl T.z_super
    (fun us ws h1 h2 e => match us, ws, h1, h2 with | [], [_], _, _ => rfl) (by decide +kernel) ?_ (by decide)
  intro us ws vs zs r1 r2 h1 h2 e env he
  cases env
  cases he
  cases r1 with
  | cons _ _ => cases h1
  | nil =>
    cases r2 with
    | nil => cases h2
    | cons q0 qt0 =>
      cases qt0 with
      | cons _ _ => cases h2
      | nil =>
        refine ⟨_, rfl, ?_, ?_, ?_, .cons (.var (by rfl) q0 rfl rfl rfl) (.cons (.con rfl) (.nil))⟩
        · simp
        · simp
        · intro p hp
          simp only [List.mem_cons, List.not_mem_nil, or_false] at hp
          rcases hp with rfl | rfl
          · exact T.tk_InvalidLimit_given
          · exact T.tk_InvalidLimit_code⟩
def bl_InvalidCount_p0_given : List V → List V → List (Str × V) := fun vs zs => match vs, zs with
  | [], [k0] => [("code", .str "InvalidCount"), ("given", k0)]
  | _, _ => []
def mxe_InvalidCount_p0_given : MixE := fun l z => match l, z with
  | [], [k0] => some ([1, 0], [.str "InvalidCount", k0])
  | _, _ => none
theorem exd_InvalidCount_p0_given : ExD (pg K) 0 (["given"] : List Str).length bl_InvalidCount_p0_given mxe_InvalidCount_p0_given := ⟨fun F μ l z ks xs vs zs r1 r2 h => by
  unfold mxe_InvalidCount_p0_given at h
  split at h
  · cases h
    cases r1
    cases r2 with
    | cons q0 qt0 =>
      cases qt0
      exact ⟨rfl, rfl, rfl, .cons (.str _) (.cons q0 (.nil))⟩
  · cases h⟩
abbrev s_InvalidCountdd_initdd_xInvalidCount_p0_given : Stmt := inClass (top 21) 0
theorem okx_InvalidCount_p0_given (T : Tx K mg) (F : FunX P K (He.ga K "InvalidCount") (He.ma K (He.ga K "InvalidCount") "__init__") "InvalidCount.__init__" (defArgs s_InvalidCountdd_initdd_xInvalidCount_p0_given) (defBody s_InvalidCountdd_initdd_xInvalidCount_p0_given) (defScope s_InvalidCountdd_initdd_xInvalidCount_p0_given)) : OkE (pg K) P w mg base 20 0 (["given"] : List Str) bl_InvalidCount_p0_given := ⟨fun X e hr => by
  obtain ⟨e1, e2, e3, e4, e5⟩ := e
  have e3 : X.K = K := e3
  subst e1 e2 e3 e4 e5
  obtain ⟨kV, doc, pm, an, cda, ct, cc, z, hcd⟩ := F.ex
  refine Xq.mkX_of (k := 0) (n := 0) (ps := (["given"] : List Str)) (pm' := fun us ws => match us, ws with | [], [k0] => [k0] | _, _ => []) T.xc_InvalidCount z ⟨rfl, rfl, rfl, rfl, rfl, rfl, by decide +kernel⟩ ⟨fun env h => by cases env; cases h; exact ⟨_, rfl⟩, fun env h => by cases env; cases h; rfl, fun env h => by cases env; cases h; rfl⟩ hcd F.init F.fn hr rfl rfl T.z_super
    (fun us ws h1 h2 e => match us, ws, h1, h2 with | [], [_], _, _ => rfl) (by decide +kernel) ?_ (by decide)
  intro us ws vs zs r1 r2 h1 h2 e env he
  cases env
  cases he
  cases r1 with
  | cons _ _ => cases h1
  | nil =>
    cases r2 with
    | nil => cases h2
    | cons q0 qt0 =>
      cases qt0 with
      | cons _ _ => cases h2
      | nil =>
        refine ⟨_, rfl, ?_, ?_, ?_, .cons (.var (by rfl) q0 rfl rfl rfl) (.cons (.con rfl) (.nil))⟩
        · simp
        · simp
        · intro p hp
          simp only [List.mem_cons, List.not_mem_nil, or_false] at hp
          rcases hp with rfl | rfl
          · exact T.tk_InvalidCount_given
          · exact T.tk_InvalidCount_code⟩
def bl_InvalidSpan_p0_given : List V → List V → List (Str × V) := fun vs zs => match vs, zs with
  | [], [k0] => [("code", .str "InvalidSpan"), ("given", k0)]
  | _, _ => []
def mxe_InvalidSpan_p0_given : MixE := fun l z => match l, z with
  | [], [k0] => some ([1, 0], [.str "InvalidSpan", k0])
  | _, _ => none
theorem exd_InvalidSpan_p0_given : ExD (pg K) 0 (["given"] : List Str).length bl_InvalidSpan_p0_given mxe_InvalidSpan_p0_given := ⟨fun F μ l z ks xs vs zs r1 r2 h => by
  unfold mxe_InvalidSpan_p0_given at h
  split at h
  · cases h
    cases r1
    cases r2 with
    | cons q0 qt0 =>
      cases qt0
      exact ⟨rfl, rfl, rfl, .cons (.str _) (.cons q0 (.nil))⟩
  · cases h⟩
abbrev s_InvalidSpandd_initdd_xInvalidSpan_p0_given : Stmt := inClass (top 3) 0
theorem okx_InvalidSpan_p0_given (T : Tx K mg) (F : FunX P K (He.ga K "InvalidSpan") (He.ma K (He.ga K "InvalidSpan") "__init__") "InvalidSpan.__init__" (defArgs s_InvalidSpandd_initdd_xInvalidSpan_p0_given) (defBody s_InvalidSpandd_initdd_xInvalidSpan_p0_given) (defScope s_InvalidSpandd_initdd_xInvalidSpan_p0_given)) : OkE (pg K) P w mg base 2 0 (["given"] : List Str) bl_InvalidSpan_p0_given := ⟨fun X e hr => by
  obtain ⟨e1, e2, e3, e4, e5⟩ := e
  have e3 : X.K = K := e3
  subst e1 e2 e3 e4 e5
  obtain ⟨kV, doc, pm, an, cda, ct, cc, z, hcd⟩ := F.ex
  refine Xq.mkX_of (k := 0) (n := 0) (ps := (["given"] : List Str)) (pm' := fun us ws => match us, ws with | [], [k0] => [k0] | _, _ => []) T.xc_InvalidSpan z ⟨rfl, rfl, rfl, rfl, rfl, rfl, by decide +kernel⟩ ⟨fun env h => by cases env; cases h; exact ⟨_, rfl⟩, fun env h => by cases env; cases h; rfl, fun env h => by cases env; cases h; rfl⟩ hcd F.init F.fn hr rfl rfl T.z_super
    (fun us ws h1 h2 e => match us, ws, h1, h2 with | [], [_], _, _ => rfl) (by decide +kernel) ?_ (by decide)
  intro us ws vs zs r1 r2 h1 h2 e env he
  cases env
  cases he
  cases r1 with
  | cons _ _ => cases h1
  | nil =>
    cases r2 with
    | nil => cases h2
    | cons q0 qt0 =>
      cases qt0 with
      | cons _ _ => cases h2
      | nil =>
        refine ⟨_, rfl, ?_, ?_, ?_, .cons (.var (by rfl) q0 rfl rfl rfl) (.cons (.con rfl) (.nil))⟩
        · simp
        · simp
        · intro p hp
          simp only [List.mem_cons, List.not_mem_nil, or_false] at hp
          rcases hp with rfl | rfl
          · exact T.tk_InvalidSpan_given
          · exact T.tk_InvalidSpan_code⟩
def bl_InvalidRatio_p0_given : List V → List V → List (Str × V) := fun vs zs => match vs, zs with
  | [], [k0] => [("code", .str "InvalidRatio"), ("given", k0)]
  | _, _ => []
def mxe_InvalidRatio_p0_given : MixE := fun l z => match l, z with
  | [], [k0] => some ([1, 0], [.str "InvalidRatio", k0])
  | _, _ => none
theorem exd_InvalidRatio_p0_given : ExD (pg K) 0 (["given"] : List Str).length bl_InvalidRatio_p0_given mxe_InvalidRatio_p0_given := ⟨fun F μ l z ks xs vs zs r1 r2 h => by
  unfold mxe_InvalidRatio_p0_given at h
  split at h
  · cases h
    cases r1
    cases r2 with
    | cons q0 qt0 =>
      cases qt0
      exact ⟨rfl, rfl, rfl, .cons (.str _) (.cons q0 (.nil))⟩
  · cases h⟩
abbrev s_InvalidRatiodd_initdd_xInvalidRatio_p0_given : Stmt := inClass (top 2) 0
theorem okx_InvalidRatio_p0_given (T : Tx K mg) (F : FunX P K (He.ga K "InvalidRatio") (He.ma K (He.ga K "InvalidRatio") "__init__") "InvalidRatio.__init__" (defArgs s_InvalidRatiodd_initdd_xInvalidRatio_p0_given) (defBody s_InvalidRatiodd_initdd_xInvalidRatio_p0_given) (defScope s_InvalidRatiodd_initdd_xInvalidRatio_p0_given)) : OkE (pg K) P w mg base 1 0 (["given"] : List Str) bl_InvalidRatio_p0_given := ⟨fun X e hr => by
  obtain ⟨e1, e2, e3, e4, e5⟩ := e
  have e3 : X.K = K := e3
  subst e1 e2 e3 e4 e5
  obtain ⟨kV, doc, pm, an, cda, ct, cc, z, hcd⟩ := F.ex
  refine Xq.mkX_of (k := 0) (n := 0) (ps := (["given"] : List Str)) (pm' := fun us ws => match us, ws with | [], [k0] => [k0] | _, _ => []) T.xc_InvalidRatio z ⟨rfl, rfl, rfl, rfl, rfl, rfl, by decide +kernel⟩ ⟨fun env h => by cases env; cases h; exact ⟨_, rfl⟩, fun env h => by cases env; cases h; rfl, fun env h => by cases env; cases h; rfl⟩ hcd F.init F.fn hr rfl rfl T.z_super
    (fun us ws h1 h2 e => match us, ws, h1, h2 with | [], [_], _, _ => rfl) (by decide +kernel) ?_ (by decide)
  intro us ws vs zs r1 r2 h1 h2 e env he
  cases env
  cases he
  cases r1 with
  | cons _ _ => cases h1
  | nil =>
    cases r2 with
    | nil => cases h2
    | cons q0 qt0 =>
      cases qt0 with
      | cons _ _ => cases h2
      | nil =>
        refine ⟨_, rfl, ?_, ?_, ?_, .cons (.var (by rfl) q0 rfl rfl rfl) (.cons (.con rfl) (.nil))⟩
        · simp
        · simp
        · intro p hp
          simp only [List.mem_cons, List.not_mem_nil, or_false] at hp
          rcases hp with rfl | rfl
          · exact T.tk_InvalidRatio_given
          · exact T.tk_InvalidRatio_code⟩
/-! #### _law_kinds_apart (level 1) -/
abbrev s_law_kinds_apart : Stmt := top 38
theorem sc_law_kinds_apart : FnScope (["_law_every", "_law_codes", "_law_kinds", "_law_marks", "_law_e", "_law_code_z", "_law_mark_z"] : List Str) (["_law_every", "_law_codes"] : List Str) (defScope s_law_kinds_apart) := ⟨rfl, rfl, rfl, by decide +kernel, rfl, by decide +kernel, by decide +kernel⟩
def b_law_kinds_apart (L : Nat) : GS :=
 (gSeq (gSet 2 (gLc (gVar 0) (tN 4) [4] gYes (gLst (gCons (gUn (isiX isi_TooMany isx_TooMany) (gVar 4)) (gCons (gUn (isiX isi_InvalidName isx_InvalidName) (gVar 4)) (gCons (gUn (isiX isi_InvalidText isx_InvalidText) (gVar 4)) (gCons (gUn (isiX isi_InvalidPlace isx_InvalidPlace) (gVar 4)) (gCons (gUn (isiX isi_InvalidSpan isx_InvalidSpan) (gVar 4)) (gCons (gUn (isiX isi_InvalidWall isx_InvalidWall) (gVar 4)) (gCons (gUn (isiX isi_UnknownMark isx_UnknownMark) (gVar 4)) gNil))))))))))
 (gSeq (gSet 3 (gLst (gCons (gC (.str "TooMany")) (gCons (gC (.str "InvalidName")) (gCons (gC (.str "InvalidText")) (gCons (gC (.str "InvalidPlace")) (gCons (gC (.str "InvalidSpan")) (gCons (gC (.str "InvalidWall")) (gCons (gC (.str "UnknownMark")) gNil)))))))))
 (gRet (gBin eqD (gVar 2) (gLc (gVar 1) (tN 5) [5] gYes (gLc (gVar 3) (tN 6) [6] gYes (gBin eqD (gVar 5) (gVar 6))))))))
def m_law_kinds_apart (L : Nat) : List DV → Sto → R DV := run 7 2 (b_law_kinds_apart L)
theorem fn_law_kinds_apart (L : Nat) (T : Tx K mg) {fd : FuncData} (F : FunD K "_law_kinds_apart" "_law_kinds_apart" (defArgs s_law_kinds_apart) (defBody s_law_kinds_apart) (defScope s_law_kinds_apart) [] [] (He.ga K "_law_kinds_apart") fd) : FnOk P w K mg base CX0 1 (He.ga K "_law_kinds_apart") fd (["_law_every", "_law_codes"] : List Str) (spD (pg K) We0 2 (m_law_kinds_apart L)) := by
  have S := sc_law_kinds_apart
  refine def0' (p := pg K) (k := 0) (nN := 7) (n := 2) (b := b_law_kinds_apart L) (m := m_law_kinds_apart L) F S rfl rfl (by decide) rfl (fun cdv A outer s H E hr => ?_)
  exact (bcons (ssetLc 2 (own := [("_law_e", 4)]) rfl S.nd (qv 0) (blkOk_by (show blkC (["_law_every", "_law_codes", "_law_kinds", "_law_marks", "_law_e", "_law_code_z", "_law_mark_z"] : List Str) (defScope s_law_kinds_apart) _ _ = true from by decide +kernel)) (tgb_name 4) (fun _ _ _ _ _ => pg_name (i := 4) S.nd rfl (by first | exact Or.inl rfl | exact Or.inr rfl)) (fun _ _ _ _ _ => qts_nil) (fun _ _ _ _ _ => (qlst (qcons (qisiX T.z_isinstance rfl (by decide +kernel) (qv 4) (pe_glob (v := .ref (He.ga K "TooMany")) rfl T.g_TooMany rfl) (.own _) rfl T.isi_TooMany T.isx_TooMany) (qcons (qisiX T.z_isinstance rfl (by decide +kernel) (qv 4) (pe_glob (v := .ref (He.ga K "InvalidName")) rfl T.g_InvalidName rfl) (.own _) rfl T.isi_InvalidName T.isx_InvalidName) (qcons (qisiX T.z_isinstance rfl (by decide +kernel) (qv 4) (pe_glob (v := .ref (He.ga K "InvalidText")) rfl T.g_InvalidText rfl) (.own _) rfl T.isi_InvalidText T.isx_InvalidText) (qcons (qisiX T.z_isinstance rfl (by decide +kernel) (qv 4) (pe_glob (v := .ref (He.ga K "InvalidPlace")) rfl T.g_InvalidPlace rfl) (.own _) rfl T.isi_InvalidPlace T.isx_InvalidPlace) (qcons (qisiX T.z_isinstance rfl (by decide +kernel) (qv 4) (pe_glob (v := .ref (He.ga K "InvalidSpan")) rfl T.g_InvalidSpan rfl) (.own _) rfl T.isi_InvalidSpan T.isx_InvalidSpan) (qcons (qisiX T.z_isinstance rfl (by decide +kernel) (qv 4) (pe_glob (v := .ref (He.ga K "InvalidWall")) rfl T.g_InvalidWall rfl) (.own _) rfl T.isi_InvalidWall T.isx_InvalidWall) (qcons (qisiX T.z_isinstance rfl (by decide +kernel) (qv 4) (pe_glob (v := .ref (He.ga K "UnknownMark")) rfl T.g_UnknownMark rfl) (.own _) rfl T.isi_UnknownMark T.isx_UnknownMark) qnil))))))))))
 (bcons (sset 3 S.nd (by first | exact Or.inl rfl | exact Or.inr rfl) (qlst (qcons qstr (qcons qstr (qcons qstr (qcons qstr (qcons qstr (qcons qstr (qcons qstr qnil)))))))))
 (bone (sret (qcmp (opd_eq rfl hr.units) (qv 2) (qlc (own := [("_law_code_z", 5)]) rfl S.nd (qv 1) (blkOk_by (show blkC (["_law_every", "_law_codes", "_law_kinds", "_law_marks", "_law_e", "_law_code_z", "_law_mark_z"] : List Str) (defScope s_law_kinds_apart) _ _ = true from by decide +kernel)) (tgb_name 5) (fun _ _ _ _ _ => pg_name (i := 5) S.nd rfl (by first | exact Or.inl rfl | exact Or.inr rfl)) (fun _ _ _ _ _ => qts_nil) (fun _ _ _ _ _ => (qlc (own := [("_law_mark_z", 6)]) rfl S.nd (qv 3) (blkOk_by (by rfl)) (tgb_name 6) (fun _ _ _ _ _ => pg_name (i := 6) S.nd rfl (by first | exact Or.inl rfl | exact Or.inr rfl)) (fun _ _ _ _ _ => qts_nil) (fun _ _ _ _ _ => (qcmp (opd_eq rfl hr.units) (qv 5) (qv 6) (nomark _)))))) (nomark _))))))
theorem ok_law_kinds_apart (L : Nat) (T : Tx K mg) (F : ∃ fd, FunD K "_law_kinds_apart" "_law_kinds_apart" (defArgs s_law_kinds_apart) (defBody s_law_kinds_apart) (defScope s_law_kinds_apart) [] [] (He.ga K "_law_kinds_apart") fd) : OkD (pg K) P w mg base 1 (He.ga K "_law_kinds_apart") 2 (m_law_kinds_apart L) [] :=
  let ⟨fd, F⟩ := F; ⟨⟨fd, _, [], [], rfl, fn_law_kinds_apart L T  F, .nil, F.bindsN (fun _ _ _ _ _ _ us hl => match us, hl with | [_, _], _ => rfl), fun _ _ => .nil⟩, fun ds s h => run_len h⟩
/-! #### _law_sort (level 1) -/
abbrev s_law_sort : Stmt := top 31
theorem sc_law_sort : FnScope (["_law_thing", "_law_marks"] : List Str) (["_law_thing"] : List Str) (defScope s_law_sort) := ⟨rfl, rfl, rfl, by decide +kernel, rfl, by decide +kernel, by decide +kernel⟩
def b_law_sort (L : Nat) : GS :=
 (gSeq (gSet 1 (gLst (gCons (gBin (isD false) (gVar 0) (gC .non)) (gCons (gUn (isiD isi_bool) (gVar 0)) (gCons (gUn (isiD isi_int) (gVar 0)) (gCons (gUn (isiD isi_str) (gVar 0)) gNil))))))
 (gSeq (gSet 1 (gBin addD (gVar 1) (gLst (gCons (gUn (isiD isi_list) (gVar 0)) (gCons (gUn (isiD isi_tuple) (gVar 0)) (gCons (gC (.bl true)) gNil))))))
 (gRet (gIdx (gVar 1) (gC (.bl true))))))
def m_law_sort (L : Nat) : List DV → Sto → R DV := run 2 1 (b_law_sort L)
theorem fn_law_sort (L : Nat) (T : Tx K mg) {fd : FuncData} (F : FunD K "_law_sort" "_law_sort" (defArgs s_law_sort) (defBody s_law_sort) (defScope s_law_sort) [] [] (He.ga K "_law_sort") fd) : FnOk P w K mg base CX0 1 (He.ga K "_law_sort") fd (["_law_thing"] : List Str) (spD (pg K) We0 1 (m_law_sort L)) := by
  have S := sc_law_sort
  refine def0' (p := pg K) (k := 0) (nN := 2) (n := 1) (b := b_law_sort L) (m := m_law_sort L) F S rfl rfl (by decide) rfl (fun cdv A outer s H E hr => ?_)
  exact (bcons (sset 1 S.nd (Or.inl rfl) (qlst (qcons (qcmp opd_is (qv 0) qnon (nomark _)) (qcons (qisi T.z_isinstance rfl (by decide +kernel) (qv 0) (pe_bltn (v := .ty "bool") rfl T.z_bool (by decide +kernel) rfl) (.ty _) rfl T.isi_bool) (qcons (qisi T.z_isinstance rfl (by decide +kernel) (qv 0) (pe_bltn (v := .ty "int") rfl T.z_int (by decide +kernel) rfl) (.ty _) rfl T.isi_int) (qcons (qisi T.z_isinstance rfl (by decide +kernel) (qv 0) (pe_bltn (v := .ty "str") rfl T.z_str (by decide +kernel) rfl) (.ty _) rfl T.isi_str) qnil))))))
 (bcons (sset 1 S.nd (Or.inl rfl) (qbin (opd_add rfl) (qv 1) (qlst (qcons (qisi T.z_isinstance rfl (by decide +kernel) (qv 0) (pe_bltn (v := .ty "list") rfl T.z_list (by decide +kernel) rfl) (.ty _) rfl T.isi_list) (qcons (qisi T.z_isinstance rfl (by decide +kernel) (qv 0) (pe_bltn (v := .ty "tuple") rfl T.z_tuple (by decide +kernel) rfl) (.ty _) rfl T.isi_tuple) (qcons qbl qnil))))))
 (bone (sret (qidx (qv 1) qbl)))))
theorem ok_law_sort (L : Nat) (T : Tx K mg) (F : ∃ fd, FunD K "_law_sort" "_law_sort" (defArgs s_law_sort) (defBody s_law_sort) (defScope s_law_sort) [] [] (He.ga K "_law_sort") fd) : OkD (pg K) P w mg base 1 (He.ga K "_law_sort") 1 (m_law_sort L) [] :=
  let ⟨fd, F⟩ := F; ⟨⟨fd, _, [], [], rfl, fn_law_sort L T  F, .nil, F.bindsN (fun _ _ _ _ _ _ us hl => match us, hl with | [_], _ => rfl), fun _ _ => .nil⟩, fun ds s h => run_len h⟩
/-! #### _law_same (level 10) -/
abbrev s_law_same : Stmt := top 32
theorem sc_law_same : FnScope (["_law_found", "_law_due", "_law_a", "_law_b"] : List Str) (["_law_found", "_law_due"] : List Str) (defScope s_law_same) := ⟨rfl, rfl, rfl, by decide +kernel, rfl, by decide +kernel, by decide +kernel⟩
def b_law_same (L : Nat) (rec_ : List DV → Sto → R DV) : GS :=
 (gSeq (gIfS (gT truB (gBin neD (gCall (m_law_sort L) [] (gCons (gVar 0) gNil)) (gCall (m_law_sort L) [] (gCons (gVar 1) gNil))))
 (gRet (gC (.bl false)))
 gNext)
 (gSeq (gIfS (gT truB (gBin (inD false) (gCall (m_law_sort L) [] (gCons (gVar 1) gNil)) (gTup (gCons (gC (.int 4)) (gCons (gC (.int 5)) gNil)))))
 (gRet (gAndV (gBin eqD (gB lenD (gCons (gVar 0) gNil)) (gB lenD (gCons (gVar 1) gNil))) (gB allD (gCons (gLz (gCons (gVar 0) (gCons (gVar 1) gNil)) (tTup 2 (tCons (tN 2) (tCons (tN 3) tNil))) [2, 3] gYes (gCall rec_ [] (gCons (gVar 2) (gCons (gVar 3) gNil)))) gNil))))
 gNext)
 (gRet (gBin eqD (gVar 0) (gVar 1)))))
def m_law_same (L : Nat) : Nat → List DV → Sto → R DV
  | 0 => run 4 2 gBad
  | d + 1 => run 4 2 (b_law_same L (m_law_same L d))
theorem fn_law_same (L : Nat) (T : Tx K mg) (o_law_sort : OkD (pg K) P w mg base 1 (He.ga K "_law_sort") 1 (m_law_sort L) []) {fd : FuncData} (F : FunD K "_law_same" "_law_same" (defArgs s_law_same) (defBody s_law_same) (defScope s_law_same) [] [] (He.ga K "_law_same") fd) : ∀ d : Nat, FnOk P w K mg base CX0 (2 + d) (He.ga K "_law_same") fd (["_law_found", "_law_due"] : List Str) (spD (pg K) We0 2 (m_law_same L d))
  | 0 => def0' (p := pg K) (k := 1) (nN := 4) (n := 2) (b := gBad) (m := m_law_same L 0) F sc_law_same rfl rfl (by decide) rfl (fun cdv A outer s H E hr => bnever)
  | d + 1 => by
    have S := sc_law_same
    have o_law_same : OkD (pg K) P w mg base (2 + d) (He.ga K "_law_same") 2 (m_law_same L d) [] := ⟨⟨fd, _, [], [], rfl, fn_law_same L T o_law_sort F d, .nil, F.bindsN (fun _ _ _ _ _ _ us hl => match us, hl with | [_, _], _ => rfl), fun _ _ => .nil⟩, fun ds s h => by cases d <;> exact run_len h⟩
    refine def0' (p := pg K) (k := 2 + d) (nN := 4) (n := 2) (b := b_law_same L (m_law_same L d)) (m := m_law_same L (d + 1)) F S rfl rfl (by decide) rfl (fun cdv A outer s H E hr => ?_)
    exact (bcons (sif (qtcmp (opd_ne rfl hr.units) (qcall (o_law_sort.c (hr.mono (by omega))) T.g__law_sort T.k__law_sort rfl (qcons (qv 0) qnil)) (qcall (o_law_sort.c (hr.mono (by omega))) T.g__law_sort T.k__law_sort rfl (qcons (qv 1) qnil)) (nomark _))
 (bone (sret qbl))
 bnil)
 (bcons (sif (qtcmp (opd_in rfl) (qcall (o_law_sort.c (hr.mono (by omega))) T.g__law_sort T.k__law_sort rfl (qcons (qv 1) qnil)) (qtup (qcons qint (qcons qint qnil))) (by with_unfolding_all rfl))
 (bone (sret (qand (qcmp (opd_eq rfl hr.units) (qblt (opd_len rfl) T.z_len rfl PySem.boot_len (qcons (qv 0) qnil)) (qblt (opd_len rfl) T.z_len rfl PySem.boot_len (qcons (qv 1) qnil)) (nomark _)) (q1 (qblt (opd_all rfl rfl) T.z_all rfl (by decide +kernel) (qcons (qlz (own := [("_law_a", 2), ("_law_b", 3)]) rfl S.nd T.z_zip (qcons (qv 0) (qcons (qv 1) qnil)) (blkOk_by (show blkC (["_law_found", "_law_due", "_law_a", "_law_b"] : List Str) (defScope s_law_same) _ _ = true from by decide +kernel)) (tgb_pair rfl 2 3) (fun _ _ _ _ _ => gpair 2 3 rfl S.nd (by first | exact Or.inl rfl | exact Or.inr rfl) (by first | exact Or.inl rfl | exact Or.inr rfl)) (fun _ _ _ _ _ => qts_nil) (fun _ _ _ _ _ => (qcall (o_law_same.c (hr.mono (by omega))) T.g__law_same T.k__law_same rfl (qcons (qv 2) (qcons (qv 3) qnil))))) qnil))))))
 bnil)
 (bone (sret (qcmp (opd_eq rfl hr.units) (qv 0) (qv 1) (nomark _))))))
theorem ok_law_same (L : Nat) (T : Tx K mg) (o_law_sort : OkD (pg K) P w mg base 1 (He.ga K "_law_sort") 1 (m_law_sort L) []) (F : ∃ fd, FunD K "_law_same" "_law_same" (defArgs s_law_same) (defBody s_law_same) (defScope s_law_same) [] [] (He.ga K "_law_same") fd) : OkD (pg K) P w mg base 10 (He.ga K "_law_same") 2 (m_law_same L 8) [] :=
  let ⟨fd, F⟩ := F; ⟨⟨fd, _, [], [], rfl, fn_law_same L T o_law_sort F 8, .nil, F.bindsN (fun _ _ _ _ _ _ us hl => match us, hl with | [_, _], _ => rfl), fun _ _ => .nil⟩, fun ds s h => run_len h⟩
/-! #### _law_fields (level 1) -/
abbrev s_law_fields : Stmt := top 33
theorem sc_law_fields : FnScope (["_law_e"] : List Str) (["_law_e"] : List Str) (defScope s_law_fields) := ⟨rfl, rfl, rfl, by decide +kernel, rfl, by decide +kernel, by decide +kernel⟩
def b_law_fields (L : Nat) : GS :=
 (gSeq (gIfS (gT truB (gBin (inD false) (gUn (atE 1 fx_code) (gVar 0)) (gTup (gCons (gC (.str "InvalidRatio")) (gCons (gC (.str "InvalidSpan")) (gCons (gC (.str "InvalidCount")) (gCons (gC (.str "InvalidLimit")) gNil)))))))
 (gRet (gTup (gCons (gUn (atE 0 fx_given) (gVar 0)) gNil)))
 gNext)
 (gSeq (gIfS (gT truB (gBin (inD false) (gUn (atE 1 fx_code) (gVar 0)) (gTup (gCons (gC (.str "InvalidText")) (gCons (gC (.str "InvalidCorners")) (gCons (gC (.str "InvalidTiles")) (gCons (gC (.str "InvalidDeed")) gNil)))))))
 (gRet (gTup (gCons (gIf (gT truB (gBin eqD (gUn (atE 1 fx_code) (gVar 0)) (gC (.str "InvalidText")))) (gUn (atE 2 fx_line) (gVar 0)) (gIf (gT truB (gBin eqD (gUn (atE 1 fx_code) (gVar 0)) (gC (.str "InvalidDeed")))) (gUn (atE 11 fx_index) (gVar 0)) (gUn (atE 4 fx_at) (gVar 0)))) gNil)))
 gNext)
 (gSeq (gIfS (gT truB (gBin (inD false) (gUn (atE 1 fx_code) (gVar 0)) (gTup (gCons (gC (.str "InvalidName")) (gCons (gC (.str "DuplicateName")) (gCons (gC (.str "UnknownTile")) (gCons (gC (.str "UnknownMark")) gNil)))))))
 (gRet (gTup (gCons (gUn (atE 3 fx_name) (gVar 0)) gNil)))
 gNext)
 (gSeq (gIfS (gT truB (gBin (inD false) (gUn (atE 1 fx_code) (gVar 0)) (gTup (gCons (gC (.str "SplitSide")) (gCons (gC (.str "InvalidWall")) (gCons (gC (.str "MarkedSide")) (gCons (gC (.str "UnknownSide")) gNil)))))))
 (gRet (gTup (gCons (gUn (atE 5 fx_side) (gVar 0)) gNil)))
 gNext)
 (gSeq (gIfS (gT truB (gBin (inD false) (gUn (atE 1 fx_code) (gVar 0)) (gTup (gCons (gC (.str "TooMany")) (gCons (gC (.str "TooFar")) gNil)))))
 (gRet (gTup (gCons (gUn (atE 6 fx_most) (gVar 0)) gNil)))
 gNext)
 (gSeq (gIfS (gT truB (gBin (inD false) (gUn (atE 1 fx_code) (gVar 0)) (gTup (gCons (gC (.str "Overlap")) (gCons (gC (.str "InvalidChord")) (gCons (gC (.str "NotJoined")) gNil))))))
 (gRet (gTup (gCons (gUn (atE 7 fx_one) (gVar 0)) (gCons (gUn (atE 8 fx_other) (gVar 0)) gNil))))
 gNext)
 (gSeq (gIfS (gT truB (gBin (inD false) (gUn (atE 1 fx_code) (gVar 0)) (gTup (gCons (gC (.str "InvalidPlace")) (gCons (gC (.str "InvalidRound")) gNil)))))
 (gRet (gTup (gCons (gUn (atE 10 fx_value) (gVar 0)) gNil)))
 gNext)
 (gRet (gIf (gT truB (gBin eqD (gUn (atE 1 fx_code) (gVar 0)) (gC (.str "LooseCorner")))) (gTup (gCons (gUn (atE 9 fx_corner) (gVar 0)) gNil)) (gTup gNil))))))))))
def m_law_fields (L : Nat) : List DV → Sto → R DV := run 1 1 (b_law_fields L)
theorem fn_law_fields (L : Nat) (T : Tx K mg) {fd : FuncData} (F : FunD K "_law_fields" "_law_fields" (defArgs s_law_fields) (defBody s_law_fields) (defScope s_law_fields) [] [] (He.ga K "_law_fields") fd) : FnOk P w K mg base CX0 1 (He.ga K "_law_fields") fd (["_law_e"] : List Str) (spD (pg K) We0 1 (m_law_fields L)) := by
  have S := sc_law_fields
  refine def0' (p := pg K) (k := 0) (nN := 1) (n := 1) (b := b_law_fields L) (m := m_law_fields L) F S rfl rfl (by decide) rfl (fun cdv A outer s H E hr => ?_)
  exact (bcons (sif (qtcmp (opd_in rfl) (qattrE (qv 0) T.fx_code) (qtup (qcons qstr (qcons qstr (qcons qstr (qcons qstr qnil))))) (by with_unfolding_all rfl))
 (bone (sret (qtup (qcons (qattrE (qv 0) T.fx_given) qnil))))
 bnil)
 (bcons (sif (qtcmp (opd_in rfl) (qattrE (qv 0) T.fx_code) (qtup (qcons qstr (qcons qstr (qcons qstr (qcons qstr qnil))))) (by with_unfolding_all rfl))
 (bone (sret (qtup (qcons (qif (qtcmp (opd_eq rfl hr.units) (qattrE (qv 0) T.fx_code) qstr (nomark _)) (qattrE (qv 0) T.fx_line) (qif (qtcmp (opd_eq rfl hr.units) (qattrE (qv 0) T.fx_code) qstr (nomark _)) (qattrE (qv 0) T.fx_index) (qattrE (qv 0) T.fx_at))) qnil))))
 bnil)
 (bcons (sif (qtcmp (opd_in rfl) (qattrE (qv 0) T.fx_code) (qtup (qcons qstr (qcons qstr (qcons qstr (qcons qstr qnil))))) (by with_unfolding_all rfl))
 (bone (sret (qtup (qcons (qattrE (qv 0) T.fx_name) qnil))))
 bnil)
 (bcons (sif (qtcmp (opd_in rfl) (qattrE (qv 0) T.fx_code) (qtup (qcons qstr (qcons qstr (qcons qstr (qcons qstr qnil))))) (by with_unfolding_all rfl))
 (bone (sret (qtup (qcons (qattrE (qv 0) T.fx_side) qnil))))
 bnil)
 (bcons (sif (qtcmp (opd_in rfl) (qattrE (qv 0) T.fx_code) (qtup (qcons qstr (qcons qstr qnil))) (by with_unfolding_all rfl))
 (bone (sret (qtup (qcons (qattrE (qv 0) T.fx_most) qnil))))
 bnil)
 (bcons (sif (qtcmp (opd_in rfl) (qattrE (qv 0) T.fx_code) (qtup (qcons qstr (qcons qstr (qcons qstr qnil)))) (by with_unfolding_all rfl))
 (bone (sret (qtup (qcons (qattrE (qv 0) T.fx_one) (qcons (qattrE (qv 0) T.fx_other) qnil)))))
 bnil)
 (bcons (sif (qtcmp (opd_in rfl) (qattrE (qv 0) T.fx_code) (qtup (qcons qstr (qcons qstr qnil))) (by with_unfolding_all rfl))
 (bone (sret (qtup (qcons (qattrE (qv 0) T.fx_value) qnil))))
 bnil)
 (bone (sret (qif (qtcmp (opd_eq rfl hr.units) (qattrE (qv 0) T.fx_code) qstr (nomark _)) (qtup (qcons (qattrE (qv 0) T.fx_corner) qnil)) (qtup qnil)))))))))))
theorem ok_law_fields (L : Nat) (T : Tx K mg) (F : ∃ fd, FunD K "_law_fields" "_law_fields" (defArgs s_law_fields) (defBody s_law_fields) (defScope s_law_fields) [] [] (He.ga K "_law_fields") fd) : OkD (pg K) P w mg base 1 (He.ga K "_law_fields") 1 (m_law_fields L) [] :=
  let ⟨fd, F⟩ := F; ⟨⟨fd, _, [], [], rfl, fn_law_fields L T  F, .nil, F.bindsN (fun _ _ _ _ _ _ us hl => match us, hl with | [_], _ => rfl), fun _ _ => .nil⟩, fun ds s h => run_len h⟩
/-! #### _law_errors_so (level 11) -/
abbrev s_law_errors_so : Stmt := top 39
theorem sc_law_errors_so : FnScope (["_law_every", "_law_codes", "_law_rows", "_law_lone", "_law_pairs", "_law_v", "_law_w", "_law_truths", "_law_due", "_law_e", "_law_row"] : List Str) (["_law_every", "_law_codes", "_law_rows", "_law_lone", "_law_pairs", "_law_v", "_law_w"] : List Str) (defScope s_law_errors_so) := ⟨rfl, rfl, rfl, by decide +kernel, rfl, by decide +kernel, by decide +kernel⟩
def b_law_errors_so (L : Nat) : GS :=
 (gSeq (gIfS (gNot (gT truD (gCall (m_law_same L 8) [] (gCons (gLc (gVar 0) (tN 9) [9] gYes (gUn (atE 1 fx_code) (gVar 9))) (gCons (gVar 1) gNil)))))
 (gRet (gC (.bl false)))
 gNext)
 (gSeq (gIfS (gNot (gT truD (gB allD (gCons (gLc (gBin addD (gVar 2) (gLc (gVar 3) (tN 9) [9] gYes (gTup (gCons (gVar 9) (gCons (gVar 5) gNil))))) (tN 10) [10] gYes (gCall (m_law_same L 8) [] (gCons (gCall (m_law_fields L) [] (gCons (gBin ixD (gVar 10) (gC (.int 0))) gNil)) (gCons (gTup (gCons (gBin ixD (gVar 10) (gC (.int 1))) gNil)) gNil)))) gNil))))
 (gRet (gC (.bl false)))
 gNext)
 (gSeq (gIfS (gNot (gT truD (gB allD (gCons (gLc (gVar 4) (tN 9) [9] gYes (gCall (m_law_same L 8) [] (gCons (gCall (m_law_fields L) [] (gCons (gVar 9) gNil)) (gCons (gTup (gCons (gVar 5) (gCons (gVar 6) gNil))) gNil)))) gNil))))
 (gRet (gC (.bl false)))
 gNext)
 (gSeq (gSet 7 (gLc (gVar 0) (tN 9) [9] gYes (gLst (gCons (gUn (isiX isi_GustError isx_GustError) (gVar 9)) (gCons (gUn (isiX isi_ValueError isx_ValueError) (gVar 9)) (gCons (gUn (isiX isi_Missing isx_Missing) (gVar 9)) (gCons (gUn (isiX isi_LookupError isx_LookupError) (gVar 9)) (gCons (gUn (isiX isi_IndexError isx_IndexError) (gVar 9)) gNil))))))))
 (gSeq (gSet 8 (gBin addD (gBin mulD (gLst (gCons (gLst (gCons (gC (.bl true)) (gCons (gC (.bl true)) (gCons (gC (.bl false)) (gCons (gC (.bl false)) (gCons (gC (.bl false)) gNil)))))) gNil)) (gC (.int 23))) (gBin mulD (gLst (gCons (gLst (gCons (gC (.bl false)) (gCons (gC (.bl false)) (gCons (gC (.bl true)) (gCons (gC (.bl true)) (gCons (gC (.bl false)) gNil)))))) gNil)) (gC (.int 3)))))
 (gRet (gAndV (gBin eqD (gVar 7) (gBin addD (gVar 8) (gLst (gCons (gLst (gCons (gC (.bl false)) (gCons (gC (.bl false)) (gCons (gC (.bl false)) (gCons (gC (.bl true)) (gCons (gC (.bl true)) gNil)))))) gNil)))) (gCall (m_law_kinds_apart L) [] (gCons (gVar 0) (gCons (gVar 1) gNil))))))))))
def m_law_errors_so (L : Nat) : List DV → Sto → R DV := run 11 7 (b_law_errors_so L)
theorem fn_law_errors_so (L : Nat) (T : Tx K mg) (o_law_kinds_apart : OkD (pg K) P w mg base 1 (He.ga K "_law_kinds_apart") 2 (m_law_kinds_apart L) []) (o_law_same : OkD (pg K) P w mg base 10 (He.ga K "_law_same") 2 (m_law_same L 8) []) (o_law_fields : OkD (pg K) P w mg base 1 (He.ga K "_law_fields") 1 (m_law_fields L) []) {fd : FuncData} (F : FunD K "_law_errors_so" "_law_errors_so" (defArgs s_law_errors_so) (defBody s_law_errors_so) (defScope s_law_errors_so) [] [] (He.ga K "_law_errors_so") fd) : FnOk P w K mg base CX0 11 (He.ga K "_law_errors_so") fd (["_law_every", "_law_codes", "_law_rows", "_law_lone", "_law_pairs", "_law_v", "_law_w"] : List Str) (spD (pg K) We0 7 (m_law_errors_so L)) := by
  have S := sc_law_errors_so
  refine def0' (p := pg K) (k := 10) (nN := 11) (n := 7) (b := b_law_errors_so L) (m := m_law_errors_so L) F S rfl rfl (by decide) rfl (fun cdv A outer s H E hr => ?_)
  exact (bcons (sif (qtnot (qt (qcall (o_law_same.c (hr.mono (by decide))) T.g__law_same T.k__law_same rfl (qcons (qlc (own := [("_law_e", 9)]) rfl S.nd (qv 0) (blkOk_by (show blkC (["_law_every", "_law_codes", "_law_rows", "_law_lone", "_law_pairs", "_law_v", "_law_w", "_law_truths", "_law_due", "_law_e", "_law_row"] : List Str) (defScope s_law_errors_so) _ _ = true from by decide +kernel)) (tgb_name 9) (fun _ _ _ _ _ => pg_name (i := 9) S.nd rfl (by first | exact Or.inl rfl | exact Or.inr rfl)) (fun _ _ _ _ _ => qts_nil) (fun _ _ _ _ _ => (qattrE (qv 9) T.fx_code))) (qcons (qv 1) qnil)))))
 (bone (sret qbl))
 bnil)
 (bcons (sif (qtnot (qt (qblt (opd_all rfl rfl) T.z_all rfl (by decide +kernel) (qcons (qlc (own := [("_law_row", 10)]) rfl S.nd (qbin (opd_add rfl) (qv 2) (qlc (own := [("_law_e", 9)]) rfl S.nd (qv 3) (blkOk_by (show blkC (["_law_every", "_law_codes", "_law_rows", "_law_lone", "_law_pairs", "_law_v", "_law_w", "_law_truths", "_law_due", "_law_e", "_law_row"] : List Str) (defScope s_law_errors_so) _ _ = true from by decide +kernel)) (tgb_name 9) (fun _ _ _ _ _ => pg_name (i := 9) S.nd rfl (by first | exact Or.inl rfl | exact Or.inr rfl)) (fun _ _ _ _ _ => qts_nil) (fun _ _ _ _ _ => (qtup (qcons (qv 9) (qcons (qv 5) qnil)))))) (blkOk_by (show blkC (["_law_every", "_law_codes", "_law_rows", "_law_lone", "_law_pairs", "_law_v", "_law_w", "_law_truths", "_law_due", "_law_e", "_law_row"] : List Str) (defScope s_law_errors_so) _ _ = true from by decide +kernel)) (tgb_name 10) (fun _ _ _ _ _ => pg_name (i := 10) S.nd rfl (by first | exact Or.inl rfl | exact Or.inr rfl)) (fun _ _ _ _ _ => qts_nil) (fun _ _ _ _ _ => (qcall (o_law_same.c (hr.mono (by decide))) T.g__law_same T.k__law_same rfl (qcons (qcall (o_law_fields.c (hr.mono (by decide))) T.g__law_fields T.k__law_fields rfl (qcons (qix (qv 10) qint (fun _ _ => rfl)) qnil)) (qcons (qtup (qcons (qix (qv 10) qint (fun _ _ => rfl)) qnil)) qnil))))) qnil))))
 (bone (sret qbl))
 bnil)
 (bcons (sif (qtnot (qt (qblt (opd_all rfl rfl) T.z_all rfl (by decide +kernel) (qcons (qlc (own := [("_law_e", 9)]) rfl S.nd (qv 4) (blkOk_by (show blkC (["_law_every", "_law_codes", "_law_rows", "_law_lone", "_law_pairs", "_law_v", "_law_w", "_law_truths", "_law_due", "_law_e", "_law_row"] : List Str) (defScope s_law_errors_so) _ _ = true from by decide +kernel)) (tgb_name 9) (fun _ _ _ _ _ => pg_name (i := 9) S.nd rfl (by first | exact Or.inl rfl | exact Or.inr rfl)) (fun _ _ _ _ _ => qts_nil) (fun _ _ _ _ _ => (qcall (o_law_same.c (hr.mono (by decide))) T.g__law_same T.k__law_same rfl (qcons (qcall (o_law_fields.c (hr.mono (by decide))) T.g__law_fields T.k__law_fields rfl (qcons (qv 9) qnil)) (qcons (qtup (qcons (qv 5) (qcons (qv 6) qnil))) qnil))))) qnil))))
 (bone (sret qbl))
 bnil)
 (bcons (ssetLc 7 (own := [("_law_e", 9)]) rfl S.nd (qv 0) (blkOk_by (show blkC (["_law_every", "_law_codes", "_law_rows", "_law_lone", "_law_pairs", "_law_v", "_law_w", "_law_truths", "_law_due", "_law_e", "_law_row"] : List Str) (defScope s_law_errors_so) _ _ = true from by decide +kernel)) (tgb_name 9) (fun _ _ _ _ _ => pg_name (i := 9) S.nd rfl (by first | exact Or.inl rfl | exact Or.inr rfl)) (fun _ _ _ _ _ => qts_nil) (fun _ _ _ _ _ => (qlst (qcons (qisiX T.z_isinstance rfl (by decide +kernel) (qv 9) (pe_glob (v := .ref (He.ga K "GustError")) rfl T.g_GustError rfl) (.own _) rfl T.isi_GustError T.isx_GustError) (qcons (qisiX T.z_isinstance rfl (by decide +kernel) (qv 9) (pe_bltn (v := .ty "ValueError") rfl T.z_ValueError (by decide +kernel) rfl) (.ty _) rfl T.isi_ValueError T.isx_ValueError) (qcons (qisiX T.z_isinstance rfl (by decide +kernel) (qv 9) (pe_glob (v := .ref (He.ga K "Missing")) rfl T.g_Missing rfl) (.own _) rfl T.isi_Missing T.isx_Missing) (qcons (qisiX T.z_isinstance rfl (by decide +kernel) (qv 9) (pe_bltn (v := .ty "LookupError") rfl T.z_LookupError (by decide +kernel) rfl) (.ty _) rfl T.isi_LookupError T.isx_LookupError) (qcons (qisiX T.z_isinstance rfl (by decide +kernel) (qv 9) (pe_bltn (v := .ty "IndexError") rfl T.z_IndexError (by decide +kernel) rfl) (.ty _) rfl T.isi_IndexError T.isx_IndexError) qnil))))))))
 (bcons (sset 8 S.nd (Or.inl rfl) (qbin (opd_add rfl) (qbin opd_mul (qlst (qcons (qlst (qcons qbl (qcons qbl (qcons qbl (qcons qbl (qcons qbl qnil)))))) qnil)) qint) (qbin opd_mul (qlst (qcons (qlst (qcons qbl (qcons qbl (qcons qbl (qcons qbl (qcons qbl qnil)))))) qnil)) qint)))
 (bone (sret (qand (qcmp (opd_eq rfl hr.units) (qv 7) (qbin (opd_add rfl) (qv 8) (qlst (qcons (qlst (qcons qbl (qcons qbl (qcons qbl (qcons qbl (qcons qbl qnil)))))) qnil))) (nomark _)) (q1 (qcall (o_law_kinds_apart.c (hr.mono (by decide))) T.g__law_kinds_apart T.k__law_kinds_apart rfl (qcons (qv 0) (qcons (qv 1) qnil))))))))))))
theorem ok_law_errors_so (L : Nat) (T : Tx K mg) (o_law_kinds_apart : OkD (pg K) P w mg base 1 (He.ga K "_law_kinds_apart") 2 (m_law_kinds_apart L) []) (o_law_same : OkD (pg K) P w mg base 10 (He.ga K "_law_same") 2 (m_law_same L 8) []) (o_law_fields : OkD (pg K) P w mg base 1 (He.ga K "_law_fields") 1 (m_law_fields L) []) (F : ∃ fd, FunD K "_law_errors_so" "_law_errors_so" (defArgs s_law_errors_so) (defBody s_law_errors_so) (defScope s_law_errors_so) [] [] (He.ga K "_law_errors_so") fd) : OkD (pg K) P w mg base 11 (He.ga K "_law_errors_so") 7 (m_law_errors_so L) [] :=
  let ⟨fd, F⟩ := F; ⟨⟨fd, _, [], [], rfl, fn_law_errors_so L T o_law_kinds_apart o_law_same o_law_fields F, .nil, F.bindsN (fun _ _ _ _ _ _ us hl => match us, hl with | [_, _, _, _, _, _, _], _ => rfl), fun _ _ => .nil⟩, fun ds s h => run_len h⟩
/-! #### _law_pull (level 1) -/
abbrev s_law_pull : Stmt := top 35
theorem sc_law_pull : FnScope (["_law_bag", "_law_many", "_law_seed", "_law_cell", "_law_digit"] : List Str) (["_law_bag", "_law_many"] : List Str) (defScope s_law_pull) := ⟨rfl, rfl, rfl, by decide +kernel, rfl, by decide +kernel, by decide +kernel⟩
def b_law_pull (L : Nat) : GS :=
 (gSeq (gIfS (gAnd (gT truB (gBin eqD (gBin ixD (gVar 0) (gC (.int 2))) (gC (.int 0)))) (gT truB (gBin ltD (gBin ixD (gVar 0) (gC (.int 1))) (gB lenD (gCons (gBin ixD (gVar 0) (gC (.int 0))) gNil)))))
 (gSeq (gSet 3 (gBin ixD (gBin ixD (gVar 0) (gC (.int 0))) (gBin ixD (gVar 0) (gC (.int 1)))))
 (gSeq (gSetI (gBin addD (gBin ixD (gVar 0) (gC (.int 1))) (gC (.int 1))) (gVar 0) (gC (.int 1)))
 (gIfS (gT truB (gBin geD (gVar 3) (gBin powD (gC (.int 10)) (gC (.int 18)))))
 (gSetI (gVar 3) (gVar 0) (gC (.int 2)))
 (gSetI (gBin modD (gB intD (gCons (gBin addD (gBin addD (gBin mulD (gBin ixD (gVar 0) (gC (.int 3))) (gC (.int 40237))) (gBin mulD (gBin modD (gB intD (gCons (gVar 3) gNil)) (gC (.int 2147483489))) (gC (.int 6581)))) (gC (.int 37))) gNil)) (gC (.int 2147483629))) (gVar 0) (gC (.int 3))))))
 gNext)
 (gSeq (gIfS (gT truB (gBin gtD (gBin ixD (gVar 0) (gC (.int 2))) (gC (.int 0))))
 (gSeq (gSet 4 (gBin modD (gB intD (gCons (gBin ixD (gVar 0) (gC (.int 2))) gNil)) (gVar 1)))
 (gSeq (gSetI (gBin fdivD (gBin ixD (gVar 0) (gC (.int 2))) (gVar 1)) (gVar 0) (gC (.int 2)))
 (gRet (gVar 4))))
 gNext)
 (gSeq (gSetI (gBin addD (gBin ixD (gVar 0) (gC (.int 4))) (gC (.int 1))) (gVar 0) (gC (.int 4)))
 (gSeq (gSet 2 (gBin ixD (gVar 0) (gC (.int 3))))
 (gSeq (gSetI (gBin modD (gB intD (gCons (gBin addD (gBin addD (gBin addD (gBin mulD (gVar 2) (gVar 2)) (gBin mulD (gVar 2) (gC (.int 28657)))) (gBin mulD (gBin ixD (gVar 0) (gC (.int 4))) (gC (.int 1300367)))) (gC (.int 70001))) gNil)) (gC (.int 2147483579))) (gVar 0) (gC (.int 3)))
 (gRet (gBin modD (gB intD (gCons (gBin addD (gBin fdivD (gBin ixD (gVar 0) (gC (.int 3))) (gC (.int 61))) (gBin mulD (gBin modD (gB intD (gCons (gBin ixD (gVar 0) (gC (.int 3))) gNil)) (gC (.int 8059))) (gC (.int 47)))) gNil)) (gVar 1))))))))
def m_law_pull (L : Nat) : List DV → Sto → R DV := run 5 2 (b_law_pull L)
theorem fn_law_pull (L : Nat) (T : Tx K mg) {fd : FuncData} (F : FunD K "_law_pull" "_law_pull" (defArgs s_law_pull) (defBody s_law_pull) (defScope s_law_pull) [] [] (He.ga K "_law_pull") fd) : FnOk P w K mg base CX0 1 (He.ga K "_law_pull") fd (["_law_bag", "_law_many"] : List Str) (spD (pg K) We0 2 (m_law_pull L)) := by
  have S := sc_law_pull
  refine def0' (p := pg K) (k := 0) (nN := 5) (n := 2) (b := b_law_pull L) (m := m_law_pull L) F S rfl rfl (by decide) rfl (fun cdv A outer s H E hr => ?_)
  exact (bcons (sif (L2.PW.pt (qwand (qtcmp (opd_eq rfl hr.units) (qix (qv 0) qint (fun _ _ => rfl)) qint (nomark _)) (qw1 (qtcmp opd_lt (qix (qv 0) qint (fun _ _ => rfl)) (qblt (opd_len rfl) T.z_len rfl PySem.boot_len (qcons (qix (qv 0) qint (fun _ _ => rfl)) qnil)) (nomark _)))))
 (bcons (sset 3 S.nd (Or.inl rfl) (qix (qix (qv 0) qint (fun _ _ => rfl)) (qix (qv 0) qint (fun _ _ => rfl)) (fun _ _ => rfl)))
 (bcons (sseti (qbin (opd_add rfl) (qix (qv 0) qint (fun _ _ => rfl)) qint) (qv 0) qint)
 (bone (sif (qtcmp opd_ge (qv 3) (qbin opd_pow qint qint) (nomark _))
 (bone (sseti (qv 3) (qv 0) qint))
 (bone (sseti (qbin opd_mod (qbty opd_int T.z_int rfl (by decide +kernel) (qcons (qbin (opd_add rfl) (qbin (opd_add rfl) (qbin opd_mul (qix (qv 0) qint (fun _ _ => rfl)) qint) (qbin opd_mul (qbin opd_mod (qbty opd_int T.z_int rfl (by decide +kernel) (qcons (qv 3) qnil)) qint) qint)) qint) qnil)) qint) (qv 0) qint))))))
 bnil)
 (bcons (sif (qtcmp opd_gt (qix (qv 0) qint (fun _ _ => rfl)) qint (nomark _))
 (bcons (sset 4 S.nd (Or.inl rfl) (qbin opd_mod (qbty opd_int T.z_int rfl (by decide +kernel) (qcons (qix (qv 0) qint (fun _ _ => rfl)) qnil)) (qv 1)))
 (bcons (sseti (qbin opd_fdiv (qix (qv 0) qint (fun _ _ => rfl)) (qv 1)) (qv 0) qint)
 (bone (sret (qv 4)))))
 bnil)
 (bcons (sseti (qbin (opd_add rfl) (qix (qv 0) qint (fun _ _ => rfl)) qint) (qv 0) qint)
 (bcons (sset 2 S.nd (Or.inl rfl) (qix (qv 0) qint (fun _ _ => rfl)))
 (bcons (sseti (qbin opd_mod (qbty opd_int T.z_int rfl (by decide +kernel) (qcons (qbin (opd_add rfl) (qbin (opd_add rfl) (qbin (opd_add rfl) (qbin opd_mul (qv 2) (qv 2)) (qbin opd_mul (qv 2) qint)) (qbin opd_mul (qix (qv 0) qint (fun _ _ => rfl)) qint)) qint) qnil)) qint) (qv 0) qint)
 (bone (sret (qbin opd_mod (qbty opd_int T.z_int rfl (by decide +kernel) (qcons (qbin (opd_add rfl) (qbin opd_fdiv (qix (qv 0) qint (fun _ _ => rfl)) qint) (qbin opd_mul (qbin opd_mod (qbty opd_int T.z_int rfl (by decide +kernel) (qcons (qix (qv 0) qint (fun _ _ => rfl)) qnil)) qint) qint)) qnil)) (qv 1)))))))))
theorem ok_law_pull (L : Nat) (T : Tx K mg) (F : ∃ fd, FunD K "_law_pull" "_law_pull" (defArgs s_law_pull) (defBody s_law_pull) (defScope s_law_pull) [] [] (He.ga K "_law_pull") fd) : OkD (pg K) P w mg base 1 (He.ga K "_law_pull") 2 (m_law_pull L) [] :=
  let ⟨fd, F⟩ := F; ⟨⟨fd, _, [], [], rfl, fn_law_pull L T  F, .nil, F.bindsN (fun _ _ _ _ _ _ us hl => match us, hl with | [_, _], _ => rfl), fun _ _ => .nil⟩, fun ds s h => run_len h⟩
/-! #### _law_pick (level 2) -/
abbrev s_law_pick : Stmt := top 36
theorem sc_law_pick : FnScope (["_law_bag", "_law_some"] : List Str) (["_law_bag", "_law_some"] : List Str) (defScope s_law_pick) := ⟨rfl, rfl, rfl, by decide +kernel, rfl, by decide +kernel, by decide +kernel⟩
def b_law_pick (L : Nat) : GS :=
 (gRet (gBin ixD (gVar 1) (gCall (m_law_pull L) [] (gCons (gVar 0) (gCons (gB lenD (gCons (gVar 1) gNil)) gNil)))))
def m_law_pick (L : Nat) : List DV → Sto → R DV := run 2 2 (b_law_pick L)
theorem fn_law_pick (L : Nat) (T : Tx K mg) (o_law_pull : OkD (pg K) P w mg base 1 (He.ga K "_law_pull") 2 (m_law_pull L) []) {fd : FuncData} (F : FunD K "_law_pick" "_law_pick" (defArgs s_law_pick) (defBody s_law_pick) (defScope s_law_pick) [] [] (He.ga K "_law_pick") fd) : FnOk P w K mg base CX0 2 (He.ga K "_law_pick") fd (["_law_bag", "_law_some"] : List Str) (spD (pg K) We0 2 (m_law_pick L)) := by
  have S := sc_law_pick
  refine def0' (p := pg K) (k := 1) (nN := 2) (n := 2) (b := b_law_pick L) (m := m_law_pick L) F S rfl rfl (by decide) rfl (fun cdv A outer s H E hr => ?_)
  exact (bone (sret (qix (qv 1) (qcall (o_law_pull.c (hr.mono (by decide))) T.g__law_pull T.k__law_pull rfl (qcons (qv 0) (qcons (qblt (opd_len rfl) T.z_len rfl PySem.boot_len (qcons (qv 1) qnil)) qnil))) (fun _ _ => rfl))))
theorem ok_law_pick (L : Nat) (T : Tx K mg) (o_law_pull : OkD (pg K) P w mg base 1 (He.ga K "_law_pull") 2 (m_law_pull L) []) (F : ∃ fd, FunD K "_law_pick" "_law_pick" (defArgs s_law_pick) (defBody s_law_pick) (defScope s_law_pick) [] [] (He.ga K "_law_pick") fd) : OkD (pg K) P w mg base 2 (He.ga K "_law_pick") 2 (m_law_pick L) [] :=
  let ⟨fd, F⟩ := F; ⟨⟨fd, _, [], [], rfl, fn_law_pick L T o_law_pull F, .nil, F.bindsN (fun _ _ _ _ _ _ us hl => match us, hl with | [_, _], _ => rfl), fun _ _ => .nil⟩, fun ds s h => run_len h⟩
/-! #### _law_stray (level 3) -/
abbrev s_law_stray : Stmt := top 37
theorem sc_law_stray : FnScope (["_law_bag"] : List Str) (["_law_bag"] : List Str) (defScope s_law_stray) := ⟨rfl, rfl, rfl, by decide +kernel, rfl, by decide +kernel, by decide +kernel⟩
def b_law_stray (L : Nat) : GS :=
 (gRet (gCall (m_law_pick L) [] (gCons (gVar 0) (gCons (gLst (gCons (gC .non) (gCons (gC (.bl true)) (gCons (gC (.str "x")) (gCons (gC (.str "1/2")) (gCons (gC (.int 1)) (gCons (gTup gNil) (gCons (gLst gNil) (gCons (gTup (gCons (gC (.int 1)) (gCons (gC (.int 2)) gNil))) (gCons (gLst (gCons (gC .non) gNil)) gNil)))))))))) gNil))))
def m_law_stray (L : Nat) : List DV → Sto → R DV := run 1 1 (b_law_stray L)
theorem fn_law_stray (L : Nat) (T : Tx K mg) (o_law_pick : OkD (pg K) P w mg base 2 (He.ga K "_law_pick") 2 (m_law_pick L) []) {fd : FuncData} (F : FunD K "_law_stray" "_law_stray" (defArgs s_law_stray) (defBody s_law_stray) (defScope s_law_stray) [] [] (He.ga K "_law_stray") fd) : FnOk P w K mg base CX0 3 (He.ga K "_law_stray") fd (["_law_bag"] : List Str) (spD (pg K) We0 1 (m_law_stray L)) := by
  have S := sc_law_stray
  refine def0' (p := pg K) (k := 2) (nN := 1) (n := 1) (b := b_law_stray L) (m := m_law_stray L) F S rfl rfl (by decide) rfl (fun cdv A outer s H E hr => ?_)
  exact (bone (sret (qcall (o_law_pick.c (hr.mono (by decide))) T.g__law_pick T.k__law_pick rfl (qcons (qv 0) (qcons (qlst (qcons qnon (qcons qbl (qcons qstr (qcons qstr (qcons qint (qcons (qtup qnil) (qcons (qlst qnil) (qcons (qtup (qcons qint (qcons qint qnil))) (qcons (qlst (qcons qnon qnil)) qnil)))))))))) qnil)))))
theorem ok_law_stray (L : Nat) (T : Tx K mg) (o_law_pick : OkD (pg K) P w mg base 2 (He.ga K "_law_pick") 2 (m_law_pick L) []) (F : ∃ fd, FunD K "_law_stray" "_law_stray" (defArgs s_law_stray) (defBody s_law_stray) (defScope s_law_stray) [] [] (He.ga K "_law_stray") fd) : OkD (pg K) P w mg base 3 (He.ga K "_law_stray") 1 (m_law_stray L) [] :=
  let ⟨fd, F⟩ := F; ⟨⟨fd, _, [], [], rfl, fn_law_stray L T o_law_pick F, .nil, F.bindsN (fun _ _ _ _ _ _ us hl => match us, hl with | [_], _ => rfl), fun _ _ => .nil⟩, fun ds s h => run_len h⟩
/-! #### _law_start (level 1) -/
abbrev s_law_start : Stmt := top 34
theorem sc_law_start : FnScope (["_law_script"] : List Str) (["_law_script"] : List Str) (defScope s_law_start) := ⟨rfl, rfl, rfl, by decide +kernel, rfl, by decide +kernel, by decide +kernel⟩
def b_law_start (L : Nat) : GS :=
 (gRet (gMut (gCons (gB listD (gCons (gSl (gVar 0) gNo (gPart (gC (.int 63)))) gNil)) (gCons (gC (.int 0)) (gCons (gC (.int 0)) (gCons (gBin addD (gC (.int 49290)) (gB lenD (gCons (gVar 0) gNil))) (gCons (gC (.int 0)) gNil)))))))
def m_law_start (L : Nat) : List DV → Sto → R DV := runK 1 1 (b_law_start L)
theorem fn_law_start (L : Nat) (T : Tx K mg) {fd : FuncData} (F : FunD K "_law_start" "_law_start" (defArgs s_law_start) (defBody s_law_start) (defScope s_law_start) [] [] (He.ga K "_law_start") fd) : FnOk P w K mg base CX0 1 (He.ga K "_law_start") fd (["_law_script"] : List Str) (spD (pg K) We0 1 (m_law_start L)) := by
  have S := sc_law_start
  refine def0K' (p := pg K) (k := 0) (nN := 1) (n := 1) (b := b_law_start L) (m := m_law_start L) F S rfl rfl (by decide) rfl (fun cdv A outer s H E hr => ?_)
  exact (bone (sret (qmut (qcons (qbty (opd_list rfl) T.z_list rfl (by decide +kernel) (qcons (qsl (qv 0) qno (qpart qint)) qnil)) (qcons qint (qcons qint (qcons (qbin (opd_add rfl) qint (qblt (opd_len rfl) T.z_len rfl PySem.boot_len (qcons (qv 0) qnil))) (qcons qint qnil))))))))
theorem ok_law_start (L : Nat) (T : Tx K mg) (F : ∃ fd, FunD K "_law_start" "_law_start" (defArgs s_law_start) (defBody s_law_start) (defScope s_law_start) [] [] (He.ga K "_law_start") fd) : OkD (pg K) P w mg base 1 (He.ga K "_law_start") 1 (m_law_start L) [] :=
  let ⟨fd, F⟩ := F; ⟨⟨fd, _, [], [], rfl, fn_law_start L T  F, .nil, F.bindsN (fun _ _ _ _ _ _ us hl => match us, hl with | [_], _ => rfl), fun _ _ => .nil⟩, fun ds s h => runK_len h⟩
/-! #### law (level 12) -/
abbrev s_law : Stmt := top 40
theorem sc_law : FnScope (["_law_script", "_law_bag", "_law_rows", "_law_pairs", "_law_lone", "_law_codes", "_law_every", "_law_v", "_law_w", "_law_row"] : List Str) (["_law_script"] : List Str) (defScope s_law) := ⟨rfl, rfl, rfl, by decide +kernel, rfl, by decide +kernel, by decide +kernel⟩
def b_law (L : Nat) : GS :=
 (gSeq (gSet 1 (gCall (m_law_start L) [] (gCons (gVar 0) gNil)))
 (gSeq (gPar 7 8 (gCons (gCall (m_law_stray L) [] (gCons (gVar 1) gNil)) (gCons (gCall (m_law_pick L) [] (gCons (gVar 1) (gCons (gLst (gCons (gC (.str "a")) (gCons (gC (.int 7)) (gCons (gTup (gCons (gC (.int 0)) (gCons (gC (.int 1)) gNil))) (gCons (gLst (gCons (gC (.int 2)) gNil)) (gCons (gC .non) gNil)))))) gNil))) gNil)))
 (gSeq (gSet 2 (gLst (gCons (gTup (gCons (gExn 1 mxe_InvalidRatio_p0_given gNil (gCons (gVar 7) gNil)) (gCons (gVar 7) gNil))) (gCons (gTup (gCons (gExn 2 mxe_InvalidSpan_p0_given gNil (gCons (gVar 7) gNil)) (gCons (gVar 7) gNil))) (gCons (gTup (gCons (gExn 20 mxe_InvalidCount_p0_given gNil (gCons (gVar 7) gNil)) (gCons (gVar 7) gNil))) (gCons (gTup (gCons (gExn 23 mxe_InvalidLimit_p0_given gNil (gCons (gVar 7) gNil)) (gCons (gVar 7) gNil))) gNil))))))
 (gSeq (gSet 2 (gBin addD (gVar 2) (gLst (gCons (gTup (gCons (gExn 3 mxe_InvalidText_p0_line gNil (gCons (gVar 7) gNil)) (gCons (gVar 7) gNil))) (gCons (gTup (gCons (gExn 6 mxe_InvalidCorners_p0_at gNil (gCons (gVar 7) gNil)) (gCons (gVar 7) gNil))) (gCons (gTup (gCons (gExn 10 mxe_InvalidTiles_p0_at gNil (gCons (gVar 7) gNil)) (gCons (gVar 7) gNil))) (gCons (gTup (gCons (gExn 22 mxe_InvalidDeed_p0_index gNil (gCons (gVar 7) gNil)) (gCons (gVar 7) gNil))) gNil)))))))
 (gSeq (gSet 2 (gBin addD (gVar 2) (gLst (gCons (gTup (gCons (gExn 4 mxe_InvalidName_p0_name gNil (gCons (gVar 7) gNil)) (gCons (gVar 7) gNil))) (gCons (gTup (gCons (gExn 5 mxe_DuplicateName_p0_name gNil (gCons (gVar 7) gNil)) (gCons (gVar 7) gNil))) (gCons (gTup (gCons (gExn 9 mxe_SplitSide_p0_side gNil (gCons (gVar 7) gNil)) (gCons (gVar 7) gNil))) (gCons (gTup (gCons (gExn 14 mxe_InvalidWall_p0_side gNil (gCons (gVar 7) gNil)) (gCons (gVar 7) gNil))) gNil)))))))
 (gSeq (gSet 2 (gBin addD (gVar 2) (gLst (gCons (gTup (gCons (gExn 17 mxe_MarkedSide_p0_side gNil (gCons (gVar 7) gNil)) (gCons (gVar 7) gNil))) (gCons (gTup (gCons (gExn 11 mxe_TooMany_p0_most gNil (gCons (gVar 7) gNil)) (gCons (gVar 7) gNil))) (gCons (gTup (gCons (gExn 21 mxe_TooFar_p0_most gNil (gCons (gVar 7) gNil)) (gCons (gVar 7) gNil))) (gCons (gTup (gCons (gExn 18 mxe_InvalidPlace_p0_value gNil (gCons (gVar 7) gNil)) (gCons (gVar 7) gNil))) gNil)))))))
 (gSeq (gSet 2 (gBin addD (gVar 2) (gLst (gCons (gTup (gCons (gExn 19 mxe_InvalidRound_p0_value gNil (gCons (gVar 7) gNil)) (gCons (gVar 7) gNil))) (gCons (gTup (gCons (gExn 13 mxe_LooseCorner_p0_corner gNil (gCons (gVar 7) gNil)) (gCons (gVar 7) gNil))) gNil)))))
 (gSeq (gSet 3 (gLst (gCons (gExn 12 mxe_Overlap_p0_one_other gNil (gCons (gVar 7) (gCons (gVar 8) gNil))) (gCons (gExn 15 mxe_InvalidChord_p2 (gCons (gVar 7) (gCons (gVar 8) gNil)) gNil) (gCons (gExn 16 mxe_NotJoined_p1_other (gCons (gVar 7) gNil) (gCons (gVar 8) gNil)) gNil)))))
 (gSeq (gSet 4 (gLst (gCons (gExn 25 mxe_UnknownTile_p0_name gNil (gCons (gVar 7) gNil)) (gCons (gExn 26 mxe_UnknownSide_p0_side gNil (gCons (gVar 7) gNil)) (gCons (gExn 27 mxe_UnknownMark_p0_name gNil (gCons (gVar 7) gNil)) gNil)))))
 (gSeq (gSet 5 (gLst (gCons (gC (.str "InvalidRatio")) (gCons (gC (.str "InvalidSpan")) (gCons (gC (.str "InvalidCount")) (gCons (gC (.str "InvalidLimit")) (gCons (gC (.str "InvalidText")) (gCons (gC (.str "InvalidCorners")) (gCons (gC (.str "InvalidTiles")) gNil)))))))))
 (gSeq (gSet 5 (gBin addD (gVar 5) (gLst (gCons (gC (.str "InvalidDeed")) (gCons (gC (.str "InvalidName")) (gCons (gC (.str "DuplicateName")) (gCons (gC (.str "SplitSide")) (gCons (gC (.str "InvalidWall")) (gCons (gC (.str "MarkedSide")) (gCons (gC (.str "TooMany")) gNil))))))))))
 (gSeq (gSet 5 (gBin addD (gVar 5) (gLst (gCons (gC (.str "TooFar")) (gCons (gC (.str "InvalidPlace")) (gCons (gC (.str "InvalidRound")) (gCons (gC (.str "LooseCorner")) (gCons (gC (.str "Overlap")) (gCons (gC (.str "InvalidChord")) (gCons (gC (.str "NotJoined")) gNil))))))))))
 (gSeq (gSet 6 (gBin addD (gBin addD (gBin addD (gBin addD (gLc (gVar 2) (tN 9) [9] gYes (gBin ixD (gVar 9) (gC (.int 0)))) (gVar 3)) (gLst (gCons (gExn 7 mxe_NotConvex_p0 gNil gNil) (gCons (gExn 8 mxe_InvalidWinds_p0 gNil gNil) gNil)))) (gVar 4)) (gLst (gCons (gExn 28 mxe_NothingLeft_p0 gNil gNil) gNil))))
 (gSeq (gSet 5 (gBin addD (gVar 5) (gLst (gCons (gC (.str "NotConvex")) (gCons (gC (.str "InvalidWinds")) (gCons (gC (.str "UnknownTile")) (gCons (gC (.str "UnknownSide")) (gCons (gC (.str "UnknownMark")) (gCons (gC (.str "NothingLeft")) gNil)))))))))
 (gRet (gCall (m_law_errors_so L) [] (gCons (gVar 6) (gCons (gVar 5) (gCons (gVar 2) (gCons (gVar 4) (gCons (gVar 3) (gCons (gVar 7) (gCons (gVar 8) gNil)))))))))))))))))))))))
def m_law (L : Nat) : List DV → Sto → R DV := run 10 1 (b_law L)
theorem fn_law (L : Nat) (T : Tx K mg) (o_law_errors_so : OkD (pg K) P w mg base 11 (He.ga K "_law_errors_so") 7 (m_law_errors_so L) []) (o_law_pick : OkD (pg K) P w mg base 2 (He.ga K "_law_pick") 2 (m_law_pick L) []) (o_law_stray : OkD (pg K) P w mg base 3 (He.ga K "_law_stray") 1 (m_law_stray L) []) (o_law_start : OkD (pg K) P w mg base 1 (He.ga K "_law_start") 1 (m_law_start L) []) (x_InvalidWinds_p0 : OkE (pg K) P w mg base 8 0 ([] : List Str) bl_InvalidWinds_p0) (x_NotConvex_p0 : OkE (pg K) P w mg base 7 0 ([] : List Str) bl_NotConvex_p0) (x_NothingLeft_p0 : OkE (pg K) P w mg base 28 0 ([] : List Str) bl_NothingLeft_p0) (x_UnknownMark_p0_name : OkE (pg K) P w mg base 27 0 (["name"] : List Str) bl_UnknownMark_p0_name) (x_UnknownSide_p0_side : OkE (pg K) P w mg base 26 0 (["side"] : List Str) bl_UnknownSide_p0_side) (x_UnknownTile_p0_name : OkE (pg K) P w mg base 25 0 (["name"] : List Str) bl_UnknownTile_p0_name) (x_NotJoined_p1_other : OkE (pg K) P w mg base 16 1 (["other"] : List Str) bl_NotJoined_p1_other) (x_InvalidChord_p2 : OkE (pg K) P w mg base 15 2 ([] : List Str) bl_InvalidChord_p2) (x_Overlap_p0_one_other : OkE (pg K) P w mg base 12 0 (["one", "other"] : List Str) bl_Overlap_p0_one_other) (x_LooseCorner_p0_corner : OkE (pg K) P w mg base 13 0 (["corner"] : List Str) bl_LooseCorner_p0_corner) (x_InvalidRound_p0_value : OkE (pg K) P w mg base 19 0 (["value"] : List Str) bl_InvalidRound_p0_value) (x_InvalidPlace_p0_value : OkE (pg K) P w mg base 18 0 (["value"] : List Str) bl_InvalidPlace_p0_value) (x_TooFar_p0_most : OkE (pg K) P w mg base 21 0 (["most"] : List Str) bl_TooFar_p0_most) (x_TooMany_p0_most : OkE (pg K) P w mg base 11 0 (["most"] : List Str) bl_TooMany_p0_most) (x_MarkedSide_p0_side : OkE (pg K) P w mg base 17 0 (["side"] : List Str) bl_MarkedSide_p0_side) (x_InvalidWall_p0_side : OkE (pg K) P w mg base 14 0 (["side"] : List Str) bl_InvalidWall_p0_side) (x_SplitSide_p0_side : OkE (pg K) P w mg base 9 0 (["side"] : List Str) bl_SplitSide_p0_side) (x_DuplicateName_p0_name : OkE (pg K) P w mg base 5 0 (["name"] : List Str) bl_DuplicateName_p0_name) (x_InvalidName_p0_name : OkE (pg K) P w mg base 4 0 (["name"] : List Str) bl_InvalidName_p0_name) (x_InvalidDeed_p0_index : OkE (pg K) P w mg base 22 0 (["index"] : List Str) bl_InvalidDeed_p0_index) (x_InvalidTiles_p0_at : OkE (pg K) P w mg base 10 0 (["at"] : List Str) bl_InvalidTiles_p0_at) (x_InvalidCorners_p0_at : OkE (pg K) P w mg base 6 0 (["at"] : List Str) bl_InvalidCorners_p0_at) (x_InvalidText_p0_line : OkE (pg K) P w mg base 3 0 (["line"] : List Str) bl_InvalidText_p0_line) (x_InvalidLimit_p0_given : OkE (pg K) P w mg base 23 0 (["given"] : List Str) bl_InvalidLimit_p0_given) (x_InvalidCount_p0_given : OkE (pg K) P w mg base 20 0 (["given"] : List Str) bl_InvalidCount_p0_given) (x_InvalidSpan_p0_given : OkE (pg K) P w mg base 2 0 (["given"] : List Str) bl_InvalidSpan_p0_given) (x_InvalidRatio_p0_given : OkE (pg K) P w mg base 1 0 (["given"] : List Str) bl_InvalidRatio_p0_given) {fd : FuncData} (F : FunD K "law" "law" (defArgs s_law) (defBody s_law) (defScope s_law) [] [] (He.ga K "law") fd) : FnOk P w K mg base CX0 12 (He.ga K "law") fd (["_law_script"] : List Str) (spD (pg K) We0 1 (m_law L)) := by
  have S := sc_law
  refine def0' (p := pg K) (k := 11) (nN := 10) (n := 1) (b := b_law L) (m := m_law L) F S rfl rfl (by decide) rfl (fun cdv A outer s H E hr => ?_)
  exact (bcons (sset 1 S.nd (Or.inl rfl) (qcall (o_law_start.c (hr.mono (by decide))) T.g__law_start T.k__law_start rfl (qcons (qv 0) qnil)))
 (bcons (spar (i := 7) (j := 8) rfl S.nd rfl rfl (by decide) rfl rfl (qcons (qcall (o_law_stray.c (hr.mono (by decide))) T.g__law_stray T.k__law_stray rfl (qcons (qv 1) qnil)) (qcons (qcall (o_law_pick.c (hr.mono (by decide))) T.g__law_pick T.k__law_pick rfl (qcons (qv 1) (qcons (qlst (qcons qstr (qcons qint (qcons (qtup (qcons qint (qcons qint qnil))) (qcons (qlst (qcons qint qnil)) (qcons qnon qnil)))))) qnil))) qnil)) rfl)
 (bcons (sset 2 S.nd (Or.inl rfl) (qlst (qcons (qtup (qcons (qexnK0 (c := 1) (x_InvalidRatio_p0_given.m (hr.mono (by decide))) exd_InvalidRatio_p0_given T.g_InvalidRatio rfl (kcons (qv 7) knil)) (qcons (qv 7) qnil))) (qcons (qtup (qcons (qexnK0 (c := 2) (x_InvalidSpan_p0_given.m (hr.mono (by decide))) exd_InvalidSpan_p0_given T.g_InvalidSpan rfl (kcons (qv 7) knil)) (qcons (qv 7) qnil))) (qcons (qtup (qcons (qexnK0 (c := 20) (x_InvalidCount_p0_given.m (hr.mono (by decide))) exd_InvalidCount_p0_given T.g_InvalidCount rfl (kcons (qv 7) knil)) (qcons (qv 7) qnil))) (qcons (qtup (qcons (qexnK0 (c := 23) (x_InvalidLimit_p0_given.m (hr.mono (by decide))) exd_InvalidLimit_p0_given T.g_InvalidLimit rfl (kcons (qv 7) knil)) (qcons (qv 7) qnil))) qnil))))))
 (bcons (sset 2 S.nd (Or.inl rfl) (qbin (opd_add rfl) (qv 2) (qlst (qcons (qtup (qcons (qexnK0 (c := 3) (x_InvalidText_p0_line.m (hr.mono (by decide))) exd_InvalidText_p0_line T.g_InvalidText rfl (kcons (qv 7) knil)) (qcons (qv 7) qnil))) (qcons (qtup (qcons (qexnK0 (c := 6) (x_InvalidCorners_p0_at.m (hr.mono (by decide))) exd_InvalidCorners_p0_at T.g_InvalidCorners rfl (kcons (qv 7) knil)) (qcons (qv 7) qnil))) (qcons (qtup (qcons (qexnK0 (c := 10) (x_InvalidTiles_p0_at.m (hr.mono (by decide))) exd_InvalidTiles_p0_at T.g_InvalidTiles rfl (kcons (qv 7) knil)) (qcons (qv 7) qnil))) (qcons (qtup (qcons (qexnK0 (c := 22) (x_InvalidDeed_p0_index.m (hr.mono (by decide))) exd_InvalidDeed_p0_index T.g_InvalidDeed rfl (kcons (qv 7) knil)) (qcons (qv 7) qnil))) qnil)))))))
 (bcons (sset 2 S.nd (Or.inl rfl) (qbin (opd_add rfl) (qv 2) (qlst (qcons (qtup (qcons (qexnK0 (c := 4) (x_InvalidName_p0_name.m (hr.mono (by decide))) exd_InvalidName_p0_name T.g_InvalidName rfl (kcons (qv 7) knil)) (qcons (qv 7) qnil))) (qcons (qtup (qcons (qexnK0 (c := 5) (x_DuplicateName_p0_name.m (hr.mono (by decide))) exd_DuplicateName_p0_name T.g_DuplicateName rfl (kcons (qv 7) knil)) (qcons (qv 7) qnil))) (qcons (qtup (qcons (qexnK0 (c := 9) (x_SplitSide_p0_side.m (hr.mono (by decide))) exd_SplitSide_p0_side T.g_SplitSide rfl (kcons (qv 7) knil)) (qcons (qv 7) qnil))) (qcons (qtup (qcons (qexnK0 (c := 14) (x_InvalidWall_p0_side.m (hr.mono (by decide))) exd_InvalidWall_p0_side T.g_InvalidWall rfl (kcons (qv 7) knil)) (qcons (qv 7) qnil))) qnil)))))))
 (bcons (sset 2 S.nd (Or.inl rfl) (qbin (opd_add rfl) (qv 2) (qlst (qcons (qtup (qcons (qexnK0 (c := 17) (x_MarkedSide_p0_side.m (hr.mono (by decide))) exd_MarkedSide_p0_side T.g_MarkedSide rfl (kcons (qv 7) knil)) (qcons (qv 7) qnil))) (qcons (qtup (qcons (qexnK0 (c := 11) (x_TooMany_p0_most.m (hr.mono (by decide))) exd_TooMany_p0_most T.g_TooMany rfl (kcons (qv 7) knil)) (qcons (qv 7) qnil))) (qcons (qtup (qcons (qexnK0 (c := 21) (x_TooFar_p0_most.m (hr.mono (by decide))) exd_TooFar_p0_most T.g_TooFar rfl (kcons (qv 7) knil)) (qcons (qv 7) qnil))) (qcons (qtup (qcons (qexnK0 (c := 18) (x_InvalidPlace_p0_value.m (hr.mono (by decide))) exd_InvalidPlace_p0_value T.g_InvalidPlace rfl (kcons (qv 7) knil)) (qcons (qv 7) qnil))) qnil)))))))
 (bcons (sset 2 S.nd (Or.inl rfl) (qbin (opd_add rfl) (qv 2) (qlst (qcons (qtup (qcons (qexnK0 (c := 19) (x_InvalidRound_p0_value.m (hr.mono (by decide))) exd_InvalidRound_p0_value T.g_InvalidRound rfl (kcons (qv 7) knil)) (qcons (qv 7) qnil))) (qcons (qtup (qcons (qexnK0 (c := 13) (x_LooseCorner_p0_corner.m (hr.mono (by decide))) exd_LooseCorner_p0_corner T.g_LooseCorner rfl (kcons (qv 7) knil)) (qcons (qv 7) qnil))) qnil)))))
 (bcons (sset 3 S.nd (Or.inl rfl) (qlst (qcons (qexnK0 (c := 12) (x_Overlap_p0_one_other.m (hr.mono (by decide))) exd_Overlap_p0_one_other T.g_Overlap rfl (kcons (qv 7) (kcons (qv 8) knil))) (qcons (qexnP (c := 15) (x_InvalidChord_p2.m (hr.mono (by decide))) exd_InvalidChord_p2 T.g_InvalidChord rfl (qcons (qv 7) (qcons (qv 8) qnil))) (qcons (qexnK (c := 16) (x_NotJoined_p1_other.m (hr.mono (by decide))) exd_NotJoined_p1_other T.g_NotJoined rfl (qcons (qv 7) qnil) (kcons (qv 8) knil)) qnil)))))
 (bcons (sset 4 S.nd (Or.inl rfl) (qlst (qcons (qexnK0 (c := 25) (x_UnknownTile_p0_name.m (hr.mono (by decide))) exd_UnknownTile_p0_name T.g_UnknownTile rfl (kcons (qv 7) knil)) (qcons (qexnK0 (c := 26) (x_UnknownSide_p0_side.m (hr.mono (by decide))) exd_UnknownSide_p0_side T.g_UnknownSide rfl (kcons (qv 7) knil)) (qcons (qexnK0 (c := 27) (x_UnknownMark_p0_name.m (hr.mono (by decide))) exd_UnknownMark_p0_name T.g_UnknownMark rfl (kcons (qv 7) knil)) qnil)))))
 (bcons (sset 5 S.nd (Or.inl rfl) (qlst (qcons qstr (qcons qstr (qcons qstr (qcons qstr (qcons qstr (qcons qstr (qcons qstr qnil)))))))))
 (bcons (sset 5 S.nd (Or.inl rfl) (qbin (opd_add rfl) (qv 5) (qlst (qcons qstr (qcons qstr (qcons qstr (qcons qstr (qcons qstr (qcons qstr (qcons qstr qnil))))))))))
 (bcons (sset 5 S.nd (Or.inl rfl) (qbin (opd_add rfl) (qv 5) (qlst (qcons qstr (qcons qstr (qcons qstr (qcons qstr (qcons qstr (qcons qstr (qcons qstr qnil))))))))))
 (bcons (sset 6 S.nd (Or.inl rfl) (qbin (opd_add rfl) (qbin (opd_add rfl) (qbin (opd_add rfl) (qbin (opd_add rfl) (qlc (own := [("_law_row", 9)]) rfl S.nd (qv 2) (blkOk_by (show blkC (["_law_script", "_law_bag", "_law_rows", "_law_pairs", "_law_lone", "_law_codes", "_law_every", "_law_v", "_law_w", "_law_row"] : List Str) (defScope s_law) _ _ = true from by decide +kernel)) (tgb_name 9) (fun _ _ _ _ _ => pg_name (i := 9) S.nd rfl (by first | exact Or.inl rfl | exact Or.inr rfl)) (fun _ _ _ _ _ => qts_nil) (fun _ _ _ _ _ => (qix (qv 9) qint (fun _ _ => rfl)))) (qv 3)) (qlst (qcons (qexn0 (c := 7) (x_NotConvex_p0.m (hr.mono (by decide))) exd_NotConvex_p0 T.g_NotConvex rfl) (qcons (qexn0 (c := 8) (x_InvalidWinds_p0.m (hr.mono (by decide))) exd_InvalidWinds_p0 T.g_InvalidWinds rfl) qnil)))) (qv 4)) (qlst (qcons (qexn0 (c := 28) (x_NothingLeft_p0.m (hr.mono (by decide))) exd_NothingLeft_p0 T.g_NothingLeft rfl) qnil))))
 (bcons (sset 5 S.nd (Or.inl rfl) (qbin (opd_add rfl) (qv 5) (qlst (qcons qstr (qcons qstr (qcons qstr (qcons qstr (qcons qstr (qcons qstr qnil)))))))))
 (bone (sret (qcall (o_law_errors_so.c (hr.mono (by decide))) T.g__law_errors_so T.k__law_errors_so rfl (qcons (qv 6) (qcons (qv 5) (qcons (qv 2) (qcons (qv 4) (qcons (qv 3) (qcons (qv 7) (qcons (qv 8) qnil))))))))))))))))))))))))
theorem ok_law (L : Nat) (T : Tx K mg) (o_law_errors_so : OkD (pg K) P w mg base 11 (He.ga K "_law_errors_so") 7 (m_law_errors_so L) []) (o_law_pick : OkD (pg K) P w mg base 2 (He.ga K "_law_pick") 2 (m_law_pick L) []) (o_law_stray : OkD (pg K) P w mg base 3 (He.ga K "_law_stray") 1 (m_law_stray L) []) (o_law_start : OkD (pg K) P w mg base 1 (He.ga K "_law_start") 1 (m_law_start L) []) (x_InvalidWinds_p0 : OkE (pg K) P w mg base 8 0 ([] : List Str) bl_InvalidWinds_p0) (x_NotConvex_p0 : OkE (pg K) P w mg base 7 0 ([] : List Str) bl_NotConvex_p0) (x_NothingLeft_p0 : OkE (pg K) P w mg base 28 0 ([] : List Str) bl_NothingLeft_p0) (x_UnknownMark_p0_name : OkE (pg K) P w mg base 27 0 (["name"] : List Str) bl_UnknownMark_p0_name) (x_UnknownSide_p0_side : OkE (pg K) P w mg base 26 0 (["side"] : List Str) bl_UnknownSide_p0_side) (x_UnknownTile_p0_name : OkE (pg K) P w mg base 25 0 (["name"] : List Str) bl_UnknownTile_p0_name) (x_NotJoined_p1_other : OkE (pg K) P w mg base 16 1 (["other"] : List Str) bl_NotJoined_p1_other) (x_InvalidChord_p2 : OkE (pg K) P w mg base 15 2 ([] : List Str) bl_InvalidChord_p2) (x_Overlap_p0_one_other : OkE (pg K) P w mg base 12 0 (["one", "other"] : List Str) bl_Overlap_p0_one_other) (x_LooseCorner_p0_corner : OkE (pg K) P w mg base 13 0 (["corner"] : List Str) bl_LooseCorner_p0_corner) (x_InvalidRound_p0_value : OkE (pg K) P w mg base 19 0 (["value"] : List Str) bl_InvalidRound_p0_value) (x_InvalidPlace_p0_value : OkE (pg K) P w mg base 18 0 (["value"] : List Str) bl_InvalidPlace_p0_value) (x_TooFar_p0_most : OkE (pg K) P w mg base 21 0 (["most"] : List Str) bl_TooFar_p0_most) (x_TooMany_p0_most : OkE (pg K) P w mg base 11 0 (["most"] : List Str) bl_TooMany_p0_most) (x_MarkedSide_p0_side : OkE (pg K) P w mg base 17 0 (["side"] : List Str) bl_MarkedSide_p0_side) (x_InvalidWall_p0_side : OkE (pg K) P w mg base 14 0 (["side"] : List Str) bl_InvalidWall_p0_side) (x_SplitSide_p0_side : OkE (pg K) P w mg base 9 0 (["side"] : List Str) bl_SplitSide_p0_side) (x_DuplicateName_p0_name : OkE (pg K) P w mg base 5 0 (["name"] : List Str) bl_DuplicateName_p0_name) (x_InvalidName_p0_name : OkE (pg K) P w mg base 4 0 (["name"] : List Str) bl_InvalidName_p0_name) (x_InvalidDeed_p0_index : OkE (pg K) P w mg base 22 0 (["index"] : List Str) bl_InvalidDeed_p0_index) (x_InvalidTiles_p0_at : OkE (pg K) P w mg base 10 0 (["at"] : List Str) bl_InvalidTiles_p0_at) (x_InvalidCorners_p0_at : OkE (pg K) P w mg base 6 0 (["at"] : List Str) bl_InvalidCorners_p0_at) (x_InvalidText_p0_line : OkE (pg K) P w mg base 3 0 (["line"] : List Str) bl_InvalidText_p0_line) (x_InvalidLimit_p0_given : OkE (pg K) P w mg base 23 0 (["given"] : List Str) bl_InvalidLimit_p0_given) (x_InvalidCount_p0_given : OkE (pg K) P w mg base 20 0 (["given"] : List Str) bl_InvalidCount_p0_given) (x_InvalidSpan_p0_given : OkE (pg K) P w mg base 2 0 (["given"] : List Str) bl_InvalidSpan_p0_given) (x_InvalidRatio_p0_given : OkE (pg K) P w mg base 1 0 (["given"] : List Str) bl_InvalidRatio_p0_given) (F : ∃ fd, FunD K "law" "law" (defArgs s_law) (defBody s_law) (defScope s_law) [] [] (He.ga K "law") fd) : OkD (pg K) P w mg base 12 (He.ga K "law") 1 (m_law L) [] :=
  let ⟨fd, F⟩ := F; ⟨⟨fd, _, [], [], rfl, fn_law L T o_law_errors_so o_law_pick o_law_stray o_law_start x_InvalidWinds_p0 x_NotConvex_p0 x_NothingLeft_p0 x_UnknownMark_p0_name x_UnknownSide_p0_side x_UnknownTile_p0_name x_NotJoined_p1_other x_InvalidChord_p2 x_Overlap_p0_one_other x_LooseCorner_p0_corner x_InvalidRound_p0_value x_InvalidPlace_p0_value x_TooFar_p0_most x_TooMany_p0_most x_MarkedSide_p0_side x_InvalidWall_p0_side x_SplitSide_p0_side x_DuplicateName_p0_name x_InvalidName_p0_name x_InvalidDeed_p0_index x_InvalidTiles_p0_at x_InvalidCorners_p0_at x_InvalidText_p0_line x_InvalidLimit_p0_given x_InvalidCount_p0_given x_InvalidSpan_p0_given x_InvalidRatio_p0_given F, .nil, F.bindsN (fun _ _ _ _ _ _ us hl => match us, hl with | [_], _ => rfl), fun _ _ => .nil⟩, fun ds s h => run_len h⟩
def fns : List DefQ := [
  ⟨fun K => (He.ga K "_law_kinds_apart"), "_law_kinds_apart", "_law_kinds_apart", defArgs s_law_kinds_apart, defBody s_law_kinds_apart, defScope s_law_kinds_apart, [], [], []⟩,
  ⟨fun K => (He.ga K "_law_sort"), "_law_sort", "_law_sort", defArgs s_law_sort, defBody s_law_sort, defScope s_law_sort, [], [], []⟩,
  ⟨fun K => (He.ga K "_law_same"), "_law_same", "_law_same", defArgs s_law_same, defBody s_law_same, defScope s_law_same, [], [], []⟩,
  ⟨fun K => (He.ga K "_law_fields"), "_law_fields", "_law_fields", defArgs s_law_fields, defBody s_law_fields, defScope s_law_fields, [], [], []⟩,
  ⟨fun K => (He.ga K "_law_errors_so"), "_law_errors_so", "_law_errors_so", defArgs s_law_errors_so, defBody s_law_errors_so, defScope s_law_errors_so, [], [], []⟩,
  ⟨fun K => (He.ga K "_law_pull"), "_law_pull", "_law_pull", defArgs s_law_pull, defBody s_law_pull, defScope s_law_pull, [], [], []⟩,
  ⟨fun K => (He.ga K "_law_pick"), "_law_pick", "_law_pick", defArgs s_law_pick, defBody s_law_pick, defScope s_law_pick, [], [], []⟩,
  ⟨fun K => (He.ga K "_law_stray"), "_law_stray", "_law_stray", defArgs s_law_stray, defBody s_law_stray, defScope s_law_stray, [], [], []⟩,
  ⟨fun K => (He.ga K "_law_start"), "_law_start", "_law_start", defArgs s_law_start, defBody s_law_start, defScope s_law_start, [], [], []⟩,
  ⟨fun K => (He.ga K "law"), "law", "law", defArgs s_law, defBody s_law, defScope s_law, [], [], []⟩,
  ⟨fun K => (He.ma K (He.ga K "InvalidWinds") "__init__"), "__init__", "InvalidWinds.__init__", defArgs s_InvalidWindsdd_initdd_xInvalidWinds_p0, defBody s_InvalidWindsdd_initdd_xInvalidWinds_p0, defScope s_InvalidWindsdd_initdd_xInvalidWinds_p0, [], [], ["__class__"]⟩,
  ⟨fun K => (He.ma K (He.ga K "NotConvex") "__init__"), "__init__", "NotConvex.__init__", defArgs s_NotConvexdd_initdd_xNotConvex_p0, defBody s_NotConvexdd_initdd_xNotConvex_p0, defScope s_NotConvexdd_initdd_xNotConvex_p0, [], [], ["__class__"]⟩,
  ⟨fun K => (He.ma K (He.ga K "NothingLeft") "__init__"), "__init__", "NothingLeft.__init__", defArgs s_NothingLeftdd_initdd_xNothingLeft_p0, defBody s_NothingLeftdd_initdd_xNothingLeft_p0, defScope s_NothingLeftdd_initdd_xNothingLeft_p0, [], [], ["__class__"]⟩,
  ⟨fun K => (He.ma K (He.ga K "UnknownMark") "__init__"), "__init__", "UnknownMark.__init__", defArgs s_UnknownMarkdd_initdd_xUnknownMark_p0_name, defBody s_UnknownMarkdd_initdd_xUnknownMark_p0_name, defScope s_UnknownMarkdd_initdd_xUnknownMark_p0_name, [], [], ["__class__"]⟩,
  ⟨fun K => (He.ma K (He.ga K "UnknownSide") "__init__"), "__init__", "UnknownSide.__init__", defArgs s_UnknownSidedd_initdd_xUnknownSide_p0_side, defBody s_UnknownSidedd_initdd_xUnknownSide_p0_side, defScope s_UnknownSidedd_initdd_xUnknownSide_p0_side, [], [], ["__class__"]⟩,
  ⟨fun K => (He.ma K (He.ga K "UnknownTile") "__init__"), "__init__", "UnknownTile.__init__", defArgs s_UnknownTiledd_initdd_xUnknownTile_p0_name, defBody s_UnknownTiledd_initdd_xUnknownTile_p0_name, defScope s_UnknownTiledd_initdd_xUnknownTile_p0_name, [], [], ["__class__"]⟩,
  ⟨fun K => (He.ma K (He.ga K "NotJoined") "__init__"), "__init__", "NotJoined.__init__", defArgs s_NotJoineddd_initdd_xNotJoined_p1_other, defBody s_NotJoineddd_initdd_xNotJoined_p1_other, defScope s_NotJoineddd_initdd_xNotJoined_p1_other, [], [], ["__class__"]⟩,
  ⟨fun K => (He.ma K (He.ga K "InvalidChord") "__init__"), "__init__", "InvalidChord.__init__", defArgs s_InvalidChorddd_initdd_xInvalidChord_p2, defBody s_InvalidChorddd_initdd_xInvalidChord_p2, defScope s_InvalidChorddd_initdd_xInvalidChord_p2, [], [], ["__class__"]⟩,
  ⟨fun K => (He.ma K (He.ga K "Overlap") "__init__"), "__init__", "Overlap.__init__", defArgs s_Overlapdd_initdd_xOverlap_p0_one_other, defBody s_Overlapdd_initdd_xOverlap_p0_one_other, defScope s_Overlapdd_initdd_xOverlap_p0_one_other, [], [], ["__class__"]⟩,
  ⟨fun K => (He.ma K (He.ga K "LooseCorner") "__init__"), "__init__", "LooseCorner.__init__", defArgs s_LooseCornerdd_initdd_xLooseCorner_p0_corner, defBody s_LooseCornerdd_initdd_xLooseCorner_p0_corner, defScope s_LooseCornerdd_initdd_xLooseCorner_p0_corner, [], [], ["__class__"]⟩,
  ⟨fun K => (He.ma K (He.ga K "InvalidRound") "__init__"), "__init__", "InvalidRound.__init__", defArgs s_InvalidRounddd_initdd_xInvalidRound_p0_value, defBody s_InvalidRounddd_initdd_xInvalidRound_p0_value, defScope s_InvalidRounddd_initdd_xInvalidRound_p0_value, [], [], ["__class__"]⟩,
  ⟨fun K => (He.ma K (He.ga K "InvalidPlace") "__init__"), "__init__", "InvalidPlace.__init__", defArgs s_InvalidPlacedd_initdd_xInvalidPlace_p0_value, defBody s_InvalidPlacedd_initdd_xInvalidPlace_p0_value, defScope s_InvalidPlacedd_initdd_xInvalidPlace_p0_value, [], [], ["__class__"]⟩,
  ⟨fun K => (He.ma K (He.ga K "TooFar") "__init__"), "__init__", "TooFar.__init__", defArgs s_TooFardd_initdd_xTooFar_p0_most, defBody s_TooFardd_initdd_xTooFar_p0_most, defScope s_TooFardd_initdd_xTooFar_p0_most, [], [], ["__class__"]⟩,
  ⟨fun K => (He.ma K (He.ga K "TooMany") "__init__"), "__init__", "TooMany.__init__", defArgs s_TooManydd_initdd_xTooMany_p0_most, defBody s_TooManydd_initdd_xTooMany_p0_most, defScope s_TooManydd_initdd_xTooMany_p0_most, [], [], ["__class__"]⟩,
  ⟨fun K => (He.ma K (He.ga K "MarkedSide") "__init__"), "__init__", "MarkedSide.__init__", defArgs s_MarkedSidedd_initdd_xMarkedSide_p0_side, defBody s_MarkedSidedd_initdd_xMarkedSide_p0_side, defScope s_MarkedSidedd_initdd_xMarkedSide_p0_side, [], [], ["__class__"]⟩,
  ⟨fun K => (He.ma K (He.ga K "InvalidWall") "__init__"), "__init__", "InvalidWall.__init__", defArgs s_InvalidWalldd_initdd_xInvalidWall_p0_side, defBody s_InvalidWalldd_initdd_xInvalidWall_p0_side, defScope s_InvalidWalldd_initdd_xInvalidWall_p0_side, [], [], ["__class__"]⟩,
  ⟨fun K => (He.ma K (He.ga K "SplitSide") "__init__"), "__init__", "SplitSide.__init__", defArgs s_SplitSidedd_initdd_xSplitSide_p0_side, defBody s_SplitSidedd_initdd_xSplitSide_p0_side, defScope s_SplitSidedd_initdd_xSplitSide_p0_side, [], [], ["__class__"]⟩,
  ⟨fun K => (He.ma K (He.ga K "DuplicateName") "__init__"), "__init__", "DuplicateName.__init__", defArgs s_DuplicateNamedd_initdd_xDuplicateName_p0_name, defBody s_DuplicateNamedd_initdd_xDuplicateName_p0_name, defScope s_DuplicateNamedd_initdd_xDuplicateName_p0_name, [], [], ["__class__"]⟩,
  ⟨fun K => (He.ma K (He.ga K "InvalidName") "__init__"), "__init__", "InvalidName.__init__", defArgs s_InvalidNamedd_initdd_xInvalidName_p0_name, defBody s_InvalidNamedd_initdd_xInvalidName_p0_name, defScope s_InvalidNamedd_initdd_xInvalidName_p0_name, [], [], ["__class__"]⟩,
  ⟨fun K => (He.ma K (He.ga K "InvalidDeed") "__init__"), "__init__", "InvalidDeed.__init__", defArgs s_InvalidDeeddd_initdd_xInvalidDeed_p0_index, defBody s_InvalidDeeddd_initdd_xInvalidDeed_p0_index, defScope s_InvalidDeeddd_initdd_xInvalidDeed_p0_index, [], [], ["__class__"]⟩,
  ⟨fun K => (He.ma K (He.ga K "InvalidTiles") "__init__"), "__init__", "InvalidTiles.__init__", defArgs s_InvalidTilesdd_initdd_xInvalidTiles_p0_at, defBody s_InvalidTilesdd_initdd_xInvalidTiles_p0_at, defScope s_InvalidTilesdd_initdd_xInvalidTiles_p0_at, [], [], ["__class__"]⟩,
  ⟨fun K => (He.ma K (He.ga K "InvalidCorners") "__init__"), "__init__", "InvalidCorners.__init__", defArgs s_InvalidCornersdd_initdd_xInvalidCorners_p0_at, defBody s_InvalidCornersdd_initdd_xInvalidCorners_p0_at, defScope s_InvalidCornersdd_initdd_xInvalidCorners_p0_at, [], [], ["__class__"]⟩,
  ⟨fun K => (He.ma K (He.ga K "InvalidText") "__init__"), "__init__", "InvalidText.__init__", defArgs s_InvalidTextdd_initdd_xInvalidText_p0_line, defBody s_InvalidTextdd_initdd_xInvalidText_p0_line, defScope s_InvalidTextdd_initdd_xInvalidText_p0_line, [], [], ["__class__"]⟩,
  ⟨fun K => (He.ma K (He.ga K "InvalidLimit") "__init__"), "__init__", "InvalidLimit.__init__", defArgs s_InvalidLimitdd_initdd_xInvalidLimit_p0_given, defBody s_InvalidLimitdd_initdd_xInvalidLimit_p0_given, defScope s_InvalidLimitdd_initdd_xInvalidLimit_p0_given, [], [], ["__class__"]⟩,
  ⟨fun K => (He.ma K (He.ga K "InvalidCount") "__init__"), "__init__", "InvalidCount.__init__", defArgs s_InvalidCountdd_initdd_xInvalidCount_p0_given, defBody s_InvalidCountdd_initdd_xInvalidCount_p0_given, defScope s_InvalidCountdd_initdd_xInvalidCount_p0_given, [], [], ["__class__"]⟩,
  ⟨fun K => (He.ma K (He.ga K "InvalidSpan") "__init__"), "__init__", "InvalidSpan.__init__", defArgs s_InvalidSpandd_initdd_xInvalidSpan_p0_given, defBody s_InvalidSpandd_initdd_xInvalidSpan_p0_given, defScope s_InvalidSpandd_initdd_xInvalidSpan_p0_given, [], [], ["__class__"]⟩,
  ⟨fun K => (He.ma K (He.ga K "InvalidRatio") "__init__"), "__init__", "InvalidRatio.__init__", defArgs s_InvalidRatiodd_initdd_xInvalidRatio_p0_given, defBody s_InvalidRatiodd_initdd_xInvalidRatio_p0_given, defScope s_InvalidRatiodd_initdd_xInvalidRatio_p0_given, [], [], ["__class__"]⟩]
end
theorem law_end {P : Program} {w : World} {K : PySem.W.Frag} {h : Heap} {mg : Str → Option Value} {fa : Addr} (X : K.In h) (G : h.Ns mainGlobals mg) (hfa : mg "law" = some (.ref fa)) (c : SaysQ fns ex K) (L : Nat) (hfile : ((P.main.file : Str) == FILE) = true) (htop : (P.main.scope.names.lookup ("super" : Str)).isSome = false) : ∃ fd : FuncData, (∀ (s : Shared) (v : Value), BindsTo s fd ⟨[v], []⟩ [("_law_script", v)]) ∧ ∀ base : Heap, K.In base → base.Ns mainGlobals mg → FnOk P w K mg base CX0 12 fa fd ["_law_script"] (spD (pg K) We0 1 (m_law L)) := by
  have T := tx X G c.ex_
  have efa : fa = He.ga K "law" := by
    have e := hfa.symm.trans T.g_law
    injection e with e
    injection e
  subst efa
  have F_law_kinds_apart : ∃ fd, FunD K "_law_kinds_apart" "_law_kinds_apart" (defArgs s_law_kinds_apart) (defBody s_law_kinds_apart) (defScope s_law_kinds_apart) [] [] (He.ga K "_law_kinds_apart") fd := c.fn_ 0
  have F_law_sort : ∃ fd, FunD K "_law_sort" "_law_sort" (defArgs s_law_sort) (defBody s_law_sort) (defScope s_law_sort) [] [] (He.ga K "_law_sort") fd := c.fn_ 1
  have F_law_same : ∃ fd, FunD K "_law_same" "_law_same" (defArgs s_law_same) (defBody s_law_same) (defScope s_law_same) [] [] (He.ga K "_law_same") fd := c.fn_ 2
  have F_law_fields : ∃ fd, FunD K "_law_fields" "_law_fields" (defArgs s_law_fields) (defBody s_law_fields) (defScope s_law_fields) [] [] (He.ga K "_law_fields") fd := c.fn_ 3
  have F_law_errors_so : ∃ fd, FunD K "_law_errors_so" "_law_errors_so" (defArgs s_law_errors_so) (defBody s_law_errors_so) (defScope s_law_errors_so) [] [] (He.ga K "_law_errors_so") fd := c.fn_ 4
  have F_law_pull : ∃ fd, FunD K "_law_pull" "_law_pull" (defArgs s_law_pull) (defBody s_law_pull) (defScope s_law_pull) [] [] (He.ga K "_law_pull") fd := c.fn_ 5
  have F_law_pick : ∃ fd, FunD K "_law_pick" "_law_pick" (defArgs s_law_pick) (defBody s_law_pick) (defScope s_law_pick) [] [] (He.ga K "_law_pick") fd := c.fn_ 6
  have F_law_stray : ∃ fd, FunD K "_law_stray" "_law_stray" (defArgs s_law_stray) (defBody s_law_stray) (defScope s_law_stray) [] [] (He.ga K "_law_stray") fd := c.fn_ 7
  have F_law_start : ∃ fd, FunD K "_law_start" "_law_start" (defArgs s_law_start) (defBody s_law_start) (defScope s_law_start) [] [] (He.ga K "_law_start") fd := c.fn_ 8
  obtain ⟨fd, F⟩ : ∃ fd, FunD K "law" "law" (defArgs s_law) (defBody s_law) (defScope s_law) [] [] (He.ga K "law") fd := c.fn_ 9
  have b := FunD.bindsA (ps := ["_law_script"]) F fun _ _ _ _ _ _ us hl => match us, hl with | [_], _ => rfl
  refine ⟨fd, fun s v => b s [v] rfl, fun base _ _ => ?_⟩
  have x_InvalidWinds_p0 := okx_InvalidWinds_p0 (w := w) (base := base) T (funX_of (P := P) c 10 (C := He.ga K "InvalidWinds") (file := FILE) rfl T.xi_InvalidWinds hfile htop)
  have x_NotConvex_p0 := okx_NotConvex_p0 (w := w) (base := base) T (funX_of (P := P) c 11 (C := He.ga K "NotConvex") (file := FILE) rfl T.xi_NotConvex hfile htop)
  have x_NothingLeft_p0 := okx_NothingLeft_p0 (w := w) (base := base) T (funX_of (P := P) c 12 (C := He.ga K "NothingLeft") (file := FILE) rfl T.xi_NothingLeft hfile htop)
  have x_UnknownMark_p0_name := okx_UnknownMark_p0_name (w := w) (base := base) T (funX_of (P := P) c 13 (C := He.ga K "UnknownMark") (file := FILE) rfl T.xi_UnknownMark hfile htop)
  have x_UnknownSide_p0_side := okx_UnknownSide_p0_side (w := w) (base := base) T (funX_of (P := P) c 14 (C := He.ga K "UnknownSide") (file := FILE) rfl T.xi_UnknownSide hfile htop)
  have x_UnknownTile_p0_name := okx_UnknownTile_p0_name (w := w) (base := base) T (funX_of (P := P) c 15 (C := He.ga K "UnknownTile") (file := FILE) rfl T.xi_UnknownTile hfile htop)
  have x_NotJoined_p1_other := okx_NotJoined_p1_other (w := w) (base := base) T (funX_of (P := P) c 16 (C := He.ga K "NotJoined") (file := FILE) rfl T.xi_NotJoined hfile htop)
  have x_InvalidChord_p2 := okx_InvalidChord_p2 (w := w) (base := base) T (funX_of (P := P) c 17 (C := He.ga K "InvalidChord") (file := FILE) rfl T.xi_InvalidChord hfile htop)
  have x_Overlap_p0_one_other := okx_Overlap_p0_one_other (w := w) (base := base) T (funX_of (P := P) c 18 (C := He.ga K "Overlap") (file := FILE) rfl T.xi_Overlap hfile htop)
  have x_LooseCorner_p0_corner := okx_LooseCorner_p0_corner (w := w) (base := base) T (funX_of (P := P) c 19 (C := He.ga K "LooseCorner") (file := FILE) rfl T.xi_LooseCorner hfile htop)
  have x_InvalidRound_p0_value := okx_InvalidRound_p0_value (w := w) (base := base) T (funX_of (P := P) c 20 (C := He.ga K "InvalidRound") (file := FILE) rfl T.xi_InvalidRound hfile htop)
  have x_InvalidPlace_p0_value := okx_InvalidPlace_p0_value (w := w) (base := base) T (funX_of (P := P) c 21 (C := He.ga K "InvalidPlace") (file := FILE) rfl T.xi_InvalidPlace hfile htop)
  have x_TooFar_p0_most := okx_TooFar_p0_most (w := w) (base := base) T (funX_of (P := P) c 22 (C := He.ga K "TooFar") (file := FILE) rfl T.xi_TooFar hfile htop)
  have x_TooMany_p0_most := okx_TooMany_p0_most (w := w) (base := base) T (funX_of (P := P) c 23 (C := He.ga K "TooMany") (file := FILE) rfl T.xi_TooMany hfile htop)
  have x_MarkedSide_p0_side := okx_MarkedSide_p0_side (w := w) (base := base) T (funX_of (P := P) c 24 (C := He.ga K "MarkedSide") (file := FILE) rfl T.xi_MarkedSide hfile htop)
  have x_InvalidWall_p0_side := okx_InvalidWall_p0_side (w := w) (base := base) T (funX_of (P := P) c 25 (C := He.ga K "InvalidWall") (file := FILE) rfl T.xi_InvalidWall hfile htop)
  have x_SplitSide_p0_side := okx_SplitSide_p0_side (w := w) (base := base) T (funX_of (P := P) c 26 (C := He.ga K "SplitSide") (file := FILE) rfl T.xi_SplitSide hfile htop)
  have x_DuplicateName_p0_name := okx_DuplicateName_p0_name (w := w) (base := base) T (funX_of (P := P) c 27 (C := He.ga K "DuplicateName") (file := FILE) rfl T.xi_DuplicateName hfile htop)
  have x_InvalidName_p0_name := okx_InvalidName_p0_name (w := w) (base := base) T (funX_of (P := P) c 28 (C := He.ga K "InvalidName") (file := FILE) rfl T.xi_InvalidName hfile htop)
  have x_InvalidDeed_p0_index := okx_InvalidDeed_p0_index (w := w) (base := base) T (funX_of (P := P) c 29 (C := He.ga K "InvalidDeed") (file := FILE) rfl T.xi_InvalidDeed hfile htop)
  have x_InvalidTiles_p0_at := okx_InvalidTiles_p0_at (w := w) (base := base) T (funX_of (P := P) c 30 (C := He.ga K "InvalidTiles") (file := FILE) rfl T.xi_InvalidTiles hfile htop)
  have x_InvalidCorners_p0_at := okx_InvalidCorners_p0_at (w := w) (base := base) T (funX_of (P := P) c 31 (C := He.ga K "InvalidCorners") (file := FILE) rfl T.xi_InvalidCorners hfile htop)
  have x_InvalidText_p0_line := okx_InvalidText_p0_line (w := w) (base := base) T (funX_of (P := P) c 32 (C := He.ga K "InvalidText") (file := FILE) rfl T.xi_InvalidText hfile htop)
  have x_InvalidLimit_p0_given := okx_InvalidLimit_p0_given (w := w) (base := base) T (funX_of (P := P) c 33 (C := He.ga K "InvalidLimit") (file := FILE) rfl T.xi_InvalidLimit hfile htop)
  have x_InvalidCount_p0_given := okx_InvalidCount_p0_given (w := w) (base := base) T (funX_of (P := P) c 34 (C := He.ga K "InvalidCount") (file := FILE) rfl T.xi_InvalidCount hfile htop)
  have x_InvalidSpan_p0_given := okx_InvalidSpan_p0_given (w := w) (base := base) T (funX_of (P := P) c 35 (C := He.ga K "InvalidSpan") (file := FILE) rfl T.xi_InvalidSpan hfile htop)
  have x_InvalidRatio_p0_given := okx_InvalidRatio_p0_given (w := w) (base := base) T (funX_of (P := P) c 36 (C := He.ga K "InvalidRatio") (file := FILE) rfl T.xi_InvalidRatio hfile htop)
  have o_law_kinds_apart := ok_law_kinds_apart (P := P) (w := w) (base := base) L T  F_law_kinds_apart
  have o_law_sort := ok_law_sort (P := P) (w := w) (base := base) L T  F_law_sort
  have o_law_same := ok_law_same (P := P) (w := w) (base := base) L T o_law_sort F_law_same
  have o_law_fields := ok_law_fields (P := P) (w := w) (base := base) L T  F_law_fields
  have o_law_errors_so := ok_law_errors_so (P := P) (w := w) (base := base) L T o_law_kinds_apart o_law_same o_law_fields F_law_errors_so
  have o_law_pull := ok_law_pull (P := P) (w := w) (base := base) L T  F_law_pull
  have o_law_pick := ok_law_pick (P := P) (w := w) (base := base) L T o_law_pull F_law_pick
  have o_law_stray := ok_law_stray (P := P) (w := w) (base := base) L T o_law_pick F_law_stray
  have o_law_start := ok_law_start (P := P) (w := w) (base := base) L T  F_law_start
  exact fn_law (P := P) (w := w) (base := base) L T o_law_errors_so o_law_pick o_law_stray o_law_start x_InvalidWinds_p0 x_NotConvex_p0 x_NothingLeft_p0 x_UnknownMark_p0_name x_UnknownSide_p0_side x_UnknownTile_p0_name x_NotJoined_p1_other x_InvalidChord_p2 x_Overlap_p0_one_other x_LooseCorner_p0_corner x_InvalidRound_p0_value x_InvalidPlace_p0_value x_TooFar_p0_most x_TooMany_p0_most x_MarkedSide_p0_side x_InvalidWall_p0_side x_SplitSide_p0_side x_DuplicateName_p0_name x_InvalidName_p0_name x_InvalidDeed_p0_index x_InvalidTiles_p0_at x_InvalidCorners_p0_at x_InvalidText_p0_line x_InvalidLimit_p0_given x_InvalidCount_p0_given x_InvalidSpan_p0_given x_InvalidRatio_p0_given F
abbrev Rr : PySem.W.OpenRow := PySem.W.OpenLaw.row PySem.Challenge.rw_gustfloor_k09_errors_by_themselves
def names : List PySem.Str := ((["GustError", "InvalidRatio", "InvalidSpan", "InvalidText", "InvalidName", "DuplicateName", "InvalidCorners", "NotConvex", "InvalidWinds", "SplitSide", "InvalidTiles", "TooMany", "Overlap", "LooseCorner", "InvalidWall", "InvalidChord", "NotJoined", "MarkedSide", "InvalidPlace", "InvalidRound", "InvalidCount", "TooFar", "InvalidDeed", "InvalidLimit"] : List Str) ++ (["Missing", "UnknownTile", "UnknownSide", "UnknownMark", "NothingLeft", "_law_sort", "_law_same", "_law_fields", "_law_start", "_law_pull", "_law_pick", "_law_stray", "_law_kinds_apart", "_law_errors_so"] : List Str))
abbrev hk : PySem.W.Hook := hookQ 8 fns ex
def ob (s : PySem.W.SharedT) : AlQ := obsQG 8 fns ex (HandSHeadRun.getT s)
theorem ob_eq (s : PySem.W.SharedT) : ob s = hk.obs s.abs := obsQG_eq (HandSHeadRun.getT_eq s)
theorem run_ (w : World) : HandSHeadRun.RunEq Rr (PySem.W.view Rr.prog [40]) hk ob 8000 names w := by
  intro os
  kernel_rfl
end Row

namespace Row
open PySem PySem.Spec PyProof.Rows L2 Dq
@[simp] theorem sz0 : (0 : Nat) ≤ sizeLine := by decide
@[simp] theorem sz1 : (1 : Nat) ≤ sizeLine := by decide
@[simp] theorem sz2 : (2 : Nat) ≤ sizeLine := by decide
def srt : DV → Int
  | .non => 0
  | .bl _ => 1
  | .int _ => 2
  | .str _ => 3
  | .lst _ => 4
  | .tup _ => 5
  | _ => 6
theorem ev_sort (L : Nat) {n : Nat} : ∀ d : DV, plain n d = true → ∀ S : Sto, m_law_sort L [d] S = .ok (.int (srt d)) S
  | .non, _, S => run_rt rfl (by kernel_rfl) rfl
  | .bl b, _, S => run_rt rfl (by cases b <;> kernel_rfl) rfl
  | .int i, _, S => run_rt rfl (by kernel_rfl) rfl
  | .str x, _, S => run_rt rfl (by kernel_rfl) rfl
  | .lst xs, _, S => run_rt rfl (by kernel_rfl) rfl
  | .tup xs, _, S => run_rt rfl (by kernel_rfl) rfl
  | .wl _, h, _ => by cases n <;> exact nomatch h
  | .ins _ _ _, h, _ => by cases n <;> exact nomatch h
  | .mr _, h, _ => by cases n <;> exact nomatch h
  | .exn _ _ _, h, _ => by cases n <;> exact nomatch h
theorem eqD_str {x : Str} (h : SeqAt.shaped (.str x) = true) (S : Sto) : eqD (.str x) (.str x) S = .ok (.bl true) S := by
  show okIf (SeqAt.shaped (.str x) && SeqAt.shaped (.str x)) (.bl (PyData.eqv (.str x) (.str x))) S = _
  have e : PyData.eqv (.str x) (.str x) = true := by unfold PyData.eqv; simp
  rw [e, h]
  rfl
theorem eqD_bl (b : Bool) (S : Sto) : eqD (.bl b) (.bl b) S = .ok (.bl true) S := by cases b <;> rfl
/-- two readings of one thing, and the tests over them -/
theorem same_go (L : Nat) (m : List DV → Sto → R DV) (k : Int) (d : DV) (S : Sto) (hs : ∀ S, m_law_sort L [d] S = .ok (.int k) S) (h : (k = 4 ∨ k = 5) ∧ (∃ n : Int, lenD [d] S = .ok (.int n) S) ∧ gLz (gCons (gVar 0) (gCons (gVar 1) gNil)) (tTup 2 (tCons (tN 2) (tCons (tN 3) tNil))) [2, 3] gYes (gCall m [] (gCons (gVar 2) (gCons (gVar 3) gNil))) [some d, some d, none, none] S = .ok (.lst (List.replicate (match seqT d with | some xs => xs.length | none => 0) (.bl true))) S ∨ k ≠ 4 ∧ k ≠ 5 ∧ eqD d d S = .ok (.bl true) S) :
    b_law_same L m [some d, some d, none, none] S = .rt (.bl true) S := by
  unfold b_law_same
  rcases h with ⟨h1, ⟨n, h2⟩, h3⟩ | ⟨h1, h2, h3⟩
  · have e1 : inD false (.int k) (.tup [.int 4, .int 5]) S = .ok (.bl true) S := by
      rcases h1 with rfl | rfl <;> rfl
    generalize (match seqT d with | some xs => xs.length | none => 0) = q at h3
    simp [hs, neD_int, e1, h2, eqD_int]
    rw [h3]
    simp [allD_rep]
  · have e1 : inD false (.int k) (.tup [.int 4, .int 5]) S = .ok (.bl false) S := by
      show R.ok (DV.bl (inF (.int k) [.int 4, .int 5])) S = _
      have : inF (.int k) [.int 4, .int 5] = false := by
        unfold inF eqF
        simp [Ne.symm h1, Ne.symm h2]
      rw [this]
    simp [hs, neD_int, e1, h3]
theorem same_seq (L : Nat) {n : Nat} (ih : ∀ d : DV, plain n d = true → ∀ S : Sto, m_law_same L (n + 1) [d, d] S = .ok (.bl true) S) (xs : List DV) (d : DV) (hq : seqsL d d = some (xs, xs)) (hl : xs.length ≤ 64) (hp : xs.all (plain n) = true) (S : Sto) :
    gLz (gCons (gVar 0) (gCons (gVar 1) gNil)) (tTup 2 (tCons (tN 2) (tCons (tN 3) tNil))) [2, 3] gYes (gCall (m_law_same L (n + 1)) [] (gCons (gVar 2) (gCons (gVar 3) gNil))) [some d, some d, none, none] S = .ok (.lst (List.replicate xs.length (.bl true))) S := by
  have hz : (zipD xs xs).length = xs.length := by rw [zipD_self, List.length_map]
  refine gLz_ok rfl hq (by rw [hz]; exact Nat.le_trans hl (by decide)) ?_ (bels_rep rfl _)
  rw [zipD_self]
  have e : List.replicate xs.length (DV.bl true) = (xs.map fun x => DV.tup [x, x]).map fun _ => DV.bl true := by
    rw [List.map_map]
    exact List.map_const'.symm
  rw [e]
  refine LcF.map fun x hx => ?_
  rw [List.mem_map] at hx
  obtain ⟨y, hy, rfl⟩ := hx
  refine ⟨_, rfl, fun S _ => ?_⟩
  exact ih y (List.all_eq_true.mp hp y hy) S
theorem same_plain (L : Nat) : ∀ (n : Nat) (d : DV), plain n d = true → ∀ S : Sto, m_law_same L (n + 1) [d, d] S = .ok (.bl true) S := by
  intro n
  induction n with
  | zero =>
    intro d h S
    have hs := ev_sort L d h
    refine run_rt rfl (same_go L _ _ d S hs (.inr ?_)) rfl
    cases d with
    | non => exact ⟨by decide, by decide, rfl⟩
    | bl b => exact ⟨by simp [srt], by simp [srt], eqD_bl b S⟩
    | int i => exact ⟨by simp [srt], by simp [srt], by rw [eqD_int]; simp⟩
    | str x => exact ⟨by simp [srt], by simp [srt], eqD_str h S⟩
    | _ => exact nomatch h
  | succ n ih =>
    intro d h S
    have hs := ev_sort L d h
    refine run_rt rfl (same_go L _ _ d S hs ?_) rfl
    cases d with
    | non => exact .inr ⟨by decide, by decide, rfl⟩
    | bl b => exact .inr ⟨by simp [srt], by simp [srt], eqD_bl b S⟩
    | int i => exact .inr ⟨by simp [srt], by simp [srt], by rw [eqD_int]; simp⟩
    | str x => exact .inr ⟨by simp [srt], by simp [srt], eqD_str h S⟩
    | lst xs =>
      unfold Dq.plain at h
      rw [Bool.and_eq_true] at h
      exact .inl ⟨.inl rfl, ⟨_, rfl⟩, same_seq L ih xs _ rfl (of_decide_eq_true h.1) h.2 S⟩
    | tup xs =>
      unfold Dq.plain at h
      rw [Bool.and_eq_true] at h
      exact .inl ⟨.inr rfl, ⟨_, rfl⟩, same_seq L ih xs _ rfl (of_decide_eq_true h.1) h.2 S⟩
    | _ => exact nomatch h
theorem lsz {xs : List DV} (h : Nat.ble xs.length 64 = true) : xs.length ≤ sizeLine := Nat.le_trans (Nat.le_of_ble_eq_true h) (by decide)
def vsL : List DV := [.non, .bl true, .str "x", .str "1/2", .int 1, .tup [], .lst [], .tup [.int 1, .int 2], .lst [.non]]
def wsL : List DV := [.str "a", .int 7, .tup [.int 0, .int 1], .lst [.int 2], .non]
abbrev l2_1 (v w : DV) : List DV := [.tup [(.exn 1 [1, 0] [.str "InvalidRatio", v]), v],
 .tup [(.exn 2 [1, 0] [.str "InvalidSpan", v]), v],
 .tup [(.exn 20 [1, 0] [.str "InvalidCount", v]), v],
 .tup [(.exn 23 [1, 0] [.str "InvalidLimit", v]), v]]
theorem t1 (x0 x2 x3 x4 x5 x6 x9 : Option DV) (v w : DV) (s : Sto) : (gSet 2 (gLst (gCons (gTup (gCons (gExn 1 mxe_InvalidRatio_p0_given gNil (gCons (gVar 7) gNil)) (gCons (gVar 7) gNil))) (gCons (gTup (gCons (gExn 2 mxe_InvalidSpan_p0_given gNil (gCons (gVar 7) gNil)) (gCons (gVar 7) gNil))) (gCons (gTup (gCons (gExn 20 mxe_InvalidCount_p0_given gNil (gCons (gVar 7) gNil)) (gCons (gVar 7) gNil))) (gCons (gTup (gCons (gExn 23 mxe_InvalidLimit_p0_given gNil (gCons (gVar 7) gNil)) (gCons (gVar 7) gNil))) gNil)))))) [x0, some (.mr 0), x2, x3, x4, x5, x6, some v, some w, x9] s = .nx [x0, some (.mr 0), some (.lst (l2_1 v w)), x3, x4, x5, x6, some v, some w, x9] s := by kernel_rfl
abbrev l2_2 (v w : DV) : List DV := [.tup [(.exn 1 [1, 0] [.str "InvalidRatio", v]), v],
 .tup [(.exn 2 [1, 0] [.str "InvalidSpan", v]), v],
 .tup [(.exn 20 [1, 0] [.str "InvalidCount", v]), v],
 .tup [(.exn 23 [1, 0] [.str "InvalidLimit", v]), v],
 .tup [(.exn 3 [1, 2] [.str "InvalidText", v]), v],
 .tup [(.exn 6 [1, 4] [.str "InvalidCorners", v]), v],
 .tup [(.exn 10 [1, 4] [.str "InvalidTiles", v]), v],
 .tup [(.exn 22 [1, 11] [.str "InvalidDeed", v]), v]]
theorem t2 (x0 x2 x3 x4 x5 x6 x9 : Option DV) (v w : DV) (s : Sto) : (gSet 2 (gBin addD (gVar 2) (gLst (gCons (gTup (gCons (gExn 3 mxe_InvalidText_p0_line gNil (gCons (gVar 7) gNil)) (gCons (gVar 7) gNil))) (gCons (gTup (gCons (gExn 6 mxe_InvalidCorners_p0_at gNil (gCons (gVar 7) gNil)) (gCons (gVar 7) gNil))) (gCons (gTup (gCons (gExn 10 mxe_InvalidTiles_p0_at gNil (gCons (gVar 7) gNil)) (gCons (gVar 7) gNil))) (gCons (gTup (gCons (gExn 22 mxe_InvalidDeed_p0_index gNil (gCons (gVar 7) gNil)) (gCons (gVar 7) gNil))) gNil))))))) [x0, some (.mr 0), some (.lst (l2_1 v w)), x3, x4, x5, x6, some v, some w, x9] s = .nx [x0, some (.mr 0), some (.lst (l2_2 v w)), x3, x4, x5, x6, some v, some w, x9] s := by kernel_rfl
abbrev l2_3 (v w : DV) : List DV := [.tup [(.exn 1 [1, 0] [.str "InvalidRatio", v]), v],
 .tup [(.exn 2 [1, 0] [.str "InvalidSpan", v]), v],
 .tup [(.exn 20 [1, 0] [.str "InvalidCount", v]), v],
 .tup [(.exn 23 [1, 0] [.str "InvalidLimit", v]), v],
 .tup [(.exn 3 [1, 2] [.str "InvalidText", v]), v],
 .tup [(.exn 6 [1, 4] [.str "InvalidCorners", v]), v],
 .tup [(.exn 10 [1, 4] [.str "InvalidTiles", v]), v],
 .tup [(.exn 22 [1, 11] [.str "InvalidDeed", v]), v],
 .tup [(.exn 4 [1, 3] [.str "InvalidName", v]), v],
 .tup [(.exn 5 [1, 3] [.str "DuplicateName", v]), v],
 .tup [(.exn 9 [1, 5] [.str "SplitSide", v]), v],
 .tup [(.exn 14 [1, 5] [.str "InvalidWall", v]), v]]
theorem t3 (x0 x2 x3 x4 x5 x6 x9 : Option DV) (v w : DV) (s : Sto) : (gSet 2 (gBin addD (gVar 2) (gLst (gCons (gTup (gCons (gExn 4 mxe_InvalidName_p0_name gNil (gCons (gVar 7) gNil)) (gCons (gVar 7) gNil))) (gCons (gTup (gCons (gExn 5 mxe_DuplicateName_p0_name gNil (gCons (gVar 7) gNil)) (gCons (gVar 7) gNil))) (gCons (gTup (gCons (gExn 9 mxe_SplitSide_p0_side gNil (gCons (gVar 7) gNil)) (gCons (gVar 7) gNil))) (gCons (gTup (gCons (gExn 14 mxe_InvalidWall_p0_side gNil (gCons (gVar 7) gNil)) (gCons (gVar 7) gNil))) gNil))))))) [x0, some (.mr 0), some (.lst (l2_2 v w)), x3, x4, x5, x6, some v, some w, x9] s = .nx [x0, some (.mr 0), some (.lst (l2_3 v w)), x3, x4, x5, x6, some v, some w, x9] s := by kernel_rfl
abbrev l2_4 (v w : DV) : List DV := [.tup [(.exn 1 [1, 0] [.str "InvalidRatio", v]), v],
 .tup [(.exn 2 [1, 0] [.str "InvalidSpan", v]), v],
 .tup [(.exn 20 [1, 0] [.str "InvalidCount", v]), v],
 .tup [(.exn 23 [1, 0] [.str "InvalidLimit", v]), v],
 .tup [(.exn 3 [1, 2] [.str "InvalidText", v]), v],
 .tup [(.exn 6 [1, 4] [.str "InvalidCorners", v]), v],
 .tup [(.exn 10 [1, 4] [.str "InvalidTiles", v]), v],
 .tup [(.exn 22 [1, 11] [.str "InvalidDeed", v]), v],
 .tup [(.exn 4 [1, 3] [.str "InvalidName", v]), v],
 .tup [(.exn 5 [1, 3] [.str "DuplicateName", v]), v],
 .tup [(.exn 9 [1, 5] [.str "SplitSide", v]), v],
 .tup [(.exn 14 [1, 5] [.str "InvalidWall", v]), v],
 .tup [(.exn 17 [1, 5] [.str "MarkedSide", v]), v],
 .tup [(.exn 11 [1, 6] [.str "TooMany", v]), v],
 .tup [(.exn 21 [1, 6] [.str "TooFar", v]), v],
 .tup [(.exn 18 [1, 10] [.str "InvalidPlace", v]), v]]
theorem t4 (x0 x2 x3 x4 x5 x6 x9 : Option DV) (v w : DV) (s : Sto) : (gSet 2 (gBin addD (gVar 2) (gLst (gCons (gTup (gCons (gExn 17 mxe_MarkedSide_p0_side gNil (gCons (gVar 7) gNil)) (gCons (gVar 7) gNil))) (gCons (gTup (gCons (gExn 11 mxe_TooMany_p0_most gNil (gCons (gVar 7) gNil)) (gCons (gVar 7) gNil))) (gCons (gTup (gCons (gExn 21 mxe_TooFar_p0_most gNil (gCons (gVar 7) gNil)) (gCons (gVar 7) gNil))) (gCons (gTup (gCons (gExn 18 mxe_InvalidPlace_p0_value gNil (gCons (gVar 7) gNil)) (gCons (gVar 7) gNil))) gNil))))))) [x0, some (.mr 0), some (.lst (l2_3 v w)), x3, x4, x5, x6, some v, some w, x9] s = .nx [x0, some (.mr 0), some (.lst (l2_4 v w)), x3, x4, x5, x6, some v, some w, x9] s := by kernel_rfl
abbrev l2_5 (v w : DV) : List DV := [.tup [(.exn 1 [1, 0] [.str "InvalidRatio", v]), v],
 .tup [(.exn 2 [1, 0] [.str "InvalidSpan", v]), v],
 .tup [(.exn 20 [1, 0] [.str "InvalidCount", v]), v],
 .tup [(.exn 23 [1, 0] [.str "InvalidLimit", v]), v],
 .tup [(.exn 3 [1, 2] [.str "InvalidText", v]), v],
 .tup [(.exn 6 [1, 4] [.str "InvalidCorners", v]), v],
 .tup [(.exn 10 [1, 4] [.str "InvalidTiles", v]), v],
 .tup [(.exn 22 [1, 11] [.str "InvalidDeed", v]), v],
 .tup [(.exn 4 [1, 3] [.str "InvalidName", v]), v],
 .tup [(.exn 5 [1, 3] [.str "DuplicateName", v]), v],
 .tup [(.exn 9 [1, 5] [.str "SplitSide", v]), v],
 .tup [(.exn 14 [1, 5] [.str "InvalidWall", v]), v],
 .tup [(.exn 17 [1, 5] [.str "MarkedSide", v]), v],
 .tup [(.exn 11 [1, 6] [.str "TooMany", v]), v],
 .tup [(.exn 21 [1, 6] [.str "TooFar", v]), v],
 .tup [(.exn 18 [1, 10] [.str "InvalidPlace", v]), v],
 .tup [(.exn 19 [1, 10] [.str "InvalidRound", v]), v],
 .tup [(.exn 13 [1, 9] [.str "LooseCorner", v]), v]]
theorem t5 (x0 x2 x3 x4 x5 x6 x9 : Option DV) (v w : DV) (s : Sto) : (gSet 2 (gBin addD (gVar 2) (gLst (gCons (gTup (gCons (gExn 19 mxe_InvalidRound_p0_value gNil (gCons (gVar 7) gNil)) (gCons (gVar 7) gNil))) (gCons (gTup (gCons (gExn 13 mxe_LooseCorner_p0_corner gNil (gCons (gVar 7) gNil)) (gCons (gVar 7) gNil))) gNil))))) [x0, some (.mr 0), some (.lst (l2_4 v w)), x3, x4, x5, x6, some v, some w, x9] s = .nx [x0, some (.mr 0), some (.lst (l2_5 v w)), x3, x4, x5, x6, some v, some w, x9] s := by kernel_rfl
abbrev l3_6 (v w : DV) : List DV := [(.exn 12 [1, 8, 7] [.str "Overlap", w, v]),
 (.exn 15 [1, 8, 7] [.str "InvalidChord", w, v]),
 (.exn 16 [1, 8, 7] [.str "NotJoined", w, v])]
theorem t6 (x0 x2 x3 x4 x5 x6 x9 : Option DV) (v w : DV) (s : Sto) : (gSet 3 (gLst (gCons (gExn 12 mxe_Overlap_p0_one_other gNil (gCons (gVar 7) (gCons (gVar 8) gNil))) (gCons (gExn 15 mxe_InvalidChord_p2 (gCons (gVar 7) (gCons (gVar 8) gNil)) gNil) (gCons (gExn 16 mxe_NotJoined_p1_other (gCons (gVar 7) gNil) (gCons (gVar 8) gNil)) gNil))))) [x0, some (.mr 0), some (.lst (l2_5 v w)), x3, x4, x5, x6, some v, some w, x9] s = .nx [x0, some (.mr 0), some (.lst (l2_5 v w)), some (.lst (l3_6 v w)), x4, x5, x6, some v, some w, x9] s := by kernel_rfl
abbrev l4_7 (v w : DV) : List DV := [(.exn 25 [1, 3] [.str "UnknownTile", v]),
 (.exn 26 [1, 5] [.str "UnknownSide", v]),
 (.exn 27 [1, 3] [.str "UnknownMark", v])]
theorem t7 (x0 x2 x3 x4 x5 x6 x9 : Option DV) (v w : DV) (s : Sto) : (gSet 4 (gLst (gCons (gExn 25 mxe_UnknownTile_p0_name gNil (gCons (gVar 7) gNil)) (gCons (gExn 26 mxe_UnknownSide_p0_side gNil (gCons (gVar 7) gNil)) (gCons (gExn 27 mxe_UnknownMark_p0_name gNil (gCons (gVar 7) gNil)) gNil))))) [x0, some (.mr 0), some (.lst (l2_5 v w)), some (.lst (l3_6 v w)), x4, x5, x6, some v, some w, x9] s = .nx [x0, some (.mr 0), some (.lst (l2_5 v w)), some (.lst (l3_6 v w)), some (.lst (l4_7 v w)), x5, x6, some v, some w, x9] s := by kernel_rfl
abbrev l5_8 : List DV := [.str "InvalidRatio",
 .str "InvalidSpan",
 .str "InvalidCount",
 .str "InvalidLimit",
 .str "InvalidText",
 .str "InvalidCorners",
 .str "InvalidTiles"]
theorem t8 (x0 x2 x3 x4 x5 x6 x9 : Option DV) (v w : DV) (s : Sto) : (gSet 5 (gLst (gCons (gC (.str "InvalidRatio")) (gCons (gC (.str "InvalidSpan")) (gCons (gC (.str "InvalidCount")) (gCons (gC (.str "InvalidLimit")) (gCons (gC (.str "InvalidText")) (gCons (gC (.str "InvalidCorners")) (gCons (gC (.str "InvalidTiles")) gNil))))))))) [x0, some (.mr 0), some (.lst (l2_5 v w)), some (.lst (l3_6 v w)), some (.lst (l4_7 v w)), x5, x6, some v, some w, x9] s = .nx [x0, some (.mr 0), some (.lst (l2_5 v w)), some (.lst (l3_6 v w)), some (.lst (l4_7 v w)), some (.lst l5_8), x6, some v, some w, x9] s := by kernel_rfl
abbrev l5_9 : List DV := [.str "InvalidRatio",
 .str "InvalidSpan",
 .str "InvalidCount",
 .str "InvalidLimit",
 .str "InvalidText",
 .str "InvalidCorners",
 .str "InvalidTiles",
 .str "InvalidDeed",
 .str "InvalidName",
 .str "DuplicateName",
 .str "SplitSide",
 .str "InvalidWall",
 .str "MarkedSide",
 .str "TooMany"]
theorem t9 (x0 x2 x3 x4 x5 x6 x9 : Option DV) (v w : DV) (s : Sto) : (gSet 5 (gBin addD (gVar 5) (gLst (gCons (gC (.str "InvalidDeed")) (gCons (gC (.str "InvalidName")) (gCons (gC (.str "DuplicateName")) (gCons (gC (.str "SplitSide")) (gCons (gC (.str "InvalidWall")) (gCons (gC (.str "MarkedSide")) (gCons (gC (.str "TooMany")) gNil)))))))))) [x0, some (.mr 0), some (.lst (l2_5 v w)), some (.lst (l3_6 v w)), some (.lst (l4_7 v w)), some (.lst l5_8), x6, some v, some w, x9] s = .nx [x0, some (.mr 0), some (.lst (l2_5 v w)), some (.lst (l3_6 v w)), some (.lst (l4_7 v w)), some (.lst l5_9), x6, some v, some w, x9] s := by kernel_rfl
abbrev l5_10 : List DV := [.str "InvalidRatio",
 .str "InvalidSpan",
 .str "InvalidCount",
 .str "InvalidLimit",
 .str "InvalidText",
 .str "InvalidCorners",
 .str "InvalidTiles",
 .str "InvalidDeed",
 .str "InvalidName",
 .str "DuplicateName",
 .str "SplitSide",
 .str "InvalidWall",
 .str "MarkedSide",
 .str "TooMany",
 .str "TooFar",
 .str "InvalidPlace",
 .str "InvalidRound",
 .str "LooseCorner",
 .str "Overlap",
 .str "InvalidChord",
 .str "NotJoined"]
theorem t10 (x0 x2 x3 x4 x5 x6 x9 : Option DV) (v w : DV) (s : Sto) : (gSet 5 (gBin addD (gVar 5) (gLst (gCons (gC (.str "TooFar")) (gCons (gC (.str "InvalidPlace")) (gCons (gC (.str "InvalidRound")) (gCons (gC (.str "LooseCorner")) (gCons (gC (.str "Overlap")) (gCons (gC (.str "InvalidChord")) (gCons (gC (.str "NotJoined")) gNil)))))))))) [x0, some (.mr 0), some (.lst (l2_5 v w)), some (.lst (l3_6 v w)), some (.lst (l4_7 v w)), some (.lst l5_9), x6, some v, some w, x9] s = .nx [x0, some (.mr 0), some (.lst (l2_5 v w)), some (.lst (l3_6 v w)), some (.lst (l4_7 v w)), some (.lst l5_10), x6, some v, some w, x9] s := by kernel_rfl
abbrev ev0 (v w : DV) : List DV := [(.exn 1 [1, 0] [.str "InvalidRatio", v]),
 (.exn 2 [1, 0] [.str "InvalidSpan", v]),
 (.exn 20 [1, 0] [.str "InvalidCount", v]),
 (.exn 23 [1, 0] [.str "InvalidLimit", v]),
 (.exn 3 [1, 2] [.str "InvalidText", v]),
 (.exn 6 [1, 4] [.str "InvalidCorners", v]),
 (.exn 10 [1, 4] [.str "InvalidTiles", v]),
 (.exn 22 [1, 11] [.str "InvalidDeed", v]),
 (.exn 4 [1, 3] [.str "InvalidName", v]),
 (.exn 5 [1, 3] [.str "DuplicateName", v]),
 (.exn 9 [1, 5] [.str "SplitSide", v]),
 (.exn 14 [1, 5] [.str "InvalidWall", v]),
 (.exn 17 [1, 5] [.str "MarkedSide", v]),
 (.exn 11 [1, 6] [.str "TooMany", v]),
 (.exn 21 [1, 6] [.str "TooFar", v]),
 (.exn 18 [1, 10] [.str "InvalidPlace", v]),
 (.exn 19 [1, 10] [.str "InvalidRound", v]),
 (.exn 13 [1, 9] [.str "LooseCorner", v])]
abbrev l6_11 (v w : DV) : List DV := [(.exn 1 [1, 0] [.str "InvalidRatio", v]),
 (.exn 2 [1, 0] [.str "InvalidSpan", v]),
 (.exn 20 [1, 0] [.str "InvalidCount", v]),
 (.exn 23 [1, 0] [.str "InvalidLimit", v]),
 (.exn 3 [1, 2] [.str "InvalidText", v]),
 (.exn 6 [1, 4] [.str "InvalidCorners", v]),
 (.exn 10 [1, 4] [.str "InvalidTiles", v]),
 (.exn 22 [1, 11] [.str "InvalidDeed", v]),
 (.exn 4 [1, 3] [.str "InvalidName", v]),
 (.exn 5 [1, 3] [.str "DuplicateName", v]),
 (.exn 9 [1, 5] [.str "SplitSide", v]),
 (.exn 14 [1, 5] [.str "InvalidWall", v]),
 (.exn 17 [1, 5] [.str "MarkedSide", v]),
 (.exn 11 [1, 6] [.str "TooMany", v]),
 (.exn 21 [1, 6] [.str "TooFar", v]),
 (.exn 18 [1, 10] [.str "InvalidPlace", v]),
 (.exn 19 [1, 10] [.str "InvalidRound", v]),
 (.exn 13 [1, 9] [.str "LooseCorner", v]),
 (.exn 12 [1, 8, 7] [.str "Overlap", w, v]),
 (.exn 15 [1, 8, 7] [.str "InvalidChord", w, v]),
 (.exn 16 [1, 8, 7] [.str "NotJoined", w, v]),
 (.exn 7 [1] [.str "NotConvex"]),
 (.exn 8 [1] [.str "InvalidWinds"]),
 (.exn 25 [1, 3] [.str "UnknownTile", v]),
 (.exn 26 [1, 5] [.str "UnknownSide", v]),
 (.exn 27 [1, 3] [.str "UnknownMark", v]),
 (.exn 28 [1] [.str "NothingLeft"])]
theorem t11a (x0 x2 x3 x4 x5 x6 x9 : Option DV) (v w : DV) (s : Sto) (g : GE) (e : g [x0, some (.mr 0), some (.lst (l2_5 v w)), some (.lst (l3_6 v w)), some (.lst (l4_7 v w)), some (.lst l5_10), x6, some v, some w, x9] s = .ok (.lst (ev0 v w)) s) : (gSet 6 (gBin addD (gBin addD (gBin addD (gBin addD g (gVar 3)) (gLst (gCons (gExn 7 mxe_NotConvex_p0 gNil gNil) (gCons (gExn 8 mxe_InvalidWinds_p0 gNil gNil) gNil)))) (gVar 4)) (gLst (gCons (gExn 28 mxe_NothingLeft_p0 gNil gNil) gNil)))) [x0, some (.mr 0), some (.lst (l2_5 v w)), some (.lst (l3_6 v w)), some (.lst (l4_7 v w)), some (.lst l5_10), x6, some v, some w, x9] s = .nx [x0, some (.mr 0), some (.lst (l2_5 v w)), some (.lst (l3_6 v w)), some (.lst (l4_7 v w)), some (.lst l5_10), some (.lst (l6_11 v w)), some v, some w, x9] s := by
  simp only [gSet, gBin]
  rw [e]
  kernel_rfl
theorem t11 (x0 x2 x3 x4 x5 x6 x9 : Option DV) (v w : DV) (s : Sto) (hv : ∀ m, bel m v = true) : (gSet 6 (gBin addD (gBin addD (gBin addD (gBin addD (gLc (gVar 2) (tN 9) [9] gYes (gBin ixD (gVar 9) (gC (.int 0)))) (gVar 3)) (gLst (gCons (gExn 7 mxe_NotConvex_p0 gNil gNil) (gCons (gExn 8 mxe_InvalidWinds_p0 gNil gNil) gNil)))) (gVar 4)) (gLst (gCons (gExn 28 mxe_NothingLeft_p0 gNil gNil) gNil)))) [x0, some (.mr 0), some (.lst (l2_5 v w)), some (.lst (l3_6 v w)), some (.lst (l4_7 v w)), some (.lst l5_10), x6, some v, some w, x9] s = .nx [x0, some (.mr 0), some (.lst (l2_5 v w)), some (.lst (l3_6 v w)), some (.lst (l4_7 v w)), some (.lst l5_10), some (.lst (l6_11 v w)), some v, some w, x9] s := by
  refine t11a x0 x2 x3 x4 x5 x6 x9 v w s _ ?_
  refine gLc_ok (xs := (l2_5 v w)) rfl rfl (lsz (by kernel_rfl)) (.cons ⟨_, rfl, fun S _ => rfl⟩ (.cons ⟨_, rfl, fun S _ => rfl⟩ (.cons ⟨_, rfl, fun S _ => rfl⟩ (.cons ⟨_, rfl, fun S _ => rfl⟩ (.cons ⟨_, rfl, fun S _ => rfl⟩ (.cons ⟨_, rfl, fun S _ => rfl⟩ (.cons ⟨_, rfl, fun S _ => rfl⟩ (.cons ⟨_, rfl, fun S _ => rfl⟩ (.cons ⟨_, rfl, fun S _ => rfl⟩ (.cons ⟨_, rfl, fun S _ => rfl⟩ (.cons ⟨_, rfl, fun S _ => rfl⟩ (.cons ⟨_, rfl, fun S _ => rfl⟩ (.cons ⟨_, rfl, fun S _ => rfl⟩ (.cons ⟨_, rfl, fun S _ => rfl⟩ (.cons ⟨_, rfl, fun S _ => rfl⟩ (.cons ⟨_, rfl, fun S _ => rfl⟩ (.cons ⟨_, rfl, fun S _ => rfl⟩ (.cons ⟨_, rfl, fun S _ => rfl⟩ (.nil))))))))))))))))))) ?_
  simp [ev0, bels, bel, hv]
abbrev l5_12 : List DV := [.str "InvalidRatio",
 .str "InvalidSpan",
 .str "InvalidCount",
 .str "InvalidLimit",
 .str "InvalidText",
 .str "InvalidCorners",
 .str "InvalidTiles",
 .str "InvalidDeed",
 .str "InvalidName",
 .str "DuplicateName",
 .str "SplitSide",
 .str "InvalidWall",
 .str "MarkedSide",
 .str "TooMany",
 .str "TooFar",
 .str "InvalidPlace",
 .str "InvalidRound",
 .str "LooseCorner",
 .str "Overlap",
 .str "InvalidChord",
 .str "NotJoined",
 .str "NotConvex",
 .str "InvalidWinds",
 .str "UnknownTile",
 .str "UnknownSide",
 .str "UnknownMark",
 .str "NothingLeft"]
theorem t12 (x0 x2 x3 x4 x5 x6 x9 : Option DV) (v w : DV) (s : Sto) : (gSet 5 (gBin addD (gVar 5) (gLst (gCons (gC (.str "NotConvex")) (gCons (gC (.str "InvalidWinds")) (gCons (gC (.str "UnknownTile")) (gCons (gC (.str "UnknownSide")) (gCons (gC (.str "UnknownMark")) (gCons (gC (.str "NothingLeft")) gNil))))))))) [x0, some (.mr 0), some (.lst (l2_5 v w)), some (.lst (l3_6 v w)), some (.lst (l4_7 v w)), some (.lst l5_10), some (.lst (l6_11 v w)), some v, some w, x9] s = .nx [x0, some (.mr 0), some (.lst (l2_5 v w)), some (.lst (l3_6 v w)), some (.lst (l4_7 v w)), some (.lst l5_12), some (.lst (l6_11 v w)), some v, some w, x9] s := by kernel_rfl
theorem bin2 {f : DV → DV → Sto → R DV} {a b : GE} {ρ : En} {s : Sto} {x y : DV} {r : R DV} (h1 : a ρ s = .ok x s) (h2 : b ρ s = .ok y s) (h3 : f x y s = r) : gBin f a b ρ s = r := by
  simp only [gBin, h1, h2, R.bind_ok, h3]
theorem ret1 {a : GE} {ρ : En} {s : Sto} {x : DV} (h1 : a ρ s = .ok x s) : gRet a ρ s = .rt x s := by
  simp [h1]
theorem and2 {a b : GE} {ρ : En} {s : Sto} {x : DV} (h1 : a ρ s = .ok (.bl true) s) (h2 : b ρ s = .ok x s) : gAndV a b ρ s = .ok x s := by
  simp [h1, h2]
theorem nx_if {g : GE} {b : GS} {ρ : En} {s : Sto} (h : g ρ s = .ok (.bl true) s) : gIfS (gNot (gT truD g)) b gNext ρ s = .nx ρ s := by
  simp only [gIfS, gNot, gT, h, R.bind_ok, truD]
  rfl
theorem call2 {m : List DV → Sto → R DV} {a b : GE} {ρ : En} {s : Sto} {x y : DV} (h1 : a ρ s = .ok x s) (h2 : b ρ s = .ok y s) : gCall m [] (gCons a (gCons b gNil)) ρ s = m [x, y] s := by
  simp [h1, h2]
theorem all1 {a : GE} {ρ : En} {s : Sto} {n : Nat} (h : a ρ s = .ok (.lst (List.replicate n (.bl true))) s) : gB allD (gCons a gNil) ρ s = .ok (.bl true) s := by
  simp [h, allD_rep]
theorem u1 (L : Nat) (v w : DV) (s : Sto) : (gIfS (gNot (gT truD (gCall (m_law_same L 8) [] (gCons (gLc (gVar 0) (tN 9) [9] gYes (gUn (atE 1 fx_code) (gVar 9))) (gCons (gVar 1) gNil)))))
 (gRet (gC (.bl false)))
 gNext) [some (.lst (l6_11 v w)), some (.lst (l5_12)), some (.lst (l2_5 v w)), some (.lst (l4_7 v w)), some (.lst (l3_6 v w)), some v, some w, none, none, none, none] s = .nx [some (.lst (l6_11 v w)), some (.lst (l5_12)), some (.lst (l2_5 v w)), some (.lst (l4_7 v w)), some (.lst (l3_6 v w)), some v, some w, none, none, none, none] s := by
  refine nx_if ?_
  refine Eq.trans (call2 (x := .lst (l5_12)) (y := .lst (l5_12)) (gLc_ok (xs := l6_11 v w) rfl rfl (lsz (by kernel_rfl)) (.cons ⟨_, rfl, fun S _ => by kernel_rfl⟩ (.cons ⟨_, rfl, fun S _ => by kernel_rfl⟩ (.cons ⟨_, rfl, fun S _ => by kernel_rfl⟩ (.cons ⟨_, rfl, fun S _ => by kernel_rfl⟩ (.cons ⟨_, rfl, fun S _ => by kernel_rfl⟩ (.cons ⟨_, rfl, fun S _ => by kernel_rfl⟩ (.cons ⟨_, rfl, fun S _ => by kernel_rfl⟩ (.cons ⟨_, rfl, fun S _ => by kernel_rfl⟩ (.cons ⟨_, rfl, fun S _ => by kernel_rfl⟩ (.cons ⟨_, rfl, fun S _ => by kernel_rfl⟩ (.cons ⟨_, rfl, fun S _ => by kernel_rfl⟩ (.cons ⟨_, rfl, fun S _ => by kernel_rfl⟩ (.cons ⟨_, rfl, fun S _ => by kernel_rfl⟩ (.cons ⟨_, rfl, fun S _ => by kernel_rfl⟩ (.cons ⟨_, rfl, fun S _ => by kernel_rfl⟩ (.cons ⟨_, rfl, fun S _ => by kernel_rfl⟩ (.cons ⟨_, rfl, fun S _ => by kernel_rfl⟩ (.cons ⟨_, rfl, fun S _ => by kernel_rfl⟩ (.cons ⟨_, rfl, fun S _ => by kernel_rfl⟩ (.cons ⟨_, rfl, fun S _ => by kernel_rfl⟩ (.cons ⟨_, rfl, fun S _ => by kernel_rfl⟩ (.cons ⟨_, rfl, fun S _ => by kernel_rfl⟩ (.cons ⟨_, rfl, fun S _ => by kernel_rfl⟩ (.cons ⟨_, rfl, fun S _ => by kernel_rfl⟩ (.cons ⟨_, rfl, fun S _ => by kernel_rfl⟩ (.cons ⟨_, rfl, fun S _ => by kernel_rfl⟩ (.cons ⟨_, rfl, fun S _ => by kernel_rfl⟩ (.nil)))))))))))))))))))))))))))) rfl) rfl) ?_
  exact same_plain L 7 _ (by decide +kernel) s
theorem f0 (L : Nat) (v w : DV) (S : Sto) : m_law_fields L [(.exn 1 [1, 0] [.str "InvalidRatio", v])] S = .ok (.tup [v]) S := run_rt rfl (by kernel_rfl) rfl
theorem f1 (L : Nat) (v w : DV) (S : Sto) : m_law_fields L [(.exn 2 [1, 0] [.str "InvalidSpan", v])] S = .ok (.tup [v]) S := run_rt rfl (by kernel_rfl) rfl
theorem f2 (L : Nat) (v w : DV) (S : Sto) : m_law_fields L [(.exn 20 [1, 0] [.str "InvalidCount", v])] S = .ok (.tup [v]) S := run_rt rfl (by kernel_rfl) rfl
theorem f3 (L : Nat) (v w : DV) (S : Sto) : m_law_fields L [(.exn 23 [1, 0] [.str "InvalidLimit", v])] S = .ok (.tup [v]) S := run_rt rfl (by kernel_rfl) rfl
theorem f4 (L : Nat) (v w : DV) (S : Sto) : m_law_fields L [(.exn 3 [1, 2] [.str "InvalidText", v])] S = .ok (.tup [v]) S := run_rt rfl (by kernel_rfl) rfl
theorem f5 (L : Nat) (v w : DV) (S : Sto) : m_law_fields L [(.exn 6 [1, 4] [.str "InvalidCorners", v])] S = .ok (.tup [v]) S := run_rt rfl (by kernel_rfl) rfl
theorem f6 (L : Nat) (v w : DV) (S : Sto) : m_law_fields L [(.exn 10 [1, 4] [.str "InvalidTiles", v])] S = .ok (.tup [v]) S := run_rt rfl (by kernel_rfl) rfl
theorem f7 (L : Nat) (v w : DV) (S : Sto) : m_law_fields L [(.exn 22 [1, 11] [.str "InvalidDeed", v])] S = .ok (.tup [v]) S := run_rt rfl (by kernel_rfl) rfl
theorem f8 (L : Nat) (v w : DV) (S : Sto) : m_law_fields L [(.exn 4 [1, 3] [.str "InvalidName", v])] S = .ok (.tup [v]) S := run_rt rfl (by kernel_rfl) rfl
theorem f9 (L : Nat) (v w : DV) (S : Sto) : m_law_fields L [(.exn 5 [1, 3] [.str "DuplicateName", v])] S = .ok (.tup [v]) S := run_rt rfl (by kernel_rfl) rfl
theorem f10 (L : Nat) (v w : DV) (S : Sto) : m_law_fields L [(.exn 9 [1, 5] [.str "SplitSide", v])] S = .ok (.tup [v]) S := run_rt rfl (by kernel_rfl) rfl
theorem f11 (L : Nat) (v w : DV) (S : Sto) : m_law_fields L [(.exn 14 [1, 5] [.str "InvalidWall", v])] S = .ok (.tup [v]) S := run_rt rfl (by kernel_rfl) rfl
theorem f12 (L : Nat) (v w : DV) (S : Sto) : m_law_fields L [(.exn 17 [1, 5] [.str "MarkedSide", v])] S = .ok (.tup [v]) S := run_rt rfl (by kernel_rfl) rfl
theorem f13 (L : Nat) (v w : DV) (S : Sto) : m_law_fields L [(.exn 11 [1, 6] [.str "TooMany", v])] S = .ok (.tup [v]) S := run_rt rfl (by kernel_rfl) rfl
theorem f14 (L : Nat) (v w : DV) (S : Sto) : m_law_fields L [(.exn 21 [1, 6] [.str "TooFar", v])] S = .ok (.tup [v]) S := run_rt rfl (by kernel_rfl) rfl
theorem f15 (L : Nat) (v w : DV) (S : Sto) : m_law_fields L [(.exn 18 [1, 10] [.str "InvalidPlace", v])] S = .ok (.tup [v]) S := run_rt rfl (by kernel_rfl) rfl
theorem f16 (L : Nat) (v w : DV) (S : Sto) : m_law_fields L [(.exn 19 [1, 10] [.str "InvalidRound", v])] S = .ok (.tup [v]) S := run_rt rfl (by kernel_rfl) rfl
theorem f17 (L : Nat) (v w : DV) (S : Sto) : m_law_fields L [(.exn 13 [1, 9] [.str "LooseCorner", v])] S = .ok (.tup [v]) S := run_rt rfl (by kernel_rfl) rfl
theorem f18 (L : Nat) (v w : DV) (S : Sto) : m_law_fields L [(.exn 25 [1, 3] [.str "UnknownTile", v])] S = .ok (.tup [v]) S := run_rt rfl (by kernel_rfl) rfl
theorem f19 (L : Nat) (v w : DV) (S : Sto) : m_law_fields L [(.exn 26 [1, 5] [.str "UnknownSide", v])] S = .ok (.tup [v]) S := run_rt rfl (by kernel_rfl) rfl
theorem f20 (L : Nat) (v w : DV) (S : Sto) : m_law_fields L [(.exn 27 [1, 3] [.str "UnknownMark", v])] S = .ok (.tup [v]) S := run_rt rfl (by kernel_rfl) rfl
theorem g0 (L : Nat) (v w : DV) (S : Sto) : m_law_fields L [(.exn 12 [1, 8, 7] [.str "Overlap", w, v])] S = .ok (.tup [v, w]) S := run_rt rfl (by kernel_rfl) rfl
theorem g1 (L : Nat) (v w : DV) (S : Sto) : m_law_fields L [(.exn 15 [1, 8, 7] [.str "InvalidChord", w, v])] S = .ok (.tup [v, w]) S := run_rt rfl (by kernel_rfl) rfl
theorem g2 (L : Nat) (v w : DV) (S : Sto) : m_law_fields L [(.exn 16 [1, 8, 7] [.str "NotJoined", w, v])] S = .ok (.tup [v, w]) S := run_rt rfl (by kernel_rfl) rfl
theorem el2 (L : Nat) (v w : DV) (e : DV) (x0 x1 x2 x3 x4 x5 x6 x7 x8 x9 : Option DV) (S : Sto) (he : m_law_fields L [e] S = .ok (.tup [v]) S) (hv : plain 6 v = true) : (gCall (m_law_same L 8) [] (gCons (gCall (m_law_fields L) [] (gCons (gBin ixD (gVar 10) (gC (.int 0))) gNil)) (gCons (gTup (gCons (gBin ixD (gVar 10) (gC (.int 1))) gNil)) gNil))) [x0, x1, x2, x3, x4, x5, x6, x7, x8, x9, some (.tup [e, v])] S = .ok (.bl true) S := by
  have h1 : ixD (.tup [e, v]) (.int 0) S = .ok e S := rfl
  have h2 : ixD (.tup [e, v]) (.int 1) S = .ok v S := rfl
  have h3 := same_plain L 7 (.tup [v]) (by unfold Dq.plain; simp [hv]) S
  simp [h1, h2, he, h3]
theorem rw2 (L : Nat) (v w : DV) (s : Sto) (hv : ∀ m, bel m v = true) : (gBin addD (gVar 2) (gLc (gVar 3) (tN 9) [9] gYes (gTup (gCons (gVar 9) (gCons (gVar 5) gNil))))) [some (.lst (l6_11 v w)), some (.lst (l5_12)), some (.lst (l2_5 v w)), some (.lst (l4_7 v w)), some (.lst (l3_6 v w)), some v, some w, none, none, none, none] s = .ok (.lst (l2_5 v w ++ [.tup [(.exn 25 [1, 3] [.str "UnknownTile", v]), v], .tup [(.exn 26 [1, 5] [.str "UnknownSide", v]), v], .tup [(.exn 27 [1, 3] [.str "UnknownMark", v]), v]])) s := by
  have e : (gLc (gVar 3) (tN 9) [9] gYes (gTup (gCons (gVar 9) (gCons (gVar 5) gNil)))) [some (.lst (l6_11 v w)), some (.lst (l5_12)), some (.lst (l2_5 v w)), some (.lst (l4_7 v w)), some (.lst (l3_6 v w)), some v, some w, none, none, none, none] s = .ok (.lst [.tup [(.exn 25 [1, 3] [.str "UnknownTile", v]), v], .tup [(.exn 26 [1, 5] [.str "UnknownSide", v]), v], .tup [(.exn 27 [1, 3] [.str "UnknownMark", v]), v]]) s := gLc_ok (xs := l4_7 v w) rfl rfl (lsz (by kernel_rfl)) (.cons ⟨_, rfl, fun S _ => rfl⟩ (.cons ⟨_, rfl, fun S _ => rfl⟩ (.cons ⟨_, rfl, fun S _ => rfl⟩ (.nil)))) (by simp [bels, bel, hv])
  exact bin2 rfl e (by kernel_rfl)
theorem u2 (L : Nat) (v w : DV) (s : Sto) (hv : ∀ m, bel m v = true) (hp : plain 6 v = true) : (gIfS (gNot (gT truD (gB allD (gCons (gLc (gBin addD (gVar 2) (gLc (gVar 3) (tN 9) [9] gYes (gTup (gCons (gVar 9) (gCons (gVar 5) gNil))))) (tN 10) [10] gYes (gCall (m_law_same L 8) [] (gCons (gCall (m_law_fields L) [] (gCons (gBin ixD (gVar 10) (gC (.int 0))) gNil)) (gCons (gTup (gCons (gBin ixD (gVar 10) (gC (.int 1))) gNil)) gNil)))) gNil))))
 (gRet (gC (.bl false)))
 gNext) [some (.lst (l6_11 v w)), some (.lst (l5_12)), some (.lst (l2_5 v w)), some (.lst (l4_7 v w)), some (.lst (l3_6 v w)), some v, some w, none, none, none, none] s = .nx [some (.lst (l6_11 v w)), some (.lst (l5_12)), some (.lst (l2_5 v w)), some (.lst (l4_7 v w)), some (.lst (l3_6 v w)), some v, some w, none, none, none, none] s := by
  refine nx_if (all1 (n := 21) ?_)
  refine gLc_ok (rw2 L v w s hv) rfl (lsz (by kernel_rfl)) (.cons ⟨_, rfl, fun S _ => el2 L v w _ _ _ _ _ _ _ _ _ _ _ S (f0 L v w S) hp⟩ (.cons ⟨_, rfl, fun S _ => el2 L v w _ _ _ _ _ _ _ _ _ _ _ S (f1 L v w S) hp⟩ (.cons ⟨_, rfl, fun S _ => el2 L v w _ _ _ _ _ _ _ _ _ _ _ S (f2 L v w S) hp⟩ (.cons ⟨_, rfl, fun S _ => el2 L v w _ _ _ _ _ _ _ _ _ _ _ S (f3 L v w S) hp⟩ (.cons ⟨_, rfl, fun S _ => el2 L v w _ _ _ _ _ _ _ _ _ _ _ S (f4 L v w S) hp⟩ (.cons ⟨_, rfl, fun S _ => el2 L v w _ _ _ _ _ _ _ _ _ _ _ S (f5 L v w S) hp⟩ (.cons ⟨_, rfl, fun S _ => el2 L v w _ _ _ _ _ _ _ _ _ _ _ S (f6 L v w S) hp⟩ (.cons ⟨_, rfl, fun S _ => el2 L v w _ _ _ _ _ _ _ _ _ _ _ S (f7 L v w S) hp⟩ (.cons ⟨_, rfl, fun S _ => el2 L v w _ _ _ _ _ _ _ _ _ _ _ S (f8 L v w S) hp⟩ (.cons ⟨_, rfl, fun S _ => el2 L v w _ _ _ _ _ _ _ _ _ _ _ S (f9 L v w S) hp⟩ (.cons ⟨_, rfl, fun S _ => el2 L v w _ _ _ _ _ _ _ _ _ _ _ S (f10 L v w S) hp⟩ (.cons ⟨_, rfl, fun S _ => el2 L v w _ _ _ _ _ _ _ _ _ _ _ S (f11 L v w S) hp⟩ (.cons ⟨_, rfl, fun S _ => el2 L v w _ _ _ _ _ _ _ _ _ _ _ S (f12 L v w S) hp⟩ (.cons ⟨_, rfl, fun S _ => el2 L v w _ _ _ _ _ _ _ _ _ _ _ S (f13 L v w S) hp⟩ (.cons ⟨_, rfl, fun S _ => el2 L v w _ _ _ _ _ _ _ _ _ _ _ S (f14 L v w S) hp⟩ (.cons ⟨_, rfl, fun S _ => el2 L v w _ _ _ _ _ _ _ _ _ _ _ S (f15 L v w S) hp⟩ (.cons ⟨_, rfl, fun S _ => el2 L v w _ _ _ _ _ _ _ _ _ _ _ S (f16 L v w S) hp⟩ (.cons ⟨_, rfl, fun S _ => el2 L v w _ _ _ _ _ _ _ _ _ _ _ S (f17 L v w S) hp⟩ (.cons ⟨_, rfl, fun S _ => el2 L v w _ _ _ _ _ _ _ _ _ _ _ S (f18 L v w S) hp⟩ (.cons ⟨_, rfl, fun S _ => el2 L v w _ _ _ _ _ _ _ _ _ _ _ S (f19 L v w S) hp⟩ (.cons ⟨_, rfl, fun S _ => el2 L v w _ _ _ _ _ _ _ _ _ _ _ S (f20 L v w S) hp⟩ (.nil)))))))))))))))))))))) (bels_rep rfl _)
theorem el3 (L : Nat) (v w : DV) (e : DV) (x0 x1 x2 x3 x4 x7 x8 x10 : Option DV) (S : Sto) (he : m_law_fields L [e] S = .ok (.tup [v, w]) S) (hv : plain 6 v = true) (hw : plain 6 w = true) : (gCall (m_law_same L 8) [] (gCons (gCall (m_law_fields L) [] (gCons (gVar 9) gNil)) (gCons (gTup (gCons (gVar 5) (gCons (gVar 6) gNil))) gNil))) [x0, x1, x2, x3, x4, some v, some w, x7, x8, some e, x10] S = .ok (.bl true) S := by
  have h3 := same_plain L 7 (.tup [v, w]) (by unfold Dq.plain; simp [hv, hw]) S
  simp [he, h3]
theorem u3 (L : Nat) (v w : DV) (s : Sto) (hv : plain 6 v = true) (hw : plain 6 w = true) : (gIfS (gNot (gT truD (gB allD (gCons (gLc (gVar 4) (tN 9) [9] gYes (gCall (m_law_same L 8) [] (gCons (gCall (m_law_fields L) [] (gCons (gVar 9) gNil)) (gCons (gTup (gCons (gVar 5) (gCons (gVar 6) gNil))) gNil)))) gNil))))
 (gRet (gC (.bl false)))
 gNext) [some (.lst (l6_11 v w)), some (.lst (l5_12)), some (.lst (l2_5 v w)), some (.lst (l4_7 v w)), some (.lst (l3_6 v w)), some v, some w, none, none, none, none] s = .nx [some (.lst (l6_11 v w)), some (.lst (l5_12)), some (.lst (l2_5 v w)), some (.lst (l4_7 v w)), some (.lst (l3_6 v w)), some v, some w, none, none, none, none] s := by
  refine nx_if (all1 (n := 3) ?_)
  refine gLc_ok (xs := l3_6 v w) rfl rfl (lsz (by kernel_rfl)) (.cons ⟨_, rfl, fun S _ => el3 L v w _ _ _ _ _ _ _ _ _ S (g0 L v w S) hv hw⟩ (.cons ⟨_, rfl, fun S _ => el3 L v w _ _ _ _ _ _ _ _ _ S (g1 L v w S) hv hw⟩ (.cons ⟨_, rfl, fun S _ => el3 L v w _ _ _ _ _ _ _ _ _ S (g2 L v w S) hv hw⟩ (.nil)))) (bels_rep rfl _)
def trA : DV := .lst [.bl true, .bl true, .bl false, .bl false, .bl false]
def trB : DV := .lst [.bl false, .bl false, .bl true, .bl true, .bl false]
def trC : DV := .lst [.bl false, .bl false, .bl false, .bl true, .bl true]
theorem u4 (L : Nat) (v w : DV) (s : Sto) : (gSet 7 (gLc (gVar 0) (tN 9) [9] gYes (gLst (gCons (gUn (isiX isi_GustError isx_GustError) (gVar 9)) (gCons (gUn (isiX isi_ValueError isx_ValueError) (gVar 9)) (gCons (gUn (isiX isi_Missing isx_Missing) (gVar 9)) (gCons (gUn (isiX isi_LookupError isx_LookupError) (gVar 9)) (gCons (gUn (isiX isi_IndexError isx_IndexError) (gVar 9)) gNil)))))))) [some (.lst (l6_11 v w)), some (.lst (l5_12)), some (.lst (l2_5 v w)), some (.lst (l4_7 v w)), some (.lst (l3_6 v w)), some v, some w, none, none, none, none] s = .nx [some (.lst (l6_11 v w)), some (.lst (l5_12)), some (.lst (l2_5 v w)), some (.lst (l4_7 v w)), some (.lst (l3_6 v w)), some v, some w, (some (.lst [trA, trA, trA, trA, trA, trA, trA, trA, trA, trA, trA, trA, trA, trA, trA, trA, trA, trA, trA, trA, trA, trA, trA, trB, trB, trB, trC])), none, none, none] s := by
  have e : (gLc (gVar 0) (tN 9) [9] gYes (gLst (gCons (gUn (isiX isi_GustError isx_GustError) (gVar 9)) (gCons (gUn (isiX isi_ValueError isx_ValueError) (gVar 9)) (gCons (gUn (isiX isi_Missing isx_Missing) (gVar 9)) (gCons (gUn (isiX isi_LookupError isx_LookupError) (gVar 9)) (gCons (gUn (isiX isi_IndexError isx_IndexError) (gVar 9)) gNil))))))) [some (.lst (l6_11 v w)), some (.lst (l5_12)), some (.lst (l2_5 v w)), some (.lst (l4_7 v w)), some (.lst (l3_6 v w)), some v, some w, none, none, none, none] s = .ok (.lst [trA, trA, trA, trA, trA, trA, trA, trA, trA, trA, trA, trA, trA, trA, trA, trA, trA, trA, trA, trA, trA, trA, trA, trB, trB, trB, trC]) s := gLc_ok (xs := l6_11 v w) rfl rfl (lsz (by kernel_rfl)) (.cons ⟨_, rfl, fun S _ => by kernel_rfl⟩ (.cons ⟨_, rfl, fun S _ => by kernel_rfl⟩ (.cons ⟨_, rfl, fun S _ => by kernel_rfl⟩ (.cons ⟨_, rfl, fun S _ => by kernel_rfl⟩ (.cons ⟨_, rfl, fun S _ => by kernel_rfl⟩ (.cons ⟨_, rfl, fun S _ => by kernel_rfl⟩ (.cons ⟨_, rfl, fun S _ => by kernel_rfl⟩ (.cons ⟨_, rfl, fun S _ => by kernel_rfl⟩ (.cons ⟨_, rfl, fun S _ => by kernel_rfl⟩ (.cons ⟨_, rfl, fun S _ => by kernel_rfl⟩ (.cons ⟨_, rfl, fun S _ => by kernel_rfl⟩ (.cons ⟨_, rfl, fun S _ => by kernel_rfl⟩ (.cons ⟨_, rfl, fun S _ => by kernel_rfl⟩ (.cons ⟨_, rfl, fun S _ => by kernel_rfl⟩ (.cons ⟨_, rfl, fun S _ => by kernel_rfl⟩ (.cons ⟨_, rfl, fun S _ => by kernel_rfl⟩ (.cons ⟨_, rfl, fun S _ => by kernel_rfl⟩ (.cons ⟨_, rfl, fun S _ => by kernel_rfl⟩ (.cons ⟨_, rfl, fun S _ => by kernel_rfl⟩ (.cons ⟨_, rfl, fun S _ => by kernel_rfl⟩ (.cons ⟨_, rfl, fun S _ => by kernel_rfl⟩ (.cons ⟨_, rfl, fun S _ => by kernel_rfl⟩ (.cons ⟨_, rfl, fun S _ => by kernel_rfl⟩ (.cons ⟨_, rfl, fun S _ => by kernel_rfl⟩ (.cons ⟨_, rfl, fun S _ => by kernel_rfl⟩ (.cons ⟨_, rfl, fun S _ => by kernel_rfl⟩ (.cons ⟨_, rfl, fun S _ => by kernel_rfl⟩ (.nil)))))))))))))))))))))))))))) rfl
  simp only [gSet]
  rw [e]
  rfl
theorem u5 (L : Nat) (v w : DV) (s : Sto) : (gSet 8 (gBin addD (gBin mulD (gLst (gCons (gLst (gCons (gC (.bl true)) (gCons (gC (.bl true)) (gCons (gC (.bl false)) (gCons (gC (.bl false)) (gCons (gC (.bl false)) gNil)))))) gNil)) (gC (.int 23))) (gBin mulD (gLst (gCons (gLst (gCons (gC (.bl false)) (gCons (gC (.bl false)) (gCons (gC (.bl true)) (gCons (gC (.bl true)) (gCons (gC (.bl false)) gNil)))))) gNil)) (gC (.int 3))))) [some (.lst (l6_11 v w)), some (.lst (l5_12)), some (.lst (l2_5 v w)), some (.lst (l4_7 v w)), some (.lst (l3_6 v w)), some v, some w, (some (.lst [trA, trA, trA, trA, trA, trA, trA, trA, trA, trA, trA, trA, trA, trA, trA, trA, trA, trA, trA, trA, trA, trA, trA, trB, trB, trB, trC])), none, none, none] s = .nx [some (.lst (l6_11 v w)), some (.lst (l5_12)), some (.lst (l2_5 v w)), some (.lst (l4_7 v w)), some (.lst (l3_6 v w)), some v, some w, (some (.lst [trA, trA, trA, trA, trA, trA, trA, trA, trA, trA, trA, trA, trA, trA, trA, trA, trA, trA, trA, trA, trA, trA, trA, trB, trB, trB, trC])), (some (.lst [trA, trA, trA, trA, trA, trA, trA, trA, trA, trA, trA, trA, trA, trA, trA, trA, trA, trA, trA, trA, trA, trA, trA, trB, trB, trB])), none, none] s := by kernel_rfl
def kvL : List DV := [.lst [.bl false, .bl false, .bl false, .bl false, .bl false, .bl false, .bl false],
 .lst [.bl false, .bl false, .bl false, .bl false, .bl true, .bl false, .bl false],
 .lst [.bl false, .bl false, .bl false, .bl false, .bl false, .bl false, .bl false],
 .lst [.bl false, .bl false, .bl false, .bl false, .bl false, .bl false, .bl false],
 .lst [.bl false, .bl false, .bl true, .bl false, .bl false, .bl false, .bl false],
 .lst [.bl false, .bl false, .bl false, .bl false, .bl false, .bl false, .bl false],
 .lst [.bl false, .bl false, .bl false, .bl false, .bl false, .bl false, .bl false],
 .lst [.bl false, .bl false, .bl false, .bl false, .bl false, .bl false, .bl false],
 .lst [.bl false, .bl true, .bl false, .bl false, .bl false, .bl false, .bl false],
 .lst [.bl false, .bl false, .bl false, .bl false, .bl false, .bl false, .bl false],
 .lst [.bl false, .bl false, .bl false, .bl false, .bl false, .bl false, .bl false],
 .lst [.bl false, .bl false, .bl false, .bl false, .bl false, .bl true, .bl false],
 .lst [.bl false, .bl false, .bl false, .bl false, .bl false, .bl false, .bl false],
 .lst [.bl true, .bl false, .bl false, .bl false, .bl false, .bl false, .bl false],
 .lst [.bl false, .bl false, .bl false, .bl false, .bl false, .bl false, .bl false],
 .lst [.bl false, .bl false, .bl false, .bl true, .bl false, .bl false, .bl false],
 .lst [.bl false, .bl false, .bl false, .bl false, .bl false, .bl false, .bl false],
 .lst [.bl false, .bl false, .bl false, .bl false, .bl false, .bl false, .bl false],
 .lst [.bl false, .bl false, .bl false, .bl false, .bl false, .bl false, .bl false],
 .lst [.bl false, .bl false, .bl false, .bl false, .bl false, .bl false, .bl false],
 .lst [.bl false, .bl false, .bl false, .bl false, .bl false, .bl false, .bl false],
 .lst [.bl false, .bl false, .bl false, .bl false, .bl false, .bl false, .bl false],
 .lst [.bl false, .bl false, .bl false, .bl false, .bl false, .bl false, .bl false],
 .lst [.bl false, .bl false, .bl false, .bl false, .bl false, .bl false, .bl false],
 .lst [.bl false, .bl false, .bl false, .bl false, .bl false, .bl false, .bl false],
 .lst [.bl false, .bl false, .bl false, .bl false, .bl false, .bl false, .bl true],
 .lst [.bl false, .bl false, .bl false, .bl false, .bl false, .bl false, .bl false]]
def mkL : List DV := [.str "TooMany", .str "InvalidName", .str "InvalidText", .str "InvalidPlace", .str "InvalidSpan", .str "InvalidWall", .str "UnknownMark"]
theorem k1 (L : Nat) (v w : DV) (s : Sto) : (gSet 2 (gLc (gVar 0) (tN 4) [4] gYes (gLst (gCons (gUn (isiX isi_TooMany isx_TooMany) (gVar 4)) (gCons (gUn (isiX isi_InvalidName isx_InvalidName) (gVar 4)) (gCons (gUn (isiX isi_InvalidText isx_InvalidText) (gVar 4)) (gCons (gUn (isiX isi_InvalidPlace isx_InvalidPlace) (gVar 4)) (gCons (gUn (isiX isi_InvalidSpan isx_InvalidSpan) (gVar 4)) (gCons (gUn (isiX isi_InvalidWall isx_InvalidWall) (gVar 4)) (gCons (gUn (isiX isi_UnknownMark isx_UnknownMark) (gVar 4)) gNil)))))))))) [some (.lst (l6_11 v w)), some (.lst (l5_12)), none, none, none, none, none] s = .nx [some (.lst (l6_11 v w)), some (.lst (l5_12)), some (.lst kvL), none, none, none, none] s := by
  have e : (gLc (gVar 0) (tN 4) [4] gYes (gLst (gCons (gUn (isiX isi_TooMany isx_TooMany) (gVar 4)) (gCons (gUn (isiX isi_InvalidName isx_InvalidName) (gVar 4)) (gCons (gUn (isiX isi_InvalidText isx_InvalidText) (gVar 4)) (gCons (gUn (isiX isi_InvalidPlace isx_InvalidPlace) (gVar 4)) (gCons (gUn (isiX isi_InvalidSpan isx_InvalidSpan) (gVar 4)) (gCons (gUn (isiX isi_InvalidWall isx_InvalidWall) (gVar 4)) (gCons (gUn (isiX isi_UnknownMark isx_UnknownMark) (gVar 4)) gNil))))))))) [some (.lst (l6_11 v w)), some (.lst (l5_12)), none, none, none, none, none] s = .ok (.lst kvL) s := gLc_ok (xs := l6_11 v w) rfl rfl (lsz (by kernel_rfl)) (.cons ⟨_, rfl, fun S _ => by kernel_rfl⟩ (.cons ⟨_, rfl, fun S _ => by kernel_rfl⟩ (.cons ⟨_, rfl, fun S _ => by kernel_rfl⟩ (.cons ⟨_, rfl, fun S _ => by kernel_rfl⟩ (.cons ⟨_, rfl, fun S _ => by kernel_rfl⟩ (.cons ⟨_, rfl, fun S _ => by kernel_rfl⟩ (.cons ⟨_, rfl, fun S _ => by kernel_rfl⟩ (.cons ⟨_, rfl, fun S _ => by kernel_rfl⟩ (.cons ⟨_, rfl, fun S _ => by kernel_rfl⟩ (.cons ⟨_, rfl, fun S _ => by kernel_rfl⟩ (.cons ⟨_, rfl, fun S _ => by kernel_rfl⟩ (.cons ⟨_, rfl, fun S _ => by kernel_rfl⟩ (.cons ⟨_, rfl, fun S _ => by kernel_rfl⟩ (.cons ⟨_, rfl, fun S _ => by kernel_rfl⟩ (.cons ⟨_, rfl, fun S _ => by kernel_rfl⟩ (.cons ⟨_, rfl, fun S _ => by kernel_rfl⟩ (.cons ⟨_, rfl, fun S _ => by kernel_rfl⟩ (.cons ⟨_, rfl, fun S _ => by kernel_rfl⟩ (.cons ⟨_, rfl, fun S _ => by kernel_rfl⟩ (.cons ⟨_, rfl, fun S _ => by kernel_rfl⟩ (.cons ⟨_, rfl, fun S _ => by kernel_rfl⟩ (.cons ⟨_, rfl, fun S _ => by kernel_rfl⟩ (.cons ⟨_, rfl, fun S _ => by kernel_rfl⟩ (.cons ⟨_, rfl, fun S _ => by kernel_rfl⟩ (.cons ⟨_, rfl, fun S _ => by kernel_rfl⟩ (.cons ⟨_, rfl, fun S _ => by kernel_rfl⟩ (.cons ⟨_, rfl, fun S _ => by kernel_rfl⟩ (.nil)))))))))))))))))))))))))))) rfl
  simp only [gSet]
  rw [e]
  rfl
theorem k2 (L : Nat) (v w : DV) (s : Sto) : (gSet 3 (gLst (gCons (gC (.str "TooMany")) (gCons (gC (.str "InvalidName")) (gCons (gC (.str "InvalidText")) (gCons (gC (.str "InvalidPlace")) (gCons (gC (.str "InvalidSpan")) (gCons (gC (.str "InvalidWall")) (gCons (gC (.str "UnknownMark")) gNil))))))))) [some (.lst (l6_11 v w)), some (.lst (l5_12)), some (.lst kvL), none, none, none, none] s = .nx [some (.lst (l6_11 v w)), some (.lst (l5_12)), some (.lst kvL), some (.lst mkL), none, none, none] s := by kernel_rfl
theorem k3a (L : Nat) (v w : DV) (s : Sto) : (gLc (gVar 1) (tN 5) [5] gYes (gLc (gVar 3) (tN 6) [6] gYes (gBin eqD (gVar 5) (gVar 6)))) [some (.lst (l6_11 v w)), some (.lst (l5_12)), some (.lst kvL), some (.lst mkL), none, none, none] s = .ok (.lst kvL) s := by
  refine gLc_ok (xs := l5_12) rfl rfl (lsz (by kernel_rfl)) (.cons ⟨_, rfl, fun S _ => gLc_ok (xs := mkL) rfl rfl (lsz (by kernel_rfl)) (.cons ⟨_, rfl, fun S _ => by kernel_rfl⟩ (.cons ⟨_, rfl, fun S _ => by kernel_rfl⟩ (.cons ⟨_, rfl, fun S _ => by kernel_rfl⟩ (.cons ⟨_, rfl, fun S _ => by kernel_rfl⟩ (.cons ⟨_, rfl, fun S _ => by kernel_rfl⟩ (.cons ⟨_, rfl, fun S _ => by kernel_rfl⟩ (.cons ⟨_, rfl, fun S _ => by kernel_rfl⟩ (.nil)))))))) rfl⟩ (.cons ⟨_, rfl, fun S _ => gLc_ok (xs := mkL) rfl rfl (lsz (by kernel_rfl)) (.cons ⟨_, rfl, fun S _ => by kernel_rfl⟩ (.cons ⟨_, rfl, fun S _ => by kernel_rfl⟩ (.cons ⟨_, rfl, fun S _ => by kernel_rfl⟩ (.cons ⟨_, rfl, fun S _ => by kernel_rfl⟩ (.cons ⟨_, rfl, fun S _ => by kernel_rfl⟩ (.cons ⟨_, rfl, fun S _ => by kernel_rfl⟩ (.cons ⟨_, rfl, fun S _ => by kernel_rfl⟩ (.nil)))))))) rfl⟩ (.cons ⟨_, rfl, fun S _ => gLc_ok (xs := mkL) rfl rfl (lsz (by kernel_rfl)) (.cons ⟨_, rfl, fun S _ => by kernel_rfl⟩ (.cons ⟨_, rfl, fun S _ => by kernel_rfl⟩ (.cons ⟨_, rfl, fun S _ => by kernel_rfl⟩ (.cons ⟨_, rfl, fun S _ => by kernel_rfl⟩ (.cons ⟨_, rfl, fun S _ => by kernel_rfl⟩ (.cons ⟨_, rfl, fun S _ => by kernel_rfl⟩ (.cons ⟨_, rfl, fun S _ => by kernel_rfl⟩ (.nil)))))))) rfl⟩ (.cons ⟨_, rfl, fun S _ => gLc_ok (xs := mkL) rfl rfl (lsz (by kernel_rfl)) (.cons ⟨_, rfl, fun S _ => by kernel_rfl⟩ (.cons ⟨_, rfl, fun S _ => by kernel_rfl⟩ (.cons ⟨_, rfl, fun S _ => by kernel_rfl⟩ (.cons ⟨_, rfl, fun S _ => by kernel_rfl⟩ (.cons ⟨_, rfl, fun S _ => by kernel_rfl⟩ (.cons ⟨_, rfl, fun S _ => by kernel_rfl⟩ (.cons ⟨_, rfl, fun S _ => by kernel_rfl⟩ (.nil)))))))) rfl⟩ (.cons ⟨_, rfl, fun S _ => gLc_ok (xs := mkL) rfl rfl (lsz (by kernel_rfl)) (.cons ⟨_, rfl, fun S _ => by kernel_rfl⟩ (.cons ⟨_, rfl, fun S _ => by kernel_rfl⟩ (.cons ⟨_, rfl, fun S _ => by kernel_rfl⟩ (.cons ⟨_, rfl, fun S _ => by kernel_rfl⟩ (.cons ⟨_, rfl, fun S _ => by kernel_rfl⟩ (.cons ⟨_, rfl, fun S _ => by kernel_rfl⟩ (.cons ⟨_, rfl, fun S _ => by kernel_rfl⟩ (.nil)))))))) rfl⟩ (.cons ⟨_, rfl, fun S _ => gLc_ok (xs := mkL) rfl rfl (lsz (by kernel_rfl)) (.cons ⟨_, rfl, fun S _ => by kernel_rfl⟩ (.cons ⟨_, rfl, fun S _ => by kernel_rfl⟩ (.cons ⟨_, rfl, fun S _ => by kernel_rfl⟩ (.cons ⟨_, rfl, fun S _ => by kernel_rfl⟩ (.cons ⟨_, rfl, fun S _ => by kernel_rfl⟩ (.cons ⟨_, rfl, fun S _ => by kernel_rfl⟩ (.cons ⟨_, rfl, fun S _ => by kernel_rfl⟩ (.nil)))))))) rfl⟩ (.cons ⟨_, rfl, fun S _ => gLc_ok (xs := mkL) rfl rfl (lsz (by kernel_rfl)) (.cons ⟨_, rfl, fun S _ => by kernel_rfl⟩ (.cons ⟨_, rfl, fun S _ => by kernel_rfl⟩ (.cons ⟨_, rfl, fun S _ => by kernel_rfl⟩ (.cons ⟨_, rfl, fun S _ => by kernel_rfl⟩ (.cons ⟨_, rfl, fun S _ => by kernel_rfl⟩ (.cons ⟨_, rfl, fun S _ => by kernel_rfl⟩ (.cons ⟨_, rfl, fun S _ => by kernel_rfl⟩ (.nil)))))))) rfl⟩ (.cons ⟨_, rfl, fun S _ => gLc_ok (xs := mkL) rfl rfl (lsz (by kernel_rfl)) (.cons ⟨_, rfl, fun S _ => by kernel_rfl⟩ (.cons ⟨_, rfl, fun S _ => by kernel_rfl⟩ (.cons ⟨_, rfl, fun S _ => by kernel_rfl⟩ (.cons ⟨_, rfl, fun S _ => by kernel_rfl⟩ (.cons ⟨_, rfl, fun S _ => by kernel_rfl⟩ (.cons ⟨_, rfl, fun S _ => by kernel_rfl⟩ (.cons ⟨_, rfl, fun S _ => by kernel_rfl⟩ (.nil)))))))) rfl⟩ (.cons ⟨_, rfl, fun S _ => gLc_ok (xs := mkL) rfl rfl (lsz (by kernel_rfl)) (.cons ⟨_, rfl, fun S _ => by kernel_rfl⟩ (.cons ⟨_, rfl, fun S _ => by kernel_rfl⟩ (.cons ⟨_, rfl, fun S _ => by kernel_rfl⟩ (.cons ⟨_, rfl, fun S _ => by kernel_rfl⟩ (.cons ⟨_, rfl, fun S _ => by kernel_rfl⟩ (.cons ⟨_, rfl, fun S _ => by kernel_rfl⟩ (.cons ⟨_, rfl, fun S _ => by kernel_rfl⟩ (.nil)))))))) rfl⟩ (.cons ⟨_, rfl, fun S _ => gLc_ok (xs := mkL) rfl rfl (lsz (by kernel_rfl)) (.cons ⟨_, rfl, fun S _ => by kernel_rfl⟩ (.cons ⟨_, rfl, fun S _ => by kernel_rfl⟩ (.cons ⟨_, rfl, fun S _ => by kernel_rfl⟩ (.cons ⟨_, rfl, fun S _ => by kernel_rfl⟩ (.cons ⟨_, rfl, fun S _ => by kernel_rfl⟩ (.cons ⟨_, rfl, fun S _ => by kernel_rfl⟩ (.cons ⟨_, rfl, fun S _ => by kernel_rfl⟩ (.nil)))))))) rfl⟩ (.cons ⟨_, rfl, fun S _ => gLc_ok (xs := mkL) rfl rfl (lsz (by kernel_rfl)) (.cons ⟨_, rfl, fun S _ => by kernel_rfl⟩ (.cons ⟨_, rfl, fun S _ => by kernel_rfl⟩ (.cons ⟨_, rfl, fun S _ => by kernel_rfl⟩ (.cons ⟨_, rfl, fun S _ => by kernel_rfl⟩ (.cons ⟨_, rfl, fun S _ => by kernel_rfl⟩ (.cons ⟨_, rfl, fun S _ => by kernel_rfl⟩ (.cons ⟨_, rfl, fun S _ => by kernel_rfl⟩ (.nil)))))))) rfl⟩ (.cons ⟨_, rfl, fun S _ => gLc_ok (xs := mkL) rfl rfl (lsz (by kernel_rfl)) (.cons ⟨_, rfl, fun S _ => by kernel_rfl⟩ (.cons ⟨_, rfl, fun S _ => by kernel_rfl⟩ (.cons ⟨_, rfl, fun S _ => by kernel_rfl⟩ (.cons ⟨_, rfl, fun S _ => by kernel_rfl⟩ (.cons ⟨_, rfl, fun S _ => by kernel_rfl⟩ (.cons ⟨_, rfl, fun S _ => by kernel_rfl⟩ (.cons ⟨_, rfl, fun S _ => by kernel_rfl⟩ (.nil)))))))) rfl⟩ (.cons ⟨_, rfl, fun S _ => gLc_ok (xs := mkL) rfl rfl (lsz (by kernel_rfl)) (.cons ⟨_, rfl, fun S _ => by kernel_rfl⟩ (.cons ⟨_, rfl, fun S _ => by kernel_rfl⟩ (.cons ⟨_, rfl, fun S _ => by kernel_rfl⟩ (.cons ⟨_, rfl, fun S _ => by kernel_rfl⟩ (.cons ⟨_, rfl, fun S _ => by kernel_rfl⟩ (.cons ⟨_, rfl, fun S _ => by kernel_rfl⟩ (.cons ⟨_, rfl, fun S _ => by kernel_rfl⟩ (.nil)))))))) rfl⟩ (.cons ⟨_, rfl, fun S _ => gLc_ok (xs := mkL) rfl rfl (lsz (by kernel_rfl)) (.cons ⟨_, rfl, fun S _ => by kernel_rfl⟩ (.cons ⟨_, rfl, fun S _ => by kernel_rfl⟩ (.cons ⟨_, rfl, fun S _ => by kernel_rfl⟩ (.cons ⟨_, rfl, fun S _ => by kernel_rfl⟩ (.cons ⟨_, rfl, fun S _ => by kernel_rfl⟩ (.cons ⟨_, rfl, fun S _ => by kernel_rfl⟩ (.cons ⟨_, rfl, fun S _ => by kernel_rfl⟩ (.nil)))))))) rfl⟩ (.cons ⟨_, rfl, fun S _ => gLc_ok (xs := mkL) rfl rfl (lsz (by kernel_rfl)) (.cons ⟨_, rfl, fun S _ => by kernel_rfl⟩ (.cons ⟨_, rfl, fun S _ => by kernel_rfl⟩ (.cons ⟨_, rfl, fun S _ => by kernel_rfl⟩ (.cons ⟨_, rfl, fun S _ => by kernel_rfl⟩ (.cons ⟨_, rfl, fun S _ => by kernel_rfl⟩ (.cons ⟨_, rfl, fun S _ => by kernel_rfl⟩ (.cons ⟨_, rfl, fun S _ => by kernel_rfl⟩ (.nil)))))))) rfl⟩ (.cons ⟨_, rfl, fun S _ => gLc_ok (xs := mkL) rfl rfl (lsz (by kernel_rfl)) (.cons ⟨_, rfl, fun S _ => by kernel_rfl⟩ (.cons ⟨_, rfl, fun S _ => by kernel_rfl⟩ (.cons ⟨_, rfl, fun S _ => by kernel_rfl⟩ (.cons ⟨_, rfl, fun S _ => by kernel_rfl⟩ (.cons ⟨_, rfl, fun S _ => by kernel_rfl⟩ (.cons ⟨_, rfl, fun S _ => by kernel_rfl⟩ (.cons ⟨_, rfl, fun S _ => by kernel_rfl⟩ (.nil)))))))) rfl⟩ (.cons ⟨_, rfl, fun S _ => gLc_ok (xs := mkL) rfl rfl (lsz (by kernel_rfl)) (.cons ⟨_, rfl, fun S _ => by kernel_rfl⟩ (.cons ⟨_, rfl, fun S _ => by kernel_rfl⟩ (.cons ⟨_, rfl, fun S _ => by kernel_rfl⟩ (.cons ⟨_, rfl, fun S _ => by kernel_rfl⟩ (.cons ⟨_, rfl, fun S _ => by kernel_rfl⟩ (.cons ⟨_, rfl, fun S _ => by kernel_rfl⟩ (.cons ⟨_, rfl, fun S _ => by kernel_rfl⟩ (.nil)))))))) rfl⟩ (.cons ⟨_, rfl, fun S _ => gLc_ok (xs := mkL) rfl rfl (lsz (by kernel_rfl)) (.cons ⟨_, rfl, fun S _ => by kernel_rfl⟩ (.cons ⟨_, rfl, fun S _ => by kernel_rfl⟩ (.cons ⟨_, rfl, fun S _ => by kernel_rfl⟩ (.cons ⟨_, rfl, fun S _ => by kernel_rfl⟩ (.cons ⟨_, rfl, fun S _ => by kernel_rfl⟩ (.cons ⟨_, rfl, fun S _ => by kernel_rfl⟩ (.cons ⟨_, rfl, fun S _ => by kernel_rfl⟩ (.nil)))))))) rfl⟩ (.cons ⟨_, rfl, fun S _ => gLc_ok (xs := mkL) rfl rfl (lsz (by kernel_rfl)) (.cons ⟨_, rfl, fun S _ => by kernel_rfl⟩ (.cons ⟨_, rfl, fun S _ => by kernel_rfl⟩ (.cons ⟨_, rfl, fun S _ => by kernel_rfl⟩ (.cons ⟨_, rfl, fun S _ => by kernel_rfl⟩ (.cons ⟨_, rfl, fun S _ => by kernel_rfl⟩ (.cons ⟨_, rfl, fun S _ => by kernel_rfl⟩ (.cons ⟨_, rfl, fun S _ => by kernel_rfl⟩ (.nil)))))))) rfl⟩ (.cons ⟨_, rfl, fun S _ => gLc_ok (xs := mkL) rfl rfl (lsz (by kernel_rfl)) (.cons ⟨_, rfl, fun S _ => by kernel_rfl⟩ (.cons ⟨_, rfl, fun S _ => by kernel_rfl⟩ (.cons ⟨_, rfl, fun S _ => by kernel_rfl⟩ (.cons ⟨_, rfl, fun S _ => by kernel_rfl⟩ (.cons ⟨_, rfl, fun S _ => by kernel_rfl⟩ (.cons ⟨_, rfl, fun S _ => by kernel_rfl⟩ (.cons ⟨_, rfl, fun S _ => by kernel_rfl⟩ (.nil)))))))) rfl⟩ (.cons ⟨_, rfl, fun S _ => gLc_ok (xs := mkL) rfl rfl (lsz (by kernel_rfl)) (.cons ⟨_, rfl, fun S _ => by kernel_rfl⟩ (.cons ⟨_, rfl, fun S _ => by kernel_rfl⟩ (.cons ⟨_, rfl, fun S _ => by kernel_rfl⟩ (.cons ⟨_, rfl, fun S _ => by kernel_rfl⟩ (.cons ⟨_, rfl, fun S _ => by kernel_rfl⟩ (.cons ⟨_, rfl, fun S _ => by kernel_rfl⟩ (.cons ⟨_, rfl, fun S _ => by kernel_rfl⟩ (.nil)))))))) rfl⟩ (.cons ⟨_, rfl, fun S _ => gLc_ok (xs := mkL) rfl rfl (lsz (by kernel_rfl)) (.cons ⟨_, rfl, fun S _ => by kernel_rfl⟩ (.cons ⟨_, rfl, fun S _ => by kernel_rfl⟩ (.cons ⟨_, rfl, fun S _ => by kernel_rfl⟩ (.cons ⟨_, rfl, fun S _ => by kernel_rfl⟩ (.cons ⟨_, rfl, fun S _ => by kernel_rfl⟩ (.cons ⟨_, rfl, fun S _ => by kernel_rfl⟩ (.cons ⟨_, rfl, fun S _ => by kernel_rfl⟩ (.nil)))))))) rfl⟩ (.cons ⟨_, rfl, fun S _ => gLc_ok (xs := mkL) rfl rfl (lsz (by kernel_rfl)) (.cons ⟨_, rfl, fun S _ => by kernel_rfl⟩ (.cons ⟨_, rfl, fun S _ => by kernel_rfl⟩ (.cons ⟨_, rfl, fun S _ => by kernel_rfl⟩ (.cons ⟨_, rfl, fun S _ => by kernel_rfl⟩ (.cons ⟨_, rfl, fun S _ => by kernel_rfl⟩ (.cons ⟨_, rfl, fun S _ => by kernel_rfl⟩ (.cons ⟨_, rfl, fun S _ => by kernel_rfl⟩ (.nil)))))))) rfl⟩ (.cons ⟨_, rfl, fun S _ => gLc_ok (xs := mkL) rfl rfl (lsz (by kernel_rfl)) (.cons ⟨_, rfl, fun S _ => by kernel_rfl⟩ (.cons ⟨_, rfl, fun S _ => by kernel_rfl⟩ (.cons ⟨_, rfl, fun S _ => by kernel_rfl⟩ (.cons ⟨_, rfl, fun S _ => by kernel_rfl⟩ (.cons ⟨_, rfl, fun S _ => by kernel_rfl⟩ (.cons ⟨_, rfl, fun S _ => by kernel_rfl⟩ (.cons ⟨_, rfl, fun S _ => by kernel_rfl⟩ (.nil)))))))) rfl⟩ (.cons ⟨_, rfl, fun S _ => gLc_ok (xs := mkL) rfl rfl (lsz (by kernel_rfl)) (.cons ⟨_, rfl, fun S _ => by kernel_rfl⟩ (.cons ⟨_, rfl, fun S _ => by kernel_rfl⟩ (.cons ⟨_, rfl, fun S _ => by kernel_rfl⟩ (.cons ⟨_, rfl, fun S _ => by kernel_rfl⟩ (.cons ⟨_, rfl, fun S _ => by kernel_rfl⟩ (.cons ⟨_, rfl, fun S _ => by kernel_rfl⟩ (.cons ⟨_, rfl, fun S _ => by kernel_rfl⟩ (.nil)))))))) rfl⟩ (.cons ⟨_, rfl, fun S _ => gLc_ok (xs := mkL) rfl rfl (lsz (by kernel_rfl)) (.cons ⟨_, rfl, fun S _ => by kernel_rfl⟩ (.cons ⟨_, rfl, fun S _ => by kernel_rfl⟩ (.cons ⟨_, rfl, fun S _ => by kernel_rfl⟩ (.cons ⟨_, rfl, fun S _ => by kernel_rfl⟩ (.cons ⟨_, rfl, fun S _ => by kernel_rfl⟩ (.cons ⟨_, rfl, fun S _ => by kernel_rfl⟩ (.cons ⟨_, rfl, fun S _ => by kernel_rfl⟩ (.nil)))))))) rfl⟩ (.cons ⟨_, rfl, fun S _ => gLc_ok (xs := mkL) rfl rfl (lsz (by kernel_rfl)) (.cons ⟨_, rfl, fun S _ => by kernel_rfl⟩ (.cons ⟨_, rfl, fun S _ => by kernel_rfl⟩ (.cons ⟨_, rfl, fun S _ => by kernel_rfl⟩ (.cons ⟨_, rfl, fun S _ => by kernel_rfl⟩ (.cons ⟨_, rfl, fun S _ => by kernel_rfl⟩ (.cons ⟨_, rfl, fun S _ => by kernel_rfl⟩ (.cons ⟨_, rfl, fun S _ => by kernel_rfl⟩ (.nil)))))))) rfl⟩ (.nil)))))))))))))))))))))))))))) rfl
theorem k3 (L : Nat) (v w : DV) (s : Sto) : (gRet (gBin eqD (gVar 2) (gLc (gVar 1) (tN 5) [5] gYes (gLc (gVar 3) (tN 6) [6] gYes (gBin eqD (gVar 5) (gVar 6)))))) [some (.lst (l6_11 v w)), some (.lst (l5_12)), some (.lst kvL), some (.lst mkL), none, none, none] s = .rt (.bl true) s := by
  exact ret1 (bin2 rfl (k3a L v w s) (by kernel_rfl))
theorem kinds (L : Nat) (v w : DV) (s : Sto) : m_law_kinds_apart L [.lst (l6_11 v w), .lst (l5_12)] s = .ok (.bl true) s := by
  refine run_rt rfl ?_ rfl
  refine (seq_nx (k1 L v w s)).trans ?_
  refine (seq_nx (k2 L v w s)).trans ?_
  exact k3 L v w s
theorem u6 (L : Nat) (v w : DV) (s : Sto) : (gRet (gAndV (gBin eqD (gVar 7) (gBin addD (gVar 8) (gLst (gCons (gLst (gCons (gC (.bl false)) (gCons (gC (.bl false)) (gCons (gC (.bl false)) (gCons (gC (.bl true)) (gCons (gC (.bl true)) gNil)))))) gNil)))) (gCall (m_law_kinds_apart L) [] (gCons (gVar 0) (gCons (gVar 1) gNil))))) [some (.lst (l6_11 v w)), some (.lst (l5_12)), some (.lst (l2_5 v w)), some (.lst (l4_7 v w)), some (.lst (l3_6 v w)), some v, some w, (some (.lst [trA, trA, trA, trA, trA, trA, trA, trA, trA, trA, trA, trA, trA, trA, trA, trA, trA, trA, trA, trA, trA, trA, trA, trB, trB, trB, trC])), (some (.lst [trA, trA, trA, trA, trA, trA, trA, trA, trA, trA, trA, trA, trA, trA, trA, trA, trA, trA, trA, trA, trA, trA, trA, trB, trB, trB])), none, none] s = .rt (.bl true) s := by
  have e := kinds L v w s
  have e2 : eqD (.lst [trA, trA, trA, trA, trA, trA, trA, trA, trA, trA, trA, trA, trA, trA, trA, trA, trA, trA, trA, trA, trA, trA, trA, trB, trB, trB, trC]) (.lst [trA, trA, trA, trA, trA, trA, trA, trA, trA, trA, trA, trA, trA, trA, trA, trA, trA, trA, trA, trA, trA, trA, trA, trB, trB, trB, trC]) s = .ok (.bl true) s := by kernel_rfl
  have e3 : gBin addD (gVar 8) (gLst (gCons (gLst (gCons (gC (.bl false)) (gCons (gC (.bl false)) (gCons (gC (.bl false)) (gCons (gC (.bl true)) (gCons (gC (.bl true)) gNil)))))) gNil)) [some (.lst (l6_11 v w)), some (.lst (l5_12)), some (.lst (l2_5 v w)), some (.lst (l4_7 v w)), some (.lst (l3_6 v w)), some v, some w, (some (.lst [trA, trA, trA, trA, trA, trA, trA, trA, trA, trA, trA, trA, trA, trA, trA, trA, trA, trA, trA, trA, trA, trA, trA, trB, trB, trB, trC])), (some (.lst [trA, trA, trA, trA, trA, trA, trA, trA, trA, trA, trA, trA, trA, trA, trA, trA, trA, trA, trA, trA, trA, trA, trA, trB, trB, trB])), none, none] s = .ok (.lst [trA, trA, trA, trA, trA, trA, trA, trA, trA, trA, trA, trA, trA, trA, trA, trA, trA, trA, trA, trA, trA, trA, trA, trB, trB, trB, trC]) s := by kernel_rfl
  exact ret1 (and2 (bin2 rfl e3 e2) (call2 rfl rfl |>.trans e))
theorem ok_so (L : Nat) (v w : DV) (s : Sto) (hv : ∀ m, bel m v = true) (hp : plain 6 v = true) (hw : plain 6 w = true) : m_law_errors_so L [.lst (l6_11 v w), .lst (l5_12), .lst (l2_5 v w), .lst (l4_7 v w), .lst (l3_6 v w), v, w] s = .ok (.bl true) s := by
  refine run_rt rfl ?_ rfl
  refine (seq_nx (u1 L v w s)).trans ?_
  refine (seq_nx (u2 L v w s hv hp)).trans ?_
  refine (seq_nx (u3 L v w s hp hw)).trans ?_
  refine (seq_nx (u4 L v w s)).trans ?_
  refine (seq_nx (u5 L v w s)).trans ?_
  exact u6 L v w s
end Row

namespace Row
open PySem PySem.Spec PyProof.Rows L2 Dq
@[simp] theorem sz5 : (5 : Nat) ≤ sizeLine := by decide
abbrev bag (c : List DV) (i r sd ct : Int) : Sto := [some (.lst [.lst c, .int i, .int r, .int sd, .int ct])]
structure BagV (k : Nat) (c : List DV) (i r sd ct : Int) : Prop where
  c : ∃ ns : List Int, c = ns.map DV.int
  i0 : 0 ≤ i
  r0 : 0 ≤ r
  s0 : 0 ≤ sd
  s1 : sd < 2147483648
  t0 : 0 ≤ ct
  t1 : ct ≤ k
def BagOk (k : Nat) (s : Sto) : Prop := ∃ c i r sd ct, s = bag c i r sd ct ∧ BagV k c i r sd ct
theorem BagOk.mono {k j : Nat} {s : Sto} (h : BagOk k s) (l : k ≤ j) : BagOk j s := by
  obtain ⟨c, i, r, sd, ct, e, v⟩ := h
  exact ⟨c, i, r, sd, ct, e, ⟨v.c, v.i0, v.r0, v.s0, v.s1, v.t0, by have := v.t1; omega⟩⟩
section
variable (a b c d e : DV)
@[simp] theorem bx0 : ixD (.mr 0) (.int 0) [some (.lst [a, b, c, d, e])] = .ok a [some (.lst [a, b, c, d, e])] := rfl
@[simp] theorem bx1 : ixD (.mr 0) (.int 1) [some (.lst [a, b, c, d, e])] = .ok b [some (.lst [a, b, c, d, e])] := rfl
@[simp] theorem bx2 : ixD (.mr 0) (.int 2) [some (.lst [a, b, c, d, e])] = .ok c [some (.lst [a, b, c, d, e])] := rfl
@[simp] theorem bx3 : ixD (.mr 0) (.int 3) [some (.lst [a, b, c, d, e])] = .ok d [some (.lst [a, b, c, d, e])] := rfl
@[simp] theorem bx4 : ixD (.mr 0) (.int 4) [some (.lst [a, b, c, d, e])] = .ok e [some (.lst [a, b, c, d, e])] := rfl
variable (x : DV)
@[simp] theorem bs1 : setD (.mr 0) (.int 1) x [some (.lst [a, b, c, d, e])] = some [some (.lst [a, x, c, d, e])] := rfl
@[simp] theorem bs2 : setD (.mr 0) (.int 2) x [some (.lst [a, b, c, d, e])] = some [some (.lst [a, b, x, d, e])] := rfl
@[simp] theorem bs3 : setD (.mr 0) (.int 3) x [some (.lst [a, b, c, d, e])] = some [some (.lst [a, b, c, x, e])] := rfl
@[simp] theorem bs4 : setD (.mr 0) (.int 4) x [some (.lst [a, b, c, d, e])] = some [some (.lst [a, b, c, d, x])] := rfl
end
@[simp] theorem lenD_lst (xs : List DV) (s : Sto) : lenD [.lst xs] s = .ok (.int xs.length) s := rfl
theorem fmod_pos {a b : Int} (h : 0 < b) : a.fmod b = a % b := Int.fmod_eq_emod_of_nonneg a (Int.le_of_lt h)
theorem fdiv_pos {a b : Int} (h : 0 < b) : a.fdiv b = a / b := Int.fdiv_eq_ediv_of_nonneg a (Int.le_of_lt h)
theorem Sm.n {x : Int} (h : x.natAbs < 2 ^ 64) : Sm x := Sm.of h
@[simp] theorem pow18 (s : Sto) : powD (.int 10) (.int 18) s = .ok (.int 1000000000000000000) s := rfl
/-- the first part of a pull -/
abbrev pull1 : GS := (gIfS (gAnd (gT truB (gBin eqD (gBin ixD (gVar 0) (gC (.int 2))) (gC (.int 0)))) (gT truB (gBin ltD (gBin ixD (gVar 0) (gC (.int 1))) (gB lenD (gCons (gBin ixD (gVar 0) (gC (.int 0))) gNil)))))
 (gSeq (gSet 3 (gBin ixD (gBin ixD (gVar 0) (gC (.int 0))) (gBin ixD (gVar 0) (gC (.int 1)))))
 (gSeq (gSetI (gBin addD (gBin ixD (gVar 0) (gC (.int 1))) (gC (.int 1))) (gVar 0) (gC (.int 1)))
 (gIfS (gT truB (gBin geD (gVar 3) (gBin powD (gC (.int 10)) (gC (.int 18)))))
 (gSetI (gVar 3) (gVar 0) (gC (.int 2)))
 (gSetI (gBin modD (gB intD (gCons (gBin addD (gBin addD (gBin mulD (gBin ixD (gVar 0) (gC (.int 3))) (gC (.int 40237))) (gBin mulD (gBin modD (gB intD (gCons (gVar 3) gNil)) (gC (.int 2147483489))) (gC (.int 6581)))) (gC (.int 37))) gNil)) (gC (.int 2147483629))) (gVar 0) (gC (.int 3))))))
 gNext)
theorem ev_pull1 (k : Nat) (m : DV) (s : Sto) (h : BagOk k s) : ∃ x3 s', pull1 [some (.mr 0), some m, none, none, none] s = .nx [some (.mr 0), some m, none, x3, none] s' ∧ BagOk k s' := by
  obtain ⟨c, i, r, sd, ct, rfl, v⟩ := h
  obtain ⟨ns, rfl⟩ := v.c
  by_cases q : r = 0
  · by_cases q2 : i < ns.length
    · have hl : i.toNat < ns.length := by have := v.i0; omega
      have e1 : ∀ s, ixD (.lst (ns.map DV.int)) (.int i) s = .ok (.int ns[i.toNat]) s := fun s => ixD_seq (xs := ns.map DV.int) rfl (fun z h => nomatch h) v.i0 (by simp [hl])
      generalize ns[i.toNat] = cell at e1
      by_cases q3 : 1000000000000000000 ≤ cell
      · refine ⟨some (.int cell), bag (ns.map DV.int) (i + 1) cell sd ct, ?_, _, _, _, _, _, rfl, ⟨ns, rfl⟩, by have := v.i0; omega, by omega, v.s0, v.s1, v.t0, v.t1⟩
        simp only [pull1, bag]
        simp [q, q2, eqD_int, e1, q3]
      · have m1 : ∀ s, modD (.int cell) (.int 2147483489) s = .ok (.int (cell % 2147483489)) s := fun s => by rw [modD_of (by decide), fmod_pos (by decide)]
        have m2 : ∀ x s, modD (.int x) (.int 2147483629) s = .ok (.int (x % 2147483629)) s := fun x s => by rw [modD_of (by decide), fmod_pos (by decide)]
        have a1 : ∀ s, mulD (.int sd) (.int 40237) s = .ok (.int (sd * 40237)) s := mulD_of (Sm.n (by have := v.s0; have := v.s1; omega)) (Sm.n (by decide))
        have a2 : ∀ s, mulD (.int (cell % 2147483489)) (.int 6581) s = .ok (.int (cell % 2147483489 * 6581)) s := mulD_of (Sm.n (by omega)) (Sm.n (by decide))
        refine ⟨some (.int cell), bag (ns.map DV.int) (i + 1) r ((sd * 40237 + cell % 2147483489 * 6581 + 37) % 2147483629) ct, ?_, _, _, _, _, _, rfl, ⟨ns, rfl⟩, by have := v.i0; omega, v.r0, by omega, by omega, v.t0, v.t1⟩
        simp only [pull1, bag]
        simp [q, q2, eqD_int, e1, q3, m1, m2, a1, a2]
    · refine ⟨none, bag (ns.map DV.int) i r sd ct, ?_, _, _, _, _, _, rfl, v⟩
      simp only [pull1, bag]
      simp [q, q2, eqD_int]
  · refine ⟨none, bag (ns.map DV.int) i r sd ct, ?_, _, _, _, _, _, rfl, v⟩
    simp only [pull1, bag]
    simp [q, eqD_int]
theorem ev_pull (L k : Nat) (m : Int) (s : Sto) (h : BagOk k s) (hm : 0 < m) (sm : Sm m) (hk : k < 2 ^ 60) : ∃ v s', m_law_pull L [.mr 0, .int m] s = .ok (.int v) s' ∧ 0 ≤ v ∧ v < m ∧ BagOk (k + 1) s' := by
  obtain ⟨x3, s1, e, h1⟩ := ev_pull1 k (.int m) s h
  have hlen : s.length = 1 := by obtain ⟨c, i, r, sd, ct, rfl, _⟩ := h; rfl
  obtain ⟨c, i, r, sd, ct, rfl, v⟩ := h1
  have m1 : ∀ x s, modD (.int x) (.int m) s = .ok (.int (x % m)) s := fun x s => by rw [modD_of (by omega), fmod_pos hm]
  have d1 : ∀ x s, fdivD (.int x) (.int m) s = .ok (.int (x / m)) s := fun x s => by rw [fdivD_of (by omega) sm, fdiv_pos hm]
  have hb : ∀ x : Int, 0 ≤ x % m ∧ x % m < m := fun x => ⟨Int.emod_nonneg _ (by omega), Int.emod_lt_of_pos _ hm⟩
  by_cases q : 0 < r
  · refine ⟨r % m, bag c i (r / m) sd ct, ?_, (hb r).1, (hb r).2, _, _, _, _, _, rfl, ⟨v.c, v.i0, Int.ediv_nonneg v.r0 (Int.le_of_lt hm), v.s0, v.s1, v.t0, by have := v.t1; omega⟩⟩
    simp only [m_law_pull, Dq.run, b_law_pull]
    rw [gSeq]
    simp [-gSeq, -gIfS]
    refine Eq.trans (congrArg (fun r => RS.fin s (RS.seq r _)) e) ?_
    simp [bag, q, m1, d1, hlen]
  · have m2 : ∀ x s, modD (.int x) (.int 2147483579) s = .ok (.int (x % 2147483579)) s := fun x s => by rw [modD_of (by decide), fmod_pos (by decide)]
    have m3 : ∀ x s, modD (.int x) (.int 8059) s = .ok (.int (x % 8059)) s := fun x s => by rw [modD_of (by decide), fmod_pos (by decide)]
    have d2 : ∀ x s, fdivD (.int x) (.int 61) s = .ok (.int (x / 61)) s := fun x s => by rw [fdivD_of (by decide) (Sm.n (by decide)), fdiv_pos (by decide)]
    have ssd : Sm sd := Sm.n (by have := v.s0; have := v.s1; omega)
    have a1 : ∀ s, mulD (.int sd) (.int sd) s = .ok (.int (sd * sd)) s := mulD_of ssd ssd
    have a2 : ∀ s, mulD (.int sd) (.int 28657) s = .ok (.int (sd * 28657)) s := mulD_of ssd (Sm.n (by decide))
    have a3 : ∀ s, mulD (.int (ct + 1)) (.int 1300367) s = .ok (.int ((ct + 1) * 1300367)) s := mulD_of (Sm.n (by have := v.t0; have := v.t1; omega)) (Sm.n (by decide))
    have a4 : ∀ x s, mulD (.int (x % 8059)) (.int 47) s = .ok (.int (x % 8059 * 47)) s := fun x => mulD_of (Sm.n (by omega)) (Sm.n (by decide))
    let sd2 := (sd * sd + sd * 28657 + (ct + 1) * 1300367 + 70001) % 2147483579
    have e2 : (sd * sd + sd * 28657 + (ct + 1) * 1300367 + 70001) % 2147483579 = sd2 := rfl
    have g2 : 0 ≤ sd2 ∧ sd2 < 2147483579 := ⟨Int.emod_nonneg _ (by decide), Int.emod_lt_of_pos _ (by decide)⟩
    refine ⟨(sd2 / 61 + sd2 % 8059 * 47) % m, bag c i r sd2 (ct + 1), ?_, (hb _).1, (hb _).2, _, _, _, _, _, rfl, ⟨v.c, v.i0, v.r0, g2.1, by omega, by have := v.t0; omega, by have := v.t1; omega⟩⟩
    simp only [m_law_pull, Dq.run, b_law_pull]
    rw [gSeq]
    simp [-gSeq, -gIfS]
    refine Eq.trans (congrArg (fun r => RS.fin s (RS.seq r _)) e) ?_
    simp [bag, q, m1, m2, m3, d2, a1, a2, a3, a4, e2, hlen]
theorem ev_pick (L k : Nat) (xs : List DV) (s : Sto) (h : BagOk k s) (h0 : 0 < xs.length) (h1 : xs.length < 100) (hk : k < 2 ^ 60) : ∃ d s', m_law_pick L [.mr 0, .lst xs] s = .ok d s' ∧ d ∈ xs ∧ BagOk (k + 1) s' := by
  obtain ⟨v, s', e, v0, v1, b⟩ := ev_pull L k xs.length s h (by omega) (Sm.n (by omega)) hk
  have hl : v.toNat < xs.length := by omega
  have e1 : ixD (.lst xs) (.int v) s' = .ok xs[v.toNat] s' := ixD_seq (xs := xs) rfl (fun z h => nomatch h) v0 (by simp [hl])
  refine ⟨xs[v.toNat], s', ?_, List.getElem_mem _, b⟩
  have z : s'.length = s.length := by
    obtain ⟨c, i, r, sd, ct, rfl, _⟩ := h
    obtain ⟨c', i', r', sd', ct', rfl, _⟩ := b
    rfl
  simp only [m_law_pick, Dq.run, b_law_pick]
  simp [e, e1, z]
theorem BagOk.len {k j : Nat} {s s' : Sto} (h : BagOk k s) (b : BagOk j s') : s'.length = s.length := by
  obtain ⟨c, i, r, sd, ct, rfl, _⟩ := h
  obtain ⟨c', i', r', sd', ct', rfl, _⟩ := b
  rfl
theorem ev_start (L : Nat) (ns : List Int) (h : ns.length ≤ 63) : ∃ s, m_law_start L [.wl (ns.map DV.int)] [] = .ok (.mr 0) s ∧ BagOk 0 s := by
  refine ⟨bag (ns.map DV.int) 0 0 (49290 + ns.length) 0, ?_, _, _, _, _, _, rfl, ⟨ns, rfl⟩, by decide, by decide, by omega, by omega, by decide, by decide⟩
  have hc : Dq.cutD (ns.map DV.int) none (some 63) = ns.map DV.int := by
    unfold Dq.cutD
    have e1 : HT.sIx (ns.map DV.int).length 0 none = 0 := rfl
    have e2 : HT.sIx (ns.map DV.int).length (ns.map DV.int).length (some 63) = ns.length := by
      have := HT.sIx_nat (ns.map DV.int).length (ns.map DV.int).length 63
      refine this.trans ?_
      rw [List.length_map]
      omega
    rw [e1, e2]
    simp only [List.drop_zero, Nat.sub_zero]
    rw [List.take_of_length_le (by simp)]
  simp only [m_law_start, runK, b_law_start]
  simp [gSl, gNo, gPart, slD, hc, listD, lenD, RS.finK]
theorem rt_bl (b : Bool) (s s' : Sto) : ∃ t, RS.fin s (.rt (.bl b) s') = .ok (.bl b) t := by
  show ∃ t, Dq.fin s (.bl b) s' = .ok (.bl b) t
  unfold Dq.fin
  cases decide (s'.length = s.length) with
  | true => exact ⟨_, rfl⟩
  | false =>
    simp only [frz]
    split <;> exact ⟨_, rfl⟩
theorem ev_stray (L k : Nat) (s : Sto) (h : BagOk k s) (hk : k < 2 ^ 60) : ∃ d s', m_law_stray L [.mr 0] s = .ok d s' ∧ d ∈ vsL ∧ BagOk (k + 1) s' := by
  obtain ⟨d, s', e, m, b⟩ := ev_pick L k vsL s h (by decide) (by decide) hk
  refine ⟨d, s', run_rt rfl ?_ (h.len b), m, b⟩
  show R.toS _ (m_law_pick L [.mr 0, .lst vsL] s) _ = _
  rw [e]
  rfl
theorem v_plain {d : DV} (h : d ∈ vsL) : plain 6 d = true ∧ ∀ m, bel m d = true := by
  have e : plain 6 d = true := by
    have a : vsL.all (plain 6) = true := by decide +kernel
    exact List.all_eq_true.mp a d h
  exact ⟨e, fun m => bel_plain d e⟩
theorem w_plain {d : DV} (h : d ∈ wsL) : plain 6 d = true := by
  have a : wsL.all (plain 6) = true := by decide +kernel
  exact List.all_eq_true.mp a d h
def Lm : Nat := 1
theorem math (ns : List Int) (h : ns.length ≤ 63) : ∃ s, m_law Lm [.wl (ns.map DV.int)] [] = .ok (.bl true) s := by
  obtain ⟨s0, e0, b0⟩ := ev_start Lm ns h
  obtain ⟨v, s1, e1, mv, b1⟩ := ev_stray Lm 0 s0 b0 (by decide)
  obtain ⟨w, s2, e2, mw, b2⟩ := ev_pick Lm 1 wsL s1 b1 (by decide) (by decide) (by decide)
  obtain ⟨pv, bv⟩ := v_plain mv
  have pw := w_plain mw
  have hb : b_law Lm [some (.wl (ns.map DV.int)), none, none, none, none, none, none, none, none, none] [] = .rt (.bl true) s2 := by
    unfold b_law
    refine (seq_nx (ρ' := [some (.wl (ns.map DV.int)), some (.mr 0), none, none, none, none, none, none, none, none]) (s' := s0) (by simp [e0])).trans ?_
    refine (seq_nx (ρ' := [some (.wl (ns.map DV.int)), some (.mr 0), none, none, none, none, none, some v, some w, none]) (s' := s2) ?_).trans ?_
    · have e3 : m_law_pick Lm [.mr 0, .lst [.str "a", .int 7, .tup [.int 0, .int 1], .lst [.int 2], .non]] s1 = .ok w s2 := e2
      show R.toS _ ((m_law_stray Lm [.mr 0] s0).bind fun a s1 => ((m_law_pick Lm [.mr 0, .lst wsL] s1).bind fun b s2 => R.ok [b] s2).bind fun l s2 => R.ok (a :: l) s2) _ = _
      rw [e1]
      simp only [R.bind_ok]
      rw [e2]
      rfl
    refine (seq_nx (t1 (some (.wl (ns.map DV.int))) none none none none none none v w s2)).trans ?_
    refine (seq_nx (t2 (some (.wl (ns.map DV.int))) none none none none none none v w s2)).trans ?_
    refine (seq_nx (t3 (some (.wl (ns.map DV.int))) none none none none none none v w s2)).trans ?_
    refine (seq_nx (t4 (some (.wl (ns.map DV.int))) none none none none none none v w s2)).trans ?_
    refine (seq_nx (t5 (some (.wl (ns.map DV.int))) none none none none none none v w s2)).trans ?_
    refine (seq_nx (t6 (some (.wl (ns.map DV.int))) none none none none none none v w s2)).trans ?_
    refine (seq_nx (t7 (some (.wl (ns.map DV.int))) none none none none none none v w s2)).trans ?_
    refine (seq_nx (t8 (some (.wl (ns.map DV.int))) none none none none none none v w s2)).trans ?_
    refine (seq_nx (t9 (some (.wl (ns.map DV.int))) none none none none none none v w s2)).trans ?_
    refine (seq_nx (t10 (some (.wl (ns.map DV.int))) none none none none none none v w s2)).trans ?_
    refine (seq_nx (t11 (some (.wl (ns.map DV.int))) none none none none none none v w s2 bv)).trans ?_
    refine (seq_nx (t12 (some (.wl (ns.map DV.int))) none none none none none none v w s2)).trans ?_
    refine ret1 ?_
    exact ok_so Lm v w s2 bv pv pw
  show ∃ s, RS.fin [] (b_law Lm [some (.wl (ns.map DV.int)), none, none, none, none, none, none, none, none, none] []) = _
  rw [hb]
  exact rt_bl ..
end Row

namespace Row
open PySem PySem.Spec PyProof.Rows L2 Dq
theorem law_sp {K : PySem.W.Frag} (H : Hp) (a : Addr) (ns : List Int) (hl : ns.length ≤ 63) (hS : SqL K H a (ns.map V.int)) : spD (pg K) We0 1 (m_law Lm) [.ref a] H (fun v _ => v = .bl true) fun _ _ _ => False := by
  obtain ⟨s, e⟩ := math ns hl
  exact Dq.law_sp' hS e
end Row
open PySem PySem.W PySem.Calls PyProof.Rows in
set_option maxRecDepth 100000 in
set_option maxHeartbeats 0 in
theorem PySem.Challenge.cw_gustfloor_k09_errors_by_themselves_holds : PySem.Challenge.rw_gustfloor_k09_errors_by_themselves.Holds := by
  w_on; o_law
  refine HandSHeadRun.head_any (r := OpenLaw.row PySem.Challenge.rw_gustfloor_k09_errors_by_themselves) (q := view (OpenLaw.row PySem.Challenge.rw_gustfloor_k09_errors_by_themselves).prog [40]) (H := Row.hk) (ob := Row.ob) (M := 8000) (loose := Row.names) (d := HandSHeadRun.topDef (OpenLaw.row PySem.Challenge.rw_gustfloor_k09_errors_by_themselves).prog 40) (kwd := []) Row.ob_eq
    (by kernel_rfl) (fun s => by kernel_rfl) Row.run_
    (by kernel_rfl) (by kernel_rfl) (by kernel_rfl) (by rfl) (by first | assumption | decide +kernel) (by decide +kernel) ⟨rfl, rfl, rfl, rfl, rfl, by decide +kernel⟩ ?hw ?hc
  case hw => w_witness2
  case hc =>
    refine L2.walk_ofE (l := PySem.Challenge.rw_gustfloor_k09_errors_by_themselves) (n := 63) (k := 12) (x := "_law_script") (CX := L2.CX0) rfl (by decide) (by kernel_rfl) ⟨rfl, by decide, by decide⟩ ?F (fun _ _ _ _ z => z)
    intro w mg fa h Y G hmg0
    obtain ⟨K, KX, c⟩ := Y
    have hmg : mg ("law" : PySem.Str) = some (.ref fa) := by
      have e : (HandSHeadRun.topDef (OpenLaw.row PySem.Challenge.rw_gustfloor_k09_errors_by_themselves).prog 40).name = ("law" : PySem.Str) := by kernel_rfl
      rw [← e]
      exact hmg0
    obtain ⟨fd0, hb, hF⟩ := Row.law_end (P := PySem.Challenge.rw_gustfloor_k09_errors_by_themselves.prog) (w := w) KX G hmg c Row.Lm (by decide +kernel) (by decide +kernel)
    exact ⟨K, fd0, Dq.spD (Row.pg K) Dq.We0 1 (Row.m_law Row.Lm), KX, hb, fun H a ns hl _ hS => Row.law_sp H a ns hl hS, hF⟩

