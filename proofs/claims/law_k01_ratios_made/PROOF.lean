import PyProof.Rows.All
import Wide.All
import OpenK.AllK
import Wide.FinOn
import HandS.ForMost
import HandS.ForExc
import HandS.Lambda
import HandS.Nested
import KE.KDflt
import HandS.WideBits
import HandS.Wide
import HandS.Style
import HandS.Gcd
import HandS.StrMore
import HandS.Flow
import HandS.Defaults
import HandS.MakeKwOnly
import HandS.Property
import HandS.IsInst
import HandS.OwnEq
import HandS.HeadHook2
import HandS.HeadEnd
import HandS.Head2
import HandS.Head3
import HandS.Comp
import HandS.Iter
import HandS.Zip
import KE.KSuper
import KE.KExcSuper
import KE.KExcMake
import HandS.ExcInit
import HandS.ExcField
import HandS.ExcIs
import KE.KExcIs
import HandS.List
import HandS.HotCalls
import KE.KTryMore
import HandS.HeadWalk
import HandS.ClsMeth
import HandS.More
import HandS.FStr
import HandS.Small
import HandS.RaiseMore
import HandS.MakeKw
import KE.KCallOwn
import HandS.Text
import PyProof.Rows.StrMul
import KE.KIntText
import HandS.Star
import HandS.ListEq
import HandS.Deep
import PyProof.StrLawsAffix
import PySem.Challenge.RW_gustfloor_k01_ratios_made
set_option Elab.async false
set_option linter.all false
set_option maxRecDepth 100000
set_option maxHeartbeats 4000000
/-! Data by value over the hand layer: trees, mutable objects by number, readings by functions. -/
namespace Xq
open PySem PySem.Spec PyProof.Rows L2
/-- at a: an exception of the class at C, its dict at d -/
def ExV (a C d : Addr) : HO := .ext fun h => ∃ (oe : Obj) (vs : Array Value), h.get? a = some oe ∧ oe.cls = .ref C ∧ oe.dict = some d ∧ oe.data = .fields vs
/-- a lambda that stands: its text, what it captured, its code object, its defaults' tuple -/
structure LF where
  params : Arguments
  body : Expr
  scope : Scope
  q : Str
  cl : List (Str × Addr)
  c : Addr
  t : Addr
  vs : List V
def LF.dV (F : LF) : Value := match F.vs with
  | [] => .none
  | _ :: _ => .ref F.t
abbrev LF.nf (F : LF) : NdefX.NF := ⟨"<lambda>", F.q, F.params, [], F.scope, F.cl, F.c⟩
abbrev LF.fd (F : LF) (doc pm ctv : Value) : FuncData := PySem.W.kdv_fn "<lambda>" F.q F.params (.expr F.body) F.scope F.cl F.dV doc pm (.ref F.c) ctv
/-- the object at f is that lambda -/
def LamO (f : Addr) (F : LF) : HO := .ext fun h => ∃ (od : Option Addr) (sl : Array (Option Value)) (doc pm ctv : Value), h.get? f = some (⟨.type "function", od, .func (F.fd doc pm ctv), sl⟩ : Obj)
end Xq
namespace Dq
open PySem PySem.Spec PyProof.Rows L2

/-! ### data -/
inductive DV where
  | non | bl (b : Bool) | int (i : Int) | str (x : Str)
  | lst (xs : List DV) | wl (xs : List DV) | tup (xs : List DV) | ins (c : Nat) (ks : List Nat) (xs : List DV) | mr (k : Nat) | exn (c : Nat) (ks : List Nat) (xs : List DV) | fn (n : Nat) | cls (c : Nat) | lam (i : Nat)
/-- a mutable object's content -/
inductive MO where
  | lst (xs : List DV) | ins (c : Nat) (ks : List Nat) (xs : List DV)
abbrev Sto := List (Option MO)
/-- results -/
inductive R (α : Type) where
  | ok (a : α) (s : Sto) | exc (c : Nat) (ks : List Nat) (xs : List DV) (s : Sto) | bad
def R.bind {α β : Type} : R α → (α → Sto → R β) → R β
  | .ok a s, k => k a s
  | .exc c ks xs s, _ => .exc c ks xs s
  | .bad, _ => .bad
@[simp] theorem R.bind_ok {α β : Type} (a : α) (s : Sto) (k : α → Sto → R β) : (R.ok a s).bind k = k a s := rfl
abbrev En := List (Option DV)

/-- the program's part: classes by number, attributes' names by number -/
structure Pg where
  K : PySem.W.Frag
  cA : Nat → Addr
  nm : Nat → Str
  nmi : ∀ i j, nm i = nm j → i = j
  T : List (Addr × Str) := []
  hot : Option (Addr × Nat × Addr) := none
  ask : Option (Addr × Addr × Str × Hp × List Addr) := none
  lam : Nat → Addr → Addr → Option Xq.LF := fun _ _ _ => none

/-! ### what data stands for -/
mutual
inductive Rp (p : Pg) (F : Hp) (μ : List Addr) : DV → V → Prop
  | non : Rp p F μ .non .non
  | bl (b : Bool) : Rp p F μ (.bl b) (.bl b)
  | int (i : Int) : Rp p F μ (.int i) (.int i)
  | str (x : Str) : Rp p F μ (.str x) (.str x)
  | lst {a : Addr} {xs : List DV} {vs : List V} : F a = some (.lst vs) → Rps p F μ xs vs → Rp p F μ (.lst xs) (.ref a)
  | wl {a : Addr} {xs : List DV} {vs : List V} : SqL p.K F a vs → Rps p F μ xs vs → Rp p F μ (.wl xs) (.ref a)
  | tup {a : Addr} {xs : List DV} {vs : List V} : SqT p.K F a vs → Rps p F μ xs vs → Rp p F μ (.tup xs) (.ref a)
  | ins {a dx : Addr} {c : Nat} {ks : List Nat} {xs : List DV} {fs : List (Str × V)} : F a = some (.ins (p.cA c) dx fs) → fs.map (·.1) = ks.map p.nm → Rps p F μ xs (fs.map (·.2)) → Rp p F μ (.ins c ks xs) (.ref a)
  | mr {k : Nat} {a : Addr} : μ[k]? = some a → Rp p F μ (.mr k) (.ref a)
  | exn {a dx : Addr} {c : Nat} {ks : List Nat} {xs : List DV} {fs : List (Str × V)} : (F a = some (Xq.ExV a (p.cA c) dx) ∨ p.hot = some (a, c, dx)) → F dx = some (.xd fs) → fs.map (·.1) = ks.map p.nm → Rps p F μ xs (fs.map (·.2)) → Rp p F μ (.exn c ks xs) (.ref a)
  | fn {n : Nat} {f c : Addr} {q : Str} {F0 : Hp} {μ0 : List Addr} : p.ask = some (f, c, q, F0, μ0) → μ0.length = n → F c = some (LamX.CodeO c q) → (∀ a o, F0 a = some o → F a = some o) → (∀ (k : Nat) a, μ0[k]? = some a → μ[k]? = some a) → Rp p F μ (.fn n) (.ref f)
  | cls (c : Nat) : Rp p F μ (.cls c) (.ref (p.cA c))
  | lam {i : Nat} {f c t : Addr} {L : Xq.LF} : p.lam i c t = some L → F f = some (Xq.LamO f L) → F c = some (LamX.CodeO c L.q) → (L.vs = [] ∨ F t = some (.tup L.vs)) → Rp p F μ (.lam i) (.ref f)
inductive Rps (p : Pg) (F : Hp) (μ : List Addr) : List DV → List V → Prop
  | nil : Rps p F μ [] []
  | cons {d : DV} {v : V} {ds : List DV} {vs : List V} : Rp p F μ d v → Rps p F μ ds vs → Rps p F μ (d :: ds) (v :: vs)
end

structure Gh where
  F : Hp
  μ : List Addr
  st : Sto
structure GX (G G' : Gh) : Prop where
  f : ∀ a o, G.F a = some o → G'.F a = some o
  m : ∀ (k : Nat) a, G.μ[k]? = some a → G'.μ[k]? = some a
theorem GX.rfl' {G : Gh} : GX G G := ⟨fun _ _ h => h, fun _ _ h => h⟩
theorem GX.trans {G G1 G2 : Gh} (a : GX G G1) (b : GX G1 G2) : GX G G2 := ⟨fun x o h => b.f x o (a.f x o h), fun k x h => b.m k x (a.m k x h)⟩
theorem GX.st {G G' : Gh} (a : GX G G') (s : Sto) : GX { G with st := s } G' := ⟨a.f, a.m⟩

theorem sqL_up {K : PySem.W.Frag} {F H : Hp} {a : Addr} {xs : List V} (k : ∀ a o, F a = some o → H a = some o) (h : SqL K F a xs) : SqL K H a xs := by
  rcases h with (h | ⟨o, h⟩) | h
  · exact .inl (.inl (k _ _ h))
  · exact .inl (.inr ⟨o, k _ _ h⟩)
  · exact .inr h
theorem sqT_up {K : PySem.W.Frag} {F H : Hp} {a : Addr} {xs : List V} (k : ∀ a o, F a = some o → H a = some o) (h : SqT K F a xs) : SqT K H a xs := by
  rcases h with (h | ⟨o, h⟩) | h
  · exact .inl (.inl (k _ _ h))
  · exact .inl (.inr ⟨o, k _ _ h⟩)
  · exact .inr h
section
variable {p : Pg}
mutual
theorem Rp.up {F F' : Hp} {μ μ' : List Addr} (hf : ∀ a o, F a = some o → F' a = some o) (hm : ∀ (k : Nat) a, μ[k]? = some a → μ'[k]? = some a) : ∀ (d : DV) (v : V), Rp p F μ d v → Rp p F' μ' d v
  | .non, _, .non => .non
  | .bl _, _, .bl b => .bl b
  | .int _, _, .int i => .int i
  | .str _, _, .str x => .str x
  | .lst xs, _, .lst h r => .lst (hf _ _ h) (Rps.up hf hm xs _ r)
  | .wl xs, _, .wl h r => .wl (sqL_up hf h) (Rps.up hf hm xs _ r)
  | .tup xs, _, .tup h r => .tup (sqT_up hf h) (Rps.up hf hm xs _ r)
  | .ins _ _ xs, _, .ins h e r => .ins (hf _ _ h) e (Rps.up hf hm xs _ r)
  | .mr _, _, .mr h => .mr (hm _ _ h)
  | .exn _ _ xs, _, .exn h h2 e r => .exn (h.imp (hf _ _) id) (hf _ _ h2) e (Rps.up hf hm xs _ r)
  | .fn _, _, .fn e e2 h1 h2 h3 => .fn e e2 (hf _ _ h1) (fun a o z => hf a o (h2 a o z)) fun k a z => hm k a (h3 k a z)
  | .cls c, _, .cls _ => .cls c
  | .lam _, _, .lam e h1 h2 h3 => .lam e (hf _ _ h1) (hf _ _ h2) (h3.imp id (hf _ _))
theorem Rps.up {F F' : Hp} {μ μ' : List Addr} (hf : ∀ a o, F a = some o → F' a = some o) (hm : ∀ (k : Nat) a, μ[k]? = some a → μ'[k]? = some a) : ∀ (ds : List DV) (vs : List V), Rps p F μ ds vs → Rps p F' μ' ds vs
  | [], _, .nil => .nil
  | d :: ds, _, .cons r t => .cons (Rp.up hf hm d _ r) (Rps.up hf hm ds _ t)
end
abbrev Rg (p : Pg) (G : Gh) (d : DV) (v : V) : Prop := Rp p G.F G.μ d v
abbrev Rgs (p : Pg) (G : Gh) (ds : List DV) (vs : List V) : Prop := Rps p G.F G.μ ds vs
theorem Rg.gx {G G' : Gh} {d : DV} {v : V} (h : Rp p G.F G.μ d v) (x : GX G G') : Rp p G'.F G'.μ d v := Rp.up x.f x.m d v h
theorem Rgs.gx {G G' : Gh} {d : List DV} {v : List V} (h : Rps p G.F G.μ d v) (x : GX G G') : Rps p G'.F G'.μ d v := Rps.up x.f x.m d v h
theorem Rps.length {F : Hp} {μ : List Addr} : ∀ {ds : List DV} {vs : List V}, Rps p F μ ds vs → ds.length = vs.length
  | [], _, .nil => rfl
  | _ :: _, _, .cons _ t => by rw [List.length_cons, List.length_cons, Rps.length t]
theorem Rps.get {F : Hp} {μ : List Addr} : ∀ {ds : List DV} {vs : List V} {i : Nat} {d : DV}, Rps p F μ ds vs → ds[i]? = some d → ∃ v, vs[i]? = some v ∧ Rp p F μ d v
  | [], _, _, _, _, e => by simp at e
  | _ :: _, _, 0, _, .cons r _, e => ⟨_, rfl, by simp at e; subst e; exact r⟩
  | _ :: _, _, i + 1, _, .cons _ t, e => by simpa using Rps.get (i := i) t (by simpa using e)
theorem Rps.get' {F : Hp} {μ : List Addr} : ∀ {ds : List DV} {vs : List V} {i : Nat} {v : V}, Rps p F μ ds vs → vs[i]? = some v → ∃ d, ds[i]? = some d ∧ Rp p F μ d v
  | [], _, _, _, .nil, e => by simp at e
  | _ :: _, _, 0, _, .cons r _, e => ⟨_, rfl, by simp at e; subst e; exact r⟩
  | _ :: _, _, i + 1, _, .cons _ t, e => by simpa using Rps.get' (i := i) t (by simpa using e)
theorem Rps.app {F : Hp} {μ : List Addr} : ∀ {ds es : List DV} {vs us : List V}, Rps p F μ ds vs → Rps p F μ es us → Rps p F μ (ds ++ es) (vs ++ us)
  | [], _, _, _, .nil, s => s
  | _ :: _, _, _, _, .cons r t, s => .cons r (Rps.app t s)
theorem Rps.set {F : Hp} {μ : List Addr} {e : DV} {u : V} (h : Rp p F μ e u) : ∀ {ds : List DV} {vs : List V} (i : Nat), Rps p F μ ds vs → Rps p F μ (ds.set i e) (vs.set i u)
  | _, _, _, .nil => .nil
  | _, _, 0, .cons _ t => .cons h t
  | _, _, i + 1, .cons r t => .cons r (Rps.set h i t)
theorem Rps.take {F : Hp} {μ : List Addr} : ∀ {ds : List DV} {vs : List V} (n : Nat), Rps p F μ ds vs → Rps p F μ (ds.take n) (vs.take n)
  | _, _, 0, _ => .nil
  | _, _, _ + 1, .nil => .nil
  | _, _, n + 1, .cons r t => .cons r (Rps.take n t)
theorem Rps.drop {F : Hp} {μ : List Addr} : ∀ {ds : List DV} {vs : List V} (n : Nat), Rps p F μ ds vs → Rps p F μ (ds.drop n) (vs.drop n)
  | _, _, 0, r => r
  | _, _, _ + 1, .nil => .nil
  | _, _, n + 1, .cons _ t => Rps.drop n t
theorem Rps.rev {F : Hp} {μ : List Addr} {ds : List DV} {vs : List V} (h : Rps p F μ ds vs) : Rps p F μ ds.reverse vs.reverse := by
  induction ds generalizing vs with
  | nil => cases h; exact .nil
  | cons d ds ih =>
    cases h with
    | cons r t => rw [List.reverse_cons, List.reverse_cons]; exact (ih t).app (.cons r .nil)
theorem Rps.rep {F : Hp} {μ : List Addr} {ds : List DV} {vs : List V} (h : Rps p F μ ds vs) (k : Nat) : Rps p F μ (List.replicate k ds).flatten (List.replicate k vs).flatten := by
  induction k with
  | zero => exact .nil
  | succ k ih => rw [List.replicate_succ, List.replicate_succ, List.flatten_cons, List.flatten_cons]; exact h.app ih

/-- a mutable object as it stands -/
def ObR (p : Pg) (G : Gh) : MO → Option HO → Prop
  | .lst xs, o => ∃ vs, o = some (.lst vs) ∧ Rps p G.F G.μ xs vs
  | .ins c ks xs, o => ∃ dx fs, o = some (.ins (p.cA c) dx fs) ∧ fs.map (·.1) = ks.map p.nm ∧ Rps p G.F G.μ xs (fs.map (·.2))
theorem ObR.gx {G G' : Gh} {m : MO} {o : Option HO} (h : ObR p G m o) (x : GX G G') : ObR p G' m o := by
  cases m with
  | lst xs => obtain ⟨vs, e, r⟩ := h; exact ⟨vs, e, Rgs.gx r x⟩
  | ins c ks xs => obtain ⟨dx, fs, e, k, r⟩ := h; exact ⟨dx, fs, e, k, Rgs.gx r x⟩
/-- no table -/
def NoTb (o : HO) : Prop := ∀ ps, o ≠ .tbl ps
/-- the tables of code objects beside the data -/
structure TbR (T : List (Addr × Str)) (F : Hp) (μ : List Addr) (H : Hp) : Prop where
  tabs : LamX.Tabs T H
  noF : ∀ a o, F a = some o → NoTb o
  noM : ∀ (k : Nat) a o, μ[k]? = some a → H a = some o → NoTb o ∧ ∀ q, o ≠ LamX.CodeO a q
theorem ObR.noTb {G : Gh} {m : MO} {o : HO} (h : ObR p G m (some o)) : NoTb o ∧ ∀ a q, o ≠ LamX.CodeO a q := by
  cases m with
  | lst xs => obtain ⟨vs, e, r⟩ := h; cases e; exact ⟨fun _ z => (nomatch z), fun a q z => by unfold LamX.CodeO at z; cases z⟩
  | ins c ks xs => obtain ⟨dx, fs, e, k, r⟩ := h; cases e; exact ⟨fun _ z => (nomatch z), fun a q z => by unfold LamX.CodeO at z; cases z⟩
structure Gd (p : Pg) (G : Gh) (H : Hp) : Prop where
  le : ∀ a o, G.F a = some o → H a = some o
  len : G.μ.length = G.st.length
  live : ∀ (k : Nat) m, G.st[k]? = some (some m) → ∃ a, G.μ[k]? = some a ∧ G.F a = none ∧ ObR p G m (H a)
  all : ∀ (k : Nat) a, G.μ[k]? = some a → H a ≠ none
  inj : ∀ (j k : Nat) a, G.μ[j]? = some a → G.μ[k]? = some a → j = k
  tb : TbR p.T G.F G.μ H
theorem Gd.free {G : Gh} {H : Hp} (g : Gd p G H) {a : Addr} (h : H a = none) : G.F a = none := by
  cases e : G.F a with
  | none => rfl
  | some o => rw [g.le a o e] at h; cases h
theorem Gd.nmu {G : Gh} {H : Hp} (g : Gd p G H) {a : Addr} (h : H a = none) {k : Nat} {b : Addr} (e : G.μ[k]? = some b) : b ≠ a := by
  rintro rfl
  exact g.all k b e h
/-- an object laid and kept for ever -/
def Gh.lay (G : Gh) (a : Addr) (o : HO) : Gh := { G with F := upd G.F a o }
theorem GX.lay {G : Gh} {H : Hp} (g : Gd p G H) {a : Addr} {o : HO} (h : H a = none) : GX G (G.lay a o) :=
  ⟨fun b u e => by
    show upd G.F a o b = some u
    have nb : b ≠ a := fun q => by
      rw [q, g.free h] at e
      exact nomatch e
    rw [upd_ne nb]
    exact e, fun _ _ e => e⟩
theorem Gd.lay {G : Gh} {H : Hp} (g : Gd p G H) {a : Addr} {o : HO} (h : H a = none) (hn : NoTb o := by first | exact (fun _ z => nomatch z) | (intro _ z; unfold Xq.ExV at z; cases z)) : Gd p (G.lay a o) (upd H a o) where
  le := fun b u e => by
    by_cases q : b = a
    · subst q
      have e' : upd G.F b o b = some u := e
      rw [upd_same] at e' ⊢; exact e'
    · have e' : upd G.F a o b = some u := e
      rw [upd_ne q] at e' ⊢; exact g.le b u e'
  len := g.len
  live := fun k m e => by
    obtain ⟨b, e1, e2, e3⟩ := g.live k m e
    have nb := g.nmu h e1
    refine ⟨b, e1, ?_, ?_⟩
    · show upd G.F a o b = none
      rw [upd_ne nb]; exact e2
    · rw [upd_ne nb]
      exact e3.gx (GX.lay g h)
  all := fun k b e => by
    rw [upd_ne (g.nmu h e)]
    exact g.all k b e
  inj := g.inj
  tb := ⟨g.tb.tabs.ext fun b u e => by rw [upd_ne (fun z => by rw [z, h] at e; cases e)]; exact e, fun b u e => by
    have e : upd G.F a o b = some u := e
    by_cases q : b = a
    · subst q
      rw [upd_same] at e
      cases e
      exact hn
    · rw [upd_ne q] at e
      exact g.tb.noF b u e, fun k b u e1 e2 => by
    rw [upd_ne (g.nmu h e1)] at e2
    exact g.tb.noM k b u e1 e2⟩
/-- an object beside, which no data names -/
theorem Gd.beside {G : Gh} {H : Hp} (g : Gd p G H) {a : Addr} {o : HO} (h : H a = none) : Gd p G (upd H a o) where
  le := fun b u e => by
    rw [upd_ne]
    · exact g.le b u e
    · rintro rfl
      rw [g.free h] at e; cases e
  len := g.len
  live := fun k m e => by
    obtain ⟨b, e1, e2, e3⟩ := g.live k m e
    exact ⟨b, e1, e2, by rw [upd_ne (g.nmu h e1)]; exact e3⟩
  all := fun k b e => by
    rw [upd_ne (g.nmu h e)]
    exact g.all k b e
  inj := g.inj
  tb := ⟨g.tb.tabs.ext fun b u e => by rw [upd_ne (fun z => by rw [z, h] at e; cases e)]; exact e, g.tb.noF, fun k b u e1 e2 => by
    rw [upd_ne (g.nmu h e1)] at e2
    exact g.tb.noM k b u e1 e2⟩
/-- a new mutable object -/
def Gh.add (G : Gh) (a : Addr) (m : MO) : Gh := ⟨G.F, G.μ ++ [a], G.st ++ [some m]⟩
theorem GX.add {G : Gh} {a : Addr} {m : MO} : GX G (G.add a m) :=
  ⟨fun _ _ e => e, fun k b e => by
    show (G.μ ++ [a])[k]? = some b
    rw [List.getElem?_append_left (List.getElem?_eq_some_iff.mp e).1]
    exact e⟩
theorem Gh.add_at {G : Gh} {a : Addr} {m : MO} : (G.add a m).μ[G.μ.length]? = some a := by
  show (G.μ ++ [a])[G.μ.length]? = some a
  rw [List.getElem?_append_right (Nat.le_refl _), Nat.sub_self]; rfl
theorem mk_get {α : Type} {l : List α} {a b : α} {k : Nat} (e : (l ++ [a])[k]? = some b) : l[k]? = some b ∨ (k = l.length ∧ a = b) := by
  by_cases q : k < l.length
  · rw [List.getElem?_append_left q] at e; exact .inl e
  · rw [List.getElem?_append_right (by omega)] at e
    have q2 : k - l.length = 0 := by
      have := (List.getElem?_eq_some_iff.mp e).1
      simp at this; omega
    rw [q2] at e
    simp at e
    exact .inr ⟨by omega, e⟩
theorem Gd.add {G : Gh} {H : Hp} (g : Gd p G H) {a : Addr} {m : MO} {o : HO} (h : H a = none) (ho : ObR p G m (some o)) : Gd p (G.add a m) (upd H a o) where
  le := (g.beside h).le
  len := by
    show (G.μ ++ [a]).length = (G.st ++ [some m]).length
    simp [g.len]
  live := fun k m' e => by
    have e' : (G.st ++ [some m])[k]? = some (some m') := e
    rcases mk_get e' with e | ⟨q, e⟩
    · obtain ⟨b, e1, e2, e3⟩ := (g.beside (o := o) h).live k m' e
      exact ⟨b, GX.add.m k b e1, e2, e3.gx GX.add⟩
    · cases e
      refine ⟨a, ?_, g.free h, ?_⟩
      · rw [q, ← g.len]; exact Gh.add_at
      · rw [upd_same]; exact ho.gx GX.add
  all := fun k b e => by
    rcases mk_get e with e | ⟨_, e⟩
    · exact (g.beside h).all k b e
    · subst e; rw [upd_same]; exact fun z => nomatch z
  inj := fun j k b e1 e2 => by
    rcases mk_get e1 with e1 | ⟨r1, e1⟩
    · rcases mk_get e2 with e2 | ⟨_, e2⟩
      · exact g.inj j k b e1 e2
      · subst e2; exact absurd rfl (g.nmu h e1)
    · rcases mk_get e2 with e2 | ⟨r2, e2⟩
      · subst e1; exact absurd rfl (g.nmu h e2)
      · omega
  tb := ⟨(g.beside h).tb.tabs, g.tb.noF, fun k b u e1 e2 => by
    rcases mk_get e1 with e1 | ⟨_, e1⟩
    · exact (g.beside h).tb.noM k b u e1 e2
    · subst e1
      rw [upd_same] at e2
      cases e2
      exact ⟨ho.noTb.1, ho.noTb.2 _⟩⟩
/-- a mutable object is changed -/
def Gh.put (G : Gh) (k : Nat) (m : Option MO) : Gh := { G with st := G.st.set k m }
theorem GX.put {G : Gh} {k : Nat} {m : Option MO} : GX G (G.put k m) := ⟨fun _ _ e => e, fun _ _ e => e⟩
theorem Gd.put {G : Gh} {H : Hp} (g : Gd p G H) {k : Nat} {a : Addr} {m : MO} {o : HO} (ha : G.μ[k]? = some a) (hf : G.F a = none) (ho : ObR p G m (some o)) : Gd p (G.put k (some m)) (upd H a o) where
  le := fun b u e => by
    rw [upd_ne]
    · exact g.le b u e
    · rintro rfl
      have e' : G.F b = some u := e
      rw [hf] at e'; cases e'
  len := by
    show G.μ.length = (G.st.set k (some m)).length
    rw [List.length_set]; exact g.len
  live := fun j m' e => by
    have e' : (G.st.set k (some m))[j]? = some (some m') := e
    by_cases q : j = k
    · subst q
      rw [List.getElem?_set_self (by rw [← g.len]; exact (List.getElem?_eq_some_iff.mp ha).1)] at e'
      cases e'
      exact ⟨a, ha, hf, by rw [upd_same]; exact ho.gx GX.put⟩
    · rw [List.getElem?_set_ne (Ne.symm q)] at e'
      obtain ⟨b, e1, e2, e3⟩ := g.live j m' e'
      have nb : b ≠ a := by
        rintro rfl
        exact q (g.inj j k b e1 ha)
      exact ⟨b, e1, e2, by rw [upd_ne nb]; exact e3.gx GX.put⟩
  all := fun j b e => by
    by_cases q : b = a
    · subst q; rw [upd_same]; exact fun z => nomatch z
    · rw [upd_ne q]; exact g.all j b e
  inj := g.inj
  tb := ⟨fun q hq => by
      obtain ⟨ps, h1, h2, h3⟩ := g.tb.tabs q hq
      have n1 : q.1 ≠ a := fun z => (g.tb.noM k a _ ha (z ▸ h1)).1 ps rfl
      refine ⟨ps, by rw [upd_ne n1]; exact h1, h2, fun pos cv hc => ?_⟩
      obtain ⟨c, e1, e2⟩ := h3 pos cv hc
      refine ⟨c, e1, ?_⟩
      rw [upd_ne]
      · exact e2
      · intro z
        subst z
        exact (g.tb.noM k c _ ha e2).2 _ rfl, g.tb.noF, fun j b u e1 e2 => by
    by_cases q : b = a
    · subst q
      rw [upd_same] at e2
      cases e2
      exact ⟨ho.noTb.1, ho.noTb.2 _⟩
    · rw [upd_ne q] at e2
      exact g.tb.noM j b u e1 e2⟩

/-! ### slots -/
structure EnR (p : Pg) (G : Gh) (ρ : En) (σ : L2.St) : Prop where
  len : ρ.length = σ.length
  at_ : ∀ (i : Nat) d, ρ[i]? = some (some d) → ∃ v, σ[i]? = some (some v) ∧ Rp p G.F G.μ d v
theorem EnR.gx {G G' : Gh} {ρ : En} {σ : L2.St} (e : EnR p G ρ σ) (x : GX G G') : EnR p G' ρ σ :=
  ⟨e.len, fun i d h => let ⟨v, a, b⟩ := e.at_ i d h; ⟨v, a, Rg.gx b x⟩⟩
theorem EnR.set {G : Gh} {ρ : En} {σ : L2.St} (e : EnR p G ρ σ) {d : DV} {v : V} (h : Rp p G.F G.μ d v) (i : Nat) : EnR p G (ρ.set i (some d)) (σ.set i (some v)) where
  len := by rw [List.length_set, List.length_set]; exact e.len
  at_ := fun j d' h' => by
    by_cases q : j = i
    · subst q
      have lt : j < ρ.length := by
        have := (List.getElem?_eq_some_iff.mp h').1
        rwa [List.length_set] at this
      rw [List.getElem?_set_self lt] at h'
      cases h'
      exact ⟨v, List.getElem?_set_self (by rw [← e.len]; exact lt), h⟩
    · rw [List.getElem?_set_ne (Ne.symm q)] at h'
      rw [List.getElem?_set_ne (Ne.symm q)]
      exact e.at_ j d' h'

/-! ### ends -/
/-- what is wanted of a result -/
def Po {α β : Type} (p : Pg) (Rl : Gh → α → β → Prop) (W : WX) (G : Gh) (σ : L2.St) : R α → (β → Hp → Prop) → Prop
  | .ok a s, Q => ∀ G' b H', GX G G' → G'.st = s → Gd p G' H' → Rl G' a b → Q b H'
  | .exc c ks xs s, _ => ∀ G' H' d fs, GX G G' → G'.st = s → Gd p G' H' → H' d = some (.xd fs) → fs.map (·.1) = ks.map p.nm → Rps p G'.F G'.μ xs (fs.map (·.2)) → W (.ref (p.cA c)) (some d) σ H'
  | .bad, _ => False
section
variable {α β γ δ : Type} {Rl : Gh → α → β → Prop} {Rm : Gh → γ → δ → Prop} {W : WX} {G G' : Gh} {σ : L2.St}
theorem Po.gx {r : R α} {Q : β → Hp → Prop} (h : Po p Rl W G σ r Q) (x : GX G G') : Po p Rl W G' σ r Q := by
  cases r with
  | ok a s => exact fun G2 b H2 x2 e g r => h G2 b H2 (x.trans x2) e g r
  | exc c ks xs s => exact fun G2 H2 d fs x2 e g k r => h G2 H2 d fs (x.trans x2) e g k r
  | bad => exact h
theorem Po.imp {r : R α} {Q Q' : β → Hp → Prop} (h : Po p Rl W G σ r Q) (k : ∀ b H, Q b H → Q' b H) : Po p Rl W G σ r Q' := by
  cases r with
  | ok a s => exact fun G2 b H2 x2 e g r => k _ _ (h G2 b H2 x2 e g r)
  | exc c ks xs s => exact h
  | bad => exact h
theorem Po.bind {r : R α} {k : α → Sto → R γ} {Q : δ → Hp → Prop} (h : Po p Rm W G σ (r.bind k) Q) :
    Po p Rl W G σ r (fun b H => ∃ G' a, GX G G' ∧ Gd p G' H ∧ Rl G' a b ∧ Po p Rm W G' σ (k a G'.st) Q) := by
  cases r with
  | ok a s =>
    intro G2 b H2 x2 e g rl
    subst e
    exact ⟨G2, a, x2, g, rl, Po.gx h x2⟩
  | exc c ks xs s => exact h
  | bad => exact h
theorem Po.ret {a : α} {b : β} {s : Sto} {H : Hp} {Q : β → Hp → Prop} (h : Po p Rl W G σ (.ok a s) Q) (x : GX G G') (e : G'.st = s) (g : Gd p G' H) (r : Rl G' a b) : Q b H := h G' b H x e g r
end
abbrev PoV (p : Pg) := Po p (Rg p)
abbrev PoL (p : Pg) := Po p (Rgs p)
abbrev RlB : Gh → Bool → Bool → Prop := fun _ a b => a = b
abbrev PoB (p : Pg) := Po p RlB

/-! ### readings -/
abbrev GE := En → Sto → R DV
abbrev GL := En → Sto → R (List DV)
abbrev GB := En → Sto → R Bool
def rd (p : Pg) (W : WX) (g : GE) : TE := fun σ H Q => ∃ G ρ, Gd p G H ∧ EnR p G ρ σ ∧ PoV p W G σ (g ρ G.st) Q
def rdL (p : Pg) (W : WX) (g : GL) : TA := fun σ H Q => ∃ G ρ, Gd p G H ∧ EnR p G ρ σ ∧ PoL p W G σ (g ρ G.st) Q
def rdB (p : Pg) (W : WX) (g : GB) : TT := fun σ H Q => ∃ G ρ, Gd p G H ∧ EnR p G ρ σ ∧ PoB p W G σ (g ρ G.st) Q
theorem PE.imp {X : Cx} {e : Expr} {t t' : TE} (h : PE X e t) (k : ∀ σ H Q, t' σ H Q → t σ H Q) : PE X e t' := ⟨fun pins s σ H Q I q => h.run pins s σ H Q I (k σ H Q q)⟩
theorem PT.imp {X : Cx} {e : Expr} {t t' : TT} (h : PT X e t) (k : ∀ σ H Q, t' σ H Q → t σ H Q) : PT X e t' := ⟨fun pins s σ H Q I q => h.run pins s σ H Q I (k σ H Q q)⟩
theorem PA.imp {X : Cx} {e : List Expr} {t t' : TA} (h : PA X e t) (k : ∀ σ H Q, t' σ H Q → t σ H Q) : PA X e t' := ⟨fun pos pins s σ H Q I q => h.run pos pins s σ H Q I (k σ H Q q)⟩
theorem PS.imp {X : Cx} {e : Stmt} {t t' : TS} (h : PS X e t) (k : ∀ D σ H, t' D σ H → t D σ H) : PS X e t' := ⟨fun pins s σ H D I q => h.run pins s σ H D I (k D σ H q)⟩
theorem PSs.imp {X : Cx} {e : List Stmt} {t t' : TS} (h : PSs X e t) (k : ∀ D σ H, t' D σ H → t D σ H) : PSs X e t' := ⟨fun pins s σ H D I q => h.run pins s σ H D I (k D σ H q)⟩

/-! ### statements -/
inductive RS where
  | nx (ρ : En) (s : Sto) | rt (d : DV) (s : Sto) | bk (ρ : En) (s : Sto) | ct (ρ : En) (s : Sto)
  | exc (c : Nat) (ks : List Nat) (xs : List DV) (ρ : En) (s : Sto) | bad
abbrev GS := En → Sto → RS
def PoS (p : Pg) (W : WX) (G : Gh) (D : Ends) : RS → Prop
  | .nx ρ s => ∀ G' σ' H', GX G G' → G'.st = s → Gd p G' H' → EnR p G' ρ σ' → D.nx σ' H'
  | .bk ρ s => ∀ G' σ' H', GX G G' → G'.st = s → Gd p G' H' → EnR p G' ρ σ' → D.bk σ' H'
  | .ct ρ s => ∀ G' σ' H', GX G G' → G'.st = s → Gd p G' H' → EnR p G' ρ σ' → D.ct σ' H'
  | .rt d s => ∀ G' v H', GX G G' → G'.st = s → Gd p G' H' → Rp p G'.F G'.μ d v → D.rt v H'
  | .exc c ks xs ρ s => ∀ G' σ' H' d fs, GX G G' → G'.st = s → Gd p G' H' → EnR p G' ρ σ' → H' d = some (.xd fs) → fs.map (·.1) = ks.map p.nm → Rps p G'.F G'.μ xs (fs.map (·.2)) → W (.ref (p.cA c)) (some d) σ' H'
  | .bad => False
def rdS (p : Pg) (W : WX) (g : GS) : TS := fun D σ H => ∃ G ρ, Gd p G H ∧ EnR p G ρ σ ∧ PoS p W G D (g ρ G.st)
theorem PoS.gx {W : WX} {G G' : Gh} {D : Ends} {r : RS} (h : PoS p W G D r) (x : GX G G') : PoS p W G' D r := by
  cases r with
  | nx ρ s => exact fun G2 σ2 H2 x2 => h G2 σ2 H2 (x.trans x2)
  | bk ρ s => exact fun G2 σ2 H2 x2 => h G2 σ2 H2 (x.trans x2)
  | ct ρ s => exact fun G2 σ2 H2 x2 => h G2 σ2 H2 (x.trans x2)
  | rt d s => exact fun G2 σ2 H2 x2 => h G2 σ2 H2 (x.trans x2)
  | exc c ks xs ρ s => exact fun G2 σ2 H2 d fs x2 => h G2 σ2 H2 d fs (x.trans x2)
  | bad => exact h
/-- an expression's result, then a statement's rest -/
def R.toS {α : Type} (ρ : En) : R α → (α → Sto → RS) → RS
  | .ok a s, k => k a s
  | .exc c ks xs s, _ => .exc c ks xs ρ s
  | .bad, _ => .bad
@[simp] theorem R.toS_ok {α : Type} (ρ : En) (a : α) (s : Sto) (k : α → Sto → RS) : (R.ok a s).toS ρ k = k a s := rfl
theorem PoS.of {α β : Type} {Rl : Gh → α → β → Prop} {W : WX} {G : Gh} {σ : L2.St} {ρ : En} {D : Ends} {r : R α} {k : α → Sto → RS} (h : PoS p W G D (r.toS ρ k)) (e : EnR p G ρ σ) :
    Po p Rl W G σ r (fun b H => ∃ G' a, GX G G' ∧ Gd p G' H ∧ Rl G' a b ∧ PoS p W G' D (k a G'.st)) := by
  cases r with
  | ok a s =>
    intro G2 b H2 x2 e2 g rl
    subst e2
    exact ⟨G2, a, x2, g, rl, PoS.gx h x2⟩
  | exc c ks xs s => exact fun G2 H2 d fs x2 e2 g k r rr => h G2 σ H2 d fs x2 e2 g (e.gx x2) k r rr
  | bad => exact h
@[simp] def RS.seq : RS → GS → RS
  | .nx ρ s, g => g ρ s
  | r, _ => r
theorem PoS.seq {W : WX} {G : Gh} {D : Ends} {r : RS} {g : GS} (h : PoS p W G D (r.seq g)) : PoS p W G { D with nx := rdS p W g D } r := by
  cases r with
  | nx ρ s =>
    intro G2 σ2 H2 x2 e2 gd en
    subst e2
    exact ⟨G2, ρ, gd, en, PoS.gx h x2⟩
  | bk ρ s => exact h
  | ct ρ s => exact h
  | rt d s => exact h
  | exc c ks xs ρ s => exact h
  | bad => exact h
end
end Dq

/-! Expressions. -/
namespace Dq
open PySem PySem.Spec PyProof.Rows L2
section
variable {p : Pg} {X : Cx} {W : WX}

/-! ### names, constants -/
@[simp] def gVar (i : Nat) : GE := fun ρ s => match ρ[i]? with
  | some (some d) => .ok d s
  | _ => .bad
@[simp] def gC (d : DV) : GE := fun _ s => .ok d s
theorem qv (i : Nat) {x : Str} {pos : Pos} (hN : X.N[i]? = some x := by rfl) (hv : Vis X.env.scope x := by first | exact Or.inl rfl | exact Or.inr (Or.inl rfl) | exact Or.inr (Or.inr rfl)) (hd : (x == ("__debug__" : Str)) = false := by decide)
    (hcd : (x == ("__classdict__" : Str)) = false := by decide) : PE X (.Name x pos) (rd p W (gVar i)) := by
  refine PE.imp (L2.pv i hN hv hd hcd) fun σ H Q ⟨G, ρ, g, en, po⟩ => ?_
  unfold gVar at po
  split at po
  · rename_i d e
    obtain ⟨v, e2, r⟩ := en.at_ i d e
    exact ⟨v, e2, Po.ret po GX.rfl' rfl g r⟩
  · exact po.elim
theorem qc {e : Expr} {d : DV} {v : V} (h : PE X e (tC v)) (r : ∀ F μ, Rp p F μ d v) : PE X e (rd p W (gC d)) :=
  PE.imp h fun σ H Q ⟨G, ρ, g, en, po⟩ => Po.ret po GX.rfl' rfl g (r _ _)
theorem qint {i : Int} {j pos} : PE X (.Constant (.int i) j pos) (rd p W (gC (.int i))) := qc pe_int fun _ _ => .int i
theorem qbl {b : Bool} {j pos} : PE X (.Constant (.bool b) j pos) (rd p W (gC (.bl b))) := qc pe_bl fun _ _ => .bl b
theorem qnon {j pos} : PE X (.Constant .none j pos) (rd p W (gC .non)) := qc pe_non fun _ _ => .non
theorem qstr {x : Str} {j pos} : PE X (.Constant (.str x) j pos) (rd p W (gC (.str x))) := qc pe_str fun _ _ => .str x

/-! ### operators -/
/-- what an operation on two values does, by data -/
def rOp (p : Pg) (W : WX) (g : DV → DV → Sto → R DV) : R2 := fun x y H Q => ∃ G a b σ, Gd p G H ∧ Rp p G.F G.μ a x ∧ Rp p G.F G.μ b y ∧ PoV p W G σ (g a b G.st) Q
@[simp] def gBin (g : DV → DV → Sto → R DV) (ga gb : GE) : GE := fun ρ s => (ga ρ s).bind fun a s1 => (gb ρ s1).bind fun b s2 => g a b s2
@[simp] def gUn (g : DV → Sto → R DV) (ga : GE) : GE := fun ρ s => (ga ρ s).bind fun a s1 => g a s1
section
variable {g : DV → DV → Sto → R DV} {ga gb : GE} {a b : Expr} {pos : Pos}
theorem two {ta tb : TE} {σ : L2.St} {H : Hp} {Q : VK} {r : R2} (ha : ∀ σ H Q, rd p W ga σ H Q → ta σ H Q) (hb : ∀ σ H Q, rd p W gb σ H Q → tb σ H Q)
    (hr : ∀ x y H Q, (∃ G a b, Gd p G H ∧ Rp p G.F G.μ a x ∧ Rp p G.F G.μ b y ∧ PoV p W G σ (g a b G.st) Q) → r x y H Q) (h : rd p W (gBin g ga gb) σ H Q) :
    ta σ H fun x H1 => tb σ H1 fun y H2 => r x y H2 Q := by
  obtain ⟨G, ρ, gd, en, po⟩ := h
  refine ha σ H _ ⟨G, ρ, gd, en, (Po.bind po).imp fun v H1 ⟨G1, a, x1, gd1, r1, po1⟩ => ?_⟩
  refine hb σ H1 _ ⟨G1, ρ, gd1, en.gx x1, (Po.bind po1).imp fun u H2 ⟨G2, b, x2, gd2, r2, po2⟩ => ?_⟩
  exact hr v u H2 Q ⟨G2, a, b, gd2, Rg.gx r1 x2, r2, po2⟩
theorem qbin {op : Operator} (ho : OpR X (binaryOp op) (rOp p W g)) (ha : PE X a (rd p W ga)) (hb : PE X b (rd p W gb)) : PE X (.BinOp a op b pos) (rd p W (gBin g ga gb)) :=
  PE.imp (pe_op ho ha hb) fun σ H Q h => two (fun _ _ _ z => z) (fun _ _ _ z => z) (fun x y H Q ⟨G, a, b, gd, r1, r2, po⟩ => ⟨G, a, b, σ, gd, r1, r2, po⟩) h
theorem qcmp {op : CmpOp} (ho : OpR X (compareOp op) (rOp p W g)) (ha : PE X a (rd p W ga)) (hb : PE X b (rd p W gb)) (hm : behindInMarks op b = false) : PE X (.Compare a [op] [b] pos) (rd p W (gBin g ga gb)) :=
  PE.imp (pe_cmpR ho ha hb hm) fun σ H Q h => two (fun _ _ _ z => z) (fun _ _ _ z => z) (fun x y H Q ⟨G, a, b, gd, r1, r2, po⟩ => ⟨G, a, b, σ, gd, r1, r2, po⟩) h
end
/-- a result that is not an exception -/
theorem OpR.of {f : Value → Value → Sem Value} {g : DV → DV → Sto → R DV} (h : ∀ (G : Gh) (H : Hp) (σ : L2.St) (a b : DV) (x y : V) (Q : VK), Gd p G H → Rp p G.F G.μ a x → Rp p G.F G.μ b y → PoV p W G σ (g a b G.st) Q →
      ∃ r : R2, OpR X f r ∧ r x y H Q) : OpR X f (rOp p W g) := fun pins s σ H x y v u Q I rx ry ⟨G, a, b, σ', gd, r1, r2, po⟩ => by
  obtain ⟨r, hr, q⟩ := h G H σ' a b x y Q gd r1 r2 po
  exact hr pins s σ H x y v u Q I rx ry q
/-- new immutable things -/
theorem new_lst {G : Gh} {H : Hp} {σ : L2.St} {xs : List DV} {vs : List V} {Q : VK} (gd : Gd p G H) (r : Rps p G.F G.μ xs vs) (po : PoV p W G σ (.ok (.lst xs) G.st) Q) {q : Addr} (hq : H q = none) : Q (.ref q) (upd H q (.lst vs)) :=
  Po.ret po (GX.lay gd hq) rfl (gd.lay hq) (.lst (by show upd G.F q _ q = _; rw [upd_same]) (Rgs.gx r (GX.lay gd hq)))
theorem new_tup {G : Gh} {H : Hp} {σ : L2.St} {xs : List DV} {vs : List V} {Q : VK} (gd : Gd p G H) (r : Rps p G.F G.μ xs vs) (po : PoV p W G σ (.ok (.tup xs) G.st) Q) {q : Addr} (hq : H q = none) : Q (.ref q) (upd H q (.tup vs)) :=
  Po.ret po (GX.lay gd hq) rfl (gd.lay hq) (.tup (SqT.of (by show upd G.F q _ q = _; rw [upd_same])) (Rgs.gx r (GX.lay gd hq)))
theorem new_mut {G : Gh} {H : Hp} {σ : L2.St} {xs : List DV} {vs : List V} {Q : VK} (gd : Gd p G H) (r : Rps p G.F G.μ xs vs) (po : PoV p W G σ (.ok (.mr G.st.length) (G.st ++ [some (.lst xs)])) Q) {q : Addr} (hq : H q = none) : Q (.ref q) (upd H q (.lst vs)) :=
  Po.ret po (GX.add (m := .lst xs) (a := q)) rfl (gd.add hq ⟨vs, rfl, r⟩) (.mr (by rw [← gd.len]; exact Gh.add_at))

/-! ### whole numbers, texts, lists under an operator -/
def mulOk (i j : Int) : Bool := decide (i.natAbs.log2 + j.natAbs.log2 < 134217000)
def divOk (j : Int) : Bool := decide (j ≠ 0) && decide (j.natAbs.log2 < 9000)
def powOk (i j : Int) : Bool := decide (0 ≤ j) && decide (j ≤ 1000000) && decide (i.natAbs < 2 ^ 64)
def okIf (c : Bool) (d : DV) (s : Sto) : R DV := match c with
  | true => .ok d s
  | false => .bad
theorem okIf_true {d : DV} {s : Sto} : okIf true d s = .ok d s := rfl
@[simp] def addD : DV → DV → Sto → R DV
  | .int i, .int j, s => .ok (.int (i + j)) s
  | .str x, .str y, s => okIf (decide (x.length + y.length ≤ sizeLine)) (.str (x ++ y)) s
  | .lst xs, .lst ys, s => okIf (decide (xs.length + ys.length ≤ sizeLine)) (.lst (xs ++ ys)) s
  | .tup xs, .tup ys, s => okIf (!xs.isEmpty && decide (xs.length + ys.length ≤ sizeLine)) (.tup (xs ++ ys)) s
  | _, _, _ => .bad
@[simp] def subD : DV → DV → Sto → R DV
  | .int i, .int j, s => .ok (.int (i - j)) s
  | _, _, _ => .bad
def mulD : DV → DV → Sto → R DV
  | .int i, .int j, s => okIf (mulOk i j) (.int (i * j)) s
  | .lst xs, .int k, s => okIf (decide (0 ≤ k ∧ k < 2 ^ 63 ∧ xs.length * k.toNat ≤ sizeLine)) (.lst (List.replicate k.toNat xs).flatten) s
  | _, _, _ => .bad
def fdivD : DV → DV → Sto → R DV
  | .int i, .int j, s => okIf (divOk j) (.int (i.fdiv j)) s
  | _, _, _ => .bad
def modD : DV → DV → Sto → R DV
  | .int i, .int j, s => okIf (decide (j ≠ 0)) (.int (i.fmod j)) s
  | _, _, _ => .bad
def powD : DV → DV → Sto → R DV
  | .int i, .int j, s => okIf (powOk i j) (.int (i ^ j.toNat)) s
  | _, _, _ => .bad
theorem okIf_po {c : Bool} {d : DV} {s : Sto} {G : Gh} {σ : L2.St} {Q : VK} (h : PoV p W G σ (okIf c d s) Q) : c = true ∧ PoV p W G σ (.ok d s) Q := by
  cases c with
  | true => exact ⟨rfl, h⟩
  | false => exact h.elim
theorem Rps.nil_iff {F : Hp} {μ : List Addr} {ds : List DV} {vs : List V} (h : Rps p F μ ds vs) : vs = [] ↔ ds = [] := by
  have := h.length
  constructor
  · rintro rfl; exact List.eq_nil_of_length_eq_zero (by simpa using this)
  · rintro rfl; exact List.eq_nil_of_length_eq_zero (by simpa using this.symm)
theorem opd_add (hK : X.K = p.K) : OpR X (binaryOp .Add) (rOp p W addD) := OpR.of fun G H σ a b x y Q gd ra rb po => by
  unfold addD at po
  split at po
  · cases ra; cases rb
    exact ⟨_, op_add, _, _, rfl, rfl, Po.ret po GX.rfl' rfl gd (.int _)⟩
  · cases ra; cases rb
    obtain ⟨c, po⟩ := okIf_po po
    exact ⟨_, op_add_str, _, _, rfl, rfl, of_decide_eq_true c, Po.ret po GX.rfl' rfl gd (.str _)⟩
  · cases ra with
    | lst ha rs =>
      cases rb with
      | lst hb rt =>
        obtain ⟨c, po⟩ := okIf_po po
        refine ⟨_, op_cat, _, _, _, _, rfl, rfl, gd.le _ _ ha, gd.le _ _ hb, ?_, fun q hq => new_lst gd (rs.app rt) po hq⟩
        rw [← rs.length, ← rt.length]; exact of_decide_eq_true c
  · cases ra with
    | tup ha rs =>
      cases rb with
      | tup hb rt =>
        obtain ⟨c, po⟩ := okIf_po po
        rw [Bool.and_eq_true] at c
        refine ⟨_, op_catT, _, _, _, _, rfl, rfl, by rw [hK]; exact sqT_up gd.le ha, by rw [hK]; exact sqT_up gd.le hb, fun z => ?_, ?_, fun z => ?_, fun z q hq => new_tup gd (rs.app rt) po hq⟩
        · rw [rs.nil_iff.mp z] at c; exact absurd c.1 (by decide)
        · rw [← rs.length, ← rt.length]; exact of_decide_eq_true c.2
        · rw [rt.nil_iff.mp z, List.append_nil] at po
          exact Po.ret po GX.rfl' rfl gd (.tup ha rs)
  · exact po.elim
theorem opd_sub : OpR X (binaryOp .Sub) (rOp p W subD) := OpR.of fun G H σ a b x y Q gd ra rb po => by
  unfold subD at po
  split at po
  · cases ra; cases rb
    exact ⟨_, op_sub, _, _, rfl, rfl, Po.ret po GX.rfl' rfl gd (.int _)⟩
  · exact po.elim
theorem mulOk_ok {i j : Int} (h : mulOk i j = true) : IntMulOk i j := by
  have h' := of_decide_eq_true h
  exact CMulX.ok (mulx_ok (a := i.natAbs.log2 + 1) (b := j.natAbs.log2 + 1) Nat.lt_log2_self Nat.lt_log2_self (by omega))
theorem opd_mul : OpR X (binaryOp .Mult) (rOp p W mulD) := OpR.of fun G H σ a b x y Q gd ra rb po => by
  unfold mulD at po
  split at po
  · cases ra; cases rb
    obtain ⟨c, po⟩ := okIf_po po
    exact ⟨_, opI (g := fun i j => i * j) (C := IntMulOk) fun _ _ _ _ _ _ _ hc q => mul_int q hc, _, _, rfl, rfl, mulOk_ok c, Po.ret po GX.rfl' rfl gd (.int _)⟩
  · cases rb
    cases ra with
    | lst ha rs =>
      obtain ⟨c, po⟩ := okIf_po po
      have c := of_decide_eq_true c
      refine ⟨_, op_rep, _, _, _, rfl, rfl, gd.le _ _ ha, by omega, c.2.1, ?_, fun q hq => new_lst gd (rs.rep _) po hq⟩
      rw [← rs.length]; exact c.2.2
  · exact po.elim
theorem opd_fdiv : OpR X (binaryOp .FloorDiv) (rOp p W fdivD) := OpR.of fun G H σ a b x y Q gd ra rb po => by
  unfold fdivD at po
  split at po
  · cases ra; cases rb
    obtain ⟨c, po⟩ := okIf_po po
    unfold divOk at c
    rw [Bool.and_eq_true] at c
    refine ⟨_, opI (g := fun i j => i.fdiv j) (C := fun _ j => j ≠ 0 ∧ j.natAbs.log2 < 9000) fun i j _ _ _ _ _ hc q => floordiv_int hc.1 q (.inl (PyProof.noPylong_of_log2 hc.2)), _, _, rfl, rfl, ⟨of_decide_eq_true c.1, of_decide_eq_true c.2⟩, Po.ret po GX.rfl' rfl gd (.int _)⟩
  · exact po.elim
theorem opd_mod : OpR X (binaryOp .Mod) (rOp p W modD) := OpR.of fun G H σ a b x y Q gd ra rb po => by
  unfold modD at po
  split at po
  · cases ra; cases rb
    obtain ⟨c, po⟩ := okIf_po po
    exact ⟨_, op_modN, _, _, rfl, rfl, of_decide_eq_true c, Po.ret po GX.rfl' rfl gd (.int _)⟩
  · exact po.elim
theorem opd_pow : OpR X (binaryOp .Pow) (rOp p W powD) := OpR.of fun G H σ a b x y Q gd ra rb po => by
  unfold powD at po
  split at po
  · cases ra; cases rb
    obtain ⟨c, po⟩ := okIf_po po
    unfold powOk at c
    rw [Bool.and_eq_true, Bool.and_eq_true] at c
    exact ⟨_, op_pow, _, _, rfl, rfl, ⟨of_decide_eq_true c.1.1, of_decide_eq_true c.1.2, of_decide_eq_true c.2⟩, Po.ret po GX.rfl' rfl gd (.int _)⟩
  · exact po.elim
def rUn1 (p : Pg) (W : WX) (g : DV → Sto → R DV) : V → Hp → VK → Prop := fun x H Q => ∃ G a σ, Gd p G H ∧ Rp p G.F G.μ a x ∧ PoV p W G σ (g a G.st) Q
@[simp] def negD : DV → Sto → R DV
  | .int i, s => .ok (.int (-i)) s
  | _, _ => .bad
theorem one {g : DV → Sto → R DV} {ga : GE} {ta : TE} {σ : L2.St} {H : Hp} {Q : VK} {r : V → Hp → VK → Prop} (ha : ∀ σ H Q, rd p W ga σ H Q → ta σ H Q)
    (hr : ∀ x H Q, (∃ G a, Gd p G H ∧ Rp p G.F G.μ a x ∧ PoV p W G σ (g a G.st) Q) → r x H Q) (h : rd p W (gUn g ga) σ H Q) : ta σ H fun x H1 => r x H1 Q := by
  obtain ⟨G, ρ, gd, en, po⟩ := h
  exact ha σ H _ ⟨G, ρ, gd, en, (Po.bind po).imp fun v H1 ⟨G1, a, x1, gd1, r1, po1⟩ => hr v H1 Q ⟨G1, a, gd1, r1, po1⟩⟩
theorem qun {op : UnaryOp} {g : DV → Sto → R DV} {ga : GE} {a : Expr} {pos : Pos} (ho : UnR X (unaryOp op) (rUn1 p W g)) (ha : PE X a (rd p W ga)) : PE X (.UnaryOp op a pos) (rd p W (gUn g ga)) :=
  PE.imp (pe_un ho ha) fun σ H Q h => one (fun _ _ _ z => z) (fun x H Q ⟨G, a, gd, r1, po⟩ => ⟨G, a, σ, gd, r1, po⟩) h
theorem UnR.of {f : Value → Sem Value} {g : DV → Sto → R DV} (h : ∀ (G : Gh) (H : Hp) (σ : L2.St) (a : DV) (x : V) (Q : VK), Gd p G H → Rp p G.F G.μ a x → PoV p W G σ (g a G.st) Q →
      ∃ r : V → Hp → VK → Prop, UnR X f r ∧ r x H Q) : UnR X f (rUn1 p W g) := fun pins s σ H x v Q I rx ⟨G, a, σ', gd, r1, po⟩ => by
  obtain ⟨r, hr, q⟩ := h G H σ' a x Q gd r1 po
  exact hr pins s σ H x v Q I rx q
theorem opd_neg : UnR X (unaryOp .USub) (rUn1 p W negD) := UnR.of fun G H σ a x Q gd ra po => by
  unfold negD at po
  split at po
  · cases ra
    exact ⟨_, un_neg, _, rfl, Po.ret po GX.rfl' rfl gd (.int _)⟩
  · exact po.elim

/-! ### comparisons -/
@[simp] def ordD (f : Int → Int → Bool) : DV → DV → Sto → R DV
  | .int i, .int j, s => .ok (.bl (f i j)) s
  | _, _, _ => .bad
abbrev ltD := ordD fun i j => decide (i < j)
abbrev leD := ordD fun i j => decide (i ≤ j)
abbrev gtD := ordD fun i j => decide (j < i)
abbrev geD := ordD fun i j => decide (j ≤ i)
theorem opd_ord {f : Value → Value → Sem Value} {k : Int → Int → Bool} (h : OpR X f (rI0 fun i j => .bl (k i j))) : OpR X f (rOp p W (ordD k)) := OpR.of fun G H σ a b x y Q gd ra rb po => by
  unfold ordD at po
  split at po
  · cases ra; cases rb
    exact ⟨_, h, _, _, rfl, rfl, Po.ret po GX.rfl' rfl gd (.bl _)⟩
  · exact po.elim
theorem opd_lt : OpR X (compareOp .Lt) (rOp p W ltD) := opd_ord op_lt
theorem opd_le : OpR X (compareOp .LtE) (rOp p W leD) := opd_ord op_le
theorem opd_gt : OpR X (compareOp .Gt) (rOp p W gtD) := opd_ord op_gt
theorem opd_ge : OpR X (compareOp .GtE) (rOp p W geD) := opd_ord op_ge
mutual
/-- as the library's data -/
def DV.py : DV → Option PyData
  | .non => some .none
  | .bl b => some (.bool b)
  | .int i => some (.int i)
  | .str x => some (.str x)
  | .lst xs => (DV.pys xs).map .list
  | .wl xs => (DV.pys xs).map .list
  | .tup xs => (DV.pys xs).map .tuple
  | .ins _ _ _ => none
  | .mr _ => none
  | .exn _ _ _ => none
  | .fn _ => none
  | .cls _ => none
  | .lam _ => none
def DV.pys : List DV → Option (List PyData)
  | [] => some []
  | x :: xs => match x.py, DV.pys xs with
    | some d, some ds => some (d :: ds)
    | _, _ => none
end
/-- with a list that is still in the making at the top -/
def pyS (s : Sto) : DV → Option PyData
  | .mr k => match s[k]? with
    | some (some (.lst xs)) => (DV.pys xs).map .list
    | _ => none
  | d => d.py
def eqD (a b : DV) (s : Sto) : R DV := match pyS s a, pyS s b with
  | some d, some e => okIf (SeqAt.shaped d && SeqAt.shaped e) (.bl (PyData.eqv d e)) s
  | _, _ => .bad
def neD (a b : DV) (s : Sto) : R DV := match pyS s a, pyS s b with
  | some d, some e => okIf (SeqAt.shaped d && SeqAt.shaped e) (.bl (!PyData.eqv d e)) s
  | _, _ => .bad
mutual
theorem dp_of {F : Hp} {μ : List Addr} : ∀ (d : DV) (v : V) (y : PyData), Rp p F μ d v → d.py = some y → Dp p.K F v y
  | .non, _, _, .non, h => by unfold DV.py at h; cases h; exact .non
  | .bl _, _, _, .bl b, h => by unfold DV.py at h; cases h; exact .bl b
  | .int _, _, _, .int i, h => by unfold DV.py at h; cases h; exact .int i
  | .str _, _, _, .str x, h => by unfold DV.py at h; cases h; exact .str x
  | .lst xs, _, _, .lst a r, h => by
    unfold DV.py at h
    cases e : DV.pys xs with
    | none => rw [e] at h; cases h
    | some ys => rw [e] at h; cases h; exact .lst (SqL.of a) (dps_of xs _ ys r e)
  | .wl xs, _, _, .wl a r, h => by
    unfold DV.py at h
    cases e : DV.pys xs with
    | none => rw [e] at h; cases h
    | some ys => rw [e] at h; cases h; exact .lst a (dps_of xs _ ys r e)
  | .tup xs, _, _, .tup a r, h => by
    unfold DV.py at h
    cases e : DV.pys xs with
    | none => rw [e] at h; cases h
    | some ys => rw [e] at h; cases h; exact .tup a (dps_of xs _ ys r e)
  | .ins _ _ _, _, _, _, h => by unfold DV.py at h; cases h
  | .mr _, _, _, _, h => by unfold DV.py at h; cases h
  | .exn _ _ _, _, _, _, h => by unfold DV.py at h; cases h
  | .fn _, _, _, _, h => by unfold DV.py at h; cases h
  | .cls _, _, _, _, h => by unfold DV.py at h; cases h
  | .lam _, _, _, _, h => by unfold DV.py at h; cases h
theorem dps_of {F : Hp} {μ : List Addr} : ∀ (ds : List DV) (vs : List V) (ys : List PyData), Rps p F μ ds vs → DV.pys ds = some ys → DpAll p.K F vs ys
  | [], _, _, .nil, h => by unfold DV.pys at h; cases h; exact .nil
  | d :: ds, _, _, .cons r t, h => by
    unfold DV.pys at h
    cases e1 : d.py with
    | none => rw [e1] at h; cases h
    | some y =>
      cases e2 : DV.pys ds with
      | none => rw [e1, e2] at h; cases h
      | some ys => rw [e1, e2] at h; cases h; exact .cons (dp_of d _ y r e1) (dps_of ds _ ys t e2)
end
mutual
theorem dp_up {K : PySem.W.Frag} {F H : Hp} (k : ∀ a o, F a = some o → H a = some o) : ∀ (y : PyData) (v : V), Dp K F v y → Dp K H v y
  | _, _, .non => .non
  | _, _, .bl b => .bl b
  | _, _, .int i => .int i
  | _, _, .str x => .str x
  | .list ys, _, .lst a r => .lst (sqL_up k a) (dps_up k ys _ r)
  | .tuple ys, _, .tup a r => .tup (sqT_up k a) (dps_up k ys _ r)
theorem dps_up {K : PySem.W.Frag} {F H : Hp} (k : ∀ a o, F a = some o → H a = some o) : ∀ (ys : List PyData) (vs : List V), DpAll K F vs ys → DpAll K H vs ys
  | [], _, .nil => .nil
  | y :: ys, _, .cons a b => .cons (dp_up k y _ a) (dps_up k ys _ b)
end
theorem dpS_of {G : Gh} {H : Hp} (gd : Gd p G H) {d : DV} {v : V} {y : PyData} (r : Rp p G.F G.μ d v) (h : pyS G.st d = some y) : Dp p.K H v y := by
  unfold pyS at h
  split at h
  · split at h
    · rename_i k _ xs e
      cases r with
      | mr hm =>
        obtain ⟨a, e1, e2, vs, e3, e4⟩ := gd.live k _ e
        rw [hm] at e1; cases e1
        cases e5 : DV.pys xs with
        | none => rw [e5] at h; cases h
        | some ys => rw [e5] at h; cases h; exact .lst (SqL.of e3) (dps_up gd.le ys _ (dps_of xs _ ys e4 e5))
    · cases h
  · exact dp_up gd.le y _ (dp_of d v y r h)
theorem opd_eq (hK : X.K = p.K) (hu : X.A.units + 64 < cLine) : OpR X (compareOp .Eq) (rOp p W eqD) := OpR.of fun G H σ a b x y Q gd ra rb po => by
  unfold eqD at po
  split at po
  · rename_i d e h1 h2
    obtain ⟨c, po⟩ := okIf_po po
    rw [Bool.and_eq_true] at c
    exact ⟨_, op_eqD hu, d, e, by rw [hK]; exact dpS_of gd ra h1, by rw [hK]; exact dpS_of gd rb h2, c.1, c.2, Po.ret po GX.rfl' rfl gd (.bl _)⟩
  · exact po.elim
theorem opd_ne (hK : X.K = p.K) (hu : X.A.units + 64 < cLine) : OpR X (compareOp .NotEq) (rOp p W neD) := OpR.of fun G H σ a b x y Q gd ra rb po => by
  unfold neD at po
  split at po
  · rename_i d e h1 h2
    obtain ⟨c, po⟩ := okIf_po po
    rw [Bool.and_eq_true] at c
    exact ⟨_, op_neD hu, d, e, by rw [hK]; exact dpS_of gd ra h1, by rw [hK]; exact dpS_of gd rb h2, c.1, c.2, Po.ret po GX.rfl' rfl gd (.bl _)⟩
  · exact po.elim
/-- is None -/
@[simp] def DV.isN : DV → Bool
  | .non => true
  | _ => false
@[simp] def isD (neg : Bool) : DV → DV → Sto → R DV
  | a, .non, s => .ok (.bl (if neg then !a.isN else a.isN)) s
  | _, _, _ => .bad
theorem Rp.isN {F : Hp} {μ : List Addr} {d : DV} {v : V} (h : Rp p F μ d v) : decide (v = .non) = d.isN := by
  cases h <;> rfl
theorem opd_is : OpR X (compareOp .Is) (rOp p W (isD false)) := OpR.of fun G H σ a b x y Q gd ra rb po => by
  unfold isD at po
  split at po
  · cases rb
    exact ⟨_, op_isN, rfl, by rw [ra.isN]; exact Po.ret po GX.rfl' rfl gd (.bl _)⟩
  · exact po.elim
theorem opd_isnot : OpR X (compareOp .IsNot) (rOp p W (isD true)) := OpR.of fun G H σ a b x y Q gd ra rb po => by
  unfold isD at po
  split at po
  · cases rb
    exact ⟨_, op_notN, rfl, by rw [ra.isN]; exact Po.ret po GX.rfl' rfl gd (.bl _)⟩
  · exact po.elim
/-- the items of a list or tuple -/
@[simp] def seqS (s : Sto) : DV → Option (List DV)
  | .lst xs => some xs
  | .wl xs => some xs
  | .tup xs => some xs
  | .mr k => match s[k]? with
    | some (some (.lst xs)) => some xs
    | _ => none
  | _ => none
theorem seq_of {G : Gh} {H : Hp} (gd : Gd p G H) {d : DV} {v : V} {xs : List DV} (r : Rp p G.F G.μ d v) (h : seqS G.st d = some xs) :
    ∃ a vs, v = .ref a ∧ (SqL p.K H a vs ∨ SqT p.K H a vs) ∧ Rps p G.F G.μ xs vs := by
  unfold seqS at h
  split at h
  · cases h
    cases r with
    | lst e rs => exact ⟨_, _, rfl, .inl (SqL.of (gd.le _ _ e)), rs⟩
  · cases h
    cases r with
    | wl e rs => exact ⟨_, _, rfl, .inl (sqL_up gd.le e), rs⟩
  · cases h
    cases r with
    | tup e rs => exact ⟨_, _, rfl, .inr (sqT_up gd.le e), rs⟩
  · split at h
    · rename_i k _ ys e
      cases h
      cases r with
      | mr hm =>
        obtain ⟨a, e1, e2, vs, e3, e4⟩ := gd.live k _ e
        rw [hm] at e1; cases e1
        exact ⟨_, vs, rfl, .inl (SqL.of e3), e4⟩
    · cases h
  · cases h
def DV.flat : DV → Bool
  | .non => true
  | .bl _ => true
  | .int _ => true
  | .str _ => true
  | _ => false
def eqF : DV → DV → Bool
  | .non, .non => true
  | .bl a, .bl b => a == b
  | .bl a, .int b => (if a then 1 else 0) == b
  | .int a, .bl b => a == (if b then 1 else 0)
  | .int a, .int b => a == b
  | .str a, .str b => a == b
  | _, _ => false
theorem flat_of {F : Hp} {μ : List Addr} {d : DV} {v : V} (h : Rp p F μ d v) (f : d.flat = true) : flatV v = true := by
  cases h <;> first | rfl | cases f
theorem flats_of {F : Hp} {μ : List Addr} : ∀ {ds : List DV} {vs : List V}, Rps p F μ ds vs → ds.all DV.flat = true → vs.all flatV = true
  | [], _, .nil, _ => rfl
  | _ :: _, _, .cons r t, f => by
    rw [List.all_cons, Bool.and_eq_true] at f ⊢
    exact ⟨flat_of r f.1, flats_of t f.2⟩
theorem eqV_of {F : Hp} {μ : List Addr} {d e : DV} {v u : V} (h : Rp p F μ d v) (k : Rp p F μ e u) : d.flat = true → e.flat = true → eqV v u = eqF d e := by
  intro f1 f2
  cases h <;> cases k <;> first | rfl | (exact nomatch f1) | (exact nomatch f2)
def inF (x : DV) (xs : List DV) : Bool := xs.any fun y => eqF y x
theorem inV_of {F : Hp} {μ : List Addr} {d : DV} {v : V} (h : Rp p F μ d v) (f : d.flat = true) : ∀ {ds : List DV} {vs : List V}, Rps p F μ ds vs → ds.all DV.flat = true → inV v vs = inF d ds
  | [], _, .nil, _ => rfl
  | _ :: _, _, .cons r t, g => by
    rw [List.all_cons, Bool.and_eq_true] at g
    unfold inV inF
    rw [List.any_cons, List.any_cons, eqV_of r h g.1 f]
    have := inV_of h f t g.2
    unfold inV inF at this
    rw [this]
def inD (neg : Bool) (x c : DV) (s : Sto) : R DV := match seqS s c with
  | some xs => okIf (x.flat && xs.all DV.flat) (.bl (if neg then !inF x xs else inF x xs)) s
  | none => .bad
theorem opd_inG {f : Value → Value → Sem Value} {neg : Bool} (h : OpR X f (rIn X.K neg)) (hK : X.K = p.K) : OpR X f (rOp p W (inD neg)) := OpR.of fun G H σ a b x y Q gd ra rb po => by
  unfold inD at po
  split at po
  · rename_i xs e
    obtain ⟨c, po⟩ := okIf_po po
    rw [Bool.and_eq_true] at c
    obtain ⟨q, vs, rfl, hs, rs⟩ := seq_of gd rb e
    refine ⟨_, h, q, vs, rfl, by rw [hK]; exact hs, flat_of ra c.1, flats_of rs c.2, ?_⟩
    rw [inV_of ra c.1 rs c.2]
    exact Po.ret po GX.rfl' rfl gd (.bl _)
  · exact po.elim
theorem opd_in (hK : X.K = p.K) : OpR X (compareOp .In) (rOp p W (inD false)) := opd_inG op_in_seq hK
theorem opd_notin (hK : X.K = p.K) : OpR X (compareOp .NotIn) (rOp p W (inD true)) := opd_inG op_notIn_seq hK
end
end Dq

/-! Tests, displays, items, arguments. -/
namespace Dq
open PySem PySem.Spec PyProof.Rows L2
section
variable {p : Pg} {X : Cx} {W : WX}

/-! ### tests -/
@[simp] def truB : DV → Sto → R Bool
  | .bl b, s => .ok b s
  | _, _ => .bad
@[simp] def truD : DV → Sto → R Bool
  | .non, s => .ok false s
  | .bl b, s => .ok b s
  | .int i, s => .ok (i != 0) s
  | .str x, s => match decide (x.length ≤ sizeLine) with
    | true => .ok ((x.length : Int) != 0) s
    | false => .bad
  | .lst xs, s => .ok (!xs.isEmpty) s
  | .wl xs, s => .ok (!xs.isEmpty) s
  | .tup xs, s => .ok (!xs.isEmpty) s
  | .mr k, s => match s[k]? with
    | some (some (.lst xs)) => .ok (!xs.isEmpty) s
    | _ => .bad
  | _, _ => .bad
@[simp] def gT (f : DV → Sto → R Bool) (g : GE) : GB := fun ρ s => (g ρ s).bind f
theorem Rps.isEmpty {F : Hp} {μ : List Addr} {ds : List DV} {vs : List V} (h : Rps p F μ ds vs) : (!vs.isEmpty) = !ds.isEmpty := by
  cases ds <;> cases vs <;> first | rfl | (exact nomatch h.length) | (cases h)
theorem tru_of {G : Gh} {H : Hp} {σ : L2.St} (gd : Gd p G H) {d : DV} {v : V} (r : Rp p G.F G.μ d v) {Q : Bool → Hp → Prop} (po : PoB p W G σ (truD d G.st) Q) : ∃ k, TruV p.K v H k ∧ Q k H := by
  unfold truD at po
  split at po
  · cases r; exact ⟨false, rfl, Po.ret po GX.rfl' rfl gd rfl⟩
  · cases r; exact ⟨_, rfl, Po.ret po GX.rfl' rfl gd rfl⟩
  · cases r; exact ⟨_, rfl, Po.ret po GX.rfl' rfl gd rfl⟩
  · cases r
    split at po
    · rename_i c
      exact ⟨_, ⟨of_decide_eq_true c, rfl⟩, Po.ret po GX.rfl' rfl gd rfl⟩
    · exact po.elim
  · cases r with
    | lst a rs => exact ⟨_, .inl ⟨_, SqL.of (gd.le _ _ a), (Rps.isEmpty rs).symm⟩, Po.ret po GX.rfl' rfl gd rfl⟩
  · cases r with
    | wl a rs => exact ⟨_, .inl ⟨_, sqL_up gd.le a, (Rps.isEmpty rs).symm⟩, Po.ret po GX.rfl' rfl gd rfl⟩
  · cases r with
    | tup a rs => exact ⟨_, .inr (.inl ⟨_, sqT_up gd.le a, (Rps.isEmpty rs).symm⟩), Po.ret po GX.rfl' rfl gd rfl⟩
  · cases r with
    | mr hm =>
      split at po
      · rename_i xs e
        obtain ⟨a, e1, e2, vs, e3, e4⟩ := gd.live _ _ e
        rw [hm] at e1; cases e1
        exact ⟨_, .inl ⟨_, SqL.of e3, (Rps.isEmpty e4).symm⟩, Po.ret po GX.rfl' rfl gd rfl⟩
      · exact po.elim
  · exact po.elim
theorem rdB_tru {g : GE} {σ : L2.St} {H : Hp} {Q : Bool → Hp → Prop} (h : rdB p W (gT truD g) σ H Q) : rd p W g σ H fun x H1 => ∃ k, TruV p.K x H1 k ∧ Q k H1 := by
  obtain ⟨G, ρ, gd, en, po⟩ := h
  exact ⟨G, ρ, gd, en, (Po.bind po).imp fun v H1 ⟨G1, a, x1, gd1, r1, po1⟩ => tru_of gd1 r1 po1⟩
theorem rdB_b {g : GE} {σ : L2.St} {H : Hp} {Q : Bool → Hp → Prop} (h : rdB p W (gT truB g) σ H Q) : rd p W g σ H fun x H1 => ∃ k, x = .bl k ∧ Q k H1 := by
  obtain ⟨G, ρ, gd, en, po⟩ := h
  refine ⟨G, ρ, gd, en, (Po.bind po).imp fun v H1 ⟨G1, a, x1, gd1, r1, po1⟩ => ?_⟩
  unfold truB at po1
  split at po1
  · cases r1; exact ⟨_, rfl, Po.ret po1 GX.rfl' rfl gd1 rfl⟩
  · exact po1.elim
section
variable {a b c : Expr} {pos : Pos} {g g2 : DV → DV → Sto → R DV} {ga gb gc : GE} {rest : List Expr} {ta tb : GB}
theorem qt (ha : PE X a (rd p W ga)) (he : ∀ whole, isTrue a X.env whole = (do let v ← whole; standAt a.pos; holding [v] (truthy v)) := by intro _; rfl) (hK : X.K = p.K := by rfl) : PT X a (rdB p W (gT truD ga)) :=
  PT.imp (pt_truth ha he) fun σ H Q h => by rw [hK]; exact rdB_tru h
theorem qtcmp {op : CmpOp} (ho : OpR X (compareOp op) (rOp p W g)) (ha : PE X a (rd p W ga)) (hb : PE X b (rd p W gb)) (hm : behindInMarks op b = false) : PT X (.Compare a [op] [b] pos) (rdB p W (gT truB (gBin g ga gb))) :=
  PT.imp (pt_cmpR ho ha hb hm) fun σ H Q h => two (fun _ _ _ z => z) (fun _ _ _ z => z) (fun x y H Q ⟨G, a, b, gd, r1, r2, po⟩ => ⟨G, a, b, σ, gd, r1, r2, po⟩) (rdB_b h)
/-- a op b op c -/
def gChain (g g2 : DV → DV → Sto → R DV) (ga gb gc : GE) : GE := fun ρ s => (ga ρ s).bind fun a s1 => (gb ρ s1).bind fun b s2 => (g a b s2).bind fun z s3 => match z with
  | .bl true => (gc ρ s3).bind fun c s4 => g2 b c s4
  | .bl false => .ok (.bl false) s3
  | _ => .bad
theorem chain_of {σ : L2.St} {H : Hp} {Q : VK} (h : rd p W (gChain g g2 ga gb gc) σ H Q) : tChain (rOp p W g) (rOp p W g2) (rd p W ga) (rd p W gb) (rd p W gc) σ H Q := by
  obtain ⟨G, ρ, gd, en, po⟩ := h
  refine ⟨G, ρ, gd, en, (Po.bind po).imp fun v H1 ⟨G1, a, x1, gd1, r1, po1⟩ => ?_⟩
  refine ⟨G1, ρ, gd1, en.gx x1, (Po.bind po1).imp fun u H2 ⟨G2, b, x2, gd2, r2, po2⟩ => ?_⟩
  refine ⟨G2, a, b, σ, gd2, Rg.gx r1 x2, r2, (Po.bind po2).imp fun z H3 ⟨G3, zd, x3, gd3, r3, po3⟩ => ?_⟩
  split at po3
  · cases r3
    refine ⟨true, rfl, ?_⟩
    show rd p W gc σ H3 _
    refine ⟨G3, ρ, gd3, en.gx (x1.trans (x2.trans x3)), (Po.bind po3).imp fun w H4 ⟨G4, c, x4, gd4, r4, po4⟩ => ?_⟩
    exact ⟨G4, b, c, σ, gd4, Rg.gx r2 (x3.trans x4), r4, po4⟩
  · cases r3
    exact ⟨false, rfl, Po.ret po3 GX.rfl' rfl gd3 (.bl _)⟩
  · exact po3.elim
theorem qchain {op op' : CmpOp} (ho : OpR X (compareOp op) (rOp p W g)) (ho' : OpR X (compareOp op') (rOp p W g2)) (ha : PE X a (rd p W ga)) (hb : PE X b (rd p W gb)) (hc : PE X c (rd p W gc))
    (hm : lastMarks [op, op'] [b, c] = false := by with_unfolding_all rfl) : PE X (.Compare a [op, op'] [b, c] pos) (rd p W (gChain g g2 ga gb gc)) :=
  PE.imp (pe_chain ho ho' ha hb hc hm) fun _ _ _ h => chain_of h
theorem qtchain {op op' : CmpOp} (ho : OpR X (compareOp op) (rOp p W g)) (ho' : OpR X (compareOp op') (rOp p W g2)) (ha : PE X a (rd p W ga)) (hb : PE X b (rd p W gb)) (hc : PE X c (rd p W gc))
    (hm : lastMarks [op, op'] [b, c] = false := by with_unfolding_all rfl) : PT X (.Compare a [op, op'] [b, c] pos) (rdB p W (gT truB (gChain g g2 ga gb gc))) :=
  PT.imp (pt_chain ho ho' ha hb hc hm) fun _ _ _ h => chain_of (rdB_b h)
@[simp] def gAnd (ta tb : GB) : GB := fun ρ s => (ta ρ s).bind fun c s1 => match c with
  | true => tb ρ s1
  | false => .ok false s1
@[simp] def gOr (ta tb : GB) : GB := fun ρ s => (ta ρ s).bind fun c s1 => match c with
  | true => .ok true s1
  | false => tb ρ s1
@[simp] def gNot (ta : GB) : GB := fun ρ s => (ta ρ s).bind fun c s1 => .ok (!c) s1
theorem qtnot (ha : PT X a (rdB p W ta)) : PT X (.UnaryOp .Not a pos) (rdB p W (gNot ta)) :=
  PT.imp (pt_not ha) fun σ H Q ⟨G, ρ, gd, en, po⟩ => ⟨G, ρ, gd, en, (Po.bind po).imp fun v H1 ⟨G1, a, x1, gd1, r1, po1⟩ => by cases r1; exact Po.ret po1 GX.rfl' rfl gd1 rfl⟩
theorem PW.imp {e : Expr} {t t' : TT} (h : PW X e t) (k : ∀ σ H Q, t' σ H Q → t σ H Q) : PW X e t' := ⟨fun wh pins s σ H Q I q => h.run wh pins s σ H Q I (k σ H Q q)⟩
theorem qw1 {op : BoolOp} (ha : PT X a (rdB p W ta)) : PW X (.BoolOp op [a] pos) (rdB p W ta) := by
  cases op with
  | And => exact pw_and1 ha
  | Or => exact pw_or1 ha
theorem qwand (ha : PT X a (rdB p W ta)) (hb : PW X (.BoolOp .And (b :: rest) pos) (rdB p W tb)) : PW X (.BoolOp .And (a :: b :: rest) pos) (rdB p W (gAnd ta tb)) :=
  PW.imp (pw_and ha hb) fun σ H Q ⟨G, ρ, gd, en, po⟩ => ⟨G, ρ, gd, en, (Po.bind po).imp fun v H1 ⟨G1, a, x1, gd1, r1, po1⟩ => by
    cases r1
    cases v with
    | true => exact iteT ⟨G1, ρ, gd1, en.gx x1, po1⟩
    | false => exact iteF (Po.ret po1 GX.rfl' rfl gd1 rfl)⟩
theorem qwor (ha : PT X a (rdB p W ta)) (hb : PW X (.BoolOp .Or (b :: rest) pos) (rdB p W tb)) : PW X (.BoolOp .Or (a :: b :: rest) pos) (rdB p W (gOr ta tb)) :=
  PW.imp (pw_or ha hb) fun σ H Q ⟨G, ρ, gd, en, po⟩ => ⟨G, ρ, gd, en, (Po.bind po).imp fun v H1 ⟨G1, a, x1, gd1, r1, po1⟩ => by
    cases r1
    cases v with
    | true => exact iteT (Po.ret po1 GX.rfl' rfl gd1 rfl)
    | false => exact iteF ⟨G1, ρ, gd1, en.gx x1, po1⟩⟩
/-! ### and, or, not as values; a if c else b -/
@[simp] def gAndV (ga gb : GE) : GE := fun ρ s => (ga ρ s).bind fun a s1 => (truD a s1).bind fun k s2 => match k with
  | true => gb ρ s2
  | false => .ok a s2
@[simp] def gOrV (ga gb : GE) : GE := fun ρ s => (ga ρ s).bind fun a s1 => (truD a s1).bind fun k s2 => match k with
  | true => .ok a s2
  | false => gb ρ s2
@[simp] def gNotV (ga : GE) : GE := fun ρ s => (ga ρ s).bind fun a s1 => (truD a s1).bind fun k s2 => .ok (.bl (!k)) s2
theorem q1 {op : BoolOp} (ha : PE X a (rd p W ga)) : PE X (.BoolOp op [a] pos) (rd p W ga) := pe_one ha
theorem tru_po {G : Gh} {H : Hp} {σ : L2.St} (gd : Gd p G H) {d : DV} {v : V} (r : Rp p G.F G.μ d v) {f : Bool → Sto → R DV} {Q : VK} (po : PoV p W G σ ((truD d G.st).bind f) Q) :
    ∃ k, TruV p.K v H k ∧ PoV p W G σ (f k G.st) Q := by
  have e := tru_of (W := W) (Q := fun k H' => PoV p W G σ (f k G.st) Q) gd r (σ := σ) (by
    cases h : truD d G.st with
    | ok k s =>
      rw [h] at po
      intro G' b H' x e g rl
      cases rl
      have es : s = G.st := by
        unfold truD at h
        split at h <;> first | (cases h; rfl) | (split at h <;> first | (cases h; rfl) | cases h) | cases h
      subst es
      exact po
    | exc c ks xs s =>
      unfold truD at h
      split at h <;> first | cases h | (split at h <;> cases h)
    | bad => rw [h] at po; exact po)
  exact e
theorem qand (ha : PE X a (rd p W ga)) (hb : PE X (.BoolOp .And (b :: rest) pos) (rd p W gb)) (hK : X.K = p.K := by rfl) : PE X (.BoolOp .And (a :: b :: rest) pos) (rd p W (gAndV ga gb)) :=
  PE.imp (pe_andT ha hb) fun σ H Q ⟨G, ρ, gd, en, po⟩ => ⟨G, ρ, gd, en, (Po.bind po).imp fun v H1 ⟨G1, a, x1, gd1, r1, po1⟩ => by
    obtain ⟨k, t, po2⟩ := tru_po gd1 r1 po1
    refine ⟨k, by rw [hK]; exact t, ?_⟩
    cases k with
    | true => exact iteT ⟨G1, ρ, gd1, en.gx x1, po2⟩
    | false => exact iteF (Po.ret po2 GX.rfl' rfl gd1 r1)⟩
theorem qor (ha : PE X a (rd p W ga)) (hb : PE X (.BoolOp .Or (b :: rest) pos) (rd p W gb)) (hK : X.K = p.K := by rfl) : PE X (.BoolOp .Or (a :: b :: rest) pos) (rd p W (gOrV ga gb)) :=
  PE.imp (pe_orT ha hb) fun σ H Q ⟨G, ρ, gd, en, po⟩ => ⟨G, ρ, gd, en, (Po.bind po).imp fun v H1 ⟨G1, a, x1, gd1, r1, po1⟩ => by
    obtain ⟨k, t, po2⟩ := tru_po gd1 r1 po1
    refine ⟨k, by rw [hK]; exact t, ?_⟩
    cases k with
    | true => exact iteT (Po.ret po2 GX.rfl' rfl gd1 r1)
    | false => exact iteF ⟨G1, ρ, gd1, en.gx x1, po2⟩⟩
theorem qnot (ha : PE X a (rd p W ga)) (hK : X.K = p.K := by rfl) : PE X (.UnaryOp .Not a pos) (rd p W (gNotV ga)) :=
  PE.imp (pe_notT ha) fun σ H Q ⟨G, ρ, gd, en, po⟩ => ⟨G, ρ, gd, en, (Po.bind po).imp fun v H1 ⟨G1, a, x1, gd1, r1, po1⟩ => by
    obtain ⟨k, t, po2⟩ := tru_po gd1 r1 po1
    exact ⟨k, by rw [hK]; exact t, Po.ret po2 GX.rfl' rfl gd1 (.bl _)⟩⟩
@[simp] def gIf (tc : GB) (ga gb : GE) : GE := fun ρ s => (tc ρ s).bind fun k s1 => match k with
  | true => ga ρ s1
  | false => gb ρ s1
theorem qif {tc : GB} (hc : PT X c (rdB p W tc)) (ha : PE X a (rd p W ga)) (hb : PE X b (rd p W gb)) : PE X (.IfExp c a b pos) (rd p W (gIf tc ga gb)) :=
  PE.imp (pe_ifExp hc ha hb) fun σ H Q ⟨G, ρ, gd, en, po⟩ => ⟨G, ρ, gd, en, (Po.bind po).imp fun v H1 ⟨G1, a, x1, gd1, r1, po1⟩ => by
    cases r1
    cases v with
    | true => exact iteT ⟨G1, ρ, gd1, en.gx x1, po1⟩
    | false => exact iteF ⟨G1, ρ, gd1, en.gx x1, po1⟩⟩
end

/-! ### argument lists, displays -/
@[simp] def gNil : GL := fun _ s => .ok [] s
@[simp] def gCons (ga : GE) (gl : GL) : GL := fun ρ s => (ga ρ s).bind fun a s1 => (gl ρ s1).bind fun l s2 => .ok (a :: l) s2
section
variable {e : Expr} {es : List Expr} {ga : GE} {gl : GL} {pos : Pos}
theorem qnil : PA X [] (rdL p W gNil) := PA.imp pa_nil fun σ H Q ⟨G, ρ, gd, en, po⟩ => Po.ret po GX.rfl' rfl gd .nil
theorem qcons (ha : PE X e (rd p W ga)) (hl : PA X es (rdL p W gl)) (hs : starEach (e :: es) X.env = (false, eval e X.env) :: starEach es X.env := by rfl) : PA X (e :: es) (rdL p W (gCons ga gl)) :=
  PA.imp (pa_cons ha hl hs) fun σ H Q ⟨G, ρ, gd, en, po⟩ => ⟨G, ρ, gd, en, (Po.bind po).imp fun v H1 ⟨G1, a, x1, gd1, r1, po1⟩ =>
    ⟨G1, ρ, gd1, en.gx x1, (Po.bind po1).imp fun vs H2 ⟨G2, l, x2, gd2, r2, po2⟩ => Po.ret po2 GX.rfl' rfl gd2 (.cons (Rg.gx r1 x2) r2)⟩⟩
@[simp] def gTup (gl : GL) : GE := fun ρ s => (gl ρ s).bind fun l s1 => okIf (decide (l.length ≤ sizeLine)) (.tup l) s1
@[simp] def gLst (gl : GL) : GE := fun ρ s => (gl ρ s).bind fun l s1 => okIf (decide (l.length ≤ sizeLine)) (.lst l) s1
/-- a list that will be changed -/
@[simp] def gMut (gl : GL) : GE := fun ρ s => (gl ρ s).bind fun l s1 => okIf (decide (l.length ≤ sizeLine)) (.mr s1.length) (s1 ++ [some (.lst l)])
theorem okIf_ok {c : Bool} {d : DV} {s : Sto} {G : Gh} {σ : L2.St} {Q : VK} (h : PoV p W G σ (okIf c d s) Q) : c = true ∧ PoV p W G σ (.ok d s) Q := okIf_po h
theorem qtup {x1} (hl : PA X es (rdL p W gl)) : PE X (.Tuple es x1 pos) (rd p W (gTup gl)) :=
  PE.imp (pe_tup hl) fun σ H Q ⟨G, ρ, gd, en, po⟩ => ⟨G, ρ, gd, en, (Po.bind po).imp fun vs H1 ⟨G1, l, x1, gd1, r1, po1⟩ => by
    obtain ⟨c, po1⟩ := okIf_po po1
    exact ⟨by rw [← Rps.length r1]; exact of_decide_eq_true c, fun q hq => new_tup gd1 r1 po1 hq⟩⟩
theorem qlst (hl : PA X es (rdL p W gl)) : PE X (.List es pos) (rd p W (gLst gl)) :=
  PE.imp (pe_lst hl) fun σ H Q ⟨G, ρ, gd, en, po⟩ => ⟨G, ρ, gd, en, (Po.bind po).imp fun vs H1 ⟨G1, l, x1, gd1, r1, po1⟩ => by
    obtain ⟨c, po1⟩ := okIf_po po1
    exact ⟨by rw [← Rps.length r1]; exact of_decide_eq_true c, fun q hq => new_lst gd1 r1 po1 hq⟩⟩
theorem qmut (hl : PA X es (rdL p W gl)) : PE X (.List es pos) (rd p W (gMut gl)) :=
  PE.imp (pe_lst hl) fun σ H Q ⟨G, ρ, gd, en, po⟩ => ⟨G, ρ, gd, en, (Po.bind po).imp fun vs H1 ⟨G1, l, x1, gd1, r1, po1⟩ => by
    obtain ⟨c, po1⟩ := okIf_po po1
    exact ⟨by rw [← Rps.length r1]; exact of_decide_eq_true c, fun q hq => new_mut gd1 r1 po1 hq⟩⟩
end

/-! ### items and slices -/
def ixD (a i : DV) (s : Sto) : R DV := match i with
  | .int k => match a with
    | .str z => match decide (z.length ≤ sizeLine), atI z.cps.toList k with
      | true, some c => .ok (.str ⟨#[c]⟩) s
      | _, _ => .bad
    | a => match seqS s a with
      | some xs => match atI xs k with
        | some d => .ok d s
        | none => .bad
      | none => .bad
  | _ => .bad
theorem atI_of {F : Hp} {μ : List Addr} {ds : List DV} {vs : List V} {k : Int} {d : DV} (h : Rps p F μ ds vs) (e : atI ds k = some d) : ∃ v, atI vs k = some v ∧ Rp p F μ d v := by
  unfold atI at e ⊢
  rw [← h.length]
  cases q : ixN ds.length k with
  | none => rw [q] at e; cases e
  | some j =>
    rw [q] at e
    exact h.get (i := j) (by simpa using e)
theorem opd_ix (hK : X.K = p.K) : IxR X (rOp p W ixD) := fun value slice pins s σ H x y v u Q I rx ry ⟨G, a, i, σ', gd, ra, ri, po⟩ hs => by
  unfold ixD at po
  split at po
  · cases ri
    split at po
    · cases ra
      split at po
      · rename_i h1 h2
        exact ix_str value slice pins s σ H _ _ v u Q I rx ry ⟨_, _, _, rfl, rfl, of_decide_eq_true h1, h2, Po.ret po GX.rfl' rfl gd (.str _)⟩ hs
      · exact po.elim
    · split at po
      · rename_i xs e
        split at po
        · rename_i d ed
          obtain ⟨q, vs, rfl, hq, rs⟩ := seq_of gd ra e
          obtain ⟨w, ew, rw'⟩ := atI_of rs ed
          rcases hq with hq | hq
          · exact ix_list value slice pins s σ H _ _ v u Q I rx ry ⟨q, vs, _, w, rfl, rfl, by rw [hK]; exact hq, ew, Po.ret po GX.rfl' rfl gd rw'⟩ hs
          · exact ix_tup value slice pins s σ H _ _ v u Q I rx ry ⟨q, vs, _, w, rfl, rfl, by rw [hK]; exact hq, ew, Po.ret po GX.rfl' rfl gd rw'⟩ hs
        · exact po.elim
      · exact po.elim
  · exact po.elim
theorem qix {a b : Expr} {ga gb : GE} {pos : Pos} (ha : PE X a (rd p W ga)) (hb : PE X b (rd p W gb)) (hs : PlainIx b) (hK : X.K = p.K := by rfl) : PE X (.Subscript a b pos) (rd p W (gBin ixD ga gb)) :=
  PE.imp (pe_ix (opd_ix hK) ha hb hs) fun σ H Q h => two (fun _ _ _ z => z) (fun _ _ _ z => z) (fun x y H Q ⟨G, a, b, gd, r1, r2, po⟩ => ⟨G, a, b, σ, gd, r1, r2, po⟩) h
/-- a slice's part -/
abbrev GO := En → Sto → R (Option Int)
def gNo : GO := fun _ s => .ok none s
def gPart (g : GE) : GO := fun ρ s => (g ρ s).bind fun d s1 => match d with
  | .int i => .ok (some i) s1
  | _ => .bad
def rdO (p : Pg) (W : WX) (g : GO) : TO := fun σ H Q => ∃ G ρ, Gd p G H ∧ EnR p G ρ σ ∧ Po p (fun _ (a b : Option Int) => a = b) W G σ (g ρ G.st) Q
theorem PO.imp {e : Option Expr} {t t' : TO} (h : PO X e t) (k : ∀ σ H Q, t' σ H Q → t σ H Q) : PO X e t' := ⟨fun pins s σ H Q I q => h.run pins s σ H Q I (k σ H Q q)⟩
theorem qno : PO X none (rdO p W gNo) := PO.imp po_none fun σ H Q ⟨G, ρ, gd, en, po⟩ => Po.ret po GX.rfl' rfl gd rfl
theorem qpart {e : Expr} {g : GE} (h : PE X e (rd p W g)) : PO X (some e) (rdO p W (gPart g)) :=
  PO.imp (po_some h) fun σ H Q ⟨G, ρ, gd, en, po⟩ => ⟨G, ρ, gd, en, (Po.bind po).imp fun v H1 ⟨G1, a, x1, gd1, r1, po1⟩ => by
    split at po1
    · cases r1; exact ⟨_, rfl, Po.ret po1 GX.rfl' rfl gd1 rfl⟩
    · exact po1.elim⟩
def cutD (xs : List DV) (lo hi : Option Int) : List DV := (xs.drop (HT.sIx xs.length 0 lo)).take (HT.sIx xs.length xs.length hi - HT.sIx xs.length 0 lo)
def slD (a : DV) (lo hi : Option Int) (s : Sto) : R DV := match a with
  | .lst xs => .ok (.lst (cutD xs lo hi)) s
  | .wl xs => .ok (.lst (cutD xs lo hi)) s
  | .mr k => match s[k]? with
    | some (some (.lst xs)) => .ok (.lst (cutD xs lo hi)) s
    | _ => .bad
  | .tup xs => okIf (!(decide (HT.sIx xs.length 0 lo = 0) && decide (HT.sIx xs.length xs.length hi = xs.length))) (.tup (cutD xs lo hi)) s
  | .str z => okIf (decide (z.length ≤ sizeLine)) (.str (cutS z lo hi)) s
  | _ => .bad
theorem Rps.cut {F : Hp} {μ : List Addr} {ds : List DV} {vs : List V} (h : Rps p F μ ds vs) (lo hi : Option Int) : Rps p F μ (cutD ds lo hi) (cutV vs lo hi) := by
  unfold cutD cutV
  rw [h.length]
  exact (h.drop _).take _
def gSl (ga : GE) (gl gh : GO) : GE := fun ρ s => (ga ρ s).bind fun a s1 => (gl ρ s1).bind fun l s2 => (gh ρ s2).bind fun h s3 => slD a l h s3
def rSlD (p : Pg) (W : WX) : V → Option Int → Option Int → Hp → VK → Prop := fun x lo hi H Q => ∃ G a σ, Gd p G H ∧ Rp p G.F G.μ a x ∧ PoV p W G σ (slD a lo hi G.st) Q
theorem opd_sl (hK : X.K = p.K) : SlR X (rSlD p W) := fun pins s σ H x v vl vu lo hi sl Q I rx hs pl pu ⟨G, a, σ', gd, ra, po⟩ => by
  unfold slD at po
  split at po
  · cases ra with
    | lst e rs => exact sl_list pins s σ H _ v vl vu lo hi sl Q I rx hs pl pu ⟨_, _, rfl, SqL.of (gd.le _ _ e), fun q hq => new_lst gd (rs.cut lo hi) po hq⟩
  · cases ra with
    | wl e rs => exact sl_list pins s σ H _ v vl vu lo hi sl Q I rx hs pl pu ⟨_, _, rfl, by rw [hK]; exact sqL_up gd.le e, fun q hq => new_lst gd (rs.cut lo hi) po hq⟩
  · cases ra with
    | mr hm =>
      split at po
      · rename_i xs e
        obtain ⟨a, e1, e2, vs, e3, e4⟩ := gd.live _ _ e
        rw [hm] at e1; cases e1
        exact sl_list pins s σ H _ v vl vu lo hi sl Q I rx hs pl pu ⟨_, _, rfl, SqL.of e3, fun q hq => new_lst gd (e4.cut lo hi) po hq⟩
      · exact po.elim
  · cases ra with
    | tup e rs =>
      obtain ⟨c, po⟩ := okIf_po po
      refine sl_tup pins s σ H _ v vl vu lo hi sl Q I rx hs pl pu ⟨_, _, rfl, by rw [hK]; exact sqT_up gd.le e, ?_, fun q hq => new_tup gd (rs.cut lo hi) po hq⟩
      rw [← rs.length]
      intro z
      rw [decide_eq_true z.1, decide_eq_true z.2] at c
      exact nomatch c
  · cases ra
    obtain ⟨c, po⟩ := okIf_po po
    exact sl_str pins s σ H _ v vl vu lo hi sl Q I rx hs pl pu ⟨_, rfl, of_decide_eq_true c, Po.ret po GX.rfl' rfl gd (.str _)⟩
  · exact po.elim
theorem qsl {e : Expr} {lo hi : Option Expr} {pos p2 : Pos} {ga : GE} {gl gh : GO} (he : PE X e (rd p W ga)) (hl : PO X lo (rdO p W gl)) (hh : PO X hi (rdO p W gh)) (hK : X.K = p.K := by rfl) : PE X (.Subscript e (.Slice lo hi none p2) pos) (rd p W (gSl ga gl gh)) :=
  PE.imp (pe_slice (opd_sl hK) he hl hh) fun σ H Q ⟨G, ρ, gd, en, po⟩ => ⟨G, ρ, gd, en, (Po.bind po).imp fun v H1 ⟨G1, a, x1, gd1, r1, po1⟩ =>
    ⟨G1, ρ, gd1, en.gx x1, (Po.bind po1).imp fun l H2 ⟨G2, l', x2, gd2, r2, po2⟩ => ⟨G2, ρ, gd2, en.gx (x1.trans x2), (Po.bind po2).imp fun h H3 ⟨G3, h', x3, gd3, r3, po3⟩ => by
      cases r2; cases r3
      exact ⟨G3, a, σ, gd3, Rg.gx r1 (x2.trans x3), po3⟩⟩⟩⟩
/-- xs[::-1] -/
def revD (a : DV) (s : Sto) : R DV := match a with
  | .lst xs => .ok (.lst xs.reverse) s
  | .wl xs => .ok (.lst xs.reverse) s
  | .mr k => match s[k]? with
    | some (some (.lst xs)) => .ok (.lst xs.reverse) s
    | _ => .bad
  | _ => .bad
theorem qrev {e : Expr} {ga : GE} {k : Nat} {p1 p2 p3 pos : Pos} (he : PE X e (rd p W ga)) (hK : X.K = p.K := by rfl) : PE X (.Subscript e (.Slice none none (some (.UnaryOp .USub (.Constant (.int 1) k p1) p2)) p3) pos) (rd p W (gUn revD ga)) :=
  PE.imp (pe_revL he) fun σ H Q h => one (r := fun x H1 Q => ∃ a xs, x = V.ref a ∧ SqL X.K H1 a xs ∧ ∀ q, H1 q = none → Q (.ref q) (upd H1 q (.lst xs.reverse))) (fun _ _ _ z => z) (fun x H Q ⟨G, a, gd, ra, po⟩ => by
    unfold revD at po
    split at po
    · cases ra with
      | lst e rs => exact ⟨_, _, rfl, SqL.of (gd.le _ _ e), fun q hq => new_lst gd rs.rev po hq⟩
    · cases ra with
      | wl e rs => exact ⟨_, _, rfl, by rw [hK]; exact sqL_up gd.le e, fun q hq => new_lst gd rs.rev po hq⟩
    · cases ra with
      | mr hm =>
        split at po
        · rename_i xs e
          obtain ⟨a, e1, e2, vs, e3, e4⟩ := gd.live _ _ e
          rw [hm] at e1; cases e1
          exact ⟨_, _, rfl, SqL.of e3, fun q hq => new_lst gd e4.rev po hq⟩
        · exact po.elim
    · exact po.elim) h
end
end Dq

/-! Statements. -/
namespace Dq
open PySem PySem.Spec PyProof.Rows L2
section
variable {p : Pg} {X : Cx} {W : WX}

/-! ### plain ones -/
@[simp] def gExpr (ge : GE) : GS := fun ρ s => (ge ρ s).toS ρ fun _ s1 => .nx ρ s1
@[simp] def gRet (ge : GE) : GS := fun ρ s => (ge ρ s).toS ρ fun d s1 => .rt d s1
@[simp] def gRetN : GS := fun _ s => .rt .non s
@[simp] def gNext : GS := fun ρ s => .nx ρ s
def gBreak : GS := fun ρ s => .bk ρ s
def gCont : GS := fun ρ s => .ct ρ s
@[simp] def gSet (i : Nat) (ge : GE) : GS := fun ρ s => (ge ρ s).toS ρ fun d s1 => .nx (ρ.set i (some d)) s1
@[simp] def gSeq (a b : GS) : GS := fun ρ s => (a ρ s).seq b
@[simp] def gIfS (c : GB) (a b : GS) : GS := fun ρ s => (c ρ s).toS ρ fun k s1 => match k with
  | true => a ρ s1
  | false => b ρ s1
def gBad : GS := fun _ _ => .bad
section
variable {e : Expr} {st : Stmt} {rest : List Stmt} {ge : GE} {ga gb : GS} {gc : GB} {pos : Pos}
theorem sexpr (he : PE X e (rd p W ge)) (hs : swapsWith e none pos.line X.env = pure false := by rfl) : PS X (.Expr e pos) (rdS p W (gExpr ge)) :=
  PS.imp (ps_expr he hs) fun D σ H ⟨G, ρ, gd, en, po⟩ => ⟨G, ρ, gd, en, (PoS.of po en).imp fun v H1 ⟨G1, a, x1, gd1, r1, po1⟩ => po1 G1 σ H1 GX.rfl' rfl gd1 (en.gx x1)⟩
theorem sret (he : PE X e (rd p W ge)) : PS X (.Return (some e) pos) (rdS p W (gRet ge)) :=
  PS.imp (ps_ret he) fun D σ H ⟨G, ρ, gd, en, po⟩ => ⟨G, ρ, gd, en, (PoS.of po en).imp fun v H1 ⟨G1, a, x1, gd1, r1, po1⟩ => po1 G1 v H1 GX.rfl' rfl gd1 r1⟩
theorem sretN : PS X (.Return none pos) (rdS p W gRetN) :=
  PS.imp ps_retN fun D σ H ⟨G, ρ, gd, en, po⟩ => po G .non H GX.rfl' rfl gd .non
theorem spass : PS X (.Pass pos) (rdS p W gNext) := PS.imp ps_pass fun D σ H ⟨G, ρ, gd, en, po⟩ => po G σ H GX.rfl' rfl gd en
theorem sdoc {x j pos pos'} : PS X (.Expr (.Constant (.str x) j pos) pos') (rdS p W gNext) := PS.imp ps_doc fun D σ H ⟨G, ρ, gd, en, po⟩ => po G σ H GX.rfl' rfl gd en
theorem sbreak : PS X (.Break pos) (rdS p W gBreak) := PS.imp ps_break fun D σ H ⟨G, ρ, gd, en, po⟩ => po G σ H GX.rfl' rfl gd en
theorem scont : PS X (.Continue pos) (rdS p W gCont) := PS.imp ps_continue fun D σ H ⟨G, ρ, gd, en, po⟩ => po G σ H GX.rfl' rfl gd en
/-- a statement that is not reached -/
theorem snever : PS X st (rdS p W gBad) := PS.imp ps_never fun D σ H ⟨G, ρ, gd, en, po⟩ => po
theorem bnil : PSs X [] (rdS p W gNext) := PSs.imp pss_nil fun D σ H ⟨G, ρ, gd, en, po⟩ => po G σ H GX.rfl' rfl gd en
theorem bone (h : PS X st (rdS p W ga)) : PSs X [st] (rdS p W ga) := pss_one h
theorem bcons (h : PS X st (rdS p W ga)) (hr : PSs X rest (rdS p W gb)) : PSs X (st :: rest) (rdS p W (gSeq ga gb)) :=
  PSs.imp (pss_cons h hr) fun D σ H ⟨G, ρ, gd, en, po⟩ => ⟨G, ρ, gd, en, PoS.seq po⟩
theorem sset (i : Nat) {x : Str} {pos' : Pos} (hN : X.N.Nodup) (hx : Loc X.env.scope x) (he : PE X e (rd p W ge)) (hi : X.N[i]? = some x := by rfl) (hs : swapsWith e (some (.Name x pos')) pos.line X.env = pure false := by rfl) (hf : X.fn x = true ∨ X.env.scope.names.lookup x = some .local := by first | exact .inl rfl | exact .inr rfl) :
    PS X (.Assign [.Name x pos'] e pos) (rdS p W (gSet i ge)) :=
  PS.imp (ps_set (i := i) hN hi hx he hs hf) fun D σ H ⟨G, ρ, gd, en, po⟩ => ⟨G, ρ, gd, en, (PoS.of po en).imp fun v H1 ⟨G1, a, x1, gd1, r1, po1⟩ => po1 G1 _ H1 GX.rfl' rfl gd1 ((en.gx x1).set r1 i)⟩
theorem sif {c : Expr} {a b : List Stmt} (hc : PT X c (rdB p W gc)) (ha : PSs X a (rdS p W ga)) (hb : PSs X b (rdS p W gb)) : PS X (.If c a b pos) (rdS p W (gIfS gc ga gb)) :=
  PS.imp (ps_if hc ha hb) fun D σ H ⟨G, ρ, gd, en, po⟩ => ⟨G, ρ, gd, en, (PoS.of po en).imp fun v H1 ⟨G1, a, x1, gd1, r1, po1⟩ => by
    cases r1
    cases v with
    | true => exact iteT ⟨G1, ρ, gd1, en.gx x1, po1⟩
    | false => exact iteF ⟨G1, ρ, gd1, en.gx x1, po1⟩⟩
end

/-! ### targets -/
abbrev GTg := DV → En → Option En
abbrev GTs := List DV → En → Option En
@[simp] def tN (i : Nat) : GTg := fun d ρ => some (ρ.set i (some d))
@[simp] def tNil : GTs := fun ds ρ => match ds with
  | [] => some ρ
  | _ => none
@[simp] def tCons (t : GTg) (ts : GTs) : GTs := fun ds ρ => match ds with
  | d :: r => (t d ρ).bind fun ρ1 => ts r ρ1
  | [] => none
@[simp] def tTup (n : Nat) (ts : GTs) : GTg := fun d ρ => match d with
  | .tup xs => match decide (xs.length = n) with
    | true => ts xs ρ
    | false => none
  | _ => none
def PoT (p : Pg) (G : Gh) (H : Hp) (Q : L2.St → Hp → Prop) : Option En → Prop
  | some ρ => ∀ σ', EnR p G ρ σ' → Q σ' H
  | none => False
def rdG (p : Pg) (g : GTg) : TG := fun v σ H Q => ∃ G ρ d, Gd p G H ∧ EnR p G ρ σ ∧ Rp p G.F G.μ d v ∧ PoT p G H Q (g d ρ)
def rdGs (p : Pg) (g : GTs) : TGs := fun vs σ H Q => ∃ G ρ ds, Gd p G H ∧ EnR p G ρ σ ∧ Rps p G.F G.μ ds vs ∧ PoT p G H Q (g ds ρ)
theorem PG.imp {e : Expr} {t t' : TG} (h : PG X e t) (k : ∀ v σ H Q, t' v σ H Q → t v σ H Q) : PG X e t' := ⟨fun pins s σ H v u Q I r q => h.run pins s σ H v u Q I r (k v σ H Q q)⟩
theorem PGs.imp {e : List Expr} {t t' : TGs} (h : PGs X e t) (k : ∀ v σ H Q, t' v σ H Q → t v σ H Q) : PGs X e t' := ⟨fun pins s σ H v u Q I r q => h.run pins s σ H v u Q I r (k v σ H Q q)⟩
theorem gname (i : Nat) {x : Str} {pos : Pos} (hN : X.N.Nodup) (hx : Loc X.env.scope x) (hi : X.N[i]? = some x := by rfl) (hf : X.fn x = true ∨ X.env.scope.names.lookup x = some .local := by first | exact .inl rfl | exact .inr rfl) : PG X (.Name x pos) (rdG p (tN i)) :=
  PG.imp (pg_name (i := i) hN hi hx hf) fun v σ H Q ⟨G, ρ, d, gd, en, r, po⟩ => po _ (en.set r i)
theorem gnil : PGs X [] (rdGs p tNil) := PGs.imp pgs_nil fun vs σ H Q ⟨G, ρ, ds, gd, en, r, po⟩ => by
  cases r with
  | nil => exact ⟨rfl, po σ en⟩
  | cons _ _ => exact po.elim
theorem gcons {e : Expr} {es : List Expr} {t : GTg} {ts : GTs} (h : PG X e (rdG p t)) (hr : PGs X es (rdGs p ts)) (hs : (assignEach (e :: es) X.env).map (·.2) = assign e X.env :: (assignEach es X.env).map (·.2) := by rfl) : PGs X (e :: es) (rdGs p (tCons t ts)) :=
  PGs.imp (pgs_cons h hr hs) fun vs σ H Q ⟨G, ρ, ds, gd, en, r, po⟩ => by
    cases r with
    | nil => exact po.elim
    | @cons d v ds' vs' r1 r2 =>
      refine ⟨v, vs', rfl, G, ρ, d, gd, en, r1, ?_⟩
      have po : PoT p G H Q ((t d ρ).bind fun ρ1 => ts ds' ρ1) := po
      cases e1 : t d ρ with
      | none => rw [e1] at po; exact po
      | some ρ1 =>
        rw [e1] at po
        exact fun σ' en' => ⟨G, ρ1, ds', gd, en', r2, po⟩
theorem gtup {es : List Expr} {k : Nat} {pos : Pos} {ts : GTs} {n : Nat} (hc : X.calm = true) (h : PGs X es (rdGs p ts)) (hK : X.K = p.K := by rfl)
    (hn : (assignEach es X.env).length = n := by rfl) (hst : (assignEach es X.env).findIdx? (·.1) = none := by rfl) : PG X (.Tuple es k pos) (rdG p (tTup n ts)) :=
  PG.imp (pg_tup hc h hn hst) fun v σ H Q ⟨G, ρ, d, gd, en, r, po⟩ => by
    unfold tTup at po
    split at po
    · cases r with
      | tup e rs =>
        split at po
        · rename_i c
          exact ⟨_, _, rfl, by rw [hK]; exact sqT_up gd.le e, by rw [← rs.length]; exact of_decide_eq_true c, G, ρ, _, gd, en, rs, po⟩
        · exact po.elim
    · exact po.elim
@[simp] def gAsg (ge : GE) (t : GTg) : GS := fun ρ s => (ge ρ s).toS ρ fun d s1 => match t d ρ with
  | some ρ' => .nx ρ' s1
  | none => .bad
theorem PoT.of {G : Gh} {H : Hp} {D : Ends} {o : Option En} (gd : Gd p G H) (h : PoS p W G D (match o with | some ρ' => RS.nx ρ' G.st | none => .bad)) : PoT p G H D.nx o := by
  cases o with
  | none => exact h
  | some ρ' => exact fun σ' en' => h G σ' H GX.rfl' rfl gd en'
theorem sasg {tg e : Expr} {ge : GE} {t : GTg} {pos : Pos} (he : PE X e (rd p W ge)) (hg : PG X tg (rdG p t)) (hs : swapsWithSole [tg] e pos.line X.env = pure false := by rfl) (hw : swappedStores [tg] e X.env = pure none := by rfl)
    (h1 : (assignEach [tg] X.env).map (·.2) = [assign tg X.env] := by rfl) : PS X (.Assign [tg] e pos) (rdS p W (gAsg ge t)) :=
  PS.imp (ps_asg he hg hs hw h1) fun D σ H ⟨G, ρ, gd, en, po⟩ => ⟨G, ρ, gd, en, (PoS.of po en).imp fun v H1 ⟨G1, a, x1, gd1, r1, po1⟩ =>
    ⟨G1, ρ, a, gd1, en.gx x1, r1, PoT.of gd1 po1⟩⟩
/-- a, b = x, y -/
@[simp] def gPar (i j : Nat) (gl : GL) : GS := fun ρ s => (gl ρ s).toS ρ fun ds s1 => match ds with
  | [d, e] => .nx ((ρ.set i (some d)).set j (some e)) s1
  | _ => .bad
theorem spar {i j : Nat} {x y : Str} {a b : Expr} {gl : GL} {px py pt pos : Pos} {kt k2 pt2} (hc : X.calm = true) (hN : X.N.Nodup) (hi : X.N[i]? = some x) (hj : X.N[j]? = some y) (hij : i ≠ j)
    (hx : X.env.scope.names.lookup x = some .local) (hy : X.env.scope.names.lookup y = some .local) (ha : PA X [a, b] (rdL p W gl))
    (hw : swappedStores [.Tuple [.Name x px, .Name y py] kt pt] (.Tuple [a, b] k2 pt2) X.env = pure (some [x, y]))
    (hs : swapsWithSole [.Tuple [.Name x px, .Name y py] kt pt] (.Tuple [a, b] k2 pt2) pos.line X.env = pure false := by rfl) :
    PS X (.Assign [.Tuple [.Name x px, .Name y py] kt pt] (.Tuple [a, b] k2 pt2) pos) (rdS p W (gPar i j gl)) :=
  PS.imp (ps_par (i := i) (j := j) hc hN hi hj hij hx hy ha hw hs) fun D σ H ⟨G, ρ, gd, en, po⟩ => ⟨G, ρ, gd, en, (PoS.of po en).imp fun vs H1 ⟨G1, l, x1, gd1, r1, po1⟩ => by
    split at po1
    · cases r1 with
      | cons r1 r2 =>
        cases r2 with
        | cons r2 r3 =>
          cases r3
          exact ⟨_, _, rfl, po1 G1 _ H1 GX.rfl' rfl gd1 (((en.gx x1).set r1 i).set r2 j)⟩
    · exact po1.elim⟩

/-! ### loops -/
def forR (b : DV → GS) : List DV → GS
  | [], ρ, s => .nx ρ s
  | d :: ds, ρ, s => match b d ρ s with
    | .nx ρ' s' => forR b ds ρ' s'
    | .ct ρ' s' => forR b ds ρ' s'
    | .bk ρ' s' => .nx ρ' s'
    | r => r
def turn (t : GTg) (gb : GS) : DV → GS := fun d ρ s => match t d ρ with
  | some ρ1 => gb ρ1 s
  | none => .bad
@[simp] def seqT : DV → Option (List DV)
  | .lst xs => some xs
  | .wl xs => some xs
  | .tup xs => some xs
  | _ => none
@[simp] def gForS (ge : GE) (t : GTg) (gb : GS) : GS := fun ρ s => (ge ρ s).toS ρ fun d s1 => match seqT d with
  | some xs => forR (turn t gb) xs ρ s1
  | none => .bad
/-- what the turns of a for keep -/
def ForI (p : Pg) (W : WX) (D : Ends) (G0 : Gh) (b : DV → GS) (xs : List DV) (σ : L2.St) (H : Hp) : Prop :=
  ∃ G ρ, GX G0 G ∧ Gd p G H ∧ EnR p G ρ σ ∧ PoS p W G D (forR b xs ρ G.st)
theorem forI_body {D : Ends} {G : Gh} {b : DV → GS} {d : DV} {ds : List DV} {ρ : En} (po : PoS p W G D (forR b (d :: ds) ρ G.st)) {N : L2.St → Hp → Prop} (hN : ∀ σ' H', ForI p W D G b ds σ' H' → N σ' H') :
    PoS p W G { D with nx := N, ct := N, bk := D.nx } (b d ρ G.st) := by
  unfold forR at po
  cases e : b d ρ G.st with
  | nx ρ' s' => rw [e] at po; exact fun G2 σ2 H2 x2 e2 gd en => hN _ _ ⟨G2, ρ', x2, gd, en, by rw [e2]; exact PoS.gx po x2⟩
  | ct ρ' s' => rw [e] at po; exact fun G2 σ2 H2 x2 e2 gd en => hN _ _ ⟨G2, ρ', x2, gd, en, by rw [e2]; exact PoS.gx po x2⟩
  | bk ρ' s' => rw [e] at po; exact po
  | rt d' s' => rw [e] at po; exact po
  | exc c ks xs ρ' s' => rw [e] at po; exact po
  | bad => rw [e] at po; exact po
theorem turn_of {D : Ends} {G : Gh} {t : GTg} {gb : GS} {d : DV} {ρ : En} {v : V} {σ : L2.St} {H : Hp} (gd : Gd p G H) (en : EnR p G ρ σ) (r : Rp p G.F G.μ d v) (po : PoS p W G D (turn t gb d ρ G.st)) :
    rdG p t v σ H fun σ2 H2 => rdS p W gb D σ2 H2 := by
  refine ⟨G, ρ, d, gd, en, r, ?_⟩
  unfold turn at po
  cases e : t d ρ with
  | none => rw [e] at po; exact po
  | some ρ1 => rw [e] at po; exact fun σ' en' => ⟨G, ρ1, gd, en', po⟩
section
variable {iter tg : Expr} {body : List Stmt} {ge : GE} {t : GTg} {gb : GS} {pos : Pos}
theorem PI.or {e : Expr} {w w' : TI} (h : PI X tg e w) (h' : PI X tg e w') : PI X tg e (fun σ H R => w σ H R ∨ w' σ H R) :=
  ⟨fun pins s σ H R I q => q.elim (h.run pins s σ H R I) (h'.run pins s σ H R I)⟩
theorem sfor (hp : PassesOwn (model X.prog X.w) X.A X.env X.xe) (hc : X.calm = true) (hi : PE X iter (rd p W ge)) (hg : PG X tg (rdG p t)) (hb : PSs X body (rdS p W gb)) (hK : X.K = p.K := by rfl)
    (hs : ∀ x, foldedSetIterable iter X.env x = pure x := by intro _; rfl) : PS X (.For tg iter body [] pos) (rdS p W (gForS ge t gb)) := by
  refine PS.imp (ps_for hp hc (PI.or (pi_list hi) (pi_tup hi)) hg hb hs) fun D σ H ⟨G, ρ, gd, en, po⟩ => ?_
  have bd : ∀ {xs : List DV} {vs : List V} {G1 : Gh} {H1 : Hp} {a : Addr}, GX G G1 → Gd p G1 H1 → Rps p G1.F G1.μ xs vs → PoS p W G1 D (forR (turn t gb) xs ρ G1.st) →
      ∀ (i : Nat) (x : V) (σ : L2.St) (H : Hp), vs[i]? = some x → ForI p W D G1 (turn t gb) (xs.drop i) σ H →
        rdG p t x σ H fun σ2 H2 => rdS p W gb { D with nx := ForI p W D G1 (turn t gb) (xs.drop (i + 1)), ct := ForI p W D G1 (turn t gb) (xs.drop (i + 1)), bk := D.nx } σ2 H2 := by
    intro xs vs G1 H1 a x1 gd1 rs po1 i x σ2 H2 hx ⟨G2, ρ2, x2, gd2, en2, po2⟩
    obtain ⟨d, hd, rd⟩ := rs.get' hx
    have e : xs.drop i = d :: xs.drop (i + 1) := by
      obtain ⟨lt, e⟩ := List.getElem?_eq_some_iff.mp hd
      rw [List.drop_eq_getElem_cons lt, e]
    rw [e] at po2
    refine turn_of gd2 en2 (Rg.gx rd x2) (forI_body po2 fun σ3 H3 ⟨G3, ρ3, x3, gd3, en3, po3⟩ => ⟨G3, ρ3, x2.trans x3, gd3, en3, po3⟩)
  have key : rd p W ge σ H fun v H1 => ∃ G1 d, GX G G1 ∧ Gd p G1 H1 ∧ Rp p G1.F G1.μ d v ∧ PoS p W G1 D (match seqT d with
      | some xs => forR (turn t gb) xs ρ G1.st
      | none => .bad) := ⟨G, ρ, gd, en, PoS.of po en⟩
  -- list or tuple: by the value at hand
  cases hr : ge ρ G.st with
  | bad => unfold gForS at po; rw [hr] at po; exact po.elim
  | exc c ks xs s =>
    refine .inl ⟨G, ρ, gd, en, ?_⟩
    unfold gForS at po
    rw [hr] at po ⊢
    exact fun G2 H2 d fs x2 e2 g2 k2 q2 r2 => po G2 σ H2 d fs x2 e2 g2 (en.gx x2) k2 q2 r2
  | ok d s =>
    unfold gForS at po
    rw [hr, R.toS_ok] at po
    cases hq : seqT d with
    | none => rw [hq] at po; exact po.elim
    | some xs =>
      rw [hq] at po
      have po : PoS p W G D (forR (turn t gb) xs ρ s) := po
      have hd : d = .lst xs ∨ d = .wl xs ∨ d = .tup xs := by
        cases d <;> first | cases hq <;> simp | cases hq
      rcases hd with rfl | rfl | rfl
      · refine .inl ⟨G, ρ, gd, en, ?_⟩
        rw [hr]
        intro G1 v H1 x1 e1 gd1 r1
        subst e1
        cases r1 with
        | lst a rs =>
          have po1 := PoS.gx po x1
          refine ⟨_, rfl, ⟨_, SqL.of (gd1.le _ _ a)⟩, for_list (xs := _) (fun i σ' H' => ForI p W D G1 (turn t gb) (xs.drop i) σ' H') ⟨G1, ρ, GX.rfl', gd1, en.gx x1, po1⟩ (fun i σ' H' _ ⟨G2, _, x2, gd2, _⟩ => SqL.of (gd2.le _ _ (x2.f _ _ a))) (bd (a := 0) x1 gd1 rs po1) fun σ' H' ⟨G2, ρ2, x2, gd2, en2, po2⟩ => ?_⟩
          rw [← rs.length, List.drop_length] at po2
          exact po2 G2 σ' H' GX.rfl' rfl gd2 en2
      · refine .inl ⟨G, ρ, gd, en, ?_⟩
        rw [hr]
        intro G1 v H1 x1 e1 gd1 r1
        subst e1
        cases r1 with
        | wl a rs =>
          have po1 := PoS.gx po x1
          refine ⟨_, rfl, ⟨_, by rw [hK]; exact sqL_up gd1.le a⟩, for_list (xs := _) (fun i σ' H' => ForI p W D G1 (turn t gb) (xs.drop i) σ' H') ⟨G1, ρ, GX.rfl', gd1, en.gx x1, po1⟩ (fun i σ' H' _ ⟨G2, _, x2, gd2, _⟩ => by rw [hK]; exact sqL_up gd2.le (sqL_up x2.f a)) (bd (a := 0) x1 gd1 rs po1) fun σ' H' ⟨G2, ρ2, x2, gd2, en2, po2⟩ => ?_⟩
          rw [← rs.length, List.drop_length] at po2
          exact po2 G2 σ' H' GX.rfl' rfl gd2 en2
      · refine .inr ⟨G, ρ, gd, en, ?_⟩
        rw [hr]
        intro G1 v H1 x1 e1 gd1 r1
        subst e1
        cases r1 with
        | tup a rs =>
          have po1 := PoS.gx po x1
          refine ⟨_, rfl, ⟨_, by rw [hK]; exact sqT_up gd1.le a⟩, for_tup (xs := _) (fun i σ' H' => ForI p W D G1 (turn t gb) (xs.drop i) σ' H') ⟨G1, ρ, GX.rfl', gd1, en.gx x1, po1⟩ (fun i σ' H' _ ⟨G2, _, x2, gd2, _⟩ => by rw [hK]; exact sqT_up gd2.le (sqT_up x2.f a)) (bd (a := 0) x1 gd1 rs po1) fun σ' H' ⟨G2, ρ2, x2, gd2, en2, po2⟩ => ?_⟩
          rw [← rs.length, List.drop_length] at po2
          exact po2 G2 σ' H' GX.rfl' rfl gd2 en2
/-- for x in range(..) -/
def rangeI (lo : Int) (n : Nat) : List DV := (List.range n).map fun (i : Nat) => DV.int (lo + i)
def rng1 : List DV → Option (Int × Nat)
  | [.int j] => match decide (-(2 ^ 62) ≤ j ∧ j < 2 ^ 62) with
    | true => some (0, j.toNat)
    | false => none
  | _ => none
def rng2 : List DV → Option (Int × Nat)
  | [.int i, .int j] => match decide (-(2 ^ 62) ≤ i ∧ i < 2 ^ 62 ∧ -(2 ^ 62) ≤ j ∧ j < 2 ^ 62) with
    | true => some (i, (j - i).toNat)
    | false => none
  | _ => none
@[simp] def gForR (f : List DV → Option (Int × Nat)) (gl : GL) (t : GTg) (gb : GS) : GS := fun ρ s => (gl ρ s).toS ρ fun l s1 => match f l with
  | some q => forR (turn t gb) (rangeI q.1 q.2) ρ s1
  | none => .bad
theorem rangeI_at {lo : Int} {n i : Nat} (h : i < n) : (rangeI lo n).drop i = .int (lo + i) :: (rangeI lo n).drop (i + 1) := by
  have lt : i < (rangeI lo n).length := by unfold rangeI; simpa using h
  rw [List.drop_eq_getElem_cons lt]
  congr 1
  simp [rangeI]
theorem for_rng {D : Ends} {G1 : Gh} {H1 : Hp} {ρ : En} {σ : L2.St} {lo : Int} {n : Nat} (gd1 : Gd p G1 H1) (en : EnR p G1 ρ σ) (po1 : PoS p W G1 D (forR (turn t gb) (rangeI lo n) ρ G1.st)) :
    ∃ W' : Nat → Nat → L2.St → Hp → Prop, (∃ m, W' 0 m σ H1) ∧ ∀ i m σ H, W' i m σ H →
      ((Itr lo n).stop i H ∧ D.nx σ H) ∨ ((Itr lo n).go i H ∧ ∃ N : L2.St → Hp → Prop, (∀ σ' H', N σ' H' → ∃ m', m' < m ∧ W' (i + 1) m' σ' H') ∧ ∀ x H', (Itr lo n).yld i H x H' → rdG p t x σ H' fun σ2 H2 => rdS p W gb { D with nx := N, ct := N, bk := D.nx } σ2 H2) := by
  refine for_range (fun i σ' H' => ForI p W D G1 (turn t gb) ((rangeI lo n).drop i) σ' H') ⟨G1, ρ, GX.rfl', gd1, en, po1⟩ ?_ ?_
  · intro i σ2 H2 hi ⟨G2, ρ2, x2, gd2, en2, po2⟩
    rw [rangeI_at hi] at po2
    exact turn_of gd2 en2 (.int _) (forI_body po2 fun σ3 H3 ⟨G3, ρ3, x3, gd3, en3, po3⟩ => ⟨G3, ρ3, x2.trans x3, gd3, en3, po3⟩)
  · intro σ' H' ⟨G2, ρ2, x2, gd2, en2, po2⟩
    have e : (rangeI lo n).drop n = [] := by
      apply List.drop_eq_nil_of_le
      simp [rangeI]
    rw [e] at po2
    exact po2 G2 σ' H' GX.rfl' rfl gd2 en2
theorem sforR1 {a : Expr} {gl : GL} {p1 pos1 : Pos} (hp : PassesOwn (model X.prog X.w) X.A X.env X.xe) (hc : X.calm = true) (hgl : Gl X "range") (hm : X.mg "range" = none) (ha : PA X [a] (rdL p W gl)) (hg : PG X tg (rdG p t)) (hb : PSs X body (rdS p W gb))
    (hse : starEach [a] X.env = [(false, eval a X.env)] := by rfl) (hs : ∀ x, foldedSetIterable (.Call (.Name "range" p1) [a] [] pos1) X.env x = pure x := by intro _; rfl) : PS X (.For tg (.Call (.Name "range" p1) [a] [] pos1) body [] pos) (rdS p W (gForR rng1 gl t gb)) :=
  PS.imp (ps_for hp hc (pi_range1 hgl hm ha hse) hg hb hs) fun D σ H ⟨G, ρ, gd, en, po⟩ => ⟨G, ρ, gd, en, (PoS.of po en).imp fun vs H1 ⟨G1, l, x1, gd1, r1, po1⟩ => by
    split at po1
    · rename_i q h
      unfold rng1 at h
      split at h
      · split at h
        · rename_i c
          cases h
          cases r1 with
          | cons r1 r2 =>
            cases r2; cases r1
            have c := of_decide_eq_true c
            exact ⟨_, rfl, c.1, c.2, for_rng gd1 (en.gx x1) po1⟩
        · cases h
      · cases h
    · exact po1.elim⟩
theorem sforR2 {a b : Expr} {gl : GL} {p1 pos1 : Pos} (hp : PassesOwn (model X.prog X.w) X.A X.env X.xe) (hc : X.calm = true) (hgl : Gl X "range") (hm : X.mg "range" = none) (ha : PA X [a, b] (rdL p W gl)) (hg : PG X tg (rdG p t)) (hb : PSs X body (rdS p W gb))
    (hse : starEach [a, b] X.env = [(false, eval a X.env), (false, eval b X.env)] := by rfl) (hse2 : starEach [b] X.env = [(false, eval b X.env)] := by rfl) (hs : ∀ x, foldedSetIterable (.Call (.Name "range" p1) [a, b] [] pos1) X.env x = pure x := by intro _; rfl) :
    PS X (.For tg (.Call (.Name "range" p1) [a, b] [] pos1) body [] pos) (rdS p W (gForR rng2 gl t gb)) :=
  PS.imp (ps_for hp hc (pi_range2 hgl hm ha hse hse2) hg hb hs) fun D σ H ⟨G, ρ, gd, en, po⟩ => ⟨G, ρ, gd, en, (PoS.of po en).imp fun vs H1 ⟨G1, l, x1, gd1, r1, po1⟩ => by
    split at po1
    · rename_i q h
      unfold rng2 at h
      split at h
      · split at h
        · rename_i c
          cases h
          cases r1 with
          | cons r1 r2 =>
            cases r2 with
            | cons r2 r3 =>
              cases r3; cases r1; cases r2
              have c := of_decide_eq_true c
              exact ⟨_, _, rfl, c, for_rng gd1 (en.gx x1) po1⟩
        · cases h
      · cases h
    · exact po1.elim⟩
/-! ### while, with fuel -/
def whR (gc : GB) (gb : GS) : Nat → GS
  | 0 => fun _ _ => .bad
  | n + 1 => fun ρ s => (gc ρ s).toS ρ fun k s1 => match k with
    | true => match gb ρ s1 with
      | .nx ρ' s' => whR gc gb n ρ' s'
      | .ct ρ' s' => whR gc gb n ρ' s'
      | .bk ρ' s' => .nx ρ' s'
      | r => r
    | false => .nx ρ s1
theorem swhile {c : Expr} {gc : GB} (L : Nat) (hp : PassesOwn (model X.prog X.w) X.A X.env X.xe) (hcd : PT X c (rdB p W gc)) (hb : PSs X body (rdS p W gb)) : PS X (.While c body [] pos) (rdS p W (whR gc gb L)) :=
  PS.imp (ps_while hp hcd hb) fun D σ H ⟨G, ρ, gd, en, po⟩ => by
    refine ⟨fun m σ' H' => ∃ G' ρ', GX G G' ∧ Gd p G' H' ∧ EnR p G' ρ' σ' ∧ PoS p W G' D (whR gc gb m ρ' G'.st), ⟨L, G, ρ, GX.rfl', gd, en, po⟩, ?_⟩
    intro m σ1 H1 ⟨G1, ρ1, x1, gd1, en1, po1⟩
    cases m with
    | zero => exact po1.elim
    | succ n =>
      unfold whR at po1
      refine ⟨G1, ρ1, gd1, en1, (PoS.of po1 en1).imp fun k H2 ⟨G2, a, x2, gd2, r2, po2⟩ => ?_⟩
      cases r2
      cases k with
      | false => exact iteF (po2 G2 σ1 H2 GX.rfl' rfl gd2 (en1.gx x2))
      | true =>
        refine iteT ⟨fun σ' H' => ∃ G' ρ', GX G G' ∧ Gd p G' H' ∧ EnR p G' ρ' σ' ∧ PoS p W G' D (whR gc gb n ρ' G'.st), fun σ' H' q => ⟨n, Nat.lt_succ_self n, q⟩, G2, ρ1, gd2, en1.gx x2, ?_⟩
        cases e : gb ρ1 G2.st with
        | nx ρ' s' => simp only [e] at po2; exact fun G3 σ3 H3 x3 e3 gd3 en3 => ⟨G3, ρ', x1.trans (x2.trans x3), gd3, en3, by rw [e3]; exact PoS.gx po2 x3⟩
        | ct ρ' s' => simp only [e] at po2; exact fun G3 σ3 H3 x3 e3 gd3 en3 => ⟨G3, ρ', x1.trans (x2.trans x3), gd3, en3, by rw [e3]; exact PoS.gx po2 x3⟩
        | bk ρ' s' => simp only [e] at po2; exact po2
        | rt d' s' => simp only [e] at po2; exact po2
        | exc c ks xs ρ' s' => simp only [e] at po2; exact po2
        | bad => simp only [e] at po2; exact po2
end
end
end Dq

/-! Defs: what is kept behind a call. -/
namespace Dq
open PySem PySem.Spec PyProof.Rows L2

/-! ### equality and reach of data, as reckoned -/
mutual
def beqD : DV → DV → Bool
  | .non, .non => true
  | .bl a, .bl b => a == b
  | .int a, .int b => a == b
  | .str a, .str b => decide (a = b)
  | .lst a, .lst b => beqDs a b
  | .wl a, .wl b => beqDs a b
  | .tup a, .tup b => beqDs a b
  | .ins c ks xs, .ins d js ys => c == d && (ks == js && beqDs xs ys)
  | .mr a, .mr b => a == b
  | .exn c ks xs, .exn d js ys => c == d && (ks == js && beqDs xs ys)
  | .fn a, .fn b => a == b
  | .cls a, .cls b => a == b
  | .lam a, .lam b => a == b
  | _, _ => false
def beqDs : List DV → List DV → Bool
  | [], [] => true
  | a :: as, b :: bs => beqD a b && beqDs as bs
  | _, _ => false
end
mutual
theorem beqD_eq : ∀ (a b : DV), beqD a b = true → a = b
  | .non, b, h => by cases b <;> first | rfl | (unfold beqD at h; exact nomatch h)
  | .bl x, b, h => by cases b <;> first | (unfold beqD at h; rw [eq_of_beq h]) | (unfold beqD at h; exact nomatch h)
  | .int x, b, h => by cases b <;> first | (unfold beqD at h; rw [eq_of_beq h]) | (unfold beqD at h; exact nomatch h)
  | .str x, b, h => by cases b <;> first | (unfold beqD at h; rw [of_decide_eq_true h]) | (unfold beqD at h; exact nomatch h)
  | .lst x, b, h => by cases b <;> first | (unfold beqD at h; rw [beqDs_eq _ _ h]) | (unfold beqD at h; exact nomatch h)
  | .wl x, b, h => by cases b <;> first | (unfold beqD at h; rw [beqDs_eq _ _ h]) | (unfold beqD at h; exact nomatch h)
  | .tup x, b, h => by cases b <;> first | (unfold beqD at h; rw [beqDs_eq _ _ h]) | (unfold beqD at h; exact nomatch h)
  | .ins c ks xs, b, h => by
    cases b <;> first
    | (unfold beqD at h
       rw [Bool.and_eq_true, Bool.and_eq_true] at h
       rw [eq_of_beq h.1, eq_of_beq h.2.1, beqDs_eq _ _ h.2.2])
    | (unfold beqD at h; exact nomatch h)
  | .mr x, b, h => by cases b <;> first | (unfold beqD at h; rw [eq_of_beq h]) | (unfold beqD at h; exact nomatch h)
  | .exn c ks xs, b, h => by
    cases b <;> first
    | (unfold beqD at h
       rw [Bool.and_eq_true, Bool.and_eq_true] at h
       rw [eq_of_beq h.1, eq_of_beq h.2.1, beqDs_eq _ _ h.2.2])
    | (unfold beqD at h; exact nomatch h)
  | .fn x, b, h => by cases b <;> first | (unfold beqD at h; rw [eq_of_beq h]) | (unfold beqD at h; exact nomatch h)
  | .cls x, b, h => by cases b <;> first | (unfold beqD at h; rw [eq_of_beq h]) | (unfold beqD at h; exact nomatch h)
  | .lam x, b, h => by cases b <;> first | (unfold beqD at h; rw [eq_of_beq h]) | (unfold beqD at h; exact nomatch h)
theorem beqDs_eq : ∀ (a b : List DV), beqDs a b = true → a = b
  | [], [], _ => rfl
  | [], _ :: _, h => by unfold beqDs at h; exact nomatch h
  | _ :: _, [], h => by unfold beqDs at h; exact nomatch h
  | a :: as, b :: bs, h => by
    unfold beqDs at h
    rw [Bool.and_eq_true] at h
    rw [beqD_eq _ _ h.1, beqDs_eq _ _ h.2]
end
mutual
theorem beqD_rfl : ∀ (a : DV), beqD a a = true
  | .non => by unfold beqD; rfl
  | .bl x => by unfold beqD; exact beq_self_eq_true x
  | .int x => by unfold beqD; exact beq_self_eq_true x
  | .str x => by unfold beqD; exact decide_eq_true rfl
  | .lst x => by unfold beqD; exact beqDs_rfl x
  | .wl x => by unfold beqD; exact beqDs_rfl x
  | .tup x => by unfold beqD; exact beqDs_rfl x
  | .ins c ks xs => by unfold beqD; rw [beq_self_eq_true, beq_self_eq_true, beqDs_rfl xs]; rfl
  | .mr x => by unfold beqD; exact beq_self_eq_true x
  | .exn c ks xs => by unfold beqD; rw [beq_self_eq_true, beq_self_eq_true, beqDs_rfl xs]; rfl
  | .fn x => by unfold beqD; exact beq_self_eq_true x
  | .cls x => by unfold beqD; exact beq_self_eq_true x
  | .lam x => by unfold beqD; exact beq_self_eq_true x
theorem beqDs_rfl : ∀ (a : List DV), beqDs a a = true
  | [] => by unfold beqDs; rfl
  | a :: as => by unfold beqDs; rw [beqD_rfl a, beqDs_rfl as]; rfl
end
def beqO : Option MO → Option MO → Bool
  | none, none => true
  | some (.lst a), some (.lst b) => beqDs a b
  | some (.ins c ks xs), some (.ins d js ys) => c == d && (ks == js && beqDs xs ys)
  | _, _ => false
theorem beqO_eq {a b : Option MO} (h : beqO a b = true) : a = b := by
  unfold beqO at h
  split at h
  · rfl
  · rw [beqDs_eq _ _ h]
  · rw [Bool.and_eq_true, Bool.and_eq_true] at h
    rw [eq_of_beq h.1, eq_of_beq h.2.1, beqDs_eq _ _ h.2.2]
  · exact nomatch h
theorem beqO_rfl (a : Option MO) : beqO a a = true := by
  cases a with
  | none => rfl
  | some m => cases m with
    | lst x => exact beqDs_rfl x
    | ins c ks xs =>
      show (c == c && (ks == ks && beqDs xs xs)) = true
      rw [beq_self_eq_true, beq_self_eq_true, beqDs_rfl xs]; rfl
/-- the two stores are the same -/
def sameS : Sto → Sto → Bool
  | [], [] => true
  | a :: as, b :: bs => beqO a b && sameS as bs
  | _, _ => false
theorem sameS_eq : ∀ {a b : Sto}, sameS a b = true → a = b
  | [], [], _ => rfl
  | [], _ :: _, h => nomatch h
  | _ :: _, [], h => nomatch h
  | a :: as, b :: bs, h => by
    unfold sameS at h
    rw [Bool.and_eq_true] at h
    rw [beqO_eq h.1, sameS_eq h.2]
theorem sameS_rfl : ∀ (a : Sto), sameS a a = true
  | [] => rfl
  | a :: as => by unfold sameS; rw [beqO_rfl, sameS_rfl as]; rfl
mutual
/-- no mutable object from m on is named -/
def bel (m : Nat) : DV → Bool
  | .lst xs => bels m xs
  | .wl xs => bels m xs
  | .tup xs => bels m xs
  | .ins _ _ xs => bels m xs
  | .exn _ _ xs => bels m xs
  | .fn n => decide (n ≤ m)
  | .mr k => decide (k < m)
  | _ => true
def bels (m : Nat) : List DV → Bool
  | [] => true
  | x :: xs => bel m x && bels m xs
end
def belO (m : Nat) : Option MO → Bool
  | some (.lst xs) => bels m xs
  | some (.ins _ _ xs) => bels m xs
  | none => true
section
variable {p : Pg}
mutual
theorem bel_cut {F : Hp} {μ : List Addr} {m : Nat} : ∀ (d : DV) (v : V), bel m d = true → Rp p F μ d v → Rp p F (μ.take m) d v
  | .non, _, _, .non => .non
  | .bl _, _, _, .bl b => .bl b
  | .int _, _, _, .int i => .int i
  | .str _, _, _, .str x => .str x
  | .lst xs, _, h, .lst a r => .lst a (bels_cut xs _ (by unfold bel at h; exact h) r)
  | .wl xs, _, h, .wl a r => .wl a (bels_cut xs _ (by unfold bel at h; exact h) r)
  | .tup xs, _, h, .tup a r => .tup a (bels_cut xs _ (by unfold bel at h; exact h) r)
  | .ins _ _ xs, _, h, .ins a e r => .ins a e (bels_cut xs _ (by unfold bel at h; exact h) r)
  | .exn _ _ xs, _, h, .exn a b e r => .exn a b e (bels_cut xs _ (by unfold bel at h; exact h) r)
  | .fn n, _, h, .fn e e2 h1 h2 h3 => .fn e e2 h1 h2 fun k a z => by
    unfold bel at h
    have h := of_decide_eq_true h
    have l := (List.getElem?_eq_some_iff.mp z).1
    rw [List.getElem?_take_of_lt (by omega)]
    exact h3 k a z
  | .cls c, _, _, .cls _ => .cls c
  | .lam _, _, _, .lam e h1 h2 h3 => .lam e h1 h2 h3
  | .mr k, _, h, .mr e => .mr (by
    unfold bel at h
    rw [List.getElem?_take_of_lt (of_decide_eq_true h)]
    exact e)
theorem bels_cut {F : Hp} {μ : List Addr} {m : Nat} : ∀ (ds : List DV) (vs : List V), bels m ds = true → Rps p F μ ds vs → Rps p F (μ.take m) ds vs
  | [], _, _, .nil => .nil
  | d :: ds, _, h, .cons r t => by
    unfold bels at h
    rw [Bool.and_eq_true] at h
    exact .cons (bel_cut d _ h.1 r) (bels_cut ds _ h.2 t)
end
mutual
theorem bel_of {F : Hp} {μ : List Addr} : ∀ (d : DV) (v : V), Rp p F μ d v → bel μ.length d = true
  | .non, _, _ => by unfold bel; rfl
  | .bl _, _, _ => by unfold bel; rfl
  | .int _, _, _ => by unfold bel; rfl
  | .str _, _, _ => by unfold bel; rfl
  | .lst xs, _, .lst _ r => by unfold bel; exact bels_of xs _ r
  | .wl xs, _, .wl _ r => by unfold bel; exact bels_of xs _ r
  | .tup xs, _, .tup _ r => by unfold bel; exact bels_of xs _ r
  | .ins _ _ xs, _, .ins _ _ r => by unfold bel; exact bels_of xs _ r
  | .exn _ _ xs, _, .exn _ _ _ r => by unfold bel; exact bels_of xs _ r
  | .mr k, _, .mr e => by unfold bel; exact decide_eq_true (List.getElem?_eq_some_iff.mp e).1
  | .fn n, _, .fn (μ0 := μ0) e e2 h1 h2 h3 => by
    unfold bel
    refine decide_eq_true ?_
    rw [← e2]
    by_cases z : μ0.length = 0
    · omega
    · have l : μ0.length - 1 < μ0.length := by omega
      have y := h3 _ _ (List.getElem?_eq_getElem l)
      have := (List.getElem?_eq_some_iff.mp y).1
      omega
  | .cls _, _, _ => by unfold bel; rfl
  | .lam _, _, _ => by unfold bel; rfl
theorem bels_of {F : Hp} {μ : List Addr} : ∀ (ds : List DV) (vs : List V), Rps p F μ ds vs → bels μ.length ds = true
  | [], _, _ => by unfold bels; rfl
  | d :: ds, _, .cons r t => by unfold bels; rw [bel_of d _ r, bels_of ds _ t]; rfl
end
/-- the store cut back to what stood at the entry -/
def Gh.cut (G : Gh) (m : Nat) : Gh := ⟨G.F, G.μ.take m, G.st.take m⟩
theorem Gd.cut {G : Gh} {H : Hp} (g : Gd p G H) {m : Nat} (h : (G.st.take m).all (belO m) = true) : Gd p (G.cut m) H where
  le := g.le
  len := by
    show (G.μ.take m).length = (G.st.take m).length
    rw [List.length_take, List.length_take, g.len]
  live := fun k c e => by
    have e' : (G.st.take m)[k]? = some (some c) := e
    have hb : belO m (some c) = true := List.all_eq_true.mp h _ (List.mem_of_getElem? e')
    have lt : k < m := by
      have := (List.getElem?_eq_some_iff.mp e').1
      rw [List.length_take] at this; omega
    rw [List.getElem?_take_of_lt lt] at e'
    obtain ⟨a, e1, e2, e3⟩ := g.live k c e'
    refine ⟨a, ?_, e2, ?_⟩
    · show (G.μ.take m)[k]? = some a
      rw [List.getElem?_take_of_lt lt]; exact e1
    · cases c with
      | lst xs => obtain ⟨vs, q1, q2⟩ := e3; exact ⟨vs, q1, bels_cut xs _ hb q2⟩
      | ins c ks xs => obtain ⟨dx, fs, q1, q2, q3⟩ := e3; exact ⟨dx, fs, q1, q2, bels_cut xs _ hb q3⟩
  all := fun k a e => by
    have e' : (G.μ.take m)[k]? = some a := e
    have lt : k < m := by
      have := (List.getElem?_eq_some_iff.mp e').1
      rw [List.length_take] at this; omega
    rw [List.getElem?_take_of_lt lt] at e'
    exact g.all k a e'
  inj := fun j k a e1 e2 => by
    have e1' : (G.μ.take m)[j]? = some a := e1
    have e2' : (G.μ.take m)[k]? = some a := e2
    have l1 : j < m := by
      have := (List.getElem?_eq_some_iff.mp e1').1
      rw [List.length_take] at this; omega
    have l2 : k < m := by
      have := (List.getElem?_eq_some_iff.mp e2').1
      rw [List.length_take] at this; omega
    rw [List.getElem?_take_of_lt l1] at e1'
    rw [List.getElem?_take_of_lt l2] at e2'
    exact g.inj j k a e1' e2'
  tb := ⟨g.tb.tabs, g.tb.noF, fun k a u e1 e2 => by
    have e1' : (G.μ.take m)[k]? = some a := e1
    have lt : k < m := by
      have := (List.getElem?_eq_some_iff.mp e1').1
      rw [List.length_take] at this; omega
    rw [List.getElem?_take_of_lt lt] at e1'
    exact g.tb.noM k a u e1' e2⟩
theorem GX.cut {G0 G : Gh} {m : Nat} (x : GX G0 G) (h : G0.μ.length = m) : GX G0 (G.cut m) :=
  ⟨x.f, fun k a e => by
    have lt : k < m := by rw [← h]; exact (List.getElem?_eq_some_iff.mp e).1
    show (G.μ.take m)[k]? = some a
    rw [List.getElem?_take_of_lt lt]
    exact x.m k a e⟩
/-- what stood at the entry names nothing younger -/
theorem Gd.bels {G : Gh} {H : Hp} (g : Gd p G H) : G.st.all (belO G.st.length) = true := by
  rw [List.all_eq_true]
  intro o ho
  cases o with
  | none => rfl
  | some c =>
    obtain ⟨k, hk, e⟩ := List.mem_iff_getElem.mp ho
    obtain ⟨a, _, _, e3⟩ := g.live k c (List.getElem?_eq_some_iff.mpr ⟨hk, e⟩)
    rw [← g.len]
    cases c with
    | lst xs => obtain ⟨vs, _, q⟩ := e3; exact bels_of xs _ q
    | ins c ks xs => obtain ⟨dx, fs, _, _, q⟩ := e3; exact bels_of xs _ q

/-! ### freezing -/
mutual
def frz : Nat → Nat → DV → Sto → Option (DV × Sto)
  | 0, _, _, _ => none
  | n + 1, m, d, s => match d with
    | .mr k => match decide (k < m) with
      | true => some (.mr k, s)
      | false => match s[k]? with
        | some (some (.lst xs)) => match frzL n m xs s with
          | some (ys, s1) => some (.lst ys, s1.set k none)
          | none => none
        | _ => some (.mr k, s)
    | .lst xs => match frzL n m xs s with
      | some (ys, s1) => some (.lst ys, s1)
      | none => none
    | .tup xs => match frzL n m xs s with
      | some (ys, s1) => some (.tup ys, s1)
      | none => none
    | .ins c ks xs => match frzL n m xs s with
      | some (ys, s1) => some (.ins c ks ys, s1)
      | none => none
    | d => some (d, s)
def frzL : Nat → Nat → List DV → Sto → Option (List DV × Sto)
  | 0, _, _, _ => none
  | n + 1, m, l, s => match l with
    | [] => some ([], s)
    | d :: ds => match frz n m d s with
      | some (d1, s1) => match frzL n m ds s1 with
        | some (ds1, s2) => some (d1 :: ds1, s2)
        | none => none
      | none => none
end
theorem Gd.drop {G : Gh} {H : Hp} (g : Gd p G H) {k : Nat} {a : Addr} {o : HO} (ha : G.μ[k]? = some a) (ho : H a = some o) :
    GX G ⟨upd G.F a o, G.μ, G.st.set k none⟩ ∧ Gd p ⟨upd G.F a o, G.μ, G.st.set k none⟩ H := by
  have up : ∀ b u, G.F b = some u → upd G.F a o b = some u := fun b u e => by
    by_cases q : b = a
    · subst q
      have := g.le b u e
      rw [ho] at this; cases this
      exact upd_same
    · rw [upd_ne q]; exact e
  refine ⟨⟨up, fun _ _ e => e⟩, ?_, ?_, ?_, g.all, g.inj, g.tb.tabs, fun b u e => ?_, g.tb.noM⟩
  · intro b u e
    have e' : upd G.F a o b = some u := e
    by_cases q : b = a
    · subst q
      rw [upd_same] at e'; cases e'; exact ho
    · rw [upd_ne q] at e'; exact g.le b u e'
  · show G.μ.length = (G.st.set k none).length
    rw [List.length_set]; exact g.len
  · intro j c e
    have e' : (G.st.set k none)[j]? = some (some c) := e
    by_cases q : j = k
    · subst q
      rw [List.getElem?_set_self (by rw [← g.len]; exact (List.getElem?_eq_some_iff.mp ha).1)] at e'
      cases e'
    · rw [List.getElem?_set_ne (Ne.symm q)] at e'
      obtain ⟨b, e1, e2, e3⟩ := g.live j c e'
      have nb : b ≠ a := fun z => q (g.inj j k b e1 (z ▸ ha))
      refine ⟨b, e1, ?_, ?_⟩
      · show upd G.F a o b = none
        rw [upd_ne nb]; exact e2
      · exact ObR.gx (G := G) e3 ⟨up, fun _ _ e => e⟩
  · have e : upd G.F a o b = some u := e
    by_cases q : b = a
    · subst q
      rw [upd_same] at e
      cases e
      exact (g.tb.noM k b _ ha ho).1
    · rw [upd_ne q] at e
      exact g.tb.noF b u e
mutual
theorem frz_ok {H : Hp} {m : Nat} : ∀ (n : Nat) (G : Gh) (d : DV) (v : V) (d' : DV) (s' : Sto), Gd p G H → Rp p G.F G.μ d v → frz n m d G.st = some (d', s') →
    ∃ G', GX G G' ∧ G'.st = s' ∧ Gd p G' H ∧ Rp p G'.F G'.μ d' v
  | 0, G, d, v, d', s', gd, r, e => by unfold frz at e; cases e
  | n + 1, G, d, v, d', s', gd, r, e => by
    unfold frz at e
    split at e
    · split at e
      · cases e; exact ⟨G, GX.rfl', rfl, gd, r⟩
      · split at e
        · rename_i xs hk
          split at e
          · rename_i ys s1 h1
            cases e
            obtain ⟨a, e1, e2, vs, e3, e4⟩ := gd.live _ _ hk
            cases r with
            | mr hm =>
              rw [hm] at e1; cases e1
              obtain ⟨G1, x1, es, gd1, r1⟩ := frzL_ok n G xs vs ys s1 gd e4 h1
              obtain ⟨x2, gd2⟩ := gd1.drop (x1.m _ _ hm) e3
              refine ⟨_, x1.trans x2, by rw [← es], gd2, .lst (by show upd G1.F a _ a = _; rw [upd_same]) (Rgs.gx r1 x2)⟩
          · cases e
        · cases e; exact ⟨G, GX.rfl', rfl, gd, r⟩
    · split at e
      · rename_i ys s1 h1
        cases e
        cases r with
        | lst a rs =>
          obtain ⟨G1, x1, es, gd1, r1⟩ := frzL_ok n G _ _ _ _ gd rs h1
          exact ⟨G1, x1, es, gd1, .lst (x1.f _ _ a) r1⟩
      · cases e
    · split at e
      · rename_i ys s1 h1
        cases e
        cases r with
        | tup a rs =>
          obtain ⟨G1, x1, es, gd1, r1⟩ := frzL_ok n G _ _ _ _ gd rs h1
          exact ⟨G1, x1, es, gd1, .tup (sqT_up x1.f a) r1⟩
      · cases e
    · split at e
      · rename_i ys s1 h1
        cases e
        cases r with
        | ins a q rs =>
          obtain ⟨G1, x1, es, gd1, r1⟩ := frzL_ok n G _ _ _ _ gd rs h1
          exact ⟨G1, x1, es, gd1, .ins (x1.f _ _ a) q r1⟩
      · cases e
    · cases e; exact ⟨G, GX.rfl', rfl, gd, r⟩
theorem frzL_ok {H : Hp} {m : Nat} : ∀ (n : Nat) (G : Gh) (d : List DV) (v : List V) (d' : List DV) (s' : Sto), Gd p G H → Rps p G.F G.μ d v → frzL n m d G.st = some (d', s') →
    ∃ G', GX G G' ∧ G'.st = s' ∧ Gd p G' H ∧ Rps p G'.F G'.μ d' v
  | 0, G, d, v, d', s', gd, r, e => by unfold frzL at e; cases e
  | n + 1, G, d, v, d', s', gd, r, e => by
    unfold frzL at e
    split at e
    · cases e; exact ⟨G, GX.rfl', rfl, gd, r⟩
    · split at e
      · rename_i d1 s1 h1
        split at e
        · rename_i ds1 s2 h2
          cases e
          cases r with
          | cons r1 r2 =>
            obtain ⟨G1, x1, es, gd1, q1⟩ := frz_ok n G _ _ d1 s1 gd r1 h1
            subst es
            obtain ⟨G2, x2, es, gd2, q2⟩ := frzL_ok n G1 _ _ _ _ gd1 (Rgs.gx r2 x1) h2
            exact ⟨G2, x1.trans x2, es, gd2, .cons (Rg.gx q1 x2) q2⟩
        · cases e
      · cases e
end

/-! ### the end of a def -/
/-- may the store be cut back to the m objects that stood at the entry, s0 then -/
def cutOk (s0 s : Sto) : Bool := sameS (s.take s0.length) s0 || (s.take s0.length).all (belO s0.length)
def fin (s0 : Sto) (d : DV) (s : Sto) : R DV := match decide (s.length = s0.length) with
  | true => .ok d s
  | false => match frz 3000 s0.length d s with
    | some (d', s') => match bel s0.length d' && cutOk s0 s' with
      | true => .ok d' (s'.take s0.length)
      | false => .ok d' s'
    | none => .bad
def finX (s0 : Sto) (c : Nat) (ks : List Nat) (xs : List DV) (s : Sto) : R DV := match decide (s.length = s0.length) with
  | true => .exc c ks xs s
  | false => match bels s0.length xs && cutOk s0 s with
    | true => .exc c ks xs (s.take s0.length)
    | false => .exc c ks xs s
def RS.fin (s0 : Sto) : RS → R DV
  | .nx _ s => Dq.fin s0 .non s
  | .rt d s => Dq.fin s0 d s
  | .exc c ks xs _ s => finX s0 c ks xs s
  | _ => .bad
theorem cut_ok {G0 G : Gh} {H0 H : Hp} (g0 : Gd p G0 H0) (x : GX G0 G) (g : Gd p G H) (h : cutOk G0.st G.st = true) : GX G0 (G.cut G0.st.length) ∧ Gd p (G.cut G0.st.length) H := by
  refine ⟨x.cut g0.len, g.cut ?_⟩
  unfold cutOk at h
  rw [Bool.or_eq_true] at h
  rcases h with h | h
  · rw [sameS_eq h]; exact g0.bels
  · exact h
theorem fin_of {G0 G : Gh} {H0 H : Hp} {σ : L2.St} {W : WX} {d : DV} {v : V} {Q : VK} (g0 : Gd p G0 H0) (x : GX G0 G) (g : Gd p G H) (r : Rp p G.F G.μ d v) (po : PoV p W G0 σ (fin G0.st d G.st) Q) : Q v H := by
  unfold fin at po
  split at po
  · exact Po.ret po x rfl g r
  · split at po
    · rename_i d' s' e
      obtain ⟨G1, x1, es, g1, r1⟩ := frz_ok 3000 G d v d' s' g r e
      subst es
      split at po
      · rename_i c
        rw [Bool.and_eq_true] at c
        obtain ⟨x2, g2⟩ := cut_ok g0 (x.trans x1) g1 c.2
        exact Po.ret po x2 rfl g2 (bel_cut d' v c.1 r1)
      · exact Po.ret po (x.trans x1) rfl g1 r1
    · exact po.elim

/-! ### a def by its body -/
/-- what is wished of exceptions by what the caller wishes: nothing may leave; what leaves lies as he wishes -/
abbrev W0 : WX := fun _ _ _ _ => False
abbrev We0 : XK → WX := fun _ => W0
abbrev WeX : XK → WX := fun E c d _ H => E c d H
/-- what a def promises -/
def spD (p : Pg) (We : XK → WX) (n : Nat) (g : List DV → Sto → R DV) : Sp := fun vs H Q E => vs.length = n ∧ ∃ G ds, Gd p G H ∧ Rps p G.F G.μ ds vs ∧ PoV p (We E) G [] (g ds G.st) Q
/-- the body's function as the def's -/
def run (N n : Nat) (b : GS) : List DV → Sto → R DV := fun ds s => match decide (ds.length = n) with
  | true => (b (ds.map some ++ List.replicate (N - n) none) s).fin s
  | false => .bad
theorem start_en {G : Gh} {N : List Str} {ds : List DV} {vs : List V} (r : Rps p G.F G.μ ds vs) (h : vs.length ≤ N.length) : EnR p G (ds.map some ++ List.replicate (N.length - vs.length) none) (L2.start N vs) where
  len := by
    unfold L2.start
    rw [List.length_append, List.length_append, List.length_map, List.length_map, List.length_replicate, List.length_replicate, r.length]
  at_ := fun i d e => by
    unfold L2.start
    by_cases q : i < ds.length
    · rw [List.getElem?_append_left (by rw [List.length_map]; exact q), List.getElem?_map] at e
      cases e2 : ds[i]? with
      | none => rw [e2] at e; cases e
      | some d' =>
        rw [e2] at e; cases e
        obtain ⟨v, e3, e4⟩ := r.get e2
        refine ⟨v, ?_, e4⟩
        rw [List.getElem?_append_left (by rw [List.length_map, ← r.length]; exact q), List.getElem?_map, e3]
        rfl
    · rw [List.getElem?_append_right (by rw [List.length_map]; omega)] at e
      have := List.mem_of_getElem? e
      rw [List.mem_replicate] at this
      cases this.2
theorem body_of {We : XK → WX} (hW : ∀ E c d σ σ' H, We E c d σ H → We E c d σ' H) {N : List Str} {n : Nat} {b : GS} {vs : List V} {H : Hp} {Q : VK} {E : XK} (hn : n ≤ N.length) (h : spD p We n (run N.length n b) vs H Q E) :
    rdS p (We E) b { nx := fun _ H' => Q .non H', rt := Q } (L2.start N vs) H := by
  obtain ⟨hl, G, ds, gd, r, po⟩ := h
  unfold run at po
  split at po
  · rename_i c
    have c := of_decide_eq_true c
    have hv : vs.length = n := hl
    refine ⟨G, _, gd, start_en r (by omega), ?_⟩
    rw [hv]
    cases e : b (ds.map some ++ List.replicate (N.length - n) none) G.st with
    | nx ρ s =>
      rw [e] at po
      intro G1 σ1 H1 x1 e1 g1 en1
      subst e1
      exact fin_of gd x1 g1 .non po
    | rt d s =>
      rw [e] at po
      intro G1 v H1 x1 e1 g1 r1
      subst e1
      exact fin_of gd x1 g1 r1 po
    | exc c ks xs ρ s =>
      rw [e] at po
      intro G1 σ1 H1 d fs x1 e1 g1 en1 hd hk rs
      subst e1
      have po : PoV p (We E) G [] (finX G.st c ks xs G1.st) Q := po
      refine hW E _ _ [] σ1 H1 ?_
      unfold finX at po
      split at po
      · exact po G1 H1 d fs x1 rfl g1 hd hk rs
      · split at po
        · rename_i c2
          rw [Bool.and_eq_true] at c2
          obtain ⟨x2, g2⟩ := cut_ok gd x1 g1 c2.2
          exact po _ H1 d fs x2 rfl g2 hd hk (bels_cut xs _ c2.1 rs)
        · exact po G1 H1 d fs x1 rfl g1 hd hk rs
    | bk ρ s => rw [e] at po; exact po.elim
    | ct ρ s => rw [e] at po; exact po.elim
    | bad => rw [e] at po; exact po.elim
  · exact po.elim
theorem run_len {N n : Nat} {b : GS} {ds : List DV} {s : Sto} (h : ds.length ≠ n) : run N n b ds s = .bad := by
  unfold run
  rw [decide_eq_false h]
end
section
variable {p : Pg} {P : Program} {w : World} {K : PySem.W.Frag} {mg : Str → Option Value} {base : Heap} {x qual : Str} {params : Arguments} {body : List Stmt} {scope : Scope} {dvs : List V} {kws : List (Str × V)} {f : Addr} {fd : FuncData} {N ps : List Str} {k : Nat} {b : GS}
/-- a def that lets nothing out -/
theorem def0 (F : FunD K x qual params body scope dvs kws f fd) (S : FnScope N ps scope) (hn : ps.length ≤ N.length)
    (h : ∀ (cdv : Value) (A : Around) (outer : List Env) (s : Shared) (H : Hp) (E : XK), Room k (A.deeper (envOfC qual scope s.heap.objs.size f cdv)) →
      PSs (cxOf CX0 P w K mg base N qual scope f cdv A outer s H E).nox body (rdS p W0 b)) : FnOk P w K mg base CX0 (k + 1) f fd ps (spD p We0 ps.length (run N.length ps.length b)) :=
  F.ok S (fun vs H Q E h => h.1) fun cdv A outer s H vs Q E hr hs => ⟨_, PSs.nox (h cdv A outer s H E hr), body_of (We := We0) (fun _ _ _ _ _ _ z => z) hn hs⟩
/-- a def that may let exceptions out -/
theorem defX (F : FunD K x qual params body scope dvs kws f fd) (S : FnScope N ps scope) (hn : ps.length ≤ N.length)
    (h : ∀ (cdv : Value) (A : Around) (outer : List Env) (s : Shared) (H : Hp) (E : XK), Room k (A.deeper (envOfC qual scope s.heap.objs.size f cdv)) →
      PSs (cxOf (L2.CX P w) P w K mg base N qual scope f cdv A outer s H E) body (rdS p (WeX E) b)) : FnOk P w K mg base (L2.CX P w) (k + 1) f fd ps (spD p WeX ps.length (run N.length ps.length b)) :=
  F.ok S (fun vs H Q E h => h.1) fun cdv A outer s H vs Q E hr hs => ⟨_, h cdv A outer s H E hr, body_of (We := WeX) (fun _ _ _ _ _ _ z => z) hn hs⟩
end
end Dq

/-! Calls, attributes. -/
namespace Dq
open PySem PySem.Spec PyProof.Rows L2
section
variable {p : Pg} {X : Cx} {W : WX} {CX : CXT} {E : XK} {We : XK → WX}

theorem sp_of {n : Nat} {g : List DV → Sto → R DV} {G : Gh} {H : Hp} {σ : L2.St} {ds : List DV} {vs : List V} {Q : VK} (hg : ∀ ds s, ds.length ≠ n → g ds s = .bad) (hW : ∀ c d σ H, W c d σ H → We E c d [] H)
    (gd : Gd p G H) (r : Rps p G.F G.μ ds vs) (po : PoV p W G σ (g ds G.st) Q) : spD p We n g vs H Q E := by
  by_cases q : ds.length = n
  · refine ⟨by rw [← r.length]; exact q, G, ds, gd, r, ?_⟩
    cases e : g ds G.st with
    | ok d s => rw [e] at po; exact po
    | exc c ks xs s => rw [e] at po; exact fun G2 H2 d fs x2 e2 g2 hd hk rs => hW _ _ σ H2 (po G2 H2 d fs x2 e2 g2 hd hk rs)
    | bad => rw [e] at po; exact po.elim
  · rw [hg ds G.st q] at po; exact po.elim

/-! ### f(..) -/
@[simp] def gCall (g : List DV → Sto → R DV) (ds0 : List DV) (gl : GL) : GE := fun ρ s => (gl ρ s).bind fun l s1 => g (l ++ ds0) s1
/-- what a caller needs of a def: f stands there, it does what g says of the arguments and its defaults ds0 -/
structure FnC (p : Pg) (X : Cx) (W : WX) (f : Addr) (g : List DV → Sto → R DV) (ds0 : List DV) : Prop where
  ex : ∃ (CX : CXT) (E : XK) (We : XK → WX) (k : Nat) (fd : FuncData) (ps : List Str) (dvs : List V) (dsv : List Value),
    FnOk X.prog X.w X.K X.mg X.base CX k f fd ps (spD p We ps.length g) ∧ Room k X.A ∧ Binds X.K fd ps dsv ∧ Vals dvs dsv ∧ (∀ F μ, Rps p F μ ds0 dvs) ∧ Passes CX X E ∧ (∀ c d σ H, W c d σ H → We E c d [] H) ∧ (∀ ds s, ds.length ≠ ps.length → g ds s = .bad)
section
variable {x : Str} {pp pos : Pos} {e : Expr} {es : List Expr} {gl : GL} {f : Addr} {g : List DV → Sto → R DV} {ds0 : List DV}
theorem qcall (C : FnC p X W f g ds0) (hm : X.mg x = some (.ref f)) (hk : PySem.W.keepIn X.K (.ref f) = true) (hg : Gl X x) (ha : PA X (e :: es) (rdL p W gl))
    (hdb : (x == ("__debug__" : Str)) = false := by decide) (he : starEach (e :: es) X.env = (false, eval e X.env) :: starEach es X.env := by rfl) (hpl : (backTo pos (starEach es X.env)).any (·.1) = false := by rfl) :
    PE X (.Call (.Name x pp) (e :: es) [] pos) (rd p W (gCall g ds0 gl)) := by
  obtain ⟨CX, E, We, k, fd, ps, dvs, dsv, F, hr, hb, hd, h0, hx, hW, hl⟩ := C.ex
  exact PE.imp (pe_call F hr hg hm hk hb hd hx ha hdb he hpl) fun σ H Q ⟨G, ρ, gd, en, po⟩ => ⟨G, ρ, gd, en, (Po.bind po).imp fun vs H1 ⟨G1, l, x1, gd1, r1, po1⟩ =>
    sp_of hl hW gd1 (r1.app (h0 _ _)) po1⟩
theorem qcall0 (C : FnC p X W f g ds0) (hm : X.mg x = some (.ref f)) (hk : PySem.W.keepIn X.K (.ref f) = true) (hg : Gl X x)
    (hdb : (x == ("__debug__" : Str)) = false := by decide) : PE X (.Call (.Name x pp) [] [] pos) (rd p W (gCall g ds0 gNil)) := by
  obtain ⟨CX, E, We, k, fd, ps, dvs, dsv, F, hr, hb, hd, h0, hx, hW, hl⟩ := C.ex
  exact PE.imp (pe_call0 F hr hg hm hk hb hd hx hdb) fun σ H Q ⟨G, ρ, gd, en, po⟩ => sp_of (ds := [] ++ ds0) (vs := [] ++ dvs) hl hW gd (h0 _ _) po
end

/-! ### C(..) -/
def makeD (mb : Bool) (c : Nat) (g : List DV → Sto → R DV) (l : List DV) (s : Sto) : R DV := match g (.mr s.length :: l) (s ++ [some (.ins c [] [])]) with
  | .ok .non s2 => match mb with
    | true => .ok (.mr s.length) s2
    | false => match s2[s.length]? with
      | some (some (.ins c' ks xs)) => match decide (c' = c) with
        | true => match bels s.length xs && cutOk s (s2.set s.length none) with
          | true => .ok (.ins c ks xs) ((s2.set s.length none).take s.length)
          | false => .ok (.ins c ks xs) (s2.set s.length none)
        | false => .bad
      | _ => .bad
  | .ok _ _ => .bad
  | .exc c ks xs s2 => finX s c ks xs s2
  | .bad => .bad
theorem make_of {n : Nat} {mb : Bool} {c : Nat} {g : List DV → Sto → R DV} {G : Gh} {H : Hp} {σ : L2.St} {ds : List DV} {vs : List V} {Q : VK} (hg : ∀ ds s, ds.length ≠ n → g ds s = .bad) (hW : ∀ c d σ H, W c d σ H → We E c d [] H)
    (gd : Gd p G H) (r : Rps p G.F G.μ ds vs) (po : PoV p W G σ (makeD mb c g ds G.st) Q) {x dx : Addr} (hx : H x = none) (hdx : H dx = none) (ne : dx ≠ x) :
    spD p We n g (.ref x :: vs) (upd (upd H dx (.own x)) x (.ins (p.cA c) dx [])) (fun v H2 => v = .non ∧ Q (.ref x) H2) E := by
  have hx' : upd H dx (.own x) x = none := by rw [upd_ne (Ne.symm ne)]; exact hx
  have g1 := (gd.beside (o := .own x) hdx).add (m := .ins c [] []) (o := .ins (p.cA c) dx []) hx' ⟨dx, [], rfl, rfl, .nil⟩
  have r1 : Rps p (G.add x (.ins c [] [])).F (G.add x (.ins c [] [])).μ (.mr G.st.length :: ds) (.ref x :: vs) := .cons (.mr (by rw [← gd.len]; exact Gh.add_at)) (Rgs.gx r GX.add)
  refine sp_of (W := W) (σ := σ) hg hW g1 r1 ?_
  have est : (G.add x (.ins c [] [])).st = G.st ++ [some (.ins c [] [])] := rfl
  rw [est]
  unfold makeD at po
  cases e : g (.mr G.st.length :: ds) (G.st ++ [some (.ins c [] [])]) with
  | bad => rw [e] at po; exact po
  | exc c' ks xs s =>
    simp only [e] at po
    intro G2 H2 d fs x2 e2 g2 hd hk rs
    subst e2
    have xx : GX G G2 := GX.add.trans x2
    unfold finX at po
    split at po
    · exact po G2 H2 d fs xx rfl g2 hd hk rs
    · split at po
      · rename_i c2
        rw [Bool.and_eq_true] at c2
        obtain ⟨x3, g3⟩ := cut_ok gd xx g2 c2.2
        exact po _ H2 d fs x3 rfl g3 hd hk (bels_cut xs _ c2.1 rs)
      · exact po G2 H2 d fs xx rfl g2 hd hk rs
  | ok d s =>
    simp only [e] at po
    intro G2 v H2 x2 e2 g2 r2
    subst e2
    have xx : GX G G2 := GX.add.trans x2
    have hm2 : G2.μ[G.st.length]? = some x := x2.m _ _ (by rw [← gd.len]; exact Gh.add_at)
    cases d with
    | non =>
      cases r2
      refine ⟨rfl, ?_⟩
      cases mb with
      | true => exact Po.ret po xx rfl g2 (.mr hm2)
      | false =>
        simp only at po
        split at po
        · rename_i c' ks xs hk
          split at po
          · rename_i hc
            have hc := of_decide_eq_true hc
            subst hc
            obtain ⟨a, e1, e3, dx', fs, e4, e5, e6⟩ := g2.live _ _ hk
            rw [hm2] at e1; cases e1
            obtain ⟨x3, g3⟩ := g2.drop hm2 e4
            have r3 : Rp p (upd G2.F x (.ins (p.cA c') dx' fs)) G2.μ (.ins c' ks xs) (.ref x) := .ins upd_same e5 (Rgs.gx e6 x3)
            split at po
            · rename_i c2
              rw [Bool.and_eq_true] at c2
              obtain ⟨x4, g4⟩ := cut_ok gd (xx.trans x3) g3 c2.2
              exact Po.ret po x4 rfl g4 (bel_cut _ _ (by unfold bel; exact c2.1) r3)
            · exact Po.ret po (xx.trans x3) rfl g3 r3
          · exact po.elim
        · exact po.elim
    | _ => exact po.elim
@[simp] def gMake (mb : Bool) (c : Nat) (g : List DV → Sto → R DV) (ds0 : List DV) (gl : GL) : GE := fun ρ s => (gl ρ s).bind fun l s1 => makeD mb c g (l ++ ds0) s1
/-- what a caller needs of a class -/
structure MkC (p : Pg) (X : Cx) (W : WX) (c : Nat) (g : List DV → Sto → R DV) (ds0 : List DV) : Prop where
  ex : ∃ (CX : CXT) (E : XK) (We : XK → WX) (k : Nat) (f : Addr) (fd : FuncData) (ps : List Str) (dvs : List V) (dsv : List Value),
    Mk X.K (p.cA c) f ∧ FnOk X.prog X.w X.K X.mg X.base CX k f fd ps (spD p We ps.length g) ∧ Room (k + 1) X.A ∧ Binds X.K fd ps dsv ∧ Vals dvs dsv ∧ (∀ F μ, Rps p F μ ds0 dvs) ∧ Passes CX X E ∧ (∀ c d σ H, W c d σ H → We E c d [] H) ∧ (∀ ds s, ds.length ≠ ps.length → g ds s = .bad)
section
variable {x : Str} {pp pos : Pos} {e : Expr} {es : List Expr} {gl : GL} {f : Addr} {g : List DV → Sto → R DV} {ds0 : List DV} {c : Nat} {mb : Bool}
theorem qmake (C : MkC p X W c g ds0) (hm : X.mg x = some (.ref (p.cA c))) (hg : Gl X x) (ha : PA X (e :: es) (rdL p W gl))
    (hdb : (x == ("__debug__" : Str)) = false := by decide) (he : starEach (e :: es) X.env = (false, eval e X.env) :: starEach es X.env := by rfl) (hpl : (backTo pos (starEach es X.env)).any (·.1) = false := by rfl) :
    PE X (.Call (.Name x pp) (e :: es) [] pos) (rd p W (gMake mb c g ds0 gl)) := by
  obtain ⟨CX, E, We, k, f, fd, ps, dvs, dsv, M, F, hr, hb, hd, h0, hx, hW, hl⟩ := C.ex
  exact PE.imp (pe_make M F hr hg hm hb hd hx ha hdb he hpl) fun σ H Q ⟨G, ρ, gd, en, po⟩ => ⟨G, ρ, gd, en, (Po.bind po).imp fun vs H1 ⟨G1, l, x1, gd1, r1, po1⟩ x dx hx hdx ne =>
    make_of hl hW gd1 (r1.app (h0 _ _)) po1 hx hdx ne⟩
end

/-! ### calls with keywords -/
section
variable {x : Str} {pp pos kpos : Pos} {e : Expr} {es : List Expr} {kws : List Keyword}  {gl gk : GL} {ge : GE} {f : Addr} {g : List DV → Sto → R DV} {c : Nat} {mb : Bool} {nm : Option Str}
theorem PK.imp {t t' : TA} (h : PK X kws t) (k : ∀ σ H Q, t' σ H Q → t σ H Q) : PK X kws t' := ⟨fun pos pins s σ H Q I q => h.run pos pins s σ H Q I (k σ H Q q)⟩
theorem knil : PK X [] (rdL p W gNil) := PK.imp pk_nil fun σ H Q ⟨G, ρ, gd, en, po⟩ => Po.ret po GX.rfl' rfl gd .nil
theorem kcons (ha : PE X e (rd p W ge)) (hr : PK X kws (rdL p W gk)) : PK X (⟨nm, e, kpos⟩ :: kws) (rdL p W (gCons ge gk)) :=
  PK.imp (pk_cons ha hr) fun σ H Q ⟨G, ρ, gd, en, po⟩ => ⟨G, ρ, gd, en, (Po.bind po).imp fun v H1 ⟨G1, a, x1, gd1, r1, po1⟩ =>
    ⟨G1, ρ, gd1, en.gx x1, (Po.bind po1).imp fun vs H2 ⟨G2, l, x2, gd2, r2, po2⟩ => Po.ret po2 GX.rfl' rfl gd2 (.cons (Rg.gx r1 x2) r2)⟩⟩
/-- how positional and keyword values become the arguments -/
abbrev Mix := List DV → List DV → Option (List DV)
@[simp] def gMakeK (mb : Bool) (c : Nat) (g : List DV → Sto → R DV) (mx : Mix) (gl gk : GL) : GE := fun ρ s => (gl ρ s).bind fun l s1 => (gk ρ s1).bind fun z s2 => match mx l z with
  | some a => makeD mb c g a s2
  | none => .bad
@[simp] def gCallK (g : List DV → Sto → R DV) (mx : Mix) (gl gk : GL) : GE := fun ρ s => (gl ρ s).bind fun l s1 => (gk ρ s1).bind fun z s2 => match mx l z with
  | some a => g a s2
  | none => .bad
structure MkK (p : Pg) (X : Cx) (W : WX) (c : Nat) (g : List DV → Sto → R DV) (n : Nat) (ks : List Str) (mx : Mix) : Prop where
  ex : ∃ (CX : CXT) (E : XK) (We : XK → WX) (k : Nat) (f : Addr) (fd : FuncData) (ps : List Str) (gg : List Value → List Value → List Value) (gV : List V → List V → List V),
    Mk X.K (p.cA c) f ∧ FnOk X.prog X.w X.K X.mg X.base CX k f fd ps (spD p We ps.length g) ∧ Room (k + 1) X.A ∧ KBn X.K fd ps (n + 1) ks gg gV ∧ Passes CX X E ∧ (∀ c d σ H, W c d σ H → We E c d [] H) ∧ (∀ ds s, ds.length ≠ ps.length → g ds s = .bad) ∧
      ∀ (F : Hp) (μ : List Addr) (l z a : List DV) (vs zs : List V) (u : V), Rps p F μ l vs → Rps p F μ z zs → mx l z = some a → vs.length = n ∧ zs.length = ks.length ∧ ∃ vs', gV (u :: vs) zs = u :: vs' ∧ Rps p F μ a vs'
structure FnK (p : Pg) (X : Cx) (W : WX) (f : Addr) (g : List DV → Sto → R DV) (n : Nat) (ks : List Str) (mx : Mix) : Prop where
  ex : ∃ (CX : CXT) (E : XK) (We : XK → WX) (k : Nat) (fd : FuncData) (ps : List Str) (gg : List Value → List Value → List Value) (gV : List V → List V → List V),
    FnOk X.prog X.w X.K X.mg X.base CX k f fd ps (spD p We ps.length g) ∧ Room k X.A ∧ KBn X.K fd ps n ks gg gV ∧ Passes CX X E ∧ (∀ c d σ H, W c d σ H → We E c d [] H) ∧ (∀ ds s, ds.length ≠ ps.length → g ds s = .bad) ∧
      ∀ (F : Hp) (μ : List Addr) (l z a : List DV) (vs zs : List V), Rps p F μ l vs → Rps p F μ z zs → mx l z = some a → vs.length = n ∧ zs.length = ks.length ∧ Rps p F μ a (gV vs zs)
theorem qmakeK {n : Nat} {ks : List Str} {mx : Mix} (C : MkK p X W c g n ks mx) (hm : X.mg x = some (.ref (p.cA c))) (hg : Gl X x) (ha : PA X (e :: es) (rdL p W gl)) (hkw : PK X kws (rdL p W gk))
    (hall : (backToKw pos (keywordEach kws X.env)).all (·.1.isSome) = true := by rfl) (hks : (backToKw pos (keywordEach kws X.env)).filterMap (·.1) = ks := by rfl) (hdb : (x == ("__debug__" : Str)) = false := by decide)
    (he : starEach (e :: es) X.env = (false, eval e X.env) :: starEach es X.env := by rfl)
    (hpl : ((backTo pos (starEach (e :: es) X.env)).any (·.1) || (backToKw pos (keywordEach kws X.env)).any (·.1.isNone)) = false := by rfl) :
    PE X (.Call (.Name x pp) (e :: es) kws pos) (rd p W (gMakeK mb c g mx gl gk)) := by
  obtain ⟨CX, E, We, k, f, fd, ps, gg, gV, M, F, hr, hb, hx, hW, hl, hmx⟩ := C.ex
  refine PE.imp (pe_makeK M F hr hg hm hb hx ha hkw hall hks hdb he hpl) fun σ H Q ⟨G, ρ, gd, en, po⟩ => ⟨G, ρ, gd, en, (Po.bind po).imp fun vs H1 ⟨G1, l, x1, gd1, r1, po1⟩ =>
    ⟨G1, ρ, gd1, en.gx x1, (Po.bind po1).imp fun zs H2 ⟨G2, z, x2, gd2, r2, po2⟩ => ?_⟩⟩
  cases e1 : mx l z with
  | none => simp only [e1] at po2; exact po2.elim
  | some a =>
    simp only [e1] at po2
    obtain ⟨l1, l2, _⟩ := hmx _ _ l z a vs zs (.non) (Rgs.gx r1 x2) r2 e1
    refine ⟨l1, l2, fun x dx hx hdx ne => ?_⟩
    obtain ⟨_, _, vs', e3, r3⟩ := hmx _ _ l z a vs zs (.ref x) (Rgs.gx r1 x2) r2 e1
    rw [e3]
    exact make_of hl hW gd2 r3 po2 hx hdx ne
theorem qcallK {n : Nat} {ks : List Str} {mx : Mix} (C : FnK p X W f g n ks mx) (hm : X.mg x = some (.ref f)) (hk : PySem.W.keepIn X.K (.ref f) = true) (hg : Gl X x) (ha : PA X (e :: es) (rdL p W gl)) (hkw : PK X kws (rdL p W gk))
    (hall : (backToKw pos (keywordEach kws X.env)).all (·.1.isSome) = true := by rfl) (hks : (backToKw pos (keywordEach kws X.env)).filterMap (·.1) = ks := by rfl) (hdb : (x == ("__debug__" : Str)) = false := by decide)
    (he : starEach (e :: es) X.env = (false, eval e X.env) :: starEach es X.env := by rfl)
    (hpl : ((backTo pos (starEach (e :: es) X.env)).any (·.1) || (backToKw pos (keywordEach kws X.env)).any (·.1.isNone)) = false := by rfl) :
    PE X (.Call (.Name x pp) (e :: es) kws pos) (rd p W (gCallK g mx gl gk)) := by
  obtain ⟨CX, E, We, k, fd, ps, gg, gV, F, hr, hb, hx, hW, hl, hmx⟩ := C.ex
  refine PE.imp (pe_callN F hr hg hm hk hb hx ha hkw hall hks hdb he hpl) fun σ H Q ⟨G, ρ, gd, en, po⟩ => ⟨G, ρ, gd, en, (Po.bind po).imp fun vs H1 ⟨G1, l, x1, gd1, r1, po1⟩ =>
    ⟨G1, ρ, gd1, en.gx x1, (Po.bind po1).imp fun zs H2 ⟨G2, z, x2, gd2, r2, po2⟩ => ?_⟩⟩
  cases e1 : mx l z with
  | none => simp only [e1] at po2; exact po2.elim
  | some a =>
    simp only [e1] at po2
    obtain ⟨l1, l2, r3⟩ := hmx _ _ l z a vs zs (Rgs.gx r1 x2) r2 e1
    exact ⟨l1, l2, sp_of hl hW gd2 r3 po2⟩
end

/-! ### attributes -/
/-- an instance: its class, its attributes -/
@[simp] def insS (s : Sto) : DV → Option (Nat × List Nat × List DV)
  | .ins c ks xs => some (c, ks, xs)
  | .mr k => match s[k]? with
    | some (some (.ins c ks xs)) => some (c, ks, xs)
    | _ => none
  | _ => none
theorem ins_of {G : Gh} {H : Hp} (gd : Gd p G H) {d : DV} {v : V} {c : Nat} {ks : List Nat} {xs : List DV} (r : Rp p G.F G.μ d v) (h : insS G.st d = some (c, ks, xs)) :
    ∃ a dx fs, v = .ref a ∧ H a = some (.ins (p.cA c) dx fs) ∧ fs.map (·.1) = ks.map p.nm ∧ Rps p G.F G.μ xs (fs.map (·.2)) := by
  unfold insS at h
  split at h
  · cases h
    cases r with
    | ins e k rs => exact ⟨_, _, _, rfl, gd.le _ _ e, k, rs⟩
  · split at h
    · rename_i e
      cases h
      cases r with
      | mr hm =>
        obtain ⟨a, e1, e2, dx, fs, e3, e4, e5⟩ := gd.live _ _ e
        rw [hm] at e1; cases e1
        exact ⟨_, dx, fs, rfl, e3, e4, e5⟩
    · cases h
  · cases h
@[simp] def lkD (n : Nat) : List Nat → List DV → Option DV
  | k :: ks, x :: xs => match decide (k = n) with
    | true => some x
    | false => lkD n ks xs
  | _, _ => none
theorem lk_of {F : Hp} {μ : List Addr} {n : Nat} {d : DV} : ∀ {ks : List Nat} {xs : List DV} {fs : List (Str × V)}, fs.map (·.1) = ks.map p.nm → Rps p F μ xs (fs.map (·.2)) → lkD n ks xs = some d → ∃ v, fs.lookup (p.nm n) = some v ∧ Rp p F μ d v
  | [], _, _, _, _, h => by unfold lkD at h; cases h
  | _ :: _, [], _, _, _, h => by unfold lkD at h; cases h
  | k :: ks, x :: xs, [], hk, _, _ => by cases hk
  | k :: ks, x :: xs, (f, v) :: fs, hk, r, h => by
    cases r with
    | cons r1 r2 =>
      have hk1 : f = p.nm k := by injection hk
      have hk2 : fs.map (·.1) = ks.map p.nm := by injection hk
      unfold lkD at h
      split at h
      · rename_i c
        have c := of_decide_eq_true c
        cases h
        refine ⟨v, ?_, r1⟩
        rw [hk1, c, List.lookup_cons, beq_self_eq_true]
      · rename_i c
        have c := of_decide_eq_false c
        obtain ⟨u, e, r3⟩ := lk_of hk2 r2 h
        refine ⟨u, ?_, r3⟩
        rw [List.lookup_cons]
        have ne : (p.nm n == f) = false := by
          rw [beq_eq_false_iff_ne, hk1]
          intro q
          exact c (p.nmi _ _ q.symm)
        rw [ne]
        exact e
theorem lk_none {m : Str} : ∀ {ks : List Nat} {fs : List (Str × V)}, fs.map (·.1) = ks.map p.nm → (∀ k ∈ ks, p.nm k ≠ m) → fs.lookup m = none
  | [], [], _, _ => rfl
  | [], _ :: _, h, _ => by cases h
  | _ :: _, [], h, _ => by cases h
  | k :: ks, (f, v) :: fs, hk, h => by
    have hk1 : f = p.nm k := by injection hk
    have hk2 : fs.map (·.1) = ks.map p.nm := by injection hk
    rw [List.lookup_cons]
    have ne : (m == f) = false := by
      rw [beq_eq_false_iff_ne, hk1]
      exact fun q => h k (List.mem_cons_self ..) q.symm
    rw [ne]
    exact lk_none hk2 fun j hj => h j (List.mem_cons_of_mem _ hj)
/-- a property's getter, by the class -/
abbrev Sel := Nat → Option (List DV → Sto → R DV)
@[simp] def atD (n : Nat) (ps : Sel) (fc : Nat → Bool) (d : DV) (s : Sto) : R DV := match insS s d with
  | some (c, ks, xs) => match ps c with
    | some g => g [d] s
    | none => match fc c, lkD n ks xs with
      | true, some e => .ok e s
      | _, _ => .bad
  | none => .bad
/-- what is needed of a property -/
structure PrC (p : Pg) (X : Cx) (W : WX) (c : Nat) (f : Str) (g : List DV → Sto → R DV) : Prop where
  ex : ∃ (CX : CXT) (E : XK) (We : XK → WX) (k : Nat) (pa ga : Addr) (fd : FuncData) (ps : List Str),
    Cls X.K (p.cA c) ∧ PropOf X.K (p.cA c) f pa ga ∧ FnOk X.prog X.w X.K X.mg X.base CX k ga fd ps (spD p We ps.length g) ∧ Room (k + 1) X.A ∧ Binds X.K fd ps [] ∧ Passes CX X.nox E ∧ (∀ c d σ H, W0 c d σ H → We E c d [] H) ∧ (∀ ds s, ds.length ≠ ps.length → g ds s = .bad) ∧ (W = W0 ∨ ∀ ds s c ks xs s', g ds s ≠ .exc c ks xs s')
theorem PoV.noexc {G : Gh} {σ : L2.St} {r : R DV} {Q : VK} (h : PoV p W G σ r Q) (n : ∀ c ks xs s', r ≠ .exc c ks xs s') : PoV p W0 G σ r Q := by
  cases r with
  | ok d s => exact h
  | exc c ks xs s => exact absurd rfl (n c ks xs s)
  | bad => exact h
section
variable {e : Expr} {f : Str} {pos : Pos} {ge : GE} {n : Nat} {sel : Sel} {fc : Nat → Bool}
theorem qattr (he : PE X e (rd p W ge)) (hp : ∀ c g, sel c = some g → PrC p X W c f g) (hf : ∀ c, fc c = true → Cls X.K (p.cA c) ∧ NoAttr X.K (p.cA c) f) (hn : p.nm n = f := by rfl) (hab : attributeBase e f X.env (eval e X.env) = eval e X.env := by rfl) :
    PE X (.Attribute e f pos) (rd p W (gUn (atD n sel fc) ge)) := by
  refine ⟨fun pins s σ H Q I h => ?_⟩
  refine attr_of hab ?_
  have key := one (W := W) (p := p) (ga := ge) (g := atD n sel fc) (ta := rd p W ge) (σ := σ) (H := H) (Q := Q) (r := fun x H Q => ∃ G a, Gd p G H ∧ Rp p G.F G.μ a x ∧ PoV p W G σ (atD n sel fc a G.st) Q) (fun _ _ _ z => z) (fun x H Q z => z) h
  refine thn (he.run pins s σ H _ I key) fun u s1 ⟨x, H1, I1, rx, G, d, gd, r, po⟩ => ?_
  unfold atD at po
  split at po
  · rename_i c ks xs hi
    obtain ⟨a, dx, fs, rfl, ea, ek, er⟩ := ins_of gd r hi
    obtain rfl : u = Value.ref a := rx
    split at po
    · rename_i g hg
      obtain ⟨CX, E, We, k, pa, ga, fd, ps, cl, pr, F, hr, hb, hx, hW, hl, nx⟩ := (hp c g hg).ex
      refine getprop_ok I1 ea cl pr F hr hb (.nil : Vals [] []) hx ?_
      have po0 : PoV p W0 G σ (g [d] G.st) Q := by
        rcases nx with nx | nx
        · rw [← nx]; exact po
        · exact PoV.noexc po fun c ks xs s' => nx _ _ c ks xs s'
      exact sp_of hl hW gd (.cons r .nil) po0
    · split at po
      · rename_i e2 h1 h2
        obtain ⟨v, lv, rv⟩ := lk_of ek er h2
        obtain ⟨cl, na⟩ := hf c h1
        rw [hn] at lv
        exact getattr_ok I1 ea cl na lv fun u' s' I' ru => ⟨v, H1, I', ru, Po.ret po GX.rfl' rfl gd rv⟩
      · exact po.elim
  · exact po.elim
end
/-! ### o.m(..) -/
structure MtC (p : Pg) (X : Cx) (W : WX) (c : Nat) (m : Str) (g : List DV → Sto → R DV) : Prop where
  ex : ∃ (CX : CXT) (E : XK) (We : XK → WX) (k : Nat) (f : Addr) (fd : FuncData) (ps : List Str) (dvs : List V) (dsv : List Value) (ds0 : List DV) (g0 : List DV → Sto → R DV),
    Cls X.K (p.cA c) ∧ Meth X.K (p.cA c) m f ∧ FnOk X.prog X.w X.K X.mg X.base CX k f fd ps (spD p We ps.length g0) ∧ Room k X.A ∧ Binds X.K fd ps dsv ∧ Vals dvs dsv ∧ (∀ F μ, Rps p F μ ds0 dvs) ∧ Passes CX X E ∧ (∀ c d σ H, W c d σ H → We E c d [] H) ∧ (∀ ds s, ds.length ≠ ps.length → g0 ds s = .bad) ∧ g = fun l s => g0 (l ++ ds0) s
@[simp] def gMeth (nF : Nat) (sel : Sel) (go : GE) (gl : GL) : GE := fun ρ s => (go ρ s).bind fun o s1 => match insS s1 o with
  | some (c, ks, _) => match sel c, ks.all (fun k => decide (k < nF)) with
    | some g, true => (gl ρ s1).bind fun l s2 => g (o :: l) s2
    | _, _ => .bad
  | none => .bad
section
variable {o e : Expr} {es : List Expr} {m : Str} {pos apos : Pos} {go : GE} {gl : GL} {sel : Sel} {nF : Nat} {pl : Sem Bool}
theorem meth_at {G : Gh} {H : Hp} {σ : L2.St} {d : DV} {v : V} {ρ : En} {Q : VK} (hs : ∀ c g, sel c = some g → MtC p X W c m g) (hF : ∀ k, k < nF → p.nm k ≠ m) (gd : Gd p G H) (r : Rp p G.F G.μ d v)
    (po : PoV p W G σ (match insS G.st d with
      | some (c, ks, _) => match sel c, ks.all (fun k => decide (k < nF)) with
        | some g, true => (gl ρ G.st).bind fun l s2 => g (d :: l) s2
        | _, _ => .bad
      | none => .bad) Q) :
    ∃ c a dx fs g, v = .ref a ∧ H a = some (.ins (p.cA c) dx fs) ∧ fs.lookup m = none ∧ MtC p X W c m g ∧ PoV p W G σ ((gl ρ G.st).bind fun l s2 => g (d :: l) s2) Q := by
  split at po
  · rename_i c ks xs hi
    split at po
    · rename_i g h1 h2
      obtain ⟨a, dx, fs, rfl, ea, ek, er⟩ := ins_of gd r hi
      exact ⟨c, a, dx, fs, g, rfl, ea, lk_none ek fun k hk => hF k (of_decide_eq_true (List.all_eq_true.mp h2 k hk)), hs c g h1, po⟩
    · exact po.elim
  · exact po.elim
theorem qmeth (ho : PE X o (rd p W go)) (hs : ∀ c g, sel c = some g → MtC p X W c m g) (hF : ∀ k, k < nF → p.nm k ≠ m) (ha : PA X (e :: es) (rdL p W gl))
    (hst : starEach (e :: es) X.env = (false, eval e X.env) :: starEach es X.env := by rfl) (hpl : (backTo pos (starEach es X.env)).any (·.1) = false := by rfl)
    (ht : eval (.Call (.Attribute o m apos) (e :: es) [] pos) X.env = (do
      let r ← eval o X.env
      standAt apos.atName
      let (f, first) ← holding [r] (getMethod r m pl)
      callWith pos f first (backTo pos (starEach (e :: es) X.env)) (backToKw pos (keywordEach [] X.env))) := by rfl) :
    PE X (.Call (.Attribute o m apos) (e :: es) [] pos) (rd p W (gMeth nF sel go gl)) := by
  refine ⟨fun pins s σ H Q I ⟨G, ρ, gd, en, po⟩ => ?_⟩
  refine PySem.W.methodCall_KW (pl := pl) (thn (ho.run pins s σ H _ I ⟨G, ρ, gd, en, Po.bind po⟩) fun u s1 ⟨x, H1, I1, rx, G1, d, x1, gd1, r1, po1⟩ => ?_) ht
  obtain ⟨c, a, dx, fs, g, rfl, ea, el, C, po2⟩ := meth_at hs hF gd1 r1 po1
  obtain ⟨CX, E, We, k, f, fd, ps, dvs, dsv, ds0, g0, cl, hm, F, hr, hb, hd, h0, hx, hW, hl, rfl⟩ := C.ex
  obtain rfl : u = Value.ref a := rx
  refine getmeth_ok I1 ea cl hm el ?_
  refine PySem.W.callWith_K (first := [.ref a]) (h₀ := X.base) I.ok.mod.kin hm.kp (thn (ha.run pos pins s1 σ H1 _ I1 ⟨G1, ρ, gd1, en.gx x1, Po.bind po2⟩) fun us s2 ⟨vs, H2, I2, rv, G2, l, x2, gd2, r2, po3⟩ => ⟨I2.kIn, ?_⟩) hst hpl
  refine run_fn (us := .ref a :: us) (vs := .ref a :: vs) F hr hb hd hx I2 (.cons rfl rv) ?_
  exact sp_of (ds := (d :: l) ++ ds0) hl hW gd2 ((Rps.cons (Rg.gx r1 x2) r2).app (h0 _ _)) po3
theorem qmeth0 (ho : PE X o (rd p W go)) (hs : ∀ c g, sel c = some g → MtC p X W c m g) (hF : ∀ k, k < nF → p.nm k ≠ m)
    (ht : eval (.Call (.Attribute o m apos) [] [] pos) X.env = (do
      let r ← eval o X.env
      standAt apos.atName
      let (f, first) ← holding [r] (getMethod r m pl)
      callWith pos f first (backTo pos (starEach [] X.env)) (backToKw pos (keywordEach [] X.env))) := by rfl) :
    PE X (.Call (.Attribute o m apos) [] [] pos) (rd p W (gMeth nF sel go gNil)) := by
  refine ⟨fun pins s σ H Q I ⟨G, ρ, gd, en, po⟩ => ?_⟩
  refine PySem.W.methodCall_KW (pl := pl) (thn (ho.run pins s σ H _ I ⟨G, ρ, gd, en, Po.bind po⟩) fun u s1 ⟨x, H1, I1, rx, G1, d, x1, gd1, r1, po1⟩ => ?_) ht
  obtain ⟨c, a, dx, fs, g, rfl, ea, el, C, po2⟩ := meth_at hs hF gd1 r1 po1
  obtain ⟨CX, E, We, k, f, fd, ps, dvs, dsv, ds0, g0, cl, hm, F, hr, hb, hd, h0, hx, hW, hl, rfl⟩ := C.ex
  obtain rfl : u = Value.ref a := rx
  refine getmeth_ok I1 ea cl hm el ?_
  refine PySem.W.callWith_K0 I1.kIn hm.kp ?_
  refine run_fn (us := [.ref a]) (vs := [.ref a]) F hr hb hd hx I1 (.cons rfl .nil) ?_
  exact sp_of (ds := [d] ++ ds0) hl hW gd1 ((Rps.cons r1 .nil).app (h0 _ _)) po2
end

/-! ### o.f = e in a method; o[i] = e; built-in functions and methods -/
@[simp] def putK (n : Nat) (d : DV) : List Nat → List DV → List Nat × List DV
  | k :: ks, x :: xs => match decide (k = n) with
    | true => (k :: ks, d :: xs)
    | false => match putK n d ks xs with
      | (a, b) => (k :: a, x :: b)
  | _, _ => ([n], [d])
@[simp] def fldD (n : Nat) (fc : Nat → Bool) (o d : DV) (s : Sto) : Option Sto := match o with
  | .mr k => match s[k]? with
    | some (some (.ins c ks xs)) => match fc c && decide (ks.length < 999) with
      | true => match putK n d ks xs with
        | (a, b) => some (s.set k (some (.ins c a b)))
      | false => none
    | _ => none
  | _ => none
theorem put_of {F : Hp} {μ : List Addr} {n : Nat} {d : DV} {v : V} (r : Rp p F μ d v) : ∀ {ks : List Nat} {xs : List DV} {fs : List (Str × V)}, fs.map (·.1) = ks.map p.nm → Rps p F μ xs (fs.map (·.2)) →
    (putF (p.nm n) v fs).map (·.1) = (putK n d ks xs).1.map p.nm ∧ Rps p F μ (putK n d ks xs).2 ((putF (p.nm n) v fs).map (·.2))
  | [], [], [], _, _ => ⟨rfl, .cons r .nil⟩
  | [], _ :: _, [], _, t => by cases t
  | k :: ks, _, [], hk, _ => by cases hk
  | [], _, _ :: _, hk, _ => by cases hk
  | k :: ks, [], (f, u) :: fs, _, t => by cases t
  | k :: ks, x :: xs, (f, u) :: fs, hk, t => by
    cases t with
    | cons t1 t2 =>
      have hk1 : f = p.nm k := by injection hk
      have hk2 : fs.map (·.1) = ks.map p.nm := by injection hk
      unfold putK putF
      by_cases q : k = n
      · subst q
        rw [if_pos hk1, decide_eq_true rfl]
        refine ⟨?_, .cons r t2⟩
        show f :: fs.map (·.1) = p.nm k :: ks.map p.nm
        rw [hk1, hk2]
      · have ne : f ≠ p.nm n := fun z => q (p.nmi _ _ (hk1.symm.trans z))
        rw [if_neg ne, decide_eq_false q]
        obtain ⟨h1, h2⟩ := put_of r hk2 t2
        refine ⟨?_, .cons t1 h2⟩
        show f :: (putF (p.nm n) v fs).map (·.1) = p.nm k :: (putK n d ks xs).1.map p.nm
        rw [hk1, h1]
@[simp] def gFld (n : Nat) (fc : Nat → Bool) (gv go : GE) : GS := fun ρ s => (gv ρ s).toS ρ fun d s1 => (go ρ s1).toS ρ fun o s2 => match fldD n fc o d s2 with
  | some s3 => .nx ρ s3
  | none => .bad
section
variable {o value : Expr} {f : Str} {pos pos' : Pos} {go gv : GE} {n : Nat} {fc : Nat → Bool}
theorem sfld (ho : PE X o (rd p W go)) (hv : PE X value (rd p W gv)) (hf : ∀ c, fc c = true → Cls X.K (p.cA c) ∧ NoAttr X.K (p.cA c) f) (hn : p.nm n = f := by rfl) (hs : swapsWith value (some (.Attribute o f pos')) pos.line X.env = pure false := by rfl) :
    PS X (.Assign [.Attribute o f pos'] value pos) (rdS p W (gFld n fc gv go)) :=
  PS.imp (ps_fld ho hv hs) fun D σ H ⟨G, ρ, gd, en, po⟩ => ⟨G, ρ, gd, en, (PoS.of po en).imp fun y H1 ⟨G1, d, x1, gd1, r1, po1⟩ =>
    ⟨G1, ρ, gd1, en.gx x1, (PoS.of po1 (en.gx x1)).imp fun x H2 ⟨G2, od, x2, gd2, r2, po2⟩ => by
      unfold fldD at po2
      split at po2
      · rename_i s3 h
        split at h
        · rename_i k
          split at h
          · rename_i c ks xs hk
            split at h
            · rename_i hc
              rw [Bool.and_eq_true] at hc
              cases h
              cases r2 with
              | mr hm =>
                obtain ⟨a, e1, e2, dx, fs, e3, e4, e5⟩ := gd2.live k _ hk
                rw [hm] at e1; cases e1
                obtain ⟨cl, na⟩ := hf c hc.1
                obtain ⟨h1, h2⟩ := put_of (n := n) (Rg.gx r1 x2) e4 e5
                rw [hn] at h1 h2
                refine ⟨_, _, dx, fs, rfl, e3, cl, na, ?_, ?_⟩
                · have : fs.length = ks.length := by
                    have := congrArg List.length e4
                    rwa [List.length_map, List.length_map] at this
                  rw [this]
                  have := of_decide_eq_true hc.2
                  omega
                · exact po2 _ σ _ GX.put rfl (gd2.put hm e2 ⟨dx, _, rfl, h1, h2⟩) ((en.gx (x1.trans x2)).gx GX.put)
            · cases h
          · cases h
        · cases h
      · exact po2.elim⟩⟩
/-- o[i] = e, o a list in the making -/
def setD (o i d : DV) (s : Sto) : Option Sto := match o, i with
  | .mr k, .int j => match s[k]? with
    | some (some (.lst xs)) => match ixN xs.length j with
      | some m => some (s.set k (some (.lst (xs.set m d))))
      | none => none
    | _ => none
  | _, _ => none
@[simp] def gSetI (gv go gi : GE) : GS := fun ρ s => (gv ρ s).toS ρ fun d s1 => (go ρ s1).toS ρ fun o s2 => (gi ρ s2).toS ρ fun i s3 => match setD o i d s3 with
  | some s4 => .nx ρ s4
  | none => .bad
theorem sseti {i : Expr} {gi : GE} (hv : PE X value (rd p W gv)) (ho : PE X o (rd p W go)) (hi : PE X i (rd p W gi))
    (ha : ∀ v, assign (.Subscript o i pos') X.env v = (do
      let ov ← holding [v] (eval o X.env)
      let iv ← holding [v, ov] (eval i X.env)
      standAt pos'
      holding [v, ov, iv] (setItem ov iv v)
      release [v, ov, iv] []) := by intro _; rfl)
    (hs : swapsWithSole [.Subscript o i pos'] value pos.line X.env = pure false := by rfl) (hw : swappedStores [.Subscript o i pos'] value X.env = pure none := by rfl)
    (h1 : (assignEach [.Subscript o i pos'] X.env).map (·.2) = [assign (.Subscript o i pos') X.env] := by rfl) :
    PS X (.Assign [.Subscript o i pos'] value pos) (rdS p W (gSetI gv go gi)) :=
  PS.imp (ps_asg hv (pg_sub ho hi set_list ha) hs hw h1) fun D σ H ⟨G, ρ, gd, en, po⟩ => ⟨G, ρ, gd, en, (PoS.of po en).imp fun y H1 ⟨G1, d, x1, gd1, r1, po1⟩ =>
    ⟨G1, ρ, gd1, en.gx x1, (PoS.of po1 (en.gx x1)).imp fun x H2 ⟨G2, od, x2, gd2, r2, po2⟩ =>
      ⟨G2, ρ, gd2, en.gx (x1.trans x2), (PoS.of po2 (en.gx (x1.trans x2))).imp fun z H3 ⟨G3, id, x3, gd3, r3, po3⟩ => by
        unfold setD at po3
        split at po3
        · rename_i s4 h
          split at h
          · rename_i k j
            split at h
            · rename_i xs hk
              split at h
              · rename_i m hm
                cases h
                cases r3
                cases Rg.gx r2 x3 with
                | mr hmu =>
                  obtain ⟨a, e1, e2, vs, e3, e4⟩ := gd3.live _ _ hk
                  rw [hmu] at e1; cases e1
                  refine ⟨_, vs, _, m, rfl, rfl, e3, by rw [← e4.length]; exact hm, ?_⟩
                  exact po3 _ σ _ GX.put rfl (gd3.put hmu e2 ⟨_, rfl, Rps.set (Rg.gx r1 (x2.trans x3)) m e4⟩) ((en.gx (x1.trans (x2.trans x3))).gx GX.put)
              · cases h
            · cases h
          · cases h
        · exact po3.elim⟩⟩⟩
end
/-! ### built-in functions by data -/
def rCal (p : Pg) (W : WX) (g : List DV → Sto → R DV) : List V → Hp → VK → Prop := fun vs H Q => ∃ G ds σ, Gd p G H ∧ Rps p G.F G.μ ds vs ∧ PoV p W G σ (g ds G.st) Q
@[simp] def gB (g : List DV → Sto → R DV) (gl : GL) : GE := fun ρ s => (gl ρ s).bind fun l s1 => g l s1
theorem CallR.of {f : Value} {g : List DV → Sto → R DV} (h : ∀ (G : Gh) (H : Hp) (σ : L2.St) (ds : List DV) (vs : List V) (Q : VK), Gd p G H → Rps p G.F G.μ ds vs → PoV p W G σ (g ds G.st) Q →
      ∃ r : List V → Hp → VK → Prop, CallR X f r ∧ r vs H Q) : CallR X f (rCal p W g) := fun pins s σ H vs us Q I r ⟨G, ds, σ', gd, rs, po⟩ => by
  obtain ⟨q, hq, z⟩ := h G H σ' ds vs Q gd rs po
  exact hq pins s σ H vs us Q I r z
section
variable {x : Str} {pp pos : Pos} {e : Expr} {es : List Expr} {gl : GL} {g : List DV → Sto → R DV} {id T : String}
theorem tcb_of {σ : L2.St} {H : Hp} {Q : VK} (h : rd p W (gB g gl) σ H Q) : tCB (rCal p W g) (rdL p W gl) σ H Q := by
  obtain ⟨G, ρ, gd, en, po⟩ := h
  exact ⟨G, ρ, gd, en, (Po.bind po).imp fun vs H1 ⟨G1, l, x1, gd1, r1, po1⟩ => ⟨G1, l, σ, gd1, r1, po1⟩⟩
theorem qblt (hc : CallR X (.builtin id) (rCal p W g)) (hm : X.mg x = none) (hg : Gl X x) (hv : bootBuiltins x = some (.builtin id)) (ha : PA X (e :: es) (rdL p W gl)) (hn : x ≠ "__name__" := by decide) (hdb : (x == ("__debug__" : Str)) = false := by decide)
    (he : starEach (e :: es) X.env = (false, eval e X.env) :: starEach es X.env := by rfl) (hpl : (backTo pos (starEach es X.env)).any (·.1) = false := by rfl) : PE X (.Call (.Name x pp) (e :: es) [] pos) (rd p W (gB g gl)) :=
  PE.imp (pe_callB hc hg hm hv ha hn hdb he hpl) fun σ H Q h => tcb_of h
theorem qbty (hc : CallR X (.type T) (rCal p W g)) (hm : X.mg x = none) (hg : Gl X x) (hv : bootBuiltins x = some (.type T)) (ha : PA X (e :: es) (rdL p W gl)) (hn : x ≠ "__name__" := by decide) (hdb : (x == ("__debug__" : Str)) = false := by decide)
    (he : starEach (e :: es) X.env = (false, eval e X.env) :: starEach es X.env := by rfl) (hpl : (backTo pos (starEach es X.env)).any (·.1) = false := by rfl) : PE X (.Call (.Name x pp) (e :: es) [] pos) (rd p W (gB g gl)) :=
  PE.imp (pe_callTy hc hg hm hv ha hn hdb he hpl) fun σ H Q h => tcb_of h
/-- a built-in that the module has by its own name (gcd) -/
theorem qbfn (hc : CallR X (.builtin id) (rCal p W g)) (hm : X.mg x = some (.builtin id)) (hg : Gl X x) (ha : PA X (e :: es) (rdL p W gl)) (hdb : (x == ("__debug__" : Str)) = false := by decide)
    (he : starEach (e :: es) X.env = (false, eval e X.env) :: starEach es X.env := by rfl) (hpl : (backTo pos (starEach es X.env)).any (·.1) = false := by rfl) : PE X (.Call (.Name x pp) (e :: es) [] pos) (rd p W (gB g gl)) :=
  PE.imp (pe_callBfun hc hg hm ha hdb he hpl) fun σ H Q h => tcb_of h
end
def lenD : List DV → Sto → R DV
  | [.str z], s => okIf (decide (z.length ≤ sizeLine)) (.int z.length) s
  | [d], s => match seqS s d with
    | some xs => .ok (.int xs.length) s
    | none => .bad
  | _, _ => .bad
theorem opd_len (hK : X.K = p.K) : CallR X (.builtin "len") (rCal p W lenD) := CallR.of fun G H σ ds vs Q gd rs po => by
  unfold lenD at po
  split at po
  · cases rs with
    | cons r t =>
      cases t; cases r
      obtain ⟨c, po⟩ := okIf_po po
      exact ⟨_, call_len, _, _, rfl, ⟨of_decide_eq_true c, rfl⟩, Po.ret po GX.rfl' rfl gd (.int _)⟩
  · cases rs with
    | cons r t =>
      cases t
      split at po
      · rename_i xs e
        obtain ⟨a, vs, rfl, hs, r2⟩ := seq_of gd r e
        refine ⟨_, call_len_seq, a, vs, rfl, by rw [hK]; exact hs, ?_⟩
        rw [← r2.length]
        exact Po.ret po GX.rfl' rfl gd (.int _)
      · exact po.elim
  · exact po.elim
@[simp] def absD : List DV → Sto → R DV
  | [.int i], s => .ok (.int (if i < 0 then -i else i)) s
  | _, _ => .bad
theorem opd_abs : CallR X (.builtin "abs") (rCal p W absD) := CallR.of fun G H σ ds vs Q gd rs po => by
  unfold absD at po
  split at po
  · cases rs with
    | cons r t => cases t; cases r; exact ⟨_, call_abs, _, rfl, Po.ret po GX.rfl' rfl gd (.int _)⟩
  · exact po.elim
@[simp] def maxD : List DV → Sto → R DV
  | [.int i, .int j], s => .ok (.int (if j > i then j else i)) s
  | _, _ => .bad
@[simp] def minD : List DV → Sto → R DV
  | [.int i, .int j], s => .ok (.int (if j < i then j else i)) s
  | _, _ => .bad
theorem opd_max (hc : X.calm = true) : CallR X (.builtin "max") (rCal p W maxD) := CallR.of fun G H σ ds vs Q gd rs po => by
  unfold maxD at po
  split at po
  · cases rs with
    | cons r t => cases t with
      | cons r2 t2 => cases t2; cases r; cases r2; exact ⟨_, call_max2 hc, _, _, rfl, Po.ret po GX.rfl' rfl gd (.int _)⟩
  · exact po.elim
theorem opd_min (hc : X.calm = true) : CallR X (.builtin "min") (rCal p W minD) := CallR.of fun G H σ ds vs Q gd rs po => by
  unfold minD at po
  split at po
  · cases rs with
    | cons r t => cases t with
      | cons r2 t2 => cases t2; cases r; cases r2; exact ⟨_, call_min2 hc, _, _, rfl, Po.ret po GX.rfl' rfl gd (.int _)⟩
  · exact po.elim
@[simp] def intD : List DV → Sto → R DV
  | [.int i], s => .ok (.int i) s
  | [.bl k], s => .ok (.int (if k then 1 else 0)) s
  | _, _ => .bad
theorem opd_int : CallR X (.type "int") (rCal p W intD) := CallR.of fun G H σ ds vs Q gd rs po => by
  unfold intD at po
  split at po
  · cases rs with
    | cons r t => cases t; cases r; exact ⟨_, call_int1, .inl ⟨_, rfl, Po.ret po GX.rfl' rfl gd (.int _)⟩⟩
  · cases rs with
    | cons r t => cases t; cases r; exact ⟨_, call_int1, .inr ⟨_, rfl, Po.ret po GX.rfl' rfl gd (.int _)⟩⟩
  · exact po.elim
def listD : List DV → Sto → R DV
  | [d], s => match seqS s d with
    | some xs => .ok (.lst xs) s
    | none => .bad
  | _, _ => .bad
theorem opd_list (hK : X.K = p.K) : CallR X (.type "list") (rCal p W listD) := CallR.of fun G H σ ds vs Q gd rs po => by
  unfold listD at po
  split at po
  · cases rs with
    | cons r t =>
      cases t
      split at po
      · rename_i xs e
        obtain ⟨a, vs, rfl, hs, r2⟩ := seq_of gd r e
        exact ⟨_, call_list_of, a, vs, rfl, by rw [hK]; exact hs, fun q hq => new_lst gd r2 po hq⟩
      · exact po.elim
  · exact po.elim
@[simp] def gcdD : List DV → Sto → R DV
  | [.int i, .int j], s => .ok (.int (Int.gcd i j : Nat)) s
  | _, _ => .bad
/-! ### built-in methods -/
def appD (k : Nat) (d : DV) (s : Sto) : R DV := match s[k]? with
  | some (some (.lst xs)) => match decide (xs.length < sizeLine) with
    | true => .ok .non (s.set k (some (.lst (xs ++ [d]))))
    | false => .bad
  | _ => .bad
/-- xs.append(e), xs a list in the making -/
@[simp] def gApp (go ge : GE) : GE := fun ρ s => (go ρ s).bind fun o s1 => match o with
  | .mr k => match s1[k]? with
    | some (some (.lst _)) => (ge ρ s1).bind fun d s2 => appD k d s2
    | _ => .bad
  | _ => .bad
theorem qapp {o e : Expr} {go ge : GE} {apos cpos : Pos} (ho : PE X o (rd p W go)) (he : PE X e (rd p W ge))
    (hbase : attributeBase o "append" X.env (eval o X.env) = eval o X.env := by rfl)
    (hfew : ((backTo cpos (starEach [e] X.env)).all (fun x => !x.1) && (backToKw cpos (keywordEach [] X.env)).all (fun x => x.1.isSome)
      && decide ([e].length + ([] : List Keyword).length + (if ([] : List Keyword).isEmpty then 0 else 1) < 30)) = true := by rfl)
    (hline : (apos.endLine == cpos.line) = true := by rfl) (hs : starEach [e] X.env = (false, eval e X.env) :: starEach [] X.env := by rfl) : PE X (.Call (.Attribute o "append" apos) [e] [] cpos) (rd p W (gApp go ge)) :=
  PE.imp (pe_bm PySem.F.plainAttrs_list PySem.F.slot_list_append PySem.F.type_list_append mt_append ho (pa_cons he pa_nil hs) hbase hfew hline hs rfl) fun σ H Q ⟨G, ρ, gd, en, po⟩ => ⟨G, ρ, gd, en, (Po.bind po).imp fun v H1 ⟨G1, od, x1, gd1, r1, po1⟩ => by
    split at po1
    · split at po1
      · rename_i k _ xs hk
        cases r1 with
        | mr hm =>
          obtain ⟨a, e1, e2, vs, e3, e4⟩ := gd1.live k _ hk
          rw [hm] at e1; cases e1
          refine ⟨.inl ⟨rfl, _, SqL.of e3⟩, G1, ρ, gd1, en.gx x1, (Po.bind po1).imp fun u H2 ⟨G2, d, x2, gd2, r2, po2⟩ => ?_⟩
          unfold appD at po2
          split at po2
          · rename_i ys hk2
            split at po2
            · rename_i c
              obtain ⟨b, f1, f2, us, f3, f4⟩ := gd2.live k _ hk2
              have hm2 := x2.m _ _ hm
              rw [hm2] at f1; cases f1
              refine ⟨_, us, u, rfl, rfl, f3, by rw [← f4.length]; exact of_decide_eq_true c, ?_⟩
              exact Po.ret po2 GX.put rfl (gd2.put hm2 f2 ⟨_, rfl, f4.app (.cons r2 .nil)⟩) .non
            · exact po2.elim
          · exact po2.elim
      · exact po1.elim
    · exact po1.elim⟩
end
end Dq

/-! The text's own operators; more built-ins. -/
namespace Dq
open PySem PySem.Spec PyProof.Rows L2
section
variable {p : Pg} {X : Cx} {W : WX}

theorem FnC.run {f : Addr} {g : List DV → Sto → R DV} {ds0 : List DV} (C : FnC p X W f g ds0) {pins : List (Addr × Obj)} {σ σ' : L2.St} {H : Hp} {s : Shared} {us : List Value} {vs : List V} {ds : List DV} {G : Gh} {Q : VK} (I : Inv X pins σ H s) (r : Vals vs us)
    (gd : Gd p G H) (rs : Rps p G.F G.μ ds vs) (po : PoV p W G σ' (g (ds ++ ds0) G.st) Q) : wpAny (model X.prog X.w) X.A (call (.ref f) us) (EP X pins σ Q) X.xe s := by
  obtain ⟨CX, E, We, k, fd, ps, dvs, dsv, F, hr, hb, hd, h0, hx, hW, hl⟩ := C.ex
  exact run_fn F hr hb hd hx I r (sp_of hl hW gd (rs.app (h0 _ _)) po)
/-- the class has the special method name; g is what it does -/
structure SpC (p : Pg) (X : Cx) (W : WX) (c : Nat) (name : Str) (g : List DV → Sto → R DV) : Prop where
  ex : ∃ f, PySem.W.findIn X.K (.ref (p.cA c)) name = some (some (.ref f)) ∧ PySem.W.isFn X.K (.ref f) = true ∧ FnC p X W f g []
theorem inst_at {pins : List (Addr × Obj)} {σ : L2.St} {H : Hp} {s : Shared} {a C dx : Addr} {fs : List (Str × V)} (I : Inv X pins σ H s) (e : H a = some (.ins C dx fs)) : ∃ ox od, PySem.W.InstAt s.heap a ox C od := by
  obtain ⟨mA, O, _⟩ := ins_get I.hok e
  obtain ⟨od, J, _⟩ := O.look
  exact ⟨_, _, J⟩
theorem cmpBack_of {Q : VK} {pins : List (Addr × Obj)} {σ : L2.St} {u : Value} {s : Shared} (h : EP X pins σ Q u s) : PySem.W.CmpBack (EP X pins σ Q) u s := by
  obtain ⟨v, H, I, r, q⟩ := h
  cases u <;> first | exact ⟨v, H, I, r, q⟩ | (cases v <;> first | (obtain ⟨_, r⟩ := r; cases r) | cases r)
/-! ### a op b, a an instance, b one of the same class -/
def ownBin (own : Sel) (g : DV → DV → Sto → R DV) (a b : DV) (s : Sto) : R DV := match insS s a with
  | some (c, _, _) => match own c, insS s b with
    | some f, some (c', _, _) => match decide (c' = c) with
      | true => f [a, b] s
      | false => .bad
    | _, _ => .bad
  | none => g a b s
theorem opd_own {op : Operator} {own : Sel} {g : DV → DV → Sto → R DV} (h : OpR X (binaryOp op) (rOp p W g)) (hs : ∀ c f, own c = some f → SpC p X W c (PySem.dunder op.info.2) f ∧ PySem.W.selfFirst X.K (p.cA c) = true) : OpR X (binaryOp op) (rOp p W (ownBin own g)) :=
  fun pins s σ H x y v u Q I rx ry ⟨G, a, b, σ', gd, ra, rb, po⟩ => by
    unfold ownBin at po
    split at po
    · rename_i c ks xs hi
      split at po
      · rename_i f c' ks' xs' hf hi'
        split at po
        · rename_i hc
          have hc := of_decide_eq_true hc
          subst hc
          obtain ⟨x1, dx, fs, rfl, ea, _, _⟩ := ins_of gd ra hi
          obtain ⟨y1, dy, fs', rfl, eb, _, _⟩ := ins_of gd rb hi'
          obtain rfl : v = Value.ref x1 := rx
          obtain rfl : u = Value.ref y1 := ry
          obtain ⟨ox, od, J⟩ := inst_at I ea
          obtain ⟨oy, od', J'⟩ := inst_at I eb
          obtain ⟨m, hF⟩ := I.fr
          obtain ⟨⟨f1, h1, h2, C⟩, h3⟩ := hs _ f hf
          refine PySem.W.binop_K hF I.ok.mod.kin J J'.type h3 h1 h2 (thn (C.run (Q := Q) I (.cons rfl (.cons rfl .nil) : Vals [.ref x1, .ref y1] [.ref x1, .ref y1]) gd (.cons ra (.cons rb .nil)) (by rw [List.append_nil]; exact po)) fun u s' z => cmpBack_of z)
        · exact po.elim
      · exact po.elim
    · exact h pins s σ H x y v u Q I rx ry ⟨G, a, b, σ', gd, ra, rb, po⟩
/-! ### a == b, a an instance, b one of the same class -/
@[simp] def ownEq (own : Sel) (g : DV → DV → Sto → R DV) (a b : DV) (s : Sto) : R DV := match insS s a with
  | some (c, _, _) => match own c, insS s b with
    | some f, some (c', _, _) => match decide (c' = c) with
      | true => f [a, b] s
      | false => .bad
    | _, _ => .bad
  | none => g a b s
theorem opd_ownEq {own : Sel} {g : DV → DV → Sto → R DV} (hu : X.A.units < cLine) (h : OpR X (compareOp .Eq) (rOp p W g)) (hs : ∀ c f, own c = some f → SpC p X W c "__eq__" f) : OpR X (compareOp .Eq) (rOp p W (ownEq own g)) :=
  fun pins s σ H x y v u Q I rx ry ⟨G, a, b, σ', gd, ra, rb, po⟩ => by
    unfold ownEq at po
    split at po
    · rename_i c ks xs hi
      split at po
      · rename_i f c' ks' xs' hf hi'
        split at po
        · rename_i hc
          have hc := of_decide_eq_true hc
          subst hc
          obtain ⟨x1, dx, fs, rfl, ea, _, _⟩ := ins_of gd ra hi
          obtain ⟨y1, dy, fs', rfl, eb, _, _⟩ := ins_of gd rb hi'
          obtain rfl : v = Value.ref x1 := rx
          obtain rfl : u = Value.ref y1 := ry
          obtain ⟨ox, od, J⟩ := inst_at I ea
          obtain ⟨oy, od', J'⟩ := inst_at I eb
          obtain ⟨m, hF⟩ := I.fr
          obtain ⟨f1, h1, h2, C⟩ := (hs _ f hf).ex
          show wpAny (model X.prog X.w) X.A (richCompare .Eq (.ref x1) (.ref y1)) (EP X pins σ Q) X.xe s
          refine PySem.W.cmp_K (op := .Eq) hu hF I.ok.mod.kin J J'.type (by simp [PySem.W.notFirst]) h1 h2 (thn (C.run (Q := Q) I (.cons rfl (.cons rfl .nil) : Vals [.ref x1, .ref y1] [.ref x1, .ref y1]) gd (.cons ra (.cons rb .nil)) (by rw [List.append_nil]; exact po)) fun u s' z => cmpBack_of z)
        · exact po.elim
      · exact po.elim
    · exact h pins s σ H x y v u Q I rx ry ⟨G, a, b, σ', gd, ra, rb, po⟩
/-! ### -a -/
@[simp] def ownUn (own : Sel) (g : DV → Sto → R DV) (a : DV) (s : Sto) : R DV := match insS s a with
  | some (c, _, _) => match own c with
    | some f => f [a] s
    | none => .bad
  | none => g a s
theorem opd_ownNeg {own : Sel} {g : DV → Sto → R DV} (h : UnR X (unaryOp .USub) (rUn1 p W g)) (hs : ∀ c f, own c = some f → SpC p X W c "__neg__" f) : UnR X (unaryOp .USub) (rUn1 p W (ownUn own g)) :=
  fun pins s σ H x v Q I rx ⟨G, a, σ', gd, ra, po⟩ => by
    unfold ownUn at po
    split at po
    · rename_i c ks xs hi
      split at po
      · rename_i f hf
        obtain ⟨x1, dx, fs, rfl, ea, _, _⟩ := ins_of gd ra hi
        obtain rfl : v = Value.ref x1 := rx
        obtain ⟨ox, od, J⟩ := inst_at I ea
        obtain ⟨f1, h1, h2, C⟩ := (hs _ f hf).ex
        unfold unaryOp
        refine wpAny_holding ?_
        show wpAny _ _ (callSpecial? (.ref x1) "__neg__" >>= _) _ _ _
        refine wpAny_bind (PySem.W.special_fn I.kIn J h1 (beq_iff_eq.mp h2) (thn (C.run (Q := Q) I (.cons rfl .nil : Vals [.ref x1] [.ref x1]) gd (.cons ra .nil) (by rw [List.append_nil]; exact po)) fun u s' z => ?_))
        exact wpAny_pure z
      · exact po.elim
    · exact h pins s σ H x v Q I rx ⟨G, a, σ', gd, ra, po⟩
/-! ### a in b -/
@[simp] def ownIn (neg : Bool) (own : Sel) (g : DV → DV → Sto → R DV) (a b : DV) (s : Sto) : R DV := match insS s b with
  | some (c, _, _) => match own c with
    | some f => (f [b, a] s).bind fun r s1 => match r with
      | .bl k => .ok (.bl (if neg then !k else k)) s1
      | _ => .bad
    | none => .bad
  | none => g a b s
theorem opd_ownIn {own : Sel} {g : DV → DV → Sto → R DV} (h : OpR X (compareOp .In) (rOp p W g)) (hs : ∀ c f, own c = some f → SpC p X W c "__contains__" f) : OpR X (compareOp .In) (rOp p W (ownIn false own g)) :=
  fun pins s σ H x y v u Q I rx ry ⟨G, a, b, σ', gd, ra, rb, po⟩ => by
    unfold ownIn at po
    split at po
    · rename_i c ks xs hi
      split at po
      · rename_i f hf
        obtain ⟨y1, dy, fs', rfl, eb, _, _⟩ := ins_of gd rb hi
        obtain rfl : u = Value.ref y1 := ry
        obtain ⟨ox, od, J⟩ := inst_at I eb
        obtain ⟨m, hF⟩ := I.fr
        obtain ⟨f1, h1, h2, C⟩ := (hs _ f hf).ex
        refine PySem.W.in_K hF I.ok.mod.kin J h1 h2 (thn (C.run I (.cons rfl (.cons rx .nil) : Vals [.ref y1, x] [.ref y1, v]) gd (.cons rb (.cons ra .nil)) (by rw [List.append_nil]; exact Po.bind po)) fun r s' z => ?_)
        obtain ⟨w, H1, I1, rw', G1, d, x1, gd1, r1, po1⟩ := z
        split at po1
        · cases r1
          cases rw'
          exact wpAny_truthy_bool ⟨.bl _, H1, I1, rfl, Po.ret po1 GX.rfl' rfl gd1 (.bl _)⟩
        · exact po1.elim
      · exact po.elim
    · exact h pins s σ H x y v u Q I rx ry ⟨G, a, b, σ', gd, ra, rb, po⟩
theorem opd_ownNotIn {own : Sel} {g : DV → DV → Sto → R DV} (h : OpR X (compareOp .NotIn) (rOp p W g)) (hs : ∀ c f, own c = some f → SpC p X W c "__contains__" f) : OpR X (compareOp .NotIn) (rOp p W (ownIn true own g)) :=
  fun pins s σ H x y v u Q I rx ry ⟨G, a, b, σ', gd, ra, rb, po⟩ => by
    unfold ownIn at po
    split at po
    · rename_i c ks xs hi
      split at po
      · rename_i f hf
        obtain ⟨y1, dy, fs', rfl, eb, _, _⟩ := ins_of gd rb hi
        obtain rfl : u = Value.ref y1 := ry
        obtain ⟨ox, od, J⟩ := inst_at I eb
        obtain ⟨m, hF⟩ := I.fr
        obtain ⟨f1, h1, h2, C⟩ := (hs _ f hf).ex
        refine PySem.W.notIn_K hF I.ok.mod.kin J h1 h2 (thn (C.run I (.cons rfl (.cons rx .nil) : Vals [.ref y1, x] [.ref y1, v]) gd (.cons rb (.cons ra .nil)) (by rw [List.append_nil]; exact Po.bind po)) fun r s' z => ?_)
        obtain ⟨w, H1, I1, rw', G1, d, x1, gd1, r1, po1⟩ := z
        split at po1
        · cases r1
          cases rw'
          exact wpAny_truthy_bool ⟨.bl _, H1, I1, rfl, Po.ret po1 GX.rfl' rfl gd1 (.bl _)⟩
        · exact po1.elim
      · exact po.elim
    · exact h pins s σ H x y v u Q I rx ry ⟨G, a, b, σ', gd, ra, rb, po⟩
/-! ### gcd, divmod -/
theorem opd_gcd : CallR X (.builtin "math.gcd") (rCal p W gcdD) := CallR.of fun G H σ ds vs Q gd rs po => by
  unfold gcdD at po
  split at po
  · cases rs with
    | cons r t => cases t with
      | cons r2 t2 => cases t2; cases r; cases r2; exact ⟨_, cr_gcd, _, _, rfl, Po.ret po GX.rfl' rfl gd (.int _)⟩
  · exact po.elim
def divmodD : List DV → Sto → R DV
  | [.int i, .int j], s => okIf (decide (0 < j) && decide (j.natAbs.log2 < 9000)) (.tup [.int (i / j), .int (i % j)]) s
  | _, _ => .bad
theorem opd_divmod : CallR X (.builtin "divmod") (rCal p W divmodD) := CallR.of fun G H σ ds vs Q gd rs po => by
  unfold divmodD at po
  split at po
  · cases rs with
    | cons r t => cases t with
      | cons r2 t2 =>
        cases t2; cases r; cases r2
        obtain ⟨c, po⟩ := okIf_po po
        rw [Bool.and_eq_true] at c
        exact ⟨_, call_divmodW, _, _, rfl, ⟨of_decide_eq_true c.1, PyProof.noPylong_of_log2 (of_decide_eq_true c.2)⟩, fun q hq => new_tup gd (.cons (.int _) (.cons (.int _) .nil)) po hq⟩
  · exact po.elim

/-! ### isinstance(x, a class) -/
inductive Ty where
  | bi (n : String) | own (c : Nat)
def tyD (s : Sto) : DV → Option Ty
  | .non => some (.bi "NoneType")
  | .bl _ => some (.bi "bool")
  | .int _ => some (.bi "int")
  | .str _ => some (.bi "str")
  | .lst _ => some (.bi "list")
  | .wl _ => some (.bi "list")
  | .tup _ => some (.bi "tuple")
  | .ins c _ _ => some (.own c)
  | .mr k => match s[k]? with
    | some (some (.lst _)) => some (.bi "list")
    | some (some (.ins c _ _)) => some (.own c)
    | _ => none
  | .exn _ _ _ => none
  | .fn _ => none
  | .cls _ => none
  | .lam _ => none
def Ty.val (p : Pg) : Ty → Value
  | .bi n => .type n
  | .own c => .ref (p.cA c)
/-- what isinstance wants of a class of the text -/
structure IsC (p : Pg) (K : PySem.W.Frag) (c : Nat) : Prop where
  cl : Cls K (p.cA c)
  ha : PySem.W.findIn K (.ref (p.cA c)) "__class__" = some (some (.builtin "object.__class__"))
  hn : PySem.W.specialIn K (.builtin "object.__class__") "__get__" = some (some (.builtin "getset_descriptor.__get__"))
  hk : PySem.W.takesIn K (.builtin "object.__class__") = some true
  hm : PySem.W.mroIn K (p.cA c) (.type "object") = some true
def sqTy (K : PySem.W.Frag) (H : Hp) (a : Addr) (xs : List V) (h : SqL K H a xs) : TyX K H (.ref a) (.type "list") := by
  rcases h with (h | ⟨o, h⟩) | ⟨o, its, n, h1, h2, _⟩
  · exact .base (.lst h)
  · exact .base (.frz h)
  · exact .kList h1 h2
def tqTy (K : PySem.W.Frag) (H : Hp) (a : Addr) (xs : List V) (h : SqT K H a xs) : TyX K H (.ref a) (.type "tuple") := by
  rcases h with (h | ⟨o, h⟩) | ⟨o, its, n, h1, h2, _⟩
  · exact .base (.tup h)
  · exact .fTuple h
  · exact .kTuple h1 h2
theorem ty_of {G : Gh} {H : Hp} (gd : Gd p G H) {d : DV} {v : V} {t : Ty} (hc : ∀ c, t = .own c → IsC p p.K c) (r : Rp p G.F G.μ d v) (h : tyD G.st d = some t) : TyX p.K H v (t.val p) := by
  have own : ∀ {c : Nat} {a dx : Addr} {fs : List (Str × V)}, t = .own c → H a = some (.ins (p.cA c) dx fs) → TyX p.K H (.ref a) (Ty.val p (.own c)) := fun e ea =>
    let z := hc _ e; .base (.ins ea z.cl z.ha z.hn z.hk z.hm)
  unfold tyD at h
  split at h
  · cases h; cases r; exact .base .non
  · cases h; cases r; exact .base (.bl _)
  · cases h; cases r; exact .base (.int _)
  · cases h; cases r; exact .base (.str _)
  · cases h; cases r with
    | lst a rs => exact sqTy _ _ _ _ (SqL.of (gd.le _ _ a))
  · cases h; cases r with
    | wl a rs => exact sqTy _ _ _ _ (sqL_up gd.le a)
  · cases h; cases r with
    | tup a rs => exact tqTy _ _ _ _ (sqT_up gd.le a)
  · cases h; cases r with
    | ins a k rs => exact own rfl (gd.le _ _ a)
  · cases r with
    | mr hm =>
      split at h
      · rename_i xs e
        cases h
        obtain ⟨a, e1, e2, vs, e3, e4⟩ := gd.live _ _ e
        rw [hm] at e1; cases e1
        exact sqTy _ _ _ _ (SqL.of e3)
      · rename_i c ks xs e
        cases h
        obtain ⟨a, e1, e2, dx, fs, e3, e4, e5⟩ := gd.live _ _ e
        rw [hm] at e1; cases e1
        exact own rfl e3
      · cases h
  · cases h
  · cases h
  · cases h
  · cases h
/-- isinstance(x, C): the answers for one C by the type of x -/
def isiD (ans : Ty → Option Bool) (d : DV) (s : Sto) : R DV := match tyD s d with
  | some t => match ans t with
    | some b => .ok (.bl b) s
    | none => .bad
  | none => .bad
theorem qisi {x : Str} {pp pos : Pos} {e c : Expr} {ge : GE} {cv : V} {cu : Value} {ans : Ty → Option Bool} (hm : X.mg x = none) (hg : Gl X x) (hv : bootBuiltins x = some (.builtin "isinstance")) (he : PE X e (rd p W ge)) (hc : PE X c (tC cv)) (hcu : ClsV cv cu) (hK : X.K = p.K)
    (ha : ∀ t b, ans t = some b → PySem.W.kitOne p.K (t.val p) cu = some b ∧ ∀ c, t = .own c → IsC p p.K c)
    (hn : x ≠ "__name__" := by decide) (hdb : (x == ("__debug__" : Str)) = false := by decide)
    (hse : starEach [e, c] X.env = (false, eval e X.env) :: starEach [c] X.env := by rfl) (hse2 : starEach [c] X.env = (false, eval c X.env) :: starEach [] X.env := by rfl) (hpl : (backTo pos (starEach [c] X.env)).any (·.1) = false := by rfl) :
    PE X (.Call (.Name x pp) [e, c] [] pos) (rd p W (gUn (isiD ans) ge)) :=
  PE.imp (pe_callB call_isi hg hm hv (pa_cons he (pa_cons hc pa_nil hse2) hse) hn hdb hse hpl) fun σ H Q ⟨G, ρ, gd, en, po⟩ => ⟨G, ρ, gd, en, (Po.bind po).imp fun v H1 ⟨G1, d, x1, gd1, r1, po1⟩ => by
    unfold isiD at po1
    split at po1
    · rename_i t ht
      split at po1
      · rename_i b hb
        obtain ⟨h1, h2⟩ := ha t b hb
        exact ⟨v, cv, _, cu, b, rfl, hcu, by rw [hK]; exact ty_of gd1 h2 r1 ht, by rw [hK]; exact h1, Po.ret po1 GX.rfl' rfl gd1 (.bl _)⟩
      · exact po1.elim
    · exact po1.elim⟩
end
end Dq

/-! Defs in a row; the head. -/
namespace Dq
open PySem PySem.Spec PyProof.Rows L2

/-! ### a def that hands back what it made, not frozen -/
def RS.finK : RS → R DV
  | .nx _ s => .ok .non s
  | .rt d s => .ok d s
  | .exc c ks xs _ s => .exc c ks xs s
  | _ => .bad
def runK (N n : Nat) (b : GS) : List DV → Sto → R DV := fun ds s => match decide (ds.length = n) with
  | true => (b (ds.map some ++ List.replicate (N - n) none) s).finK
  | false => .bad
theorem runK_len {N n : Nat} {b : GS} {ds : List DV} {s : Sto} (h : ds.length ≠ n) : runK N n b ds s = .bad := by
  unfold runK
  rw [decide_eq_false h]
section
variable {p : Pg}
theorem body_ofK {We : XK → WX} (hW : ∀ E c d σ σ' H, We E c d σ H → We E c d σ' H) {N : List Str} {n : Nat} {b : GS} {vs : List V} {H : Hp} {Q : VK} {E : XK} (hn : n ≤ N.length) (h : spD p We n (runK N.length n b) vs H Q E) :
    rdS p (We E) b { nx := fun _ H' => Q .non H', rt := Q } (L2.start N vs) H := by
  obtain ⟨hl, G, ds, gd, r, po⟩ := h
  unfold runK at po
  split at po
  · rename_i c
    have hv : vs.length = n := hl
    refine ⟨G, _, gd, start_en r (by omega), ?_⟩
    rw [hv]
    cases e : b (ds.map some ++ List.replicate (N.length - n) none) G.st with
    | nx ρ s =>
      rw [e] at po
      exact fun G1 σ1 H1 x1 e1 g1 en1 => po G1 .non H1 x1 e1 g1 .non
    | rt d s =>
      rw [e] at po
      exact fun G1 v H1 x1 e1 g1 r1 => po G1 v H1 x1 e1 g1 r1
    | exc c ks xs ρ s =>
      rw [e] at po
      exact fun G1 σ1 H1 d fs x1 e1 g1 en1 hd hk rs => hW E _ _ [] σ1 H1 (po G1 H1 d fs x1 e1 g1 hd hk rs)
    | bk ρ s => rw [e] at po; exact po.elim
    | ct ρ s => rw [e] at po; exact po.elim
    | bad => rw [e] at po; exact po.elim
  · exact po.elim

variable {P : Program} {w : World} {mg : Str → Option Value} {base : Heap}
theorem def0K {K : PySem.W.Frag} {x qual : Str} {params : Arguments} {body : List Stmt} {scope : Scope} {dvs : List V} {kws : List (Str × V)} {f : Addr} {fd : FuncData} {N ps : List Str} {k : Nat} {b : GS} (F : FunD K x qual params body scope dvs kws f fd) (S : FnScope N ps scope) (hn : ps.length ≤ N.length)
    (h : ∀ (cdv : Value) (A : Around) (outer : List Env) (s : Shared) (H : Hp) (E : XK), Room k (A.deeper (envOfC qual scope s.heap.objs.size f cdv)) →
      PSs (cxOf CX0 P w K mg base N qual scope f cdv A outer s H E).nox body (rdS p W0 b)) : FnOk P w K mg base CX0 (k + 1) f fd ps (spD p We0 ps.length (runK N.length ps.length b)) :=
  F.ok S (fun vs H Q E h => h.1) fun cdv A outer s H vs Q E hr hs => ⟨_, PSs.nox (h cdv A outer s H E hr), body_ofK (We := We0) (fun _ _ _ _ _ _ z => z) hn hs⟩

/-! ### what one def has of another -/
/-- the def at f, its parameters ps, does m; called with all its parameters but the last, which have ds0 -/
structure OkD (p : Pg) (P : Program) (w : World) (mg : Str → Option Value) (base : Heap) (lv : Nat) (f : Addr) (n : Nat) (m : List DV → Sto → R DV) (ds0 : List DV) : Prop where
  ex : ∃ fd ps dvs dsv, ps.length = n ∧ FnOk P w p.K mg base CX0 lv f fd ps (spD p We0 n m) ∧ Vals dvs dsv ∧ Binds p.K fd ps dsv ∧ (∀ F μ, Rps p F μ ds0 dvs)
  len : ∀ ds s, ds.length ≠ n → m ds s = .bad
structure OkK (p : Pg) (P : Program) (w : World) (mg : Str → Option Value) (base : Heap) (lv : Nat) (f : Addr) (n : Nat) (m : List DV → Sto → R DV) (npos : Nat) (ks : List Str) (mx : Mix) : Prop where
  ex : ∃ fd ps gg gV, ps.length = n ∧ FnOk P w p.K mg base CX0 lv f fd ps (spD p We0 n m) ∧ KBn p.K fd ps npos ks gg gV ∧
    ∀ (F : Hp) (μ : List Addr) (l z a : List DV) (vs zs : List V), Rps p F μ l vs → Rps p F μ z zs → mx l z = some a → vs.length = npos ∧ zs.length = ks.length ∧ Rps p F μ a (gV vs zs)
  len : ∀ ds s, ds.length ≠ n → m ds s = .bad
section
variable {X : Cx} {lv n : Nat} {f : Addr} {m : List DV → Sto → R DV} {ds0 : List DV}
structure At (X : Cx) (p : Pg) (P : Program) (w : World) (mg : Str → Option Value) (base : Heap) : Prop where
  e1 : X.prog = P
  e2 : X.w = w
  e3 : X.K = p.K
  e4 : X.mg = mg
  e5 : X.base = base
theorem OkD.c (o : OkD p P w mg base lv f n m ds0) (hr : Room lv X.A) (e : At X p P w mg base := by exact ⟨rfl, rfl, rfl, rfl, rfl⟩) : FnC p X W0 f m ds0 := by
  obtain ⟨fd, ps, dvs, dsv, hn, F, hd, hb, h0⟩ := o.ex
  obtain ⟨e1, e2, e3, e4, e5⟩ := e
  subst e1 e2 e4 e5 hn
  rw [← e3] at F hb
  exact ⟨CX0, E0, We0, lv, fd, ps, dvs, dsv, F, hr, hb, hd, h0, pass0, fun _ _ _ _ h => h, o.len⟩
theorem OkD.mk' {c : Nat} (o : OkD p P w mg base lv f n m ds0) (M : Mk X.K (p.cA c) f) (hr : Room (lv + 1) X.A) (e : At X p P w mg base := by exact ⟨rfl, rfl, rfl, rfl, rfl⟩) : MkC p X W0 c m ds0 := by
  obtain ⟨fd, ps, dvs, dsv, hn, F, hd, hb, h0⟩ := o.ex
  obtain ⟨e1, e2, e3, e4, e5⟩ := e
  subst e1 e2 e4 e5 hn
  rw [← e3] at F hb
  exact ⟨CX0, E0, We0, lv, f, fd, ps, dvs, dsv, M, F, hr, hb, hd, h0, pass0, fun _ _ _ _ h => h, o.len⟩
theorem OkD.sp {c : Nat} {name : Str} (o : OkD p P w mg base lv f n m []) (h1 : PySem.W.findIn X.K (.ref (p.cA c)) name = some (some (.ref f))) (h2 : PySem.W.isFn X.K (.ref f) = true) (hr : Room lv X.A) (e : At X p P w mg base := by exact ⟨rfl, rfl, rfl, rfl, rfl⟩) : SpC p X W0 c name m :=
  ⟨f, h1, h2, o.c hr e⟩
theorem OkD.mt {c : Nat} {name : Str} (o : OkD p P w mg base lv f n m ds0) (cl : Cls X.K (p.cA c)) (hm : Meth X.K (p.cA c) name f) (hr : Room lv X.A) (e : At X p P w mg base := by exact ⟨rfl, rfl, rfl, rfl, rfl⟩) : MtC p X W0 c name (fun l s => m (l ++ ds0) s) := by
  obtain ⟨fd, ps, dvs, dsv, hn, F, hd, hb, h0⟩ := o.ex
  obtain ⟨e1, e2, e3, e4, e5⟩ := e
  subst e1 e2 e4 e5 hn
  rw [← e3] at F hb
  exact ⟨CX0, E0, We0, lv, f, fd, ps, dvs, dsv, ds0, m, cl, hm, F, hr, hb, hd, h0, pass0, fun _ _ _ _ h => h, o.len, rfl⟩
theorem OkD.pr {c : Nat} {name : Str} {pa : Addr} (o : OkD p P w mg base lv f n m []) (cl : Cls X.K (p.cA c)) (hp : PropOf X.K (p.cA c) name pa f) (hr : Room (lv + 1) X.A) (e : At X p P w mg base := by exact ⟨rfl, rfl, rfl, rfl, rfl⟩) : PrC p X W0 c name m := by
  obtain ⟨fd, ps, dvs, dsv, hn, F, hd, hb, h0⟩ := o.ex
  obtain ⟨e1, e2, e3, e4, e5⟩ := e
  subst e1 e2 e4 e5 hn
  rw [← e3] at F hb
  have e6 : dvs = [] := by
    have := h0 (fun _ => none) []
    cases this; rfl
  subst e6
  cases hd
  exact ⟨CX0, E0, We0, lv, pa, f, fd, ps, cl, hp, F, hr, hb, pass0, fun _ _ _ _ h => h, o.len, .inl rfl⟩
theorem OkK.c {npos : Nat} {ks : List Str} {mx : Mix} (o : OkK p P w mg base lv f n m npos ks mx) (hr : Room lv X.A) (e : At X p P w mg base := by exact ⟨rfl, rfl, rfl, rfl, rfl⟩) : FnK p X W0 f m npos ks mx := by
  obtain ⟨fd, ps, gg, gV, hn, F, hb, h0⟩ := o.ex
  obtain ⟨e1, e2, e3, e4, e5⟩ := e
  subst e1 e2 e4 e5 hn
  rw [← e3] at F hb
  exact ⟨CX0, E0, We0, lv, fd, ps, gg, gV, F, hr, hb, pass0, fun _ _ _ _ h => h, o.len, h0⟩
/-- an __init__ called by keywords: mx tells the parameters behind self -/
structure OkMK (p : Pg) (P : Program) (w : World) (mg : Str → Option Value) (base : Heap) (lv : Nat) (f : Addr) (n : Nat) (m : List DV → Sto → R DV) (npos : Nat) (ks : List Str) (mx : Mix) : Prop where
  ex : ∃ fd ps gg gV, ps.length = n ∧ FnOk P w p.K mg base CX0 lv f fd ps (spD p We0 n m) ∧ KBn p.K fd ps (npos + 1) ks gg gV ∧
    ∀ (F : Hp) (μ : List Addr) (l z a : List DV) (vs zs : List V) (u : V), Rps p F μ l vs → Rps p F μ z zs → mx l z = some a → vs.length = npos ∧ zs.length = ks.length ∧ ∃ vs', gV (u :: vs) zs = u :: vs' ∧ Rps p F μ a vs'
  len : ∀ ds s, ds.length ≠ n → m ds s = .bad
theorem OkMK.mk' {c npos : Nat} {ks : List Str} {mx : Mix} (o : OkMK p P w mg base lv f n m npos ks mx) (M : Mk X.K (p.cA c) f) (hr : Room (lv + 1) X.A) (e : At X p P w mg base := by exact ⟨rfl, rfl, rfl, rfl, rfl⟩) : MkK p X W0 c m npos ks mx := by
  obtain ⟨fd, ps, gg, gV, hn, F, hb, h0⟩ := o.ex
  obtain ⟨e1, e2, e3, e4, e5⟩ := e
  subst e1 e2 e4 e5 hn
  rw [← e3] at F hb
  exact ⟨CX0, E0, We0, lv, f, fd, ps, gg, gV, M, F, hr, hb, pass0, fun _ _ _ _ h => h, o.len, h0⟩
end
end
/-! ### attributes' names by number -/
def nmOf (l : List Str) (i : Nat) : Str := match l[i]? with
  | some x => x
  | none => ⟨#[i + 2000000]⟩
theorem nmOf_inj {l : List Str} (hn : l.Nodup) (hs : l.all (fun x => !(x.cps.size == 1)) = true) (i j : Nat) (e : nmOf l i = nmOf l j) : i = j := by
  have one : ∀ (x : Str) (k : Nat), x ∈ l → x = ⟨#[k]⟩ → False := fun x k hx q => by
    have := List.all_eq_true.mp hs x hx
    rw [q] at this
    simp at this
  unfold nmOf at e
  cases h1 : l[i]? with
  | none =>
    cases h2 : l[j]? with
    | none =>
      rw [h1, h2] at e
      simp only [PySem.Str.mk.injEq] at e
      have := congrArg (fun a : Array Nat => a[0]?) e
      simp at this
      omega
    | some y => rw [h1, h2] at e; exact (one y _ (List.mem_of_getElem? h2) e.symm).elim
  | some x =>
    cases h2 : l[j]? with
    | none => rw [h1, h2] at e; exact (one x _ (List.mem_of_getElem? h1) e).elim
    | some y =>
      rw [h1, h2] at e
      simp only at e
      subst e
      obtain ⟨a, b⟩ := List.getElem?_eq_some_iff.mp h1
      obtain ⟨c, d⟩ := List.getElem?_eq_some_iff.mp h2
      exact (List.getElem_inj hn).mp (b.trans d.symm)

/-! ### the head: defs at any place, facts by truth -/
abbrev FnQ : Type := Option (Str × Str × Arguments × FuncBody × Scope × Addr × List Str × Addr)
def fnQ (K : PySem.W.Frag) (a : Addr) : FnQ := match K.lookup a with
  | some ⟨_, _, .func fd, _⟩ => some (fd.name, fd.qualname, fd.params, fd.body, fd.scope, fd.globals, fd.closure.map (·.1), fd.builtins)
  | _ => none
structure DefQ where
  place : PySem.W.Frag → Addr
  name : Str
  qual : Str
  params : Arguments
  body : List Stmt
  scope : Scope
  dfl : List He.Dv := []
  kwd : List (Str × He.Dv) := []
  clo : List Str := []
def DefQ.val (d : DefQ) : FnQ := some (d.name, d.qual, d.params, .stmts d.body, d.scope, mainGlobals, d.clo, builtinsNs)
def DefQ.ok (K : PySem.W.Frag) (d : DefQ) : Bool := PySem.W.keepIn K (.ref (d.place K)) && (match K.lookup (d.place K) with
  | some ⟨_, _, .func fd, _⟩ => PySem.W.codeIn K fd.code d.qual && (He.dflB K fd.defaults (d.dfl.map (He.Dv.v K)) && He.kwdB K fd.kwdefaults (d.kwd.map fun q => (q.1, q.2.v K)))
  | _ => false)
theorem DefQ.fun_ {K : PySem.W.Frag} {d : DefQ} (e : fnQ K (d.place K) = d.val) (c : d.ok K = true) (hc : d.clo = []) : ∃ fd, FunD K d.name d.qual d.params d.body d.scope (d.dfl.map (He.Dv.v K)) (d.kwd.map fun q => (q.1, q.2.v K)) (d.place K) fd := by
  unfold DefQ.ok at c
  rw [Bool.and_eq_true] at c
  obtain ⟨kp, c2⟩ := c
  unfold fnQ at e
  split at e
  · rename_i oc od fd osl h
    rw [h] at c2
    simp only [Bool.and_eq_true] at c2
    obtain ⟨k1, k2, k3⟩ := c2
    obtain ⟨n1, n2, n3, n4, n5, n6, n7, n8, n9, n10, n11, n12, n13, n14, n15⟩ := fd
    unfold DefQ.val at e
    simp only [Option.some.injEq, Prod.mk.injEq] at e
    obtain ⟨h1, h2, h3, h4, h5, h6, h7, h8⟩ := e
    rw [hc] at h7
    have h7 := List.map_eq_nil_iff.mp h7
    subst h1 h2 h3 h4 h5 h6 h7 h8
    exact ⟨_, ⟨oc, od, n8, n9, n10, n11, n12, n13, n14, osl, rfl, h, k1, He.dflB_ok k2, He.kwdB_ok k3⟩, kp⟩
  · cases e
abbrev AlQ : Type := Bool × List FnQ
def obsQ (fn : List DefQ) (ex : PySem.W.Frag → Bool) (K : PySem.W.Frag) : AlQ := (ex K && fn.all fun d => d.ok K, fn.map fun d => fnQ K (d.place K))
def valQ (fn : List DefQ) : AlQ := (true, fn.map DefQ.val)
def SaysQ (fn : List DefQ) (ex : PySem.W.Frag → Bool) (K : PySem.W.Frag) : Prop := obsQ fn ex K = valQ fn
def obsQG (n : Nat) (fn : List DefQ) (ex : PySem.W.Frag → Bool) (g : Addr → Option Obj) : AlQ := obsQ fn ex (He.frG g (cStatics :: He.asD g n))
def hookQ (n : Nat) (fn : List DefQ) (ex : PySem.W.Frag → Bool) : PySem.W.Hook where
  α := AlQ
  obs := fun s => obsQG n fn ex s.heap.get?
  val := fun _ => valQ fn
  says := fun _ h => ∃ K : PySem.W.Frag, K.In h ∧ SaysQ fn ex K
  of := fun _ _ e => ⟨_, He.frG_in, e⟩
  keeps := fun _ _ _ ⟨K, hK, c⟩ k => ⟨K, PySem.W.Frag.In.keeps hK k, c⟩
theorem obsQG_eq {n : Nat} {fn : List DefQ} {ex : PySem.W.Frag → Bool} {g : Addr → Option Obj} {s : Shared} (h : ∀ a, g a = s.heap.get? a) : obsQG n fn ex g = (hookQ n fn ex).obs s := by
  have e : g = s.heap.get? := funext h
  rw [e]
  rfl
section
variable {fn : List DefQ} {ex : PySem.W.Frag → Bool} {K : PySem.W.Frag}
theorem SaysQ.ex_ (c : SaysQ fn ex K) : ex K = true := by
  have h := congrArg Prod.fst c
  exact (Bool.and_eq_true_iff.mp h).1
theorem SaysQ.fn_ (c : SaysQ fn ex K) (i : Nat) {d : DefQ} (h : fn[i]? = some d := by rfl) (hc : d.clo = [] := by rfl) : ∃ fd, FunD K d.name d.qual d.params d.body d.scope (d.dfl.map (He.Dv.v K)) (d.kwd.map fun q => (q.1, q.2.v K)) (d.place K) fd := by
  have h1 : (ex K && fn.all fun d => d.ok K) = true := congrArg Prod.fst c
  have h2 : (fn.map fun d => fnQ K (d.place K)) = fn.map DefQ.val := congrArg Prod.snd c
  have ok := List.all_eq_true.mp (Bool.and_eq_true_iff.mp h1).2 d (List.mem_of_getElem? h)
  refine DefQ.fun_ ?_ ok hc
  have e := congrArg (fun l : List FnQ => l[i]?) h2
  simp only [List.getElem?_map, h, Option.map_some, Option.some.injEq] at e
  exact e
end
end Dq
namespace Dq
theorem lookup_mem {α β : Type} [BEq α] [LawfulBEq α] {a : α} {b : β} : ∀ {l : List (α × β)}, l.lookup a = some b → (a, b) ∈ l
  | [], h => by cases h
  | (x, y) :: l, h => by
    rw [List.lookup_cons] at h
    split at h
    · rename_i e
      cases h
      have := eq_of_beq e
      subst this
      exact List.mem_cons_self ..
    · exact List.mem_cons_of_mem _ (lookup_mem h)
end Dq
namespace Dq
open PySem PySem.Spec PyProof.Rows L2
section
variable {p : Pg} {P : Program} {w : World} {K : PySem.W.Frag} {mg : Str → Option Value} {base : Heap} {x qual : Str} {params : Arguments} {body : List Stmt} {scope : Scope} {dvs : List V} {kws : List (Str × V)} {f : Addr} {fd : FuncData} {N ps : List Str} {k nN n : Nat} {b : GS} {m : List DV → Sto → R DV}
theorem def0' (F : FunD K x qual params body scope dvs kws f fd) (S : FnScope N ps scope) (hN : N.length = nN) (hp : ps.length = n) (hn : n ≤ nN) (hm : m = run nN n b)
    (h : ∀ (cdv : Value) (A : Around) (outer : List Env) (s : Shared) (H : Hp) (E : XK), Room k (A.deeper (envOfC qual scope s.heap.objs.size f cdv)) →
      PSs (cxOf CX0 P w K mg base N qual scope f cdv A outer s H E).nox body (rdS p W0 b)) : FnOk P w K mg base CX0 (k + 1) f fd ps (spD p We0 n m) := by
  subst hN hp hm
  exact def0 F S hn h
theorem def0K' (F : FunD K x qual params body scope dvs kws f fd) (S : FnScope N ps scope) (hN : N.length = nN) (hp : ps.length = n) (hn : n ≤ nN) (hm : m = runK nN n b)
    (h : ∀ (cdv : Value) (A : Around) (outer : List Env) (s : Shared) (H : Hp) (E : XK), Room k (A.deeper (envOfC qual scope s.heap.objs.size f cdv)) →
      PSs (cxOf CX0 P w K mg base N qual scope f cdv A outer s H E).nox body (rdS p W0 b)) : FnOk P w K mg base CX0 (k + 1) f fd ps (spD p We0 n m) := by
  subst hN hp hm
  exact def0K F S hn h
end
end Dq
namespace Dq
open PySem PySem.Spec PyProof.Rows L2
theorem OkD.mt0 {p : Pg} {P : Program} {w : World} {mg : Str → Option Value} {base : Heap} {X : Cx} {lv n : Nat} {f : Addr} {m : List DV → Sto → R DV} {c : Nat} {name : Str} (o : OkD p P w mg base lv f n m []) (cl : Cls X.K (p.cA c)) (hm : Meth X.K (p.cA c) name f) (hr : Room lv X.A) (e : At X p P w mg base := by exact ⟨rfl, rfl, rfl, rfl, rfl⟩) : MtC p X W0 c name m := by
  have h := o.mt cl hm hr e
  have q : (fun l s => m (l ++ []) s) = m := by
    funext l s
    rw [List.append_nil]
  rw [q] at h
  exact h
end Dq
namespace Dq
open PySem PySem.Spec PyProof.Rows L2
theorem rps_ints {p : Pg} {F : Hp} {μ : List Addr} : ∀ ns : List Int, Rps p F μ (ns.map DV.int) (ns.map V.int)
  | [] => .nil
  | n :: ns => .cons (.int n) (rps_ints ns)
theorem law_spT {p : Pg} {m : List DV → Sto → R DV} {H : Hp} {a : Addr} {ns : List Int} {s : Sto} (ht : LamX.Tabs p.T H) (hS : SqL p.K H a (ns.map V.int)) (e : m [.wl (ns.map DV.int)] [] = .ok (.bl true) s) :
    spD p We0 1 m [.ref a] H (fun v _ => v = .bl true) (fun _ _ _ => False) := by
  have hS' : SqL p.K (fun b => match H b with | some (.tbl _) => none | o => o) a (ns.map V.int) := by
    rcases hS with (h | ⟨o, h⟩) | h
    · exact .inl (.inl (by simp only [h]))
    · exact .inl (.inr ⟨o, by simp only [h]⟩)
    · exact .inr h
  have ex : ∀ b o, (match H b with | some (.tbl _) => none | o => o) = some o → H b = some o ∧ NoTb o := fun b o h => by
    split at h
    · cases h
    · rename_i z
      exact ⟨h, fun ps q => z ps (by rw [h, q])⟩
  refine ⟨rfl, ⟨fun b => match H b with | some (.tbl _) => none | o => o, [], []⟩, [.wl (ns.map DV.int)], ⟨fun b o h => (ex b o h).1, rfl, fun k m h => ?_, fun k a h => ?_, fun j k a h => ?_, ht, fun b o h => (ex b o h).2, fun k b o h => ?_⟩, .cons (.wl hS' (rps_ints ns)) .nil, ?_⟩
  · cases k <;> cases h
  · cases k <;> cases h
  · cases j <;> cases h
  · cases k <;> cases h
  · show Po _ _ _ _ _ (m [.wl (ns.map DV.int)] []) _
    rw [e]
    intro G' b H' _ _ _ r
    have r' : Rp p G'.F G'.μ (.bl true) b := r
    cases r'
    rfl
theorem law_sp' {p : Pg} {m : List DV → Sto → R DV} {H : Hp} {a : Addr} {ns : List Int} {s : Sto} (hS : SqL p.K H a (ns.map V.int)) (e : m [.wl (ns.map DV.int)] [] = .ok (.bl true) s) (hT : p.T = [] := by rfl) :
    spD p We0 1 m [.ref a] H (fun v _ => v = .bl true) (fun _ _ _ => False) := law_spT (by rw [hT]; exact fun q hq => nomatch hq) hS e
end Dq

/-! List comprehensions, recursion. -/
namespace Dq
open PySem PySem.Spec PyProof.Rows L2
def lcR (t : GTg) (tst : GB) (el : GE) (ρ : En) (k : Nat) : List DV → Sto → Option Sto
  | [], s => some s
  | d :: ds, s => match t d ρ with
    | some ρ1 => match tst ρ1 s with
      | .ok true s1 => match el ρ1 s1 with
        | .ok y s2 => match s2[k]? with
          | some (some (.lst acc)) => match decide (acc.length < sizeLine) with
            | true => lcR t tst el ρ k ds (s2.set k (some (.lst (acc ++ [y]))))
            | false => none
          | _ => none
        | _ => none
      | .ok false s1 => lcR t tst el ρ k ds s1
      | _ => none
    | none => none
def lcEnd (s0 s : Sto) : R DV := match s[s0.length]? with
  | some (some (.lst acc)) => match bels s0.length acc && cutOk s0 (s.set s0.length none) with
    | true => .ok (.lst acc) ((s.set s0.length none).take s0.length)
    | false => .ok (.lst acc) (s.set s0.length none)
  | _ => .bad
def wipeD (ρ : En) : List Nat → En
  | [] => ρ
  | v :: vs => (wipeD ρ vs).set v none
def gLc (ge : GE) (t : GTg) (vs : List Nat) (tst : GB) (el : GE) : GE := fun ρ s => (ge ρ s).bind fun d s1 => match seqT d with
  | some xs => match lcR t tst el (wipeD ρ vs) s1.length xs (s1 ++ [some (.lst [])]) with
    | some s2 => lcEnd s1 s2
    | none => .bad
  | none => .bad
section
variable {p : Pg} {W : WX} {X : Cx}
theorem wipe_en {G : Gh} {ρ : En} {σ : L2.St} (e : EnR p G ρ σ) : ∀ vs : List Nat, EnR p G (wipeD ρ vs) (wipe σ vs)
  | [] => e
  | v :: vs => by
    have ih := wipe_en e vs
    refine ⟨?_, fun i d h => ?_⟩
    · show ((wipeD ρ vs).set v none).length = ((wipe σ vs).set v none).length
      rw [List.length_set, List.length_set]; exact ih.len
    · have h : ((wipeD ρ vs).set v none)[i]? = some (some d) := h
      have ne : v ≠ i := by
        rintro rfl
        by_cases q : v < (wipeD ρ vs).length
        · rw [List.getElem?_set_self q] at h; cases h
        · rw [List.getElem?_eq_none (by rw [List.length_set]; omega)] at h; cases h
      rw [List.getElem?_set_ne ne] at h
      obtain ⟨u, a, b⟩ := ih.at_ i d h
      refine ⟨u, ?_, b⟩
      show ((wipe σ vs).set v none)[i]? = _
      rw [List.getElem?_set_ne ne]
      exact a
/-- a target of a comprehension: g the hand layer's reading, t by data -/
def TgB (p : Pg) (g : TG) (t : GTg) (vs : List Nat) : Prop := ∀ (G : Gh) (ρ : En) (σ : L2.St) (d : DV) (v : V) (H : Hp) (Q : L2.St → Hp → Prop) (ρ1 : En), Gd p G H → EnR p G ρ (wipe σ vs) → Rp p G.F G.μ d v → t d ρ = some ρ1 →
  (∀ σ2, EnR p G ρ1 σ2 → wipe σ2 vs = wipe σ vs → Q σ2 H) → g v (wipe σ vs) H Q
theorem PTs.imp {ifs : List Expr} {t t' : TT} (h : PTs X ifs t) (k : ∀ σ H Q, t' σ H Q → t σ H Q) : PTs X ifs t' := ⟨fun pins s σ H Q I q => h.run pins s σ H Q I (k σ H Q q)⟩
abbrev gYes : GB := fun _ s => .ok true s
theorem qts_nil : PTs X [] (rdB p W0 gYes) := PTs.imp pts_nil fun σ H Q ⟨G, ρ, gd, en, po⟩ => Po.ret po GX.rfl' rfl gd rfl
theorem qts_one {c : Expr} {g : GB} (h : PT X c (rdB p W0 g)) : PTs X [c] (rdB p W0 g) := pts_one h
theorem wipe_self {σ : L2.St} {i : Nat} {x : Option V} : wipe ((wipe σ [i]).set i x) [i] = wipe σ [i] := by
  show ((σ.set i none).set i x).set i none = σ.set i none
  rw [List.set_set, List.set_set]
theorem tgb_name (i : Nat) : TgB p (L2.gName i) (tN i) [i] := by
  intro G ρ σ d v H Q ρ1 gd en r e h
  cases e
  exact h _ (en.set r i) wipe_self
theorem lc_end {G1 G2 : Gh} {H1 H2 : Hp} {σ : L2.St} {Q : VK} {D : Addr} (g1 : Gd p G1 H1) (x : GX (G1.add D (.lst [])) G2) (g2 : Gd p G2 H2) (po : PoV p W G1 σ (lcEnd G1.st G2.st) Q) : Q (.ref D) H2 := by
  have hm2 : G2.μ[G1.st.length]? = some D := x.m _ _ (by rw [← g1.len]; exact Gh.add_at)
  have xx : GX G1 G2 := GX.add.trans x
  unfold lcEnd at po
  split at po
  · rename_i acc hk
    obtain ⟨a, e1, e2, vs, e4, e5⟩ := g2.live _ _ hk
    rw [hm2] at e1; cases e1
    obtain ⟨x3, g3⟩ := g2.drop hm2 e4
    have r3 : Rp p (upd G2.F D (.lst vs)) G2.μ (.lst acc) (.ref D) := .lst upd_same (Rgs.gx e5 x3)
    split at po
    · rename_i c2
      rw [Bool.and_eq_true] at c2
      obtain ⟨x4, g4⟩ := cut_ok g1 (xx.trans x3) g3 c2.2
      exact Po.ret po x4 rfl g4 (bel_cut _ _ (by unfold bel; exact c2.1) r3)
    · exact Po.ret po (xx.trans x3) rfl g3 r3
  · exact po.elim
/-- what is left of a comprehension -/
def LcI (p : Pg) (G1 : Gh) (D : Addr) (t : GTg) (tst : GB) (el : GE) (ρ : En) (σ : L2.St) (Qd : Hp → Prop) (ds : List DV) (H : Hp) : Prop :=
  ∃ G2 s2, GX (G1.add D (.lst [])) G2 ∧ Gd p G2 H ∧ lcR t tst el ρ G1.st.length ds G2.st = some s2 ∧ ∀ G3 H3, GX (G1.add D (.lst [])) G3 → Gd p G3 H3 → G3.st = s2 → Qd H3
theorem lc_turnG {G1 G2 : Gh} {s2 : Sto} {H1 : Hp} {D : Addr} {g : TG} {t : GTg} {vs : List Nat} {tst : GB} {el : GE} {ρ : En} {σ : L2.St} {Qd : Hp → Prop} {d : DV} {ds : List DV} {v : V} {H : Hp} (g1 : Gd p G1 H1) (en : EnR p G1 ρ σ) (tg : TgB p g t vs)
    (x2 : GX (G1.add D (.lst [])) G2) (g2 : Gd p G2 H) (e2 : lcR t tst el (wipeD ρ vs) G1.st.length (d :: ds) G2.st = some s2) (h2 : ∀ G3 H3, GX (G1.add D (.lst [])) G3 → Gd p G3 H3 → G3.st = s2 → Qd H3) (r : Rp p G2.F G2.μ d v) :
    g v (wipe σ vs) H fun σ2 H2 => wipe σ2 vs = wipe σ vs ∧ rdB p W0 tst σ2 H2 fun b H3 =>
      if b = true then rd p W0 el σ2 H3 fun y H4 => ∃ acc, H4 D = some (.lst acc) ∧ acc.length < sizeLine ∧ LcI p G1 D t tst el (wipeD ρ vs) σ Qd ds (upd H4 D (.lst (acc ++ [y]))) else LcI p G1 D t tst el (wipeD ρ vs) σ Qd ds H3 := by
  have xx : GX G1 G2 := GX.add.trans x2
  rw [lcR] at e2
  cases et : t d (wipeD ρ vs) with
  | none => rw [et] at e2; cases e2
  | some ρ1 =>
    rw [et] at e2
    refine tg G2 (wipeD ρ vs) σ d v H _ ρ1 g2 ((wipe_en en vs).gx xx) r et fun σ2 en2 hw => ⟨hw, G2, ρ1, g2, en2, ?_⟩
    simp only at e2
    cases eb : tst ρ1 G2.st with
    | bad => rw [eb] at e2; cases e2
    | exc _ _ _ _ => rw [eb] at e2; cases e2
    | ok b s3 =>
      rw [eb] at e2
      intro G3 b' H3 x3 es3 g3 rb
      cases rb
      subst es3
      cases b with
      | false => exact ⟨G3, s2, x2.trans x3, g3, e2, h2⟩
      | true =>
        refine ⟨G3, ρ1, g3, en2.gx x3, ?_⟩
        simp only at e2
        cases ee : el ρ1 G3.st with
        | bad => rw [ee] at e2; cases e2
        | exc _ _ _ _ => rw [ee] at e2; cases e2
        | ok y s4 =>
          rw [ee] at e2
          intro G4 yv H4 x4 es4 g4 ry
          subst es4
          simp only at e2
          have x5 : GX (G1.add D (.lst [])) G4 := x2.trans (x3.trans x4)
          have hm4 : G4.μ[G1.st.length]? = some D := x5.m _ _ (by rw [← g1.len]; exact Gh.add_at)
          split at e2
          · rename_i acc hk
            obtain ⟨a, f1, f2, us, f3, f4⟩ := g4.live _ _ hk
            rw [hm4] at f1; cases f1
            split at e2
            · rename_i c
              exact ⟨us, f3, by rw [← f4.length]; exact of_decide_eq_true c, _, s2, x5.trans GX.put, g4.put (m := .lst (acc ++ [y])) hm4 f2 ⟨us ++ [yv], rfl, f4.app (.cons ry .nil)⟩, e2, h2⟩
            · cases e2
          · cases e2
theorem lc_turn {G1 : Gh} {H1 : Hp} {D : Addr} {g : TG} {t : GTg} {vs : List Nat} {tst : GB} {el : GE} {ρ : En} {σ : L2.St} {Qd : Hp → Prop} {d : DV} {ds : List DV} {v : V} {H : Hp} (g1 : Gd p G1 H1) (en : EnR p G1 ρ σ) (tg : TgB p g t vs)
    (r : Rp p G1.F G1.μ d v) (i : LcI p G1 D t tst el (wipeD ρ vs) σ Qd (d :: ds) H) :
    g v (wipe σ vs) H fun σ2 H2 => wipe σ2 vs = wipe σ vs ∧ rdB p W0 tst σ2 H2 fun b H3 =>
      if b = true then rd p W0 el σ2 H3 fun y H4 => ∃ acc, H4 D = some (.lst acc) ∧ acc.length < sizeLine ∧ LcI p G1 D t tst el (wipeD ρ vs) σ Qd ds (upd H4 D (.lst (acc ++ [y]))) else LcI p G1 D t tst el (wipeD ρ vs) σ Qd ds H3 := by
  obtain ⟨G2, s2, x2, g2, e2, h2⟩ := i
  exact lc_turnG g1 en tg x2 g2 e2 h2 (Rg.gx r (GX.add.trans x2))
theorem lc_imp {vs0 : List Nat} {iter tg : Expr} {ge : GE} {g : TG} {t : GTg} {tst : GB} {el : GE} {σ : L2.St} {H : Hp} {Q : VK} (tb : TgB p g t vs0) (hK : X.K = p.K) (h : rd p W (gLc ge t vs0 tst el) σ H Q) :
    tLc (fun σ H R => iList X.K (rd p W ge) σ H R ∨ iTup X.K (rd p W ge) σ H R) g (rdB p W0 tst) (rd p W0 el) vs0 σ H Q := by
  obtain ⟨G, ρ, gd, en, po⟩ := h
  unfold gLc at po
  cases hr : ge ρ G.st with
  | bad => rw [hr] at po; exact po.elim
  | exc c ks xs s =>
    rw [hr] at po
    refine .inl ⟨G, ρ, gd, en, ?_⟩
    rw [hr]
    exact po
  | ok d s =>
    rw [hr, R.bind_ok] at po
    cases hq : seqT d with
    | none => rw [hq] at po; exact po.elim
    | some xs =>
      rw [hq] at po
      simp only at po
      cases hl : lcR t tst el (wipeD ρ vs0) s.length xs (s ++ [some (.lst [])]) with
      | none => rw [hl] at po; exact po.elim
      | some s2 =>
        rw [hl] at po
        have po : PoV p W G σ (lcEnd s s2) Q := po
        have hd : d = .lst xs ∨ d = .wl xs ∨ d = .tup xs := by
          cases d <;> first | cases hq <;> simp | cases hq
        -- from a ghost that has the list, to the end
        have fini : ∀ {G1 : Gh} {H1 : Hp} {D : Addr}, GX G G1 → G1.st = s → Gd p G1 H1 → H1 D = none → LcI p G1 D t tst el (wipeD ρ vs0) σ (fun H => Q (.ref D) H) xs (upd H1 D (.lst [])) := by
          intro G1 H1 D x1 e1 gd1 hD
          subst e1
          refine ⟨G1.add D (.lst []), s2, GX.rfl', gd1.add hD ⟨[], rfl, .nil⟩, hl, fun G3 H3 x3 g3 e3 => ?_⟩
          subst e3
          exact lc_end gd1 x3 g3 (po.gx x1)
        have stop : ∀ {G1 : Gh} {D : Addr} {H : Hp}, LcI p G1 D t tst el (wipeD ρ vs0) σ (fun H => Q (.ref D) H) [] H → Q (.ref D) H := by
          intro G1 D H ⟨G2, s3, x2, g2, e2, h2⟩
          rw [lcR] at e2
          cases e2
          exact h2 G2 H x2 g2 rfl
        have dr : ∀ {i : Nat} {x : V} {G1 : Gh} {vs : List V}, Rps p G1.F G1.μ xs vs → vs[i]? = some x → ∃ d, Rp p G1.F G1.μ d x ∧ xs.drop i = d :: xs.drop (i + 1) := by
          intro i x G1 vs rs hx
          obtain ⟨d, hd, rd⟩ := rs.get' hx
          obtain ⟨lt, e⟩ := List.getElem?_eq_some_iff.mp hd
          exact ⟨d, rd, by rw [List.drop_eq_getElem_cons lt, e]⟩
        rcases hd with rfl | rfl | rfl
        · refine .inl ⟨G, ρ, gd, en, ?_⟩
          rw [hr]
          intro G1 v H1 x1 e1 gd1 r1
          cases r1 with
          | @lst a _ vs' ha rs =>
            refine ⟨_, rfl, ⟨_, SqL.of (gd1.le _ _ ha)⟩, fun D hD => ?_⟩
            refine lc_list (xs := vs') (fun i H => LcI p G1 D t tst el (wipeD ρ vs0) σ (fun H => Q (.ref D) H) (xs.drop i) H) (fini x1 e1 gd1 hD) (fun i H' _ ⟨G2, _, x2, g2, _⟩ => SqL.of (g2.le _ _ ((GX.add.trans x2).f _ _ ha))) (fun i x H' hx hI => ?_) (fun H' hI => ?_)
            · obtain ⟨d, rd, ed⟩ := dr rs hx
              have hI : LcI p G1 D t tst el (wipeD ρ vs0) σ (fun H => Q (.ref D) H) (xs.drop i) H' := hI
              rw [ed] at hI
              exact lc_turn gd1 (en.gx x1) tb rd hI
            · rw [← rs.length, List.drop_length] at hI
              exact stop hI
        · refine .inl ⟨G, ρ, gd, en, ?_⟩
          rw [hr]
          intro G1 v H1 x1 e1 gd1 r1
          cases r1 with
          | @wl a _ vs' ha rs =>
            refine ⟨_, rfl, ⟨_, by rw [hK]; exact sqL_up gd1.le ha⟩, fun D hD => ?_⟩
            refine lc_list (xs := vs') (fun i H => LcI p G1 D t tst el (wipeD ρ vs0) σ (fun H => Q (.ref D) H) (xs.drop i) H) (fini x1 e1 gd1 hD) (fun i H' _ ⟨G2, _, x2, g2, _⟩ => by rw [hK]; exact sqL_up g2.le (sqL_up (GX.add.trans x2).f ha)) (fun i x H' hx hI => ?_) (fun H' hI => ?_)
            · obtain ⟨d, rd, ed⟩ := dr rs hx
              have hI : LcI p G1 D t tst el (wipeD ρ vs0) σ (fun H => Q (.ref D) H) (xs.drop i) H' := hI
              rw [ed] at hI
              exact lc_turn gd1 (en.gx x1) tb rd hI
            · rw [← rs.length, List.drop_length] at hI
              exact stop hI
        · refine .inr ⟨G, ρ, gd, en, ?_⟩
          rw [hr]
          intro G1 v H1 x1 e1 gd1 r1
          cases r1 with
          | @tup a _ vs' ha rs =>
            refine ⟨_, rfl, ⟨_, by rw [hK]; exact sqT_up gd1.le ha⟩, fun D hD => ?_⟩
            refine lc_tup (xs := vs') (fun i H => LcI p G1 D t tst el (wipeD ρ vs0) σ (fun H => Q (.ref D) H) (xs.drop i) H) (fini x1 e1 gd1 hD) (fun i H' _ ⟨G2, _, x2, g2, _⟩ => by rw [hK]; exact sqT_up g2.le (sqT_up (GX.add.trans x2).f ha)) (fun i x H' hx hI => ?_) (fun H' hI => ?_)
            · obtain ⟨d, rd, ed⟩ := dr rs hx
              have hI : LcI p G1 D t tst el (wipeD ρ vs0) σ (fun H => Q (.ref D) H) (xs.drop i) H' := hI
              rw [ed] at hI
              exact lc_turn gd1 (en.gx x1) tb rd hI
            · rw [← rs.length, List.drop_length] at hI
              exact stop hI
theorem qlc {elt tg iter : Expr} {ifs : List Expr} {scope : Scope} {own : List (Str × Nat)} {pos : Pos} {ge : GE} {g : TG} {t : GTg} {tst : GB} {el : GE} (hc : X.calm = true) (hN : X.N.Nodup) (hi : PE X iter (rd p W ge)) (ok : BlkOk X.N X.env.scope scope own)
    (tb : TgB p g t (own.map (·.2))) (hg : ∀ (s : Shared) (H : Hp) (C : Addr) (cl : List (Str × Addr)) (fp : List Addr), PG (X.blk s H scope (compEnvC scope cl C X.env) fp) tg g)
    (ht : ∀ (s : Shared) (H : Hp) (C : Addr) (cl : List (Str × Addr)) (fp : List Addr), PTs (X.blk s H scope (compEnvC scope cl C X.env) fp) ifs (rdB p W0 tst))
    (he : ∀ (s : Shared) (H : Hp) (C : Addr) (cl : List (Str × Addr)) (fp : List Addr), PE (X.blk s H scope (compEnvC scope cl C X.env) fp) elt (rd p W0 el)) (hK : X.K = p.K := by rfl) (hs : ∀ x, foldedSetIterable iter X.env x = pure x := by intro _; rfl) :
    PE X (.ListComp elt [⟨tg, iter, ifs, 0⟩] scope pos) (rd p W (gLc ge t (own.map (·.2)) tst el)) :=
  PE.imp (pe_lc hc hN (PI.or (pi_list hi) (pi_tup hi)) ok hg ht he hs) fun σ H Q h => lc_imp (X := X) (iter := iter) (tg := tg) tb hK h
/-- name = [..], the name a local -/
theorem ssetLc (i : Nat) {y : Str} {py spos : Pos} {elt tg iter : Expr} {ifs : List Expr} {scope : Scope} {own : List (Str × Nat)} {pos : Pos} {ge : GE} {g : TG} {t : GTg} {tst : GB} {el : GE} (hc : X.calm = true) (hN : X.N.Nodup) (hi : PE X iter (rd p W ge)) (ok : BlkOk X.N X.env.scope scope own)
    (tb : TgB p g t (own.map (·.2))) (hg : ∀ (s : Shared) (H : Hp) (C : Addr) (cl : List (Str × Addr)) (fp : List Addr), PG (X.blk s H scope (compEnvC scope cl C X.env) fp) tg g)
    (ht : ∀ (s : Shared) (H : Hp) (C : Addr) (cl : List (Str × Addr)) (fp : List Addr), PTs (X.blk s H scope (compEnvC scope cl C X.env) fp) ifs (rdB p W0 tst))
    (he : ∀ (s : Shared) (H : Hp) (C : Addr) (cl : List (Str × Addr)) (fp : List Addr), PE (X.blk s H scope (compEnvC scope cl C X.env) fp) elt (rd p W0 el)) (hK : X.K = p.K := by rfl) (hs : ∀ x, foldedSetIterable iter X.env x = pure x := by intro _; rfl) (hyl : X.env.scope.names.lookup y = some .local := by rfl) (hy : X.N[i]? = some y := by rfl) (hsw : swapsWith (.ListComp elt [⟨tg, iter, ifs, 0⟩] scope pos) (some (.Name y py)) spos.line X.env = pure true := by rfl) :
    PS X (.Assign [.Name y py] (.ListComp elt [⟨tg, iter, ifs, 0⟩] scope pos) spos) (rdS p W (gSet i (gLc ge t (own.map (·.2)) tst el))) :=
  PS.imp (ps_setLc hc hN hy hyl hsw (PI.or (pi_list hi) (pi_tup hi)) ok hg ht he hs) fun D σ H ⟨G, ρ, gd, en, po⟩ => by
    have q : rd p W (gLc ge t (own.map (·.2)) tst el) σ H fun x H1 => L2.gName i x σ H1 D.nx :=
      ⟨G, ρ, gd, en, (PoS.of po en).imp fun v H1 ⟨G1, a, x1, gd1, r1, po1⟩ => po1 G1 _ H1 GX.rfl' rfl gd1 ((en.gx x1).set r1 i)⟩
    exact lc_imp (X := X) (iter := iter) (tg := tg) tb hK q
end
end Dq
namespace Dq
open PySem PySem.Spec PyProof.Rows L2
theorem bnever {p : Pg} {W : WX} {X : Cx} {b : List Stmt} : PSs X b (rdS p W gBad) := ⟨fun pins s σ H D I ⟨G, ρ, _, _, po⟩ => po.elim⟩
end Dq
namespace Dq
open PySem PySem.Spec PyProof.Rows L2
section
variable {p : Pg} {W : WX} {X : Cx}
/-- x = y = e -/
@[simp] def gSet2 (i j : Nat) (ge : GE) : GS := fun ρ s => (ge ρ s).toS ρ fun d s1 => .nx ((ρ.set i (some d)).set j (some d)) s1
theorem sset2 (i j : Nat) {x y : Str} {px py pos : Pos} {e : Expr} {ge : GE} (hN : X.N.Nodup) (hx : Loc X.env.scope x) (hy : Loc X.env.scope y) (he : PE X e (rd p W ge)) (hi : X.N[i]? = some x := by rfl) (hj : X.N[j]? = some y := by rfl)
    (hs : swapsWithSole [.Name x px, .Name y py] e pos.line X.env = pure false := by rfl) (hw : swappedStores [.Name x px, .Name y py] e X.env = pure none := by rfl)
    (h1 : (assignEach [.Name x px, .Name y py] X.env).map (·.2) = [assign (.Name x px) X.env, assign (.Name y py) X.env] := by rfl)
    (hf : X.fn x = true ∨ X.env.scope.names.lookup x = some .local := by first | exact .inl rfl | exact .inr rfl) (hf2 : X.fn y = true ∨ X.env.scope.names.lookup y = some .local := by first | exact .inl rfl | exact .inr rfl) :
    PS X (.Assign [.Name x px, .Name y py] e pos) (rdS p W (gSet2 i j ge)) := by
  refine ⟨fun pins s σ H D I ⟨G, ρ, gd, en, po⟩ => ?_⟩
  refine wpAny_Assign_stores (thn (he.run pins s σ H (fun v H1 => D.nx ((σ.set i (some v)).set j (some v)) H1) I ⟨G, ρ, gd, en, (PoS.of po en).imp fun v H1 ⟨G1, a, x1, gd1, r1, po1⟩ => po1 G1 _ H1 GX.rfl' rfl gd1 (((en.gx x1).set r1 i).set r1 j)⟩) fun v s1 ⟨x', H1, I1, r1, q1⟩ => ?_) hs hw
  rw [h1]
  refine wpAny_bind (wpAny_holding (thn ((pg_name (i := i) (pos := px) hN hi hx hf).run pins s1 σ H1 x' v (fun σ2 H2 => σ2 = σ.set i (some x') ∧ H2 = H1) I1 r1 ⟨rfl, rfl⟩) fun _ s2 ⟨σ2, H2, I2, e1, e2⟩ => ?_))
  subst e1 e2
  exact thn ((pg_name (i := j) (pos := py) hN hj hy hf2).run pins s2 _ _ x' v D.nx I2 r1 q1) fun _ s3 q => q
end
end Dq

/-! Constant tables of the text: tuples, nested. -/
namespace Dq
open PySem PySem.Spec PyProof.Rows L2
mutual
def cstB (K : PySem.W.Frag) : DV → Value → Bool
  | .non, .none => true
  | .bl b, .bool c => b == c
  | .int i, .int j _ => decide (i = j)
  | .str x, .str y _ => decide (x = y)
  | .tup xs, .ref a => match K.lookup a with
    | some ⟨.type c, _, .seq its _, _⟩ => decide (c = "tuple") && (decide (its.size ≤ sizeLine) && cstsB K xs its.toList)
    | _ => false
  | _, _ => false
def cstsB (K : PySem.W.Frag) : List DV → List Value → Bool
  | [], [] => true
  | d :: ds, v :: vs => cstB K d v && cstsB K ds vs
  | _, _ => false
end
mutual
theorem cst_ok {p : Pg} : ∀ (d : DV) (v : Value), cstB p.K d v = true → ∃ u, RelV u v ∧ ∀ F μ, Rp p F μ d u
  | .non, v, h => by
    unfold cstB at h
    cases v <;> first | exact ⟨.non, rfl, fun _ _ => .non⟩ | cases h
  | .bl b, v, h => by
    unfold cstB at h
    cases v <;> first | (have e := eq_of_beq h; subst e; exact ⟨.bl _, rfl, fun _ _ => .bl _⟩) | cases h
  | .int i, v, h => by
    unfold cstB at h
    cases v <;> first | (have e := of_decide_eq_true h; subst e; exact ⟨.int _, ⟨_, rfl⟩, fun _ _ => .int _⟩) | cases h
  | .str x, v, h => by
    unfold cstB at h
    cases v <;> first | (have e := of_decide_eq_true h; subst e; exact ⟨.str _, ⟨_, rfl⟩, fun _ _ => .str _⟩) | cases h
  | .tup xs, v, h => by
    unfold cstB at h
    cases v with
    | ref a =>
      simp only at h
      split at h
      · rename_i c od its n sl q
        simp only [Bool.and_eq_true, decide_eq_true_eq] at h
        obtain ⟨h1, h2, h3⟩ := h
        obtain ⟨us, r1, r2⟩ := csts_ok xs _ h3
        exact ⟨.ref a, rfl, fun F μ => .tup (.inr ⟨_, its, n, q, by rw [h1], rfl, h2, r1⟩) (r2 F μ)⟩
      · cases h
    | _ => cases h
  | .lst _, v, h => by unfold cstB at h; cases v <;> cases h
  | .wl _, v, h => by unfold cstB at h; cases v <;> cases h
  | .ins _ _ _, v, h => by unfold cstB at h; cases v <;> cases h
  | .mr _, v, h => by unfold cstB at h; cases v <;> cases h
theorem csts_ok {p : Pg} : ∀ (ds : List DV) (vs : List Value), cstsB p.K ds vs = true → ∃ us, Vals us vs ∧ ∀ F μ, Rps p F μ ds us
  | [], [], _ => ⟨[], .nil, fun _ _ => .nil⟩
  | [], _ :: _, h => by unfold cstsB at h; cases h
  | _ :: _, [], h => by unfold cstsB at h; cases h
  | d :: ds, v :: vs, h => by
    unfold cstsB at h
    rw [Bool.and_eq_true] at h
    obtain ⟨u, a1, a2⟩ := cst_ok d v h.1
    obtain ⟨us, b1, b2⟩ := csts_ok ds vs h.2
    exact ⟨u :: us, .cons a1 b1, fun F μ => .cons (a2 F μ) (b2 F μ)⟩
end
/-- the module's name x holds d -/
def gcB (K : PySem.W.Frag) (x : Str) (d : DV) : Bool := match PySem.W.nsIn K mainGlobals x with
  | some (some v) => cstB K d v
  | _ => false
def GC (p : Pg) (mg : Str → Option Value) (x : Str) (d : DV) : Prop := ∃ v u, mg x = some v ∧ RelV u v ∧ ∀ F μ, Rp p F μ d u
theorem gc_ok {p : Pg} {h : Heap} {mg : Str → Option Value} {x : Str} {d : DV} (X : p.K.In h) (G : h.Ns mainGlobals mg) (e : gcB p.K x d = true) : GC p mg x d := by
  unfold gcB at e
  split at e
  · rename_i v q
    obtain ⟨u, a, b⟩ := cst_ok d v e
    exact ⟨v, u, PySem.W.mg_of X G q, a, b⟩
  · cases e
theorem qgc {p : Pg} {W : WX} {X : Cx} {x : Str} {d : DV} {pos : Pos} (c : GC p X.mg x d) (hg : Gl X x := by rfl) (hd : (x == ("__debug__" : Str)) = false := by decide) : PE X (.Name x pos) (rd p W (gC d)) := by
  obtain ⟨v, u, h1, h2, h3⟩ := c
  exact qc (pe_glob hg h1 h2 hd) h3
end Dq

/-! Comprehensions over zip; pairs as targets. -/
namespace Dq
open PySem PySem.Spec PyProof.Rows L2
def seqL : DV → Option (List DV)
  | .lst xs => some xs
  | .wl xs => some xs
  | _ => none
def zipD : List DV → List DV → List DV
  | x :: xs, y :: ys => .tup [x, y] :: zipD xs ys
  | _, _ => []
/-- two lists, or two tuples -/
def seqsL : DV → DV → Option (List DV × List DV)
  | .tup xs, .tup ys => some (xs, ys)
  | .lst xs, b => (seqL b).map fun ys => (xs, ys)
  | .wl xs, b => (seqL b).map fun ys => (xs, ys)
  | _, _ => none
def gLz (gl : GL) (t : GTg) (vs : List Nat) (tst : GB) (el : GE) : GE := fun ρ s => (gl ρ s).bind fun l s1 => match l with
  | [da, db] => match seqsL da db with
    | some (xs, ys) => match lcR t tst el (wipeD ρ vs) s1.length (zipD xs ys) (s1 ++ [some (.lst [])]) with
      | some s2 => lcEnd s1 s2
      | none => .bad
    | none => .bad
  | _ => .bad
section
variable {p : Pg} {W : WX} {X : Cx}
theorem wipe_two {σ : L2.St} {i j : Nat} {x y : Option V} : wipe (((wipe σ [i, j]).set i x).set j y) [i, j] = wipe σ [i, j] := by
  show ((((((σ.set j none).set i none).set i x).set j y).set j none).set i none) = (σ.set j none).set i none
  apply List.ext_getElem?
  intro k
  simp only [List.getElem?_set, List.length_set]
  by_cases e1 : i = k <;> by_cases e2 : j = k <;> simp [e1, e2]
theorem tgb_pair {K : PySem.W.Frag} (hK : K = p.K) (i j : Nat) : TgB p (L2.gTup K 2 (L2.gCons (L2.gName i) (L2.gCons (L2.gName j) L2.gNil))) (tTup 2 (tCons (tN i) (tCons (tN j) tNil))) [i, j] := by
  subst hK
  intro G ρ σ d v H Q ρ1 gd en r e h
  cases r with
  | tup a rs =>
    cases rs with
    | nil => cases e
    | cons r1 rs =>
      cases rs with
      | nil => cases e
      | cons r2 rs =>
        cases rs with
        | cons _ _ => cases e
        | nil =>
          cases e
          exact ⟨_, _, rfl, sqT_up gd.le a, rfl, _, _, rfl, _, _, rfl, rfl, h _ ((en.set r1 i).set r2 j) wipe_two⟩
  | _ => cases e
theorem zipD_get : ∀ {xs ys : List DV} {i : Nat} {x y : DV}, xs[i]? = some x → ys[i]? = some y → (zipD xs ys).drop i = .tup [x, y] :: (zipD xs ys).drop (i + 1)
  | a :: xs, b :: ys, 0, x, y, h1, h2 => by cases h1; cases h2; rfl
  | a :: xs, b :: ys, i + 1, x, y, h1, h2 => zipD_get (xs := xs) (ys := ys) (i := i) h1 h2
  | [], _, _, _, _, h1, _ => by cases h1
  | _ :: _, [], _, _, _, _, h2 => by cases h2
theorem zipD_end : ∀ {xs ys : List DV} {i : Nat}, (xs.length ≤ i ∨ ys.length ≤ i) → (zipD xs ys).drop i = []
  | [], ys, i, _ => by unfold zipD; simp
  | _ :: _, [], i, _ => by unfold zipD; simp
  | _ :: xs, _ :: ys, 0, h => by simp at h
  | _ :: xs, _ :: ys, i + 1, h => by
    show (zipD xs ys).drop i = []
    exact zipD_end (by simp only [List.length_cons] at h; omega)
/-- pairs of two sequences, whichever kind -/
def ItG (Sq : PySem.W.Frag → Hp → Addr → List V → Prop) (K : PySem.W.Frag) (a b : Addr) : It :=
  ⟨fun i H => ∃ (xs ys : List V) (x y : V), Sq K H a xs ∧ Sq K H b ys ∧ xs[i]? = some x ∧ ys[i]? = some y,
    fun i H v H' => ∃ T x y, v = .ref T ∧ H T = none ∧ H' = upd H T (.tup [x, y]) ∧ (∀ us, Sq K H a us → us[i]? = some x) ∧ ∀ ws, Sq K H b ws → ws[i]? = some y,
    fun i H => ∃ xs ys : List V, Sq K H a xs ∧ Sq K H b ys ∧ (xs.length ≤ i ∨ ys.length ≤ i)⟩
theorem lcz_walk {Sq : PySem.W.Frag → Hp → Addr → List V → Prop} (up : ∀ {F H : Hp} {a : Addr} {zs : List V}, (∀ c o, F c = some o → H c = some o) → Sq p.K F a zs → Sq p.K H a zs) {vs0 : List Nat} {g : TG} {t : GTg} {tst : GB} {el : GE} {σ : L2.St} {Q : VK} (tb : TgB p g t vs0)
    {G1 : Gh} {ρ : En} {H1 : Hp} {xs ys : List DV} {s2 : Sto} {a b : Addr} {us ws : List V} (en : EnR p G1 ρ σ) (gd1 : Gd p G1 H1) (sa : Sq p.K G1.F a us) (rsa : Rps p G1.F G1.μ xs us) (sb : Sq p.K G1.F b ws) (rsb : Rps p G1.F G1.μ ys ws)
    (hl : lcR t tst el (wipeD ρ vs0) G1.st.length (zipD xs ys) (G1.st ++ [some (.lst [])]) = some s2) (po1 : PoV p W G1 σ (lcEnd G1.st s2) Q) (D : Addr) (hD : H1 D = none) : ∃ W : Nat → Nat → Hp → Prop, (∃ m, W 0 m (upd H1 D (.lst []))) ∧ ∀ i m H, W i m H →
      ((ItG Sq p.K a b).stop i H ∧ Q (.ref D) H) ∨ ((ItG Sq p.K a b).go i H ∧ ∃ Nx : Hp → Prop, (∀ H', Nx H' → ∃ m', m' < m ∧ W (i + 1) m' H') ∧ ∀ x H', (ItG Sq p.K a b).yld i H x H' → g x (wipe σ vs0) H' fun σ2 H2 => wipe σ2 vs0 = wipe σ vs0 ∧ rdB p W0 tst σ2 H2 fun b H3 =>
        if b = true then rd p W0 el σ2 H3 fun y H4 => ∃ acc, H4 D = some (.lst acc) ∧ acc.length < sizeLine ∧ Nx (upd H4 D (.lst (acc ++ [y]))) else Nx H3) := by
  have fini : LcI p G1 D t tst el (wipeD ρ vs0) σ (fun H => Q (.ref D) H) (zipD xs ys) (upd H1 D (.lst [])) :=
    ⟨G1.add D (.lst []), s2, GX.rfl', gd1.add hD ⟨[], rfl, .nil⟩, hl, fun G3 H3 x3 g3 e3 => by
      subst e3
      exact lc_end gd1 x3 g3 po1⟩
  refine ⟨fun i m H => m = us.length - i ∧ i ≤ us.length ∧ LcI p G1 D t tst el (wipeD ρ vs0) σ (fun H => Q (.ref D) H) ((zipD xs ys).drop i) H, ⟨us.length, by simp, Nat.zero_le _, fini⟩, ?_⟩
  rintro i m H ⟨rfl, hi, hI⟩
  obtain ⟨G2, s3, x2, g2, e3, h2⟩ := hI
  have xx : GX G1 G2 := GX.add.trans x2
  have sa2 : Sq p.K H a us := up g2.le (up xx.f sa)
  have sb2 : Sq p.K H b ws := up g2.le (up xx.f sb)
  by_cases hlt : i < us.length ∧ i < ws.length
  · obtain ⟨l1, l2⟩ := hlt
    refine .inr ⟨⟨us, ws, us[i], ws[i], sa2, sb2, by simp [l1], by simp [l2]⟩, LcI p G1 D t tst el (wipeD ρ vs0) σ (fun H => Q (.ref D) H) ((zipD xs ys).drop (i + 1)), fun H' p' => ⟨us.length - (i + 1), by omega, rfl, l1, p'⟩, fun v H' y => ?_⟩
    obtain ⟨T, u, w, rfl, hT, rfl, hu, hw⟩ := y
    obtain ⟨du, hdu, rdu⟩ := rsa.get' (hu us sa2)
    obtain ⟨dw, hdw, rdw⟩ := rsb.get' (hw ws sb2)
    rw [zipD_get hdu hdw] at e3
    have xl := GX.lay g2 (o := .tup [u, w]) hT
    refine lc_turnG gd1 en tb (x2.trans xl) (g2.lay hT) e3 h2 (.tup (SqT.of (by show upd G2.F T _ T = _; rw [upd_same])) (.cons (Rg.gx rdu (xx.trans xl)) (.cons (Rg.gx rdw (xx.trans xl)) .nil)))
  · have hh : us.length ≤ i ∨ ws.length ≤ i := by omega
    have he : (zipD xs ys).drop i = [] := zipD_end (by rw [rsa.length, rsb.length]; exact hh)
    rw [he, lcR] at e3
    cases e3
    exact .inl ⟨⟨us, ws, sa2, sb2, hh⟩, h2 G2 H x2 g2 rfl⟩
theorem lcz_imp {vs0 : List Nat} {gl : GL} {g : TG} {t : GTg} {tst : GB} {el : GE} {σ : L2.St} {H : Hp} {Q : VK} (tb : TgB p g t vs0) (hK : X.K = p.K) (h : rd p W (gLz gl t vs0 tst el) σ H Q) :
    tLc (RZ.iZipA X.K (rdL p W gl)) g (rdB p W0 tst) (rd p W0 el) vs0 σ H Q := by
  obtain ⟨G, ρ, gd, en, po⟩ := h
  refine ⟨G, ρ, gd, en, (Po.bind po).imp fun ls H1 ⟨G1, l, x1, gd1, r1, po1⟩ => ?_⟩
  split at po1
  · rename_i da db
    split at po1
    · rename_i xs ys ee
      split at po1
      · rename_i s2 hl
        cases r1 with
        | @cons _ va _ _ ra r1 =>
          cases r1 with
          | @cons _ vb _ _ rb r1 =>
            cases r1
            have sq : ∀ {d : DV} {v : V} {zs : List DV}, seqL d = some zs → Rp p G1.F G1.μ d v → ∃ a us, v = .ref a ∧ SqL p.K G1.F a us ∧ Rps p G1.F G1.μ zs us := by
              intro d v zs e r
              cases r with
              | lst a rs => cases e; exact ⟨_, _, rfl, SqL.of a, rs⟩
              | wl a rs => cases e; exact ⟨_, _, rfl, a, rs⟩
              | _ => cases e
            have kinds : (seqL da = some xs ∧ seqL db = some ys) ∨ (da = .tup xs ∧ db = .tup ys) := by
              unfold seqsL at ee
              split at ee
              · cases ee
                exact .inr ⟨rfl, rfl⟩
              · rename_i zs b
                cases e4 : seqL db with
                | none => rw [e4] at ee; cases ee
                | some ws => rw [e4] at ee; cases ee; exact .inl ⟨rfl, rfl⟩
              · rename_i zs b
                cases e4 : seqL db with
                | none => rw [e4] at ee; cases ee
                | some ws => rw [e4] at ee; cases ee; exact .inl ⟨rfl, rfl⟩
              · cases ee
            rw [hK]
            rcases kinds with ⟨e1, e2⟩ | ⟨rfl, rfl⟩
            · obtain ⟨a, us, rfl, sa, rsa⟩ := sq e1 ra
              obtain ⟨b, ws, rfl, sb, rsb⟩ := sq e2 rb
              exact ⟨a, b, us, ws, rfl, .inl ⟨sqL_up gd1.le sa, sqL_up gd1.le sb, lcz_walk (Sq := SqL) sqL_up tb (en.gx x1) gd1 sa rsa sb rsb hl po1⟩⟩
            · cases ra with
              | tup a rsa =>
                cases rb with
                | tup b rsb =>
                  exact ⟨_, _, _, _, rfl, .inr ⟨sqT_up gd1.le a, sqT_up gd1.le b, lcz_walk (Sq := SqT) sqT_up tb (en.gx x1) gd1 a rsa b rsb hl po1⟩⟩
      · exact po1.elim
    · exact po1.elim
  · exact po1.elim
theorem qlz {elt e1 e2 : Expr} {es : List Expr} {kk : Nat} {tp zp cp : Pos} {ifs : List Expr} {scope : Scope} {own : List (Str × Nat)} {pos : Pos} {gl : GL} {g : TG} {t : GTg} {tst : GB} {el : GE} (hc : X.calm = true) (hN : X.N.Nodup) (hz : X.mg "zip" = none) (ha : PA X [e1, e2] (rdL p W gl)) (ok : BlkOk X.N X.env.scope scope own)
    (tb : TgB p g t (own.map (·.2))) (hg : ∀ (s : Shared) (H : Hp) (C : Addr) (cl : List (Str × Addr)) (fp : List Addr), PG (X.blk s H scope (compEnvC scope cl C X.env) fp) (.Tuple es kk tp) g)
    (ht : ∀ (s : Shared) (H : Hp) (C : Addr) (cl : List (Str × Addr)) (fp : List Addr), PTs (X.blk s H scope (compEnvC scope cl C X.env) fp) ifs (rdB p W0 tst))
    (he : ∀ (s : Shared) (H : Hp) (C : Addr) (cl : List (Str × Addr)) (fp : List Addr), PE (X.blk s H scope (compEnvC scope cl C X.env) fp) elt (rd p W0 el)) (hgz : Gl X "zip" := by rfl) (hK : X.K = p.K := by rfl)
    (hs1 : starEach [e1, e2] X.env = (false, eval e1 X.env) :: starEach [e2] X.env := by rfl) (hpl : (backTo cp (starEach [e2] X.env)).any (·.1) = false := by rfl) (hs : ∀ x, foldedSetIterable (.Call (.Name "zip" zp) [e1, e2] [] cp) X.env x = pure x := by intro _; rfl) :
    PE X (.ListComp elt [⟨.Tuple es kk tp, .Call (.Name "zip" zp) [e1, e2] [] cp, ifs, 0⟩] scope pos) (rd p W (gLz gl t (own.map (·.2)) tst el)) :=
  PE.imp (pe_lc hc hN (RZ.pi_zipA hgz hz ha hs1 hpl) ok hg ht he hs) fun σ H Q h => lcz_imp (X := X) tb hK h
/-- the raw reading of a pair of names -/
theorem gpair (i j : Nat) {x y : Str} {kk : Nat} {px py pt : Pos} (hc : X.calm = true) (hN : X.N.Nodup) (hx : Loc X.env.scope x) (hy : Loc X.env.scope y) (hi : X.N[i]? = some x := by rfl) (hj : X.N[j]? = some y := by rfl)
    (hf : X.fn x = true ∨ X.env.scope.names.lookup x = some .local := by first | exact .inl rfl | exact .inr rfl) (hf2 : X.fn y = true ∨ X.env.scope.names.lookup y = some .local := by first | exact .inl rfl | exact .inr rfl) :
    PG X (.Tuple [.Name x px, .Name y py] kk pt) (L2.gTup X.K 2 (L2.gCons (L2.gName i) (L2.gCons (L2.gName j) L2.gNil))) :=
  pg_tup hc (pgs_cons (pg_name hN hi hx hf) (pgs_cons (pg_name hN hj hy hf2) pgs_nil))
end
end Dq

/-! xs[a::c]: every c-th item. -/
namespace Dq
open PySem PySem.Spec PyProof.Rows L2
def ixs (lo hi st : Option Int) (n : Nat) : List Nat := sliceRange (sliceBounds lo hi st n).1 (sliceBounds lo hi st n).2.1 (sliceBounds lo hi st n).2.2
def pickV {α : Type} (lo hi st : Option Int) (xs : List α) : List α := (ixs lo hi st xs.length).filterMap (xs[·]?)
theorem pick_arr (its : List Value) (lo hi st : Option Int) : slicePick its.toArray lo hi st = (pickV lo hi st its).toArray := by
  unfold slicePick pickV ixs
  congr 1
  show List.filterMap (fun x => its.toArray[x]?) _ = _
  simp
theorem pick_vals {xs : List V} {us : List Value} (r : Vals xs us) : ∀ ix : List Nat, Vals (ix.filterMap (xs[·]?)) (ix.filterMap (us[·]?))
  | [] => .nil
  | i :: ix => by
    have ih := pick_vals r ix
    have hl := r.length
    by_cases q : i < xs.length
    · have q2 : i < us.length := by omega
      obtain ⟨u, hu, ru⟩ := r.get (show xs[i]? = some xs[i] by simp [q])
      have e2 : us[i] = u := by simpa [q2] using hu
      rw [List.filterMap_cons_some (by simp [q]; rfl), List.filterMap_cons_some (by simp [q2]; rfl)]
      exact .cons (by rw [e2]; exact ru) ih
    · rw [List.filterMap_cons_none (by simp; omega), List.filterMap_cons_none (by simp; omega)]
      exact ih
theorem pick_rps {p : Pg} {F : Hp} {μ : List Addr} {xs : List DV} {us : List V} (r : Rps p F μ xs us) : ∀ ix : List Nat, Rps p F μ (ix.filterMap (xs[·]?)) (ix.filterMap (us[·]?))
  | [] => .nil
  | i :: ix => by
    have ih := pick_rps r ix
    have hl := r.length
    by_cases q : i < xs.length
    · have q2 : i < us.length := by omega
      obtain ⟨d, hd, rd⟩ := r.get' (show us[i]? = some us[i] by simp [q2])
      have e2 : xs[i] = d := by simpa [q] using hd
      rw [List.filterMap_cons_some (by simp [q]; rfl), List.filterMap_cons_some (by simp [q2]; rfl)]
      exact .cons (by rw [e2]; exact rd) ih
    · rw [List.filterMap_cons_none (by simp; omega), List.filterMap_cons_none (by simp; omega)]
      exact ih
theorem ixs_len {α β : Type} {xs : List α} {ys : List β} {lo hi st : Option Int} (h : xs.length = ys.length) : ixs lo hi st xs.length = ixs lo hi st ys.length := by rw [h]
def tStepL (K : PySem.W.Frag) (te : TE) (lo : Option Int) (c : Int) : TE := fun σ H Q => te σ H fun x H1 => ∃ a xs, x = .ref a ∧ SqL K H1 a xs ∧ (pickV lo none (some c) xs).length ≤ sizeLine ∧ ∀ p, H1 p = none → Q (.ref p) (upd H1 p (.lst (pickV lo none (some c) xs)))
section
variable {p : Pg} {W : WX} {X : Cx}
theorem pe_stepL {e : Expr} {te : TE} {elo : Option Expr} {tlo : TO} {lo : Option Int} {k : Nat} {c : Int} {p1 p3 pos : Pos} (he : PE X e te) (hl : PO X elo tlo) (hlo : ∀ σ H (Q : Option Int → Hp → Prop), Q lo H → tlo σ H Q) (hc : c ≠ 0)
    (hb : ∀ r, letTemporaryGo e (.ref r) = letTemporaryGo e (.ref r) := by intro _; rfl)
    (hsub : ∀ (a b : Addr), subscripted (.Slice elo none (some (.Constant (.int c) k p1)) p3) false (.ref a) (.ref b) = operate [.ref a, .ref b] (getItem (.ref a) (.ref b)) := by intro _ _; with_unfolding_all rfl) :
    PE X (.Subscript e (.Slice elo none (some (.Constant (.int c) k p1)) p3) pos) (tStepL X.K te lo c) := by
  refine ⟨fun pins s σ H Q I h => ?_⟩
  refine Subscript_ (thn (he.run pins s σ H _ I h) fun v s1 ⟨x, H1, I1, r1, q1⟩ => ?_)
  obtain ⟨a, xs, ex, hx, hzz, q⟩ := q1
  subst ex
  cases r1
  have hst : PO X (some (.Constant (.int c) k p1)) (tPart (tC (.int c))) := po_some pe_int
  refine wpAny_Slice (thn (hl.run pins s1 σ H1 (fun o H2 => o = lo ∧ H2 = H1) I1 (hlo _ _ _ ⟨rfl, rfl⟩)) fun vl s2 ⟨l, H2, I2, pl, el, e2⟩ => ?_)
  subst el e2
  refine thn (po_none.run pins s2 σ H2 (fun o H3 => o = none ∧ H3 = H2) I2 ⟨rfl, rfl⟩) fun vu s3 ⟨u, H3, I3, pu, eu, e3⟩ => ?_
  subst eu e3
  refine thn (hst.run pins s3 σ H3 (fun o H4 => o = some c ∧ H4 = H3) I3 ⟨c, rfl, rfl, rfl⟩) fun vs s4 ⟨o, H4, I4, ps, eo, e4⟩ => ?_
  subst eo e4
  have I5 : Inv X pins σ H4 { s4 with heap := s4.heap.push { cls := .type "slice", data := .fields #[vl, vu, vs] } } := I4.kept (t' := s4.toks) fun b ob q => Heap.get?_push_of_some _ q
  obtain ⟨its, r, ht, hz⟩ := I5.list hx
  have hlen := r.length
  show wpAny (model X.prog X.w) X.A (subscriptTail e (.Slice elo none (some (.Constant (.int c) k p1)) p3) (.ref a) (.ref s4.heap.objs.size)) (EP X pins σ Q) X.xe { s4 with heap := s4.heap.push { cls := .type "slice", data := .fields #[vl, vu, vs] } }
  refine tail_any (ops := [.ref a, .ref s4.heap.objs.size]) ht.isList.typeIs (PySem.slot_list_getitem.lookup) ?_ (hsub _ _)
  refine wpAny_getItem_list_slice ht.isList (Heap.IsSliceOf.new _ vl vu vs) pl pu ps (fun z => hc (by injection z)) ?_ (by rw [List.size_toArray]; omega)
  rw [pick_arr]
  have rp : Vals (pickV l none (some c) xs) (pickV l none (some c) its) := by
    unfold pickV
    rw [hlen]
    exact pick_vals r _
  refine ⟨.ref _, _, I5.laid (t' := s4.toks) (o := .lst (pickV l none (some c) xs)) (fun b ob q => Heap.get?_push_of_some _ q) (Nat.le_refl _) ?_, rfl, q _ (I5.hok.fresh (Nat.le_refl _))⟩
  exact ⟨hzz, _, 0, rp, Heap.get?_push_size _ rfl⟩
def stepD (lo : Option Int) (c : Int) (a : DV) (s : Sto) : R DV := match seqS s a with
  | some xs => match a with
    | .tup _ => .bad
    | _ => okIf (decide ((pickV lo none (some c) xs).length ≤ sizeLine)) (.lst (pickV lo none (some c) xs)) s
  | none => .bad
theorem qstep {e : Expr} {ge : GE} {elo : Option Expr} {tlo : TO} {lo : Option Int} {k : Nat} {c : Int} {p1 p3 pos : Pos} (he : PE X e (rd p W ge)) (hl : PO X elo tlo) (hlo : ∀ σ H (Q : Option Int → Hp → Prop), Q lo H → tlo σ H Q) (hc : c ≠ 0 := by decide) (hK : X.K = p.K := by rfl)
    (hsub : ∀ (a b : Addr), subscripted (.Slice elo none (some (.Constant (.int c) k p1)) p3) false (.ref a) (.ref b) = operate [.ref a, .ref b] (getItem (.ref a) (.ref b)) := by intro _ _; with_unfolding_all rfl) :
    PE X (.Subscript e (.Slice elo none (some (.Constant (.int c) k p1)) p3) pos) (rd p W (gUn (stepD lo c) ge)) :=
  PE.imp (pe_stepL he hl hlo hc (fun _ => rfl) hsub) fun σ H Q ⟨G, ρ, gd, en, po⟩ => ⟨G, ρ, gd, en, (Po.bind po).imp fun v H1 ⟨G1, a, x1, gd1, r1, po1⟩ => by
    unfold stepD at po1
    have fin : ∀ {xs : List DV} {us : List V} {ad : Addr}, v = .ref ad → SqL X.K H1 ad us → Rps p G1.F G1.μ xs us → PoV p W G1 σ (okIf (decide ((pickV lo none (some c) xs).length ≤ sizeLine)) (.lst (pickV lo none (some c) xs)) G1.st) Q →
        ∃ a xs, v = .ref a ∧ SqL X.K H1 a xs ∧ (pickV lo none (some c) xs).length ≤ sizeLine ∧ ∀ q, H1 q = none → Q (.ref q) (upd H1 q (.lst (pickV lo none (some c) xs))) := by
      intro xs us ad e1 h1 rs po
      obtain ⟨cc, po⟩ := okIf_po po
      have rp : Rps p G1.F G1.μ (pickV lo none (some c) xs) (pickV lo none (some c) us) := by
        unfold pickV
        rw [rs.length]
        exact pick_rps rs _
      exact ⟨ad, us, e1, h1, by rw [← rp.length]; exact of_decide_eq_true cc, fun q hq => new_lst gd1 rp po hq⟩
    split at po1
    · rename_i xs hs
      cases r1 with
      | lst f rs => cases hs; exact fin rfl (SqL.of (gd1.le _ _ f)) rs po1
      | wl f rs => cases hs; exact fin rfl (by rw [hK]; exact sqL_up gd1.le f) rs po1
      | @mr k a hm =>
        have hs : (match G1.st[k]? with | some (some (.lst xs)) => some xs | _ => none) = some xs := hs
        split at hs
        · rename_i ys hk
          cases hs
          obtain ⟨b, f1, f2, us, f3, f4⟩ := gd1.live k _ hk
          rw [hm] at f1; cases f1
          exact fin rfl (SqL.of f3) f4 po1
        · cases hs
      | _ => first | exact po1.elim | cases hs
    · exact po1.elim⟩
theorem hlo_none {σ : L2.St} {H : Hp} {Q : Option Int → Hp → Prop} (h : Q none H) : tNoPart σ H Q := h
end
end Dq

/-! Exception classes whose __init__ says super().__init__: the run of that __init__. -/
namespace Xq
open PySem PySem.Spec PyProof.Rows L2 PySem.W PySem.Calls

/-- what is known of a built-in exception class that own ones stand on -/
structure XB (B newId initId : String) (T : List Value) : Prop where
  base : ExcBaseFacts B newId initId T
  store : StoreFacts B T "object.__setattr__" "object"
  kx : KxsFacts B initId
theorem xbV : XB "ValueError" "ValueError.__new__" "ValueError.__init__" [.type "ValueError", .type "Exception", .type "BaseException", .type "object"] := ⟨F.excBase_ValueError, F.store_ValueError, kxs_ValueError⟩
theorem xbL : XB "LookupError" "LookupError.__new__" "LookupError.__init__" [.type "LookupError", .type "Exception", .type "BaseException", .type "object"] := ⟨F.excBase_LookupError, F.store_LookupError, kxs_LookupError⟩
theorem xbI : XB "IndexError" "IndexError.__new__" "IndexError.__init__" [.type "IndexError", .type "LookupError", .type "Exception", .type "BaseException", .type "object"] := ⟨F.excBase_IndexError, F.store_IndexError, kxs_IndexError⟩
/-- what the written part says of an own exception class -/
structure XC (K : PySem.W.Frag) (C : Addr) (B newId initId : String) (T : List Value) : Prop where
  xb : XB B newId initId T
  made : excInitIn K C T newId = true
  over : excOver K C T = true
  sa : PySem.W.findIn K (.ref C) "__setattr__" = some (some (.builtin "object.__setattr__"))
  dict : PySem.W.hasDictIn K C = true
  subB : PySem.W.subIn K (.ref C) (.type B) = some true
  exC : PySem.W.subIn K (.ref C) (.type "BaseException") = some true
  tyC : PySem.W.typeIn K (.ref C) = some (.type "type")
  kC : PySem.W.keepIn K (.ref C) = true
  up : ks_superIn K C C "__init__" = some (some (.builtin initId))
  self : PySem.W.mroIn K C (.ref C) = some true
  op : PySem.W.nsIn K cStatics "thirdparty.any" = some none
  sup : PySem.W.nsIn K mainGlobals "super" = some none
  isC : (PySem.W.clsIn K C).isSome = true
abbrev obX (C t : Addr) (d : Option Addr) : Obj := excObj C t d .none
section
variable {prog : Program} {w : World} {A : Around} {E : Value → Shared → Prop} {K : PySem.W.Frag} {C x t0 : Addr} {B newId initId : String} {T : List Value} {s : Shared}
/-- self.f = v, no dict as yet -/
theorem set_new {f : Str} {v : Value} {Q : Unit → Shared → Prop} (c : XC K C B newId initId T) (X : K.In s.heap) (hx : s.heap.get? x = some (obX C t0 none)) (ht : takerIn K C f = some none)
    (h : ∀ h' tk' dx, (∀ b o, b ≠ x → s.heap.get? b = some o → h'.get? b = some o) → s.heap.objs.size ≤ dx → dx ≠ x → h'.get? x = some (obX C t0 (some dx)) → h'.Ns1 dx (fun y => if y = f then some v else none) → Q () { s with heap := h', toks := tk' }) :
    wpAny (model prog w) A (setAttr (.ref x) f v) Q E s := by
  obtain ⟨hp, g, d, tk, os⟩ := s
  have hxs : x ≠ hp.objs.size := Nat.ne_of_lt (Heap.lt_size hx)
  obtain ⟨cd, hc, hd'⟩ := any_some c.dict
  refine set_plain (od := none) X ⟨hx, rfl, rfl, trivial⟩ c.sa (osa_openX (od := none) c.xb.store X ⟨hx, rfl, rfl, trivial⟩ c.over ht fun b => ?_)
  refine wpAny_bind (wpAny_pure (wpAny_bind (instanceDict_exc hx (looks_clsIn X hc) hd' ?_)))
  refine HandSPX.store_in_new (dx := hp.objs.size) ?_ fun h' tk' hn' hs => ?_
  · exact ⟨_, #[], _, (Heap.get?_update_ne _ _ _ _ hxs.symm).trans (Heap.get?_push_at rfl rfl), rfl, fun e he => absurd he (by simp), fun _ => rfl⟩
  · have hx₁ : (hp.push (dictOf [] 0)).get? x = some (obX C t0 none) := Heap.get?_push_of_some _ hx
    refine h h' tk' hp.objs.size (fun b o hb ho => ?_) (Nat.le_refl _) hxs.symm ?_ hn'
    · exact (hs.2 b (Nat.ne_of_lt (Heap.lt_size ho))).trans ((Heap.get?_update_ne _ _ _ _ hb).trans (Heap.get?_push_of_some _ ho))
    · exact (hs.2 x hxs).trans (Heap.get?_update_self _ hx₁ rfl)
/-- self.f = v, a further one -/
theorem set_old {f : Str} {v : Value} {dx : Addr} {m0 : Str → Option Value} {nl : List Str} {Q : Unit → Shared → Prop} (c : XC K C B newId initId T) (X : K.In s.heap) (hx : s.heap.get? x = some (obX C t0 (some dx))) (hn : s.heap.Ns1 dx m0) (hw : Within m0 nl) (hz : nl.length ≤ 1000) (ht : takerIn K C f = some none)
    (h : ∀ h' tk', (∀ b o, b ≠ dx → s.heap.get? b = some o → h'.get? b = some o) → h'.Ns1 dx (fun y => if y = f then some v else m0 y) → Q () { s with heap := h', toks := tk' }) :
    wpAny (model prog w) A (setAttr (.ref x) f v) Q E s := by
  obtain ⟨hp, g, d, tk, os⟩ := s
  obtain ⟨oD, _, _, hoD, _, _⟩ := hn.count hw
  obtain ⟨cd, hc, hd'⟩ := any_some c.dict
  refine set_plain (od := some oD) X ⟨hx, rfl, rfl, hoD⟩ c.sa (osa_openX (od := some oD) c.xb.store X ⟨hx, rfl, rfl, hoD⟩ c.over ht fun b => ?_)
  refine wpAny_bind (wpAny_pure (wpAny_bind (wpAny_bind (wpAny_loadPart hx (wpAny_bind (Looks.here (s := ⟨hp, g, d, tk + 1, os⟩) (looks_clsIn X hc) ?_))))))
  rw [hd']
  refine wpAny_pure (a := some dx) ?_
  exact OEX.store_in_old hn hw hz fun h' tk' hn' hs => h h' tk' (fun b o hb ho => (hs.2 b hb).trans ho) hn'
/-- super().__init__(..) called: the exception's args are laid anew -/
theorem call_up {u : Addr} {rest : List Value} {Q : Value → Shared → Prop} (c : XC K C B newId initId T) (X : K.In s.heap) (hu : s.heap.get? u = some (kxs_mw initId x)) (hx : s.heap.get? x = some (obX C t0 none)) (hz : rest.length ≤ sizeLine)
    (h : ∀ h' t', (∀ b o, b ≠ x → s.heap.get? b = some o → h'.get? b = some o) → h'.get? x = some (obX C t' none) → Q .none { s with heap := h' }) :
    wpAny (model prog w) A (call (.ref u) rest) Q E s := by
  obtain ⟨nm, N', qn, bs, bm, hdct, sn, sub, ab, col, dd, k0, k1, k2, k3, k5, hC, hT⟩ := excInit_of X c.made
  obtain ⟨hp, g, d, tk, os⟩ := s
  refine wpAny_call (codeAny_of_tree ?_)
  show wpAny _ A.in1 (callAny (.ref u) ⟨rest, []⟩) _ _ _
  simp only [callAny]
  refine wpAny_bind (wpAny_load hu ?_)
  simp only [kxs_mw, show (Value.type "method-wrapper" == Value.type "method" || Value.type "method-wrapper" == Value.type "builtin_function_or_method" || Value.type "method-wrapper" == Value.type "method-wrapper") = true by decide, if_true]
  refine KFB.if_so (by decide) ?_
  refine wpAny_bind (check_bound_init c.xb.base.toExcCallFacts hC hx rfl ?_)
  refine wpAny_bind (wpAny_pure (wpAny_pure ?_))
  refine ⟨plainId_quiet c.xb.base.init.plain _, codeAny_builtin c.xb.base.initEntry ?_⟩
  exact exc_init_tree (cls := .ref C) (t0 := t0) (dv := none) (c2 := .none) (c3 := .none) (b4 := .bool false) hx hz fun h' k e _ => h h' _ k e
end
end Xq

/-! C(.., k = ..), C an own exception class. -/
namespace Xq
open PySem PySem.Spec PyProof.Rows L2 PySem.W PySem.Calls
section
variable {M : Model} {A : Around} {E : Value → Shared → Prop} {h : Heap} {g : Array GenState} {d : Drawn} {t : Nat} {os : OsState}
variable {nm q : Str} {C N : Addr} {bs bm bmB : List Value} {hdct : Bool} {sn : List Str} {sub : List Value} {ab : Bool} {col : Option Bool} {dd : Option Addr} {k0 k1 k2 k3 k5 : Option Value} {B newId initId : String}
theorem star_any (f sh full short : String) (r : Manifest.Receiver) (n : Nat) (kw : List Str) : Bind.check ⟨.any, f, sh, r, [⟨"args", .varPos, false⟩, ⟨"kwargs", .varKw, false⟩]⟩ full short n kw = pure () := by
  simp [Bind.check, Bind.checkCount, Bind.isPositional]
theorem newCheck (Fb : ExcBaseFacts B newId initId bmB) (hT : ∀ X : String, bm.contains (.type X) = bmB.contains (.type X)) {rest : List Value} {kw : List (Str × Value)} {Q : Unit → Shared → Prop}
    (hC : h.get? C = some (excClassObj nm q C N bs bm hdct sn sub ab col dd k0 k1 k2 k3 k5 newId)) (hq : Q () ⟨h, g, d, t, os⟩) :
    wpAny M A (checkBuiltinCall newId ⟨.ref C :: rest, kw⟩) Q E ⟨h, g, d, t, os⟩ := by
  have hc : (Value.ref C :: bm).contains (.type B) = true := by rw [List.contains_cons, hT, Fb.hasB, Bool.or_true]
  have hs := Fb.noStar
  simp only [checkBuiltinCall, Fb.newKind, Fb.newSplit, Fb.newRow]
  repeat (first
    | refine wpAny_loadPart_at hC ?_
    | (refine wpAny_isSubtype_exc hC ?_
       rw [hc])
    | refine wpAny_staticBase_exc hC ?_
    | refine wpAny_madeBy_exc hC ?_
    | simp only [bne_self_eq_false, Bool.false_eq_true, if_false]
    | wp_step)
  all_goals first | exact hq | skip
end
section
variable {prog : Program} {w : World} {A : Around} {E : Value → Shared → Prop} {R : Result → Shared → Prop} {h : Heap} {g : Array GenState} {d : Drawn} {t : Nat} {os : OsState}
variable {nm q : Str} {C N : Addr} {bs bm bmB : List Value} {hdct : Bool} {sn : List Str} {sub : List Value} {ab : Bool} {col : Option Bool} {dd : Option Addr} {k0 k1 k2 k3 k5 : Option Value} {B newId initId : String}
abbrev twoH (h : Heap) (C : Addr) (rest : List Value) : Heap := (h.push (excTup rest)).push (obX C h.objs.size none)
theorem newRun (Fb : ExcBaseFacts B newId initId bmB) (hT : ∀ X : String, bm.contains (.type X) = bmB.contains (.type X)) {rest : List Value} {kw : List (Str × Value)}
    (hC : h.get? C = some (excClassObj nm q C N bs bm hdct sn sub ab col dd k0 k1 k2 k3 k5 newId))
    (hq : R (.ok (.ret (.ref (h.objs.size + 1)))) ⟨twoH h C rest, g, d, t, os⟩) (hz : rest.length ≤ sizeLine) :
    codeAny (model prog w) A (.builtin newId ⟨.ref C :: rest, kw⟩) R ⟨h, g, d, t, os⟩ := by
  have he := Fb.ends
  have c1 : (Value.ref C :: bm).contains (.type B) = true := by rw [List.contains_cons, hT, Fb.hasB, Bool.or_true]
  have c2 : (Value.ref C :: bm).contains (.type "AttributeError") = false := by
    rw [List.contains_cons, hT, Fb.noAttr]
    rfl
  have c3 : (Value.ref C :: bm).contains (.type "NameError") = false := by
    rw [List.contains_cons, hT, Fb.noName]
    rfl
  refine codeAny_builtinAt Fb.entry ?_
  unfold Builtin.«BaseException.__new__»
  refine PySem.wpAt_bind ?_
  show PySem.wpAt _ _ _ (stack >>= _) _ _ _
  refine PySem.wpAt_bind (PySem.wpAt_stack fun p below => PySem.wpAt_of_wpAny ?_)
  wp_walk
  refine PySem.wpAt_of_wpAny ?_
  rw [Fb.owner]
  repeat (first
    | with_reducible refine wpAny_madeHere_exc Fb.canon hC ?_
    | with_reducible refine wpAny_loadPart_at hC ?_
    | (with_reducible refine wpAny_isSubtype_exc hC ?_
       first | rw [c1] | rw [c2] | rw [c3])
    | wp_step)
  show R _ _
  rw [Heap.size_push]
  exact hq
theorem typeCall (Fb : ExcBaseFacts B newId initId bmB) (hT : ∀ X : String, bm.contains (.type X) = bmB.contains (.type X)) {rest : List Value} {kw : List (Str × Value)} {fI : Addr} {Q : Fin → Shared → Prop}
    (hC : h.get? C = some (excClassObj nm q C N bs bm hdct sn sub ab col dd k0 k1 k2 k3 k5 newId))
    (hi : W.Looks (model prog w) h (typeLookup (.ref C) "__init__") (some (.ref fI))) (hb : ∀ self, W.Looks (model prog w) h (bindSpecial (.ref fI) self) (.ref fI, [self])) (hz : rest.length ≤ sizeLine)
    (hq : codeAny (model prog w) A (.call (.ref fI) ⟨.ref (h.objs.size + 1) :: rest, kw⟩)
      (fun r s' => match r with | .ok (.ret v) => v = .none ∧ Q (.done (.ret (.ref (h.objs.size + 1)))) s' | .ok _ => False | .error e => E e s') ⟨twoH h C rest, g, d, t, os⟩) :
    wpAny (model prog w) A (Builtin.«type.__call__» ⟨.ref C :: rest, kw⟩) Q E ⟨h, g, d, t, os⟩ := by
  repeat (first
    | with_reducible refine wpAny_loadPart_at hC ?_
    | with_reducible refine wpAny_madeBy_exc hC ?_
    | wp_step)
  refine codeAny_call_builtin_code (Code.quiet_builtin _ Fb.quiet) (newCheck Fb hT hC ?_)
  refine newRun Fb hT hC ?_ hz
  show wpAny _ _ _ _ _ _
  have k : ∀ b o, h.get? b = some o → (twoH h C rest).get? b = some o := fun b o e => Heap.get?_push_of_some _ (Heap.get?_push_of_some _ e)
  have hC₁ := k _ _ hC
  have hg : (twoH h C rest).get? (h.objs.size + 1) = some (obX C h.objs.size none) := by heap_get
  have c4 : (Value.ref C :: bm).contains (.ref C) = true := by simp
  have i1 := hi.keeps k
  have b1 := (hb (.ref (h.objs.size + 1))).keeps k
  unfold isInstance
  repeat (first
    | with_reducible refine wpAny_loadPart_at hg ?_
    | (with_reducible refine wpAny_isSubtype_exc hC₁ ?_
       rw [c4])
    | wp_step)
  show wpAny _ _ (typeLookup (.ref C) _) _ _ _
  refine i1.at ?_
  refine wpAny_holding (wpAny_bind (b1.at ?_))
  refine wpAny_bind (wpAny_call (codeAny_mono hq fun r s' z => ?_))
  rcases r with e | (v | _ | _ | _) <;> first | exact z | exact z.elim | skip
  obtain ⟨rfl, z⟩ := z
  first
    | exact wpAny_pure (wpAny_pure z)
    | (wp_walk; exact z)
theorem callX (Fb : ExcBaseFacts B newId initId bmB) (hT : ∀ X : String, bm.contains (.type X) = bmB.contains (.type X)) {rest : List Value} {kw : List (Str × Value)} {fI : Addr}
    (hC : h.get? C = some (excClassObj nm q C N bs bm hdct sn sub ab col dd k0 k1 k2 k3 k5 newId))
    (hi : W.Looks (model prog w) h (typeLookup (.ref C) "__init__") (some (.ref fI))) (hb : ∀ self, W.Looks (model prog w) h (bindSpecial (.ref fI) self) (.ref fI, [self])) (hz : rest.length ≤ sizeLine)
    (hq : codeAny (model prog w) (A.under (.builtin "type.__call__" ⟨.ref C :: rest, kw⟩)) (.call (.ref fI) ⟨.ref (h.objs.size + 1) :: rest, kw⟩) (W.InitBack (h.objs.size + 1) R) ⟨twoH h C rest, g, d, t, os⟩) :
    codeAny (model prog w) A (.call (.ref C) ⟨rest, kw⟩) R ⟨h, g, d, t, os⟩ := by
  have f1 := tc_lookup
  have f2 := tc_bind (.ref C)
  have hTy : (⟨h, g, d, t, os⟩ : Shared).TypeIs (.ref C) "type" := ⟨_, hC, rfl⟩
  refine codeAny_of_tree ?_
  show wpAny _ _ (callAny (.ref C) _) _ _ _
  repeat (any_goals (first
    | assumption
    | with_reducible refine wpAny_loadPart_at hC ?_
    | wp_step))
  refine ⟨rfl, ?_⟩
  refine codeAny_call_builtin_at (Code.quiet_builtin _ (by decide +kernel)) entry_typeCall (wpAny_check_type_call_sub hC (typeCall Fb hT hC hi hb hz ?_))
  refine codeAny_mono hq fun r s' z => ?_
  rcases r with e | (v | _ | _ | _) <;> exact z
end
end Xq

/-! The body of such an __init__. -/
namespace Xq
open PySem PySem.Spec PyProof.Rows L2 PySem.W PySem.Calls
/-- where the def stands: its file, the class that super() means -/
structure XF (P : Program) (K : PySem.W.Frag) (C f : Addr) (fd : FuncData) (cda cc : Addr) : Prop where
  lk : ∃ oc od osl, K.lookup f = some ⟨oc, od, .func fd, osl⟩
  code : ∃ ccl cdd vs ccs file tf, K.lookup cda = some ⟨ccl, cdd, .fields vs, ccs⟩ ∧ vs[2]? = some (.str file tf) ∧ ((P.main.file : Str) == file) = true
  cell : ∃ cl cld csl, K.lookup cc = some ⟨cl, cld, .cell (some (.ref C)), csl⟩
  top : (P.main.scope.names.lookup ("super" : Str)).isSome = false
/-- the scope of such an __init__ -/
structure XS (scope : Scope) : Prop where
  sup : scope.names.lookup ("super" : Str) = some .globalImplicit
  cls : scope.names.lookup ("__class__" : Str) = some .free
  self : scope.names.lookup ("self" : Str) = some .local
  kind : scope.kind = .function
  co : scope.isCoroutine = false
  gen : scope.isGenerator = false
  cells : ∀ x ∈ scope.names, x.2 ≠ .cell
section
variable {prog : Program} {w : World} {A : Around} {E : Value → Shared → Prop} {K : PySem.W.Frag} {C x t0 L f cda cc : Addr} {B newId initId : String} {T : List Value} {s : Shared} {q : Str} {scope : Scope} {fd : FuncData} {body : List Stmt} {m mg mb : Str → Option Value}
theorem exec_up {p0 p1 p2 p3 p4 apos : Pos} {j : Nat} {msg : Str} {ar : Arg} {Q : Flow → Shared → Prop} (c : XC K C B newId initId T) (z : XF prog K C f fd cda cc) (S : XS scope) (X : K.In s.heap) (hp : (fd.params.posonlyargs ++ fd.params.args).head? = some ar) (har : ar.arg = "self")
    (hG : s.heap.Ns mainGlobals mg) (hm : mg "super" = none) (hB : s.heap.Ns builtinsNs mb) (hb : mb "super" = some (.type "super")) (hL : s.heap.Ns L m) (hs : m "self" = some (.ref x)) (hx : s.heap.get? x = some (obX C t0 none))
    (hev : ∃ pl : Sem Bool, eval (.Call (.Attribute (.Call (.Name "super" p0) [] [] p1) "__init__" apos) [.Constant (.str msg) j p2] [] p3) (ksEnv q scope L f (.ref cda) cc) = (do
      let ov ← attributeBase (.Call (.Name "super" p0) [] [] p1) "__init__" (ksEnv q scope L f (.ref cda) cc) (eval (.Call (.Name "super" p0) [] [] p1) (ksEnv q scope L f (.ref cda) cc))
      standAt apos.atName
      let (f1, first) ← holding [ov] (getMethod ov "__init__" pl)
      callWith p3 f1 first (backTo p3 (starEach [.Constant (.str msg) j p2] (ksEnv q scope L f (.ref cda) cc))) [])) (hin : interactive (ksEnv q scope L f (.ref cda) cc) = false)
    (hsw : swapsWith (.Call (.Attribute (.Call (.Name "super" p0) [] [] p1) "__init__" apos) [.Constant (.str msg) j p2] [] p3) none p4.line (ksEnv q scope L f (.ref cda) cc) = pure false)
    (h : ∀ h' tk' t', (∀ b o, b ≠ x → s.heap.get? b = some o → h'.get? b = some o) → h'.get? x = some (obX C t' none) → Q .next { s with heap := h', toks := tk' }) :
    PySem.wpAt (model prog w) A (.func body (ksEnv q scope L f (.ref cda) cc)) (exec (.Expr (.Call (.Attribute (.Call (.Name "super" p0) [] [] p1) "__init__" apos) [.Constant (.str msg) j p2] [] p3) p4) (ksEnv q scope L f (.ref cda) cc)) Q E s := by
  obtain ⟨oc, od, osl, lk⟩ := z.lk
  obtain ⟨ccl, cdd, vs, ccs, file, tf, hcode, hvs, hfile⟩ := z.code
  obtain ⟨cl, cld, csl, hcell⟩ := z.cell
  obtain ⟨hp0, g, d, tk, os⟩ := s
  have I : InstAt hp0 x (obX C t0 none) C none := ⟨hx, rfl, rfl, trivial⟩
  cases hc : PySem.W.clsIn K C with
  | none =>
    have := c.isC
    rw [hc] at this
    cases this
  | some cd =>
    obtain ⟨oD, hD1, hD2⟩ : ∃ oD, hp0.get? C = some oD ∧ oD.data = .cls cd := by
      have hc' := hc
      unfold PySem.W.clsIn at hc'
      split at hc'
      · rename_i a1 a2 a3 a4 ho
        cases hc'
        exact ⟨_, X _ _ ho, rfl⟩
      · cases hc'
    obtain ⟨pl, hev⟩ := hev
    refine ks_wpAt_Expr_any (ks_wpAt_MethodCall (pl := pl) ?_ hev) hin hsw
    refine ks_wpAt_super_base (env := ksEnv q scope L f (.ref cda) cc) S.sup S.cls rfl rfl (X _ _ lk) rfl hp rfl (X _ _ hcode) rfl hvs hfile z.top ?_
    refine ks_loadName_global S.kind S.sup (loadGlobal_builtin (env := ksEnv q scope L f (.ref cda) cc) hG hm hB hb ⟨rfl, ?_⟩)
    refine wpAny_loadName_free S.kind S.cls rfl ⟨_, X _ _ hcell, rfl⟩ ?_
    rw [har]
    refine wpAny_loadName_local S.kind S.self hL hs ?_
    refine ks_wpAny_isType_cls hD1 hD2 ⟨rfl, ?_⟩
    refine ks_wpAny_call_super hD1 hD2 hx rfl (fun c e => nomatch e) (looks_mroIn X c.self) (fun h1 e1 k1 => ?_)
    have X1 : K.In h1 := X.keeps k1
    have I1 : InstAt h1 x (obX C t0 none) C none := ⟨k1 _ _ hx, rfl, rfl, trivial⟩
    have hI : Looks (model prog w) h1 (isInstance (.ref x) (.type B)) true := I1.type.andThen (looks_subIn X1 c.subB)
    have hm2 := c.up
    unfold ks_superIn at hm2
    rw [hc] at hm2
    refine kxs_getMethod (l₀ := cd.mro) c.xb.kx e1 (looks_opaque X1 c.op) ?_ rfl X1 hm2 hI (ks_ne X I hc) rfl ?_
    · exact fun A Q E s k q => wpAny_bind ((looks_clsIn X1 hc) A _ E s k (wpAny_pure q))
    · refine kxs_callWith (i := initId) (x := x) rfl (evalArgs_plain (spliced_cons (Constant_str (k := j) (pos := p2) (spliced_nil ⟨?_, ?_⟩))))
      · exact Heap.get?_push_at rfl rfl
      · have k2 : ∀ b o, hp0.get? b = some o → (h1.push (kxs_mw initId x)).get? b = some o := fun b o e => Heap.get?_push_of_some _ (k1 b o e)
        refine call_up c (X.keeps k2) (Heap.get?_push_at rfl rfl) (k2 _ _ hx) (show 1 ≤ sizeLine by decide) fun h' t' k e => ?_
        exact h h' _ t' (fun b o hb ho => k b o hb (k2 b o ho)) e
end
/-- within such an __init__: x has the attributes fs, all else stands as in s0 -/
structure Mid (K : PySem.W.Frag) (s0 s : Shared) (x C L : Addr) (m : Str → Option Value) (fs : List (Str × V)) : Prop where
  kin : K.In s.heap
  kx : ∀ o, K.lookup x ≠ some o
  keep : ∀ b o, b ≠ x → s0.heap.get? b = some o → s.heap.get? b = some o
  loc : s.heap.Ns L m
  le : s0.heap.objs.size ≤ s.heap.objs.size
  obj : (fs = [] ∧ ∃ t, s.heap.get? x = some (obX C t none)) ∨ (∃ t d mA, s.heap.get? x = some (obX C t (some d)) ∧ s0.heap.objs.size ≤ d ∧ d ≠ x ∧ d ≠ L ∧ s.heap.Ns1 d mA ∧ ∀ f, RelO (fs.lookup f) (mA f))
  gens : s.gens = s0.gens
  os : s.os = s0.os
section
variable {prog : Program} {w : World} {A : Around} {E : Value → Shared → Prop} {K : PySem.W.Frag} {C x L f cda cc : Addr} {B newId initId : String} {T : List Value} {s0 s : Shared} {q : Str} {scope : Scope} {fs : List (Str × V)} {m : Str → Option Value}
theorem nsLives {h h' : Heap} {L : Addr} {m : Str → Option Value} (n : h.Ns L m) (k : ∀ o, h.get? L = some o → h'.get? L = some o) : h'.Ns L m := by
  obtain ⟨o, es, ep, ho, r⟩ := n
  exact ⟨o, es, ep, k _ ho, r⟩
theorem mid_set {fl : Str} {v : V} {u : Value} {Q : Unit → Shared → Prop} (c : XC K C B newId initId T) (K0 : K.In s0.heap) (M : Mid K s0 s x C L m fs) (ru : RelV v u) (hz : fs.length ≤ 900) (ht : takerIn K C fl = some none)
    (h : ∀ s', Mid K s0 s' x C L m ((fl, v) :: fs) → Q () s') : wpAny (model prog w) A (setAttr (.ref x) fl u) Q E s := by
  obtain ⟨kin, kx, keep, loc, le, obj, gens, os⟩ := M
  have kd : ∀ d, s0.heap.objs.size ≤ d → ∀ o, K.lookup d ≠ some o := fun d hd o e => absurd (Heap.lt_size (K0 _ _ e)) (Nat.not_lt.mpr hd)
  have Lx : L ≠ x := fun z => by
    obtain ⟨o, es, ep, ho, hd, _⟩ := loc
    rcases obj with ⟨_, t, hx⟩ | ⟨t, d, mA, hx, _⟩
    · rw [z, hx] at ho; cases ho; cases hd
    · rw [z, hx] at ho; cases ho; cases hd
  rcases obj with ⟨rfl, t, hx⟩ | ⟨t, d, mA, hx, hd, ndx, ndL, hn, r⟩
  · refine set_new c kin hx ht fun h' tk' dx k dn dne e n => h _ ⟨fun b o z => k b o (fun y => kx o (y ▸ z)) (kin b o z), kx, fun b o hb z => k b o hb (keep b o hb z), nsLives loc fun o z => k L o Lx z, ?_, .inr ⟨t, dx, _, e, Nat.le_trans le dn, dne, ?_, n, ?_⟩, gens, os⟩
    · obtain ⟨o, es, ep, ho, _⟩ := n
      exact Nat.le_of_lt (Nat.lt_of_le_of_lt (Nat.le_trans le dn) (Heap.lt_size ho))
    · obtain ⟨o, es, ep, ho, _⟩ := loc
      exact Nat.ne_of_gt (Nat.lt_of_lt_of_le (Heap.lt_size ho) dn)
    · exact relO_put (fs := []) ru fun g => True.intro
  · have hw := within_of r
    refine set_old c kin hx hn hw (by rw [List.length_map]; omega) ht fun h' tk' k n => h _ ⟨fun b o z => k b o (fun y => kd d hd o (y ▸ z)) (kin b o z), kx, fun b o hb z => k b o ?_ (keep b o hb z), nsLives loc fun o z => k L o ndL.symm z, ?_, .inr ⟨t, d, _, k _ _ ndx.symm hx, hd, ndx, ndL, n, ?_⟩, gens, os⟩
    · exact Nat.ne_of_lt (Nat.lt_of_lt_of_le (Heap.lt_size z) hd)
    · obtain ⟨o, es, ep, ho, _⟩ := n
      exact Nat.le_trans hd (Nat.le_of_lt (Heap.lt_size ho))
    · exact relO_put ru r
theorem ldLoc {M : Model} {env : Env} {y : Str} {pos : Pos} {v : Value} {Q : Value → Shared → Prop} (hl : env.locals = L) (hn : s.heap.Ns L m) (hv : m y = some v) (h : Q v s) (hk : env.scope.kind = .function) (k : env.kindOf y = some .local) (hd : (y == ("__debug__" : Str)) = false) :
    wpAny M A (eval (.Name y pos) env) Q E s := wpAny_Name (wpAny_loadName_local hk k (by rw [hl]; exact hn) hv h) hd
/-- self.f = a parameter; self.f = '..' -/
inductive St1 (m : Str → Option Value) (env : Env) : Stmt → Str → V → Prop
  | var {fl y : Str} {v : V} {u : Value} {q0 q1 q2 q3 : Pos} : m y = some u → RelV v u → env.kindOf y = some .local → (y == ("__debug__" : Str)) = false → swapsWith (.Name y q2) (some (.Attribute (.Name "self" q0) fl q1)) q3.line env = pure false →
      St1 m env (.Assign [.Attribute (.Name "self" q0) fl q1] (.Name y q2) q3) fl v
  | con {fl : Str} {z : Str} {j : Nat} {q0 q1 q2 q3 : Pos} : swapsWith (.Constant (.str z) j q2) (some (.Attribute (.Name "self" q0) fl q1)) q3.line env = pure false →
      St1 m env (.Assign [.Attribute (.Name "self" q0) fl q1] (.Constant (.str z) j q2) q3) fl (.str z)
inductive Sts (m : Str → Option Value) (env : Env) : List Stmt → List (Str × V) → Prop
  | nil : Sts m env [] []
  | cons {st : Stmt} {rest : List Stmt} {fl : Str} {v : V} {l : List (Str × V)} : St1 m env st fl v → Sts m env rest l → Sts m env (st :: rest) ((fl, v) :: l)
theorem run_st {env : Env} {st : Stmt} {fl : Str} {v : V} {Q : Flow → Shared → Prop} (c : XC K C B newId initId T) (K0 : K.In s0.heap) (hk : env.scope.kind = .function) (hs : env.kindOf "self" = some .local) (hl : env.locals = L) (hself : m "self" = some (.ref x)) (M : Mid K s0 s x C L m fs) (hz : fs.length ≤ 900) (ht : takerIn K C fl = some none) (i : St1 m env st fl v)
    (h : ∀ s', Mid K s0 s' x C L m ((fl, v) :: fs) → Q .next s') : wpAny (model prog w) A (exec st env) Q E s := by
  have tok : ∀ {s : Shared} {t : Nat}, Mid K s0 s x C L m fs → Mid K s0 { s with toks := t } x C L m fs := fun M => ⟨M.kin, M.kx, M.keep, M.loc, M.le, M.obj, M.gens, M.os⟩
  cases i with
  | var e r k hd sw =>
    refine plainObj_wpAny_Assign_Attribute (ldLoc hl M.loc e ?_ hk k hd) sw
    refine ldLoc hl M.loc hself ?_ hk hs rfl
    exact mid_set c K0 M r hz ht h
  | con sw =>
    refine plainObj_wpAny_Assign_Attribute (Constant_str ?_) sw
    refine ldLoc hl M.loc hself ?_ hk hs rfl
    exact mid_set (v := .str _) c K0 (tok M) (show ∃ t, _ = _ from ⟨_, rfl⟩) hz ht h
theorem run_sts {env : Env} {Q : Flow → Shared → Prop} (c : XC K C B newId initId T) (K0 : K.In s0.heap) (hk : env.scope.kind = .function) (hs : env.kindOf "self" = some .local) (hl : env.locals = L) (hself : m "self" = some (.ref x)) {sts : List Stmt} {l : List (Str × V)} (i : Sts m env sts l) :
    ∀ {s : Shared} {fs : List (Str × V)}, Mid K s0 s x C L m fs → fs.length + l.length ≤ 900 → (∀ p ∈ l, takerIn K C p.1 = some none) → (∀ s', Mid K s0 s' x C L m (l.reverse ++ fs) → Q .next s') → wpAny (model prog w) A (execs sts env) Q E s := by
  induction i with
  | nil => exact fun M _ _ h => wpAny_execs_nil (h _ M)
  | @cons st rest fl v l a b ih =>
    intro s fs M hz ht h
    refine wpAny_execs_cons (run_st c K0 hk hs hl hself M (by rw [List.length_cons] at hz; omega) (ht _ (List.mem_cons_self ..)) a fun s' M' => ?_)
    refine ih M' (by rw [List.length_cons] at hz ⊢; omega) (fun p hp => ht p (List.mem_cons_of_mem _ hp)) fun s2 M2 => h s2 ?_
    rw [List.reverse_cons, List.append_assoc]
    exact M2

/-- the whole __init__ -/
theorem run_init {fI cda cc : Addr} {qual : Str} {params : Arguments} {scope : Scope} {dV kV doc pm ct : Value} {an : Option Addr} {p0 p1 p2 p3 p4 apos : Pos} {j : Nat} {msg : Str} {sts : List Stmt} {ar : Arg} {args : Args} {binds : List (Str × Value)} {l : List (Str × V)} {t0 : Addr} {mg mb : Str → Option Value} {R : Result → Shared → Prop} {s : Shared}
    (c : XC K C B newId initId T) (z : XF prog K C fI (ksFn "__init__" qual params (.Expr (.Call (.Attribute (.Call (.Name "super" p0) [] [] p1) "__init__" apos) [.Constant (.str msg) j p2] [] p3) p4 :: sts) scope dV kV doc pm an (.ref cda) ct cc) cda cc) (S : XS scope)
    (X : K.In s.heap) (hcd : codeIn K (.ref cda) qual = true) (lim : s.heap.NoLimit) (hroom : A.depth < recursionLimit) (hp : (params.posonlyargs ++ params.args).head? = some ar) (har : ar.arg = "self")
    (hG : s.heap.Ns mainGlobals mg) (hm : mg "super" = none) (hB : s.heap.Ns builtinsNs mb) (hb : mb "super" = some (.type "super")) (hx : s.heap.get? x = some (obX C t0 none)) (kx : ∀ o, K.lookup x ≠ some o)
    (hbind : BindsTo s (ksFn "__init__" qual params (.Expr (.Call (.Attribute (.Call (.Name "super" p0) [] [] p1) "__init__" apos) [.Constant (.str msg) j p2] [] p3) p4 :: sts) scope dV kV doc pm an (.ref cda) ct cc) args binds)
    (hloc : ∀ y ∈ binds, scope.names.lookup y.1 = some .local) (hself : binds.reverse.lookup ("self" : Str) = some (Value.ref x))
    (hev : ∀ env : Env, env.scope = scope → ∃ pl : Sem Bool, eval (.Call (.Attribute (.Call (.Name "super" p0) [] [] p1) "__init__" apos) [.Constant (.str msg) j p2] [] p3) env = (do
      let ov ← attributeBase (.Call (.Name "super" p0) [] [] p1) "__init__" env (eval (.Call (.Name "super" p0) [] [] p1) env)
      standAt apos.atName
      let (f1, first) ← holding [ov] (getMethod ov "__init__" pl)
      callWith p3 f1 first (backTo p3 (starEach [.Constant (.str msg) j p2] env)) [])) (hin : ∀ env : Env, env.scope = scope → interactive env = false)
    (hsw : ∀ env : Env, env.scope = scope → swapsWith (.Call (.Attribute (.Call (.Name "super" p0) [] [] p1) "__init__" apos) [.Constant (.str msg) j p2] [] p3) none p4.line env = pure false)
    (hsts : ∀ env : Env, env.scope = scope → Sts (fun y => binds.reverse.lookup y) env sts l) (hz : l.length ≤ 900) (ht : ∀ p ∈ l, takerIn K C p.1 = some none)
    (h : ∀ s' t d mA, (∀ b o, b ≠ x → s.heap.get? b = some o → s'.heap.get? b = some o) → s'.heap.get? x = some (obX C t (some d)) → s.heap.objs.size ≤ d → d ≠ x → s'.heap.Ns1 d mA → (∀ f, RelO (l.reverse.lookup f) (mA f)) → s'.gens = s.gens → s'.os = s.os → R (.ok (.ret .none)) s') (hl : l ≠ []) :
    codeAny (model prog w) A (.call (.ref fI) args) R s := by
  obtain ⟨oc, od, osl, lk⟩ := z.lk
  refine ks_codeAny_call_defAt (binds := binds) hroom (X _ _ lk) rfl lim (codeRec_of X hcd) rfl hbind S.cells hloc (fun h₀ hns hk => ?_) S.co S.gen S.kind
  have Lx : s.heap.objs.size ≠ x := Nat.ne_of_gt (Heap.lt_size hx)
  refine ks_wpAt_execs_cons (exec_up (s := { s with heap := h₀, toks := s.toks + binds.length }) c z S (X.keeps hk) hp har (nsLives hG fun o e => hk _ _ e) hm (nsLives hB fun o e => hk _ _ e) hb hns hself (hk _ _ hx) (hev _ rfl) (hin _ rfl) (hsw _ rfl) fun h' tk' t' k e => ?_)
  refine PySem.wpAt_of_wpAny (run_sts (env := ksEnv qual scope s.heap.objs.size fI (.ref cda) cc) (s0 := s) (fs := []) (L := s.heap.objs.size) (m := fun y => binds.reverse.lookup y) (x := x) c X S.kind S.self rfl hself (hsts _ rfl) ⟨?_, kx, fun b o hb y => k b o hb (hk b o y), nsLives hns fun o y => k _ o Lx y, ?_, .inl ⟨rfl, t', e⟩, rfl, rfl⟩ (by simpa using hz) ht fun s2 M2 => ?_)
  · exact fun b o y => k b o (fun q => kx o (q ▸ y)) (hk b o (X b o y))
  · obtain ⟨o, es, ep, ho, _⟩ := nsLives (h' := h') hns fun o y => k _ o Lx y
    exact Nat.le_of_lt (Heap.lt_size ho)
  · rw [List.append_nil] at M2
    rcases M2.obj with ⟨e1, _⟩ | ⟨t, d, mA, e1, hd, n1, n2, hn, r⟩
    · exact absurd (List.reverse_eq_nil_iff.mp e1) hl
    · exact h s2 t d mA M2.keep e1 hd n1 hn r M2.gens M2.os
end
end Xq

/-! An own exception made, as a value. -/
namespace Xq
open PySem PySem.Spec PyProof.Rows L2 PySem.W PySem.Calls
theorem exV_ok {P : Program} {w : World} {H : Hp} {h : Heap} {a C d : Addr} {oe : Obj} {vs : Array Value} (e : h.get? a = some oe) (h1 : oe.cls = .ref C) (h2 : oe.dict = some d) (h3 : oe.data = .fields vs) : ObjOk P w H h a (ExV a C d) :=
  ⟨⟨oe, vs, e, h1, h2, h3⟩, ⟨oe, e⟩, fun _ _ ⟨o, v, q, r⟩ k => ⟨o, v, k o q, r⟩⟩
theorem exV_at {P : Program} {w : World} {H : Hp} {h : Heap} {a C d : Addr} (hok : HOk P w H h) (he : H a = some (ExV a C d)) : ∃ (oe : Obj) (vs : Array Value), h.get? a = some oe ∧ oe.cls = .ref C ∧ oe.dict = some d ∧ oe.data = .fields vs := by
  have x : ObjOk P w H h a (.ext fun h => ∃ (oe : Obj) (vs : Array Value), h.get? a = some oe ∧ oe.cls = .ref C ∧ oe.dict = some d ∧ oe.data = .fields vs) := hok a _ he
  exact x.1
/-- C called with n positional values and the keywords ks; bl: its attributes, the last one stored first -/
structure MkX (X : Cx) (C : Addr) (n : Nat) (ks : List Str) (bl : List V → List V → List (Str × V)) : Prop where
  kC : PySem.W.keepIn X.K (.ref C) = true
  run : ∀ {pins : List (Addr × Obj)} {σ : L2.St} {H : Hp} {s : Shared} {us ws : List Value} {vs zs : List V} {Q : VK}, Inv X pins σ H s → Vals vs us → Vals zs ws → vs.length = n → zs.length = ks.length →
    (∀ a d, H a = none → H d = none → d ≠ a → Q (.ref a) (upd (upd H d (.xd (bl vs zs))) a (ExV a C d))) → wpAny (model X.prog X.w) X.A (call (.ref C) us (ks.zip ws)) (EP X pins σ Q) X.xe s
/-- the same, of the states themselves -/
structure MkR (X : Cx) (C : Addr) (n : Nat) (ks : List Str) (bl : List V → List V → List (Str × V)) : Prop where
  kC : PySem.W.keepIn X.K (.ref C) = true
  run : ∀ {pins : List (Addr × Obj)} {σ : L2.St} {H : Hp} {s : Shared} {us ws : List Value} {vs zs : List V} {R : Value → Shared → Prop}, Inv X pins σ H s → Vals vs us → Vals zs ws → vs.length = n → zs.length = ks.length →
    (∀ s' a t d mA, (∀ b o, s.heap.get? b = some o → s'.heap.get? b = some o) → s.heap.objs.size ≤ a → s.heap.objs.size ≤ d → d ≠ a → s'.heap.get? a = some (obX C t (some d)) → s'.heap.Ns1 d mA → (∀ f, RelO ((bl vs zs).lookup f) (mA f)) → s'.gens = s.gens → s'.os = s.os → R (.ref a) s') →
    wpAny (model X.prog X.w) X.A (call (.ref C) us (ks.zip ws)) R X.xe s
theorem made_inv {X : Cx} {pins : List (Addr × Obj)} {σ : L2.St} {H : Hp} {s s' : Shared} {a C d t : Addr} {fs : List (Str × V)} {mA : Str → Option Value} (I : Inv X pins σ H s) (k : ∀ b o, s.heap.get? b = some o → s'.heap.get? b = some o) (hge : s.heap.objs.size ≤ a) (hgd : s.heap.objs.size ≤ d) (ne : d ≠ a)
    (ha : s'.heap.get? a = some (obX C t (some d))) (hn : s'.heap.Ns1 d mA) (r : ∀ f, RelO (fs.lookup f) (mA f)) (eg : s'.gens = s.gens) (eo : s'.os = s.os) : Inv X pins σ (upd (upd H d (.xd fs)) a (ExV a C d)) s' := by
  have na : H a = none := I.hok.fresh hge
  have nd : H d = none := I.hok.fresh hgd
  have lt1 : ∀ b o, s.heap.get? b = some o → b ≠ a := fun b o e => Nat.ne_of_lt (Nat.lt_of_lt_of_le (Heap.lt_size e) hge)
  have lt2 : ∀ b o, s.heap.get? b = some o → b ≠ d := fun b o e => Nat.ne_of_lt (Nat.lt_of_lt_of_le (Heap.lt_size e) hgd)
  have so : ∀ b u, H b = some u → upd (upd H d (.xd fs)) a (ExV a C d) b = some u := fun b u e => by
    rw [upd_ne (ne_of_none e na), upd_ne (ne_of_none e nd)]
    exact e
  have U : Un (frs X.stack) [] H (upd (upd H d (.xd fs)) a (ExV a C d)) s.heap s'.heap :=
    ⟨fun b o e _ _ _ => k b o e, fun b o e _ _ _ => ⟨o.slots, k b o e⟩, fun b o e n _ => by rw [upd_ne (lt1 b o e), upd_ne (lt2 b o e)]; exact n, fun b o e _ => ⟨o, k b o e⟩, fun b xs e => so b _ e, fun b o u e => so b _ e, fun b ps e => ⟨#[], by rw [so b _ e]; simp⟩⟩
  have ok : HOk X.prog X.w (upd (upd H d (.xd fs)) a (ExV a C d)) s'.heap := fun b u e => by
    by_cases q1 : b = a
    · subst q1
      rw [upd_same] at e
      cases e
      exact exV_ok ha rfl rfl rfl
    · rw [upd_ne q1] at e
      by_cases q2 : b = d
      · subst q2
        rw [upd_same] at e
        cases e
        exact ⟨mA, hn, r⟩
      · rw [upd_ne q2] at e
        exact (I.hok b u e).stay (fun c v _ y => k c v y) (fun c y => so c _ y) fun c xs y => so c _ y
  obtain ⟨h', g', d', t', o'⟩ := s'
  have eo : o' = s.os := eo
  have eg : g' = s.gens := eg
  subst eo eg
  exact I.call (ch := []) (g' := s.gens) (t' := t') (d' := d') U ok I.bare (fun _ z => nomatch z)
theorem MkR.x {X : Cx} {C : Addr} {n : Nat} {ks : List Str} {bl : List V → List V → List (Str × V)} (M : MkR X C n ks bl) : MkX X C n ks bl := by
  refine ⟨M.kC, fun {pins σ H s us ws vs zs Q} I r1 r2 l1 l2 h => M.run I r1 r2 l1 l2 fun s' a t d mA k ha hd ne e hns rr eg eo => ?_⟩
  exact ⟨.ref a, _, made_inv I k ha hd ne e hns rr eg eo, rfl, h a d (I.hok.fresh ha) (I.hok.fresh hd) ne⟩
section
variable {X : Cx} {C fI cda cc : Addr} {B newId initId : String} {T : List Value} {qual : Str} {params : Arguments} {scope : Scope} {dV kV doc pm ct : Value} {an : Option Addr} {p0 p1 p2 p3 p4 apos : Pos} {j k n : Nat} {msg : Str} {sts : List Stmt} {ar : Arg} {ps ks : List Str} {pm' : List Value → List Value → List Value} {bl : List V → List V → List (Str × V)}
abbrev upSt (p0 p1 p2 p3 p4 apos : Pos) (j : Nat) (msg : Str) : Stmt := .Expr (.Call (.Attribute (.Call (.Name "super" p0) [] [] p1) "__init__" apos) [.Constant (.str msg) j p2] [] p3) p4
/-- what the text of such an __init__ shows by itself -/
structure XT (scope : Scope) (p0 p1 p2 p3 p4 apos : Pos) (j : Nat) (msg : Str) : Prop where
  ev : ∀ env : Env, env.scope = scope → ∃ pl : Sem Bool, eval (.Call (.Attribute (.Call (.Name "super" p0) [] [] p1) "__init__" apos) [.Constant (.str msg) j p2] [] p3) env = (do
      let ov ← attributeBase (.Call (.Name "super" p0) [] [] p1) "__init__" env (eval (.Call (.Name "super" p0) [] [] p1) env)
      standAt apos.atName
      let (f1, first) ← holding [ov] (getMethod ov "__init__" pl)
      callWith p3 f1 first (backTo p3 (starEach [.Constant (.str msg) j p2] env)) [])
  int : ∀ env : Env, env.scope = scope → interactive env = false
  sw : ∀ env : Env, env.scope = scope → swapsWith (.Call (.Attribute (.Call (.Name "super" p0) [] [] p1) "__init__" apos) [.Constant (.str msg) j p2] [] p3) none p4.line env = pure false
theorem mkR_of (c : XC X.K C B newId initId T) (z : XF X.prog X.K C fI (ksFn "__init__" qual params (upSt p0 p1 p2 p3 p4 apos j msg :: sts) scope dV kV doc pm an (.ref cda) ct cc) cda cc) (S : XS scope) (t : XT scope p0 p1 p2 p3 p4 apos j msg)
    (hcd : codeIn X.K (.ref cda) qual = true) (hi : PySem.W.findIn X.K (.ref C) "__init__" = some (some (.ref fI))) (hf : PySem.W.typeIn X.K (.ref fI) = some (.type "function")) (hr : Room (k + 1) X.A) (hp : (params.posonlyargs ++ params.args).head? = some ar) (har : ar.arg = "self") (hm : X.mg "super" = none)
    (hb : ∀ (us ws : List Value), us.length = n → ws.length = ks.length → ∀ e : Value, bindArgs (ksFn "__init__" qual params (upSt p0 p1 p2 p3 p4 apos j msg :: sts) scope dV kV doc pm an (.ref cda) ct cc) ⟨e :: us, ks.zip ws⟩ = pure ((("self" : Str), e) :: ps.zip (pm' us ws)))
    (hps : ∀ y ∈ ps, scope.names.lookup y = some .local ∧ y ≠ "self")
    (hsts : ∀ (us ws : List Value) (vs zs : List V), Vals vs us → Vals zs ws → us.length = n → ws.length = ks.length → ∀ (e : Value) (env : Env), env.scope = scope → ∃ l, bl vs zs = l.reverse ∧ l ≠ [] ∧ l.length ≤ 900 ∧ (∀ p ∈ l, takerIn X.K C p.1 = some none) ∧ Sts (fun y => (((("self" : Str), e) :: ps.zip (pm' us ws) : List (Str × Value))).reverse.lookup y) env sts l)
    (hn : n ≤ 1000) : MkR X C n ks bl := by
  refine ⟨c.kC, fun {pins σ H s us ws vs zs R} I r1 r2 l1 l2 h => ?_⟩
  obtain ⟨hp0, g, d, tk, os⟩ := s
  have KI : X.K.In hp0 := I.kIn
  obtain ⟨nm, N', qn, bs, bm, hdct, sn, sub, ab, col, dd, k0, k1, k2, k3, k5, hC, hT⟩ := excInit_of KI c.made
  have lu : us.length = n := by rw [← r1.length]; exact l1
  have lw : ws.length = ks.length := by rw [← r2.length]; exact l2
  have hus : us.length ≤ sizeLine := by
    rw [sizeLine_eq]
    omega
  have kk : ∀ b o, hp0.get? b = some o → (twoH hp0 C us).get? b = some o := fun b o e => Heap.get?_push_of_some _ (Heap.get?_push_of_some _ e)
  have hget : (twoH hp0 C us).get? (hp0.objs.size + 1) = some (obX C hp0.objs.size none) := by heap_get
  have bk : ∀ b o, X.base.get? b = some o → (twoH hp0 C us).get? b = some o := fun b o e => kk b o (I.bk b o e)
  obtain ⟨mb, hB, hbb⟩ := I.mod.blt
  have sz : (twoH hp0 C us).objs.size = hp0.objs.size + 2 := by simp [twoH, Heap.size_push]
  refine wpAny_call (callX c.xb.base hT hC (looks_findIn KI hi) (fun self => bind_fn KI self hf) hus ?_)
  have hra := hr.make C us (ks.zip ws)
  have hdp : (X.A.under (.builtin "type.__call__" ⟨.ref C :: us, ks.zip ws⟩)).depth < recursionLimit := by
    have := hra.dp
    omega
  have hrev : ∀ (e : Value), (((("self" : Str), e) :: ps.zip (pm' us ws) : List (Str × Value))).reverse.lookup ("self" : Str) = some e := by
    intro e
    rw [List.reverse_cons]
    have gen : ∀ (l : List (Str × Value)), (∀ y ∈ l, y.1 ≠ ("self" : Str)) → (l ++ [(("self" : Str), e)]).lookup ("self" : Str) = some e := by
      intro l
      induction l with
      | nil => intro _; simp [List.lookup]
      | cons y l ih =>
        intro hy
        have ne : (("self" : Str) == y.1) = false := by
          rw [beq_eq_false_iff_ne]
          exact (hy y (List.mem_cons_self ..)).symm
        rw [List.cons_append, List.lookup_cons, ne]
        exact ih fun q hq => hy q (List.mem_cons_of_mem _ hq)
    exact gen _ fun y hy => (hps y.1 (List.of_mem_zip (List.mem_reverse.mp hy)).1).2
  obtain ⟨l, e1, e2, e3, e4, _⟩ := hsts us ws vs zs r1 r2 lu lw (.ref (hp0.objs.size + 1)) { (default : Env) with scope := scope } rfl
  refine run_init (binds := (("self" : Str), Value.ref (hp0.objs.size + 1)) :: ps.zip (pm' us ws)) (l := l) (x := hp0.objs.size + 1) c z S (KI.keeps kk) hcd (I.mod.nolimit.keeps bk) hdp hp har (nsLives I.mod.glob fun o e => bk _ _ e) hm (nsLives hB fun o e => bk _ _ e) ((hbb _ (by decide)).trans PyProof.Rows.Boot.«super») hget ?_ ?_ ?_ (hrev _) t.ev t.int t.sw ?_ e3 e4 ?_ e2
  · intro o e
    exact absurd (Heap.lt_size (KI _ _ e)) (Nat.not_lt.mpr (Nat.le_succ _))
  · exact .of_eq (hb us ws lu lw _)
  · intro y hy
    rcases List.mem_cons.mp hy with rfl | hy
    · exact S.self
    · exact (hps y.1 (List.of_mem_zip hy).1).1
  · intro env he
    obtain ⟨l', q1, _, _, _, q5⟩ := hsts us ws vs zs r1 r2 lu lw (.ref (hp0.objs.size + 1)) env he
    have : l' = l := by
      have := q1.symm.trans e1
      exact List.reverse_inj.mp this
    rw [← this]
    exact q5
  · intro s' t' d' mA k e hd nd hns rr eg eo
    refine ⟨rfl, ?_⟩
    show R (.ref (hp0.objs.size + 1)) s'
    have hd' : hp0.objs.size ≤ d' := by
      have : (twoH hp0 C us).objs.size ≤ d' := hd
      omega
    rw [← e1] at rr
    exact h s' _ t' d' mA (fun b o y => k b o (by have := Heap.lt_size y; exact Nat.ne_of_lt (Nat.lt_succ_of_lt this)) (kk b o y)) (Nat.le_succ _) hd' nd e hns rr eg eo
/-- an own exception that is raised -/
theorem MkR.p {pins : List (Addr × Obj)} {σ : L2.St} {H : Hp} {s : Shared} {us ws : List Value} {vs zs : List V} {Q : XK} (M : MkR X C n ks bl) (hC1 : PySem.W.subIn X.K (.ref C) (.type "BaseException") = some true) (hC2 : PySem.W.typeIn X.K (.ref C) = some (.type "type")) (I : Inv X pins σ H s) (r1 : Vals vs us) (r2 : Vals zs ws) (l1 : vs.length = n) (l2 : zs.length = ks.length)
    (h : ∀ d, H d = none → Q (.ref C) (some d) (upd H d (.xd (bl vs zs)))) : wpAny (model X.prog X.w) X.A (call (.ref C) us (ks.zip ws)) (MkP X pins σ Q) X.xe s := by
  refine M.run I r1 r2 l1 l2 fun s' a t d mA k ha hd ne e hns rr eg eo => ?_
  have na : H a = none := I.hok.fresh ha
  have nd : H d = none := I.hok.fresh hd
  obtain ⟨G, q1, q2⟩ := restrict s'.heap fun b => decide (b ≠ a)
  have gk : ∀ b, b ≠ a → G.get? b = s'.heap.get? b := fun b hb => q1 b (decide_eq_true hb)
  have ga : G.get? a = none := q2 a (by simp)
  have lta : ∀ b o, s.heap.get? b = some o → b ≠ a := fun b o z => Nat.ne_of_lt (Nat.lt_of_lt_of_le (Heap.lt_size z) ha)
  have ltd : ∀ b o, s.heap.get? b = some o → b ≠ d := fun b o z => Nat.ne_of_lt (Nat.lt_of_lt_of_le (Heap.lt_size z) hd)
  have kG : ∀ b o, s.heap.get? b = some o → G.get? b = some o := fun b o z => (gk b (lta b o z)).trans (k b o z)
  have so : ∀ b u, H b = some u → upd H d (.xd (bl vs zs)) b = some u := fun b u z => by
    rw [upd_ne (ne_of_none z nd)]
    exact z
  have U : Un (frs X.stack) [] H (upd H d (.xd (bl vs zs))) s.heap G :=
    ⟨fun b o z _ _ _ => kG b o z, fun b o z _ _ _ => ⟨o.slots, kG b o z⟩, fun b o z q _ => by rw [upd_ne (ltd b o z)]; exact q, fun b o z _ => ⟨o, kG b o z⟩, fun b xs z => so b _ z, fun b o u z => so b _ z, fun b qs z => ⟨#[], by rw [so b _ z]; simp⟩⟩
  have ok : HOk X.prog X.w (upd H d (.xd (bl vs zs))) G := fun b u z => by
    by_cases q : b = d
    · subst q
      rw [upd_same] at z
      cases z
      exact ⟨mA, hns.at fun o y => (gk b ne).trans y, rr⟩
    · rw [upd_ne q] at z
      exact (I.hok b u z).stay (fun c v _ y => kG c v y) (fun c y => so c _ y) fun c xs y => so c _ y
  obtain ⟨h', g', d', t', o'⟩ := s'
  have eo : o' = s.os := eo
  have eg : g' = s.gens := eg
  subst eo eg
  have J : Inv X pins σ (upd H d (.xd (bl vs zs))) ⟨G, s.gens, d', t', s.os⟩ := I.call (ch := []) (g' := s.gens) (t' := t') (d' := d') U ok I.bare (fun _ z => nomatch z)
  refine ⟨a, _, _, ⟨G, s.gens, d', t', s.os⟩, _, .ref C, some d, rfl, J, fun b o z => ?_, ga, e, ⟨rfl, rfl⟩, rfl, rfl, ?_, rfl, I.bare, raises_own hC1 hC2, h d nd⟩
  · by_cases hb : b = a
    · rw [hb, ga] at z
      cases z
    · exact (gk b hb).symm.trans z
  · rw [upd_ne (Ne.symm ne)]
    exact na
theorem mkX_of (c : XC X.K C B newId initId T) (z : XF X.prog X.K C fI (ksFn "__init__" qual params (upSt p0 p1 p2 p3 p4 apos j msg :: sts) scope dV kV doc pm an (.ref cda) ct cc) cda cc) (S : XS scope) (t : XT scope p0 p1 p2 p3 p4 apos j msg)
    (hcd : codeIn X.K (.ref cda) qual = true) (hi : PySem.W.findIn X.K (.ref C) "__init__" = some (some (.ref fI))) (hf : PySem.W.typeIn X.K (.ref fI) = some (.type "function")) (hr : Room (k + 1) X.A) (hp : (params.posonlyargs ++ params.args).head? = some ar) (har : ar.arg = "self") (hm : X.mg "super" = none)
    (hb : ∀ (us ws : List Value), us.length = n → ws.length = ks.length → ∀ e : Value, bindArgs (ksFn "__init__" qual params (upSt p0 p1 p2 p3 p4 apos j msg :: sts) scope dV kV doc pm an (.ref cda) ct cc) ⟨e :: us, ks.zip ws⟩ = pure ((("self" : Str), e) :: ps.zip (pm' us ws)))
    (hps : ∀ y ∈ ps, scope.names.lookup y = some .local ∧ y ≠ "self")
    (hsts : ∀ (us ws : List Value) (vs zs : List V), Vals vs us → Vals zs ws → us.length = n → ws.length = ks.length → ∀ (e : Value) (env : Env), env.scope = scope → ∃ l, bl vs zs = l.reverse ∧ l ≠ [] ∧ l.length ≤ 900 ∧ (∀ p ∈ l, takerIn X.K C p.1 = some none) ∧ Sts (fun y => (((("self" : Str), e) :: ps.zip (pm' us ws) : List (Str × Value))).reverse.lookup y) env sts l)
    (hn : n ≤ 1000) : MkX X C n ks bl := (mkR_of (k := k) c z S t hcd hi hf hr hp har hm hb hps hsts hn).x
end
end Xq

/-! Own exceptions by data. -/
namespace Dq
open PySem PySem.Spec PyProof.Rows L2
section
variable {p : Pg} {X : Cx} {W : WX}
/-! ### e.f -/
@[simp] def atE (n : Nat) (fx : Nat → Bool) (d : DV) (s : Sto) : R DV := match d with
  | .exn c ks xs => match fx c, lkD n ks xs with
    | true, some e => .ok e s
    | _, _ => .bad
  | _ => .bad
/-- the exception that is handled stands pinned -/
def HotX (p : Pg) (X : Cx) : Prop := ∀ a c dx, p.hot = some (a, c, dx) → ∃ (ox : Obj) (vs : Array Value), (a, ox) ∈ X.pn ∧ ox.cls = .ref (p.cA c) ∧ ox.dict = some dx ∧ ox.data = .fields vs
def ExO (X : Cx) (H : Hp) (a C d : Addr) : Prop := H a = some (Xq.ExV a C d) ∨ ∃ (ox : Obj) (vs : Array Value), (a, ox) ∈ X.pn ∧ ox.cls = .ref C ∧ ox.dict = some d ∧ ox.data = .fields vs
theorem exO_of {G : Gh} {H : Hp} (hx : HotX p X) (gd : Gd p G H) {a dx : Addr} {c : Nat} (h : G.F a = some (Xq.ExV a (p.cA c) dx) ∨ p.hot = some (a, c, dx)) : ExO X H a (p.cA c) dx := h.imp (gd.le _ _) (hx _ _ _)
theorem exn_at {pins : List (Addr × Obj)} {σ : L2.St} {H : Hp} {s : Shared} {a C d : Addr} {fs : List (Str × V)} (I : Inv X pins σ H s) (ha : ExO X H a C d) (hd : H d = some (.xd fs)) :
    ∃ (oe od : Obj) (mA : Str → Option Value), PySem.W.InstAt s.heap a oe C (some od) ∧ (∀ f, RelO (fs.lookup f) (mA f)) ∧ (∀ name, PySem.W.lookIn name od = some (mA name)) := by
  obtain ⟨oe, vs, e, h1, h2, h3⟩ : ∃ (oe : Obj) (vs : Array Value), s.heap.get? a = some oe ∧ oe.cls = .ref C ∧ oe.dict = some d ∧ oe.data = .fields vs := by
    rcases ha with ha | ⟨ox, vs, m, h1, h2, h3⟩
    · exact Xq.exV_at I.hok ha
    · exact ⟨ox, vs, (I.pin _ (List.mem_append_left _ m)).1, h1, h2, h3⟩
  have hx : ObjOk X.prog X.w H s.heap d (.xd fs) := I.hok d _ hd
  obtain ⟨mA, hns, hr⟩ := hx
  obtain ⟨od, ho, hl⟩ := lookIn_ns hns
  exact ⟨oe, od, mA, ⟨e, h1, by unfold PySem.W.notCls; rw [h3], by rw [h2]; exact ho⟩, hr, hl⟩
theorem qattrE {e : Expr} {f : Str} {pos : Pos} {ge : GE} {n : Nat} {fx : Nat → Bool} (he : PE X e (rd p W ge)) (hf : ∀ c, fx c = true → XfC X.K (p.cA c) ∧ PySem.W.findIn X.K (.ref (p.cA c)) f = some none) (hn : p.nm n = f := by rfl) (hab : attributeBase e f X.env (eval e X.env) = eval e X.env := by rfl) (hx : HotX p X := by first | assumption | exact (fun _ _ _ h => nomatch h)) :
    PE X (.Attribute e f pos) (rd p W (gUn (atE n fx) ge)) := by
  refine ⟨fun pins s σ H Q I h => ?_⟩
  refine attr_of hab ?_
  have key := one (W := W) (p := p) (ga := ge) (g := atE n fx) (ta := rd p W ge) (σ := σ) (H := H) (Q := Q) (r := fun x H Q => ∃ G a, Gd p G H ∧ Rp p G.F G.μ a x ∧ PoV p W G σ (atE n fx a G.st) Q) (fun _ _ _ z => z) (fun x H Q z => z) h
  refine thn (he.run pins s σ H _ I key) fun u s1 ⟨x, H1, I1, rx, G, d, gd, r, po⟩ => ?_
  unfold atE at po
  split at po
  · rename_i c ks xs
    split at po
    · rename_i e2 h1 h2
      cases r with
      | @exn a dx _ _ _ fs e1 e3 ek er =>
        obtain rfl : u = Value.ref a := rx
        obtain ⟨T, hno⟩ := hf c h1
        obtain ⟨oe, od, mA, J, hr, hl⟩ := exn_at I1 (exO_of hx gd e1) (gd.le _ _ e3)
        obtain ⟨v, lv, rv⟩ := lk_of ek er h2
        rw [hn] at lv
        obtain ⟨u', hu, ru⟩ := RelO.some_of (v := v) (o := mA f) (by rw [← lv]; exact hr f)
        exact HandSPX.exc_get I1.kIn J T.ga T.gg T.exC (PySem.W.findObj_own T.hdC hno rfl (by rw [hl, hu])) (handed_of ru) ⟨v, H1, I1.tok _, ru, Po.ret po GX.rfl' rfl gd rv⟩
    · exact po.elim
  · exact po.elim
/-! ### isinstance(x, a class), x perhaps an exception -/
def isiX (ans : Ty → Option Bool) (ansE : Nat → Option Bool) (d : DV) (s : Sto) : R DV := match d with
  | .exn c _ _ => match ansE c with
    | some b => .ok (.bl b) s
    | none => .bad
  | d => isiD ans d s
def rIsX (X : Cx) : List V → Hp → VK → Prop := fun xs H Q => rIsi X.K xs H Q ∨ ∃ (a C d : Addr) (fs : List (Str × V)) (c : V) (cv : Value) (b : Bool), xs = [.ref a, c] ∧ ExO X H a C d ∧ H d = some (.xd fs) ∧ ExcC X.K C ∧ (∀ u, RelV c u → u = cv) ∧ PySem.W.kitOne X.K (.ref C) cv = some b ∧ Q (.bl b) H
theorem call_isX : CallR X (.builtin "isinstance") (rIsX X) := by
  intro pins s σ H xs us Q I r h
  rcases h with h | ⟨a, C, d, fs, c, cv, b, rfl, ha, hd, hC, hcv, e, q⟩
  · exact call_isi pins s σ H xs us Q I r h
  · cases r with
    | cons rx rr =>
      cases rr with
      | cons rt rr =>
        cases rr
        cases rx
        have ec := hcv _ rt
        subst ec
        obtain ⟨oe, od, mA, J, hr, hl⟩ := exn_at I ha hd
        have hcl : (PySem.W.clsIn X.K C).isSome = true := by
          obtain ⟨cd, hc, _⟩ := PySem.W.any_some hC.hd
          rw [hc]
          rfl
        exact PySem.W.kia_one (PySem.W.kitx_exc hcl hC.hg hC.hk hC.hs hC.ha hC.hn hC.ht hC.hm) I.kIn J e (fun z => nomatch z) fun tk => ⟨.bl b, H, I.kept (t' := tk) fun _ _ z => z, rfl, q⟩
theorem qisiX {x : Str} {pp pos : Pos} {e c : Expr} {ge : GE} {cv : V} {cu : Value} {ans : Ty → Option Bool} {ansE : Nat → Option Bool} (hm : X.mg x = none) (hg : Gl X x) (hv : bootBuiltins x = some (.builtin "isinstance")) (he : PE X e (rd p W ge)) (hc : PE X c (tC cv)) (hcu : ClsV cv cu) (hK : X.K = p.K)
    (ha : ∀ t b, ans t = some b → PySem.W.kitOne p.K (t.val p) cu = some b ∧ ∀ c, t = .own c → IsC p p.K c) (haE : ∀ c b, ansE c = some b → PySem.W.kitOne p.K (.ref (p.cA c)) cu = some b ∧ ExcC p.K (p.cA c))
    (hn : x ≠ "__name__" := by decide) (hdb : (x == ("__debug__" : Str)) = false := by decide)
    (hse : starEach [e, c] X.env = (false, eval e X.env) :: starEach [c] X.env := by rfl) (hse2 : starEach [c] X.env = (false, eval c X.env) :: starEach [] X.env := by rfl) (hpl : (backTo pos (starEach [c] X.env)).any (·.1) = false := by rfl) (hx : HotX p X := by first | assumption | exact (fun _ _ _ h => nomatch h)) :
    PE X (.Call (.Name x pp) [e, c] [] pos) (rd p W (gUn (isiX ans ansE) ge)) :=
  PE.imp (pe_callB call_isX hg hm hv (pa_cons he (pa_cons hc pa_nil hse2) hse) hn hdb hse hpl) fun σ H Q ⟨G, ρ, gd, en, po⟩ => ⟨G, ρ, gd, en, (Po.bind po).imp fun v H1 ⟨G1, d, x1, gd1, r1, po1⟩ => by
    unfold isiX at po1
    split at po1
    · rename_i k ks xs
      split at po1
      · rename_i b hb
        obtain ⟨h1, h2⟩ := haE _ b hb
        cases r1 with
        | @exn a dx _ _ _ fs e1 e3 ek er =>
          exact .inr ⟨a, p.cA k, dx, fs, cv, cu, b, rfl, exO_of hx gd1 e1, gd1.le _ _ e3, by rw [hK]; exact h2, fun u r => hcu.eq r, by rw [hK]; exact h1, Po.ret po1 GX.rfl' rfl gd1 (.bl _)⟩
      · exact po1.elim
    · unfold isiD at po1
      split at po1
      · rename_i t ht
        split at po1
        · rename_i b hb
          obtain ⟨h1, h2⟩ := ha t b hb
          exact .inl ⟨v, cv, _, cu, b, rfl, hcu, by rw [hK]; exact ty_of gd1 h2 r1 ht, by rw [hK]; exact h1, Po.ret po1 GX.rfl' rfl gd1 (.bl _)⟩
        · exact po1.elim
      · exact po1.elim⟩
/-! ### C(..) -/
abbrev MixE := List DV → List DV → Option (List Nat × List DV)
@[simp] def exnD (c : Nat) (mx : MixE) (l z : List DV) (s : Sto) : R DV := match mx l z with
  | some (ks, xs) => .ok (.exn c ks xs) s
  | none => .bad
@[simp] def gExn (c : Nat) (mx : MixE) (gl gk : GL) : GE := fun ρ s => (gl ρ s).bind fun l s1 => (gk ρ s1).bind fun z s2 => exnD c mx l z s2
/-- what C(..) gives, by data -/
structure ExD (p : Pg) (n m : Nat) (bl : List V → List V → List (Str × V)) (mx : MixE) : Prop where
  ok : ∀ (F : Hp) (μ : List Addr) (l z : List DV) (ks : List Nat) (xs : List DV) (vs zs : List V), Rps p F μ l vs → Rps p F μ z zs → mx l z = some (ks, xs) → vs.length = n ∧ zs.length = m ∧ (bl vs zs).map (·.1) = ks.map p.nm ∧ Rps p F μ xs ((bl vs zs).map (·.2))
theorem exn_run {c n : Nat} {ks : List Str} {bl : List V → List V → List (Str × V)} {mx : MixE} {pins : List (Addr × Obj)} {σ : L2.St} {H : Hp} {s : Shared} {us ws : List Value} {vs zs : List V} {Q : VK} {G : Gh} {l z : List DV} (M : Xq.MkX X (p.cA c) n ks bl) (D : ExD p n ks.length bl mx) (I : Inv X pins σ H s) (ru : Vals vs us) (rw' : Vals zs ws)
    (gd : Gd p G H) (rl : Rps p G.F G.μ l vs) (rz : Rps p G.F G.μ z zs) (po : PoV p W G σ (exnD c mx l z G.st) Q) : wpAny (model X.prog X.w) X.A (call (.ref (p.cA c)) us (ks.zip ws)) (EP X pins σ Q) X.xe s := by
  unfold exnD at po
  split at po
  · rename_i kk xs hm
    obtain ⟨l1, l2, e1, e2⟩ := D.ok _ _ l z kk xs vs zs rl rz hm
    refine M.run I ru rw' l1 l2 fun a d na nd ne => ?_
    have x1 := GX.lay gd (o := .xd (bl vs zs)) nd
    have g1 := gd.lay (o := .xd (bl vs zs)) nd
    have na' : upd H d (.xd (bl vs zs)) a = none := by rw [upd_ne (Ne.symm ne)]; exact na
    have x2 := GX.lay g1 (o := Xq.ExV a (p.cA c) d) na'
    have g2 := g1.lay (o := Xq.ExV a (p.cA c) d) na'
    refine Po.ret po (x1.trans x2) rfl g2 (.exn (dx := d) (fs := bl vs zs) (.inl ?_) ?_ e1 (Rgs.gx e2 (x1.trans x2)))
    · show upd _ a _ a = _
      rw [upd_same]
    · refine x2.f d _ ?_
      show upd _ d _ d = _
      rw [upd_same]
  · exact po.elim
section
variable {x : Str} {pp pos : Pos} {e : Expr} {es : List Expr} {kws : List Keyword} {gl gk : GL} {c n : Nat} {ks : List Str} {bl : List V → List V → List (Str × V)} {mx : MixE}
theorem qexnK (M : Xq.MkX X (p.cA c) n ks bl) (D : ExD p n ks.length bl mx) (hm : X.mg x = some (.ref (p.cA c))) (hg : Gl X x) (ha : PA X (e :: es) (rdL p W gl)) (hkw : PK X kws (rdL p W gk))
    (hall : (backToKw pos (keywordEach kws X.env)).all (·.1.isSome) = true := by rfl) (hks : (backToKw pos (keywordEach kws X.env)).filterMap (·.1) = ks := by rfl) (hdb : (x == ("__debug__" : Str)) = false := by decide)
    (he : starEach (e :: es) X.env = (false, eval e X.env) :: starEach es X.env := by rfl)
    (hpl : ((backTo pos (starEach (e :: es) X.env)).any (·.1) || (backToKw pos (keywordEach kws X.env)).any (·.1.isNone)) = false := by rfl) :
    PE X (.Call (.Name x pp) (e :: es) kws pos) (rd p W (gExn c mx gl gk)) := by
  refine ⟨fun pins s σ H Q I h => ?_⟩
  refine wpAny_Call_Name_kw (ld_glob I hg hm ?_ hdb)
  obtain ⟨G, ρ, gd, en, po⟩ := h
  refine PySem.W.callWith_KW (h₀ := X.base) I.ok.mod.kin M.kC hall (thn (ha.run pos pins s σ H _ I ⟨G, ρ, gd, en, Po.bind po⟩) fun us s1 ⟨vs, H1, I1, r1, G1, l, x1, gd1, rl, po1⟩ => ?_) hpl he
  refine thn (hkw.run pos pins s1 σ H1 _ I1 ⟨G1, ρ, gd1, en.gx x1, Po.bind po1⟩) fun ws s2 ⟨zs, H2, I2, r2, G2, z, x2, gd2, rz, po2⟩ => ⟨I2.kIn, ?_⟩
  rw [hks]
  exact exn_run M D I2 r1 r2 gd2 (Rgs.gx rl x2) rz po2
theorem qexnK0 (M : Xq.MkX X (p.cA c) 0 ks bl) (D : ExD p 0 ks.length bl mx) (hm : X.mg x = some (.ref (p.cA c))) (hg : Gl X x) (hkw : PK X kws (rdL p W gk))
    (hall : (backToKw pos (keywordEach kws X.env)).all (·.1.isSome) = true := by rfl) (hks : (backToKw pos (keywordEach kws X.env)).filterMap (·.1) = ks := by rfl) (hdb : (x == ("__debug__" : Str)) = false := by decide)
    (hpl : ((backTo pos (starEach [] X.env)).any (·.1) || (backToKw pos (keywordEach kws X.env)).any (·.1.isNone)) = false := by rfl) :
    PE X (.Call (.Name x pp) [] kws pos) (rd p W (gExn c mx gNil gk)) := by
  refine ⟨fun pins s σ H Q I h => ?_⟩
  refine wpAny_Call_Name_kw (ld_glob I hg hm ?_ hdb)
  obtain ⟨G, ρ, gd, en, po⟩ := h
  refine PySem.W.callWith_KW0 (h₀ := X.base) I.ok.mod.kin M.kC hall ?_ hpl
  refine thn (hkw.run pos pins s σ H _ I ⟨G, ρ, gd, en, Po.bind po⟩) fun ws s2 ⟨zs, H2, I2, r2, G2, z, x2, gd2, rz, po2⟩ => ⟨I2.kIn, ?_⟩
  rw [hks]
  exact exn_run M D I2 .nil r2 gd2 .nil rz po2
theorem qexnP (M : Xq.MkX X (p.cA c) n [] bl) (D : ExD p n 0 bl mx) (hm : X.mg x = some (.ref (p.cA c))) (hg : Gl X x) (ha : PA X (e :: es) (rdL p W gl))
    (hdb : (x == ("__debug__" : Str)) = false := by decide) (he : starEach (e :: es) X.env = (false, eval e X.env) :: starEach es X.env := by rfl) (hpl : (backTo pos (starEach es X.env)).any (·.1) = false := by rfl) :
    PE X (.Call (.Name x pp) (e :: es) [] pos) (rd p W (gExn c mx gl gNil)) := by
  refine ⟨fun pins s σ H Q I h => ?_⟩
  refine wpAny_Call_Name_kw (ld_glob I hg hm ?_ hdb)
  obtain ⟨G, ρ, gd, en, po⟩ := h
  refine PySem.W.callWith_K (h₀ := X.base) I.ok.mod.kin M.kC (thn (ha.run pos pins s σ H _ I ⟨G, ρ, gd, en, Po.bind po⟩) fun us s1 ⟨vs, H1, I1, r1, G1, l, x1, gd1, rl, po1⟩ => ⟨I1.kIn, ?_⟩) he hpl
  exact exn_run (ks := []) (ws := []) (zs := []) (z := []) M D I1 r1 .nil gd1 rl .nil po1
theorem qexn0 (M : Xq.MkX X (p.cA c) 0 [] bl) (D : ExD p 0 0 bl mx) (hm : X.mg x = some (.ref (p.cA c))) (hg : Gl X x) (hdb : (x == ("__debug__" : Str)) = false := by decide) :
    PE X (.Call (.Name x pp) [] [] pos) (rd p W (gExn c mx gNil gNil)) := by
  refine ⟨fun pins s σ H Q I h => ?_⟩
  refine wpAny_Call_Name_kw (ld_glob I hg hm ?_ hdb)
  obtain ⟨G, ρ, gd, en, po⟩ := h
  exact PySem.W.callWith_K0 I.kIn M.kC (exn_run (ks := []) (ws := []) (zs := []) (z := []) (l := []) (vs := []) M D I .nil .nil gd .nil .nil po)
end
end
end Dq

/-! xs.index(e); all, any. -/
namespace Dq
open PySem PySem.Spec PyProof.Rows L2
section
variable {p : Pg} {X : Cx} {W : WX}
/-- the first place of y -/
def idxF (y : DV) : List DV → Option Nat
  | [] => none
  | x :: xs => match eqF x y with
    | true => some 0
    | false => match idxF y xs with
      | some j => some (j + 1)
      | none => none
@[simp] def listS (s : Sto) : DV → Option (List DV)
  | .lst xs => some xs
  | .wl xs => some xs
  | .mr k => match s[k]? with
    | some (some (.lst xs)) => some xs
    | _ => none
  | _ => none
theorem list_of {G : Gh} {H : Hp} (gd : Gd p G H) {d : DV} {v : V} {xs : List DV} (r : Rp p G.F G.μ d v) (h : listS G.st d = some xs) : ∃ a vs, v = .ref a ∧ SqL p.K H a vs ∧ Rps p G.F G.μ xs vs := by
  cases r with
  | lst e rs => cases h; exact ⟨_, _, rfl, SqL.of (gd.le _ _ e), rs⟩
  | wl e rs => cases h; exact ⟨_, _, rfl, sqL_up gd.le e, rs⟩
  | @mr k a hm =>
    have h : (match G.st[k]? with | some (some (.lst xs)) => some xs | _ => none) = some xs := h
    split at h
    · rename_i ys e
      cases h
      obtain ⟨b, e1, e2, vs, e3, e4⟩ := gd.live _ _ e
      rw [hm] at e1; cases e1
      exact ⟨_, vs, rfl, SqL.of e3, e4⟩
    · cases h
  | _ => cases h
theorem idx_of {F : Hp} {μ : List Addr} {y : DV} {u : V} (ry : Rp p F μ y u) (fy : y.flat = true) : ∀ {xs : List DV} {vs : List V} {j : Nat}, Rps p F μ xs vs → xs.all DV.flat = true → idxF y xs = some j →
    ∃ z, vs[j]? = some z ∧ eqV z u = true ∧ ∀ (m : Nat) (z' : V), m < j → vs[m]? = some z' → eqV z' u = false
  | [], _, _, _, _, h => by cases h
  | x :: xs, _, j, .cons (v := v) (vs := vs) r t, f, h => by
    rw [List.all_cons, Bool.and_eq_true] at f
    have e := eqV_of r ry f.1 fy
    unfold idxF at h
    split at h
    · rename_i q
      cases h
      exact ⟨v, rfl, by rw [e]; exact q, fun m z' hm => absurd hm (Nat.not_lt_zero m)⟩
    · rename_i q
      split at h
      · rename_i i hi
        cases h
        obtain ⟨z, h1, h2, h3⟩ := idx_of ry fy t f.2 hi
        refine ⟨z, h1, h2, fun m z' hm hz => ?_⟩
        cases m with
        | zero =>
          have hz : some v = some z' := hz
          cases hz
          rw [e]
          exact q
        | succ m => exact h3 m z' (by omega) hz
      · cases h
def idxD (o y : DV) (s : Sto) : R DV := match listS s o with
  | some xs => match y.flat && xs.all DV.flat, idxF y xs with
    | true, some j => .ok (.int j) s
    | _, _ => .bad
  | none => .bad
/-- xs.index(e) -/
@[simp] def gIdx (go ge : GE) : GE := fun ρ s => (go ρ s).bind fun o s1 => match listS s1 o with
  | some _ => (ge ρ s1).bind fun y s2 => idxD o y s2
  | none => .bad
theorem qidx {o e : Expr} {go ge : GE} {apos cpos : Pos} (ho : PE X o (rd p W go)) (he : PE X e (rd p W ge)) (hK : X.K = p.K := by rfl)
    (hbase : attributeBase o "index" X.env (eval o X.env) = eval o X.env := by rfl)
    (hfew : ((backTo cpos (starEach [e] X.env)).all (fun x => !x.1) && (backToKw cpos (keywordEach [] X.env)).all (fun x => x.1.isSome)
      && decide ([e].length + ([] : List Keyword).length + (if ([] : List Keyword).isEmpty then 0 else 1) < 30)) = true := by rfl)
    (hline : (apos.endLine == cpos.line) = true := by rfl) (hs : starEach [e] X.env = (false, eval e X.env) :: starEach [] X.env := by rfl) : PE X (.Call (.Attribute o "index" apos) [e] [] cpos) (rd p W (gIdx go ge)) :=
  PE.imp (pe_bm PySem.F.plainAttrs_list PySem.F.slot_list_index PySem.F.type_list_index mt_index ho (pa_cons he pa_nil hs) hbase hfew hline hs rfl) fun σ H Q ⟨G, ρ, gd, en, po⟩ => ⟨G, ρ, gd, en, (Po.bind po).imp fun v H1 ⟨G1, od, x1, gd1, r1, po1⟩ => by
    split at po1
    · rename_i xs0 hx0
      obtain ⟨a, vs, rfl, hq, rs⟩ := list_of gd1 r1 hx0
      refine ⟨.inl ⟨rfl, _, by rw [hK]; exact hq⟩, G1, ρ, gd1, en.gx x1, (Po.bind po1).imp fun u H2 ⟨G2, y, x2, gd2, r2, po2⟩ => ?_⟩
      unfold idxD at po2
      split at po2
      · rename_i xs hx
        split at po2
        · rename_i j c hj
          rw [Bool.and_eq_true] at c
          obtain ⟨b, us, eb, hq2, rs2⟩ := list_of gd2 (Rg.gx r1 x2) hx
          cases eb
          obtain ⟨z, h1, h2, h3⟩ := idx_of r2 c.1 rs2 c.2 hj
          exact ⟨a, us, u, j, z, rfl, rfl, by rw [hK]; exact hq2, flat_of r2 c.1, flats_of rs2 c.2, h1, h2, h3, Po.ret po2 GX.rfl' rfl gd2 (.int _)⟩
        · exact po2.elim
      · exact po2.elim
    · exact po1.elim⟩
/-! ### all, any over a list of truths -/
@[simp] def blsD : List DV → Option (List Bool)
  | [] => some []
  | .bl b :: xs => match blsD xs with
    | some bs => some (b :: bs)
    | none => none
  | _ :: _ => none
theorem bls_of {F : Hp} {μ : List Addr} : ∀ {xs : List DV} {vs : List V} {bs : List Bool}, Rps p F μ xs vs → blsD xs = some bs → vs = bs.map V.bl
  | [], _, _, .nil, h => by cases h; rfl
  | x :: xs, _, bs, .cons r t, h => by
    cases r with
    | bl b =>
      have h : (match blsD xs with | some bs => some (b :: bs) | none => none) = some bs := h
      split at h
      · rename_i cs hc
        cases h
        rw [bls_of t hc]
        rfl
      · cases h
    | _ => cases h
def allD : List DV → Sto → R DV
  | [d], s => match listS s d with
    | some xs => match blsD xs with
      | some bs => .ok (.bl (bs.all id)) s
      | none => .bad
    | none => .bad
  | _, _ => .bad
def anyD : List DV → Sto → R DV
  | [d], s => match listS s d with
    | some xs => match blsD xs with
      | some bs => .ok (.bl (bs.any id)) s
      | none => .bad
    | none => .bad
  | _, _ => .bad
theorem opd_all (hc : X.calm = true) (hK : X.K = p.K) : CallR X (.builtin "all") (rCal p W allD) := CallR.of fun G H σ ds vs Q gd rs po => by
  unfold allD at po
  split at po
  · cases rs with
    | cons r t =>
      cases t
      split at po
      · rename_i xs hx
        split at po
        · rename_i bs hb
          obtain ⟨a, us, rfl, hq, rs⟩ := list_of gd r hx
          have := bls_of rs hb
          subst this
          exact ⟨_, cr_all hc, a, bs, rfl, by rw [hK]; exact hq, Po.ret po GX.rfl' rfl gd (.bl _)⟩
        · exact po.elim
      · exact po.elim
  · exact po.elim
theorem opd_any (hc : X.calm = true) (hK : X.K = p.K) : CallR X (.builtin "any") (rCal p W anyD) := CallR.of fun G H σ ds vs Q gd rs po => by
  unfold anyD at po
  split at po
  · cases rs with
    | cons r t =>
      cases t
      split at po
      · rename_i xs hx
        split at po
        · rename_i bs hb
          obtain ⟨a, us, rfl, hq, rs⟩ := list_of gd r hx
          have := bls_of rs hb
          subst this
          exact ⟨_, cr_any hc, a, bs, rfl, by rw [hK]; exact hq, Po.ret po GX.rfl' rfl gd (.bl _)⟩
        · exact po.elim
      · exact po.elim
  · exact po.elim
end
end Dq

/-! Facts of own exception classes by truth; what a def has of them. -/
namespace Dq
open PySem PySem.Spec PyProof.Rows L2
def xcB (K : PySem.W.Frag) (C : Addr) (B newId initId : String) (T : List Value) : Bool :=
  PySem.W.excInitIn K C T newId && (PySem.W.excOver K C T && (decide (PySem.W.findIn K (.ref C) "__setattr__" = some (some (.builtin "object.__setattr__"))) && (PySem.W.hasDictIn K C && (decide (PySem.W.subIn K (.ref C) (.type B) = some true) &&
  (decide (PySem.W.subIn K (.ref C) (.type "BaseException") = some true) && (decide (PySem.W.typeIn K (.ref C) = some (.type "type")) && (PySem.W.keepIn K (.ref C) && (decide (PySem.W.ks_superIn K C C "__init__" = some (some (.builtin initId))) &&
  (decide (PySem.W.mroIn K C (.ref C) = some true) && (decide (PySem.W.nsIn K cStatics "thirdparty.any" = some none) && (decide (PySem.W.nsIn K mainGlobals "super" = some none) && (PySem.W.clsIn K C).isSome)))))))))))
theorem xcB_ok {K : PySem.W.Frag} {C : Addr} {B newId initId : String} {T : List Value} (b : Xq.XB B newId initId T) (h : xcB K C B newId initId T = true) : Xq.XC K C B newId initId T := by
  unfold xcB at h
  simp only [Bool.and_eq_true] at h
  obtain ⟨h1, h2, h3, h4, h5, h6, h7, h8, h9, h10, h11, h12, h13⟩ := h
  exact ⟨b, h1, h2, of_decide_eq_true h3, h4, of_decide_eq_true h5, of_decide_eq_true h6, of_decide_eq_true h7, h8, of_decide_eq_true h9, of_decide_eq_true h10, of_decide_eq_true h11, of_decide_eq_true h12, h13⟩
/-- the __init__ at f: the file of its code, the class in its closure -/
def xiB (K : PySem.W.Frag) (f C : Addr) (file : Str) : Bool := decide (PySem.W.findIn K (.ref C) "__init__" = some (some (.ref f))) && (decide (PySem.W.typeIn K (.ref f) = some (.type "function")) && (match K.lookup f with
  | some ⟨_, _, .func fd, _⟩ => (match fd.code with
    | .ref c => (match K.lookup c with
      | some ⟨_, _, .fields vs, _⟩ => (match (vs[2]? : Option Value) with
        | some (Value.str y _) => decide (y = file)
        | _ => false)
      | _ => false)
    | _ => false) && (match fd.closure with
    | [(_, cc)] => (match K.lookup cc with
      | some ⟨_, _, .cell (some (.ref D)), _⟩ => decide (D = C)
      | _ => false)
    | _ => false)
  | _ => false))
/-- an __init__ that says super() -/
structure FunX (P : Program) (K : PySem.W.Frag) (C f : Addr) (qual : Str) (params : Arguments) (body : List Stmt) (scope : Scope) : Prop where
  ex : ∃ (kV doc pm : Value) (an : Option Addr) (cda : Addr) (ct : Value) (cc : Addr), Xq.XF P K C f (PySem.W.ksFn "__init__" qual params body scope .none kV doc pm an (.ref cda) ct cc) cda cc ∧ PySem.W.codeIn K (.ref cda) qual = true
  init : PySem.W.findIn K (.ref C) "__init__" = some (some (.ref f))
  fn : PySem.W.typeIn K (.ref f) = some (.type "function")
theorem funX_of {P : Program} {K : PySem.W.Frag} {fn : List DefQ} {ex : PySem.W.Frag → Bool} (c : SaysQ fn ex K) (i : Nat) {d : DefQ} {C : Addr} {file : Str} (h : fn[i]? = some d) (hx : xiB K (d.place K) C file = true) (hf : ((P.main.file : Str) == file) = true) (ht : (P.main.scope.names.lookup ("super" : Str)).isSome = false)
    (hn : d.name = "__init__" := by rfl) (hc : d.clo = (["__class__"] : List Str) := by rfl) (hd : d.dfl = [] := by rfl) : FunX P K C (d.place K) d.qual d.params d.body d.scope := by
  have h1 : (ex K && fn.all fun d => d.ok K) = true := congrArg Prod.fst c
  have h2 : (fn.map fun d => fnQ K (d.place K)) = fn.map DefQ.val := congrArg Prod.snd c
  have ok := List.all_eq_true.mp (Bool.and_eq_true_iff.mp h1).2 d (List.mem_of_getElem? h)
  have e := congrArg (fun l : List FnQ => l[i]?) h2
  simp only [List.getElem?_map, h, Option.map_some, Option.some.injEq] at e
  unfold DefQ.ok at ok
  rw [Bool.and_eq_true] at ok
  obtain ⟨kp, c2⟩ := ok
  unfold xiB at hx
  rw [Bool.and_eq_true, Bool.and_eq_true] at hx
  obtain ⟨x1, x2, x3⟩ := hx
  unfold fnQ at e
  split at e
  · rename_i oc od fd osl hl
    rw [hl] at c2 x3
    simp only [Bool.and_eq_true] at c2 x3
    obtain ⟨k1, k2, k3⟩ := c2
    obtain ⟨x3, x4⟩ := x3
    obtain ⟨n1, n2, n3, n4, n5, n6, n7, n8, n9, n10, n11, n12, n13, n14, n15⟩ := fd
    unfold DefQ.val at e
    simp only [Option.some.injEq, Prod.mk.injEq] at e
    obtain ⟨q1, q2, q3, q4, q5, q6, q7, q8⟩ := e
    rw [hc] at q7
    have k2 := He.dflB_ok k2
    rw [hd] at k2
    rcases k2 with ⟨_, q9⟩ | ⟨z, _⟩
    · subst q1 q2 q3 q4 q5 q6 q8 q9
      simp only at x3 x4 k1
      split at x3
      · rename_i cda
        split at x3
        · rename_i vs sl1 hv
          split at x3
          · rename_i y tk hy
            split at x4
            · rename_i nm cc
              split at x4
              · rename_i D sl2 hD
                have x4 := of_decide_eq_true x4
                subst x4
                have x3 := of_decide_eq_true x3
                subst x3
                have q7 : [nm] = [("__class__" : Str)] := q7
                cases q7
                refine ⟨⟨n9, n10, n11, n12, cda, n14, cc, ⟨⟨oc, od, osl, ?_⟩, ⟨_, _, vs, _, y, tk, hv, hy, hf⟩, ⟨_, _, _, hD⟩, ht⟩, k1⟩, of_decide_eq_true x1, of_decide_eq_true x2⟩
                rw [hl, hn]
              · cases x4
            · cases x4
          · cases x3
        · cases x3
      · cases x3
    · exact absurd rfl z
  · cases e
def excCB (K : PySem.W.Frag) (D : Addr) : Bool := decide (PySem.W.findIn K (.ref D) "__getattribute__" = some (some (.builtin "BaseException.__getattribute__"))) && (decide (PySem.W.findIn K (.ref D) "__getattr__" = some none) && (decide (PySem.W.subIn K (.ref D) (.type "BaseException") = some true) && (PySem.W.hasDictIn K D &&
  (decide (PySem.W.findIn K (.ref D) "__class__" = some (some (.builtin "object.__class__"))) && (decide (PySem.W.specialIn K (.builtin "object.__class__") "__get__" = some (some (.builtin "getset_descriptor.__get__"))) && (decide (PySem.W.takesIn K (.builtin "object.__class__") = some true) && decide (PySem.W.mroIn K D (.type "object") = some true)))))))
theorem excCB_ok {K : PySem.W.Frag} {D : Addr} (h : excCB K D = true) : ExcC K D := by
  unfold excCB at h
  simp only [Bool.and_eq_true] at h
  obtain ⟨h1, h2, h3, h4, h5, h6, h7, h8⟩ := h
  exact ⟨of_decide_eq_true h1, of_decide_eq_true h2, of_decide_eq_true h3, h4, of_decide_eq_true h5, of_decide_eq_true h6, of_decide_eq_true h7, of_decide_eq_true h8⟩
theorem ExcC.xf {K : PySem.W.Frag} {D : Addr} (h : ExcC K D) : XfC K D := ⟨h.hg, h.hk, h.hs, h.hd⟩
/-- what a def has of an own exception class: C(..) of this shape gives bl -/
structure OkE (p : Pg) (P : Program) (w : World) (mg : Str → Option Value) (base : Heap) (c n : Nat) (ks : List Str) (bl : List V → List V → List (Str × V)) : Prop where
  m' : ∀ X : Cx, At X p P w mg base → Room 1 X.A → Xq.MkX X (p.cA c) n ks bl
theorem OkE.m {p : Pg} {P : Program} {w : World} {mg : Str → Option Value} {base : Heap} {c n : Nat} {ks : List Str} {bl : List V → List V → List (Str × V)} {X : Cx} (o : OkE p P w mg base c n ks bl) (hr : Room 1 X.A) (e : At X p P w mg base := by exact ⟨rfl, rfl, rfl, rfl, rfl⟩) : Xq.MkX X (p.cA c) n ks bl := o.m' X e hr
end Dq

/-! raise of an own exception. -/
namespace Dq
open PySem PySem.Spec PyProof.Rows L2
/-- what a def has of an own exception class that is raised -/
structure OkR (p : Pg) (P : Program) (w : World) (mg : Str → Option Value) (base : Heap) (c n : Nat) (ks : List Str) (bl : List V → List V → List (Str × V)) : Prop where
  m' : ∀ X : Cx, At X p P w mg base → Room 1 X.A → Xq.MkR X (p.cA c) n ks bl
  sub : PySem.W.subIn p.K (.ref (p.cA c)) (.type "BaseException") = some true
  ty : PySem.W.typeIn p.K (.ref (p.cA c)) = some (.type "type")
theorem OkR.e {p : Pg} {P : Program} {w : World} {mg : Str → Option Value} {base : Heap} {c n : Nat} {ks : List Str} {bl : List V → List V → List (Str × V)} (o : OkR p P w mg base c n ks bl) : OkE p P w mg base c n ks bl := ⟨fun X e hr => (o.m' X e hr).x⟩
def gRaise (c : Nat) (mx : MixE) (gl gk : GL) : GS := fun ρ s => (gl ρ s).toS ρ fun l s1 => (gk ρ s1).toS ρ fun z s2 => match mx l z with
  | some (ks, xs) => .exc c ks xs ρ s2
  | none => .bad
section
variable {p : Pg} {X : Cx} {W : WX}
/-- how the exception lies -/
def RaiQ (p : Pg) (c : Nat) (mx : MixE) (G : Gh) (l z : List DV) (Q : XK) : Prop := match mx l z with
  | some (ks, xs) => ∀ G' H' d fs, GX G G' → G'.st = G.st → Gd p G' H' → H' d = some (.xd fs) → fs.map (·.1) = ks.map p.nm → Rps p G'.F G'.μ xs (fs.map (·.2)) → Q (.ref (p.cA c)) (some d) H'
  | none => False
def rdR (p : Pg) (W : WX) (c : Nat) (mx : MixE) (gl gk : GL) : L2.St → Hp → XK → Prop := fun σ H Q => ∃ G ρ, Gd p G H ∧ EnR p G ρ σ ∧ PoL p W G σ (gl ρ G.st) (fun vs H1 => ∃ G1 l, GX G G1 ∧ Gd p G1 H1 ∧ Rps p G1.F G1.μ l vs ∧
  PoL p W G1 σ (gk ρ G1.st) (fun zs H2 => ∃ G2 z, GX G1 G2 ∧ Gd p G2 H2 ∧ Rps p G2.F G2.μ z zs ∧ RaiQ p c mx G2 l z Q))
theorem rai_run {c n : Nat} {ks : List Str} {bl : List V → List V → List (Str × V)} {mx : MixE} {pins : List (Addr × Obj)} {σ : L2.St} {H : Hp} {s : Shared} {us ws : List Value} {vs zs : List V} {Q : XK} {G : Gh} {l z : List DV} (M : Xq.MkR X (p.cA c) n ks bl) (h1 : PySem.W.subIn X.K (.ref (p.cA c)) (.type "BaseException") = some true) (h2 : PySem.W.typeIn X.K (.ref (p.cA c)) = some (.type "type")) (D : ExD p n ks.length bl mx) (I : Inv X pins σ H s) (ru : Vals vs us) (rw' : Vals zs ws)
    (gd : Gd p G H) (rl : Rps p G.F G.μ l vs) (rz : Rps p G.F G.μ z zs) (po : RaiQ p c mx G l z Q) : wpAny (model X.prog X.w) X.A (call (.ref (p.cA c)) us (ks.zip ws)) (MkP X pins σ Q) X.xe s := by
  unfold RaiQ at po
  split at po
  · rename_i kk xs hm
    obtain ⟨l1, l2, e1, e2⟩ := D.ok _ _ l z kk xs vs zs rl rz hm
    refine M.p h1 h2 I ru rw' l1 l2 fun d nd => ?_
    have x1 := GX.lay gd (o := .xd (bl vs zs)) nd
    refine po _ _ d (bl vs zs) x1 rfl (gd.lay (o := .xd (bl vs zs)) nd) ?_ e1 (Rgs.gx e2 x1)
    rw [upd_same]
  · exact po.elim
section
variable {x : Str} {pp pos : Pos} {e : Expr} {es : List Expr} {kws : List Keyword} {gl gk : GL} {c n : Nat} {ks : List Str} {bl : List V → List V → List (Str × V)} {mx : MixE}
theorem pmkK (M : Xq.MkR X (p.cA c) n ks bl) (h1 : PySem.W.subIn X.K (.ref (p.cA c)) (.type "BaseException") = some true) (h2 : PySem.W.typeIn X.K (.ref (p.cA c)) = some (.type "type")) (D : ExD p n ks.length bl mx) (hm : X.mg x = some (.ref (p.cA c))) (hg : Gl X x) (ha : PA X (e :: es) (rdL p W gl)) (hkw : PK X kws (rdL p W gk))
    (hall : (backToKw pos (keywordEach kws X.env)).all (·.1.isSome) = true := by rfl) (hks : (backToKw pos (keywordEach kws X.env)).filterMap (·.1) = ks := by rfl) (hdb : (x == ("__debug__" : Str)) = false := by decide)
    (he : starEach (e :: es) X.env = (false, eval e X.env) :: starEach es X.env := by rfl)
    (hpl : ((backTo pos (starEach (e :: es) X.env)).any (·.1) || (backToKw pos (keywordEach kws X.env)).any (·.1.isNone)) = false := by rfl) :
    PMk X (.Call (.Name x pp) (e :: es) kws pos) (rdR p W c mx gl gk) := by
  intro pins s σ H Q I h
  refine wpAny_Call_Name_kw (ld_glob I hg hm ?_ hdb)
  obtain ⟨G, ρ, gd, en, po⟩ := h
  refine PySem.W.callWith_KW (h₀ := X.base) I.ok.mod.kin M.kC hall (thn (ha.run pos pins s σ H _ I ⟨G, ρ, gd, en, po⟩) fun us s1 ⟨vs, H1, I1, r1, G1, l, x1, gd1, rl, po1⟩ => ?_) hpl he
  refine thn (hkw.run pos pins s1 σ H1 _ I1 ⟨G1, ρ, gd1, en.gx x1, po1⟩) fun ws s2 ⟨zs, H2, I2, r2, G2, z, x2, gd2, rz, po2⟩ => ⟨I2.kIn, ?_⟩
  rw [hks]
  exact rai_run M h1 h2 D I2 r1 r2 gd2 (Rgs.gx rl x2) rz po2
theorem pmkK0 (M : Xq.MkR X (p.cA c) 0 ks bl) (h1 : PySem.W.subIn X.K (.ref (p.cA c)) (.type "BaseException") = some true) (h2 : PySem.W.typeIn X.K (.ref (p.cA c)) = some (.type "type")) (D : ExD p 0 ks.length bl mx) (hm : X.mg x = some (.ref (p.cA c))) (hg : Gl X x) (hkw : PK X kws (rdL p W gk))
    (hall : (backToKw pos (keywordEach kws X.env)).all (·.1.isSome) = true := by rfl) (hks : (backToKw pos (keywordEach kws X.env)).filterMap (·.1) = ks := by rfl) (hdb : (x == ("__debug__" : Str)) = false := by decide)
    (hpl : ((backTo pos (starEach [] X.env)).any (·.1) || (backToKw pos (keywordEach kws X.env)).any (·.1.isNone)) = false := by rfl) :
    PMk X (.Call (.Name x pp) [] kws pos) (rdR p W c mx gNil gk) := by
  intro pins s σ H Q I h
  refine wpAny_Call_Name_kw (ld_glob I hg hm ?_ hdb)
  obtain ⟨G, ρ, gd, en, po⟩ := h
  have q0 := po G [] H GX.rfl' rfl gd .nil
  obtain ⟨G1, l, x1, gd1, rl, po1⟩ := q0
  refine PySem.W.callWith_KW0 (h₀ := X.base) I.ok.mod.kin M.kC hall ?_ hpl
  refine thn (hkw.run pos pins s σ H _ I ⟨G1, ρ, gd1, en.gx x1, po1⟩) fun ws s2 ⟨zs, H2, I2, r2, G2, z, x2, gd2, rz, po2⟩ => ⟨I2.kIn, ?_⟩
  rw [hks]
  exact rai_run (us := []) (vs := []) M h1 h2 D I2 .nil r2 gd2 (Rgs.gx rl x2) rz po2
theorem pmkP (M : Xq.MkR X (p.cA c) n [] bl) (h1 : PySem.W.subIn X.K (.ref (p.cA c)) (.type "BaseException") = some true) (h2 : PySem.W.typeIn X.K (.ref (p.cA c)) = some (.type "type")) (D : ExD p n 0 bl mx) (hm : X.mg x = some (.ref (p.cA c))) (hg : Gl X x) (ha : PA X (e :: es) (rdL p W gl))
    (hdb : (x == ("__debug__" : Str)) = false := by decide) (he : starEach (e :: es) X.env = (false, eval e X.env) :: starEach es X.env := by rfl) (hpl : (backTo pos (starEach es X.env)).any (·.1) = false := by rfl) :
    PMk X (.Call (.Name x pp) (e :: es) [] pos) (rdR p W c mx gl gNil) := by
  intro pins s σ H Q I h
  refine wpAny_Call_Name_kw (ld_glob I hg hm ?_ hdb)
  obtain ⟨G, ρ, gd, en, po⟩ := h
  refine PySem.W.callWith_K (h₀ := X.base) I.ok.mod.kin M.kC (thn (ha.run pos pins s σ H _ I ⟨G, ρ, gd, en, po⟩) fun us s1 ⟨vs, H1, I1, r1, G1, l, x1, gd1, rl, po1⟩ => ⟨I1.kIn, ?_⟩) he hpl
  obtain ⟨G2, z, x2, gd2, rz, po2⟩ := po1 G1 [] H1 GX.rfl' rfl gd1 .nil
  exact rai_run (ks := []) (ws := []) (zs := []) M h1 h2 D I1 r1 .nil gd2 (Rgs.gx rl x2) rz po2
theorem pmk0 (M : Xq.MkR X (p.cA c) 0 [] bl) (h1 : PySem.W.subIn X.K (.ref (p.cA c)) (.type "BaseException") = some true) (h2 : PySem.W.typeIn X.K (.ref (p.cA c)) = some (.type "type")) (D : ExD p 0 0 bl mx) (hm : X.mg x = some (.ref (p.cA c))) (hg : Gl X x) (hdb : (x == ("__debug__" : Str)) = false := by decide) :
    PMk X (.Call (.Name x pp) [] [] pos) (rdR p W c mx gNil gNil) := by
  intro pins s σ H Q I h
  refine wpAny_Call_Name_kw (ld_glob I hg hm ?_ hdb)
  obtain ⟨G, ρ, gd, en, po⟩ := h
  obtain ⟨G1, l, x1, gd1, rl, po1⟩ := po G [] H GX.rfl' rfl gd .nil
  obtain ⟨G2, z, x2, gd2, rz, po2⟩ := po1 G1 [] H GX.rfl' rfl gd1 .nil
  exact PySem.W.callWith_K0 I.kIn M.kC (rai_run (ks := []) (ws := []) (zs := []) (us := []) (vs := []) M h1 h2 D I .nil .nil gd2 (Rgs.gx rl x2) rz po2)
theorem sraise {ee : Expr} (hc : X.calm = true) (tk : Takes X W) (h : PMk X ee (rdR p W c mx gl gk)) : PS X (.Raise (some ee) none pos) (rdS p W (gRaise c mx gl gk)) :=
  PS.imp (ps_raise hc tk h) fun D σ H ⟨G, ρ, gd, en, po⟩ => ⟨G, ρ, gd, en, (PoS.of po en).imp fun vs H1 ⟨G1, l, x1, gd1, r1, po1⟩ => ⟨G1, l, x1, gd1, r1, (PoS.of po1 (en.gx x1)).imp fun zs H2 ⟨G2, z, x2, gd2, r2, po2⟩ => ⟨G2, z, x2, gd2, r2, by
    unfold RaiQ
    split
    · rename_i ks xs hm
      rw [hm] at po2
      exact fun G' H' d fs x3 e3 g3 hd hk rs => po2 G' σ H' d fs x3 e3 g3 (((en.gx x1).gx x2).gx x3) hd hk rs
    · rename_i hm
      rw [hm] at po2
      exact po2⟩⟩⟩
end
end
end Dq

/-! try: .. except (C1, C2, C3) as n: .. -/
namespace Tq
open PySem PySem.Spec PyProof.Rows L2
theorem flyZ {B h g : Heap} {l : List Env} {x : Addr} {Z : Obj → Prop} (f : HandSPX.FlyingZ B l x Z h) (k : ∀ b o, h.get? b = some o → g.get? b = some o) : HandSPX.FlyingZ B l x Z g := by
  obtain ⟨y1, y2, y3, o1, w1, t1, o2, w2, q1, q2, q3, q4, q5, q6, q7, q8, q9⟩ := f
  exact ⟨fun b o z => k b o (y1 b o z), y2, y3.of_keeps (fun b o z _ => ⟨o, k b o z, rfl⟩), o1, w1, t1, o2, w2, k _ _ q1, q2, q3, q4, q5, q6, k _ _ q7, q8, q9⟩
/-- the test of a clause: te is looked at in the suite's context, mt tells of a class -/
def Test (X : Cx) (te : Expr) (mt : Value → Option Bool) : Prop := ∀ (x : Addr) (pn pins : List (Addr × Obj)) (s : Shared) (σ : L2.St) (H : Hp) (cls : Value) (b : Bool) (Q : Bool → Shared → Prop) (E : Value → Shared → Prop), Inv (X.suite x pn) pins σ H s →
  PySem.W.Looks (model X.prog X.w) s.heap (typeOf (.ref x)) cls → mt cls = some b → (∀ g, (∀ c o, s.heap.get? c = some o → g.get? c = some o) → Q b { s with heap := g }) →
  wpAny (model X.prog X.w) (X.A.mark (some (.ref x))) (eval te X.env) (fun c s1 => wpAny (model X.prog X.w) (X.A.mark (some (.ref x))) (excMatches (.ref x) c) Q E s1) E s
theorem test3 {X : Cx} {n1 n2 n3 : Str} {c1 c2 c3 : Value} {q1 q2 q3 qt : Pos} {kk : Nat} (h1 : Names X n1 c1) (h2 : Names X n2 c2) (h3 : Names X n3 c3) : Test X (.Tuple [.Name n1 q1, .Name n2 q2, .Name n3 q3] kk qt) (fun cls => PySem.W.exmAny X.K cls [c1, c2, c3]) := by
  intro x pn pins s σ H cls b Q E S LT hb q
  have nm : ∀ {n : Str} {c : Value} {r : Pos} {R : Value → Shared → Prop}, Names X n c → R c s → wpAny (model X.prog X.w) (X.A.mark (some (.ref x))) (eval (.Name n r) X.env) R E s := fun {n c r R} hc z => by
    obtain ⟨hg, hd, hm | ⟨hm, hv, hn⟩⟩ := hc
    · exact ld_glob (X := X.suite x pn) S hg hm z hd
    · exact ld_blt (X := X.suite x pn) S hg hm hv z hn hd
  refine wpAny_Tuple ?_
  refine wpAny_items_cons (nm h1 ?_)
  refine wpAny_items_cons (nm h2 ?_)
  refine wpAny_items_cons (nm h3 ?_)
  refine wpAny_items_nil ⟨by size_fits, ?_⟩
  have up : ∀ d o, s.heap.get? d = some o → (s.heap.push { cls := .type "tuple", data := .seq [c1, c2, c3].toArray }).get? d = some o := fun d o z => Heap.get?_push_of_some _ z
  have r := PySem.W.exm_tup3 (M := model X.prog X.w) (S.kIn.keeps up) (LT.keeps up) (Heap.get?_push_size s.heap rfl) hb
  exact r.here (q _ up)
/-- what is wished of an exception of the body -/
def wTup (mt : Value → Option Bool) (i : Nat) (ts : Addr → Value → Option Addr → TS) (Wout : WX) (D : Ends) : WX := fun cls d σ H =>
  ∃ b, mt cls = some b ∧ (b = true → ∀ x, H x = none → ts x cls d { nx := fun τ G => D.nx (τ.set i none) G, rt := D.rt, bk := fun τ G => D.bk (τ.set i none) G, ct := fun τ G => D.ct (τ.set i none) G } (σ.set i (some (.ref x))) H) ∧ (b = false → Wout cls d σ H)
section
variable {X : Cx} {n : Str} {i : Nat} {te : Expr} {mt : Value → Option Bool} {body suite : List Stmt} {b₀ : Stmt} {pos r : Pos} {tb : WX → TS} {ts : Addr → Value → Option Addr → TS} {Wout : WX}
theorem ps_try_test (hs : X.stack = X.env :: X.outer) (hl : X.env.frame = some X.env.locals) (nd : X.N.Nodup) (hi : X.N[i]? = some n) (kn : X.env.kindOf n = some .local) (ht : Test X te mt) (tk : Takes X Wout)
    (hbody : ∀ (W : WX) (pn : List (Addr × Obj)) (xe : Value → Shared → Prop), Takes (X.tr pn xe) W → PSs (X.tr pn xe) body (tb W))
    (hsuite : ∀ (x : Addr) (ox : Obj) (cls : Value) (d : Option Addr) (pn : List (Addr × Obj)), Zc cls d ox → (∃ fs, ox.data = .fields fs) → PSs (X.suite x ((x, ox) :: pn)) (b₀ :: suite) (ts x cls d)) :
    PS X (.Try body [.ExceptHandler (some te) (some n) (b₀ :: suite) r] [] [] pos) (fun D σ H => tb (wTup mt i ts Wout D) D σ H) := by
  refine ⟨fun pins s σ H D J0 hq0 => ?_⟩
  have okX := J0.ok
  have hA : X.A.frames = some (X.env :: X.outer) := okX.frames.trans (by rw [hs])
  have hloc : Loc X.env.scope n := .inl kn
  refine wpAny_Try_except ?_
  let xe : Value → Shared → Prop := fun v t1 => wpAny (model X.prog X.w) X.A (noteFrame v X.env) (fun _ t2 => wpAny (model X.prog X.w) X.A (setFlight v none) (fun _ t3 =>
    wpAny (model X.prog X.w) X.A (handleBy v X.env [.ExceptHandler (some te) (some n) (b₀ :: suite) r]) (SP X pins D) X.xe t3) X.xe t2) X.xe t1
  have takes : Takes (X.tr (X.pn ++ pins) xe) (wTup mt i ts Wout D) := by
    intro u s2 z
    obtain ⟨x, B, sI, pin2, τ, G, cls, d, rfl, J1, nb, up, sky, nx, eo, ag, b, hb, yes, no⟩ := z
    have J2 : Inv X pins τ G sI := J1.ofTry okX
    have sky2 : Sky B (X.env :: X.outer) x (Zc cls d) X.env.locals s2.heap := by rw [← hs]; exact sky
    show wpAny (model X.prog X.w) X.A (noteFrame (.ref x) X.env) _ _ _
    refine Sky.land Zc.steady hA hl sky2 fun g3 fly3 up3 => ?_
    have at3 : ∀ {g : Heap}, HandSPX.FlyingZ B (X.env :: X.outer) x (Zc cls d) g → sI.heap.UpToSlots g → Inv X pins τ G { s2 with heap := g } := fun {g} f y => J2.landed nb f.1 y eo ag
    have nofr : ∀ {g : Heap} {o : Obj} {fs : Array Value}, g.FunFrames B (X.env :: X.outer) → g.get? x = some o → o.data = .fields fs → x ∉ frs (X.env :: X.outer) := fun {g o fs} ff e dd hm => by
      obtain ⟨_, o2, e2, hnf⟩ := ff.mem hm
      rw [e] at e2
      cases e2
      exact hnf _ dd
    obtain ⟨ox3, fs3, hx3, hz3, hd3⟩ := fly3.there
    have out := nofr fly3.2.2.1 hx3 hd3
    have nL : x ≠ X.env.locals := fun z => out (List.mem_filterMap.mpr ⟨X.env, List.mem_cons_self, by rw [hl, z]⟩)
    have nF : x ∉ X.fs := fun hm => by
      obtain ⟨e, he, q⟩ := List.mem_filterMap.mp hm
      exact out (List.mem_filterMap.mpr ⟨e, List.mem_cons_of_mem _ he, q⟩)
    have S3 := (at3 fly3 (up.trans up3)).suite hx3 hd3 nx nL nF
    refine wpAny_handleBy_cons (codeAny_handlers_test ?_) (fun q => nomatch q)
    have LT : PySem.W.Looks (model X.prog X.w) g3 (typeOf (.ref x)) cls := fun A Q E t k q => wpAny_typeOf_ref (k _ _ hx3) (by rw [hz3.1]; exact q)
    refine ht x _ _ _ τ G cls b _ _ S3 LT hb fun g5 k5 => ?_
    have fly5 := flyZ fly3 k5
    have up5 : sI.heap.UpToSlots g5 := (up.trans up3).trans (Heap.UpToSlots.of_keeps k5)
    cases b with
    | true =>
      refine codeAny_handlers_suite_as ?_
      refine HandSPX.lands_againZ (s := { s2 with heap := g5 }) fly5 fun g6 fly6 up6 => ?_
      have J6 := at3 fly6 (up5.trans up6)
      obtain ⟨ox6, fs6, hx6, hz6, hd6⟩ := fly6.there
      have S6 := J6.suite hx6 hd6 nx nL nF
      refine store_ok (X := X.suite x ((x, ox6) :: (X.pn ++ pins))) (v := .ref x) S6 nd hi hloc rfl (fun s7 S7 => ?_) (.inr kn)
      have after : ∀ {τ8 : L2.St} {G8 : Hp} {t : Shared} {R : Shared → Prop}, Inv (X.suite x ((x, ox6) :: (X.pn ++ pins))) [] τ8 G8 t → (∀ t9, Inv X pins (τ8.set i none) G8 t9 → R t9) →
          wpAny (model X.prog X.w) X.A (do bindName X.env n .none; unbindBehindTheSuite X.env n r) (fun _ t9 => R t9) X.xe t := fun {τ8 G8 t R} S8 hR => gone_ok (S8.unsuite okX) nd hi kn hR
      refine wpAny_mono ((hsuite x ox6 cls d (X.pn ++ pins) hz6 ⟨_, hd6⟩).run [] s7 _ G _ S7 (yes rfl x nx)) (fun fl t8 h8 => ?_) (fun _ _ z => z.elim)
      cases fl with
      | next =>
        obtain ⟨τ8, G8, S8, q8⟩ := h8
        exact after S8 fun t9 J9 => ⟨_, _, J9, q8⟩
      | brk =>
        obtain ⟨τ8, G8, S8, q8⟩ := h8
        exact after S8 fun t9 J9 => ⟨_, _, J9, q8⟩
      | cont =>
        obtain ⟨τ8, G8, S8, q8⟩ := h8
        exact after S8 fun t9 J9 => ⟨_, _, J9, q8⟩
      | ret u =>
        obtain ⟨v8, τ8, G8, S8, r8, q8⟩ := h8
        exact after S8 fun t9 J9 => ⟨_, _, _, J9, r8, q8⟩
    | false =>
      show wpAny _ X.A (handleBy (.ref x) X.env []) _ _ _
      refine wpAny_handleBy_nil ?_
      obtain ⟨k1, k2, k3, o1, w1, t1, o2, w2, e1, e2, e3, e4, er⟩ := id fly5
      unfold PySem.passOn
      refine wpAny_bind (wpAny_field e1 e3 e4 ?_)
      rw [if_neg (show ¬ ((Value.ref t1 == Value.none) = true) from by simp)]
      have last : wpAny (model X.prog X.w) X.A (setFlight (.ref x) X.env.frame) (fun _ t4 => wpAny (model X.prog X.w) X.A (throw (.ref x) : Sem Flow) (SP X pins D) X.xe t4) X.xe { s2 with heap := g5 } := by
        rw [hl]
        refine HandSPX.setFlight_upZ fly5 fun g6 held up6 => wpAny_throw (tk _ _ ?_)
        exact ⟨x, B, sI, pins, τ, G, cls, d, rfl, J2, nb, up5.trans up6, .inr (.inr (by rw [hs]; exact held)), nx, eo, ag, no rfl⟩
      first
        | exact wpAny_bind (wpAny_pure (wpAny_bind last))
        | exact wpAny_bind last
  refine wpAny_mono ((hbody (wTup mt i ts Wout D) (X.pn ++ pins) xe takes).run [] s σ H D (J0.toTry _) hq0) (fun fl t1 h1 => ?_) (fun v t1 hv => hv)
  cases fl with
  | next =>
    obtain ⟨τ, G, J1, q⟩ := h1
    exact wpAny_execs_nil ⟨τ, G, J1.ofTry okX, q⟩
  | brk =>
    obtain ⟨τ, G, J1, q⟩ := h1
    exact ⟨τ, G, J1.ofTry okX, q⟩
  | cont =>
    obtain ⟨τ, G, J1, q⟩ := h1
    exact ⟨τ, G, J1.ofTry okX, q⟩
  | ret u =>
    obtain ⟨v, τ, G, J1, rv, q⟩ := h1
    exact ⟨v, τ, G, J1.ofTry okX, rv, q⟩
end
end Tq

/-! Defs called within an except suite; the suite's data. -/
namespace Tq
open PySem PySem.Spec PyProof.Rows L2 Dq
/-- y is the exception that p calls handled -/
def HotY (p : Pg) (y : Addr × Obj) : Prop := ∃ (c : Nat) (dx : Addr) (fs : Array Value), p.hot = some (y.1, c, dx) ∧ y.2.cls = .ref (p.cA c) ∧ y.2.dict = some dx ∧ y.2.data = .fields fs
theorem HotY.x {p : Pg} {y : Addr × Obj} {X : Cx} (h : HotY p y) (m : y ∈ X.pn) : HotX p X := fun a c dx e => by
  obtain ⟨c1, d1, fs, e1, e2, e3, e4⟩ := h
  rw [e1] at e
  cases e
  exact ⟨y.2, fs, m, e2, e3, e4⟩
/-- a def called within an except suite -/
structure FnS (p : Pg) (P : Program) (w : World) (mg : Str → Option Value) (base : Heap) (k : Nat) (f : Addr) (fd : FuncData) (ps : List Str) (n : Nat) (m : List DV → Sto → R DV) : Prop where
  len : ps.length = n
  run : ∀ (A : Around) (outer : List Env) (s : Shared) (H : Hp) (args : Args) (us : List Value) (vs : List V) (Q : VK) (y : Addr × Obj), HotY p y → L2H.RoomH k A → L2H.PinOk outer H s y → Env0 P w p.K mg base A outer s H → BindsTo s fd args (ps.zip us) → Vals vs us → spD p We0 n m vs H Q (fun _ _ _ => False) →
    codeAny (model P w) A (.call (.ref f) args) (CR CX0 outer P w H s Q (fun _ _ _ => False)) s
theorem fnS_of {p : Pg} {P : Program} {w : World} {mg : Str → Option Value} {base : Heap} {k nN n : Nat} {f : Addr} {fd : FuncData} {x qual : Str} {params : Arguments} {body : List Stmt} {scope : Scope} {dvs : List V} {kws : List (Str × V)} {N ps : List Str} {b : GS} {m : List DV → Sto → R DV}
    (F : FunD p.K x qual params body scope dvs kws f fd) (S : FnScope N ps scope) (hN : N.length = nN) (hp : ps.length = n) (hn : n ≤ nN) (hm : m = run nN n b)
    (h : ∀ (cdv : Value) (A : Around) (outer : List Env) (s : Shared) (H : Hp) (y : Addr × Obj), HotY p y → L2H.RoomH k (A.deeper (envOfC qual scope s.heap.objs.size f cdv)) → PSs (L2H.cxH CX0 P w p.K mg base N qual scope f cdv A outer s H (fun _ _ _ => False) y).nox body (rdS p W0 b)) :
    FnS p P w mg base (k + 1) f fd ps n m := by
  subst hN hp hm
  obtain ⟨oc, od, dV, kV, doc, pm, an, cdv, ct, osl, rfl, lk, hcd, _, _⟩ := F.ex
  refine ⟨rfl, fun A outer s H args us vs Q y hy hr hpin e0 hb r hsp => ?_⟩
  have lv := hsp.1
  have KH : p.K.In s.heap := e0.mod.kin.keeps fun c o z => (e0.bs c o z).1
  have nl : s.heap.NoLimit := e0.mod.nolimit.keeps fun c o z => (e0.bs c o z).1
  refine codeAny_call_function hr.depth (KH _ _ lk) rfl S.co S.gen rfl (PySem.W.codeRec_of KH hcd) (hb _ _ _ _ ?_)
  refine wpAny_newFunctionEnv_cells S.kind (fun ⟨n1, v1⟩ hz => ?_) fun env he t x => ?_
  · rcases S.par n1 (List.of_mem_zip hz).1 with q | q
    · exact .inl q
    · exact .inr ⟨q, PySem.W.cellsFrom_some _ _ _ (.inl q)⟩
  · subst he
    refine ⟨nl.keeps x.toInCall.keep, codeAny_func ?_⟩
    have J := (L2H.inv_startH (CX := CX0) (E := fun _ _ _ => False) S hpin e0 lv r x)
    refine wpAny_mono ((h cdv A outer s H y hy (hr.deeper _)).run [] t (L2.start N vs) H _ (J.wish (fun _ _ => False)) (body_of (We := We0) (fun _ _ _ _ _ _ z => z) hn hsp)) (fun fl t2 h2 => ?_) fun e t2 z => z.elim
    cases fl with
    | ret u =>
      obtain ⟨v, τ, G, J2, rv, q⟩ := h2
      exact ⟨v, G, J2.os, J2.bare, J2.base, J2.hok, rv, q⟩
    | next =>
      obtain ⟨τ, G, J2, q⟩ := h2
      exact ⟨.non, G, J2.os, J2.bare, J2.base, J2.hok, rfl, q⟩
    | brk =>
      obtain ⟨_, _, _, q⟩ := h2
      exact q.elim
    | cont =>
      obtain ⟨_, _, _, q⟩ := h2
      exact q.elim
section
variable {p : Pg} {X : Cx} {x : Str} {q pos : Pos} {e : Expr} {es : List Expr} {gl : GL} {f : Addr} {fd : FuncData} {ps : List Str} {n k : Nat} {m : List DV → Sto → R DV} {y : Addr × Obj}
/-- x(e, ..) in the suite -/
theorem qcallS (F : FnS p X.prog X.w X.mg X.base k f fd ps n m) (hK : X.K = p.K) (hy : HotY p y) (my : y ∈ X.pn) (hr : L2H.RoomH k X.A) (hg : Gl X x) (hm : X.mg x = some (.ref f)) (hk : PySem.W.keepIn X.K (.ref f) = true) (hb : Binds X.K fd ps [])
    (hl : ∀ ds s, ds.length ≠ n → m ds s = .bad) (ha : PA X (e :: es) (rdL p W0 gl)) (hdb : (x == ("__debug__" : Str)) = false := by decide) (he : starEach (e :: es) X.env = (false, eval e X.env) :: starEach es X.env := by rfl) (hpl : (backTo pos (starEach es X.env)).any (·.1) = false := by rfl) :
    PE X (.Call (.Name x q) (e :: es) [] pos) (rd p W0 (gCall m [] gl)) := by
  refine ⟨fun pins s σ H Q I h => ?_⟩
  obtain ⟨G, ρ, gd, en, po⟩ := h
  refine wpAny_Call_Name_kw (ld_glob I hg hm ?_ hdb)
  refine PySem.W.callWith_K (h₀ := X.base) I.ok.mod.kin hk (thn (ha.run pos pins s σ H _ I ⟨G, ρ, gd, en, Po.bind po⟩) fun us t ⟨vs, H1, I1, r1, G1, l, x1, gd1, rl, po1⟩ => ⟨I1.kIn, ?_⟩) he hpl
  have sp1 : spD p We0 n m vs H1 Q (fun _ _ _ => False) := sp_of (E := fun _ _ _ => False) (We := We0) (W := W0) hl (fun _ _ _ _ z => z) gd1 rl (by rw [List.append_nil] at po1; exact po1)
  have lu : us.length = ps.length := by rw [← r1.length, F.len]; exact sp1.1
  have b := hb t us I1.kIn (by rw [List.append_nil]; exact lu)
  rw [List.append_nil] at b
  have P1 := I1.pin y (List.mem_append_left _ my)
  have pin : L2H.PinOk X.stack H1 t y := ⟨P1.1, P1.2.1, fun z => (List.mem_cons.mp (I1.stkSub y.1 z)).elim P1.2.2.1 P1.2.2.2.1, P1.2.2.2.2⟩
  refine wpAny_call (codeAny_mono (F.run X.A X.stack t H1 ⟨us, []⟩ us vs Q y hy hr pin (by rw [← hK]; exact I1.env0) b r1 sp1) fun r t2 h2 => ?_)
  cases r with
  | error z => exact (show False from h2).elim
  | ok fl =>
    cases fl with
    | ret u => exact I1.after h2
    | next => exact False.elim h2
    | brk => exact False.elim h2
    | cont => exact False.elim h2
end
end Tq

/-! try by data. -/
namespace Dq
open PySem PySem.Spec PyProof.Rows L2
abbrev modP (p : Pg) (h : Option (Addr × Nat × Addr)) (a : Option (Addr × Addr × Str × Hp × List Addr)) : Pg := { p with hot := h, ask := a }
abbrev hotP (p : Pg) (x : Addr) (c : Nat) (dx : Addr) : Pg := modP p (some (x, c, dx)) p.ask
mutual
/-- no exception in it -/
def xfree : DV → Bool
  | .lst xs => xfrees xs
  | .wl xs => xfrees xs
  | .tup xs => xfrees xs
  | .ins _ _ xs => xfrees xs
  | .exn _ _ _ => false
  | .fn _ => false
  | _ => true
def xfrees : List DV → Bool
  | [] => true
  | x :: xs => xfree x && xfrees xs
end
def xfreeO : Option MO → Bool
  | some (.lst xs) => xfrees xs
  | some (.ins _ _ xs) => xfrees xs
  | none => true
def xfreeE : Option DV → Bool
  | some d => xfree d
  | none => true
section
variable {p : Pg} {hh : Option (Addr × Nat × Addr)} {aa : Option (Addr × Addr × Str × Hp × List Addr)}
mutual
theorem Rp.heat (h1 : ∀ z, p.hot = some z → hh = some z) (h2 : ∀ z, p.ask = some z → aa = some z) {F : Hp} {μ : List Addr} : ∀ (d : DV) (v : V), Rp p F μ d v → Rp (modP p hh aa) F μ d v
  | .non, _, .non => .non
  | .bl b, _, .bl _ => .bl b
  | .int i, _, .int _ => .int i
  | .str z, _, .str _ => .str z
  | .lst xs, _, .lst h r => .lst h (Rps.heat h1 h2 xs _ r)
  | .wl xs, _, .wl h r => .wl h (Rps.heat h1 h2 xs _ r)
  | .tup xs, _, .tup h r => .tup h (Rps.heat h1 h2 xs _ r)
  | .ins _ _ xs, _, .ins h e r => .ins h e (Rps.heat h1 h2 xs _ r)
  | .mr _, _, .mr h => .mr h
  | .exn _ _ xs, _, .exn h h3 e r => .exn (h.imp id (h1 _)) h3 e (Rps.heat h1 h2 xs _ r)
  | .fn _, _, .fn e e2 e3 e4 e5 => .fn (h2 _ e) e2 e3 e4 e5
  | .cls c, _, .cls _ => .cls c
  | .lam _, _, .lam e h3 h4 h5 => .lam e h3 h4 h5
theorem Rps.heat (h1 : ∀ z, p.hot = some z → hh = some z) (h2 : ∀ z, p.ask = some z → aa = some z) {F : Hp} {μ : List Addr} : ∀ (ds : List DV) (vs : List V), Rps p F μ ds vs → Rps (modP p hh aa) F μ ds vs
  | [], _, .nil => .nil
  | d :: ds, _, .cons r t => .cons (Rp.heat h1 h2 d _ r) (Rps.heat h1 h2 ds _ t)
end
mutual
theorem Rp.cool {F : Hp} {μ : List Addr} : ∀ (d : DV) (v : V), xfree d = true → Rp (modP p hh aa) F μ d v → Rp p F μ d v
  | .non, _, _, .non => .non
  | .bl b, _, _, .bl _ => .bl b
  | .int i, _, _, .int _ => .int i
  | .str z, _, _, .str _ => .str z
  | .lst xs, _, f, .lst h r => .lst h (Rps.cool xs _ (by unfold xfree at f; exact f) r)
  | .wl xs, _, f, .wl h r => .wl h (Rps.cool xs _ (by unfold xfree at f; exact f) r)
  | .tup xs, _, f, .tup h r => .tup h (Rps.cool xs _ (by unfold xfree at f; exact f) r)
  | .ins _ _ xs, _, f, .ins h e r => .ins h e (Rps.cool xs _ (by unfold xfree at f; exact f) r)
  | .mr _, _, _, .mr h => .mr h
  | .exn _ _ xs, _, f, _ => by unfold xfree at f; cases f
  | .fn _, _, f, _ => by unfold xfree at f; cases f
  | .cls c, _, _, .cls _ => .cls c
  | .lam _, _, _, .lam e h3 h4 h5 => .lam e h3 h4 h5
theorem Rps.cool {F : Hp} {μ : List Addr} : ∀ (ds : List DV) (vs : List V), xfrees ds = true → Rps (modP p hh aa) F μ ds vs → Rps p F μ ds vs
  | [], _, _, .nil => .nil
  | d :: ds, _, f, .cons r t => by
    unfold xfrees at f
    rw [Bool.and_eq_true] at f
    exact .cons (Rp.cool d _ f.1 r) (Rps.cool ds _ f.2 t)
end
theorem Gd.heat (h1 : ∀ z, p.hot = some z → hh = some z) (h2 : ∀ z, p.ask = some z → aa = some z) {G : Gh} {H : Hp} (g : Gd p G H) : Gd (modP p hh aa) G H :=
  ⟨g.le, g.len, fun k m e => by
    obtain ⟨a, e1, e2, e3⟩ := g.live k m e
    refine ⟨a, e1, e2, ?_⟩
    cases m with
    | lst xs => obtain ⟨vs, q1, q2⟩ := e3; exact ⟨vs, q1, Rps.heat h1 h2 _ _ q2⟩
    | ins c ks xs => obtain ⟨dx, fs, q1, q2, q3⟩ := e3; exact ⟨dx, fs, q1, q2, Rps.heat h1 h2 _ _ q3⟩, g.all, g.inj, g.tb⟩
theorem Gd.cool {G : Gh} {H : Hp} (g : Gd (modP p hh aa) G H) (f : G.st.all xfreeO = true) : Gd p G H :=
  ⟨g.le, g.len, fun k m e => by
    obtain ⟨a, e1, e2, e3⟩ := g.live k m e
    have fm : xfreeO (some m) = true := List.all_eq_true.mp f _ (List.mem_of_getElem? e)
    refine ⟨a, e1, e2, ?_⟩
    cases m with
    | lst xs => obtain ⟨vs, q1, q2⟩ := e3; exact ⟨vs, q1, Rps.cool _ _ fm q2⟩
    | ins c ks xs => obtain ⟨dx, fs, q1, q2, q3⟩ := e3; exact ⟨dx, fs, q1, q2, Rps.cool _ _ fm q3⟩, g.all, g.inj, g.tb⟩
theorem EnR.heat (h1 : ∀ z, p.hot = some z → hh = some z) (h2 : ∀ z, p.ask = some z → aa = some z) {G : Gh} {ρ : En} {σ : L2.St} (e : EnR p G ρ σ) : EnR (modP p hh aa) G ρ σ := ⟨e.len, fun i d h => let ⟨v, a, b⟩ := e.at_ i d h; ⟨v, a, Rp.heat h1 h2 _ _ b⟩⟩
theorem EnR.cool {G : Gh} {ρ : En} {σ : L2.St} (e : EnR (modP p hh aa) G ρ σ) (f : ρ.all xfreeE = true) : EnR p G ρ σ := ⟨e.len, fun i d h => by
  obtain ⟨v, a, b⟩ := e.at_ i d h
  have fd : xfreeE (some d) = true := List.all_eq_true.mp f _ (List.mem_of_getElem? h)
  exact ⟨v, a, Rp.cool _ _ fd b⟩⟩
theorem EnR.wipe1 {G : Gh} {ρ : En} {σ : L2.St} (e : EnR p G ρ σ) (i : Nat) : EnR p G (ρ.set i none) (σ.set i none) := ⟨by rw [List.length_set, List.length_set]; exact e.len, fun j d h => by
  by_cases q : i = j
  · subst q
    by_cases l : i < ρ.length
    · rw [List.getElem?_set_self l] at h
      cases h
    · rw [List.getElem?_eq_none (by rw [List.length_set]; omega)] at h
      cases h
  · rw [List.getElem?_set_ne q] at h ⊢
    exact e.at_ j d h⟩
/-- the dict of an exception is known -/
theorem Gd.know {G : Gh} {H : Hp} (g : Gd p G H) {d : Addr} {fs : List (Str × V)} (h : H d = some (.xd fs)) : GX G (G.lay d (.xd fs)) ∧ Gd p (G.lay d (.xd fs)) H := by
  have up : ∀ a o, G.F a = some o → upd G.F d (.xd fs) a = some o := fun a o e => by
    by_cases q : a = d
    · subst q
      have := g.le _ _ e
      rw [h] at this
      cases this
      exact upd_same
    · rw [upd_ne q]
      exact e
  have x1 : GX G (G.lay d (.xd fs)) := ⟨up, fun _ _ e => e⟩
  refine ⟨x1, fun a o e => ?_, g.len, fun k m e => ?_, g.all, g.inj, g.tb.tabs, fun a o e => ?_, g.tb.noM⟩
  · have e : upd G.F d (.xd fs) a = some o := e
    by_cases q : a = d
    · subst q
      rw [upd_same] at e
      cases e
      exact h
    · rw [upd_ne q] at e
      exact g.le a o e
  · obtain ⟨a, e1, e2, e3⟩ := g.live k m e
    have na : a ≠ d := fun z => by
      subst z
      rw [h] at e3
      cases m with
      | lst xs => obtain ⟨vs, q, _⟩ := e3; cases q
      | ins c ks xs => obtain ⟨dx, fs, q, _⟩ := e3; cases q
    refine ⟨a, e1, ?_, e3.gx x1⟩
    show upd G.F d (.xd fs) a = none
    rw [upd_ne na]
    exact e2
  · have e : upd G.F d (.xd fs) a = some o := e
    by_cases q : a = d
    · subst q
      rw [upd_same] at e
      cases e
      exact fun _ z => nomatch z
    · rw [upd_ne q] at e
      exact g.tb.noF a o e
end
/-- what is left of the suite's end -/
def suiteD (i : Nat) : RS → RS
  | .rt d s => match xfree d && s.all xfreeO with
    | true => .rt d s
    | false => .bad
  | .nx ρ s => match (ρ.set i none).all xfreeE && s.all xfreeO with
    | true => .nx (ρ.set i none) s
    | false => .bad
  | _ => .bad
def gTry (mt : Nat → Option Bool) (i : Nat) (gb gs : GS) : GS := fun ρ s => match gb ρ s with
  | .exc c ks xs ρ1 s1 => match mt c with
    | some true => suiteD i (gs (ρ1.set i (some (.exn c ks xs))) s1)
    | some false => .exc c ks xs ρ1 s1
    | none => .bad
  | r => r
section
variable {p : Pg} {X : Cx} {W : WX} {n : Str} {i : Nat} {te : Expr} {mt : Value → Option Bool} {mtD : Nat → Option Bool} {body suite : List Stmt} {b₀ : Stmt} {pos r : Pos} {gb gs : GS}
theorem stry (hp : p.hot = none) (hs : X.stack = X.env :: X.outer) (hl : X.env.frame = some X.env.locals) (nd : X.N.Nodup) (hi : X.N[i]? = some n) (kn : X.env.kindOf n = some .local) (ht : Tq.Test X te mt) (hmt : ∀ c b, mtD c = some b → mt (.ref (p.cA c)) = some b) (tk : Takes X W)
    (hbody : ∀ (W' : WX) (pn : List (Addr × Obj)) (xe : Value → Shared → Prop), Takes (X.tr pn xe) W' → PSs (X.tr pn xe) body (rdS p W' gb))
    (hsuite : ∀ (x : Addr) (ox : Obj) (c : Nat) (dx : Addr) (pn : List (Addr × Obj)), Tq.HotY (hotP p x c dx) (x, ox) → PSs (X.suite x ((x, ox) :: pn)) (b₀ :: suite) (rdS (hotP p x c dx) W0 gs)) :
    PS X (.Try body [.ExceptHandler (some te) (some n) (b₀ :: suite) r] [] [] pos) (rdS p W (gTry mtD i gb gs)) := by
  refine PS.imp (Tq.ps_try_test (tb := fun W' => rdS p W' gb) (ts := fun x cls d D σ H => ∃ (c : Nat) (dx : Addr), cls = .ref (p.cA c) ∧ d = some dx ∧ rdS (hotP p x c dx) W0 gs D σ H) hs hl nd hi kn ht tk hbody (fun x ox cls d pn hz hd => ⟨fun pins s σ H D I h => ?_⟩)) fun D σ H h => ?_
  · obtain ⟨c, dx, rfl, rfl, h⟩ := h
    obtain ⟨fs, hd⟩ := hd
    exact (hsuite x ox c dx pn ⟨c, dx, fs, rfl, hz.1, hz.2, hd⟩).run pins s σ H D I h
  · obtain ⟨G, ρ, gd, en, po⟩ := h
    refine ⟨G, ρ, gd, en, ?_⟩
    unfold gTry at po
    cases eb : gb ρ G.st with
    | nx ρ1 s1 => rw [eb] at po; exact po
    | rt d s1 => rw [eb] at po; exact po
    | bk ρ1 s1 => rw [eb] at po; exact po
    | ct ρ1 s1 => rw [eb] at po; exact po
    | bad => rw [eb] at po; exact po
    | exc c ks xs ρ1 s1 =>
      rw [eb] at po
      intro G1 σ1 H1 d fs x1 e1 g1 en1 hd hk rs
      subst e1
      have po : PoS p W G D (match mtD c with
        | some true => suiteD i (gs (ρ1.set i (some (.exn c ks xs))) G1.st)
        | some false => .exc c ks xs ρ1 G1.st
        | none => .bad) := po
      cases em : mtD c with
      | none => rw [em] at po; exact po.elim
      | some b =>
        rw [em] at po
        refine ⟨b, hmt c b em, fun hb x nx => ?_, fun hb => ?_⟩
        · subst hb
          have po : PoS p W G D (suiteD i (gs (ρ1.set i (some (.exn c ks xs))) G1.st)) := po
          obtain ⟨x2, g2⟩ := g1.know hd
          have hp' : ∀ z, p.hot = some z → some (x, c, d) = some z := fun z e => by rw [hp] at e; cases e
          refine ⟨c, d, rfl, rfl, _, ρ1.set i (some (.exn c ks xs)), g2.heat hp' (fun _ z => z), ((en1.gx x2).heat hp' fun _ z => z).set (.exn (.inr rfl) ?_ hk (Rps.heat hp' (fun _ z => z) _ _ (Rgs.gx rs x2))) i, ?_⟩
          · show upd G1.F d (.xd fs) d = _
            rw [upd_same]
          · have e9 : (G1.lay d (HO.xd fs)).st = G1.st := rfl
            rw [e9]
            cases eg : gs (ρ1.set i (some (.exn c ks xs))) G1.st with
            | rt d2 s2 =>
              rw [eg] at po
              intro G3 v H3 x3 e3 g3 r3
              subst e3
              unfold suiteD at po
              split at po
              · cases ‹RS.rt d2 G3.st = RS.rt _ _›
                split at po
                · rename_i ff
                  rw [Bool.and_eq_true] at ff
                  exact po G3 v H3 ((x1.trans x2).trans x3) rfl (g3.cool ff.2) (Rp.cool _ _ ff.1 r3)
                · exact po.elim
              · rename_i z; cases z
              · rename_i z1 z2; exact absurd rfl (z1 _ _)
            | nx ρ2 s2 =>
              rw [eg] at po
              intro G3 σ3 H3 x3 e3 g3 en3
              subst e3
              unfold suiteD at po
              split at po
              · rename_i z; cases z
              · cases ‹RS.nx ρ2 G3.st = RS.nx _ _›
                split at po
                · rename_i ff
                  rw [Bool.and_eq_true] at ff
                  exact po G3 _ H3 ((x1.trans x2).trans x3) rfl (g3.cool ff.2) ((en3.wipe1 i).cool ff.1)
                · exact po.elim
              · rename_i z1 z2; exact absurd rfl (z2 _ _)
            | bk ρ2 s2 => rw [eg] at po; exact po.elim
            | ct ρ2 s2 => rw [eg] at po; exact po.elim
            | exc c2 ks2 xs2 ρ2 s2 => rw [eg] at po; exact po.elim
            | bad => rw [eg] at po; exact po.elim
        · subst hb
          have po : PoS p W G D (.exc c ks xs ρ1 G1.st) := po
          exact po G1 σ1 H1 d fs x1 rfl g1 en1 hd hk rs
end
end Dq

/-! A lambda without parameters handed to a def. -/
namespace Tq
open PySem PySem.Spec PyProof.Rows L2 LamX
section
variable {X : Cx} {pins : List (Addr × Obj)} {σ : L2.St} {H : Hp} {s : Shared}
/-- a(): the def that got the lambda calls it; what leaves it, leaves at the caller's own slots -/
theorem askAt {CXg : CXT} {Eg : XK} {Ng : List Str} {qg : Str} {sg : Scope} {g f c : Addr} {cdg pm ctv : Value} {params : Arguments} {body : Expr} {scope : Scope} {k i : Nat} {a : Str} {pn : List (Addr × Obj)} {xe : Value → Shared → Prop} {W : WX} {t : XK → TE} {r1 r2 : Pos}
    (I : Inv X pins σ H s) (L : LamS X.env.scope scope) (of : s.heap.get? f = some (PySem.W.kla_obj "<lambda>" (X.env.qual ++ "<lambda>") params body scope (cloFrom X.env.cells scope.names []) pm c ctv)) (nf : H f = none) (nfr : f ∉ frs X.stack)
    (bnd : bindArgs (PySem.W.kla_fn "<lambda>" (X.env.qual ++ "<lambda>") params body scope (cloFrom X.env.cells scope.names []) pm (.ref c) ctv) ⟨[], []⟩ = pure [])
    (tk : Takes ((cxOf CXg X.prog X.w X.K X.mg X.base Ng qg sg g cdg X.A X.stack s H Eg).tr pn xe) W) (room : Room (k + 1) (X.A.deeper (envOfC qg sg s.heap.objs.size g cdg)))
    (run : ∀ (A : Around) (outer : List Env) (u : Shared) (G : Hp) (E : XK), Room k (A.deeper (lamEnv X scope u.heap.objs.size f c)) → PE (lamCx X A outer u G E scope f c) body (t E))
    (hN : Ng[i]? = some a) (hv : Vis sg a) (hd : (a == ("__debug__" : Str)) = false) (hcd : (a == ("__classdict__" : Str)) = false) :
    PE ((cxOf CXg X.prog X.w X.K X.mg X.base Ng qg sg g cdg X.A X.stack s H Eg).tr pn xe) (.Call (.Name a r1) [] [] r2)
      (fun τ G Q => τ[i]? = some (some (.ref f)) ∧ G c = some (CodeO c (X.env.qual ++ "<lambda>")) ∧ t (WE W τ) σ G Q) := by
  refine ⟨fun pinsZ u0 τ G Q J h => ?_⟩
  obtain ⟨h1, h2, h3⟩ := h
  refine wpAny_Call_Name_kw (thn ((pe_var (pos := r1) (i := i) hN hv hd hcd).run pinsZ u0 τ G (fun v G1 => v = .ref f ∧ G1 = G) J ⟨.ref f, h1, rfl, rfl⟩) fun w1 u1 ⟨v, G1, J1, rv, ev, eG⟩ => ?_)
  subst ev
  subst eG
  obtain rfl : w1 = Value.ref f := rv
  have of1 := J1.base.keep f _ of nf nfr (fun z => nomatch (show f ∈ ([] : List Addr) from z))
  refine PySem.W.callWith_F0 ⟨_, _, _, _, of1⟩ ?_
  obtain ⟨⟨oc, vs, tk1, hoc, hdc, hvc⟩, _, _⟩ := J1.hok c _ h2
  refine wpAny_call (codeAny_mono (show codeAny (model X.prog X.w) (X.A.deeper (envOfC qg sg s.heap.objs.size g cdg)) (.call (.ref f) ⟨[], []⟩) (CR (L2.CX X.prog X.w) (envOfC qg sg s.heap.objs.size g cdg :: X.stack) X.prog X.w G1 u1 Q (WE W τ)) u1 from ?_) fun r u2 hq => ?_)
  · refine PySem.W.kla_callFunE room.depth of1 rfl L.co L.gen rfl ⟨c, oc, vs, tk1, rfl, hoc, hdc, hvc⟩ ?_
    rw [bnd]
    refine wpAny_pure (wpAny_newFunctionEnv (fun y hy => (L.own y hy).2) (fun y hy => absurd hy (by simp)) (fun g1 ns same => ⟨J1.nolimit.fresh _ same, ?_⟩) L.kind)
    show codeAny _ _ (.expr body (lamEnv X scope u1.heap.objs.size f c)) _ _
    have J2 := lam_start2 (A := X.A.deeper (envOfC qg sg s.heap.objs.size g cdg)) (E := WE W τ) (f := f) (c' := c) (tk := u1.toks + ([] : List (Str × Value)).length) I L J1.env0 room.hd J1.base ns (fun b o e => same.extBut b o (Nat.ne_of_lt (Heap.lt_size e)) (Heap.get?_push_of_some _ e))
    refine PySem.W.kla_codeExpr (wpAny_mono ((run _ _ u1 G1 (WE W τ) (room.deeper _)).run [] _ _ G1 Q J2 h3) (fun v2 u2 ⟨y, G2, J3, ry, q⟩ => ⟨y, G2, J3.os, J3.bare, J3.base, J3.hok, ry, q⟩) fun e u2 he => he)
  · cases r with
    | error e => exact passAt tk τ pinsZ G1 u1 e u2 J1 hq
    | ok fl =>
      cases fl with
      | ret y => exact J1.after hq
      | next => exact False.elim hq
      | brk => exact False.elim hq
      | cont => exact False.elim hq
end
section
variable {X : Cx}
/-- x(lambda: ..): go runs x at the object that is made -/
theorem pe_lam {T : List (Addr × Str)} {TT : L2.St → Hp → VK → Prop} {x : Str} {g c P : Addr} {params : Arguments} {body : Expr} {scope : Scope} {p1 lpos pos : Pos} (hg : Gl X x) (hm : X.mg x = some (.ref g)) (hk : PySem.W.keepIn X.K (.ref g) = true)
    (TB : TabB X.base X.mg c P) (hcode : X.env.code = .ref c) (hmT : (P, X.env.qual ++ "<lambda>") ∈ T) (hu : ∀ y ∈ T, y.1 = P → y.2 = X.env.qual ++ "<lambda>") (L : LamS X.env.scope scope) (hdef : defaultsOf params X.env = ([], []))
    (go : ∀ (pins : List (Addr × Obj)) (s : Shared) (σ : L2.St) (G : Hp) (Q : VK) (f d : Addr) (pm ctv : Value), Inv X pins σ G s → s.heap.get? f = some (PySem.W.kla_obj "<lambda>" (X.env.qual ++ "<lambda>") params body scope (cloFrom X.env.cells scope.names []) pm d ctv) → G f = none → f ∉ frs X.stack → G d = some (CodeO d (X.env.qual ++ "<lambda>")) →
      TT σ G Q → codeAny (model X.prog X.w) X.A (.call (.ref g) ⟨[.ref f], []⟩) (CR CX0 X.stack X.prog X.w G s Q (fun _ _ _ => False)) s)
    (hdb : (x == ("__debug__" : Str)) = false := by decide) : PE X (.Call (.Name x p1) [.Lambda params body scope lpos] [] pos) (fun σ H Q => Tabs T H ∧ ∀ G, ExtN H G → Tabs T G → TT σ G Q) := by
  refine ⟨fun pins s σ H Q I h => ?_⟩
  obtain ⟨t1, h2⟩ := h
  refine wpAny_Call_Name_kw (ld_glob I hg hm ?_ hdb)
  refine PySem.W.callWith_K (h₀ := X.base) I.ok.mod.kin hk ?_ (by rfl) (by rfl)
  show wpAny _ _ (spliced ((false, eval (.Lambda params body scope lpos) X.env) :: backTo pos (starEach [] X.env))) _ _ s
  refine Calls.spliced_cons (lam_make2 I TB hcode hmT hu t1 hdef (L.has I.ok) fun f d pm ctv G u J eN tG of nf nfr hd => ?_)
  refine Calls.spliced_nil ⟨J.kIn, wpAny_call (codeAny_mono (go pins u σ G Q f d pm ctv J of nf nfr hd (h2 G eN tG)) fun r u2 hq => ?_)⟩
  cases r with
  | error e => exact (show False from hq).elim
  | ok fl =>
    cases fl with
    | ret y => exact J.after hq
    | next => exact False.elim hq
    | brk => exact False.elim hq
    | cont => exact False.elim hq
end
end Tq

/-! A lambda handed to a def, by data. -/
namespace Dq
open PySem PySem.Spec PyProof.Rows L2 LamX
section
variable {p : Pg}
/-- an object that stands is known -/
theorem Gd.knowC {G : Gh} {H : Hp} (g : Gd p G H) {d : Addr} {q : Str} (h : H d = some (CodeO d q)) : GX G (G.lay d (CodeO d q)) ∧ Gd p (G.lay d (CodeO d q)) H := by
  have nt : NoTb (CodeO d q) := fun ps z => codeO_ne ps z
  have up : ∀ a o, G.F a = some o → upd G.F d (CodeO d q) a = some o := fun a o e => by
    by_cases z : a = d
    · subst z
      have := g.le _ _ e
      rw [h] at this
      rw [upd_same]
      exact this
    · rw [upd_ne z]
      exact e
  have x1 : GX G (G.lay d (CodeO d q)) := ⟨up, fun _ _ e => e⟩
  refine ⟨x1, fun a o e => ?_, g.len, fun k m e => ?_, g.all, g.inj, g.tb.tabs, fun a o e => ?_, g.tb.noM⟩
  · have e : upd G.F d (CodeO d q) a = some o := e
    by_cases z : a = d
    · subst z
      rw [upd_same] at e
      rw [h]
      exact e
    · rw [upd_ne z] at e
      exact g.le a o e
  · obtain ⟨a, e1, e2, e3⟩ := g.live k m e
    have na : a ≠ d := fun z => by
      subst z
      exact (g.tb.noM k a _ e1 h).2 q rfl
    refine ⟨a, e1, ?_, e3.gx x1⟩
    show upd G.F d (CodeO d q) a = none
    rw [upd_ne na]
    exact e2
  · have e : upd G.F d (CodeO d q) a = some o := e
    by_cases z : a = d
    · subst z
      rw [upd_same] at e
      cases e
      exact nt
    · rw [upd_ne z] at e
      exact g.tb.noF a o e
/-- the tables grow -/
theorem Gd.tab {G : Gh} {H H1 : Hp} (g : Gd p G H) (e : ExtN H H1) (t : Tabs p.T H1) : Gd p G H1 := by
  have st : ∀ (k : Nat) a, G.μ[k]? = some a → H1 a = H a := fun k a ea => by
    cases eo : H a with
    | none => exact absurd eo (g.all k a ea)
    | some o => exact e a o eo (g.tb.noM k a o ea eo).1
  refine ⟨fun a o ea => e a o (g.le a o ea) (g.tb.noF a o ea), g.len, fun k m em => ?_, fun k a ea => ?_, g.inj, t, g.tb.noF, fun k a o ea eo => ?_⟩
  · obtain ⟨a, e1, e2, e3⟩ := g.live k m em
    exact ⟨a, e1, e2, by rw [st k a e1]; exact e3⟩
  · rw [st k a ea]
    exact g.all k a ea
  · rw [st k a ea] at eo
    exact g.tb.noM k a o ea eo
end
/-- the thing handed over is asked -/
def gAsk (th : Sto → R DV) (i : Nat) : GE := fun ρ s => match ρ[i]? with
  | some (some (.fn _)) => match s.all xfreeO with
    | true => th s
    | false => .bad
  | _ => .bad
/-- a def of one thing to ask -/
def runH (N : Nat) (b : (Sto → R DV) → GS) : (Sto → R DV) → Sto → R DV := fun th s => match (b th (some (.fn s.length) :: List.replicate (N - 1) none) s).fin s with
  | .ok d s2 => match xfree d && s2.all xfreeO with
    | true => .ok d s2
    | false => .bad
  | _ => .bad
def gLam (h : (Sto → R DV) → Sto → R DV) (gb : GE) : GE := fun ρ s => h (fun s1 => gb ρ s1) s
/-- what the maker of a lambda has of such a def -/
def GivL (p : Pg) (P : Program) (w : World) (mg : Str → Option Value) (base : Heap) (lv : Nat) (g : Addr) (h : (Sto → R DV) → Sto → R DV) : Prop :=
  ∀ (X : Cx), At X p P w mg base → Room lv X.A → ∀ (j : Nat), lv = j + 2 → ∀ {params : Arguments} {body : Expr} {scope : Scope} {gb : GE} (L : LamS X.env.scope scope)
    (bnd : ∀ (q : Str) (cl : List (Str × Addr)) (pm cv ctv : Value), bindArgs (PySem.W.kla_fn "<lambda>" q params body scope cl pm cv ctv) ⟨[], []⟩ = pure [])
    (run : ∀ (A : Around) (outer : List Env) (u : Shared) (G : Hp) (E : XK) (f c : Addr), Room j (A.deeper (lamEnv X scope u.heap.objs.size f c)) → PE (lamCx X A outer u G E scope f c) body (rd p (WeX E) gb))
    (pins : List (Addr × Obj)) (s : Shared) (σ : L2.St) (H : Hp) (Q : VK) (f d : Addr) (pm ctv : Value), Inv X pins σ H s → s.heap.get? f = some (PySem.W.kla_obj "<lambda>" (X.env.qual ++ "<lambda>") params body scope (cloFrom X.env.cells scope.names []) pm d ctv) → H f = none → f ∉ frs X.stack → H d = some (CodeO d (X.env.qual ++ "<lambda>")) →
      (∃ G ρ, Gd p G H ∧ EnR p G ρ σ ∧ PoV p W0 G [] (h (fun s1 => gb ρ s1) G.st) Q) → codeAny (model X.prog X.w) X.A (.call (.ref g) ⟨[.ref f], []⟩) (CR CX0 X.stack X.prog X.w H s Q (fun _ _ _ => False)) s
section
variable {p : Pg} {P : Program} {w : World} {mg : Str → Option Value} {base : Heap}
theorem giv_of {k nN : Nat} {g : Addr} {fd : FuncData} {x a : Str} {pg : Arguments} {bg : List Stmt} {sg : Scope} {N : List Str} {b : (Sto → R DV) → GS} {h : (Sto → R DV) → Sto → R DV} (hot : p.hot = none) (ask : p.ask = none)
    (F : FunD p.K x x pg bg sg [] [] g fd) (S : FnScope N [a] sg) (va : Vis sg a) (hN : N.length = nN) (h0 : N[0]? = some a) (hh : h = runH nN b) (hb : Binds p.K fd [a] []) (hd : (a == ("__debug__" : Str)) = false) (hcd : (a == ("__classdict__" : Str)) = false)
    (hbody : ∀ (aa : Option (Addr × Addr × Str × Hp × List Addr)) (th : Sto → R DV) (cdv : Value) (A : Around) (outer : List Env) (s : Shared) (H : Hp), Room (k + 1) (A.deeper (envOfC x sg s.heap.objs.size g cdv)) →
      (∀ (W : WX) (pn : List (Addr × Obj)) (xe : Value → Shared → Prop) (r1 r2 : Pos), Takes ((cxOf CX0 P w p.K mg base N x sg g cdv A outer s H (fun _ _ _ => False)).tr pn xe) W →
        PE ((cxOf CX0 P w p.K mg base N x sg g cdv A outer s H (fun _ _ _ => False)).tr pn xe) (.Call (.Name a r1) [] [] r2) (rd (modP p none aa) W (gAsk th 0))) →
      PSs (cxOf CX0 P w p.K mg base N x sg g cdv A outer s H (fun _ _ _ => False)).nox bg (rdS (modP p none aa) W0 (b th))) :
    GivL p P w mg base (k + 2) g h := by
  subst hh hN
  intro X eX room j ej params body scope gb L bnd run pins s σ H Q f d pm ctv I of nf nfr hc ⟨G, ρ, gd, en, po⟩
  obtain rfl : j = k := by omega
  obtain ⟨e1, e2, e3, e4, e5⟩ := eX
  subst e1 e2 e4 e5
  obtain ⟨oc, od, dV, kV, doc, pm1, an, cdv, ct, osl, rfl, lk, hcod, _, _⟩ := F.ex
  obtain ⟨x1, gd1⟩ := gd.knowC hc
  rw [← e3] at lk hcod hb
  refine run_ofS (CX := CX0) (N := N) (ps := [a]) (us := [.ref f]) (vs := [.ref f]) lk hcod S room I.env0 (hb s [.ref f] I.kIn rfl) (.cons rfl .nil) rfl fun room2 => ?_
  have asks : ∀ (W : WX) (pn : List (Addr × Obj)) (xe : Value → Shared → Prop) (r1 r2 : Pos), Takes ((cxOf CX0 X.prog X.w X.K X.mg X.base N x sg g cdv X.A X.stack s H (fun _ _ _ => False)).tr pn xe) W →
      PE ((cxOf CX0 X.prog X.w X.K X.mg X.base N x sg g cdv X.A X.stack s H (fun _ _ _ => False)).tr pn xe) (.Call (.Name a r1) [] [] r2) (rd (modP p none (some (f, d, X.env.qual ++ "<lambda>", (G.lay d (CodeO d (X.env.qual ++ "<lambda>"))).F, G.μ))) W (gAsk (fun s1 => gb ρ s1) 0)) := fun W pn xe r1 r2 tk => by
    refine PE.imp (Tq.askAt (i := 0) (t := fun E => rd p (WeX E) gb) (CXg := CX0) (Eg := fun _ _ _ => False) (W := W) I L of nf nfr (bnd _ _ _ _ _) tk room2 (fun A outer u G E hr => run A outer u G E f d hr) h0 va hd hcd) fun τ G1 Q1 ⟨G2, ρ2, gd2, en2, po2⟩ => ?_
    unfold gAsk at po2
    split at po2
    · rename_i n0 e0
      split at po2
      · rename_i xf
        obtain ⟨v, ev, rv⟩ := en2.at_ 0 _ e0
        cases rv with
        | fn z1 z2 z3 z4 z5 =>
          cases z1
          have x2 : GX (G.lay d (CodeO d (X.env.qual ++ "<lambda>"))) G2 := ⟨z4, z5⟩
          refine ⟨ev, gd2.le _ _ z3, G2, ρ, gd2.cool xf, (en.gx x1).gx x2, ?_⟩
          have po2 : PoV (modP p none _) W G2 τ (gb ρ G2.st) Q1 := po2
          have hot' : ∀ z, p.hot = some z → (none : Option (Addr × Nat × Addr)) = some z := fun z e => by rw [hot] at e; cases e
          have ask' : ∀ z, p.ask = some z → some (f, d, X.env.qual ++ "<lambda>", (G.lay d (CodeO d (X.env.qual ++ "<lambda>"))).F, G.μ) = some z := fun z e => by rw [ask] at e; cases e
          cases eg : gb ρ G2.st with
          | ok d3 s3 =>
            rw [eg] at po2
            exact fun G3 v3 H3 x3 e3 g3 r3 => po2 G3 v3 H3 x3 e3 (g3.heat hot' ask') (Rp.heat hot' ask' _ _ r3)
          | exc c3 ks3 xs3 s3 =>
            rw [eg] at po2
            exact fun G3 H3 d3 fs3 x3 e3 g3 hd3 hk3 rs3 => po2 G3 H3 d3 fs3 x3 e3 (g3.heat hot' ask') hd3 hk3 (Rps.heat hot' ask' _ _ rs3)
          | bad => rw [eg] at po2; exact po2
      · exact po2.elim
    · exact po2.elim
  have hb2 := hbody (some (f, d, X.env.qual ++ "<lambda>", (G.lay d (CodeO d (X.env.qual ++ "<lambda>"))).F, G.μ)) (fun s1 => gb ρ s1) cdv X.A X.stack s H room2 (by rw [← e3]; exact asks)
  rw [← e3] at hb2
  have hot' : ∀ z, p.hot = some z → (none : Option (Addr × Nat × Addr)) = some z := fun z e => by rw [hot] at e; cases e
  have ask' : ∀ z, p.ask = some z → some (f, d, X.env.qual ++ "<lambda>", (G.lay d (CodeO d (X.env.qual ++ "<lambda>"))).F, G.μ) = some z := fun z e => by rw [ask] at e; cases e
  have n0 : 1 ≤ N.length := by
    have := (List.getElem?_eq_some_iff.mp h0).1
    omega
  refine ⟨_, PSs.nox hb2, body_of (We := We0) (E := fun _ _ _ => False) (n := 1) (fun _ _ _ _ _ _ z => z) n0 ⟨rfl, G.lay d (CodeO d (X.env.qual ++ "<lambda>")), [.fn G.st.length], gd1.heat hot' ask', .cons (.fn rfl gd.len ?_ (fun _ _ z => z) fun _ _ z => z) .nil, ?_⟩⟩
  · show upd G.F d _ d = _
    rw [upd_same]
  · have e6 : Dq.run N.length 1 (b fun s1 => gb ρ s1) [.fn G.st.length] (G.lay d (CodeO d (X.env.qual ++ "<lambda>"))).st = (b (fun s1 => gb ρ s1) (some (.fn G.st.length) :: List.replicate (N.length - 1) none) G.st).fin G.st := rfl
    rw [e6]
    unfold runH at po
    cases ef : (b (fun s1 => gb ρ s1) (some (.fn G.st.length) :: List.replicate (N.length - 1) none) G.st).fin G.st with
    | exc c3 ks3 xs3 s3 => rw [ef] at po; exact po.elim
    | bad => rw [ef] at po; exact po.elim
    | ok d3 s3 =>
      rw [ef] at po
      intro G3 v3 H3 x3 e3 g3 r3
      subst e3
      simp only at po
      split at po
      · rename_i ff
        rw [Bool.and_eq_true] at ff
        exact po G3 v3 H3 (x1.trans x3) rfl (g3.cool ff.2) (Rp.cool _ _ ff.1 r3)
      · exact po.elim
end
end Dq

/-! What raises nothing, where something may; defs that raise; the lambda's maker. -/
namespace Dq
open PySem PySem.Spec PyProof.Rows L2 LamX
def nxR {α : Type} : R α → R α
  | .exc _ _ _ _ => .bad
  | r => r
@[simp] theorem nxR_ok {α : Type} (a : α) (s : Sto) : nxR (R.ok a s) = R.ok a s := rfl
@[simp] def nxE {α : Type} (g : En → Sto → R α) : En → Sto → R α := fun ρ s => nxR (g ρ s)
def nxRS : RS → RS
  | .exc _ _ _ _ _ => .bad
  | r => r
@[simp] theorem nxRS_nx (ρ : En) (s : Sto) : nxRS (.nx ρ s) = .nx ρ s := rfl
@[simp] theorem nxRS_rt (d : DV) (s : Sto) : nxRS (.rt d s) = .rt d s := rfl
@[simp] def nxS (g : GS) : GS := fun ρ s => nxRS (g ρ s)
section
variable {p : Pg} {X : Cx} {W : WX}
theorem po_nx {α β : Type} {Rl : Gh → α → β → Prop} {G : Gh} {σ : L2.St} {r : R α} {Q : β → Hp → Prop} (h : Po p Rl W G σ (nxR r) Q) : Po p Rl W0 G σ r Q := by
  cases r with
  | ok a s => exact h
  | exc c ks xs s => exact (show False from h).elim
  | bad => exact h
theorem lfE {e : Expr} {g : GE} (h : PE X e (rd p W0 g)) : PE X e (rd p W (nxE g)) := PE.imp h fun σ H Q ⟨G, ρ, gd, en, po⟩ => ⟨G, ρ, gd, en, po_nx po⟩
theorem lfL {es : List Expr} {g : GL} (h : PA X es (rdL p W0 g)) : PA X es (rdL p W (nxE g)) := PA.imp h fun σ H Q ⟨G, ρ, gd, en, po⟩ => ⟨G, ρ, gd, en, po_nx po⟩
theorem lfB {e : Expr} {g : GB} (h : PT X e (rdB p W0 g)) : PT X e (rdB p W (nxE g)) := PT.imp h fun σ H Q ⟨G, ρ, gd, en, po⟩ => ⟨G, ρ, gd, en, po_nx po⟩
theorem poS_nx {G : Gh} {D : Ends} {r : RS} (h : PoS p W G D (nxRS r)) : PoS p W0 G D r := by
  cases r with
  | exc c ks xs ρ s => exact (show False from h).elim
  | nx ρ s => exact h
  | rt d s => exact h
  | bk ρ s => exact h
  | ct ρ s => exact h
  | bad => exact h
theorem lfS {st : Stmt} {g : GS} (h : PS X st (rdS p W0 g)) : PS X st (rdS p W (nxS g)) := PS.imp h fun D σ H ⟨G, ρ, gd, en, po⟩ => ⟨G, ρ, gd, en, poS_nx po⟩
theorem lfSs {st : List Stmt} {g : GS} (h : PSs X st (rdS p W0 g)) : PSs X st (rdS p W (nxS g)) := PSs.imp h fun D σ H ⟨G, ρ, gd, en, po⟩ => ⟨G, ρ, gd, en, poS_nx po⟩
end
/-- a def that may raise -/
structure OkX (p : Pg) (P : Program) (w : World) (mg : Str → Option Value) (base : Heap) (lv : Nat) (f : Addr) (n : Nat) (m : List DV → Sto → R DV) (ds0 : List DV) : Prop where
  ex : ∃ fd ps dvs dsv, ps.length = n ∧ FnOk P w p.K mg base (L2.CX P w) lv f fd ps (spD p WeX n m) ∧ Vals dvs dsv ∧ Binds p.K fd ps dsv ∧ (∀ F μ, Rps p F μ ds0 dvs)
  len : ∀ ds s, ds.length ≠ n → m ds s = .bad
section
variable {p : Pg} {X : Cx} {P : Program} {w : World} {mg : Str → Option Value} {base : Heap} {lv n : Nat} {f : Addr} {m : List DV → Sto → R DV} {ds0 : List DV} {E : XK}
theorem OkX.c (o : OkX p P w mg base lv f n m ds0) (hr : Room lv X.A) (tk : Takes X (WeX E)) (e : At X p P w mg base := by exact ⟨rfl, rfl, rfl, rfl, rfl⟩) : FnC p X (WeX E) f m ds0 := by
  obtain ⟨fd, ps, dvs, dsv, hn, F, hd, hb, h0⟩ := o.ex
  obtain ⟨e1, e2, e3, e4, e5⟩ := e
  subst e1 e2 e4 e5 hn
  rw [← e3] at F hb
  exact ⟨L2.CX X.prog X.w, E, WeX, lv, fd, ps, dvs, dsv, F, hr, hb, hd, h0, passes_call tk fun _ _ _ _ z => z, fun _ _ _ _ z => z, o.len⟩
theorem OkX.mt {c : Nat} {name : Str} (o : OkX p P w mg base lv f n m ds0) (cl : Cls X.K (p.cA c)) (hm : Meth X.K (p.cA c) name f) (hr : Room lv X.A) (tk : Takes X (WeX E)) (e : At X p P w mg base := by exact ⟨rfl, rfl, rfl, rfl, rfl⟩) : MtC p X (WeX E) c name (fun l s => m (l ++ ds0) s) := by
  obtain ⟨fd, ps, dvs, dsv, hn, F, hd, hb, h0⟩ := o.ex
  obtain ⟨e1, e2, e3, e4, e5⟩ := e
  subst e1 e2 e4 e5 hn
  rw [← e3] at F hb
  exact ⟨L2.CX X.prog X.w, E, WeX, lv, f, fd, ps, dvs, dsv, ds0, m, cl, hm, F, hr, hb, hd, h0, passes_call tk fun _ _ _ _ z => z, fun _ _ _ _ z => z, o.len, rfl⟩
theorem OkX.mt0 {c : Nat} {name : Str} (o : OkX p P w mg base lv f n m []) (cl : Cls X.K (p.cA c)) (hm : Meth X.K (p.cA c) name f) (hr : Room lv X.A) (tk : Takes X (WeX E)) (e : At X p P w mg base := by exact ⟨rfl, rfl, rfl, rfl, rfl⟩) : MtC p X (WeX E) c name m := by
  have h := o.mt cl hm hr tk e
  have q : (fun l s => m (l ++ []) s) = m := by
    funext l s
    rw [List.append_nil]
  rw [q] at h
  exact h
theorem lamTakes {X : Cx} {A : Around} {outer : List Env} {s : Shared} {H : Hp} {E : XK} {scope : Scope} {f c : Addr} : Takes (lamCx X A outer s H E scope f c) (WeX E) := takes_of rfl rfl rfl rfl
theorem cxTakes {K : PySem.W.Frag} {N : List Str} {qual : Str} {scope : Scope} {f : Addr} {cd : Value} {A : Around} {outer : List Env} {s : Shared} {H : Hp} {E : XK} : Takes (cxOf (L2.CX P w) P w K mg base N qual scope f cd A outer s H E) (WeX E) := takes_of rfl rfl rfl rfl
end
section
variable {p : Pg} {X : Cx} {W : WX} {lv : Nat} {g : Addr} {h : (Sto → R DV) → Sto → R DV}
/-- x(lambda: ..) -/
theorem qlam {x : Str} {c P : Addr} {params : Arguments} {body : Expr} {scope : Scope} {p1 lpos pos : Pos} {gb : GE} {j : Nat} (GV : GivL p X.prog X.w X.mg X.base lv g h) (ej : lv = j + 2) (hne : ∀ th s c ks xs s', h th s ≠ .exc c ks xs s') (room : Room lv X.A) (hK : X.K = p.K) (hg : Gl X x) (hm : X.mg x = some (.ref g)) (hk : PySem.W.keepIn X.K (.ref g) = true)
    (TB : TabB X.base X.mg c P) (hcode : X.env.code = .ref c) (hmT : (P, X.env.qual ++ "<lambda>") ∈ p.T) (hu : ∀ y ∈ p.T, y.1 = P → y.2 = X.env.qual ++ "<lambda>") (L : LamS X.env.scope scope) (hdef : defaultsOf params X.env = ([], []))
    (bnd : ∀ (q : Str) (cl : List (Str × Addr)) (pm cv ctv : Value), bindArgs (PySem.W.kla_fn "<lambda>" q params body scope cl pm cv ctv) ⟨[], []⟩ = pure [])
    (run : ∀ (A : Around) (outer : List Env) (u : Shared) (G : Hp) (E : XK) (f c : Addr), Room j (A.deeper (lamEnv X scope u.heap.objs.size f c)) → PE (lamCx X A outer u G E scope f c) body (rd p (WeX E) gb))
    (hdb : (x == ("__debug__" : Str)) = false := by decide) : PE X (.Call (.Name x p1) [.Lambda params body scope lpos] [] pos) (rd p W (gLam h gb)) := by
  refine PE.imp (Tq.pe_lam (T := p.T) (TT := fun σ H Q => ∃ G ρ, Gd p G H ∧ EnR p G ρ σ ∧ PoV p W0 G [] (h (fun s1 => gb ρ s1) G.st) Q) hg hm hk TB hcode hmT hu L hdef (fun pins s σ H Q f d pm ctv I of nf nfr hc t =>
    GV X ⟨rfl, rfl, hK, rfl, rfl⟩ room j ej L bnd run pins s σ H Q f d pm ctv I of nf nfr hc t) hdb) fun σ H Q ⟨G, ρ, gd, en, po⟩ => ⟨gd.tb.tabs, fun G1 eN t1 => ⟨G, ρ, gd.tab eN t1, en, ?_⟩⟩
  have po : PoV p W G σ (h (fun s1 => gb ρ s1) G.st) Q := po
  cases e : h (fun s1 => gb ρ s1) G.st with
  | ok d s => rw [e] at po; exact po
  | exc c ks xs s => exact absurd e (hne _ _ _ _ _ _)
  | bad => rw [e] at po; exact po
theorem runH_ne {N : Nat} {b : (Sto → R DV) → GS} (th : Sto → R DV) (s : Sto) (c : Nat) (ks : List Nat) (xs : List DV) (s' : Sto) : runH N b th s ≠ .exc c ks xs s' := by
  unfold runH
  split
  · split
    · exact fun z => nomatch z
    · exact fun z => nomatch z
  · exact fun z => nomatch z
end
end Dq

/-! The head of a law that makes lambdas: its code object, the table there. -/
namespace Dq
open PySem PySem.Spec PyProof.Rows L2 LamX
def lawC (K : PySem.W.Frag) : Addr := match K.lookup (He.ga K "law") with
  | some ⟨_, _, .func fd, _⟩ => (match fd.code with
    | .ref c => c
    | _ => 0)
  | _ => 0
def lawP (K : PySem.W.Frag) : Addr := match K.lookup (lawC K) with
  | some ⟨_, _, .fields vs, _⟩ => (match (vs[11]? : Option Value) with
    | some (.ref P) => P
    | _ => 0)
  | _ => 0
def isTab : Option Obj → Bool
  | some ⟨.none, none, .fields vs, sl⟩ => decide (vs = #[]) && decide (sl = #[])
  | _ => false
theorem isTab_ok {o : Option Obj} (h : isTab o = true) : o = some { cls := .none, data := .fields #[] } := by
  unfold isTab at h
  split at h
  · rw [Bool.and_eq_true] at h
    obtain ⟨h1, h2⟩ := h
    rw [of_decide_eq_true h1, of_decide_eq_true h2]
  · cases h
def codeHdB (K : PySem.W.Frag) (c P : Addr) : Bool := decide (c ≠ P) && (match K.lookup c with
  | some ⟨cl, _, .fields vs, _⟩ => decide (cl = .type "code") && (decide (vs[11]? = some (.ref P)) && (decide (vs.getD 11 .none = .ref P) && ((match vs.getD 18 .none with
    | .str _ _ => true
    | _ => false) && ((match vs.getD 7 .none with
    | .int _ _ => true
    | _ => false) && ((match vs.getD 9 .none with
    | .bool _ => true
    | _ => false) && (match vs.getD 10 .none with
    | .int _ _ => true
    | _ => false))))))
  | _ => false)
theorem codeHdB_ok {K : PySem.W.Frag} {c P : Addr} {h : Heap} (X : K.In h) (b : codeHdB K c P = true) : PySem.W.CodeHd h c P := by
  unfold codeHdB at b
  rw [Bool.and_eq_true] at b
  obtain ⟨b0, b⟩ := b
  split at b
  · rename_i cl od vs sl hl
    simp only [Bool.and_eq_true] at b
    obtain ⟨b1, b2, b3, b4, b5, b6, b7⟩ := b
    split at b4
    · rename_i file tf e4
      split at b5
      · rename_i fl tg e5
        split at b6
        · rename_i inF e6
          split at b7
          · rename_i tx tt e7
            exact ⟨_, vs, file, tf, fl, tg, inF, tx, tt, X _ _ hl, of_decide_eq_true b1, rfl, of_decide_eq_true b2, of_decide_eq_true b3, e4, e5, e6, e7, of_decide_eq_true b0⟩
          · cases b7
        · cases b6
      · cases b5
    · cases b4
  · cases b
def lawB (K : PySem.W.Frag) : Bool := match K.lookup (He.ga K "law") with
  | some ⟨_, _, .func fd, _⟩ => (match fd.code with
    | .ref _ => true
    | _ => false)
  | _ => false
def tabB (K : PySem.W.Frag) (g : Addr → Option Obj) : Bool := lawB K && (codeHdB K (lawC K) (lawP K) && ((K.lookup (lawP K)).isNone && isTab (g (lawP K))))
/-- the fragment without the table -/
def offF (P : Addr) (K : PySem.W.Frag) : PySem.W.Frag := K.filter fun q => !decide (q.1 = P)
theorem offF_at {P : Addr} {a : Addr} {o : Obj} : ∀ {K : PySem.W.Frag}, (offF P K).lookup a = some o → K.lookup a = some o
  | [], h => nomatch h
  | (b, u) :: K, h => by
    unfold offF at h
    rw [List.filter_cons] at h
    by_cases q : b = P
    · subst q
      have h : (offF b K).lookup a = some o := by
        rw [if_neg (by simp)] at h
        exact h
      have ih := offF_at h
      rw [List.lookup_cons]
      have n : a ≠ b := fun z => by
        subst z
        have m := lookup_mem h
        unfold offF at m
        rw [List.mem_filter] at m
        simp at m
      rw [beq_eq_false_iff_ne.mpr n]
      exact ih
    · rw [if_pos (by simp [q])] at h
      rw [List.lookup_cons] at h ⊢
      split
      · rename_i e
        rw [e] at h
        exact h
      · rename_i e
        rw [e] at h
        exact offF_at h
def frT (g : Addr → Option Obj) (n : Nat) : PySem.W.Frag := offF (lawP (He.frG g (cStatics :: He.asD g n))) (He.frG g (cStatics :: He.asD g n))
abbrev AlT : Type := AlQ × Bool
def obsT (n : Nat) (fn : List DefQ) (ex : PySem.W.Frag → Bool) (g : Addr → Option Obj) : AlT := (obsQ fn ex (frT g n), tabB (frT g n) g)
def hookT (n : Nat) (fn : List DefQ) (ex : PySem.W.Frag → Bool) : PySem.W.Hook where
  α := AlT
  obs := fun s => obsT n fn ex s.heap.get?
  val := fun _ => (valQ fn, true)
  says := fun _ h => ∃ K : PySem.W.Frag, K.In h ∧ SaysQ fn ex K ∧ tabB K h.get? = true
  of := fun _ s e => ⟨frT s.heap.get? n, fun a o z => He.frG_in a o (offF_at z), congrArg Prod.fst e, congrArg Prod.snd e⟩
  keeps := fun _ h h' ⟨K, hK, c, t⟩ k => ⟨K, PySem.W.Frag.In.keeps hK k, c, by
    unfold tabB at t ⊢
    simp only [Bool.and_eq_true] at t ⊢
    obtain ⟨t1, t2, t3, t4⟩ := t
    refine ⟨t1, t2, t3, ?_⟩
    have e := isTab_ok t4
    rw [k _ _ e]
    rw [e] at t4
    exact t4⟩
theorem obsT_eq {n : Nat} {fn : List DefQ} {ex : PySem.W.Frag → Bool} {g : Addr → Option Obj} {s : Shared} (h : ∀ a, g a = s.heap.get? a) : obsT n fn ex g = (hookT n fn ex).obs s := by
  have e : g = s.heap.get? := funext h
  rw [e]
  rfl
theorem lawC_of {K : PySem.W.Frag} {f : Addr} {fd : FuncData} {oc : Value} {od : Option Addr} {osl : Array (Option Value)} (h : lawB K = true) (e : f = He.ga K "law") (lk : K.lookup f = some ⟨oc, od, .func fd, osl⟩) : fd.code = .ref (lawC K) := by
  subst e
  unfold lawB at h
  unfold lawC
  rw [lk] at h ⊢
  simp only at h ⊢
  split at h
  · rename_i c hc
    rw [hc]
  · cases h
section
variable {p : Pg} {P : Program} {w : World} {K : PySem.W.Frag} {mg : Str → Option Value} {base : Heap} {x qual : Str} {params : Arguments} {body : List Stmt} {scope : Scope} {dvs : List V} {kws : List (Str × V)} {f : Addr} {fd : FuncData} {N ps : List Str} {k n nN : Nat} {b : GS} {m : List DV → Sto → R DV}
/-- a def whose code object is told -/
theorem def0C (F : FunD K x qual params body scope dvs kws f fd) {c : Addr} (hlaw : lawB K = true) (hf : f = He.ga K "law") (hc : c = lawC K) (S : FnScope N ps scope) (hN : N.length = nN) (hp : ps.length = n) (hn : n ≤ nN) (hm : m = Dq.run nN n b)
    (h : ∀ (A : Around) (outer : List Env) (s : Shared) (H : Hp) (E : XK), Room k (A.deeper (envOfC qual scope s.heap.objs.size f (.ref c))) →
      PSs (cxOf CX0 P w K mg base N qual scope f (.ref c) A outer s H E).nox body (rdS p W0 b)) : FnOk P w K mg base CX0 (k + 1) f fd ps (spD p We0 n m) := by
  subst hN hp hm hc
  obtain ⟨oc, od, dV, kV, doc, pm, an, cdv, ct, osl, rfl, lk, hcd, _, _⟩ := F.ex
  have e := lawC_of hlaw hf lk
  have e : cdv = .ref (lawC K) := e
  subst e
  exact fn_of lk hcd S (fun vs H Q E h => h.1) fun A outer s H vs Q E hr hs => ⟨_, PSs.nox (h A outer s H E hr), body_of (We := We0) (fun _ _ _ _ _ _ z => z) hn hs⟩
end
section
variable {p : Pg} {P : Program} {w : World} {K : PySem.W.Frag} {mg : Str → Option Value} {base : Heap} {x qual : Str} {params : Arguments} {body : List Stmt} {scope : Scope} {dvs : List V} {kws : List (Str × V)} {f : Addr} {fd : FuncData} {N ps : List Str} {k n nN : Nat} {b : GS} {m : List DV → Sto → R DV}
theorem defX' (F : FunD K x qual params body scope dvs kws f fd) (S : FnScope N ps scope) (hN : N.length = nN) (hp : ps.length = n) (hn : n ≤ nN) (hm : m = Dq.run nN n b)
    (h : ∀ (cdv : Value) (A : Around) (outer : List Env) (s : Shared) (H : Hp) (E : XK), Room k (A.deeper (envOfC qual scope s.heap.objs.size f cdv)) →
      PSs (cxOf (L2.CX P w) P w K mg base N qual scope f cdv A outer s H E) body (rdS p (WeX E) b)) : FnOk P w K mg base (L2.CX P w) (k + 1) f fd ps (spD p WeX n m) := by
  subst hN hp hm
  exact defX F S hn h
end
end Dq
theorem L2H.RoomH.units {k : Nat} {A : PySem.Around} (r : L2H.RoomH k A) : A.units + 64 < PySem.cLine := by have := r.un; omega
theorem L2H.RoomH.units0 {k : Nat} {A : PySem.Around} (r : L2H.RoomH k A) : A.units < PySem.cLine := by have := r.un; omega

/-! o.m(y=e): plain parameters given by name. -/
namespace Dq
open PySem PySem.Spec PyProof.Rows L2
theorem kbn_app {K : PySem.W.Frag} {fd : FuncData} {ps ks : List Str} {n : Nat} (h : ∀ (us ws : List Value), us.length = n → ws.length = ks.length → bindArgs fd ⟨us, ks.zip ws⟩ = pure (ps.zip (us ++ ws))) : KBn K fd ps n ks (fun us ws => us ++ ws) (fun vs zs => vs ++ zs) where
  to := fun s us ws _ l1 l2 => BindsTo.of_eq (h us ws l1 l2)
  rel := fun a b => Vals.append a b
theorem kplain {K : PySem.W.Frag} {x qual : Str} {params : Arguments} {body : List Stmt} {scope : Scope} {kws : List (Str × V)} {f : Addr} {fd : FuncData} {ps ks : List Str} {n : Nat} (F : FunD K x qual params body scope [] kws f fd)
    (h : ∀ (kV doc pm : Value) (an : Option Addr) (cdv ct : Value) (us ws : List Value), us.length = n → ws.length = ks.length → bindArgs (PySem.W.fnOf x qual params body scope .none kV doc pm an cdv ct) ⟨us, ks.zip ws⟩ = pure (ps.zip (us ++ ws))) : KBn K fd ps n ks (fun us ws => us ++ ws) (fun vs zs => vs ++ zs) := by
  obtain ⟨oc, od, dV, kV, doc, pm, an, cdv, ct, osl, rfl, lk, hcd, hD, hK⟩ := F.ex
  rcases hD with ⟨_, rfl⟩ | ⟨z, _⟩
  · exact kbn_app (h kV doc pm an cdv ct)
  · exact absurd rfl z
def mixP (n m : Nat) : Mix := fun l z => match decide (l.length = n ∧ z.length = m) with
  | true => some (l ++ z)
  | false => none
section
variable {p : Pg} {X : Cx} {W : WX} {o : Expr} {m : Str} {pos apos : Pos} {kws : List Keyword} {go : GE} {gk : GL} {nF : Nat} {pl : Sem Bool} {ks : List Str}
@[simp] def gMethK (nF : Nat) (sel : Sel) (go : GE) (gk : GL) (nk : Nat) : GE := fun ρ s => (go ρ s).bind fun o s1 => match insS s1 o with
  | some (c, ks, _) => match sel c, ks.all (fun k => decide (k < nF)) with
    | some g, true => (gk ρ s1).bind fun z s2 => match decide (z.length = nk) with
      | true => g (o :: z) s2
      | false => .bad
    | _, _ => .bad
  | none => .bad
structure MtK (p : Pg) (X : Cx) (W : WX) (c : Nat) (m : Str) (g : List DV → Sto → R DV) (ks : List Str) : Prop where
  ex : ∃ (CX : CXT) (E : XK) (We : XK → WX) (k : Nat) (f : Addr) (fd : FuncData) (ps : List Str),
    Cls X.K (p.cA c) ∧ Meth X.K (p.cA c) m f ∧ FnOk X.prog X.w X.K X.mg X.base CX k f fd ps (spD p We ps.length g) ∧ Room k X.A ∧ KBn X.K fd ps 1 ks (fun us ws => us ++ ws) (fun vs zs => vs ++ zs) ∧ Passes CX X E ∧ (∀ c d σ H, W c d σ H → We E c d [] H) ∧ (∀ ds s, ds.length ≠ ps.length → g ds s = .bad)
theorem OkD.mtk {P : Program} {w : World} {mg : Str → Option Value} {base : Heap} {lv n : Nat} {f : Addr} {g : List DV → Sto → R DV} {c : Nat} {name : Str} {fd : FuncData} {ps : List Str} (F : FnOk P w p.K mg base CX0 lv f fd ps (spD p We0 n g)) (hn : ps.length = n) (hl : ∀ ds s, ds.length ≠ n → g ds s = .bad) (hb : KBn p.K fd ps 1 ks (fun us ws => us ++ ws) (fun vs zs => vs ++ zs))
    (cl : Cls X.K (p.cA c)) (hm : Meth X.K (p.cA c) name f) (hr : Room lv X.A) (e : At X p P w mg base := by exact ⟨rfl, rfl, rfl, rfl, rfl⟩) : MtK p X W0 c name g ks := by
  obtain ⟨e1, e2, e3, e4, e5⟩ := e
  subst e1 e2 e4 e5 hn
  rw [← e3] at F hb
  exact ⟨CX0, E0, We0, lv, f, fd, ps, cl, hm, F, hr, hb, pass0, fun _ _ _ _ h => h, hl⟩
theorem qmethK {sel : Sel} (ho : PE X o (rd p W go)) (hs : ∀ c g, sel c = some g → MtK p X W c m g ks) (hF : ∀ k, k < nF → p.nm k ≠ m) (hkw : PK X kws (rdL p W gk))
    (hall : (backToKw pos (keywordEach kws X.env)).all (·.1.isSome) = true := by rfl) (hks : (backToKw pos (keywordEach kws X.env)).filterMap (·.1) = ks := by rfl)
    (hpl : ((backTo pos (starEach [] X.env)).any (·.1) || (backToKw pos (keywordEach kws X.env)).any (·.1.isNone)) = false := by rfl)
    (ht : eval (.Call (.Attribute o m apos) [] kws pos) X.env = (do
      let r ← eval o X.env
      standAt apos.atName
      let (f, first) ← holding [r] (getMethod r m pl)
      callWith pos f first (backTo pos (starEach [] X.env)) (backToKw pos (keywordEach kws X.env))) := by rfl) :
    PE X (.Call (.Attribute o m apos) [] kws pos) (rd p W (gMethK nF sel go gk ks.length)) := by
  refine ⟨fun pins s σ H Q I ⟨G, ρ, gd, en, po⟩ => ?_⟩
  refine PySem.W.methodCall_KW (pl := pl) (thn (ho.run pins s σ H _ I ⟨G, ρ, gd, en, Po.bind po⟩) fun u s1 ⟨x, H1, I1, rx, G1, d, x1, gd1, r1, po1⟩ => ?_) ht
  split at po1
  · rename_i c kk xs hi
    split at po1
    · rename_i g h1 h2
      obtain ⟨a, dx, fs, rfl, ea, ek, er⟩ := ins_of gd1 r1 hi
      have el := lk_none ek fun k hk => hF k (of_decide_eq_true (List.all_eq_true.mp h2 k hk))
      obtain ⟨CX, E, We, k, f, fd, ps, cl, hm, F, hr, hb, hx, hW, hl⟩ := (hs c g h1).ex
      obtain rfl : u = Value.ref a := rx
      refine getmeth_ok I1 ea cl hm el ?_
      refine PySem.W.callWith_KW0 (first := [.ref a]) (h₀ := X.base) I.ok.mod.kin hm.kp hall (thn (hkw.run pos pins s1 σ H1 _ I1 ⟨G1, ρ, gd1, en.gx x1, Po.bind po1⟩) fun ws s2 ⟨zs, H2, I2, r2, G2, z, x2, gd2, rz, po2⟩ => ⟨I2.kIn, ?_⟩) hpl
      rw [hks]
      split at po2
      · rename_i lz
        have lz := of_decide_eq_true lz
        have l2 : zs.length = ks.length := by rw [← rz.length]; exact lz
        exact run_fnN (us := [.ref a]) (vs := [.ref a]) F hr hb hx I2 (.cons rfl .nil) r2 rfl l2 (sp_of hl hW gd2 (.cons (Rg.gx r1 x2) rz) po2)
      · exact po2.elim
    · exact po1.elim
  · exact po1.elim
end
end Dq

/-! C.m(..), m a static method. -/
namespace Dq
open PySem PySem.Spec PyProof.Rows L2
/-- C.m is a staticmethod: its record at q, its def at f -/
structure SMet (K : PySem.W.Frag) (C : Addr) (m : Str) (q f : Addr) : Prop where
  rd : PySem.W.readsIn K C (.type "type") = true
  ga : PySem.W.specialIn K (.ref C) "__getattribute__" = some (some (.builtin "type.__getattribute__"))
  at_ : PySem.W.findCls K (.ref C) (.type "type") m = some (.get (.builtin "staticmethod.__get__") (.ref q) .none (.ref C))
  rc : ∃ rest, PySem.W.recIn K q "staticmethod" = some (.ref f :: rest)
  kp : PySem.W.keepIn K (.ref f) = true
def smB (K : PySem.W.Frag) (C : Addr) (m : Str) (q f : Addr) : Bool := PySem.W.readsIn K C (.type "type") && (decide (PySem.W.specialIn K (.ref C) "__getattribute__" = some (some (.builtin "type.__getattribute__"))) && ((match PySem.W.findCls K (.ref C) (.type "type") m with
  | some (.get (.builtin i) (.ref a) .none (.ref b)) => decide (i = "staticmethod.__get__") && (decide (a = q) && decide (b = C))
  | _ => false) && ((match PySem.W.recIn K q "staticmethod" with
  | some (.ref a :: _) => decide (a = f)
  | _ => false) && PySem.W.keepIn K (.ref f))))
theorem smB_ok {K : PySem.W.Frag} {C : Addr} {m : Str} {q f : Addr} (h : smB K C m q f = true) : SMet K C m q f := by
  unfold smB at h
  simp only [Bool.and_eq_true] at h
  obtain ⟨h1, h2, h3, h4, h5⟩ := h
  refine ⟨h1, of_decide_eq_true h2, ?_, ?_, h5⟩
  · split at h3
    · rename_i e
      simp only [Bool.and_eq_true, decide_eq_true_eq] at h3
      obtain ⟨rfl, rfl, rfl⟩ := h3
      exact e
    · cases h3
  · split at h4
    · rename_i a r e
      have h4 := of_decide_eq_true h4
      subst h4
      exact ⟨r, e⟩
    · cases h4
section
variable {p : Pg} {X : Cx} {W : WX} {C q f : Addr} {m x : Str} {pp pos apos : Pos} {e : Expr} {es : List Expr} {kws : List Keyword} {gl gk : GL} {g : List DV → Sto → R DV} {ds0 : List DV} {pl : Sem Bool} {ks : List Str} {mx : Mix}
theorem getstat {A : Around} {E : Value → Shared → Prop} {pins : List (Addr × Obj)} {σ : L2.St} {H : Hp} {s : Shared} {Q : Value × List Value → Shared → Prop} (I : Inv X pins σ H s) (c : SMet X.K C m q f) (h : ∀ t, Inv X pins σ H t → Q (.ref f, []) t) : wpAny (model X.prog X.w) A (getMethod (.ref C) m pl) Q E s := by
  obtain ⟨rest, hp⟩ := c.rc
  exact PySem.W.method_cls I.kIn c.ga (PySem.W.cls_bind I.kIn c.rd c.at_ (wpAny_call (PySem.W.sm_get (s := { s with toks := s.toks + 1 }) I.kIn hp (PySem.W.handed_on rfl (h _ (I.tok _))))))
theorem qstat (hc : PE X (.Name x pp) (tC (.ref C))) (c : SMet X.K C m q f) (F : FnC p X W f g ds0) (ha : PA X (e :: es) (rdL p W gl))
    (he : starEach (e :: es) X.env = (false, eval e X.env) :: starEach es X.env := by rfl) (hpl : (backTo pos (starEach es X.env)).any (·.1) = false := by rfl)
    (ht : eval (.Call (.Attribute (.Name x pp) m apos) (e :: es) [] pos) X.env = (do
      let r ← eval (.Name x pp) X.env
      standAt apos.atName
      let (f, first) ← holding [r] (getMethod r m pl)
      callWith pos f first (backTo pos (starEach (e :: es) X.env)) (backToKw pos (keywordEach [] X.env))) := by rfl) :
    PE X (.Call (.Attribute (.Name x pp) m apos) (e :: es) [] pos) (rd p W (gCall g ds0 gl)) := by
  obtain ⟨CX, E, We, k, fd, ps, dvs, dsv, F, hr, hb, hd, h0, hx, hW, hl⟩ := F.ex
  refine ⟨fun pins s σ H Q I ⟨G, ρ, gd, en, po⟩ => ?_⟩
  refine PySem.W.methodCall_KW (pl := pl) (thn (hc.run pins s σ H (fun v H1 => v = .ref C ∧ H1 = H) I ⟨rfl, rfl⟩) fun u s1 ⟨v, H1, I1, rv, ev, eH⟩ => ?_) ht
  subst ev
  subst eH
  obtain rfl : u = Value.ref C := rv
  refine getstat I1 c fun s2 I2 => ?_
  refine PySem.W.callWith_K (h₀ := X.base) I.ok.mod.kin c.kp (thn (ha.run pos pins s2 σ H1 _ I2 ⟨G, ρ, gd, en, Po.bind po⟩) fun us s3 ⟨vs, H2, I3, r1, G1, l, x1, gd1, rl, po1⟩ => ⟨I3.kIn, ?_⟩) he hpl
  exact run_fn F hr hb hd hx I3 r1 (sp_of hl hW gd1 (rl.app (h0 _ _)) po1)
/-- a def called by keywords alone -/
@[simp] def gCallK0 (g : List DV → Sto → R DV) (mx : Mix) (gk : GL) : GE := fun ρ s => (gk ρ s).bind fun z s2 => match mx [] z with
  | some a => g a s2
  | none => .bad
theorem qstatK (hc : PE X (.Name x pp) (tC (.ref C))) (c : SMet X.K C m q f) (F : FnK p X W f g 0 ks mx) (hkw : PK X kws (rdL p W gk))
    (hall : (backToKw pos (keywordEach kws X.env)).all (·.1.isSome) = true := by rfl) (hks : (backToKw pos (keywordEach kws X.env)).filterMap (·.1) = ks := by rfl)
    (hpl : ((backTo pos (starEach [] X.env)).any (·.1) || (backToKw pos (keywordEach kws X.env)).any (·.1.isNone)) = false := by rfl)
    (ht : eval (.Call (.Attribute (.Name x pp) m apos) [] kws pos) X.env = (do
      let r ← eval (.Name x pp) X.env
      standAt apos.atName
      let (f, first) ← holding [r] (getMethod r m pl)
      callWith pos f first (backTo pos (starEach [] X.env)) (backToKw pos (keywordEach kws X.env))) := by rfl) :
    PE X (.Call (.Attribute (.Name x pp) m apos) [] kws pos) (rd p W (gCallK0 g mx gk)) := by
  obtain ⟨CX, E, We, k, fd, ps, gg, gV, F, hr, hb, hx, hW, hl, hmx⟩ := F.ex
  refine ⟨fun pins s σ H Q I ⟨G, ρ, gd, en, po⟩ => ?_⟩
  refine PySem.W.methodCall_KW (pl := pl) (thn (hc.run pins s σ H (fun v H1 => v = .ref C ∧ H1 = H) I ⟨rfl, rfl⟩) fun u s1 ⟨v, H1, I1, rv, ev, eH⟩ => ?_) ht
  subst ev
  subst eH
  obtain rfl : u = Value.ref C := rv
  refine getstat I1 c fun s2 I2 => ?_
  refine PySem.W.callWith_KW0 (h₀ := X.base) I.ok.mod.kin c.kp hall (thn (hkw.run pos pins s2 σ H1 _ I2 ⟨G, ρ, gd, en, Po.bind po⟩) fun ws s3 ⟨zs, H2, I3, r2, G2, z, x2, gd2, rz, po2⟩ => ⟨I3.kIn, ?_⟩) hpl
  rw [hks]
  cases e1 : mx [] z with
  | none => simp only [e1] at po2; exact po2.elim
  | some a =>
    simp only [e1] at po2
    obtain ⟨l1, l2, r3⟩ := hmx _ _ [] z a [] zs .nil rz e1
    exact run_fnN (us := []) (vs := []) F hr hb hx I3 .nil r2 l1 l2 (sp_of hl hW gd2 r3 po2)
end
end Dq

/-! Own truth: __bool__. -/
namespace Dq
open PySem PySem.Spec PyProof.Rows L2
@[simp] def truO (own : Sel) (d : DV) (s : Sto) : R Bool := match insS s d with
  | some (c, _, _) => match own c with
    | some f => (f [d] s).bind fun r s1 => match r with
      | .bl k => .ok k s1
      | _ => .bad
    | none => .bad
  | none => truD d s
section
variable {p : Pg} {X : Cx} {W : WX} {own : Sel} {a : Expr} {ga : GE}
theorem truO_ok (hK : X.K = p.K) (hs : ∀ c f, own c = some f → SpC p X W c "__bool__" f) {pins : List (Addr × Obj)} {s : Shared} {σ σ' : L2.St} {H : Hp} {G : Gh} {d : DV} {v : V} {u : Value} {Q : Bool → Hp → Prop} (I : Inv X pins σ H s) (rv : RelV v u) (gd : Gd p G H) (r : Rp p G.F G.μ d v) (po : PoB p W G σ' (truO own d G.st) Q) :
    wpAny (model X.prog X.w) X.A (truthy u) (TP X pins σ Q) X.xe s := by
  unfold truO at po
  split at po
  · rename_i c ks xs hi
    split at po
    · rename_i f hf
      obtain ⟨x1, dx, fs, rfl, ea, _, _⟩ := ins_of gd r hi
      obtain rfl : u = Value.ref x1 := rv
      obtain ⟨ox, od, J⟩ := inst_at I ea
      obtain ⟨f1, h1, h2, C⟩ := (hs _ f hf).ex
      unfold truthy
      refine wpAny_bind (m := callSpecial? (.ref x1) (Str.ofString "__bool__")) (PySem.W.special_fn I.kIn J h1 (beq_iff_eq.mp h2) (thn (C.run (Q := fun w H1 => ∃ G1 e, GX G G1 ∧ Gd p G1 H1 ∧ Rp p G1.F G1.μ e w ∧ PoB p W G1 σ' (match e with
        | .bl k => .ok k G1.st
        | _ => .bad) Q) I (.cons rfl .nil : Vals [.ref x1] [.ref x1]) gd (.cons r .nil) (Po.bind po)) fun u2 s2 ⟨w, H2, I2, rw2, G1, e, x2, gd2, re, po2⟩ => ?_))
      cases re with
      | bl k =>
        obtain rfl : u2 = Value.bool k := rw2
        exact wpAny_pure ⟨H2, I2, Po.ret po2 GX.rfl' rfl gd2 rfl⟩
      | _ => exact po2.elim
    · exact po.elim
  · obtain ⟨k, t, q⟩ := tru_of (σ := σ') gd r po
    exact tru_ok pins s σ H v u Q I rv (by
      refine ⟨k, ?_, q⟩
      rw [hK]
      exact t)
theorem qtO (ha : PE X a (rd p W ga)) (hs : ∀ c f, own c = some f → SpC p X W c "__bool__" f) (he : ∀ whole, isTrue a X.env whole = (do let v ← whole; standAt a.pos; holding [v] (truthy v)) := by intro _; rfl) (hK : X.K = p.K := by rfl) : PT X a (rdB p W (gT (truO own) ga)) := by
  refine ⟨fun pins s σ H Q I ⟨G, ρ, gd, en, po⟩ => ?_⟩
  exact isTrue_plain (thn (ha.run pins s σ H _ I ⟨G, ρ, gd, en, Po.bind po⟩) fun u s1 ⟨v, H1, I1, rv, G1, d, x1, gd1, r1, po1⟩ => truO_ok hK hs I1 rv gd1 r1 po1) (he _)
@[simp] def gNotO (own : Sel) (ga : GE) : GE := fun ρ s => (ga ρ s).bind fun d s1 => (truO own d s1).bind fun k s2 => .ok (.bl (!k)) s2
theorem qnotO {pos : Pos} (ha : PE X a (rd p W ga)) (hs : ∀ c f, own c = some f → SpC p X W c "__bool__" f) (hK : X.K = p.K := by rfl) : PE X (.UnaryOp .Not a pos) (rd p W (gNotO own ga)) := by
  refine ⟨fun pins s σ H Q I ⟨G, ρ, gd, en, po⟩ => ?_⟩
  refine UnaryOp_ (thn (ha.run pins s σ H _ I ⟨G, ρ, gd, en, Po.bind po⟩) fun u s1 ⟨v, H1, I1, rv, G1, d, x1, gd1, r1, po1⟩ => ?_)
  exact not_of (thn (truO_ok (σ' := σ) hK hs I1 rv gd1 r1 (Po.bind po1)) fun k s2 ⟨H2, I2, G2, k2, x2, gd2, ek, po2⟩ => ⟨.bl (!k), H2, I2, rfl, Po.ret po2 GX.rfl' rfl gd2 (by
    have ek : k2 = k := ek
    subst ek
    exact .bl _)⟩)
end
end Dq

/-! xs.insert(i, e). -/
namespace Dq
open PySem PySem.Spec PyProof.Rows L2
section
variable {p : Pg} {X : Cx} {W : WX}
def insertD (k : Nat) (l : List DV) (s : Sto) : R DV := match l, s[k]? with
  | [.int i, d], some (some (.lst xs)) => match decide (xs.length < sizeLine ∧ 0 ≤ i ∧ i < 2 ^ 63) with
    | true => .ok .non (s.set k (some (.lst (xs.take i.toNat ++ [d] ++ xs.drop i.toNat))))
    | false => .bad
  | _, _ => .bad
@[simp] def gIns (go : GE) (gl : GL) : GE := fun ρ s => (go ρ s).bind fun o s1 => match o with
  | .mr k => match s1[k]? with
    | some (some (.lst _)) => (gl ρ s1).bind fun l s2 => insertD k l s2
    | _ => .bad
  | _ => .bad
theorem qins {o e1 e2 : Expr} {go : GE} {gl : GL} {apos cpos : Pos} (ho : PE X o (rd p W go)) (ha : PA X [e1, e2] (rdL p W gl))
    (hbase : attributeBase o "insert" X.env (eval o X.env) = eval o X.env := by rfl)
    (hfew : ((backTo cpos (starEach [e1, e2] X.env)).all (fun x => !x.1) && (backToKw cpos (keywordEach [] X.env)).all (fun x => x.1.isSome)
      && decide ([e1, e2].length + ([] : List Keyword).length + (if ([] : List Keyword).isEmpty then 0 else 1) < 30)) = true := by rfl)
    (hline : (apos.endLine == cpos.line) = true := by rfl) (hs : starEach [e1, e2] X.env = (false, eval e1 X.env) :: starEach [e2] X.env := by rfl) (hpl : (backTo cpos (starEach [e2] X.env)).any (·.1) = false := by rfl) : PE X (.Call (.Attribute o "insert" apos) [e1, e2] [] cpos) (rd p W (gIns go gl)) :=
  PE.imp (pe_bm PySem.F.plainAttrs_list PySem.F.slot_list_insert PySem.F.type_list_insert mt_insert ho ha hbase hfew hline hs hpl) fun σ H Q ⟨G, ρ, gd, en, po⟩ => ⟨G, ρ, gd, en, (Po.bind po).imp fun v H1 ⟨G1, od, x1, gd1, r1, po1⟩ => by
    split at po1
    · split at po1
      · rename_i k _ xs hk
        cases r1 with
        | mr hm =>
          obtain ⟨a, e1, e2, vs, e3, e4⟩ := gd1.live k _ hk
          rw [hm] at e1; cases e1
          refine ⟨.inl ⟨rfl, _, SqL.of e3⟩, G1, ρ, gd1, en.gx x1, (Po.bind po1).imp fun us H2 ⟨G2, l, x2, gd2, r2, po2⟩ => ?_⟩
          unfold insertD at po2
          split at po2
          · rename_i i d ys hk2
            split at po2
            · rename_i c
              have c := of_decide_eq_true c
              obtain ⟨b, f1, f2, ws, f3, f4⟩ := gd2.live k _ hk2
              have hm2 := x2.m _ _ hm
              rw [hm2] at f1; cases f1
              cases r2 with
              | cons ri r2 =>
                cases r2 with
                | cons rd r2 =>
                  cases r2
                  cases ri
                  refine ⟨_, ws, i, _, rfl, rfl, f3, by rw [← f4.length]; exact c.1, c.2.1, c.2.2, ?_⟩
                  exact Po.ret po2 GX.put rfl (gd2.put hm2 f2 ⟨_, rfl, ((f4.take _).app (.cons rd .nil)).app (f4.drop _)⟩) .non
            · exact po2.elim
          · exact po2.elim
      · exact po1.elim
    · exact po1.elim⟩
end
end Dq

/-! Texts: str(x), bool(x), methods of texts, f'..'. -/
namespace Dq
open PySem PySem.Spec PyProof.Rows L2
section
variable {p : Pg} {X : Cx} {W : WX}
def strB : List DV → Sto → R DV
  | [.int i], s => okIf (decide (i.natAbs.log2 < 1920)) (.str (toString i)) s
  | [.str z], s => .ok (.str z) s
  | _, _ => .bad
theorem opd_str : CallR X (.type "str") (rCal p W strB) := CallR.of fun G H σ ds vs Q gd rs po => by
  unfold strB at po
  split at po
  · rename_i i
    cases rs with
    | cons r t =>
      cases t
      cases r
      obtain ⟨c, po⟩ := okIf_po po
      exact ⟨_, call_str_int, i, rfl, of_decide_eq_true c, Po.ret po GX.rfl' rfl gd (.str _)⟩
  · rename_i z
    cases rs with
    | cons r t =>
      cases t
      cases r
      exact ⟨_, SkE.call_str_str, z, rfl, Po.ret po GX.rfl' rfl gd (.str _)⟩
  · exact po.elim
def boolB : List DV → Sto → R DV
  | [.int i], s => .ok (.bl (i != 0)) s
  | [.bl k], s => .ok (.bl k) s
  | _, _ => .bad
theorem opd_bool : CallR X (.type "bool") (rCal p W boolB) := CallR.of fun G H σ ds vs Q gd rs po => by
  unfold boolB at po
  split at po
  · rename_i i
    cases rs with
    | cons r t =>
      cases t
      cases r
      exact ⟨_, call_bool1, .inl ⟨i, rfl, Po.ret po GX.rfl' rfl gd (.bl _)⟩⟩
  · rename_i k
    cases rs with
    | cons r t =>
      cases t
      cases r
      exact ⟨_, call_bool1, .inr ⟨k, rfl, Po.ret po GX.rfl' rfl gd (.bl _)⟩⟩
  · exact po.elim
/-- z.m(..), z a text -/
@[simp] def gSm (g : Str → List DV → Sto → R DV) (go : GE) (gl : GL) : GE := fun ρ s => (go ρ s).bind fun o s1 => match o with
  | .str z => (gl ρ s1).bind fun l s2 => g z l s2
  | _ => .bad
/-- what a method of texts does, by data -/
def SmR (p : Pg) (X : Cx) (W : WX) (id : String) (g : Str → List DV → Sto → R DV) : Prop := ∀ (G : Gh) (H : Hp) (σ : L2.St) (z : Str) (ds : List DV) (vs : List V) (Q : VK), Gd p G H → Rps p G.F G.μ ds vs → PoV p W G σ (g z ds G.st) Q → ∃ r : V → List V → Hp → VK → Prop, MtR X id r ∧ r (.str z) vs H Q
theorem smr {id : String} {g : Str → List DV → Sto → R DV} (h : SmR p X W id g) : MtR X id (fun x vs H Q => ∃ G σ z ds, x = .str z ∧ Gd p G H ∧ Rps p G.F G.μ ds vs ∧ PoV p W G σ (g z ds G.st) Q) := fun pins s σ H x vs v us Q I rx rv ⟨G, σ', z, ds, ex, gd, rs, po⟩ => by
  subst ex
  obtain ⟨r, hr, q⟩ := h G H σ' z ds vs Q gd rs po
  exact hr pins s σ H _ vs v us Q I rx rv q
section
variable {o e : Expr} {es : List Expr} {go : GE} {gl : GL} {name : Str} {id : String} {apos cpos : Pos} {g : Str → List DV → Sto → R DV}
theorem qsm (slot : Slot "str" name id) (hty : typeOf (.builtin id) = pure (.type "method_descriptor")) (h : SmR p X W id g) (ho : PE X o (rd p W go)) (ha : PA X (e :: es) (rdL p W gl))
    (hbase : attributeBase o name X.env (eval o X.env) = eval o X.env := by rfl)
    (hfew : ((backTo cpos (starEach (e :: es) X.env)).all (fun x => !x.1) && (backToKw cpos (keywordEach [] X.env)).all (fun x => x.1.isSome)
      && decide ((e :: es).length + ([] : List Keyword).length + (if ([] : List Keyword).isEmpty then 0 else 1) < 30)) = true := by rfl)
    (hline : (apos.endLine == cpos.line) = true := by rfl) (hs : starEach (e :: es) X.env = (false, eval e X.env) :: starEach es X.env := by rfl) (hpl : (backTo cpos (starEach es X.env)).any (·.1) = false := by rfl) :
    PE X (.Call (.Attribute o name apos) (e :: es) [] cpos) (rd p W (gSm g go gl)) :=
  PE.imp (pe_bm PySem.F.plainAttrs_str slot hty (smr h) ho ha hbase hfew hline hs hpl) fun σ H Q ⟨G, ρ, gd, en, po⟩ => ⟨G, ρ, gd, en, (Po.bind po).imp fun v H1 ⟨G1, od, x1, gd1, r1, po1⟩ => by
    split at po1
    · rename_i z
      cases r1
      exact ⟨rfl, G1, ρ, gd1, en.gx x1, (Po.bind po1).imp fun vs H2 ⟨G2, l, x2, gd2, r2, po2⟩ => ⟨G2, σ, z, l, rfl, gd2, r2, po2⟩⟩
    · exact po1.elim⟩
theorem qsm0 (slot : Slot "str" name id) (hty : typeOf (.builtin id) = pure (.type "method_descriptor")) (h : SmR p X W id g) (ho : PE X o (rd p W go))
    (hbase : attributeBase o name X.env (eval o X.env) = eval o X.env := by rfl) (hline : (apos.endLine == cpos.line) = true := by rfl) :
    PE X (.Call (.Attribute o name apos) [] [] cpos) (rd p W (gSm g go gNil)) :=
  PE.imp (pe_bm0 PySem.F.plainAttrs_str slot hty (smr h) ho hbase hline) fun σ H Q ⟨G, ρ, gd, en, po⟩ => ⟨G, ρ, gd, en, (Po.bind po).imp fun v H1 ⟨G1, od, x1, gd1, r1, po1⟩ => by
    split at po1
    · rename_i z
      cases r1
      exact ⟨rfl, G1, σ, z, [], rfl, gd1, .nil, po1⟩
    · exact po1.elim⟩
end
def strsD : List DV → Option (List Str)
  | [] => some []
  | .str z :: r => (strsD r).map (z :: ·)
  | _ :: _ => none
theorem strs_of {F : Hp} {μ : List Addr} : ∀ {ds : List DV} {vs : List V} {ys : List Str}, Rps p F μ ds vs → strsD ds = some ys → vs = ys.map V.str
  | [], _, ys, .nil, h => by cases h; rfl
  | d :: ds, _, ys, .cons r t, h => by
    cases r with
    | str z =>
      have h : (strsD ds).map (z :: ·) = some ys := h
      cases e : strsD ds with
      | none => rw [e] at h; cases h
      | some zs =>
        rw [e] at h
        cases h
        rw [strs_of t e]
        rfl
    | _ => cases h
/-- sep.join(a list or a tuple of texts) -/
def joinB (z : Str) : List DV → Sto → R DV
  | [d], s => match seqS s d with
    | some xs => match strsD xs with
      | some ys => okIf (decide ((ys.map (·.length)).sum + ys.length * z.length ≤ 16777216)) (.str (Txt.join z ys)) s
      | none => .bad
    | none => .bad
  | _, _ => .bad
def digitB (z : Str) : List DV → Sto → R DV
  | [], s => .ok (.bl (Txt.isdigit z)) s
  | _, _ => .bad
theorem sm_digit : SmR p X W "str.isdigit" digitB := fun G H σ z ds vs Q gd rs po => by
  unfold digitB at po
  split at po
  · cases rs
    exact ⟨_, mt_isdigit, z, rfl, rfl, trivial, Po.ret po GX.rfl' rfl gd (.bl _)⟩
  · exact po.elim
def startsB (z : Str) : List DV → Sto → R DV
  | [.str y], s => .ok (.bl (Txt.startswith z y)) s
  | _, _ => .bad
theorem sm_starts : SmR p X W "str.startswith" startsB := fun G H σ z ds vs Q gd rs po => by
  unfold startsB at po
  split at po
  · cases rs with
    | cons r t =>
      cases t
      cases r
      exact ⟨_, mt_startswith, z, _, rfl, rfl, Po.ret po GX.rfl' rfl gd (.bl _)⟩
  · exact po.elim
theorem sm_join (hK : X.K = p.K) : SmR p X W "str.join" joinB := fun G H σ z ds vs Q gd rs po => by
  unfold joinB at po
  split at po
  · rename_i d
    cases rs with
    | cons r t =>
      cases t
      split at po
      · rename_i xs hx
        split at po
        · rename_i ys hy
          obtain ⟨c, po⟩ := okIf_po po
          obtain ⟨a, us, rfl, hs, ru⟩ := seq_of gd r hx
          have e := strs_of ru hy
          subst e
          exact ⟨_, mt_join, z, a, ys, rfl, rfl, by rw [hK]; exact hs, of_decide_eq_true c, Po.ret po GX.rfl' rfl gd (.str _)⟩
        · exact po.elim
      · exact po.elim
  · exact po.elim
def zfillB (z : Str) : List DV → Sto → R DV
  | [.int i], s => okIf (PadOk i) (.str (Txt.zfill z i)) s
  | _, _ => .bad
theorem sm_zfill : SmR p X W "str.zfill" zfillB := fun G H σ z ds vs Q gd rs po => by
  unfold zfillB at po
  split at po
  · rename_i i
    cases rs with
    | cons r t =>
      cases t
      cases r
      obtain ⟨c, po⟩ := okIf_po po
      exact ⟨_, mt_zfill, z, i, rfl, rfl, c, Po.ret po GX.rfl' rfl gd (.str _)⟩
  · exact po.elim
def asciiB (z : Str) : List DV → Sto → R DV
  | [], s => .ok (.bl (Txt.isascii z)) s
  | _, _ => .bad
theorem sm_ascii : SmR p X W "str.isascii" asciiB := fun G H σ z ds vs Q gd rs po => by
  unfold asciiB at po
  split at po
  · cases rs
    exact ⟨_, mt_isascii, z, rfl, rfl, trivial, Po.ret po GX.rfl' rfl gd (.bl _)⟩
  · exact po.elim
def rmpreB (z : Str) : List DV → Sto → R DV
  | [.str y], s => okIf (decide (z.length ≤ sizeLine)) (.str (Txt.removeprefix z y)) s
  | _, _ => .bad
theorem sm_rmpre : SmR p X W "str.removeprefix" rmpreB := fun G H σ z ds vs Q gd rs po => by
  unfold rmpreB at po
  split at po
  · rename_i y
    cases rs with
    | cons r t =>
      cases t
      cases r
      obtain ⟨c, po⟩ := okIf_po po
      exact ⟨_, mt_removeprefix, z, y, rfl, rfl, of_decide_eq_true c, Po.ret po GX.rfl' rfl gd (.str _)⟩
  · exact po.elim
def partB (z : Str) : List DV → Sto → R DV
  | [.str y], s => okIf (!(y.length == 0) && decide (z.length ≤ sizeLine)) (.tup [.str (Txt.partition z y).1, .str (Txt.partition z y).2.1, .str (Txt.partition z y).2.2]) s
  | _, _ => .bad
theorem sm_part : SmR p X W "str.partition" partB := fun G H σ z ds vs Q gd rs po => by
  unfold partB at po
  split at po
  · rename_i y
    cases rs with
    | cons r t =>
      cases t
      cases r
      obtain ⟨c, po⟩ := okIf_po po
      rw [Bool.and_eq_true] at c
      refine ⟨_, mt_partition, z, y, rfl, rfl, by simpa using c.1, of_decide_eq_true c.2, fun q hq => ?_⟩
      have x1 := GX.lay gd (o := .tup [.str (Txt.partition z y).1, .str (Txt.partition z y).2.1, .str (Txt.partition z y).2.2]) hq
      refine Po.ret po x1 rfl (gd.lay hq) (.tup (SqT.of (by show upd G.F q _ q = _; rw [upd_same])) (.cons (.str _) (.cons (.str _) (.cons (.str _) .nil))))
  · exact po.elim
/-! f'..' -/
@[simp] def gFmt (ge : GE) : GE := fun ρ s => (ge ρ s).bind fun d s1 => match d with
  | .str y => okIf (decide (y.length ≤ sizeLine)) (.str y) s1
  | .int i => okIf (decide (i.natAbs.log2 < 1920)) (.str (toString i)) s1
  | _ => .bad
theorem qfmt {e : Expr} {pos : Pos} {ge : GE} (he : PE X e (rd p W ge)) : PE X (.FormattedValue e (-1) none pos) (rd p W (gFmt ge)) :=
  PE.imp (pe_fmt he) fun σ H Q ⟨G, ρ, gd, en, po⟩ => ⟨G, ρ, gd, en, (Po.bind po).imp fun v H1 ⟨G1, d, x1, gd1, r1, po1⟩ => by
    split at po1
    · rename_i y
      cases r1
      obtain ⟨c, po1⟩ := okIf_po po1
      exact .inl ⟨y, rfl, of_decide_eq_true c, Po.ret po1 GX.rfl' rfl gd1 (.str _)⟩
    · rename_i i
      cases r1
      obtain ⟨c, po1⟩ := okIf_po po1
      exact .inr ⟨i, rfl, of_decide_eq_true c, Po.ret po1 GX.rfl' rfl gd1 (.str _)⟩
    · exact po1.elim⟩
@[simp] def joinG : List GE → Str → GE
  | [], acc => fun _ s => .ok (.str acc) s
  | g :: gs, acc => fun ρ s => (g ρ s).bind fun d s1 => match d with
    | .str y => match decide ((acc ++ y).length ≤ sizeLine) with
      | true => joinG gs (acc ++ y) ρ s1
      | false => .bad
    | _ => .bad
theorem tjs_of : ∀ (gs : List GE) (acc : Str) (σ : L2.St) (H : Hp) (Q : VK), rd p W (joinG gs acc) σ H Q → tJs (gs.map fun g => rd p W g) acc σ H fun out H1 => Q (.str out) H1
  | [], acc, σ, H, Q, ⟨G, ρ, gd, en, po⟩ => Po.ret po GX.rfl' rfl gd (.str _)
  | g :: gs, acc, σ, H, Q, ⟨G, ρ, gd, en, po⟩ => ⟨G, ρ, gd, en, (Po.bind po).imp fun v H1 ⟨G1, d, x1, gd1, r1, po1⟩ => by
    split at po1
    · rename_i y
      cases r1
      split at po1
      · rename_i c
        exact ⟨y, rfl, of_decide_eq_true c, tjs_of gs (acc ++ y) σ H1 Q ⟨G1, ρ, gd1, en.gx x1, po1⟩⟩
      · exact po1.elim
    · exact po1.elim⟩
/-- f'..' of two parts or more -/
theorem qjoined {v1 v2 : Expr} {rest : List Expr} {pos : Pos} {gs : List GE} (h : PJ X (v1 :: v2 :: rest) (gs.map fun g => rd p W g)) : PE X (.JoinedStr (v1 :: v2 :: rest) pos) (rd p W (joinG gs Str.empty)) :=
  PE.imp (pe_joined h) fun σ H Q h => tjs_of gs Str.empty σ H Q h
theorem mixP_ok {n m : Nat} {F : Hp} {μ : List Addr} {l z a : List DV} {vs zs : List V} (r1 : Rps p F μ l vs) (r2 : Rps p F μ z zs) (h : mixP n m l z = some a) : vs.length = n ∧ zs.length = m ∧ Rps p F μ a (vs ++ zs) := by
  unfold mixP at h
  split at h
  · rename_i c
    have c := of_decide_eq_true c
    cases h
    exact ⟨by rw [← r1.length]; exact c.1, by rw [← r2.length]; exact c.2, r1.app r2⟩
  · cases h
end
end Dq

/-! a != b of own objects, by their own ==. -/
namespace Dq
open PySem PySem.Spec PyProof.Rows L2
/-- X within a builtin -/
def in1X (X : Cx) : Cx := { X with A := X.A.in1 }
theorem ok_in1 {X : Cx} (h : X.Ok) : (in1X X).Ok := { h with }
theorem inv_in1 {X : Cx} {pins : List (Addr × Obj)} {σ : L2.St} {H : Hp} {s : Shared} (I : Inv X pins σ H s) : Inv (in1X X) pins σ H s := { I with ok := ok_in1 I.ok }
theorem ok_out1 {X : Cx} (h : (in1X X).Ok) : X.Ok := { h with }
theorem inv_out1 {X : Cx} {pins : List (Addr × Obj)} {σ : L2.St} {H : Hp} {s : Shared} (I : Inv (in1X X) pins σ H s) : Inv X pins σ H s := { I with ok := ok_out1 I.ok }
/-- the class has its own ==, and no != of its own -/
structure NeC (p : Pg) (X : Cx) (W : WX) (c : Nat) (g : List DV → Sto → R DV) : Prop where
  sp : SpC p (in1X X) W c "__eq__" g
  ne : PySem.W.findIn X.K (.ref (p.cA c)) "__ne__" = some (some (.builtin "object.__ne__"))
  mro : PySem.W.mroIn X.K (p.cA c) (.type "object") = some true
section
variable {prog : Program} {w : World} {A : Around} {E : Value → Shared → Prop} {s : Shared} {K : PySem.W.Frag} {x C f L : Addr} {h₀ : Heap} {m : Str → Option Value} {ox : Obj} {od : Option Obj} {b tb : Value}
theorem ifBound_ne {args : List Value} {Q : Option Value → Shared → Prop} (X : K.In s.heap) (I : PySem.W.InstAt s.heap x ox C od) (hs : PySem.W.findIn K (.ref C) "__ne__" = some (some (.builtin "object.__ne__")))
    (h : wpAny (model prog w) A (call (.builtin "object.__ne__") (.ref x :: args)) (fun v => Q (some v)) E s) : wpAny (model prog w) A (callSpecialIfBound? (.ref x) "__ne__" args) Q E s := by
  simp only [callSpecialIfBound?, bindSpecialIfBound?]
  refine wpAny_holding (wpAny_bind (wpAny_bind (wpAny_bind (I.type.here ((PySem.W.looks_findIn X hs).here ?_)))))
  refine wpAny_bind (wpAny_askSetting (wpAny_ite ?_))
  have fin : wpAny (model prog w) A (call (.builtin "object.__ne__") ([.ref x] ++ args) >>= fun v => pure (some v)) Q E s := wpAny_bind (wpAny_mono h (fun v s' h' => wpAny_pure h') fun _ _ h' => h')
  split
  · exact wpAny_bind (wpAny_of_eq (F.cmp_object.ne.bind _) (wpAny_pure (by exact fin)))
  · exact wpAny_tryCatch (wpAny_bind (wpAny_of_eq (F.cmp_object.ne.bind _) (wpAny_pure (by exact fin))))
/-- what the own == gave, within object.__ne__ -/
def NeBack (Q : Value → Shared → Prop) (v : Value) (s' : Shared) : Prop := ∃ k, v = .bool k ∧ Q (.bool (!k)) s'
theorem ne_K {Q : Value → Shared → Prop} (hu : A.units + 1 < cLine) (Fh : Fr h₀ L s.heap m) (X₀ : K.In h₀) (I : PySem.W.InstAt s.heap x ox C od) (hb : PySem.W.Looks (model prog w) s.heap (typeOf b) tb) (hn : PySem.W.notFirst K C tb = true)
    (hne : PySem.W.findIn K (.ref C) "__ne__" = some (some (.builtin "object.__ne__"))) (hm : PySem.W.mroIn K C (.type "object") = some true)
    (hs : PySem.W.findIn K (.ref C) "__eq__" = some (some (.ref f))) (hf : PySem.W.isFn K (.ref f) = true)
    (h : wpAny (model prog w) A.in1 (call (.ref f) [.ref x, b]) (NeBack Q) E s) : wpAny (model prog w) A (richCompare .NotEq (.ref x) b) Q E s := by
  have X := X₀.keeps Fh.keep
  have hu0 : A.units < cLine := Nat.lt_of_succ_lt hu
  have inner : wpAny (model prog w) A.in1 (Builtin.«object.__ne__» ⟨[.ref x, b], []⟩) (fun fin s' => ∃ k, fin = .done (.ret (.bool k)) ∧ Q (.bool k) s') E s := by
    unfold Builtin.«object.__ne__»
    have sa : slotArgs "__ne__" 1 ⟨[.ref x, b], []⟩ = pure (.ref x, [b]) := rfl
    rw [sa]
    refine wpAny_bind (wpAny_pure ?_)
    refine wpAny_bind (wpAny_cRoomFor (A := A.in1) hu ?_)
    refine wpAny_bind (PySem.W.ifBound_K X I hs hf (wpAny_mono h (fun v s' hv => ?_) fun _ _ e => e))
    obtain ⟨k, rfl, q⟩ := hv
    refine wpAny_bind (wpAny_truthy_bool ?_)
    exact wpAny_pure ⟨_, rfl, q⟩
  have one : wpAny (model prog w) A (tryCompare (.ref x) "__ne__" b) (fun r s' => ∃ v, r = some v ∧ Q v s') E s := by
    unfold tryCompare
    refine wpAny_bind (ifBound_ne X I hne (wpAny_call (codeAny_call_builtin F.cmp_object.ne.plain F.cmpEntry_ne (PySem.W.check_slot F.cmpKind_ne F.cmpSplit_ne (I.type.andThen (PySem.W.looks_mroIn X hm)) (F.cmpArgs_ne _ _) (wpAny_mono inner (fun v s' hv => ?_) fun _ _ e => e)))))
    obtain ⟨k, rfl, q⟩ := hv
    exact wpAny_pure ⟨_, rfl, q⟩
  unfold richCompare
  simp only [oneThing_ref]
  refine wpAny_holding (wpAny_bind (wpAny_cRoomFor hu0 ?_))
  refine wpAny_bind (I.type.here (wpAny_bind (hb.here ?_)))
  split
  · rename_i q
    have e : PySem.W.subIn K tb (.ref C) = some false := by
      rcases Bool.or_eq_true_iff.mp hn with e | e
      · rw [beq_iff_eq.mp e] at q; simp at q
      · exact beq_iff_eq.mp e
    refine wpAny_bind ((PySem.W.looks_subIn X e).here ?_)
    simp only [Bool.false_eq_true, if_false]
    refine wpAny_bind (wpAny_mono one (fun r s' z => ?_) fun _ _ e => e)
    obtain ⟨v, rfl, hq⟩ := z
    exact wpAny_pure hq
  · refine wpAny_bind (wpAny_pure ?_)
    simp only [Bool.false_eq_true, if_false]
    refine wpAny_bind (wpAny_mono one (fun r s' z => ?_) fun _ _ e => e)
    obtain ⟨v, rfl, hq⟩ := z
    exact wpAny_pure hq
end
section
variable {p : Pg} {X : Cx} {W : WX}
@[simp] def ownNe (own : Sel) (g : DV → DV → Sto → R DV) (a b : DV) (s : Sto) : R DV := match insS s a with
  | some (c, _, _) => match own c, insS s b with
    | some f, some (c', _, _) => match decide (c' = c) with
      | true => (f [a, b] s).bind fun r s1 => match r with
        | .bl k => .ok (.bl (!k)) s1
        | _ => .bad
      | false => .bad
    | _, _ => .bad
  | none => g a b s
theorem opd_ownNe {own : Sel} {g : DV → DV → Sto → R DV} (hu : X.A.units + 1 < cLine) (h : OpR X (compareOp .NotEq) (rOp p W g)) (hs : ∀ c f, own c = some f → NeC p X W c f) : OpR X (compareOp .NotEq) (rOp p W (ownNe own g)) :=
  fun pins s σ H x y v u Q I rx ry ⟨G, a, b, σ', gd, ra, rb, po⟩ => by
    unfold ownNe at po
    split at po
    · rename_i c ks xs hi
      split at po
      · rename_i f c' ks' xs' hf hi'
        split at po
        · rename_i hc
          have hc := of_decide_eq_true hc
          subst hc
          obtain ⟨x1, dx, fs, rfl, ea, _, _⟩ := ins_of gd ra hi
          obtain ⟨y1, dy, fs', rfl, eb, _, _⟩ := ins_of gd rb hi'
          obtain rfl : v = Value.ref x1 := rx
          obtain rfl : u = Value.ref y1 := ry
          obtain ⟨ox, od, J⟩ := inst_at I ea
          obtain ⟨oy, od', J'⟩ := inst_at I eb
          obtain ⟨m, hF⟩ := I.fr
          have N := hs _ f hf
          obtain ⟨f1, h1, h2, C⟩ := N.sp.ex
          show wpAny (model X.prog X.w) X.A (richCompare .NotEq (.ref x1) (.ref y1)) (EP X pins σ Q) X.xe s
          refine ne_K hu hF I.ok.mod.kin J J'.type (by simp [PySem.W.notFirst]) N.ne N.mro h1 h2 (thn (C.run (X := in1X X) (Q := fun w H1 => ∃ G1 e, GX G G1 ∧ Gd p G1 H1 ∧ Rp p G1.F G1.μ e w ∧ PoV p W G1 σ' (match e with
            | .bl k => .ok (.bl (!k)) G1.st
            | _ => .bad) Q) (inv_in1 I) (.cons rfl (.cons rfl .nil) : Vals [.ref x1, .ref y1] [.ref x1, .ref y1]) gd (.cons ra (.cons rb .nil)) (by rw [List.append_nil]; exact Po.bind po)) fun u2 s2 z => ?_)
          obtain ⟨w, H2, I2, rw2, G1, e, x2, gd2, re, po2⟩ := z
          cases re with
          | bl k =>
            obtain rfl : u2 = Value.bool k := rw2
            exact ⟨k, rfl, .bl (!k), H2, inv_out1 I2, rfl, Po.ret po2 GX.rfl' rfl gd2 (.bl _)⟩
          | _ => exact po2.elim
        · exact po.elim
      · exact po.elim
    · exact h pins s σ H x y v u Q I rx ry ⟨G, a, b, σ', gd, ra, rb, po⟩
variable {P : Program} {w : World} {mg : Str → Option Value} {base : Heap} {lv n : Nat} {f : Addr} {m : List DV → Sto → R DV}
theorem OkD.ne {c : Nat} (o : OkD p P w mg base lv f n m []) (h1 : PySem.W.findIn X.K (.ref (p.cA c)) "__eq__" = some (some (.ref f))) (h2 : PySem.W.isFn X.K (.ref f) = true)
    (h3 : PySem.W.findIn X.K (.ref (p.cA c)) "__ne__" = some (some (.builtin "object.__ne__")) ∧ PySem.W.mroIn X.K (p.cA c) (.type "object") = some true) (hr : Room (lv + 1) X.A) (e : At X p P w mg base := by exact ⟨rfl, rfl, rfl, rfl, rfl⟩) : NeC p X W0 c m :=
  ⟨o.sp (X := in1X X) h1 h2 hr.in1 ⟨e.e1, e.e2, e.e3, e.e4, e.e5⟩, h3.1, h3.2⟩
end
open PySem.W in
def neB (K : Frag) (C : Addr) : Bool := decide (findIn K (.ref C) "__ne__" = some (some (.builtin "object.__ne__"))) && decide (mroIn K C (.type "object") = some true)
theorem ne_ok {K : PySem.W.Frag} {C : Addr} (h : neB K C = true) : PySem.W.findIn K (.ref C) "__ne__" = some (some (.builtin "object.__ne__")) ∧ PySem.W.mroIn K C (.type "object") = some true :=
  ⟨of_decide_eq_true (Bool.and_eq_true_iff.mp h).1, of_decide_eq_true (Bool.and_eq_true_iff.mp h).2⟩
end Dq

/-! Comprehensions over range(..). -/
namespace Dq
open PySem PySem.Spec PyProof.Rows L2
def gLr (f : List DV → Option (Int × Nat)) (gl : GL) (t : GTg) (vs : List Nat) (tst : GB) (el : GE) : GE := fun ρ s => (gl ρ s).bind fun l s1 => match f l with
  | some q => match lcR t tst el (wipeD ρ vs) s1.length (rangeI q.1 q.2) (s1 ++ [some (.lst [])]) with
    | some s2 => lcEnd s1 s2
    | none => .bad
  | none => .bad
section
variable {p : Pg} {W : WX} {X : Cx}
theorem lcr_walk {vs0 : List Nat} {g : TG} {t : GTg} {tst : GB} {el : GE} {σ : L2.St} {Q : VK} (tb : TgB p g t vs0) {G1 : Gh} {ρ : En} {H1 : Hp} {lo : Int} {n : Nat} {s2 : Sto} (en : EnR p G1 ρ σ) (gd1 : Gd p G1 H1)
    (hl : lcR t tst el (wipeD ρ vs0) G1.st.length (rangeI lo n) (G1.st ++ [some (.lst [])]) = some s2) (po1 : PoV p W G1 σ (lcEnd G1.st s2) Q) (D : Addr) (hD : H1 D = none) : ∃ W : Nat → Nat → Hp → Prop, (∃ m, W 0 m (upd H1 D (.lst []))) ∧ ∀ i m H, W i m H →
      ((Itr lo n).stop i H ∧ Q (.ref D) H) ∨ ((Itr lo n).go i H ∧ ∃ Nx : Hp → Prop, (∀ H', Nx H' → ∃ m', m' < m ∧ W (i + 1) m' H') ∧ ∀ x H', (Itr lo n).yld i H x H' → g x (wipe σ vs0) H' fun σ2 H2 => wipe σ2 vs0 = wipe σ vs0 ∧ rdB p W0 tst σ2 H2 fun b H3 =>
        if b = true then rd p W0 el σ2 H3 fun y H4 => ∃ acc, H4 D = some (.lst acc) ∧ acc.length < sizeLine ∧ Nx (upd H4 D (.lst (acc ++ [y]))) else Nx H3) := by
  have fini : LcI p G1 D t tst el (wipeD ρ vs0) σ (fun H => Q (.ref D) H) (rangeI lo n) (upd H1 D (.lst [])) :=
    ⟨G1.add D (.lst []), s2, GX.rfl', gd1.add hD ⟨[], rfl, .nil⟩, hl, fun G3 H3 x3 g3 e3 => by
      subst e3
      exact lc_end gd1 x3 g3 po1⟩
  refine lc_range (fun i H => LcI p G1 D t tst el (wipeD ρ vs0) σ (fun H => Q (.ref D) H) ((rangeI lo n).drop i) H) fini (fun i H hi hI => ?_) (fun H hI => ?_)
  · have hI : LcI p G1 D t tst el (wipeD ρ vs0) σ (fun H => Q (.ref D) H) ((rangeI lo n).drop i) H := hI
    rw [rangeI_at hi] at hI
    exact lc_turn gd1 en tb (.int _) hI
  · have e : (rangeI lo n).drop n = [] := by
      apply List.drop_eq_nil_of_le
      simp [rangeI]
    have hI : LcI p G1 D t tst el (wipeD ρ vs0) σ (fun H => Q (.ref D) H) ((rangeI lo n).drop n) H := hI
    rw [e] at hI
    obtain ⟨G2, s3, x2, g2, e3, h2⟩ := hI
    rw [lcR] at e3
    cases e3
    exact h2 G2 H x2 g2 rfl
theorem lcr1_imp {vs0 : List Nat} {gl : GL} {g : TG} {t : GTg} {tst : GB} {el : GE} {σ : L2.St} {H : Hp} {Q : VK} (tb : TgB p g t vs0) (h : rd p W (gLr rng1 gl t vs0 tst el) σ H Q) :
    tLc (iRng1 (rdL p W gl)) g (rdB p W0 tst) (rd p W0 el) vs0 σ H Q := by
  obtain ⟨G, ρ, gd, en, po⟩ := h
  refine ⟨G, ρ, gd, en, (Po.bind po).imp fun ls H1 ⟨G1, l, x1, gd1, r1, po1⟩ => ?_⟩
  split at po1
  · rename_i q h
    split at po1
    · rename_i s2 hl
      unfold rng1 at h
      split at h
      · split at h
        · rename_i c
          cases h
          cases r1 with
          | cons r1 r2 =>
            cases r2; cases r1
            have c := of_decide_eq_true c
            exact ⟨_, rfl, c.1, c.2, fun D hD => lcr_walk tb (en.gx x1) gd1 hl po1 D hD⟩
        · cases h
      · cases h
    · exact po1.elim
  · exact po1.elim
theorem lcr2_imp {vs0 : List Nat} {gl : GL} {g : TG} {t : GTg} {tst : GB} {el : GE} {σ : L2.St} {H : Hp} {Q : VK} (tb : TgB p g t vs0) (h : rd p W (gLr rng2 gl t vs0 tst el) σ H Q) :
    tLc (iRng2 (rdL p W gl)) g (rdB p W0 tst) (rd p W0 el) vs0 σ H Q := by
  obtain ⟨G, ρ, gd, en, po⟩ := h
  refine ⟨G, ρ, gd, en, (Po.bind po).imp fun ls H1 ⟨G1, l, x1, gd1, r1, po1⟩ => ?_⟩
  split at po1
  · rename_i q h
    split at po1
    · rename_i s2 hl
      unfold rng2 at h
      split at h
      · split at h
        · rename_i c
          cases h
          cases r1 with
          | cons r1 r2 =>
            cases r2 with
            | cons r2 r3 =>
              cases r3; cases r1; cases r2
              have c := of_decide_eq_true c
              exact ⟨_, _, rfl, c, fun D hD => lcr_walk tb (en.gx x1) gd1 hl po1 D hD⟩
        · cases h
      · cases h
    · exact po1.elim
  · exact po1.elim
theorem qlr1 {a elt tg : Expr} {rp cp : Pos} {ifs : List Expr} {scope : Scope} {own : List (Str × Nat)} {pos : Pos} {gl : GL} {g : TG} {t : GTg} {tst : GB} {el : GE} (hc : X.calm = true) (hN : X.N.Nodup) (hm : X.mg "range" = none) (ha : PA X [a] (rdL p W gl)) (ok : BlkOk X.N X.env.scope scope own)
    (tb : TgB p g t (own.map (·.2))) (hg : ∀ (s : Shared) (H : Hp) (C : Addr) (cl : List (Str × Addr)) (fp : List Addr), PG (X.blk s H scope (compEnvC scope cl C X.env) fp) tg g)
    (ht : ∀ (s : Shared) (H : Hp) (C : Addr) (cl : List (Str × Addr)) (fp : List Addr), PTs (X.blk s H scope (compEnvC scope cl C X.env) fp) ifs (rdB p W0 tst))
    (he : ∀ (s : Shared) (H : Hp) (C : Addr) (cl : List (Str × Addr)) (fp : List Addr), PE (X.blk s H scope (compEnvC scope cl C X.env) fp) elt (rd p W0 el)) (hgr : Gl X "range" := by rfl)
    (hse : starEach [a] X.env = [(false, eval a X.env)] := by rfl) (hs : ∀ x, foldedSetIterable (.Call (.Name "range" rp) [a] [] cp) X.env x = pure x := by intro _; rfl) :
    PE X (.ListComp elt [⟨tg, .Call (.Name "range" rp) [a] [] cp, ifs, 0⟩] scope pos) (rd p W (gLr rng1 gl t (own.map (·.2)) tst el)) :=
  PE.imp (pe_lc hc hN (pi_range1 hgr hm ha hse) ok hg ht he hs) fun σ H Q h => lcr1_imp tb h
theorem qlr2 {a b elt tg : Expr} {rp cp : Pos} {ifs : List Expr} {scope : Scope} {own : List (Str × Nat)} {pos : Pos} {gl : GL} {g : TG} {t : GTg} {tst : GB} {el : GE} (hc : X.calm = true) (hN : X.N.Nodup) (hm : X.mg "range" = none) (ha : PA X [a, b] (rdL p W gl)) (ok : BlkOk X.N X.env.scope scope own)
    (tb : TgB p g t (own.map (·.2))) (hg : ∀ (s : Shared) (H : Hp) (C : Addr) (cl : List (Str × Addr)) (fp : List Addr), PG (X.blk s H scope (compEnvC scope cl C X.env) fp) tg g)
    (ht : ∀ (s : Shared) (H : Hp) (C : Addr) (cl : List (Str × Addr)) (fp : List Addr), PTs (X.blk s H scope (compEnvC scope cl C X.env) fp) ifs (rdB p W0 tst))
    (he : ∀ (s : Shared) (H : Hp) (C : Addr) (cl : List (Str × Addr)) (fp : List Addr), PE (X.blk s H scope (compEnvC scope cl C X.env) fp) elt (rd p W0 el)) (hgr : Gl X "range" := by rfl)
    (hse : starEach [a, b] X.env = [(false, eval a X.env), (false, eval b X.env)] := by rfl) (hse2 : starEach [b] X.env = [(false, eval b X.env)] := by rfl) (hs : ∀ x, foldedSetIterable (.Call (.Name "range" rp) [a, b] [] cp) X.env x = pure x := by intro _; rfl) :
    PE X (.ListComp elt [⟨tg, .Call (.Name "range" rp) [a, b] [] cp, ifs, 0⟩] scope pos) (rd p W (gLr rng2 gl t (own.map (·.2)) tst el)) :=
  PE.imp (pe_lc hc hN (pi_range2 hgr hm ha hse hse2) ok hg ht he hs) fun σ H Q h => lcr2_imp tb h
theorem ssetLr1 (i : Nat) {y : Str} {py spos : Pos} {a elt tg : Expr} {rp cp : Pos} {ifs : List Expr} {scope : Scope} {own : List (Str × Nat)} {pos : Pos} {gl : GL} {g : TG} {t : GTg} {tst : GB} {el : GE} (hc : X.calm = true) (hN : X.N.Nodup) (hm : X.mg "range" = none) (ha : PA X [a] (rdL p W gl)) (ok : BlkOk X.N X.env.scope scope own)
    (tb : TgB p g t (own.map (·.2))) (hg : ∀ (s : Shared) (H : Hp) (C : Addr) (cl : List (Str × Addr)) (fp : List Addr), PG (X.blk s H scope (compEnvC scope cl C X.env) fp) tg g)
    (ht : ∀ (s : Shared) (H : Hp) (C : Addr) (cl : List (Str × Addr)) (fp : List Addr), PTs (X.blk s H scope (compEnvC scope cl C X.env) fp) ifs (rdB p W0 tst))
    (he : ∀ (s : Shared) (H : Hp) (C : Addr) (cl : List (Str × Addr)) (fp : List Addr), PE (X.blk s H scope (compEnvC scope cl C X.env) fp) elt (rd p W0 el)) (hgr : Gl X "range" := by rfl) (hse : starEach [a] X.env = [(false, eval a X.env)] := by rfl)
    (hs : ∀ x, foldedSetIterable (.Call (.Name "range" rp) [a] [] cp) X.env x = pure x := by intro _; rfl) (hyl : X.env.scope.names.lookup y = some .local := by rfl) (hy : X.N[i]? = some y := by rfl) (hsw : swapsWith (.ListComp elt [⟨tg, (.Call (.Name "range" rp) [a] [] cp), ifs, 0⟩] scope pos) (some (.Name y py)) spos.line X.env = pure true := by rfl) :
    PS X (.Assign [.Name y py] (.ListComp elt [⟨tg, (.Call (.Name "range" rp) [a] [] cp), ifs, 0⟩] scope pos) spos) (rdS p W (gSet i (gLr rng1 gl t (own.map (·.2)) tst el))) :=
  PS.imp (ps_setLc hc hN hy hyl hsw (pi_range1 hgr hm ha hse) ok hg ht he hs) fun D σ H ⟨G, ρ, gd, en, po⟩ => by
    have q : rd p W (gLr rng1 gl t (own.map (·.2)) tst el) σ H fun x H1 => L2.gName i x σ H1 D.nx :=
      ⟨G, ρ, gd, en, (PoS.of po en).imp fun v H1 ⟨G1, a, x1, gd1, r1, po1⟩ => po1 G1 _ H1 GX.rfl' rfl gd1 ((en.gx x1).set r1 i)⟩
    exact lcr1_imp tb q
theorem ssetLr2 (i : Nat) {y : Str} {py spos : Pos} {a b elt tg : Expr} {rp cp : Pos} {ifs : List Expr} {scope : Scope} {own : List (Str × Nat)} {pos : Pos} {gl : GL} {g : TG} {t : GTg} {tst : GB} {el : GE} (hc : X.calm = true) (hN : X.N.Nodup) (hm : X.mg "range" = none) (ha : PA X [a, b] (rdL p W gl)) (ok : BlkOk X.N X.env.scope scope own)
    (tb : TgB p g t (own.map (·.2))) (hg : ∀ (s : Shared) (H : Hp) (C : Addr) (cl : List (Str × Addr)) (fp : List Addr), PG (X.blk s H scope (compEnvC scope cl C X.env) fp) tg g)
    (ht : ∀ (s : Shared) (H : Hp) (C : Addr) (cl : List (Str × Addr)) (fp : List Addr), PTs (X.blk s H scope (compEnvC scope cl C X.env) fp) ifs (rdB p W0 tst))
    (he : ∀ (s : Shared) (H : Hp) (C : Addr) (cl : List (Str × Addr)) (fp : List Addr), PE (X.blk s H scope (compEnvC scope cl C X.env) fp) elt (rd p W0 el)) (hgr : Gl X "range" := by rfl) (hse : starEach [a, b] X.env = [(false, eval a X.env), (false, eval b X.env)] := by rfl) (hse2 : starEach [b] X.env = [(false, eval b X.env)] := by rfl)
    (hs : ∀ x, foldedSetIterable (.Call (.Name "range" rp) [a, b] [] cp) X.env x = pure x := by intro _; rfl) (hyl : X.env.scope.names.lookup y = some .local := by rfl) (hy : X.N[i]? = some y := by rfl) (hsw : swapsWith (.ListComp elt [⟨tg, (.Call (.Name "range" rp) [a, b] [] cp), ifs, 0⟩] scope pos) (some (.Name y py)) spos.line X.env = pure true := by rfl) :
    PS X (.Assign [.Name y py] (.ListComp elt [⟨tg, (.Call (.Name "range" rp) [a, b] [] cp), ifs, 0⟩] scope pos) spos) (rdS p W (gSet i (gLr rng2 gl t (own.map (·.2)) tst el))) :=
  PS.imp (ps_setLc hc hN hy hyl hsw (pi_range2 hgr hm ha hse hse2) ok hg ht he hs) fun D σ H ⟨G, ρ, gd, en, po⟩ => by
    have q : rd p W (gLr rng2 gl t (own.map (·.2)) tst el) σ H fun x H1 => L2.gName i x σ H1 D.nx :=
      ⟨G, ρ, gd, en, (PoS.of po en).imp fun v H1 ⟨G1, a, x1, gd1, r1, po1⟩ => po1 G1 _ H1 GX.rfl' rfl gd1 ((en.gx x1).set r1 i)⟩
    exact lcr2_imp tb q
theorem ssetLz (i : Nat) {y : Str} {py spos : Pos} {elt e1 e2 : Expr} {es : List Expr} {kk : Nat} {tp zp cp : Pos} {ifs : List Expr} {scope : Scope} {own : List (Str × Nat)} {pos : Pos} {gl : GL} {g : TG} {t : GTg} {tst : GB} {el : GE} (hc : X.calm = true) (hN : X.N.Nodup) (hz : X.mg "zip" = none) (ha : PA X [e1, e2] (rdL p W gl)) (ok : BlkOk X.N X.env.scope scope own)
    (tb : TgB p g t (own.map (·.2))) (hg : ∀ (s : Shared) (H : Hp) (C : Addr) (cl : List (Str × Addr)) (fp : List Addr), PG (X.blk s H scope (compEnvC scope cl C X.env) fp) (.Tuple es kk tp) g)
    (ht : ∀ (s : Shared) (H : Hp) (C : Addr) (cl : List (Str × Addr)) (fp : List Addr), PTs (X.blk s H scope (compEnvC scope cl C X.env) fp) ifs (rdB p W0 tst))
    (he : ∀ (s : Shared) (H : Hp) (C : Addr) (cl : List (Str × Addr)) (fp : List Addr), PE (X.blk s H scope (compEnvC scope cl C X.env) fp) elt (rd p W0 el)) (hgz : Gl X "zip" := by rfl) (hK : X.K = p.K := by rfl)
    (hs1 : starEach [e1, e2] X.env = (false, eval e1 X.env) :: starEach [e2] X.env := by rfl) (hpl : (backTo cp (starEach [e2] X.env)).any (·.1) = false := by rfl) (hs : ∀ x, foldedSetIterable (.Call (.Name "zip" zp) [e1, e2] [] cp) X.env x = pure x := by intro _; rfl)
    (hyl : X.env.scope.names.lookup y = some .local := by rfl) (hy : X.N[i]? = some y := by rfl) (hsw : swapsWith (.ListComp elt [⟨.Tuple es kk tp, (.Call (.Name "zip" zp) [e1, e2] [] cp), ifs, 0⟩] scope pos) (some (.Name y py)) spos.line X.env = pure true := by rfl) :
    PS X (.Assign [.Name y py] (.ListComp elt [⟨.Tuple es kk tp, (.Call (.Name "zip" zp) [e1, e2] [] cp), ifs, 0⟩] scope pos) spos) (rdS p W (gSet i (gLz gl t (own.map (·.2)) tst el))) :=
  PS.imp (ps_setLc hc hN hy hyl hsw (RZ.pi_zipA hgz hz ha hs1 hpl) ok hg ht he hs) fun D σ H ⟨G, ρ, gd, en, po⟩ => by
    have q : rd p W (gLz gl t (own.map (·.2)) tst el) σ H fun x H1 => L2.gName i x σ H1 D.nx :=
      ⟨G, ρ, gd, en, (PoS.of po en).imp fun v H1 ⟨G1, a, x1, gd1, r1, po1⟩ => po1 G1 _ H1 GX.rfl' rfl gd1 ((en.gx x1).set r1 i)⟩
    exact lcz_imp (X := X) tb hK q
end
end Dq

/-! C(k = v, ..), no value ahead. -/
namespace Dq
open PySem PySem.Spec PyProof.Rows L2
theorem un1 {k : Nat} {A : Around} (r : Room k A) : A.units + 1 < cLine := by have := r.un; omega
section
variable {p : Pg} {X : Cx} {W : WX} {x : Str} {pp pos : Pos} {kws : List Keyword} {gk : GL} {c : Nat} {g : List DV → Sto → R DV} {mb : Bool}
theorem qmakeK0 {ks : List Str} {mx : Mix} (C : MkK p X W c g 0 ks mx) (hm : X.mg x = some (.ref (p.cA c))) (hg : Gl X x) (hkw : PK X kws (rdL p W gk))
    (hall : (backToKw pos (keywordEach kws X.env)).all (·.1.isSome) = true := by rfl) (hks : (backToKw pos (keywordEach kws X.env)).filterMap (·.1) = ks := by rfl) (hdb : (x == ("__debug__" : Str)) = false := by decide)
    (hpl : ((backTo pos (starEach [] X.env)).any (·.1) || (backToKw pos (keywordEach kws X.env)).any (·.1.isNone)) = false := by rfl) :
    PE X (.Call (.Name x pp) [] kws pos) (rd p W (gMakeK mb c g mx gNil gk)) := by
  obtain ⟨CX, E, We, k, f, fd, ps, gg, gV, M, F, hr, hb, hx, hW, hl, hmx⟩ := C.ex
  refine PE.imp (pe_makeK0 M F hr hg hm hb hx hkw hall hks hdb hpl) fun σ H Q ⟨G, ρ, gd, en, po⟩ => ?_
  unfold gMakeK gNil at po
  rw [R.bind_ok] at po
  refine ⟨G, ρ, gd, en, (Po.bind po).imp fun zs H2 ⟨G2, z, x2, gd2, r2, po2⟩ => ?_⟩
  cases e1 : mx [] z with
  | none => simp only [e1] at po2; exact po2.elim
  | some a =>
    simp only [e1] at po2
    obtain ⟨l1, l2, _⟩ := hmx _ _ [] z a [] zs (.non) .nil r2 e1
    refine ⟨l1, l2, fun x dx hx hdx ne => ?_⟩
    obtain ⟨_, _, vs', e3, r3⟩ := hmx _ _ [] z a [] zs (.ref x) .nil r2 e1
    rw [e3]
    exact make_of hl hW gd2 r3 po2 hx hdx ne
end
end Dq

/-! str(x), repr(x): x an own object. -/
namespace Dq
open PySem PySem.Spec PyProof.Rows L2
/-- the own text of an object, or g -/
@[simp] def txtO (own : Sel) (g : List DV → Sto → R DV) : List DV → Sto → R DV
  | [d], s => match insS s d with
    | some (c, _, _) => match own c with
      | some f => (f [d] s).bind fun r s1 => match r with
        | .str z => .ok (.str z) s1
        | _ => .bad
      | none => .bad
    | none => g [d] s
  | l, s => g l s
section
variable {p : Pg} {X : Cx} {W : WX}
theorem un2 {k : Nat} {A : Around} (r : Room k A) : A.in1.in1.units < cLine := by
  have := r.un
  show A.units + 1 + 1 < _
  omega
theorem txt_back {pins : List (Addr × Obj)} {σ σ' : L2.St} {G : Gh} {Q : VK} {u : Value} {s : Shared} (h : ∃ v H, Inv X pins σ H s ∧ RelV v u ∧ ∃ G1 e, GX G G1 ∧ Gd p G1 H ∧ Rp p G1.F G1.μ e v ∧ PoV p W G1 σ' (match e with
    | .str z => .ok (.str z) G1.st
    | _ => .bad) Q) : PySem.W.StrBack (EP X pins σ Q) u s := by
  obtain ⟨v, H, I, r, G1, e, x1, gd, re, po⟩ := h
  cases re with
  | str z =>
    obtain ⟨t, rfl⟩ := r
    exact ⟨.str z, H, I, ⟨t, rfl⟩, Po.ret po GX.rfl' rfl gd (.str _)⟩
  | _ => exact po.elim
theorem opd_strO {own : Sel} {g : List DV → Sto → R DV} (hu : X.A.in1.in1.units < cLine) (h : CallR X (.type "str") (rCal p W g)) (hs : ∀ c f, own c = some f → SpC p (in1X (in1X X)) W c "__str__" f) : CallR X (.type "str") (rCal p W (txtO own g)) :=
  fun pins s σ H vs us Q I r ⟨G, ds, σ', gd, rs, po⟩ => by
    unfold txtO at po
    split at po
    · rename_i d st
      split at po
      · rename_i c ks xs hi
        split at po
        · rename_i f hf
          cases rs with
          | cons r1 rt =>
            cases rt
            cases r with
            | cons rv rt =>
              cases rt
              obtain ⟨x1, dx, fs, rfl, ea, _, _⟩ := ins_of gd r1 hi
              have ee : _ = Value.ref x1 := rv
              subst ee
              obtain ⟨ox, od, J⟩ := inst_at I ea
              obtain ⟨f1, h1, h2, C⟩ := (hs _ f hf).ex
              refine PySem.W.kso_call hu I.kIn J h1 h2 (thn (C.run (X := in1X (in1X X)) (Q := fun w H1 => ∃ G1 e, GX G G1 ∧ Gd p G1 H1 ∧ Rp p G1.F G1.μ e w ∧ PoV p W G1 σ' (match e with
                | .str z => .ok (.str z) G1.st
                | _ => .bad) Q) (inv_in1 (inv_in1 I)) (.cons rfl .nil : Vals [.ref x1] [.ref x1]) gd (.cons r1 .nil) (Po.bind po)) fun u2 s2 z => ?_)
              obtain ⟨w, H2, I2, rw2, zz⟩ := z
              exact txt_back ⟨w, H2, inv_out1 (inv_out1 I2), rw2, zz⟩
        · exact po.elim
      · exact h pins s σ H vs us Q I r ⟨G, _, σ', gd, rs, po⟩
    · exact h pins s σ H vs us Q I r ⟨G, _, σ', gd, rs, po⟩
theorem opd_reprO {own : Sel} {g : List DV → Sto → R DV} (hu : X.A.in1.units < cLine) (h : CallR X (.builtin "repr") (rCal p W g)) (hs : ∀ c f, own c = some f → SpC p (in1X X) W c "__repr__" f) : CallR X (.builtin "repr") (rCal p W (txtO own g)) :=
  fun pins s σ H vs us Q I r ⟨G, ds, σ', gd, rs, po⟩ => by
    unfold txtO at po
    split at po
    · rename_i d st
      split at po
      · rename_i c ks xs hi
        split at po
        · rename_i f hf
          cases rs with
          | cons r1 rt =>
            cases rt
            cases r with
            | cons rv rt =>
              cases rt
              obtain ⟨x1, dx, fs, rfl, ea, _, _⟩ := ins_of gd r1 hi
              have ee : _ = Value.ref x1 := rv
              subst ee
              obtain ⟨ox, od, J⟩ := inst_at I ea
              obtain ⟨m, hF⟩ := I.fr
              obtain ⟨f1, h1, h2, C⟩ := (hs _ f hf).ex
              refine PySem.W.repr_K hu hF I.ok.mod.kin J h1 h2 (thn (C.run (X := in1X X) (Q := fun w H1 => ∃ G1 e, GX G G1 ∧ Gd p G1 H1 ∧ Rp p G1.F G1.μ e w ∧ PoV p W G1 σ' (match e with
                | .str z => .ok (.str z) G1.st
                | _ => .bad) Q) (inv_in1 I) (.cons rfl .nil : Vals [.ref x1] [.ref x1]) gd (.cons r1 .nil) (Po.bind po)) fun u2 s2 z => ?_)
              obtain ⟨w, H2, I2, rw2, zz⟩ := z
              exact txt_back ⟨w, H2, inv_out1 I2, rw2, zz⟩
        · exact po.elim
      · exact h pins s σ H vs us Q I r ⟨G, _, σ', gd, rs, po⟩
    · exact h pins s σ H vs us Q I r ⟨G, _, σ', gd, rs, po⟩
def badB : List DV → Sto → R DV := fun _ _ => .bad
theorem opd_badB {v : Value} : CallR X v (rCal p W badB) := fun pins s σ H vs us Q I r ⟨G, ds, σ', gd, rs, po⟩ => po.elim
theorem un1' {k : Nat} {A : Around} (r : Room k A) : A.in1.units < cLine := un1 r
variable {P : Program} {w : World} {mg : Str → Option Value} {base : Heap} {lv n : Nat} {f : Addr} {m : List DV → Sto → R DV}
theorem OkD.sp1 {c : Nat} {name : Str} (o : OkD p P w mg base lv f n m []) (h1 : PySem.W.findIn X.K (.ref (p.cA c)) name = some (some (.ref f))) (h2 : PySem.W.isFn X.K (.ref f) = true) (hr : Room (lv + 1) X.A) (e : At X p P w mg base := by exact ⟨rfl, rfl, rfl, rfl, rfl⟩) : SpC p (in1X X) W0 c name m :=
  o.sp (X := in1X X) h1 h2 hr.in1 ⟨e.e1, e.e2, e.e3, e.e4, e.e5⟩
theorem OkD.sp2 {c : Nat} {name : Str} (o : OkD p P w mg base lv f n m []) (h1 : PySem.W.findIn X.K (.ref (p.cA c)) name = some (some (.ref f))) (h2 : PySem.W.isFn X.K (.ref f) = true) (hr : Room (lv + 2) X.A) (e : At X p P w mg base := by exact ⟨rfl, rfl, rfl, rfl, rfl⟩) : SpC p (in1X (in1X X)) W0 c name m :=
  o.sp (X := in1X (in1X X)) h1 h2 hr.in1.in1 ⟨e.e1, e.e2, e.e3, e.e4, e.e5⟩
end
end Dq

/-! a, b, c = x, y, z. -/
namespace Dq
open PySem PySem.Spec PyProof.Rows L2
@[simp] def gPar3 (i j l : Nat) (gl : GL) : GS := fun ρ s => (gl ρ s).toS ρ fun ds s1 => match ds with
  | [d, e, f] => .nx (((ρ.set i (some d)).set j (some e)).set l (some f)) s1
  | _ => .bad
section
variable {p : Pg} {X : Cx} {W : WX}
theorem spar3 {i j l : Nat} {x y z : Str} {a b c : Expr} {gl : GL} {px py pz pt pos : Pos} {kt k2 pt2} (hc : X.calm = true) (hN : X.N.Nodup) (hi : X.N[i]? = some x) (hj : X.N[j]? = some y) (hl : X.N[l]? = some z) (hij : i ≠ j) (hil : i ≠ l) (hjl : j ≠ l)
    (hx : X.env.scope.names.lookup x = some .local) (hy : X.env.scope.names.lookup y = some .local) (hz : X.env.scope.names.lookup z = some .local) (ha : PA X [a, b, c] (rdL p W gl))
    (hw : swappedStores [.Tuple [.Name x px, .Name y py, .Name z pz] kt pt] (.Tuple [a, b, c] k2 pt2) X.env = pure (some [x, y, z]))
    (hs : swapsWithSole [.Tuple [.Name x px, .Name y py, .Name z pz] kt pt] (.Tuple [a, b, c] k2 pt2) pos.line X.env = pure false := by rfl) :
    PS X (.Assign [.Tuple [.Name x px, .Name y py, .Name z pz] kt pt] (.Tuple [a, b, c] k2 pt2) pos) (rdS p W (gPar3 i j l gl)) :=
  PS.imp (ps_par3 (i := i) (j := j) (l := l) hc hN hi hj hl hij hil hjl hx hy hz ha hw hs) fun D σ H ⟨G, ρ, gd, en, po⟩ => ⟨G, ρ, gd, en, (PoS.of po en).imp fun vs H1 ⟨G1, l, x1, gd1, r1, po1⟩ => by
    split at po1
    · cases r1 with
      | cons r1 r2 =>
        cases r2 with
        | cons r2 r3 =>
          cases r3 with
          | cons r3 r4 =>
            cases r4
            exact ⟨_, _, _, rfl, po1 G1 _ H1 GX.rfl' rfl gd1 ((((en.gx x1).set r1 i).set r2 j).set r3 _)⟩
    · exact po1.elim⟩
end
end Dq

/-! f(k = v, ..): a def called by names, in any order; more methods of texts. -/
namespace Dq
open PySem PySem.Spec PyProof.Rows L2
def permL {α : Type} (d : α) (π : List Nat) (xs : List α) : List α := π.map fun i => xs.getD i d
theorem vals_get : ∀ {a : List V} {b : List Value}, Vals a b → ∀ i, RelV (a.getD i .non) (b.getD i .none)
  | _, _, .nil, _ => rfl
  | _, _, .cons r _, 0 => r
  | _, _, .cons _ t, i + 1 => vals_get t i
theorem vals_perm {a : List V} {b : List Value} (h : Vals a b) : ∀ π : List Nat, Vals (permL .non π a) (permL .none π b)
  | [] => .nil
  | i :: π => .cons (vals_get h i) (vals_perm h π)
theorem rps_get {p : Pg} {F : Hp} {μ : List Addr} : ∀ {a : List DV} {b : List V}, Rps p F μ a b → ∀ i, Rp p F μ (a.getD i .non) (b.getD i .non)
  | _, _, .nil, _ => .non
  | _, _, .cons r _, 0 => r
  | _, _, .cons _ t, i + 1 => rps_get t i
theorem rps_perm {p : Pg} {F : Hp} {μ : List Addr} {a : List DV} {b : List V} (h : Rps p F μ a b) : ∀ π : List Nat, Rps p F μ (permL .non π a) (permL .non π b)
  | [] => .nil
  | i :: π => .cons (rps_get h i) (rps_perm h π)
theorem kperm {K : PySem.W.Frag} {x qual : Str} {params : Arguments} {body : List Stmt} {scope : Scope} {kws : List (Str × V)} {f : Addr} {fd : FuncData} {ps ks : List Str} {n : Nat} (π : List Nat) (F : FunD K x qual params body scope [] kws f fd)
    (h : ∀ (kV doc pm : Value) (an : Option Addr) (cdv ct : Value) (us ws : List Value), us.length = n → ws.length = ks.length → bindArgs (PySem.W.fnOf x qual params body scope .none kV doc pm an cdv ct) ⟨us, ks.zip ws⟩ = pure (ps.zip (permL .none π (us ++ ws)))) : KBn K fd ps n ks (fun us ws => permL .none π (us ++ ws)) (fun vs zs => permL .non π (vs ++ zs)) := by
  obtain ⟨oc, od, dV, kV, doc, pm, an, cdv, ct, osl, rfl, lk, hcd, hD, hK⟩ := F.ex
  rcases hD with ⟨_, rfl⟩ | ⟨z, _⟩
  · exact ⟨fun s us ws _ l1 l2 => BindsTo.of_eq (h kV doc pm an cdv ct us ws l1 l2), fun a b => vals_perm (Vals.append a b) π⟩
  · exact absurd rfl z
def mixQ (n m : Nat) (π : List Nat) : Mix := fun l z => match decide (l.length = n ∧ z.length = m) with
  | true => some (permL .non π (l ++ z))
  | false => none
theorem mixQ_ok {p : Pg} {n m : Nat} {π : List Nat} {F : Hp} {μ : List Addr} {l z a : List DV} {vs zs : List V} (r1 : Rps p F μ l vs) (r2 : Rps p F μ z zs) (h : mixQ n m π l z = some a) : vs.length = n ∧ zs.length = m ∧ Rps p F μ a (permL .non π (vs ++ zs)) := by
  unfold mixQ at h
  split at h
  · rename_i c
    have c := of_decide_eq_true c
    cases h
    exact ⟨by rw [← r1.length]; exact c.1, by rw [← r2.length]; exact c.2, rps_perm (r1.app r2) π⟩
  · cases h
section
variable {p : Pg} {X : Cx} {W : WX} {f : Addr} {x : Str} {pp pos : Pos} {e : Expr} {es : List Expr} {kws : List Keyword} {gl gk : GL} {g : List DV → Sto → R DV} {ks : List Str} {mx : Mix}
/-- f(k = v, ..) -/
theorem qcallK0 (F : FnK p X W f g 0 ks mx) (hm : X.mg x = some (.ref f)) (hk : PySem.W.keepIn X.K (.ref f) = true) (hg : Gl X x) (hkw : PK X kws (rdL p W gk))
    (hall : (backToKw pos (keywordEach kws X.env)).all (·.1.isSome) = true := by rfl) (hks : (backToKw pos (keywordEach kws X.env)).filterMap (·.1) = ks := by rfl)
    (hdb : (x == ("__debug__" : Str)) = false := by decide)
    (hpl : ((backTo pos (starEach [] X.env)).any (·.1) || (backToKw pos (keywordEach kws X.env)).any (·.1.isNone)) = false := by rfl) :
    PE X (.Call (.Name x pp) [] kws pos) (rd p W (gCallK0 g mx gk)) := by
  obtain ⟨CX, E, We, k, fd, ps, gg, gV, F, hr, hb, hx, hW, hl, hmx⟩ := F.ex
  refine ⟨fun pins s σ H Q I ⟨G, ρ, gd, en, po⟩ => ?_⟩
  refine wpAny_Call_Name_kw (ld_glob I hg hm ?_ hdb)
  refine PySem.W.callWith_KW0 (first := []) (h₀ := X.base) I.ok.mod.kin hk hall (thn (hkw.run pos pins s σ H _ I ⟨G, ρ, gd, en, Po.bind po⟩) fun ws s3 ⟨zs, H2, I3, r2, G2, z, x2, gd2, rz, po2⟩ => ⟨I3.kIn, ?_⟩) hpl
  rw [hks]
  cases e1 : mx [] z with
  | none => simp only [e1] at po2; exact po2.elim
  | some a =>
    simp only [e1] at po2
    obtain ⟨l1, l2, r3⟩ := hmx _ _ [] z a [] zs .nil rz e1
    exact run_fnN (us := []) (vs := []) F hr hb hx I3 .nil r2 l1 l2 (sp_of hl hW gd2 r3 po2)
/-- f(e, .., k = v, ..) -/
@[simp] def gCallKN (g : List DV → Sto → R DV) (mx : Mix) (gl gk : GL) : GE := fun ρ s => (gl ρ s).bind fun l s1 => (gk ρ s1).bind fun z s2 => match mx l z with
  | some a => g a s2
  | none => .bad
theorem qcallKN {n : Nat} (F : FnK p X W f g n ks mx) (hm : X.mg x = some (.ref f)) (hk : PySem.W.keepIn X.K (.ref f) = true) (hg : Gl X x) (ha : PA X (e :: es) (rdL p W gl)) (hkw : PK X kws (rdL p W gk))
    (hall : (backToKw pos (keywordEach kws X.env)).all (·.1.isSome) = true := by rfl) (hks : (backToKw pos (keywordEach kws X.env)).filterMap (·.1) = ks := by rfl)
    (hdb : (x == ("__debug__" : Str)) = false := by decide) (he : starEach (e :: es) X.env = (false, eval e X.env) :: starEach es X.env := by rfl)
    (hpl : ((backTo pos (starEach (e :: es) X.env)).any (·.1) || (backToKw pos (keywordEach kws X.env)).any (·.1.isNone)) = false := by rfl) :
    PE X (.Call (.Name x pp) (e :: es) kws pos) (rd p W (gCallKN g mx gl gk)) := by
  obtain ⟨CX, E, We, k, fd, ps, gg, gV, F, hr, hb, hx, hW, hl, hmx⟩ := F.ex
  refine PE.imp (pe_callN F hr hg hm hk hb hx ha hkw hall hks hdb he hpl) fun σ H Q ⟨G, ρ, gd, en, po⟩ => ⟨G, ρ, gd, en, (Po.bind po).imp fun vs H1 ⟨G1, l, x1, gd1, r1, po1⟩ =>
    ⟨G1, ρ, gd1, en.gx x1, (Po.bind po1).imp fun zs H2 ⟨G2, z, x2, gd2, r2, po2⟩ => ?_⟩⟩
  cases e1 : mx l z with
  | none => simp only [e1] at po2; exact po2.elim
  | some a =>
    simp only [e1] at po2
    obtain ⟨l1, l2, r3⟩ := hmx _ _ l z a vs zs (Rgs.gx r1 x2) r2 e1
    exact ⟨l1, l2, sp_of hl hW gd2 r3 po2⟩
/-! methods of texts -/
def alphaB (z : Str) : List DV → Sto → R DV
  | [], s => .ok (.bl (Txt.isalpha z)) s
  | _, _ => .bad
theorem sm_alpha : SmR p X W "str.isalpha" alphaB := fun G H σ z ds vs Q gd rs po => by
  unfold alphaB at po
  split at po
  · cases rs
    exact ⟨_, mt_isalpha, z, rfl, rfl, trivial, Po.ret po GX.rfl' rfl gd (.bl _)⟩
  · exact po.elim
def lowerB (z : Str) : List DV → Sto → R DV
  | [], s => .ok (.bl (Txt.islower z)) s
  | _, _ => .bad
theorem sm_lower : SmR p X W "str.islower" lowerB := fun G H σ z ds vs Q gd rs po => by
  unfold lowerB at po
  split at po
  · cases rs
    exact ⟨_, mt_islower, z, rfl, rfl, trivial, Po.ret po GX.rfl' rfl gd (.bl _)⟩
  · exact po.elim
end
end Dq

/-! C.m(..), m a class method; a class in a local, called; what may raise where nothing may. -/
namespace Dq
open PySem PySem.Spec PyProof.Rows L2
/-- C.m is a classmethod: its record at q, its def at f -/
structure KMet (K : PySem.W.Frag) (C : Addr) (m : Str) (q f : Addr) : Prop where
  r : ClX.CRead K C (.type "type")
  k : ClX.CMet K C (.type "type") m q f
def kmB (K : PySem.W.Frag) (C : Addr) (m : Str) (q f : Addr) : Bool := PySem.W.readsIn K C (.type "type") && (decide (PySem.W.specialIn K (.ref C) "__getattribute__" = some (some (.builtin "type.__getattribute__"))) && ((match PySem.W.findCls K (.ref C) (.type "type") m with
  | some (.get (.builtin i) (.ref a) .none (.ref b)) => decide (i = "classmethod.__get__") && (decide (a = q) && decide (b = C))
  | _ => false) && ((match PySem.W.recIn K q "classmethod" with
  | some (.ref a :: _) => decide (a = f)
  | _ => false) && PySem.W.fnIn K f)))
theorem kmB_ok {K : PySem.W.Frag} {C : Addr} {m : Str} {q f : Addr} (h : kmB K C m q f = true) : KMet K C m q f := by
  unfold kmB at h
  simp only [Bool.and_eq_true] at h
  obtain ⟨h1, h2, h3, h4, h5⟩ := h
  refine ⟨⟨h1, of_decide_eq_true h2⟩, ?_, ?_, h5⟩
  · split at h3
    · rename_i e
      simp only [Bool.and_eq_true, decide_eq_true_eq] at h3
      obtain ⟨rfl, rfl, rfl⟩ := h3
      exact e
    · cases h3
  · split at h4
    · rename_i a r e
      have h4 := of_decide_eq_true h4
      subst h4
      exact ⟨r, e⟩
    · cases h4
/-- a class method called -/
@[simp] def gCls (g : List DV → Sto → R DV) (c : Nat) (ds0 : List DV) (gl : GL) : GE := fun ρ s => (gl ρ s).bind fun l s1 => g (.cls c :: (l ++ ds0)) s1
@[simp] def gClsK (g : List DV → Sto → R DV) (c : Nat) (mx : Mix) (gk : GL) : GE := fun ρ s => (gk ρ s).bind fun z s2 => match mx [.cls c] z with
  | some a => g a s2
  | none => .bad
section
variable {p : Pg} {X : Cx} {W : WX} {C q f : Addr} {m x : Str} {pp pos apos : Pos} {e : Expr} {es : List Expr} {kws : List Keyword} {gl gk : GL} {g : List DV → Sto → R DV} {ds0 : List DV} {pl : Sem Bool} {ks : List Str} {mx : Mix} {c : Nat}
theorem qcls (hc : PE X (.Name x pp) (tC (.ref C))) (hC : C = p.cA c) (k : KMet X.K C m q f) (F : FnC p X W f g ds0) (ha : PA X (e :: es) (rdL p W gl))
    (he : starEach (e :: es) X.env = (false, eval e X.env) :: starEach es X.env := by rfl) (hpl : (backTo pos (starEach es X.env)).any (·.1) = false := by rfl)
    (ht : eval (.Call (.Attribute (.Name x pp) m apos) (e :: es) [] pos) X.env = (do
      let r ← eval (.Name x pp) X.env
      standAt apos.atName
      let (f, first) ← holding [r] (getMethod r m pl)
      callWith pos f first (backTo pos (starEach (e :: es) X.env)) (backToKw pos (keywordEach [] X.env))) := by rfl) :
    PE X (.Call (.Attribute (.Name x pp) m apos) (e :: es) [] pos) (rd p W (gCls g c ds0 gl)) := by
  subst hC
  obtain ⟨CX, E, We, j, fd, ps, dvs, dsv, F, hr, hb, hd, h0, hx, hW, hl⟩ := F.ex
  exact PE.imp (ClX.pe_cmeth hc k.r k.k (F.raw hb hd) hr hx ha he hpl ht) fun σ H Q ⟨G, ρ, gd, en, po⟩ => ⟨rfl, G, ρ, gd, en, (Po.bind po).imp fun vs H1 ⟨G1, l, x1, gd1, r1, po1⟩ =>
    sp_of (ds := .cls c :: (l ++ ds0)) (vs := .ref (p.cA c) :: (vs ++ dvs)) hl hW gd1 (.cons (.cls c) (r1.app (h0 _ _))) po1⟩
theorem qclsK (hc : PE X (.Name x pp) (tC (.ref C))) (hC : C = p.cA c) (k : KMet X.K C m q f) (F : FnK p X W f g 1 ks mx) (hkw : PK X kws (rdL p W gk))
    (hall : (backToKw pos (keywordEach kws X.env)).all (·.1.isSome) = true := by rfl) (hks : (backToKw pos (keywordEach kws X.env)).filterMap (·.1) = ks := by rfl)
    (hpl : ((backTo pos (starEach [] X.env)).any (·.1) || (backToKw pos (keywordEach kws X.env)).any (·.1.isNone)) = false := by rfl)
    (ht : eval (.Call (.Attribute (.Name x pp) m apos) [] kws pos) X.env = (do
      let r ← eval (.Name x pp) X.env
      standAt apos.atName
      let (f, first) ← holding [r] (getMethod r m pl)
      callWith pos f first (backTo pos (starEach [] X.env)) (backToKw pos (keywordEach kws X.env))) := by rfl) :
    PE X (.Call (.Attribute (.Name x pp) m apos) [] kws pos) (rd p W (gClsK g c mx gk)) := by
  subst hC
  obtain ⟨CX, E, We, j, fd, ps, gg, gV, F, hr, hb, hx, hW, hl, hmx⟩ := F.ex
  refine ⟨fun pins s σ H Q I ⟨G, ρ, gd, en, po⟩ => ?_⟩
  refine PySem.W.methodCall_KW (pl := pl) (thn (hc.run pins s σ H (fun v H1 => v = .ref (p.cA c) ∧ H1 = H) I ⟨rfl, rfl⟩) fun u s1 ⟨v, H1, I1, rv, ev, eH⟩ => ?_) ht
  subst ev
  subst eH
  obtain rfl : u = Value.ref (p.cA c) := rv
  refine ClX.getmethcm_ok I1 k.r k.k fun s2 I2 => ?_
  refine PySem.W.callWith_of (P := PySem.W.MethP X.K s1.heap.objs.size f (.ref (p.cA c))) hpl (PySem.W.keeps_M k.k.fi) (evalArgs_kw2_nil hall (thn (hkw.run pos _ s2 σ H1 _ I2 ⟨G, ρ, gd, en, Po.bind po⟩) fun ws s3 ⟨zs, H2, I3, r2, G2, z, x2, gd2, rz, po2⟩ => ⟨⟨ClX.pin_at I3, I3.kIn⟩, ?_⟩))
  rw [hks]
  cases e1 : mx [.cls c] z with
  | none => simp only [e1] at po2; exact po2.elim
  | some a =>
    simp only [e1] at po2
    obtain ⟨l1, l2, r3⟩ := hmx _ _ [.cls c] z a [.ref (p.cA c)] zs (.cons (.cls c) .nil) rz e1
    have r4 := hb.rel (us := [Value.ref (p.cA c)]) (vs := [V.ref (p.cA c)]) (.cons rfl .nil) r2
    have y : wpAny (model X.prog X.w) X.A (call (.ref s1.heap.objs.size) [] (ks.zip ws)) (EP X ((s1.heap.objs.size, PySem.W.methodObj (.ref f) (.ref (p.cA c))) :: pins) σ Q) X.xe s3 := by
      refine wpAny_call (PySem.W.method_call (ClX.pin_at I3) (codeAny_mono (F.run X.A X.stack s3 H2 ⟨[.ref (p.cA c)], ks.zip ws⟩ (gg [.ref (p.cA c)] ws) (gV [.ref (p.cA c)] zs) Q E hr I3.env0 (hb.to s3 [.ref (p.cA c)] ws I3.kIn rfl (r2.length.symm.trans l2)) r4 (sp_of hl hW gd2 r3 po2)) fun r s' hq => ?_))
      cases r with
      | error e => exact hx _ σ H2 s3 e s' I3 hq
      | ok fl =>
        cases fl with
        | ret u => exact I3.after hq
        | next => exact False.elim hq
        | brk => exact False.elim hq
        | cont => exact False.elim hq
    exact thn y fun _ _ y => ClX.unpinE y
/-- x(..), x a local that holds a class -/
@[simp] def gMakeV (mb : Bool) (c i : Nat) (g : List DV → Sto → R DV) (ds0 : List DV) (gl : GL) : GE := fun ρ s => match ρ[i]? with
  | some (some (.cls c')) => match decide (c' = c) with
    | true => (gl ρ s).bind fun l s1 => makeD mb c g (l ++ ds0) s1
    | false => .bad
  | _ => .bad
theorem qmakeV {i : Nat} {mb : Bool} (M : MkC p X W c g ds0) (hN : X.N[i]? = some x) (hv : Vis X.env.scope x) (ha : PA X (e :: es) (rdL p W gl))
    (hdb : (x == ("__debug__" : Str)) = false := by decide) (hcd : (x == ("__classdict__" : Str)) = false := by decide)
    (he : starEach (e :: es) X.env = (false, eval e X.env) :: starEach es X.env := by rfl) (hpl : (backTo pos (starEach es X.env)).any (·.1) = false := by rfl) :
    PE X (.Call (.Name x pp) (e :: es) [] pos) (rd p W (gMakeV mb c i g ds0 gl)) := by
  obtain ⟨CX, E, We, k, f, fd, ps, dvs, dsv, M, F, hr, hb, hd, h0, hx, hW, hl⟩ := M.ex
  refine ⟨fun pins s σ H Q I ⟨G, ρ, gd, en, po⟩ => ?_⟩
  unfold gMakeV at po
  split at po
  · rename_i c' e0
    split at po
    · rename_i ec
      have ec := of_decide_eq_true ec
      subst ec
      obtain ⟨v, ev, rv⟩ := en.at_ i _ e0
      cases rv
      refine wpAny_Call_Name_kw (thn ((pe_var (pos := pp) hN hv hdb hcd).run pins s σ H (fun v H1 => v = .ref (p.cA c') ∧ H1 = H) I ⟨_, ev, rfl, rfl⟩) fun u s1 ⟨v, H1, I1, r1, q1⟩ => ?_)
      obtain ⟨rfl, rfl⟩ := q1
      obtain rfl : u = Value.ref (p.cA c') := r1
      refine PySem.W.callWith_K (h₀ := X.base) I.ok.mod.kin M.kp (thn (ha.run pos pins s1 σ H1 _ I1 ⟨G, ρ, gd, en, Po.bind po⟩) fun us s2 ⟨vs, H2, I2, r, G1, l, x1, gd1, rl, po1⟩ => ⟨I2.kIn, ?_⟩) he hpl
      exact run_make M F hr hb hd hx I2 r fun y dx hy hdx ne => make_of hl hW gd1 (rl.app (h0 _ _)) po1 hy hdx ne
    · exact po.elim
  · exact po.elim
end
/-! what may raise, where nothing may -/
theorem pass_no {P : Program} {w : World} {X : Cx} : Passes (L2.CX P w) X (fun _ _ _ => False) := by
  rintro pins σ H s e s' I ⟨a, B, H', cls, d, ea, fl, hok, ub, na, os, ag, he⟩
  exact he.elim
section
variable {p : Pg} {X : Cx} {P : Program} {w : World} {mg : Str → Option Value} {base : Heap} {lv n : Nat} {f : Addr} {m : List DV → Sto → R DV} {ds0 : List DV} {E : XK}
theorem OkX.c0 (o : OkX p P w mg base lv f n m ds0) (hr : Room lv X.A) (e : At X p P w mg base := by exact ⟨rfl, rfl, rfl, rfl, rfl⟩) : FnC p X W0 f m ds0 := by
  obtain ⟨fd, ps, dvs, dsv, hn, F, hd, hb, h0⟩ := o.ex
  obtain ⟨e1, e2, e3, e4, e5⟩ := e
  subst e1 e2 e4 e5 hn
  rw [← e3] at F hb
  exact ⟨L2.CX X.prog X.w, fun _ _ _ => False, WeX, lv, fd, ps, dvs, dsv, F, hr, hb, hd, h0, pass_no, fun _ _ _ _ z => z, o.len⟩
/-- a def that may raise, called by names -/
structure OkXK (p : Pg) (P : Program) (w : World) (mg : Str → Option Value) (base : Heap) (lv : Nat) (f : Addr) (n : Nat) (m : List DV → Sto → R DV) (npos : Nat) (ks : List Str) (mx : Mix) : Prop where
  ex : ∃ fd ps gg gV, ps.length = n ∧ FnOk P w p.K mg base (L2.CX P w) lv f fd ps (spD p WeX n m) ∧ KBn p.K fd ps npos ks gg gV ∧
    ∀ (F : Hp) (μ : List Addr) (l z a : List DV) (vs zs : List V), Rps p F μ l vs → Rps p F μ z zs → mx l z = some a → vs.length = npos ∧ zs.length = ks.length ∧ Rps p F μ a (gV vs zs)
  len : ∀ ds s, ds.length ≠ n → m ds s = .bad
theorem OkXK.c {npos : Nat} {ks : List Str} {mx : Mix} (o : OkXK p P w mg base lv f n m npos ks mx) (hr : Room lv X.A) (tk : Takes X (WeX E)) (e : At X p P w mg base := by exact ⟨rfl, rfl, rfl, rfl, rfl⟩) : FnK p X (WeX E) f m npos ks mx := by
  obtain ⟨fd, ps, gg, gV, hn, F, hb, h0⟩ := o.ex
  obtain ⟨e1, e2, e3, e4, e5⟩ := e
  subst e1 e2 e4 e5 hn
  rw [← e3] at F hb
  exact ⟨L2.CX X.prog X.w, E, WeX, lv, fd, ps, gg, gV, F, hr, hb, passes_call tk fun _ _ _ _ z => z, fun _ _ _ _ z => z, o.len, h0⟩
end
end Dq

/-! More of texts: a sign in a text, a text times a number, split, comprehensions over a text. -/
namespace Dq
open PySem PySem.Spec PyProof.Rows L2
section
variable {p : Pg} {X : Cx} {W : WX}
/-- a in z, a one sign -/
def inSD (x c : DV) (s : Sto) : R DV := match x, c with
  | .str a, .str z => match a.cps.toList with
    | [k] => .ok (.bl (decide (k ∈ z.cps.toList))) s
    | _ => .bad
  | _, _ => .bad
theorem opd_inS : OpR X (compareOp .In) (rOp p W inSD) := OpR.of fun G H σ a b x y Q gd ra rb po => by
  unfold inSD at po
  split at po
  · rename_i a z
    cases ra; cases rb
    split at po
    · rename_i k e
      have ea : a = ⟨#[k]⟩ := by
        cases a with
        | mk c =>
          have e : c.toList = [k] := e
          exact congrArg Str.mk (Array.toList_inj.mp e)
      subst ea
      exact ⟨_, op_in_sign, k, z, rfl, rfl, Po.ret po GX.rfl' rfl gd (.bl _)⟩
    · exact po.elim
  · exact po.elim
/-- z * n, z a text -/
def mulSD : DV → DV → Sto → R DV
  | .str z, .int n, s => okIf (decide (z.length ≤ 16) && decide (0 ≤ n) && decide (n ≤ 100000)) (.str (Txt.mul z n)) s
  | _, _, _ => .bad
theorem op_mul_str : OpR X (binaryOp .Mult) (fun x y H Q => ∃ z n, x = .str z ∧ y = .int n ∧ PySem.MulOk z n ∧ Q (.str (Txt.mul z n)) H) := by
  intro pins s σ H x y v u Q I rx ry h
  obtain ⟨z, n, rfl, rfl, hz, q⟩ := h
  obtain ⟨t, rfl⟩ := rx
  obtain ⟨t', rfl⟩ := ry
  exact PySem.SB.mul hz fun t' k => ⟨.str (Txt.mul z n), H, I.tok _, ⟨_, rfl⟩, q⟩
theorem opd_mulS : OpR X (binaryOp .Mult) (rOp p W mulSD) := OpR.of fun G H σ a b x y Q gd ra rb po => by
  unfold mulSD at po
  split at po
  · cases ra; cases rb
    obtain ⟨c, po⟩ := okIf_po po
    simp only [Bool.and_eq_true, decide_eq_true_eq] at c
    exact ⟨_, op_mul_str, _, _, rfl, rfl, mulOk_of 16 100000 c.1.1 c.2 (by omega) (by decide) (by decide), Po.ret po GX.rfl' rfl gd (.str _)⟩
  · exact po.elim
/-- z.split(y) -/
def splitB (z : Str) : List DV → Sto → R DV
  | [.str y], s => okIf (!(y.length == 0) && decide (z.length + 2 ≤ sizeLine)) (.lst ((Txt.split z y).map DV.str)) s
  | _, _ => .bad
theorem rps_strs {F : Hp} {μ : List Addr} : ∀ ys : List Str, Rps p F μ (ys.map DV.str) (ys.map V.str)
  | [] => .nil
  | y :: ys => .cons (.str y) (rps_strs ys)
theorem sm_split : SmR p X W "str.split" splitB := fun G H σ z ds vs Q gd rs po => by
  unfold splitB at po
  split at po
  · rename_i y
    cases rs with
    | cons r t =>
      cases t
      cases r
      obtain ⟨c, po⟩ := okIf_po po
      rw [Bool.and_eq_true] at c
      exact ⟨_, mt_split, z, y, rfl, rfl, by simpa using c.1, of_decide_eq_true c.2, fun q hq => new_lst gd (rps_strs _) po hq⟩
  · exact po.elim
end
/-! [.. for c in text] -/
abbrev sgn1 (c : Nat) : DV := .str ⟨#[c]⟩
def gLcS (ge : GE) (t : GTg) (vs : List Nat) (tst : GB) (el : GE) : GE := fun ρ s => (ge ρ s).bind fun d s1 => match d with
  | .str z => match lcR t tst el (wipeD ρ vs) s1.length (z.cps.toList.map sgn1) (s1 ++ [some (.lst [])]) with
    | some s2 => lcEnd s1 s2
    | none => .bad
  | _ => .bad
theorem lc_text {z : Str} {g : TG} {tt : TT} {te : TE} {vs : List Nat} {σ : L2.St} {H1 : Hp} {D : Addr} {Qd : Hp → Prop} (Pv : Nat → Hp → Prop) (h0 : Pv 0 (upd H1 D (.lst [])))
    (hs : ∀ i c H, z.cps[i]? = some c → Pv i H → g (.str ⟨#[c]⟩) (wipe σ vs) H fun σ2 H2 => wipe σ2 vs = wipe σ vs ∧ tt σ2 H2 fun b H3 =>
      if b = true then te σ2 H3 fun y H4 => ∃ acc, H4 D = some (.lst acc) ∧ acc.length < sizeLine ∧ Pv (i + 1) (upd H4 D (.lst (acc ++ [y]))) else Pv (i + 1) H3)
    (hd : ∀ H, Pv z.cps.size H → Qd H) : ∃ W : Nat → Nat → Hp → Prop, (∃ m, W 0 m (upd H1 D (.lst []))) ∧ ∀ i m H, W i m H →
      ((Its z).stop i H ∧ Qd H) ∨ ((Its z).go i H ∧ ∃ Nx : Hp → Prop, (∀ H', Nx H' → ∃ m', m' < m ∧ W (i + 1) m' H') ∧ ∀ x H', (Its z).yld i H x H' → g x (wipe σ vs) H' fun σ2 H2 => wipe σ2 vs = wipe σ vs ∧ tt σ2 H2 fun b H3 =>
        if b = true then te σ2 H3 fun y H4 => ∃ acc, H4 D = some (.lst acc) ∧ acc.length < sizeLine ∧ Nx (upd H4 D (.lst (acc ++ [y]))) else Nx H3) := by
  refine ⟨fun i m H => i + m = z.cps.size ∧ Pv i H, ⟨_, Nat.zero_add _, h0⟩, fun i m H w => ?_⟩
  obtain ⟨e, pv⟩ := w
  cases m with
  | zero =>
    have e : i = z.cps.size := e
    subst e
    exact .inl ⟨Nat.le_refl _, hd H pv⟩
  | succ k =>
    have lt : i < z.cps.size := by omega
    refine .inr ⟨lt, Pv (i + 1), fun H' p' => ⟨k, Nat.lt_succ_self k, by omega, p'⟩, fun x H' y => ?_⟩
    obtain ⟨rfl, c, ec, rfl⟩ := y
    exact hs i c _ ec pv
section
variable {p : Pg} {W : WX} {X : Cx}
theorem lcs_imp {vs0 : List Nat} {ge : GE} {g : TG} {t : GTg} {tst : GB} {el : GE} {σ : L2.St} {H : Hp} {Q : VK} (tb : TgB p g t vs0) (h : rd p W (gLcS ge t vs0 tst el) σ H Q) :
    tLc (iStr (rd p W ge)) g (rdB p W0 tst) (rd p W0 el) vs0 σ H Q := by
  obtain ⟨G, ρ, gd, en, po⟩ := h
  refine ⟨G, ρ, gd, en, (Po.bind po).imp fun v H1 ⟨G1, d, x1, gd1, r1, po1⟩ => ?_⟩
  split at po1
  · rename_i z
    split at po1
    · rename_i s2 hl
      cases r1
      refine ⟨z, rfl, fun D hD => ?_⟩
      have fini : LcI p G1 D t tst el (wipeD ρ vs0) σ (fun H => Q (.ref D) H) (z.cps.toList.map sgn1) (upd H1 D (.lst [])) :=
        ⟨G1.add D (.lst []), s2, GX.rfl', gd1.add hD ⟨[], rfl, .nil⟩, hl, fun G3 H3 x3 g3 e3 => by
          subst e3
          exact lc_end gd1 x3 g3 po1⟩
      refine lc_text (fun i H => LcI p G1 D t tst el (wipeD ρ vs0) σ (fun H => Q (.ref D) H) ((z.cps.toList.map sgn1).drop i) H) fini (fun i c H hi hI => ?_) (fun H hI => ?_)
      · have hI : LcI p G1 D t tst el (wipeD ρ vs0) σ (fun H => Q (.ref D) H) ((z.cps.toList.map sgn1).drop i) H := hI
        have e : (z.cps.toList.map sgn1).drop i = sgn1 c :: (z.cps.toList.map sgn1).drop (i + 1) := by
          have hi' : z.cps.toList[i]? = some c := by simpa using hi
          obtain ⟨lt, ec⟩ := List.getElem?_eq_some_iff.mp hi'
          rw [List.drop_eq_getElem_cons (by simpa using lt), List.getElem_map, ec]
        rw [e] at hI
        exact lc_turn gd1 (en.gx x1) tb (.str _) hI
      · have e : (z.cps.toList.map sgn1).drop z.cps.size = [] := by
          apply List.drop_eq_nil_of_le
          simp
        have hI : LcI p G1 D t tst el (wipeD ρ vs0) σ (fun H => Q (.ref D) H) ((z.cps.toList.map sgn1).drop z.cps.size) H := hI
        rw [e] at hI
        obtain ⟨G2, s3, x2, g2, e3, h2⟩ := hI
        rw [lcR] at e3
        cases e3
        exact h2 G2 H x2 g2 rfl
    · exact po1.elim
  · exact po1.elim
theorem qlcS {elt tg iter : Expr} {ifs : List Expr} {scope : Scope} {own : List (Str × Nat)} {pos : Pos} {ge : GE} {g : TG} {t : GTg} {tst : GB} {el : GE} (hc : X.calm = true) (hN : X.N.Nodup) (hi : PE X iter (rd p W ge)) (ok : BlkOk X.N X.env.scope scope own)
    (tb : TgB p g t (own.map (·.2))) (hg : ∀ (s : Shared) (H : Hp) (C : Addr) (cl : List (Str × Addr)) (fp : List Addr), PG (X.blk s H scope (compEnvC scope cl C X.env) fp) tg g)
    (ht : ∀ (s : Shared) (H : Hp) (C : Addr) (cl : List (Str × Addr)) (fp : List Addr), PTs (X.blk s H scope (compEnvC scope cl C X.env) fp) ifs (rdB p W0 tst))
    (he : ∀ (s : Shared) (H : Hp) (C : Addr) (cl : List (Str × Addr)) (fp : List Addr), PE (X.blk s H scope (compEnvC scope cl C X.env) fp) elt (rd p W0 el)) (hs : ∀ x, foldedSetIterable iter X.env x = pure x := by intro _; rfl) :
    PE X (.ListComp elt [⟨tg, iter, ifs, 0⟩] scope pos) (rd p W (gLcS ge t (own.map (·.2)) tst el)) :=
  PE.imp (pe_lc hc hN (pi_str hi) ok hg ht he hs) fun σ H Q h => lcs_imp tb h
/-- keywords that raise nothing, where something may -/
theorem lfK {kws : List Keyword} {g : GL} (h : PK X kws (rdL p W0 g)) : PK X kws (rdL p W (nxE g)) := PK.imp h fun σ H Q ⟨G, ρ, gd, en, po⟩ => ⟨G, ρ, gd, en, po_nx po⟩
end
end Dq

/-! int(text), also a long one. -/
namespace Dq
open PySem PySem.Spec PyProof.Rows L2
/-- the text has no limit of its own for digits -/
abbrev NoMax (K : PySem.W.Frag) : Prop := PySem.W.nsIn K cStatics "sys.int_max_str_digits" = some none
theorem max_digits {M : Model} {A : Around} {E : Value → Shared → Prop} {s : Shared} {Q : Nat → Shared → Prop} {K : PySem.W.Frag} (X : K.In s.heap) (e : NoMax K) (h : Q 4300 s) : wpAny M A Builtin.intMaxStrDigits Q E s := by
  unfold Builtin.intMaxStrDigits
  refine wpAny_bind ((PySem.W.looks_nsIn X e).here ?_)
  exact wpAny_pure h
theorem wp_textL {M : Model} {A : Around} {E : Value → Shared → Prop} {s : Shared} {Q : Value → Shared → Prop} {v : Value} {text : List Nat} {n : Int} {K : PySem.W.Frag}
    (hX : K.In s.heap) (he : NoMax K) (hs : ¬ (text.takeWhile (· != 0)).length ≤ 640) (hr : (int_private% "readNumeral") 4300 10 (text.takeWhile (· != 0)) = (int_private% "Numeral.value") n)
    (ha : ((text.takeWhile (· != 0)).length == text.length) = true) (h : Q (.int n s.toks) { s with toks := s.toks + 1 }) :
    wpAny M A ((int_private% "intFromText") v text 10) Q E s := by
  obtain ⟨hp, g, d, tk, os⟩ := s
  have md : ∀ {Q' : Nat → Shared → Prop} {E' : Value → Shared → Prop}, Q' 4300 ⟨hp, g, d, tk, os⟩ → wpAny M A Builtin.intMaxStrDigits Q' E' ⟨hp, g, d, tk, os⟩ := fun q => max_digits hX he q
  clear he
  repeat (any_goals (first
    | assumption
    | (with_reducible refine wpAny_ite_false (decide_eq_false hs) ?_)
    | (with_reducible refine md ?_)
    | (with_reducible refine wpAny_ite_true (decide_eq_true ha) ?_)
    | wp_step))
  all_goals (try rw [hr])
  all_goals (try dsimp only)
  repeat (any_goals (first
    | assumption
    | (with_reducible refine wpAny_ite_true (decide_eq_true ha) ?_)
    | wp_step))
structure Hid4 (a b c d : Prop) : Prop where
  o1 : a
  o2 : b
  o3 : c
  o4 : d
set_option maxHeartbeats 4000000 in
theorem meets_textL {x : PySem.Str} {u : Tok} {n : Int} {K : PySem.W.Frag} (he : NoMax K) (hl : ¬ (numSeenOf x).length ≤ 640) (hz : x.length ≤ sizeLine) (hn : PySem.intText? x = some n) :
    Meets (Builtin.«int.__new__» ⟨[.type "int", .str x u], []⟩) (fun _ R s => K.In s.heap ∧ R (.ok (.ret (.int n s.toks))) { s with toks := s.toks + 1 }) :=
  Meets.of_wp fun prog w A R s ⟨hX, h⟩ => by
    obtain ⟨hp, g, d, tk, os⟩ := s
    have f1 := F.conv_sub_int
    have f2 := F.madeHere_int
    have f3 := PySem.W.KIN.str_int
    have f4 := PySem.W.KIN.str_idx
    have f5 := PySem.W.KIN.str_trunc
    have f6 : typeOf (.str x u) = pure (.type "str") := rfl
    have hr : (int_private% "readNumeral") 4300 10 (numSeenOf x) = (int_private% "Numeral.value") n ∧ ((numSeenOf x).length == (numTextOf x).length) = true := by
      rcases read4300 x hz with ⟨m, h1, h2, h3⟩ | ⟨h1, _⟩
      · rw [hn] at h1
        injection h1 with h1
        subst h1
        exact ⟨h3, h2⟩
      · rw [hn] at h1
        cases h1
    have hk : Hid4 _ _ _ _ := ⟨hX, he, hl, hr⟩
    clear hX he hl hr hz hn
    repeat (any_goals (first
      | assumption
      | ((with_reducible show wpAny _ _ ((int_private% "intFromText") _ _ _) _ _ _); refine wp_textL hk.o1 hk.o2 hk.o3 hk.o4.1 hk.o4.2 ?_)
      | wp_step))
    all_goals first | exact ⟨_, rfl, h⟩ | skip
theorem call_int_long {X : Cx} (he : NoMax X.K) : CallR X (.type "int") (fun xs H Q => ∃ a n, xs = [.str a] ∧ PySem.intText? a = some n ∧ ¬ (numSeenOf a).length ≤ 640 ∧ a.length ≤ sizeLine ∧ Q (.int n) H) := by
  intro pins s σ H xs us Q I rs h
  obtain ⟨a, n, rfl, hn, hl, hz, h⟩ := h
  cases rs with
  | cons r1 rs =>
    cases rs
    obtain ⟨t, rfl⟩ := r1
    exact call_int_1 (meets_textL he hl hz hn) ⟨I.kIn, rfl, ⟨.int n, H, I.tok _, ⟨_, rfl⟩, h⟩⟩
theorem call_int_short {X : Cx} : CallR X (.type "int") (fun xs H Q => ∃ a n, xs = [.str a] ∧ PySem.intText? a = some n ∧ a.length ≤ 640 ∧ Q (.int n) H) := call_int_str
def intTB : List DV → Sto → R DV
  | [.str z], s => match PySem.intText? z with
    | some n => okIf (decide (z.length ≤ 640) || (!decide ((numSeenOf z).length ≤ 640) && decide (z.length ≤ sizeLine))) (.int n) s
    | none => .bad
  | ds, s => intD ds s
section
variable {p : Pg} {X : Cx} {W : WX}
theorem opd_intT (he : NoMax X.K) : CallR X (.type "int") (rCal p W intTB) := CallR.of fun G H σ ds vs Q gd rs po => by
  unfold intTB at po
  split at po
  · rename_i z
    split at po
    · rename_i n hn
      cases rs with
      | cons r t =>
        cases t
        cases r
        obtain ⟨c, po⟩ := okIf_po po
        rw [Bool.or_eq_true, Bool.and_eq_true] at c
        rcases c with c | ⟨c1, c2⟩
        · exact ⟨_, call_int_str, z, n, rfl, hn, of_decide_eq_true c, Po.ret po GX.rfl' rfl gd (.int _)⟩
        · refine ⟨_, call_int_long he, z, n, rfl, hn, ?_, of_decide_eq_true c2, Po.ret po GX.rfl' rfl gd (.int _)⟩
          simpa using c1
    · exact po.elim
  · exact ⟨_, opd_int (p := p) (W := W), G, _, σ, gd, rs, po⟩
end
end Dq

/-! C.m(..), m a class method with a star; a default that is an empty tuple. -/
namespace Dq
open PySem PySem.Spec PyProof.Rows L2
/-- what a star def of one parameter more is promised by positional values -/
def spS (p : Pg) (m : List DV → Sto → R DV) : Sp := fun vs H Q E => ∃ ws rest, vs = ws ++ rest ∧ ws.length = 1 ∧ rest.length ≤ sizeLine ∧ ∀ q, H q = none → spD p We0 2 m (ws ++ [V.ref q]) (upd H q (.tup rest)) Q E
structure OkS (p : Pg) (P : Program) (w : World) (mg : Str → Option Value) (base : Heap) (lv : Nat) (f : Addr) (m : List DV → Sto → R DV) : Prop where
  ex : FnR P w p.K mg base CX0 lv f (spS p m)
  len : ∀ ds s, ds.length ≠ 2 → m ds s = .bad
section
variable {p : Pg} {P : Program} {w : World} {mg : Str → Option Value} {base : Heap} {x qual pc pv : Str} {params : Arguments} {body : List Stmt} {scope : Scope} {f : Addr} {N : List Str} {k nN : Nat} {b : GS} {m : List DV → Sto → R DV}
theorem okS_of (F : ∃ fd, FunD p.K x qual params body scope [] [] f fd) (S : FnScope N [pc, pv] scope) (hN : N.length = nN) (hn : 2 ≤ nN) (hm : m = run nN 2 b)
    (hb : ∀ (kV doc pm : Value) (an : Option Addr) (cdv ct u : Value) (rest : List Value), bindArgs (PySem.W.fnOf x qual params body scope .none kV doc pm an cdv ct) ⟨u :: rest, []⟩ = (newTuple rest >>= fun t => pure [(pc, u), (pv, t)]))
    (h : ∀ (cdv : Value) (A : Around) (outer : List Env) (s : Shared) (H : Hp) (E : XK), Room k (A.deeper (envOfC qual scope s.heap.objs.size f cdv)) →
      PSs (cxOf CX0 P w p.K mg base N qual scope f cdv A outer s H E).nox body (rdS p W0 b)) : OkS p P w mg base (k + 1) f m := by
  obtain ⟨fd, F⟩ := F
  subst hN hm
  obtain ⟨oc, od, dV, kV, doc, pm, an, cdv, ct, osl, rfl, lk, hcd, hD, _⟩ := F.ex
  rcases hD with ⟨_, rfl⟩ | ⟨e, _⟩
  · refine ⟨StX.fn_star (ps := [pc]) (sp := spD p We0 2 (run N.length 2 b)) lk hcd S StX.cxUp_none (fun us rest hl => ?_) fun A outer s H vs Q E hr hs => ⟨_, PSs.nox (h cdv A outer s H E hr), body_of (We := We0) (fun _ _ _ _ _ _ z => z) hn hs⟩, fun ds s h => run_len h⟩
    cases us with
    | nil => cases hl
    | cons u us =>
      cases us with
      | nil => exact hb kV doc pm an cdv ct u rest
      | cons _ _ => cases hl
  · exact absurd rfl e
end
@[simp] def gClsS (g : List DV → Sto → R DV) (c : Nat) (gl : GL) : GE := fun ρ s => (gl ρ s).bind fun l s1 => match decide (l.length ≤ sizeLine) with
  | true => g [.cls c, .tup l] s1
  | false => .bad
section
variable {p : Pg} {X : Cx} {W : WX} {C q f : Addr} {m x : Str} {pp pos apos : Pos} {e : Expr} {es : List Expr} {gl : GL} {g : List DV → Sto → R DV} {pl : Sem Bool} {c lv : Nat} {P : Program} {w : World} {mg : Str → Option Value} {base : Heap}
theorem qclsS (hc : PE X (.Name x pp) (tC (.ref C))) (hC : C = p.cA c) (k : KMet X.K C m q f) (F : OkS p P w mg base lv f g) (hr : Room lv X.A) (ha : PA X (e :: es) (rdL p W0 gl)) (eX : At X p P w mg base := by exact ⟨rfl, rfl, rfl, rfl, rfl⟩)
    (he : starEach (e :: es) X.env = (false, eval e X.env) :: starEach es X.env := by rfl) (hpl : (backTo pos (starEach es X.env)).any (·.1) = false := by rfl)
    (ht : eval (.Call (.Attribute (.Name x pp) m apos) (e :: es) [] pos) X.env = (do
      let r ← eval (.Name x pp) X.env
      standAt apos.atName
      let (f, first) ← holding [r] (getMethod r m pl)
      callWith pos f first (backTo pos (starEach (e :: es) X.env)) (backToKw pos (keywordEach [] X.env))) := by rfl) :
    PE X (.Call (.Attribute (.Name x pp) m apos) (e :: es) [] pos) (rd p W0 (gClsS g c gl)) := by
  obtain ⟨e1, e2, e3, e4, e5⟩ := eX
  subst e1 e2 e4 e5 hC
  have F1 := F.ex
  rw [← e3] at F1
  refine PE.imp (ClX.pe_cmeth hc k.r k.k F1 hr pass0 ha he hpl ht) fun σ H Q ⟨G, ρ, gd, en, po⟩ => ⟨rfl, G, ρ, gd, en, (Po.bind po).imp fun vs H1 ⟨G1, l, x1, gd1, r1, po1⟩ => ?_⟩
  split at po1
  · rename_i hz
    have hz := of_decide_eq_true hz
    refine ⟨[.ref (p.cA c)], vs, rfl, rfl, by rw [← r1.length]; exact hz, fun q hq => ?_⟩
    exact sp_of (We := We0) (ds := [.cls c, .tup l]) (G := G1.lay q (.tup vs)) F.len (fun _ _ _ _ z => z) (gd1.lay hq) (.cons (.cls c) (.cons (.tup (SqT.of (by show upd G1.F q _ q = _; rw [upd_same])) (Rgs.gx r1 (GX.lay gd1 hq))) .nil)) (po1.gx (GX.lay gd1 hq))
  · exact po1.elim
end
end Dq
namespace Dq
open PySem PySem.Spec PyProof.Rows L2
/-- the i-th default of the def at f -/
def dtA (K : PySem.W.Frag) (f : Addr) (i : Nat) : Addr :=
  let dv : Option Addr := (K.lookup f).bind fun o => match o.data with
    | .func g => (match g.defaults with | .ref T => some T | _ => none)
    | _ => none
  ((dv.bind fun T => K.lookup T).bind fun o => match o.data with
    | .seq its _ => (match its.toList[i]? with | some (.ref a) => some a | _ => none)
    | _ => none).getD 0
def etB (K : PySem.W.Frag) (a : Addr) : Bool := match K.lookup a with
  | some ⟨.type t, _, .seq its _, _⟩ => decide (t = "tuple") && its.toList.isEmpty
  | _ => false
theorem etB_ok {K : PySem.W.Frag} {a : Addr} (h : etB K a = true) (F : Hp) : SqT K F a [] := by
  unfold etB at h
  split at h
  · rename_i t dx its n sl e
    rw [Bool.and_eq_true] at h
    obtain ⟨h1, h2⟩ := h
    have h1 := of_decide_eq_true h1
    subst h1
    have h2 : its.toList = [] := List.isEmpty_iff.mp h2
    refine .inr ⟨_, its, n, e, rfl, rfl, ?_, by rw [h2]; exact .nil⟩
    have : its.size = 0 := by rw [← Array.length_toList, h2]; rfl
    rw [this]
    exact Nat.zero_le _
  · cases h
end Dq
namespace Dq
open PySem PySem.Spec PyProof.Rows L2
section
variable {p : Pg} {X : Cx} {W : WX} {x : Str} {pp pos : Pos} {c : Nat} {g : List DV → Sto → R DV} {mb : Bool} {ds0 : List DV}
/-- C() -/
theorem qmake0 (C : MkC p X W c g ds0) (hm : X.mg x = some (.ref (p.cA c))) (hg : Gl X x) (hdb : (x == ("__debug__" : Str)) = false := by decide) :
    PE X (.Call (.Name x pp) [] [] pos) (rd p W (gMake mb c g ds0 gNil)) := by
  obtain ⟨CX, E, We, k, f, fd, ps, dvs, dsv, M, F, hr, hb, hd, h0, hx, hW, hl⟩ := C.ex
  exact PE.imp (pe_make0 M F hr hg hm hb hd hx hdb) fun σ H Q ⟨G, ρ, gd, en, po⟩ y dx hy hdx ne => make_of (ds := [] ++ ds0) (vs := [] ++ dvs) hl hW gd (h0 _ _) po hy hdx ne
end
end Dq
namespace Dq
open PySem PySem.Spec PyProof.Rows L2
/-- no such operation beside own ones -/
def badD : DV → DV → Sto → R DV := fun _ _ _ => .bad
section
variable {p : Pg} {X : Cx} {W : WX}
theorem opd_bad {f : Value → Value → Sem Value} : OpR X f (rOp p W badD) := fun pins s σ H x y v u Q I rx ry ⟨G, a, b, σ', gd, r1, r2, po⟩ => by
  unfold badD at po
  exact po.elim
end
end Dq

/-! bool(xs); == of lists of objects with an own ==. -/
namespace Dq
open PySem PySem.Spec PyProof.Rows L2
def boolLB : List DV → Sto → R DV
  | [.lst xs], s => .ok (.bl (!xs.isEmpty)) s
  | _, _ => .bad
section
variable {p : Pg} {X : Cx} {W : WX}
theorem opd_boolL (hK : X.K = p.K) : CallR X (.type "bool") (rCal p W boolLB) := CallR.of fun G H σ ds vs Q gd rs po => by
  unfold boolLB at po
  split at po
  · rename_i xs
    cases rs with
    | cons r t =>
      cases t
      cases r with
      | @lst a _ us e1 e2 =>
        refine ⟨_, call_boolL, a, us, rfl, SqL.of (gd.le _ _ e1), ?_⟩
        have : us.isEmpty = xs.isEmpty := by
          have := e2.length
          cases us <;> cases xs <;> simp at this ⊢
        rw [this]
        exact Po.ret po GX.rfl' rfl gd (.bl _)
  · exact po.elim
end
end Dq
namespace PySem.EqOwn
open SeqRoads2 MeetsSeq3 MeetsSeq2 MeetsSeq AutoSeq1
/-- the walk of list.__eq__ where each pair turns out equal, by whatever is called for it; J: what holds ahead of the i-th pair -/
theorem walk_eq {prog : Program} {w : World} (l b : Addr) (us ws : Array Value) (J : Nat → Shared → Prop) (sz : us.size = ws.size) (k : Nat) :
    ∀ i : Nat, us.size - i = k → MeetsIn prog w (Builtin.«list.__eq__.loop» ⟨[.ref l, .ref b, rawInt i, rawInt 2], []⟩)
      (fun A R s => (∀ i s, J i s → s.heap.IsList l us ∧ s.heap.IsList b ws) ∧ (∀ j (h1 : j < us.size) (h2 : j < ws.size) s E, J j s → wpAny (model prog w) A.in1 (eqBool us[j] ws[j]) (fun k s' => k = true ∧ J (j + 1) s') E s) ∧
        (∀ i s, us.size ≤ i → J i s → R (.ok (.ret (.bool true))) s) ∧ J i s) := by
  induction k with
  | zero =>
    intro i hk A R s ⟨lists, _, fin, now⟩
    obtain ⟨⟨⟨c1, d1, t1, s1⟩, o1, e1, n1, f1⟩, ⟨⟨c2, d2, t2, s2⟩, o2, e2, n2, f2⟩⟩ := lists i s now
    have fin := fin i s (by omega) now
    simp only at e1 f1 e2 f2
    subst e1 f1 e2 f2
    obtain ⟨hp1, g1', d1', tk1, os1⟩ := s
    wp_walk using wpAny_loadPart' o1, wpAny_loadPart' o2
    have g1 : us[((i : Nat) : Int).toNat]? = none := by rw [Int.toNat_natCast]; exact Array.getElem?_eq_none (by omega)
    have g2 : ws[((i : Nat) : Int).toNat]? = none := by rw [Int.toNat_natCast]; exact Array.getElem?_eq_none (by omega)
    rw [g1, g2]
    wp_walk using wpAny_loadPart' o1, wpAny_loadPart' o2
    show R (.ok (.ret (.bool (us.size == ws.size)))) _
    rw [sz, beq_self_eq_true]
    exact fin
  | succ k ih =>
    intro i hk A R s ⟨lists, each, fin, now⟩
    obtain ⟨⟨⟨c1, d1, t1, s1⟩, o1, e1, n1, f1⟩, ⟨⟨c2, d2, t2, s2⟩, o2, e2, n2, f2⟩⟩ := lists i s now
    simp only at e1 f1 e2 f2
    subst e1 f1 e2 f2
    have h1 : i < us.size := by omega
    have h2 : i < ws.size := by omega
    have one := fun E => each i h1 h2 s E now
    obtain ⟨hp1, g1', d1', tk1, os1⟩ := s
    wp_walk using wpAny_loadPart' o1, wpAny_loadPart' o2
    have g1 : us[((i : Nat) : Int).toNat]? = some us[i] := by rw [Int.toNat_natCast]; exact Array.getElem?_eq_getElem h1
    have g2 : ws[((i : Nat) : Int).toNat]? = some ws[i] := by rw [Int.toNat_natCast]; exact Array.getElem?_eq_getElem h2
    rw [g1, g2]
    refine wpAny_bind (wpAny_mono (one _) (fun r s' h => ?_) fun _ _ e => e)
    obtain ⟨rfl, next⟩ := h
    wp_walk
    rw [show ((i : Int) + 1) = ((i + 1 : Nat) : Int) from rfl]
    refine ⟨plainId_quiet plain_eq_loop _, codeAny_builtin entry_eq_loop ?_⟩
    rw [Around.under_plainId plain_eq_loop _]; exact ih (i + 1) (by omega) A R s' ⟨lists, each, fin, next⟩
theorem call_eq {prog : Program} {w : World} (l b : Addr) (us ws : Array Value) (J : Nat → Shared → Prop) (sz : us.size = ws.size)  : MeetsIn prog w (Builtin.«list.__eq__» ⟨[.ref l, .ref b], []⟩)
      (fun A R s => (∀ i s, J i s → s.heap.IsList l us ∧ s.heap.IsList b ws) ∧ (∀ j (h1 : j < us.size) (h2 : j < ws.size) s E, J j s → wpAny (model prog w) A.in1 (eqBool us[j] ws[j]) (fun k s' => k = true ∧ J (j + 1) s') E s) ∧
        (∀ i s, us.size ≤ i → J i s → R (.ok (.ret (.bool true))) s) ∧ J 0 s) := by
  intro A R s ⟨lists, each, fin, now⟩
  have loop := walk_eq (prog := prog) (w := w) l b us ws J sz _ 0 rfl A R s ⟨lists, each, fin, now⟩
  obtain ⟨⟨⟨c1, d1, t1, s1⟩, o1, e1, n1, f1⟩, ⟨⟨c2, d2, t2, s2⟩, o2, e2, n2, f2⟩⟩ := lists 0 s now
  simp only at e1 f1 e2 f2
  subst e1 f1 e2 f2
  obtain ⟨hp1, g1', d1', tk1, os1⟩ := s
  have subl := AutoSeq1.sub_list_list
  have ne : ¬ (us.size != ws.size) = true := by simp [sz]
  wp_walk using wpAny_loadPart' o1, wpAny_loadPart' o2
  refine ⟨plainId_quiet plain_eq_loop _, codeAny_builtin entry_eq_loop ?_⟩
  rw [Around.under_plainId plain_eq_loop _]; exact loop
theorem rich_eq {prog : Program} {w : World} {A : Around} {E Q : Value → Shared → Prop} {s : Shared} {l b : Addr} {us ws : Array Value} (J : Nat → Shared → Prop) (sz : us.size = ws.size) (hu : A.units < cLine)
    (lists : ∀ i s, J i s → s.heap.IsList l us ∧ s.heap.IsList b ws) (each : ∀ j (h1 : j < us.size) (h2 : j < ws.size) s E, J j s → wpAny (model prog w) A.in1 (eqBool us[j] ws[j]) (fun k s' => k = true ∧ J (j + 1) s') E s)
    (fin : ∀ i s, us.size ≤ i → J i s → Q (.bool true) s) (now : J 0 s) : wpAny (model prog w) A (richCompare .Eq (.ref l) (.ref b)) Q E s := by
  obtain ⟨⟨o, ho, hc, _⟩, ⟨o', ho', hc', _⟩⟩ := lists 0 s now
  have ta : s.TypeIs (.ref l) "list" := ⟨o, ho, hc⟩
  have tb : s.TypeIs (.ref b) "list" := ⟨o', ho', hc'⟩
  exact wpAny_richCompare_same_room (op := .Eq) ta tb F.slot_list_eq (call_meetsIn F.slot_list_eq ta F.entry_list_eq (F.args_list_eq_2 _ _) (call_eq l b us ws J sz)
    ⟨lists, each, fun i s' hi h => (show Value.bool true ≠ .notImplemented ∧ Q (.bool true) s' from ⟨nofun, fin i s' hi h⟩), now⟩) hu
end PySem.EqOwn
namespace Dq
open PySem PySem.Spec PyProof.Rows L2
def isC (c : Nat) : DV → Bool
  | .ins c' _ _ => decide (c' = c)
  | _ => false
theorem isC_ok {c : Nat} {d : DV} (h : isC c d = true) : ∃ ks zs, d = .ins c ks zs := by
  unfold isC at h
  split at h
  · have h := of_decide_eq_true h
    subst h
    exact ⟨_, _, rfl⟩
  · cases h
def saysT (s : Sto) : R DV → Bool
  | .ok (.bl true) s1 => sameS s1 s
  | _ => false
theorem saysT_ok {s : Sto} {r : R DV} (h : saysT s r = true) : r = .ok (.bl true) s := by
  unfold saysT at h
  split at h
  · rw [sameS_eq h]
  · cases h
/-- the pairs' own == says true, one behind another, and leaves the store -/
def eqsD (f : List DV → Sto → R DV) (c : Nat) : List DV → List DV → Sto → Bool
  | [], [], _ => true
  | x :: xs, y :: ys, s => isC c x && isC c y && saysT s (f [x, y] s) && eqsD f c xs ys s
  | _, _, _ => false
def eqLD (own : Sel) (c : Nat) (a b : DV) (s : Sto) : R DV := match a, b, own c with
  | .lst xs, .lst ys, some f => match eqsD f c xs ys s with
    | true => .ok (.bl true) s
    | false => .bad
  | _, _, _ => .bad
def eqX (X : Cx) : Cx := { X with A := X.A.in1, xe := fun _ _ => False }
theorem inv_eqX {X : Cx} {pins : List (Addr × Obj)} {σ : L2.St} {H : Hp} {s : Shared} (I : Inv X pins σ H s) : Inv (eqX X) pins σ H s := { I with ok := { I.ok with } }
theorem inv_eqO {X : Cx} {pins : List (Addr × Obj)} {σ : L2.St} {H : Hp} {s : Shared} (I : Inv (eqX X) pins σ H s) : Inv X pins σ H s := { I with ok := { I.ok with } }
theorem eqs_at {f : List DV → Sto → R DV} {c : Nat} {s : Sto} : ∀ {xs ys : List DV}, eqsD f c xs ys s = true → xs.length = ys.length ∧ ∀ (j : Nat) (x y : DV), xs[j]? = some x → ys[j]? = some y → (∃ ks zs, x = .ins c ks zs) ∧ (∃ ks zs, y = .ins c ks zs) ∧ f [x, y] s = .ok (.bl true) s
  | [], [], _ => ⟨rfl, fun j x y h => by simp at h⟩
  | [], _ :: _, h => by unfold eqsD at h; cases h
  | _ :: _, [], h => by unfold eqsD at h; cases h
  | x :: xs, y :: ys, h => by
    unfold eqsD at h
    simp only [Bool.and_eq_true] at h
    obtain ⟨⟨⟨h0, h1⟩, h2⟩, h3⟩ := h
    obtain ⟨hl, hj⟩ := eqs_at h3
    refine ⟨by simp [hl], fun j x' y' hx hy => ?_⟩
    cases j with
    | zero =>
      simp at hx hy
      subst hx hy
      exact ⟨isC_ok h0, isC_ok h1, saysT_ok h2⟩
    | succ j => exact hj j x' y' (by simpa using hx) (by simpa using hy)
theorem vals_at : ∀ {vs : List V} {us : List Value} {j : Nat} {v : V}, Vals vs us → vs[j]? = some v → ∀ h : j < us.length, RelV v us[j]
  | _, _, _, _, .nil, e, _ => by simp at e
  | _, _, 0, _, .cons a _, e, _ => by simp at e; subst e; exact a
  | _, _, j + 1, _, .cons _ b, e, h => by simpa using vals_at (j := j) b (by simpa using e) (by simpa using h)
def allRef (vs : List V) : Prop := ∀ v ∈ vs, ∃ a : Addr, v = .ref a
theorem refs_uniq : ∀ {vs : List V} {us us' : List Value}, Vals vs us → Vals vs us' → allRef vs → us = us'
  | [], _, _, .nil, .nil, _ => rfl
  | v :: vs, _, _, .cons (b := b1) a1 t1, .cons (b := b2) a2 t2, h => by
    obtain ⟨a, rfl⟩ := h _ (.head _)
    obtain rfl : b1 = Value.ref a := a1
    obtain rfl : b2 = Value.ref a := a2
    rw [refs_uniq t1 t2 fun v hv => h v (.tail _ hv)]
theorem refs_of {p : Pg} {F : Hp} {μ : List Addr} {c : Nat} : ∀ {xs : List DV} {vs : List V}, Rps p F μ xs vs → (∀ (j : Nat) (x : DV), xs[j]? = some x → ∃ ks zs, x = .ins c ks zs) → allRef vs
  | [], _, .nil, _ => fun v hv => nomatch hv
  | x :: xs, _, .cons r t, h => fun v hv => by
    rcases List.mem_cons.mp hv with rfl | hv
    · obtain ⟨ks, zs, rfl⟩ := h 0 x rfl
      cases r
      exact ⟨_, rfl⟩
    · exact refs_of t (fun j x hx => h (j + 1) x hx) v hv
theorem opd_eqL {p : Pg} {X : Cx} {W : WX} {own : Sel} {c : Nat} (hu : X.A.units < cLine) (hu1 : X.A.in1.units < cLine) (hs : ∀ f, own c = some f → SpC p (eqX X) W0 c "__eq__" f) : OpR X (compareOp .Eq) (rOp p W (eqLD own c)) :=
  fun pins s σ H x y v u Q I rx ry ⟨G, a, b, σ', gd, ra, rb, po⟩ => by
    unfold eqLD at po
    split at po
    · rename_i xs ys f hf
      split at po
      · rename_i he
        obtain ⟨hl, hj⟩ := eqs_at he
        have S := hs f hf
        cases ra with
        | @lst l _ vs a1 a2 =>
          cases rb with
          | @lst m _ ws b1 b2 =>
            obtain rfl : v = Value.ref l := rx
            obtain rfl : u = Value.ref m := ry
            obtain ⟨us1, r1, p1, _⟩ := I.list (SqL.of (gd.le _ _ a1))
            obtain ⟨us2, r2, p2, _⟩ := I.list (SqL.of (gd.le _ _ b1))
            have sz : us1.toArray.size = us2.toArray.size := by
              rw [List.size_toArray, List.size_toArray, ← r1.length, ← r2.length, ← a2.length, ← b2.length]
              exact hl
            show wpAny (model X.prog X.w) X.A (richCompare .Eq (.ref l) (.ref m)) (EP X pins σ Q) X.xe s
            refine EqOwn.rich_eq (fun _ s' => ∃ H' G', Inv X pins σ H' s' ∧ Gd p G' H' ∧ GX G G' ∧ G'.st = G.st ∧ s'.heap.IsList l us1.toArray ∧ s'.heap.IsList m us2.toArray) sz hu (fun i s' ⟨_, _, _, _, _, _, q1, q2⟩ => ⟨q1, q2⟩) (fun j h1 h2 s' E ⟨H', G', I', gd', x', st', q1, q2⟩ => ?_) (fun i s' _ ⟨H', G', I', gd', x', st', _⟩ => ?_) ⟨H, G, I, gd, GX.rfl', rfl, p1.isList, p2.isList⟩
            · have g1 : ∃ a1 b1, xs[j]? = some a1 ∧ ys[j]? = some b1 := by
                have l1 : j < xs.length := by rw [a2.length, r1.length]; simpa using h1
                exact ⟨xs[j], ys[j]'(by omega), by simp [l1], by simp [hl ▸ l1]⟩
              obtain ⟨da, db, ga, gb⟩ := g1
              obtain ⟨v1, e1, q3⟩ := Rps.get (i := j) a2 ga
              obtain ⟨v2, e2, q4⟩ := Rps.get (i := j) b2 gb
              obtain ⟨⟨k1, z1, rfl⟩, ⟨k2, z2, rfl⟩, hT⟩ := hj j _ _ ga gb
              have q3 := Rg.gx q3 x'
              have q4 := Rg.gx q4 x'
              have w1 := vals_at r1 e1 (by simpa using h1)
              have w2 := vals_at r2 e2 (by simpa using h2)
              have st2 : f [.ins c k1 z1, .ins c k2 z2] G'.st = .ok (.bl true) G'.st := by rw [st']; exact hT
              have ra1 := refs_of a2 (fun j x hx => by
                have : j < ys.length := by rw [← hl]; exact (List.getElem?_eq_some_iff.mp hx).1
                exact (hj j x ys[j] hx (by simp [this])).1)
              have rb1 := refs_of b2 (fun j y hy => by
                have : j < xs.length := by rw [hl]; exact (List.getElem?_eq_some_iff.mp hy).1
                exact (hj j xs[j] y (by simp [this]) hy).2.1)
              obtain ⟨x1, rfl⟩ := ra1 v1 (List.mem_of_getElem? e1)
              obtain ⟨y1, rfl⟩ := rb1 v2 (List.mem_of_getElem? e2)
              have w1 : us1.toArray[j] = Value.ref x1 := by rw [List.getElem_toArray]; exact w1
              have w2 : us2.toArray[j] = Value.ref y1 := by rw [List.getElem_toArray]; exact w2
              rw [w1, w2]
              by_cases same : x1 = y1
              · subst same
                exact (SeqAt.EqAt.same _).eqP E _ ⟨rfl, H', G', I', gd', x', st', q1, q2⟩
              · have run := opd_ownEq (X := eqX X) (W := W0) (p := p) (own := fun c' => if c' = c then some f else none) (g := badD) hu1 opd_bad (fun c' f' e => by
                  split at e
                  · rename_i ec
                    subst ec
                    cases e
                    exact S
                  · cases e) pins s' σ H' (.ref x1) (.ref y1) (.ref x1) (.ref y1) (fun v H2 => v = .bl true ∧ ∃ G2, GX G' G2 ∧ Gd p G2 H2 ∧ G2.st = G'.st) (inv_eqX I') rfl rfl ⟨G', .ins c k1 z1, .ins c k2 z2, σ, gd', q3, q4, by
                    have : ownEq (fun c' => if c' = c then some f else none) badD (.ins c k1 z1) (.ins c k2 z2) G'.st = .ok (.bl true) G'.st := by
                      simp [st2]
                    rw [this]
                    intro G2 v H2 x2 e2 g2 r2
                    cases r2
                    exact ⟨rfl, G2, x2, g2, e2⟩⟩
                unfold eqBool
                refine wpAny_holding (wpAny_ite_split (fun z => absurd (by injection eq_of_beq z) same) fun _ => wpAny_bind (thnF (show wpAny (model X.prog X.w) X.A.in1 (richCompare .Eq (.ref x1) (.ref y1)) _ (fun _ _ => False) s' from run) fun r s2 z => ?_))
                obtain ⟨v, H2, I2, rv, rfl, G2, x2, g2, e2⟩ := z
                obtain rfl : r = Value.bool true := rv
                have I2 := inv_eqO I2
                have xx := x'.trans x2
                obtain ⟨us3, r3, p3, _⟩ := I2.list (SqL.of (g2.le _ _ (xx.f _ _ a1)))
                obtain ⟨us4, r4, p4, _⟩ := I2.list (SqL.of (g2.le _ _ (xx.f _ _ b1)))
                obtain rfl := refs_uniq r1 r3 ra1
                obtain rfl := refs_uniq r2 r4 rb1
                exact wpAny_truthy_bool ⟨rfl, H2, G2, I2, g2, xx, e2.trans st', p3.isList, p4.isList⟩
            · rw [← st'] at po
              exact ⟨.bl true, H', I', rfl, Po.ret po x' rfl gd' (.bl true)⟩
      · exact po.elim
    · exact po.elim
end Dq

/-! Comprehensions over a list in the making, which they leave as it is. -/
namespace Dq
open PySem PySem.Spec PyProof.Rows L2
def ckB (tst : GB) : GB := fun ρ s => match tst ρ s with
  | .ok b s1 => match sameS s1 s with
    | true => .ok b s
    | false => .bad
  | _ => .bad
def ckE (el : GE) : GE := fun ρ s => match el ρ s with
  | .ok y s1 => match sameS s1 s with
    | true => .ok y s
    | false => .bad
  | _ => .bad
theorem ckB_ok {tst : GB} {ρ : En} {s s' : Sto} {b : Bool} (h : ckB tst ρ s = .ok b s') : tst ρ s = .ok b s ∧ s' = s := by
  unfold ckB at h
  split at h
  · rename_i b1 s1 e
    split at h
    · rename_i c
      cases h
      rw [e, sameS_eq c]
      exact ⟨rfl, rfl⟩
    · cases h
  · cases h
theorem ckE_ok {el : GE} {ρ : En} {s s' : Sto} {y : DV} (h : ckE el ρ s = .ok y s') : el ρ s = .ok y s ∧ s' = s := by
  unfold ckE at h
  split at h
  · rename_i b1 s1 e
    split at h
    · rename_i c
      cases h
      rw [e, sameS_eq c]
      exact ⟨rfl, rfl⟩
    · cases h
  · cases h
def gLcM (ge : GE) (t : GTg) (vs : List Nat) (tst : GB) (el : GE) : GE := fun ρ s => (ge ρ s).bind fun d s1 => match d with
  | .mr k => match s1[k]? with
    | some (some (.lst xs)) => match lcR t (ckB tst) (ckE el) (wipeD ρ vs) s1.length xs (s1 ++ [some (.lst [])]) with
      | some s2 => lcEnd s1 s2
      | none => .bad
    | _ => .bad
  | _ => .bad
section
variable {p : Pg} {W : WX} {X : Cx}
/-- what is left of it -/
def LcM (p : Pg) (G1 : Gh) (D : Addr) (t : GTg) (tst : GB) (el : GE) (ρ : En) (Qd : Hp → Prop) (k : Nat) (xs ds : List DV) (H : Hp) : Prop :=
  ∃ G2 s2, GX (G1.add D (.lst [])) G2 ∧ Gd p G2 H ∧ lcR t (ckB tst) (ckE el) ρ G1.st.length ds G2.st = some s2 ∧ (∀ G3 H3, GX (G1.add D (.lst [])) G3 → Gd p G3 H3 → G3.st = s2 → Qd H3) ∧ G2.st[k]? = some (some (.lst xs))
theorem lc_turnM {G1 G2 : Gh} {s2 : Sto} {H1 : Hp} {D : Addr} {g : TG} {t : GTg} {vs : List Nat} {tst : GB} {el : GE} {ρ : En} {σ : L2.St} {Qd : Hp → Prop} {d : DV} {ds xs : List DV} {v : V} {H : Hp} {k : Nat} (hk0 : k < G1.st.length) (g1 : Gd p G1 H1) (en : EnR p G1 ρ σ) (tg : TgB p g t vs)
    (x2 : GX (G1.add D (.lst [])) G2) (g2 : Gd p G2 H) (e2 : lcR t (ckB tst) (ckE el) (wipeD ρ vs) G1.st.length (d :: ds) G2.st = some s2) (h2 : ∀ G3 H3, GX (G1.add D (.lst [])) G3 → Gd p G3 H3 → G3.st = s2 → Qd H3) (k2 : G2.st[k]? = some (some (.lst xs))) (r : Rp p G2.F G2.μ d v) :
    g v (wipe σ vs) H fun σ2 H2 => wipe σ2 vs = wipe σ vs ∧ rdB p W0 tst σ2 H2 fun b H3 =>
      if b = true then rd p W0 el σ2 H3 fun y H4 => ∃ acc, H4 D = some (.lst acc) ∧ acc.length < sizeLine ∧ LcM p G1 D t tst el (wipeD ρ vs) Qd k xs ds (upd H4 D (.lst (acc ++ [y]))) else LcM p G1 D t tst el (wipeD ρ vs) Qd k xs ds H3 := by
  have xx : GX G1 G2 := GX.add.trans x2
  rw [lcR] at e2
  cases et : t d (wipeD ρ vs) with
  | none => rw [et] at e2; cases e2
  | some ρ1 =>
    rw [et] at e2
    refine tg G2 (wipeD ρ vs) σ d v H _ ρ1 g2 ((wipe_en en vs).gx xx) r et fun σ2 en2 hw => ⟨hw, G2, ρ1, g2, en2, ?_⟩
    simp only at e2
    cases eb : ckB tst ρ1 G2.st with
    | bad => rw [eb] at e2; cases e2
    | exc _ _ _ _ => rw [eb] at e2; cases e2
    | ok b s3 =>
      rw [eb] at e2
      obtain ⟨eb', rfl⟩ := ckB_ok eb
      rw [eb']
      intro G3 b' H3 x3 es3 g3 rb
      cases rb
      cases b with
      | false =>
        simp only at e2
        rw [← es3] at e2 k2
        exact ⟨G3, s2, x2.trans x3, g3, e2, h2, k2⟩
      | true =>
        refine ⟨G3, ρ1, g3, en2.gx x3, ?_⟩
        simp only at e2
        rw [← es3] at e2 k2
        cases ee : ckE el ρ1 G3.st with
        | bad => rw [ee] at e2; cases e2
        | exc _ _ _ _ => rw [ee] at e2; cases e2
        | ok y s4 =>
          rw [ee] at e2
          obtain ⟨ee', rfl⟩ := ckE_ok ee
          rw [ee']
          intro G4 yv H4 x4 es4 g4 ry
          simp only at e2
          rw [← es4] at e2 k2
          have x5 : GX (G1.add D (.lst [])) G4 := x2.trans (x3.trans x4)
          have hm4 : G4.μ[G1.st.length]? = some D := x5.m _ _ (by rw [← g1.len]; exact Gh.add_at)
          split at e2
          · rename_i acc hk
            obtain ⟨a, f1, f2, us, f3, f4⟩ := g4.live _ _ hk
            rw [hm4] at f1; cases f1
            split at e2
            · rename_i c
              refine ⟨us, f3, by rw [← f4.length]; exact of_decide_eq_true c, _, s2, x5.trans GX.put, g4.put (m := .lst (acc ++ [y])) hm4 f2 ⟨us ++ [yv], rfl, f4.app (.cons ry .nil)⟩, e2, h2, ?_⟩
              show (G4.st.set G1.st.length (some (MO.lst (acc ++ [y]))))[k]? = _
              rw [List.getElem?_set_ne (by omega)]
              exact k2
            · cases e2
          · cases e2
theorem lcm_imp {vs0 : List Nat} {iter tg : Expr} {ge : GE} {g : TG} {t : GTg} {tst : GB} {el : GE} {σ : L2.St} {H : Hp} {Q : VK} (tb : TgB p g t vs0) (h : rd p W (gLcM ge t vs0 tst el) σ H Q) :
    tLc (iList X.K (rd p W ge)) g (rdB p W0 tst) (rd p W0 el) vs0 σ H Q := by
  obtain ⟨G, ρ, gd, en, po⟩ := h
  unfold gLcM at po
  refine ⟨G, ρ, gd, en, (Po.bind po).imp fun v H1 ⟨G1, d, x1, gd1, r1, po1⟩ => ?_⟩
  split at po1
  · rename_i k
    split at po1
    · rename_i xs hk
      split at po1
      · rename_i s2 hl
        obtain ⟨a, f1, f2, vs, f3, f4⟩ := gd1.live _ _ hk
        have hk0 : k < G1.st.length := (List.getElem?_eq_some_iff.mp hk).1
        cases r1 with
        | mr hm =>
          rw [hm] at f1
          cases f1
          refine ⟨a, rfl, ⟨_, SqL.of f3⟩, fun D hD => ?_⟩
          have at2 : ∀ {G2 : Gh} {H2 : Hp}, GX (G1.add D (.lst [])) G2 → Gd p G2 H2 → G2.st[k]? = some (some (.lst xs)) → ∃ us, SqL X.K H2 a us ∧ Rps p G2.F G2.μ xs us := by
            intro G2 H2 x2 g2 e
            obtain ⟨a', e1, e2, us, e3, e4⟩ := g2.live _ _ e
            have : G2.μ[k]? = some a := (GX.add.trans x2).m _ _ hm
            rw [this] at e1
            cases e1
            exact ⟨us, SqL.of e3, e4⟩
          refine ⟨fun i m H => m = xs.length - i ∧ i ≤ xs.length ∧ LcM p G1 D t tst el (wipeD ρ vs0) (fun H => Q (.ref D) H) k xs (xs.drop i) H, ⟨xs.length, by simp, Nat.zero_le _, G1.add D (.lst []), s2, GX.rfl', gd1.add hD ⟨[], rfl, .nil⟩, hl, fun G3 H3 x3 g3 e3 => ?_, ?_⟩, ?_⟩
          · subst e3
            exact lc_end gd1 x3 g3 po1
          · show (G1.st ++ [some (MO.lst [])])[k]? = _
            rw [List.getElem?_append_left hk0]
            exact hk
          · rintro i m H' ⟨rfl, hi, G2, s3, x2, g2, e2, h2, k2⟩
            obtain ⟨us, q1, q2⟩ := at2 x2 g2 k2
            by_cases hlt : i < xs.length
            · have hlu : i < us.length := by rw [← q2.length]; exact hlt
              refine .inr ⟨⟨us, us[i], q1, by simp [hlu]⟩, fun H' => LcM p G1 D t tst el (wipeD ρ vs0) (fun H => Q (.ref D) H) k xs (xs.drop (i + 1)) H', fun H' p' => ⟨xs.length - (i + 1), by omega, rfl, hlt, p'⟩, fun x H'' y => ?_⟩
              obtain ⟨e, y⟩ := y
              subst e
              obtain ⟨d, hd, rd⟩ := q2.get' (y us q1)
              have ed : xs.drop i = d :: xs.drop (i + 1) := by
                obtain ⟨lt, e⟩ := List.getElem?_eq_some_iff.mp hd
                rw [List.drop_eq_getElem_cons lt, e]
              rw [ed] at e2
              exact lc_turnM hk0 gd1 (en.gx x1) tb x2 g2 e2 h2 k2 rd
            · refine .inl ⟨⟨us, q1, by rw [← q2.length]; omega⟩, ?_⟩
              rw [List.drop_eq_nil_of_le (by omega), lcR] at e2
              cases e2
              exact h2 G2 _ x2 g2 rfl
      · exact po1.elim
    · exact po1.elim
  · exact po1.elim
theorem qlcM {elt tg iter : Expr} {ifs : List Expr} {scope : Scope} {own : List (Str × Nat)} {pos : Pos} {ge : GE} {g : TG} {t : GTg} {tst : GB} {el : GE} (hc : X.calm = true) (hN : X.N.Nodup) (hi : PE X iter (rd p W ge)) (ok : BlkOk X.N X.env.scope scope own)
    (tb : TgB p g t (own.map (·.2))) (hg : ∀ (s : Shared) (H : Hp) (C : Addr) (cl : List (Str × Addr)) (fp : List Addr), PG (X.blk s H scope (compEnvC scope cl C X.env) fp) tg g)
    (ht : ∀ (s : Shared) (H : Hp) (C : Addr) (cl : List (Str × Addr)) (fp : List Addr), PTs (X.blk s H scope (compEnvC scope cl C X.env) fp) ifs (rdB p W0 tst))
    (he : ∀ (s : Shared) (H : Hp) (C : Addr) (cl : List (Str × Addr)) (fp : List Addr), PE (X.blk s H scope (compEnvC scope cl C X.env) fp) elt (rd p W0 el)) (hs : ∀ x, foldedSetIterable iter X.env x = pure x := by intro _; rfl) :
    PE X (.ListComp elt [⟨tg, iter, ifs, 0⟩] scope pos) (rd p W (gLcM ge t (own.map (·.2)) tst el)) :=
  PE.imp (pe_lc hc hN (pi_list hi) ok hg ht he hs) fun σ H Q h => lcm_imp (X := X) (iter := iter) (tg := tg) tb h
end
end Dq

/-! The head over a written list of addresses: the fragment holds what the facts look at, and nothing else. -/
namespace Dq
open PySem PySem.Spec PyProof.Rows L2
def obsL (as : List Addr) (fn : List DefQ) (ex : PySem.W.Frag → Bool) (g : Addr → Option Obj) : AlQ := obsQ fn ex (He.frG g as)
def hookL (as : List Addr) (fn : List DefQ) (ex : PySem.W.Frag → Bool) : PySem.W.Hook where
  α := AlQ
  obs := fun s => obsL as fn ex s.heap.get?
  val := fun _ => valQ fn
  says := fun _ h => ∃ K : PySem.W.Frag, K.In h ∧ SaysQ fn ex K
  of := fun _ _ e => ⟨_, He.frG_in, e⟩
  keeps := fun _ _ _ ⟨K, hK, c⟩ k => ⟨K, PySem.W.Frag.In.keeps hK k, c⟩
theorem obsL_eq {as : List Addr} {fn : List DefQ} {ex : PySem.W.Frag → Bool} {g : Addr → Option Obj} {s : Shared} (h : ∀ a, g a = s.heap.get? a) : obsL as fn ex g = (hookL as fn ex).obs s := by
  have e : g = s.heap.get? := funext h
  rw [e]
  rfl
def obsLT (as : List Addr) (fn : List DefQ) (ex : PySem.W.Frag → Bool) (g : Addr → Option Obj) : AlT := (obsQ fn ex (He.frG g as), tabB (He.frG g as) g)
def hookLT (as : List Addr) (fn : List DefQ) (ex : PySem.W.Frag → Bool) : PySem.W.Hook where
  α := AlT
  obs := fun s => obsLT as fn ex s.heap.get?
  val := fun _ => (valQ fn, true)
  says := fun _ h => ∃ K : PySem.W.Frag, K.In h ∧ SaysQ fn ex K ∧ tabB K h.get? = true
  of := fun _ s e => ⟨He.frG s.heap.get? as, He.frG_in, congrArg Prod.fst e, congrArg Prod.snd e⟩
  keeps := fun _ h h' ⟨K, hK, c, t⟩ k => ⟨K, PySem.W.Frag.In.keeps hK k, c, by
    unfold tabB at t ⊢
    simp only [Bool.and_eq_true] at t ⊢
    obtain ⟨t1, t2, t3, t4⟩ := t
    refine ⟨t1, t2, t3, ?_⟩
    have e := isTab_ok t4
    rw [k _ _ e]
    rw [e] at t4
    exact t4⟩
theorem obsLT_eq {as : List Addr} {fn : List DefQ} {ex : PySem.W.Frag → Bool} {g : Addr → Option Obj} {s : Shared} (h : ∀ a, g a = s.heap.get? a) : obsLT as fn ex g = (hookLT as fn ex).obs s := by
  have e : g = s.heap.get? := funext h
  rw [e]
  rfl
end Dq

/-! for x in range(a, b, c) with a positive step. -/
namespace Dq
open PySem PySem.Spec PyProof.Rows L2
section
variable {p : Pg} {X : Cx} {W : WX}
theorem rangeSize_up {i j c : Int} (hc : 0 < c) : Builtin.Range.rangeSize i j c = (((j - i + c - 1) / c).toNat : Int) := by
  unfold Builtin.Range.rangeSize
  rw [if_pos hc]
  split
  · rename_i h
    have e : j - i + c - 1 = (j - i - 1) + 1 * c := by omega
    rw [e, Int.add_mul_ediv_right _ _ (by omega)]
    have : 0 ≤ (j - i - 1) / c := Int.ediv_nonneg (by omega) (by omega)
    omega
  · rename_i h
    have : (j - i + c - 1) / c < 1 := Int.ediv_lt_of_lt_mul hc (by omega)
    omega
def rng3 : List DV → Option (Int × Int × Nat)
  | [.int i, .int j, .int c] => match decide (0 < c ∧ c < 1073741824) && Builtin.Range.small i j c with
    | true => some (i, c, ((j - i + c - 1) / c).toNat)
    | false => none
  | _ => none
def rangeC (lo c : Int) (n : Nat) : List DV := (List.range n).map fun (i : Nat) => DV.int (lo + i * c)
@[simp] def gForC (gl : GL) (t : GTg) (gb : GS) : GS := fun ρ s => (gl ρ s).toS ρ fun l s1 => match rng3 l with
  | some q => forR (turn t gb) (rangeC q.1 q.2.1 q.2.2) ρ s1
  | none => .bad
variable {tg : Expr} {body : List Stmt} {t : GTg} {gb : GS}
theorem rangeC_at {lo c : Int} {n i : Nat} (h : i < n) : (rangeC lo c n).drop i = .int (lo + (i : Nat) * c) :: (rangeC lo c n).drop (i + 1) := by
  have lt : i < (rangeC lo c n).length := by unfold rangeC; simpa using h
  rw [List.drop_eq_getElem_cons lt]
  congr 1
  simp [rangeC]
theorem for_rngC {D : Ends} {G1 : Gh} {H1 : Hp} {ρ : En} {σ : L2.St} {lo c : Int} {n : Nat} (gd1 : Gd p G1 H1) (en : EnR p G1 ρ σ) (po1 : PoS p W G1 D (forR (turn t gb) (rangeC lo c n) ρ G1.st)) :
    ∃ W' : Nat → Nat → L2.St → Hp → Prop, (∃ m, W' 0 m σ H1) ∧ ∀ i m σ H, W' i m σ H →
      ((Itc lo c n).stop i H ∧ D.nx σ H) ∨ ((Itc lo c n).go i H ∧ ∃ N : L2.St → Hp → Prop, (∀ σ' H', N σ' H' → ∃ m', m' < m ∧ W' (i + 1) m' σ' H') ∧ ∀ x H', (Itc lo c n).yld i H x H' → rdG p t x σ H' fun σ2 H2 => rdS p W gb { D with nx := N, ct := N, bk := D.nx } σ2 H2) := by
  refine for_rangeC (fun i σ' H' => ForI p W D G1 (turn t gb) ((rangeC lo c n).drop i) σ' H') ⟨G1, ρ, GX.rfl', gd1, en, po1⟩ ?_ ?_
  · intro i σ2 H2 hi ⟨G2, ρ2, x2, gd2, en2, po2⟩
    rw [rangeC_at hi] at po2
    exact turn_of gd2 en2 (.int _) (forI_body po2 fun σ3 H3 ⟨G3, ρ3, x3, gd3, en3, po3⟩ => ⟨G3, ρ3, x2.trans x3, gd3, en3, po3⟩)
  · intro σ' H' ⟨G2, ρ2, x2, gd2, en2, po2⟩
    have e : (rangeC lo c n).drop n = [] := by
      apply List.drop_eq_nil_of_le
      simp [rangeC]
    rw [e] at po2
    exact po2 G2 σ' H' GX.rfl' rfl gd2 en2
theorem sforR3 {a b c : Expr} {gl : GL} {p1 pos1 pos : Pos} (hp : PassesOwn (model X.prog X.w) X.A X.env X.xe) (hc : X.calm = true) (hgl : Gl X "range") (hm : X.mg "range" = none) (ha : PA X [a, b, c] (rdL p W gl)) (hg : PG X tg (rdG p t)) (hb : PSs X body (rdS p W gb))
    (hse : starEach [a, b, c] X.env = (false, eval a X.env) :: starEach [b, c] X.env := by rfl) (hpl : (backTo pos1 (starEach [b, c] X.env)).any (·.1) = false := by rfl) (hs : ∀ x, foldedSetIterable (.Call (.Name "range" p1) [a, b, c] [] pos1) X.env x = pure x := by intro _; rfl) :
    PS X (.For tg (.Call (.Name "range" p1) [a, b, c] [] pos1) body [] pos) (rdS p W (gForC gl t gb)) :=
  PS.imp (ps_for hp hc (pi_range3 hgl hm ha hse hpl) hg hb hs) fun D σ H ⟨G, ρ, gd, en, po⟩ => ⟨G, ρ, gd, en, (PoS.of po en).imp fun vs H1 ⟨G1, l, x1, gd1, r1, po1⟩ => by
    split at po1
    · rename_i q h
      unfold rng3 at h
      split at h
      · split at h
        · rename_i c
          cases h
          cases r1 with
          | cons r1 r2 =>
            cases r2 with
            | cons r2 r3 =>
              cases r3 with
              | cons r3 r4 =>
                cases r4; cases r1; cases r2; cases r3
                rw [Bool.and_eq_true] at c
                obtain ⟨c1, c2⟩ := c
                have c1 := of_decide_eq_true c1
                exact ⟨_, _, _, _, rfl, ⟨by omega, by omega, c2, rangeSize_up c1.1⟩, for_rngC gd1 (en.gx x1) po1⟩
        · cases h
      · cases h
    · exact po1.elim⟩
/-- the bounds that a text of some thousands of letters has -/
theorem rng3_of {j c : Int} (h0 : 0 ≤ j) (h1 : j < 1099511627776) (h2 : 0 < c) (h3 : c < 1048576) : rng3 [.int 0, .int j, .int c] = some (0, c, ((j + c - 1) / c).toNat) := by
  have hs : Builtin.Range.small 0 j c = true := by
    unfold Builtin.Range.small
    rw [rangeSize_up h2, if_pos h2]
    have k0 : 0 ≤ (j - 0 + c - 1) / c := Int.ediv_nonneg (by omega) (by omega)
    have k1 : (j - 0 + c - 1) / c ≤ j - 0 + c - 1 := Int.ediv_le_self _ (by omega)
    simp only [Builtin.Range.rangeFitsLong, Bool.and_eq_true, Bool.or_eq_true, decide_eq_true_eq]
    generalize (j - 0 + c - 1) / c = m at k0 k1
    refine ⟨⟨⟨⟨?_, ?_⟩, ?_⟩, ?_⟩, .inr ?_⟩ <;> omega
  unfold rng3
  have hd : (decide (0 < c ∧ c < 1073741824) && Builtin.Range.small 0 j c) = true := by
    rw [hs, Bool.and_true]
    exact decide_eq_true ⟨h2, by omega⟩
  simp only [hd, Int.sub_zero]
end
end Dq

/-! text.endswith, tuple(list), for i, x in enumerate(list), except C as n. -/
namespace Tq
open PySem PySem.Spec PyProof.Rows L2
theorem test1 {X : Cx} {n1 : Str} {c1 : Value} {q1 : Pos} (h1 : Names X n1 c1) : Test X (.Name n1 q1) (fun cls => PySem.W.exmAny X.K cls [c1]) := by
  intro x pn pins s σ H cls b Q E S LT hb q
  have nm : ∀ {n : Str} {c : Value} {r : Pos} {R : Value → Shared → Prop}, Names X n c → R c s → wpAny (model X.prog X.w) (X.A.mark (some (.ref x))) (eval (.Name n r) X.env) R E s := fun {n c r R} hc z => by
    obtain ⟨hg, hd, hm | ⟨hm, hv, hn⟩⟩ := hc
    · exact ld_glob (X := X.suite x pn) S hg hm z hd
    · exact ld_blt (X := X.suite x pn) S hg hm hv z hn hd
  refine nm h1 ?_
  obtain ⟨b1, d1, x1, y1, z1⟩ := PySem.W.exmAny_cons hb
  have e : d1 = false := by
    unfold PySem.W.exmAny at y1
    exact (Option.some.inj y1).symm
  have eb : b = b1 := by rw [z1, e, Bool.or_false]
  subst eb
  have r := PySem.W.exm_one (M := model X.prog X.w) S.kIn LT x1
  exact r.here (q s.heap fun _ _ z => z)
end Tq
namespace Dq
open PySem PySem.Spec PyProof.Rows L2
section
variable {p : Pg} {X : Cx} {W : WX}
def endsB (z : Str) : List DV → Sto → R DV
  | [.str y], s => .ok (.bl (Txt.endswith z y)) s
  | _, _ => .bad
theorem sm_ends : SmR p X W "str.endswith" endsB := fun G H σ z ds vs Q gd rs po => by
  unfold endsB at po
  split at po
  · cases rs with
    | cons r t =>
      cases t
      cases r
      exact ⟨_, mt_endswith, z, _, rfl, rfl, Po.ret po GX.rfl' rfl gd (.bl _)⟩
  · exact po.elim
def countB (z : Str) : List DV → Sto → R DV
  | [.str y], s => .ok (.int (Txt.count z y)) s
  | _, _ => .bad
theorem sm_count : SmR p X W "str.count" countB := fun G H σ z ds vs Q gd rs po => by
  unfold countB at po
  split at po
  · cases rs with
    | cons r t =>
      cases t
      cases r
      exact ⟨_, mt_count, z, _, rfl, rfl, Po.ret po GX.rfl' rfl gd (.int _)⟩
  · exact po.elim
/-- tuple(list) -/
def tupleD : List DV → Sto → R DV
  | [.tup xs], s => .ok (.tup xs) s
  | [d], s => match seqL d with
    | some xs => .ok (.tup xs) s
    | none => .bad
  | _, _ => .bad
theorem opd_tuple (hK : X.K = p.K) : CallR X (.type "tuple") (rCal p W tupleD) := CallR.of fun G H σ ds vs Q gd rs po => by
  unfold tupleD at po
  split at po
  · cases rs with
    | cons r t =>
      cases t
      cases r with
      | tup a r2 => exact ⟨_, call_tuple_of, _, _, rfl, .inr ⟨by rw [hK]; exact sqT_up gd.le a, Po.ret po GX.rfl' rfl gd (.tup a r2)⟩⟩
  · cases rs with
    | cons r t =>
      cases t
      split at po
      · rename_i xs e
        cases r with
        | lst a r2 => cases e; exact ⟨_, call_tuple_of, _, _, rfl, .inl ⟨by rw [hK]; exact SqL.of (gd.le _ _ a), fun q hq => new_tup gd r2 po hq⟩⟩
        | wl a r2 => cases e; exact ⟨_, call_tuple_of, _, _, rfl, .inl ⟨by rw [hK]; exact sqL_up gd.le a, fun q hq => new_tup gd r2 po hq⟩⟩
        | _ => cases e
      · exact po.elim
  · exact po.elim
/-! ### enumerate -/
def enumD : Nat → List DV → List DV
  | _, [] => []
  | k, x :: xs => .tup [.int (k : Int), x] :: enumD (k + 1) xs
theorem enumD_get : ∀ {xs : List DV} {k i : Nat} {x : DV}, xs[i]? = some x → (enumD k xs).drop i = .tup [.int ((k + i : Nat) : Int), x] :: (enumD k xs).drop (i + 1)
  | _ :: xs, k, 0, x, h => by cases h; rfl
  | _ :: xs, k, i + 1, x, h => by
    show (enumD (k + 1) xs).drop i = _ :: (enumD (k + 1) xs).drop (i + 1)
    rw [enumD_get (k := k + 1) (i := i) h, show k + 1 + i = k + (i + 1) by omega]
  | [], _, _, _, h => by cases h
theorem enumD_len : ∀ (xs : List DV) (k : Nat), (enumD k xs).length = xs.length
  | [], _ => rfl
  | _ :: xs, k => by
    show (enumD (k + 1) xs).length + 1 = xs.length + 1
    rw [enumD_len xs]
@[simp] def gForE (gl : GL) (t : GTg) (gb : GS) : GS := fun ρ s => (gl ρ s).toS ρ fun l s1 => match l with
  | [d] => match seqL d with
    | some xs => forR (turn t gb) (enumD 0 xs) ρ s1
    | none => .bad
  | _ => .bad
variable {tg : Expr} {body : List Stmt} {t : GTg} {gb : GS}
theorem for_enum {D : Ends} {G1 : Gh} {H1 : Hp} {ρ : En} {σ : L2.St} {xs : List DV} {us : List V} {a : Addr} (gd1 : Gd p G1 H1) (en : EnR p G1 ρ σ) (sa : SqL p.K G1.F a us) (rs : Rps p G1.F G1.μ xs us) (po1 : PoS p W G1 D (forR (turn t gb) (enumD 0 xs) ρ G1.st)) :
    ∃ W' : Nat → Nat → L2.St → Hp → Prop, (∃ m, W' 0 m σ H1) ∧ ∀ i m σ H, W' i m σ H →
      ((Ite p.K a).stop i H ∧ D.nx σ H) ∨ ((Ite p.K a).go i H ∧ ∃ N : L2.St → Hp → Prop, (∀ σ' H', N σ' H' → ∃ m', m' < m ∧ W' (i + 1) m' σ' H') ∧ ∀ x H', (Ite p.K a).yld i H x H' → rdG p t x σ H' fun σ2 H2 => rdS p W gb { D with nx := N, ct := N, bk := D.nx } σ2 H2) := by
  refine ⟨fun i m σ' H' => m = us.length - i ∧ i ≤ us.length ∧ ForI p W D G1 (turn t gb) ((enumD 0 xs).drop i) σ' H', ⟨us.length, by simp, Nat.zero_le _, G1, ρ, GX.rfl', gd1, en, po1⟩, ?_⟩
  rintro i m σ2 H2 ⟨rfl, hi, hI⟩
  obtain ⟨G2, ρ2, x2, gd2, en2, po2⟩ := hI
  have sa2 : SqL p.K H2 a us := sqL_up gd2.le (sqL_up x2.f sa)
  by_cases lt : i < us.length
  · refine .inr ⟨⟨us, us[i], sa2, by simp [lt]⟩, fun σ' H' => ForI p W D G1 (turn t gb) ((enumD 0 xs).drop (i + 1)) σ' H', fun σ' H' q => ⟨us.length - (i + 1), by omega, rfl, lt, q⟩, fun v H' y => ?_⟩
    obtain ⟨T, u, rfl, hT, rfl, hu⟩ := y
    obtain ⟨d, hd, rd⟩ := rs.get' (hu us sa2)
    rw [enumD_get hd, Nat.zero_add] at po2
    have xl := GX.lay gd2 (o := .tup [.int ((i : Nat) : Int), u]) hT
    have po3 := PoS.gx po2 xl
    refine turn_of (gd2.lay hT) (en2.gx xl) (.tup (SqT.of (by show upd G2.F T _ T = _; rw [upd_same])) (.cons (.int _) (.cons (Rg.gx rd (x2.trans xl)) .nil))) (forI_body po3 fun σ3 H3 ⟨G3, ρ3, x3, gd3, en3, po4⟩ => ⟨G3, ρ3, x2.trans (xl.trans x3), gd3, en3, po4⟩)
  · have e : (enumD 0 xs).drop i = [] := by
      apply List.drop_eq_nil_of_le
      rw [enumD_len, ← rs.length] at *
      omega
    rw [e] at po2
    exact .inl ⟨⟨us, sa2, by omega⟩, po2 G2 σ2 H2 GX.rfl' rfl gd2 en2⟩
theorem sforE {e : Expr} {gl : GL} {p1 pos1 pos tpos : Pos} {elts : List Expr} {kk : Nat} (hp : PassesOwn (model X.prog X.w) X.A X.env X.xe) (hc : X.calm = true) (hK : X.K = p.K) (hgl : Gl X "enumerate") (hm : X.mg "enumerate" = none) (ha : PA X [e] (rdL p W gl)) (hg : PG X (.Tuple elts kk tpos) (rdG p t)) (hb : PSs X body (rdS p W gb))
    (hse : starEach [e] X.env = [(false, eval e X.env)] := by rfl) (hs : ∀ x, foldedSetIterable (.Call (.Name "enumerate" p1) [e] [] pos1) X.env x = pure x := by intro _; rfl) :
    PS X (.For (.Tuple elts kk tpos) (.Call (.Name "enumerate" p1) [e] [] pos1) body [] pos) (rdS p W (gForE gl t gb)) :=
  PS.imp (ps_for hp hc (pi_enum hgl hm ha hse) hg hb hs) fun D σ H ⟨G, ρ, gd, en, po⟩ => ⟨G, ρ, gd, en, (PoS.of po en).imp fun vs H1 ⟨G1, l, x1, gd1, r1, po1⟩ => by
    split at po1
    · rename_i d
      split at po1
      · rename_i xs hq
        cases r1 with
        | @cons _ v1 _ _ r1 r2 =>
          cases r2
          have sq : ∃ (a : Addr) (us : List V), [v1] = [V.ref a] ∧ SqL p.K G1.F a us ∧ Rps p G1.F G1.μ xs us := by
            cases r1 with
            | lst a rs => cases hq; exact ⟨_, _, rfl, SqL.of a, rs⟩
            | wl a rs => cases hq; exact ⟨_, _, rfl, a, rs⟩
            | _ => cases hq
          obtain ⟨a, us, ev, sa, rs⟩ := sq
          rw [hK]
          exact ⟨a, us, ev, sqL_up gd1.le sa, for_enum gd1 (en.gx x1) sa rs po1⟩
      · exact po1.elim
    · exact po1.elim⟩
end
end Dq

/-! < of tuples of whole numbers. -/
namespace Dq
open PySem PySem.Spec PyProof.Rows L2
def intsQ : List DV → Option (List Int)
  | [] => some []
  | .int i :: r => (intsQ r).map (i :: ·)
  | _ :: _ => none
def ltQ : DV → DV → Sto → R DV
  | .tup xs, .tup ys, s => match intsQ xs, intsQ ys with
    | some ns, some ms => .ok (.bl (HT.lexLt ns ms)) s
    | _, _ => .bad
  | _, _, _ => .bad
section
variable {p : Pg} {X : Cx} {W : WX}
theorem intsQ_of {F : Hp} {μ : List Addr} : ∀ {xs : List DV} {vs : List V} {ns : List Int}, intsQ xs = some ns → Rps p F μ xs vs → vs = ns.map V.int
  | [], _, ns, e, r => by cases r; cases e; rfl
  | d :: xs, _, ns, e, r => by
    cases r with
    | cons r1 r2 =>
      cases d with
      | int i =>
        unfold intsQ at e
        cases q : intsQ xs with
        | none => rw [q] at e; cases e
        | some ms =>
          rw [q] at e
          cases e
          cases r1
          rw [intsQ_of q r2]
          rfl
      | _ => cases e
theorem opd_ltQ (hK : X.K = p.K) (hu : X.A.units + 64 < cLine) : OpR X (compareOp .Lt) (rOp p W ltQ) := OpR.of fun G H σ a b x y Q gd ra rb po => by
  unfold ltQ at po
  split at po
  · split at po
    · rename_i ns ms e1 e2
      cases ra with
      | tup a1 r1 =>
        cases rb with
        | tup a2 r2 =>
          have v1 := intsQ_of e1 r1
          have v2 := intsQ_of e2 r2
          subst v1 v2
          exact ⟨_, op_ltT (by omega), _, _, ns, ms, rfl, rfl, by rw [hK]; exact sqT_up gd.le a1, by rw [hK]; exact sqT_up gd.le a2, Po.ret po GX.rfl' rfl gd (.bl _)⟩
    · exact po.elim
  · exact po.elim
end
end Dq

/-! x in list, list.index(x) over data of any depth. -/
namespace Dq
open PySem PySem.Spec PyProof.Rows L2
theorem Room65 {k : Nat} {A : Around} (r : Room k A) : A.units + 65 < cLine := by have := r.un; omega
def inQ (neg : Bool) (x c : DV) (s : Sto) : R DV := match pyS s x, pyS s c with
  | some d, some (.list ds) => okIf (SeqAt.shaped d && SeqAt.shaped (.list ds)) (.bl (if neg then !(ds.any fun z => PyData.eqv z d) else ds.any fun z => PyData.eqv z d)) s
  | _, _ => .bad
def idxP (d : PyData) : List PyData → Option Nat
  | [] => none
  | z :: r => if PyData.eqv z d = true then some 0 else (idxP d r).map (· + 1)
theorem idxP_ok {d : PyData} : ∀ {ds : List PyData} {j : Nat}, idxP d ds = some j → ∃ z, ds[j]? = some z ∧ PyData.eqv z d = true ∧ ∀ (m : Nat) (z' : PyData), m < j → ds[m]? = some z' → PyData.eqv z' d = false
  | [], _, h => by cases h
  | z :: r, j, h => by
    unfold idxP at h
    by_cases q : PyData.eqv z d = true
    · rw [if_pos q] at h
      cases h
      exact ⟨z, rfl, q, fun m _ hm => absurd hm (Nat.not_lt_zero _)⟩
    · rw [if_neg q] at h
      cases e : idxP d r with
      | none => rw [e] at h; cases h
      | some i =>
        rw [e] at h
        cases h
        obtain ⟨y, h1, h2, h3⟩ := idxP_ok e
        refine ⟨y, h1, h2, fun m z' hm hz => ?_⟩
        cases m with
        | zero => cases hz; exact Bool.eq_false_iff.mpr q
        | succ m =>
          have hm : m + 1 < i + 1 := hm
          exact h3 m z' (by omega) hz
def idxQ (o y : DV) (s : Sto) : R DV := match pyS s o, pyS s y with
  | some (.list ds), some d => match idxP d ds with
    | some j => okIf (SeqAt.shaped d && SeqAt.shaped (.list ds)) (.int (j : Nat)) s
    | none => .bad
  | _, _ => .bad
@[simp] def gIdxQ (go ge : GE) : GE := fun ρ s => (go ρ s).bind fun o s1 => match listS s1 o with
  | some _ => (ge ρ s1).bind fun y s2 => idxQ o y s2
  | none => .bad
section
variable {p : Pg} {X : Cx} {W : WX}
theorem opd_inQ (hK : X.K = p.K) (hu : X.A.units + 65 < cLine) : OpR X (compareOp .In) (rOp p W (inQ false)) := OpR.of fun G H σ a b x y Q gd ra rb po => by
  unfold inQ at po
  split at po
  · rename_i d ds h1 h2
    obtain ⟨c, po⟩ := okIf_po po
    rw [Bool.and_eq_true] at c
    exact ⟨_, op_inD hu, d, ds, by rw [hK]; exact dpS_of gd ra h1, by rw [hK]; exact dpS_of gd rb h2, c.1, c.2, Po.ret po GX.rfl' rfl gd (.bl _)⟩
  · exact po.elim
theorem opd_notinQ (hK : X.K = p.K) (hu : X.A.units + 65 < cLine) : OpR X (compareOp .NotIn) (rOp p W (inQ true)) := OpR.of fun G H σ a b x y Q gd ra rb po => by
  unfold inQ at po
  split at po
  · rename_i d ds h1 h2
    obtain ⟨c, po⟩ := okIf_po po
    rw [Bool.and_eq_true] at c
    exact ⟨_, op_notInD hu, d, ds, by rw [hK]; exact dpS_of gd ra h1, by rw [hK]; exact dpS_of gd rb h2, c.1, c.2, Po.ret po GX.rfl' rfl gd (.bl _)⟩
  · exact po.elim
theorem qidxQ {o e : Expr} {go ge : GE} {apos cpos : Pos} (hu : X.A.units + 65 < cLine) (ho : PE X o (rd p W go)) (he : PE X e (rd p W ge)) (hK : X.K = p.K := by rfl)
    (hbase : attributeBase o "index" X.env (eval o X.env) = eval o X.env := by rfl)
    (hfew : ((backTo cpos (starEach [e] X.env)).all (fun x => !x.1) && (backToKw cpos (keywordEach [] X.env)).all (fun x => x.1.isSome)
      && decide ([e].length + ([] : List Keyword).length + (if ([] : List Keyword).isEmpty then 0 else 1) < 30)) = true := by rfl)
    (hline : (apos.endLine == cpos.line) = true := by rfl) (hs : starEach [e] X.env = (false, eval e X.env) :: starEach [] X.env := by rfl) : PE X (.Call (.Attribute o "index" apos) [e] [] cpos) (rd p W (gIdxQ go ge)) :=
  PE.imp (pe_bm PySem.F.plainAttrs_list PySem.F.slot_list_index PySem.F.type_list_index (mt_indexD hu) ho (pa_cons he pa_nil hs) hbase hfew hline hs rfl) fun σ H Q ⟨G, ρ, gd, en, po⟩ => ⟨G, ρ, gd, en, (Po.bind po).imp fun v H1 ⟨G1, od, x1, gd1, r1, po1⟩ => by
    split at po1
    · rename_i xs0 hx0
      obtain ⟨a, vs, rfl, hq, rs⟩ := list_of gd1 r1 hx0
      refine ⟨.inl ⟨rfl, _, by rw [hK]; exact hq⟩, G1, ρ, gd1, en.gx x1, (Po.bind po1).imp fun u H2 ⟨G2, y, x2, gd2, r2, po2⟩ => ?_⟩
      unfold idxQ at po2
      split at po2
      · rename_i ds d h1 h2
        split at po2
        · rename_i j hj
          obtain ⟨c, po2⟩ := okIf_po po2
          rw [Bool.and_eq_true] at c
          obtain ⟨z, e1, e2, e3⟩ := idxP_ok hj
          exact ⟨a, u, d, ds, j, z, rfl, rfl, by rw [hK]; exact dpS_of gd2 (Rg.gx r1 x2) h1, by rw [hK]; exact dpS_of gd2 r2 h2, c.2, c.1, e1, e2, e3, Po.ret po2 GX.rfl' rfl gd2 (.int _)⟩
        · exact po2.elim
      · exact po2.elim
    · exact po1.elim⟩
end
end Dq

/-! Lambdas as values: made, called. -/
namespace Dq
open PySem PySem.Spec PyProof.Rows L2 LamX
theorem lamO_no {f : Addr} {F : Xq.LF} : NoTb (Xq.LamO f F) := fun ps z => by
  unfold Xq.LamO at z
  cases z
section
variable {X : Cx} {pins : List (Addr × Obj)} {σ : L2.St} {H : Hp} {s : Shared}
theorem lamO_at {P : Program} {w : World} {H : Hp} {h : Heap} {f : Addr} {F : Xq.LF} (hok : HOk P w H h) (e : H f = some (Xq.LamO f F)) : ∃ (od : Option Addr) (sl : Array (Option Value)) (doc pm ctv : Value), h.get? f = some (⟨.type "function", od, .func (F.fd doc pm ctv), sl⟩ : Obj) := by
  have z : ObjOk P w H h f (Xq.LamO f F) := hok f _ e
  exact z.1
/-- a lambda's object just made is known from now on -/
theorem inv_lam {F : Xq.LF} {o : Obj} {t' : Nat} {doc pm ctv : Value} (I : Inv X pins σ H s) (ho : o = { cls := .type "function", data := .func (F.fd doc pm ctv) }) :
    Inv X pins σ (upd H s.heap.objs.size (Xq.LamO s.heap.objs.size F)) { s with heap := s.heap.push o, toks := t' } := by
  subst ho
  refine I.laid (a := s.heap.objs.size) (fun b u e => Heap.get?_push_of_some _ e) (Nat.le_refl _) ?_
  have e : (s.heap.push ({ cls := .type "function", data := .func (F.fd doc pm ctv) } : Obj)).get? s.heap.objs.size = some ({ cls := .type "function", data := .func (F.fd doc pm ctv) } : Obj) := Heap.get?_push_size _ rfl
  exact ⟨⟨_, _, doc, pm, ctv, e⟩, ⟨_, e⟩, fun h1 h2 ⟨od, sl, d, p, t, z⟩ st => ⟨od, sl, d, p, t, st _ z⟩⟩
/-- the lambda is made, its defaults at hand -/
theorem lam_tail {T : List (Addr × Str)} {c P t : Addr} {vs : List V} {dV : Value} {params : Arguments} {body : Expr} {scope : Scope} {pos : Pos} {E : Value → Shared → Prop} {Q : Value → Shared → Prop} (I : Inv X pins σ H s) (TB : TabB X.base X.mg c P) (hcode : X.env.code = .ref c)
    (hm : (P, X.env.qual ++ "<lambda>") ∈ T) (hu : ∀ p ∈ T, p.1 = P → p.2 = X.env.qual ++ "<lambda>") (hT : Tabs T H) (hfree : ∀ y ∈ scope.names, y.2 = .free → ∃ c, X.env.cells.lookup y.1 = some c)
    (hdV : ∀ c', Xq.LF.dV ⟨params, body, scope, X.env.qual ++ "<lambda>", cloFrom X.env.cells scope.names [], c', t, vs⟩ = dV)
    (h : ∀ (f c' : Addr) (H1 : Hp) (s' : Shared), Inv X pins σ (upd H1 f (Xq.LamO f ⟨params, body, scope, X.env.qual ++ "<lambda>", cloFrom X.env.cells scope.names [], c', t, vs⟩)) s' → ExtN H H1 → Tabs T H1 → H1 f = none → H1 c' = some (CodeO c' (X.env.qual ++ "<lambda>")) → Q (.ref f) s') :
    wpAny (model X.prog X.w) X.A (makeTail "<lambda>" (X.env.qual ++ "<lambda>") params (.expr body) scope X.env dV .none none pos pos.line) Q E s := by
  obtain ⟨ps, hP, ht, ha⟩ := hT _ hm
  have bP : s.heap.BuiltinsAt X.mg P := TB.bm.keeps I.bk
  have hP' : s.heap.get? P = some { cls := .none, data := .fields ps } := I.hok P _ hP
  cases hc : codeAmong pos ps.toList with
  | none =>
    refine PySem.W.kdv_makeTail (mg := X.mg) (c := c) (P := P) (ps := ps) (closure_ok hfree) I.ok.glob (I.mod.glob.keeps I.bk) hcode (TB.code.keeps I.bk) hP' ht hc TB.gP bP fun c' ctv doc h' tk hx hge hlt hrec htb => ?_
    obtain ⟨c2, oc, us, tq, e2, hoc, hd, hv⟩ := hrec
    cases e2
    have nC : H c' = none := I.hok.fresh hge
    have I1 := inv_table (t' := tk) (more := #[rawInt pos.line, rawInt pos.col, .ref c']) (h' := h') I hP (fun b o hb e => hx b o hb e) htb hge ⟨oc, us, tq, hoc, hd, hv⟩
    have hE : ExtN H (upd (upd H P (.tbl (ps ++ #[rawInt pos.line, rawInt pos.col, .ref c']))) c' (CodeO c' (X.env.qual ++ "<lambda>"))) := fun b o e n => by
      rw [upd_ne (ne_of_none e nC), upd_ne (fun z => n ps (Option.some.inj (e.symm.trans (by rw [z]; exact hP))))]
      exact e
    have eL : (ps ++ #[rawInt pos.line, rawInt pos.col, .ref c']).toList = ps.toList ++ [rawInt pos.line, rawInt pos.col, .ref c'] := by simp
    have T1 : Tabs T (upd (upd H P (.tbl (ps ++ #[rawInt pos.line, rawInt pos.col, .ref c']))) c' (CodeO c' (X.env.qual ++ "<lambda>"))) := fun p hp => by
      by_cases hb : p.1 = P
      · rw [hu p hp hb, hb]
        refine ⟨_, by rw [upd_ne (ne_of_none hP nC), upd_same], by rw [eL]; exact PySem.TriplesOk_snoc _ _ _ _ ht, fun p' cv hcv => ?_⟩
        rw [eL] at hcv
        rcases among_app _ ht hcv with z | z
        · obtain ⟨c0, e1, e2⟩ := ha p' cv z
          exact ⟨c0, e1, hE _ _ e2 codeO_ne⟩
        · exact ⟨c', z, upd_same⟩
      · obtain ⟨ps', a1, a2, a3⟩ := hT p hp
        refine ⟨ps', by rw [upd_ne (ne_of_none a1 nC), upd_ne hb]; exact a1, a2, fun p' cv hcv => ?_⟩
        obtain ⟨c0, e1, e2⟩ := a3 p' cv hcv
        exact ⟨c0, e1, hE _ _ e2 codeO_ne⟩
    have I2 := inv_lam (F := ⟨params, body, scope, X.env.qual ++ "<lambda>", cloFrom X.env.cells scope.names [], c', t, vs⟩) (t' := tk) (doc := doc) (pm := (X.mg "__name__").getD .none) (ctv := ctv) I1 (o := PySem.W.kdv_obj "<lambda>" (X.env.qual ++ "<lambda>") params (.expr body) scope (cloFrom X.env.cells scope.names []) dV doc ((X.mg "__name__").getD .none) c' ctv) (by rw [← hdV c'])
    refine h h'.objs.size c' _ _ I2 hE T1 ?_ upd_same
    have z := I1.hok.fresh (Nat.le_refl _)
    exact z
  | some cv =>
    obtain ⟨c', e, hco⟩ := ha pos cv hc
    subst e
    refine PySem.W.kdv_makeTailHit (mg := X.mg) (c := c) (P := P) (ps := ps) (closure_ok hfree) I.ok.glob (I.mod.glob.keeps I.bk) hcode (TB.code.keeps I.bk) hP' ht hc bP fun ctv doc h' tk hx hsz => ?_
    have I1 : Inv X pins σ H { s with heap := h', toks := tk } := I.kept hx
    have nF : H h'.objs.size = none := I1.hok.fresh (Nat.le_refl _)
    have I2 := inv_lam (F := ⟨params, body, scope, X.env.qual ++ "<lambda>", cloFrom X.env.cells scope.names [], c', t, vs⟩) (t' := tk) (doc := doc) (pm := (X.mg "__name__").getD .none) (ctv := ctv) I1 (o := { cls := .type "function", data := .func (PySem.W.kdv_fn "<lambda>" (X.env.qual ++ "<lambda>") params (.expr body) scope (cloFrom X.env.cells scope.names []) dV doc ((X.mg "__name__").getD .none) (.ref c') ctv) }) (by rw [← hdV c'])
    exact h h'.objs.size c' H _ I2 (ExtN.refl H) hT nF hco
end
/-- a lambda's value -/
@[simp] def gLamV (i : Nat) : GE := fun _ s => .ok (.lam i) s
section
variable {p : Pg} {X : Cx} {W : WX}
theorem lam_done {G : Gh} {ρ : En} {σ : L2.St} {H H1 : Hp} {Q : VK} {i : Nat} {f c t : Addr} {L : Xq.LF} (gd : Gd p G H) (po : PoV p W G σ (gLamV i ρ G.st) Q) (hL : p.lam i c t = some L) (eN : ExtN H H1) (tG : Tabs p.T H1) (nf : H1 f = none) (hc : H1 c = some (CodeO c L.q)) (hv : L.vs = [] ∨ G.F t = some (.tup L.vs)) :
    Q (.ref f) (upd H1 f (Xq.LamO f L)) := by
  have g1 := gd.tab eN tG
  obtain ⟨x2, g2⟩ := g1.knowC hc
  have g3 := g2.lay nf (o := Xq.LamO f L) lamO_no
  have x3 : GX (G.lay c (CodeO c L.q)) ((G.lay c (CodeO c L.q)).lay f (Xq.LamO f L)) := GX.lay g2 nf
  have nfc : f ≠ c := fun z => by
    rw [z, hc] at nf
    cases nf
  refine Po.ret po (x2.trans x3) rfl g3 (.lam hL (by show upd _ f _ f = _; rw [upd_same]) (x3.f _ _ (by show upd _ c _ c = _; rw [upd_same])) (hv.imp id fun z => x3.f _ _ (x2.f _ _ z)))
/-- a lambda without defaults -/
theorem qlamV (i : Nat) {c P : Addr} {params : Arguments} {body : Expr} {scope : Scope} {pos : Pos} (TB : TabB X.base X.mg c P) (hcode : X.env.code = .ref c) (hmT : (P, X.env.qual ++ "<lambda>") ∈ p.T) (hu : ∀ y ∈ p.T, y.1 = P → y.2 = X.env.qual ++ "<lambda>")
    (hfree : ∀ y ∈ scope.names, y.2 = .free → X.env.scope.names.lookup y.1 = some .cell ∨ X.env.scope.names.lookup y.1 = some .free) (hdef : defaultsOf params X.env = ([], []))
    (hL : ∀ c' t, p.lam i c' t = some ⟨params, body, scope, X.env.qual ++ "<lambda>", cloFrom X.env.cells scope.names [], c', t, []⟩) : PE X (.Lambda params body scope pos) (rd p W (gLamV i)) := by
  refine ⟨fun pins s σ H Q I ⟨G, ρ, gd, en, po⟩ => ?_⟩
  refine PySem.W.kla_eval hdef ?_
  rw [makeFunction_eq]
  simp only [List.zip_nil_right, List.filterMap_nil, List.isEmpty_nil, if_true, pure_bind]
  refine lam_tail (t := 0) (vs := []) I TB hcode hmT hu gd.tb.tabs (fun y hy e => (hfree y hy e).elim (fun z => I.ok.has _ (.inl z)) fun z => I.ok.has _ (.inr z)) (fun _ => rfl) fun f c' H1 s' J eN tG nf hc => ?_
  exact ⟨.ref f, _, J, rfl, lam_done (L := ⟨params, body, scope, X.env.qual ++ "<lambda>", cloFrom X.env.cells scope.names [], c', 0, []⟩) gd po (hL c' 0) eN tG nf hc (.inl rfl)⟩
/-- a lambda with one default, a small whole number -/
theorem qlamV1 (i : Nat) {c P : Addr} {params : Arguments} {body : Expr} {scope : Scope} {pos pd : Pos} {z : Int} {j : Nat} (TB : TabB X.base X.mg c P) (hcode : X.env.code = .ref c) (hmT : (P, X.env.qual ++ "<lambda>") ∈ p.T) (hu : ∀ y ∈ p.T, y.1 = P → y.2 = X.env.qual ++ "<lambda>")
    (hfree : ∀ y ∈ scope.names, y.2 = .free → X.env.scope.names.lookup y.1 = some .cell ∨ X.env.scope.names.lookup y.1 = some .free) (hd : params.defaults = [.Constant (.int z) j pd]) (hk0 : params.kw_defaults = [])
    (hL : ∀ c' t, p.lam i c' t = some ⟨params, body, scope, X.env.qual ++ "<lambda>", cloFrom X.env.cells scope.names [], c', t, [.int z]⟩) : PE X (.Lambda params body scope pos) (rd p W (gLamV i)) := by
  refine ⟨fun pins s σ H Q I ⟨G, ρ, gd, en, po⟩ => ?_⟩
  refine PySem.W.kdv_lam (by rw [hd]; rfl) hk0 ?_
  rw [hd]
  refine PySem.W.kdv_all1 (thn (pe_int.run pins s σ H (fun v H1 => v = .int z ∧ H1 = H) I ⟨rfl, rfl⟩) fun u s1 ⟨v, H1, I1, r1, e1, e2⟩ => PySem.W.kdv_all0 ?_)
  subst e1 e2
  rw [makeFunction_eq]
  simp only [List.zip_nil_right, List.filterMap_nil, List.isEmpty_nil, if_true, pure_bind, List.isEmpty_cons, Bool.false_eq_true, if_false]
  refine wpAny_bind (wpAny_newTextTuple ?_)
  have nt : H1 s1.heap.objs.size = none := I1.hok.fresh (Nat.le_refl _)
  have I2 : Inv X pins σ (upd H1 s1.heap.objs.size (.tup [.int z])) { s1 with heap := s1.heap.push { cls := .type "tuple", data := .seq #[u] } } := I1.laid (t' := s1.toks) (fun b o e => Heap.get?_push_of_some _ e) (Nat.le_refl _) ⟨(by show 1 ≤ sizeLine; decide), [u], .cons r1 .nil, _, Heap.get?_push_size _ rfl, rfl, _, rfl⟩
  have g2 := gd.lay nt (o := .tup [.int z])
  have x2 : GX G (G.lay s1.heap.objs.size (.tup [.int z])) := GX.lay gd nt
  refine lam_tail (t := s1.heap.objs.size) (vs := [.int z]) I2 TB hcode hmT hu g2.tb.tabs (fun y hy e => (hfree y hy e).elim (fun z => I.ok.has _ (.inl z)) fun z => I.ok.has _ (.inr z)) (fun _ => rfl) fun f c' H2 s' J eN tG nf hc => ?_
  exact ⟨.ref f, _, J, rfl, lam_done (L := ⟨params, body, scope, X.env.qual ++ "<lambda>", cloFrom X.env.cells scope.names [], c', s1.heap.objs.size, [.int z]⟩) g2 (po.gx x2) (hL c' _) eN tG nf hc (.inr (by show upd G.F _ _ _ = _; rw [upd_same]))⟩
end
end Dq

/-! A lambda that stands is called: by itself, by a def that got it. -/
namespace Dq
open PySem PySem.Spec PyProof.Rows L2 LamX
theorem cellsAt_un {cl : List (Str × Addr)} {fr : List Str} {ws : List (Option V)} {fs ex : List Addr} {H H' : Hp} {h h' : Heap} (C : NdefX.CellsAt cl fr ws h H) (un : Un fs ex H H' h h') (hx : ∀ y c, cl.lookup y = some c → c ∉ ex) : NdefX.CellsAt cl fr ws h' H' := by
  have kp : ∀ y c, cl.lookup y = some c → ∀ v, h.IsCell c v → h'.IsCell c v := fun y c e v ⟨o, ho, hd⟩ => by
    obtain ⟨sl, q⟩ := un.any ho (C.all y c e).1 (hx y c e)
    exact ⟨_, q, hd⟩
  refine ⟨C.len, fun y c e => ?_, C.inj, fun i y e => ?_⟩
  · obtain ⟨n, v, z⟩ := C.all y c e
    refine ⟨?_, v, kp y c e v z⟩
    obtain ⟨o, ho, _⟩ := z
    exact un.free c o ho n (hx y c e)
  · obtain ⟨c, hc, hv⟩ := C.has i y e
    refine ⟨c, hc, fun v ev => ?_⟩
    obtain ⟨u, r, z⟩ := hv v ev
    exact ⟨u, r, kp y c hc _ z⟩
theorem po_sig {α β : Type} {p : Pg} {Rl : Gh → α → β → Prop} {E : XK} {G : Gh} {σ σ' : L2.St} {r : R α} {Q : β → Hp → Prop} (h : Po p Rl (WeX E) G σ r Q) : Po p Rl (WeX E) G σ' r Q := by
  cases r with
  | ok a s => exact h
  | exc c ks xs s => exact h
  | bad => exact h
section
variable {P : Program} {w : World} {K : PySem.W.Frag} {mg : Str → Option Value} {base : Heap}
/-- its body is run -/
theorem run_lam {A : Around} {outer : List Env} {s : Shared} {H : Hp} {Q : VK} {E : XK} {k : Nat} {f : Addr} {N ps fr : List Str} {ws : List (Option V)} {F : Xq.LF} {us : List Value} {t : TE} (S : NdefX.NScope N ps fr F.scope) (hl : F.vs.length = ps.length) (hr : Room (k + 1) A) (e0 : Env0 P w K mg base A outer s H)
    (hf : H f = some (Xq.LamO f F)) (hc : H F.c = some (CodeO F.c F.q)) (r : Vals F.vs us) (hb : ∀ doc pm ctv, BindsTo s (F.fd doc pm ctv) ⟨[], []⟩ (ps.zip us)) (C : NdefX.CellsAt F.cl fr ws s.heap H)
    (hbody : Room k (A.deeper (NdefX.envF F.nf f s.heap.objs.size)) → PE (NdefX.ncx (L2.CX P w) P w K mg base N F.nf f A outer s H E) F.body t) (q : t (NdefX.startF N F.vs ws) H Q) :
    codeAny (model P w) A (.call (.ref f) ⟨[], []⟩) (CR (L2.CX P w) outer P w H s Q E) s := by
  obtain ⟨od, sl, doc, pm, ctv, ho⟩ := lamO_at e0.hok hf
  have lim : s.heap.NoLimit := e0.mod.nolimit.keeps fun b o e => (e0.bs b o e).1
  refine PySem.W.kla_callFunE hr.depth ho rfl S.co S.gen rfl (NdefX.codeO_at e0.hok hc) ?_
  refine hb doc pm ctv _ _ _ _ ?_
  refine wpAny_newFunctionEnv S.nocell (fun ⟨n, _⟩ hy => S.par n (List.of_mem_zip hy).1) (fun h₁ hns hsb => ⟨lim.fresh _ hsb, ?_⟩) S.kind
  show codeAny _ _ (.expr F.body (NdefX.envF F.nf f s.heap.objs.size)) _ _
  have kp : ∀ b o, s.heap.get? b = some o → h₁.get? b = some o := fun b o e => hsb.extBut b o (Nat.ne_of_lt (Heap.lt_size e)) (Heap.get?_push_of_some _ e)
  have J : Inv (NdefX.ncx (L2.CX P w) P w K mg base N F.nf f A outer s H E) [] (NdefX.startF N F.vs ws) H { s with heap := h₁, toks := s.toks + (ps.zip us).length } := NdefX.inv_startN S hr.hd e0 hl r C hns kp
  exact PySem.W.kla_codeExpr (wpAny_mono ((hbody (hr.deeper _)).run [] _ _ H Q J q) (fun v s' ⟨y, H', J', ry, q'⟩ => ⟨y, H', J'.os, J'.bare, J'.base, J'.hok, ry, q'⟩) fun e s' he => he)
end
theorem ncxTakes {P : Program} {w : World} {K : PySem.W.Frag} {mg : Str → Option Value} {base : Heap} {N : List Str} {F : NdefX.NF} {f : Addr} {A : Around} {outer : List Env} {s : Shared} {H : Hp} {E : XK} : Takes (NdefX.ncx (L2.CX P w) P w K mg base N F f A outer s H E) (WeX E) := takes_of rfl rfl rfl rfl
/-- what is told of a lambda's text -/
structure LamOk (p : Pg) (P : Program) (w : World) (mg : Str → Option Value) (base : Heap) (k : Nat) (L : Addr → Addr → Xq.LF) (N ps fr : List Str) (vsD : List DV) (gb : GE) : Prop where
  S : ∀ c t, NdefX.NScope N ps fr (L c t).scope
  len : N.length = ps.length + fr.length
  vl : vsD.length = ps.length
  vr : ∀ (c t : Addr) (F : Hp) (μ : List Addr), Rps p F μ vsD (L c t).vs
  bind : ∀ (c t : Addr) (s : Shared) (us : List Value) (doc pm ctv : Value), us.length = ps.length → ((L c t).vs = [] ∨ IsTup s.heap t us.toArray) → BindsTo s ((L c t).fd doc pm ctv) ⟨[], []⟩ (ps.zip us)
  c : ∀ c t, (L c t).c = c
  t : ∀ c t, (L c t).t = t
  body : ∀ (c t f : Addr) (A : Around) (outer : List Env) (s : Shared) (H : Hp) (E : XK), Room k (A.deeper (NdefX.envF (L c t).nf f s.heap.objs.size)) → PE (NdefX.ncx (L2.CX P w) P w p.K mg base N (L c t).nf f A outer s H E) (L c t).body (rd p (WeX E) gb)
/-- values by data, where there are any -/
structure WsR (p : Pg) (G : Gh) (wsD : List (Option DV)) (ws : List (Option V)) : Prop where
  len : ws.length = wsD.length
  at_ : ∀ (j : Nat) d, wsD[j]? = some (some d) → ∃ v, ws[j]? = some (some v) ∧ Rp p G.F G.μ d v
section
variable {p : Pg} {P : Program} {w : World} {mg : Str → Option Value} {base : Heap} {k : Nat} {L : Addr → Addr → Xq.LF} {N ps fr : List Str} {vsD : List DV} {gb : GE}
theorem lam_call (O : LamOk p P w mg base k L N ps fr vsD gb) {A : Around} {outer : List Env} {s : Shared} {H : Hp} {Q : VK} {E : XK} {f c t : Addr} {G : Gh} {ws : List (Option V)} {wsD : List (Option DV)} (hr : Room (k + 1) A) (e0 : Env0 P w p.K mg base A outer s H) (gd : Gd p G H)
    (hf : G.F f = some (Xq.LamO f (L c t))) (hc : G.F c = some (CodeO c (L c t).q)) (ht : (L c t).vs = [] ∨ G.F t = some (.tup (L c t).vs)) (C : NdefX.CellsAt (L c t).cl fr ws s.heap H) (wr : WsR p G wsD ws) (po : PoV p (WeX E) G [] (gb (vsD.map some ++ wsD) G.st) Q) :
    codeAny (model P w) A (.call (.ref f) ⟨[], []⟩) (CR (L2.CX P w) outer P w H s Q E) s := by
  have hvl : (L c t).vs.length = ps.length := by rw [← (O.vr c t G.F G.μ).length, O.vl]
  obtain ⟨us, r, hu⟩ : ∃ us : List Value, Vals (L c t).vs us ∧ ((L c t).vs = [] ∨ IsTup s.heap t us.toArray) := by
    rcases ht with z | z
    · exact ⟨[], by rw [z]; exact .nil, .inl z⟩
    · have o : ObjOk P w H s.heap t (.tup (L c t).vs) := e0.hok t _ (gd.le _ _ z)
      obtain ⟨_, its, r, q⟩ := o
      exact ⟨its, r, .inr q⟩
  have hc' : H (L c t).c = some (CodeO (L c t).c (L c t).q) := by
    rw [O.c]
    exact gd.le _ _ hc
  refine run_lam (us := us) (ws := ws) (O.S c t) hvl hr e0 (gd.le _ _ hf) hc' r (fun doc pm ctv => O.bind c t s us doc pm ctv (by rw [← r.length]; exact hvl) hu) C (fun hr2 => O.body c t f A outer s H E hr2) ⟨G, vsD.map some ++ wsD, gd, ?_, po_sig po⟩
  have clen := C.len
  have wl := wr.len
  have nl := O.len
  have vl := O.vl
  refine ⟨?_, fun i d e => ?_⟩
  · unfold NdefX.startF
    simp only [List.length_append, List.length_map, List.length_replicate]
    omega
  · unfold NdefX.startF
    by_cases h1 : i < vsD.length
    · rw [List.getElem?_append_left (by rw [List.length_map]; exact h1), List.getElem?_map] at e
      cases ed : vsD[i]? with
      | none =>
        rw [ed] at e
        cases e
      | some d' =>
        rw [ed] at e
        cases e
        obtain ⟨v, ev, rv⟩ := (O.vr c t G.F G.μ).get ed
        refine ⟨v, ?_, rv⟩
        rw [List.getElem?_append_left (by rw [List.length_map]; omega), List.getElem?_map, ev]
        rfl
    · rw [List.getElem?_append_right (by rw [List.length_map]; omega), List.length_map] at e
      obtain ⟨v, ev, rv⟩ := wr.at_ _ d e
      refine ⟨v, ?_, rv⟩
      rw [List.getElem?_append_right (by rw [List.length_map]; omega), List.length_map, hvl, ← vl, List.getElem?_append_left (by
        have := (List.getElem?_eq_some_iff.mp ev).1
        exact this)]
      exact ev
end
/-- what whoever holds a lambda has of a def that asks it -/
def GivT (p : Pg) (P : Program) (w : World) (mg : Str → Option Value) (base : Heap) (lv : Nat) (g : Addr) (h : (Sto → R DV) → Sto → R DV) : Prop :=
  ∀ (j : Nat), lv = j + 2 → ∀ (A : Around) (outer : List Env) (s : Shared) (H : Hp) (Q : VK) (f c : Addr) (L : Xq.LF) (th : Sto → R DV) (G : Gh), Room lv A → Env0 P w p.K mg base A outer s H → Gd p G H → G.F f = some (Xq.LamO f L) → G.F c = some (CodeO c L.q) →
    (∀ (A' : Around) (outer' : List Env) (u : Shared) (HZ : Hp) (Q' : VK) (E' : XK) (G2 : Gh), Room (j + 1) A' → Env0 P w p.K mg base A' outer' u HZ → Un (frs outer) [] H HZ s.heap u.heap → GX G G2 → Gd p G2 HZ → PoV p (WeX E') G2 [] (th G2.st) Q' → codeAny (model P w) A' (.call (.ref f) ⟨[], []⟩) (CR (L2.CX P w) outer' P w HZ u Q' E') u) →
    PoV p W0 G [] (h th G.st) Q → codeAny (model P w) A (.call (.ref g) ⟨[.ref f], []⟩) (CR CX0 outer P w H s Q (fun _ _ _ => False)) s
section
variable {p : Pg} {P : Program} {w : World} {mg : Str → Option Value} {base : Heap}
theorem giv2_of {k nN : Nat} {g : Addr} {fd : FuncData} {x a : Str} {pg : Arguments} {bg : List Stmt} {sg : Scope} {N : List Str} {b : (Sto → R DV) → GS} {h : (Sto → R DV) → Sto → R DV} (hot : p.hot = none) (ask : p.ask = none)
    (F : FunD p.K x x pg bg sg [] [] g fd) (S : FnScope N [a] sg) (va : Vis sg a) (hN : N.length = nN) (h0 : N[0]? = some a) (hh : h = runH nN b) (hb : Binds p.K fd [a] []) (hd : (a == ("__debug__" : Str)) = false) (hcd : (a == ("__classdict__" : Str)) = false)
    (hbody : ∀ (aa : Option (Addr × Addr × Str × Hp × List Addr)) (th : Sto → R DV) (cdv : Value) (A : Around) (outer : List Env) (s : Shared) (H : Hp), Room (k + 1) (A.deeper (envOfC x sg s.heap.objs.size g cdv)) →
      (∀ (W : WX) (pn : List (Addr × Obj)) (xe : Value → Shared → Prop) (r1 r2 : Pos), Takes ((cxOf CX0 P w p.K mg base N x sg g cdv A outer s H (fun _ _ _ => False)).tr pn xe) W →
        PE ((cxOf CX0 P w p.K mg base N x sg g cdv A outer s H (fun _ _ _ => False)).tr pn xe) (.Call (.Name a r1) [] [] r2) (rd (modP p none aa) W (gAsk th 0))) →
      PSs (cxOf CX0 P w p.K mg base N x sg g cdv A outer s H (fun _ _ _ => False)).nox bg (rdS (modP p none aa) W0 (b th))) :
    GivT p P w mg base (k + 2) g h := by
  subst hh hN
  intro j ej A outer s H Q f c L th G room e0 gd hf hc hask po
  obtain rfl : j = k := by omega
  obtain ⟨oc, od, dV, kV, doc, pm1, an, cdv, ct, osl, rfl, lk, hcod, _, _⟩ := F.ex
  have kin : p.K.In s.heap := e0.mod.kin.keeps fun b o e => (e0.bs b o e).1
  refine run_ofS (CX := CX0) (N := N) (ps := [a]) (us := [.ref f]) (vs := [.ref f]) lk hcod S room e0 (hb s [.ref f] kin rfl) (.cons rfl .nil) rfl fun room2 => ?_
  have hot' : ∀ z, p.hot = some z → (none : Option (Addr × Nat × Addr)) = some z := fun z e => by rw [hot] at e; cases e
  have ask' : ∀ z, p.ask = some z → some (f, c, L.q, G.F, G.μ) = some z := fun z e => by rw [ask] at e; cases e
  have asks : ∀ (W : WX) (pn : List (Addr × Obj)) (xe : Value → Shared → Prop) (r1 r2 : Pos), Takes ((cxOf CX0 P w p.K mg base N x sg g cdv A outer s H (fun _ _ _ => False)).tr pn xe) W →
      PE ((cxOf CX0 P w p.K mg base N x sg g cdv A outer s H (fun _ _ _ => False)).tr pn xe) (.Call (.Name a r1) [] [] r2) (rd (modP p none (some (f, c, L.q, G.F, G.μ))) W (gAsk th 0)) := fun W pn xe r1 r2 tk => by
    refine ⟨fun pinsZ u0 τ HZ QZ J ⟨G1, ρ1, gd1, en1, po1⟩ => ?_⟩
    unfold gAsk at po1
    split at po1
    · rename_i n0 e1
      split at po1
      · rename_i xf
        obtain ⟨v, ev, rv⟩ := en1.at_ 0 _ e1
        cases rv with
        | fn z1 z2 z3 z4 z5 =>
          cases z1
          have x2 : GX G G1 := ⟨z4, z5⟩
          refine wpAny_Call_Name_kw (thn ((pe_var (pos := r1) (i := 0) h0 va hd hcd).run pinsZ u0 τ HZ (fun v G1 => v = .ref f ∧ G1 = HZ) J ⟨.ref f, ev, rfl, rfl⟩) fun w1 u1 ⟨v, H1, J1, rv, ev1, eH⟩ => ?_)
          subst ev1
          subst eH
          obtain rfl : w1 = Value.ref f := rv
          obtain ⟨od1, sl1, doc1, pm2, ctv1, of1⟩ := lamO_at J1.hok (gd1.le _ _ (z4 _ _ hf))
          refine PySem.W.callWith_F0 ⟨_, _, _, _, of1⟩ ?_
          have un : Un (frs outer) [] H H1 s.heap u1.heap := J1.base
          have po2 : PoV p (WeX (WE W τ)) G1 [] (th G1.st) QZ := by
            have po1 : PoV (modP p none _) W G1 τ (th G1.st) QZ := po1
            cases eg : th G1.st with
            | ok d3 s3 =>
              rw [eg] at po1
              exact fun G3 v3 H3 x3 e3 g3 r3 => po1 G3 v3 H3 x3 e3 (g3.heat hot' ask') (Rp.heat hot' ask' _ _ r3)
            | exc c3 ks3 xs3 s3 =>
              rw [eg] at po1
              exact fun G3 H3 d3 fs3 x3 e3 g3 hd3 hk3 rs3 => po1 G3 H3 d3 fs3 x3 e3 (g3.heat hot' ask') hd3 hk3 (Rps.heat hot' ask' _ _ rs3)
            | bad => rw [eg] at po1; exact po1
          refine wpAny_call (codeAny_mono (hask (A.deeper (envOfC x sg s.heap.objs.size g cdv)) (envOfC x sg s.heap.objs.size g cdv :: outer) u1 H1 QZ (WE W τ) G1 room2 J1.env0 un x2 (gd1.cool xf) po2) fun r u2 hq => ?_)
          cases r with
          | error e => exact passAt tk τ pinsZ H1 u1 e u2 J1 hq
          | ok fl =>
            cases fl with
            | ret y => exact J1.after hq
            | next => exact False.elim hq
            | brk => exact False.elim hq
            | cont => exact False.elim hq
      · exact po1.elim
    · exact po1.elim
  have hb2 := hbody (some (f, c, L.q, G.F, G.μ)) th cdv A outer s H room2 asks
  have n0 : 1 ≤ N.length := by
    have := (List.getElem?_eq_some_iff.mp h0).1
    omega
  refine ⟨_, PSs.nox hb2, body_of (We := We0) (E := fun _ _ _ => False) (n := 1) (fun _ _ _ _ _ _ z => z) n0 ⟨rfl, G, [.fn G.st.length], gd.heat hot' ask', .cons (.fn rfl gd.len hc (fun _ _ z => z) fun _ _ z => z) .nil, ?_⟩⟩
  have e6 : Dq.run N.length 1 (b th) [.fn G.st.length] G.st = (b th (some (.fn G.st.length) :: List.replicate (N.length - 1) none) G.st).fin G.st := rfl
  rw [e6]
  unfold runH at po
  cases ef : (b th (some (.fn G.st.length) :: List.replicate (N.length - 1) none) G.st).fin G.st with
  | exc c3 ks3 xs3 s3 => rw [ef] at po; exact po.elim
  | bad => rw [ef] at po; exact po.elim
  | ok d3 s3 =>
    rw [ef] at po
    intro G3 v3 H3 x3 e3 g3 r3
    subst e3
    simp only at po
    split at po
    · rename_i ff
      rw [Bool.and_eq_true] at ff
      exact po G3 v3 H3 x3 rfl (g3.cool ff.2) (Rp.cool _ _ ff.1 r3)
    · exact po.elim
end
end Dq

/-! A comprehension whose items are told what holds where the block begins: lists of lambdas. -/
namespace Dq
open PySem PySem.Spec PyProof.Rows L2 LamX
section
variable {X : Cx}
/-- [elt for tg in iter], elt told of the maker's state at the block's start -/
theorem lc_from {pins : List (Addr × Obj)} {s : Shared} {σ : L2.St} {H : Hp} {Q : VK} {elt tg iter : Expr} {scope : Scope} {own : List (Str × Nat)} {pos : Pos} {wi : TI} {g : TG} {te : TE} (hc : X.calm = true) (hN : X.N.Nodup) (I : Inv X pins σ H s) (hi : PI X tg iter wi) (ok : BlkOk X.N X.env.scope scope own)
    (hg : ∀ (s : Shared) (H : Hp) (C : Addr) (cl : List (Str × Addr)) (fp : List Addr), PG (X.blk s H scope (compEnvC scope cl C X.env) fp) tg g)
    (he : ∀ (s : Shared) (H : Hp) (C : Addr) (cl : List (Str × Addr)) (fp : List Addr), Inv X pins σ H s → (∀ b ∈ fp, ∀ y c, X.env.cells.lookup y = some c → c ≠ b) → PE (X.blk s H scope (compEnvC scope cl C X.env) fp) elt te)
    (hs : ∀ x, foldedSetIterable iter X.env x = pure x) (h : tLc wi g tYes te (own.map (·.2)) σ H Q) : wpAny (model X.prog X.w) X.A (eval (.ListComp elt [⟨tg, iter, [], 0⟩] scope pos) X.env) (EP X pins σ Q) X.xe s := by
  rw [eval_ListComp]
  have hfree : ∀ y ∈ scope.names, y.2 = .free → ∃ c, X.env.cells.lookup y.1 = some c := fun y hy e => (ok.free y hy e).elim (fun z => I.ok.has _ (.inl z)) fun z => I.ok.has _ (.inr z)
  refine wpAny_comprehension_free rfl hs (closure_ok hfree) ok.kind (fun y hy e => by rw [ok.uniq y hy, e]) (thn (hi.run pins s σ H _ I h) fun xv s1 hx => thn hx fun itv s2 h2 => ?_)
  obtain ⟨it, fp, tn, J, H2, e, I2, T, st2, f2, q⟩ := h2
  subst e
  refine wpAny_newObj_type (newEnv_comp ?_) (by show 0 ≤ sizeLine; decide)
  have hDn : H2 s2.heap.objs.size = none := I2.hok.fresh (Nat.le_refl _)
  obtain ⟨W, ⟨m0, w0⟩, turn⟩ := q _ hDn
  generalize hD : s2.heap.objs.size = D at *
  -- the new list is laid
  generalize hs3 : ({ s2 with heap := s2.heap.push { cls := .type "list", data := .seq ([] : List Value).toArray } } : Shared) = s3
  have h3 : s3.heap = s2.heap.push { cls := .type "list", data := .seq ([] : List Value).toArray } := by rw [← hs3]
  have I3 : Inv X pins σ (upd H2 D (.lst [])) s3 := by
    rw [← hs3]
    refine I2.laid (t' := s2.toks) (fun b o e => Heap.get?_push_of_some _ e) (Nat.le_of_eq hD) ⟨Nat.zero_le _, [], 0, .nil, ?_⟩
    rw [← hD]
    exact Heap.get?_push_size _ rfl
  have sz : ∀ b ∈ fp, b < s2.heap.objs.size := fun b hb => by
    obtain ⟨o, e, _⟩ := T.obj _ _ st2 b hb
    exact Heap.lt_size e
  have f3 : ∀ b ∈ fp, FpOk X pins (upd H2 D (.lst [])) b ∧ b < s3.heap.objs.size := fun b hb => by
    have hlt := sz b hb
    refine ⟨⟨?_, (f2 b hb).2⟩, by rw [h3, Heap.size_push]; exact Nat.lt_succ_of_lt hlt⟩
    rw [upd_ne (by rw [← hD]; exact Nat.ne_of_lt hlt)]
    exact (f2 b hb).1
  have st3 : tn 0 s3.heap := T.keep _ _ _ st2 fun b _ o e => by rw [h3]; exact Heap.get?_push_of_some _ e
  have I4 := block_start I3 ok hN f3
  have pg := hg s3 (upd H2 D (.lst [])) s3.heap.objs.size (cellsFrom (s3.heap.objs.size + 1) scope.names (cloFrom X.env.cells scope.names [])) fp
  have pe := he s3 (upd H2 D (.lst [])) s3.heap.objs.size (cellsFrom (s3.heap.objs.size + 1) scope.names (cloFrom X.env.cells scope.names [])) fp I3 fun b hb y c e => (f3 b hb).1.2.2.2.2.1 y c e
  show codeAny _ _ (.compStart (.ListComp elt [⟨tg, iter, [], 0⟩] scope pos) 0 (.ref it) (.ref D) (compEnvC scope (cellsFrom (s3.heap.objs.size + 1) scope.names (cloFrom X.env.cells scope.names [])) s3.heap.objs.size X.env)) (compPost (model X.prog X.w) X.A X.xe none (EP X pins σ Q) (.ref D) s3.heap.objs.size) { s3 with heap := pushCells (s3.heap.push { cls := .type "dict", data := .dict #[] }) scope.names }
  have nfp : ∀ b ∈ fp, (upd H2 D (.lst [])) b = none := fun b hb => (f3 b hb).1.1
  generalize hce : compEnvC scope (cellsFrom (s3.heap.objs.size + 1) scope.names (cloFrom X.env.cells scope.names [])) s3.heap.objs.size X.env = ce at I4 pg pe ⊢
  have cL : ce.locals = s3.heap.objs.size := by subst hce; rfl
  generalize hH3 : upd H2 D (.lst []) = H3 at I3 I4 pg pe w0 nfp f3
  generalize hs4 : ({ s3 with heap := pushCells (s3.heap.push { cls := .type "dict", data := .dict #[] }) scope.names } : Shared) = s4 at I4 ⊢
  have st4 : tn 0 s4.heap := T.keep _ _ _ st3 fun b _ o e => by rw [← hs4]; exact pushCells_keeps _ _ _ _ (Heap.get?_push_of_some _ e)
  have stat : ∀ {σ' : L2.St} {H' : Hp} {s' : Shared}, Inv (X.blk s3 H3 scope ce fp) [] σ' H' s' → (∀ b ∈ fp, H' b = none) → ∀ b ∈ fp, FpOk (X.blk s3 H3 scope ce fp) [] H' b := fun {σ' H' s'} I' hn b hb =>
    ⟨hn b hb, (I'.ok.exf b hb).1, I'.ok.exfs b hb, .inl hb, fun x c e => (I'.ok.exf b hb).2 x c e, fun p hp => absurd (show p ∈ ([] : List (Addr × Obj)) ++ [] from hp) (by simp)⟩
  -- the turns
  have loop : codeAny (model X.prog X.w) X.A (.compLoop (.ListComp elt [⟨tg, iter, [], 0⟩] scope pos) 0 (.ref it) (.ref D) ce) (compPost (model X.prog X.w) X.A X.xe none (EP X pins σ Q) (.ref D) s3.heap.objs.size) s4 := by
    refine compLoop_any (fun n s' => ∃ i H', Inv (X.blk s3 H3 scope ce fp) [] (wipe σ (own.map (·.2))) H' s' ∧ tn i s'.heap ∧ (∀ b ∈ fp, H' b = none) ∧ W i n H') (fun n s5 ⟨i, H5, I5, st5, n5, w5⟩ => ?_) m0 ⟨0, H3, I4, st4, nfp, w0⟩
    rcases turn i n H5 w5 with ⟨stop, qq⟩ | ⟨go, Nx, hNx, step⟩
    · refine thnF (T.done (X.blk s3 H3 scope ce fp) rfl rfl rfl hc i [] s5 _ H5 (fun _ _ => False) I5 (stat I5 n5) st5 stop) fun r s6 ⟨hr, I6⟩ => ?_
      subst hr
      have I7 : Inv X pins σ H5 s6 := I3.call' (ch := fp) I6.os I6.base I6.hok I6.bare fun b hb => ⟨(f3 b hb).1.2.2.2.1, (f3 b hb).1.2.1, (f3 b hb).1.2.2.2.2.1, (f3 b hb).1.2.2.2.2.2⟩
      have nC : H5 s3.heap.objs.size = none := by
        have z : H5 ce.locals = none := I6.free
        rw [cL] at z
        exact z
      obtain ⟨m, hn, _⟩ := I6.loc
      have hn : s6.heap.Ns ce.locals m := hn
      rw [cL] at hn
      obtain ⟨g0, g1, _, g3, g4, g5⟩ := I3.fpOk (Nat.le_refl _) nC
      exact ⟨m, hn, fun h'' sb => ⟨.ref D, H5, I7.turned (t' := s6.toks) (fun b o hb e => (sb.2 b hb).trans e) g0 g1 g3 g4 g5, rfl, qq⟩⟩
    · refine thnF (T.item (X.blk s3 H3 scope ce fp) rfl rfl rfl hc i [] s5 _ H5 (fun _ _ => False) I5 (stat I5 n5) st5 go) fun r s6 ⟨u, hr, h6⟩ => ?_
      subst hr
      refine thnF h6 fun _ s7 ⟨x, H7, I7, r7, y7, st7, n7⟩ => ?_
      have I7' := I7.pinned (stat I7 n7) (T.obj _ _ st7)
      refine thnF (pg.run _ s7 _ H7 x u _ I7' r7 (step x H7 y7)) fun _ s8 ⟨σ8, H8, I8, hw8, q8⟩ => ?_
      refine wpAny_tests_nil ?_
      simp only [if_true]
      have q8 : te σ8 H8 fun y H4 => ∃ acc, H4 D = some (.lst acc) ∧ acc.length < sizeLine ∧ Nx (upd H4 D (.lst (acc ++ [y]))) := q8
      refine thnF (pe.run _ s8 σ8 H8 _ I8 q8) fun z s10 ⟨yv, H10, I10, r10, acc, hD10, hz10, nx⟩ => ?_
      refine app_ok (X := X.blk s3 H3 scope ce fp) I10 hD10 hz10 r10 fun s11 I11 => ?_
      obtain ⟨m', hm, w'⟩ := hNx _ nx
      have pin' : ∀ b ∈ fp, ∀ o, s7.heap.get? b = some o → s11.heap.get? b = some o ∧ upd H10 D (.lst (acc ++ [yv])) b = none := fun b hb o e =>
        let z := I11.pin (b, o) (List.mem_append_right _ (List.mem_append_right _ (mem_pinsAt hb e)))
        ⟨z.1, z.2.1⟩
      have hl : (wipe σ (own.map (·.2))).length = σ8.length := by rw [← hw8, wipe_length]
      refine ⟨m', hm, i + 1, _, (I11.unpinned (pins := [])).weak hl (fun j v e => ?_), T.keep _ _ _ st7 fun b hb o e => (pin' b hb o e).1, fun b hb => ?_, w'⟩
      · rw [← hw8] at e
        exact (wipe_some e).1
      · obtain ⟨o, e, _⟩ := T.obj _ _ st7 b hb
        exact (pin' b hb o e).2
  exact codeAny_compStart_list loop (T.self X.A 0 _ _ _ st4 loop)
end
end Dq
namespace Dq
open PySem PySem.Spec PyProof.Rows L2 LamX
def slotD (ρ : En) (j : Nat) : Option DV := match ρ[j]? with
  | some o => o
  | none => none
/-- lambdas by number: the captured names' places, the defaults, the body by data -/
abbrev LamD := Nat → Option (List Nat × List DV × GE)
def thOf (ρ : En) (z : List Nat × List DV × GE) : Sto → R DV := fun s => z.2.2 (z.2.1.map some ++ z.1.map (slotD ρ)) s
/-- the lambda in the slot j handed over to h -/
def gLamAsk (h : (Sto → R DV) → Sto → R DV) (ls : LamD) (j : Nat) : GE := fun ρ s => match ρ[j]? with
  | some (some (.lam i)) => match ls i with
    | some z => h (thOf ρ z) s
    | none => .bad
  | _ => .bad
/-- what is told of the lambdas that X makes -/
def LamsOk (p : Pg) (k : Nat) (X : Cx) (own : List Nat) (ls : LamD) : Prop := ∀ i js vsD gb, ls i = some (js, vsD, gb) → (∀ j ∈ js, j ∉ own) ∧ ∃ L N ps fr, LamOk p X.prog X.w X.mg X.base k L N ps fr vsD gb ∧ (∀ c t, p.lam i c t = some (L c t)) ∧ (X.Ok → ∀ c t, NdefX.Caps X (L c t).cl fr js)
theorem wipe1 {σ τ : L2.St} {v j : Nat} (h : wipe τ [v] = wipe σ [v]) (n : j ≠ v) : τ[j]? = σ[j]? := by
  have e : (τ.set v none)[j]? = (σ.set v none)[j]? := congrArg (fun l : L2.St => l[j]?) h
  rw [List.getElem?_set_ne (Ne.symm n), List.getElem?_set_ne (Ne.symm n)] at e
  exact e
section
variable {p : Pg} {X : Cx} {W : WX}
theorem rd_mono {g : GE} {σ : L2.St} {H : Hp} {Q Q' : VK} (h : rd p W g σ H Q) (k : ∀ v H, Q v H → Q' v H) : rd p W g σ H Q' := by
  obtain ⟨G, ρ, gd, en, po⟩ := h
  exact ⟨G, ρ, gd, en, po.imp k⟩
theorem blk_ask {pins : List (Addr × Obj)} {s : Shared} {σ : L2.St} {H : Hp} {scope : Scope} {C : Addr} {cl : List (Str × Addr)} {fp : List Addr} {lv j0 jv : Nat} {g : Addr} {h : (Sto → R DV) → Sto → R DV} {ls : LamD} {x v : Str} {p1 p2 pos : Pos} (I : Inv X pins σ H s) (hfp : ∀ b ∈ fp, ∀ y c, X.env.cells.lookup y = some c → c ≠ b)
    (GT : GivT p X.prog X.w X.mg X.base lv g h) (ej : lv = j0 + 2) (LS : LamsOk p j0 X [jv] ls) (hne : ∀ th s c ks xs s', h th s ≠ .exc c ks xs s') (room : Room lv X.A) (hK : X.K = p.K) (hg : Gl (X.blk s H scope (compEnvC scope cl C X.env) fp) x) (hm : X.mg x = some (.ref g)) (hk : PySem.W.keepIn X.K (.ref g) = true)
    (hN : X.N[jv]? = some v) (hv : Vis (compEnvC scope cl C X.env).scope v) (hdb : (x == ("__debug__" : Str)) = false := by decide) (hd : (v == ("__debug__" : Str)) = false := by decide) (hcd : (v == ("__classdict__" : Str)) = false := by decide) :
    PE (X.blk s H scope (compEnvC scope cl C X.env) fp) (.Call (.Name x p1) [.Name v p2] [] pos) (fun σ2 H3 Q => wipe σ2 [jv] = wipe σ [jv] ∧ rd p W0 (gLamAsk h ls jv) σ2 H3 Q) := by
  refine ⟨fun pinsB u0 τ HZ Q J ⟨hw, G, ρ, gd, en, po⟩ => ?_⟩
  unfold gLamAsk at po
  split at po
  · rename_i i e0
    split at po
    · rename_i z e1
      obtain ⟨js, vsD, gb⟩ := z
      obtain ⟨u, ev, rv⟩ := en.at_ jv _ e0
      cases rv with
      | @lam _ f c t L0 hL hF hC hV =>
        obtain ⟨hj, L, N, ps, fr, LO, hl, cp⟩ := LS i js vsD gb e1
        obtain rfl : L c t = L0 := Option.some.inj ((hl c t).symm.trans hL)
        refine wpAny_Call_Name_kw (ld_glob J hg hm ?_ hdb)
        refine PySem.W.callWith_K (h₀ := X.base) J.ok.mod.kin hk ?_ (by rfl) (by rfl)
        show wpAny _ _ (spliced ((false, eval (.Name v p2) (compEnvC scope cl C X.env)) :: backTo pos (starEach [] (compEnvC scope cl C X.env)))) _ _ u0
        refine Calls.spliced_cons (thn ((pe_var (X := X.blk s H scope (compEnvC scope cl C X.env) fp) (pos := p2) (i := jv) hN hv hd hcd).run pinsB u0 τ HZ (fun v G1 => v = .ref f ∧ G1 = HZ) J ⟨.ref f, ev, rfl, rfl⟩) fun w1 u1 ⟨v1, H1, J1, rv, ev1, eH⟩ => ?_)
        subst ev1
        subst eH
        obtain rfl : w1 = Value.ref f := rv
        have po' : PoV p W0 G [] (h (thOf ρ (js, vsD, gb)) G.st) Q := by
          have po : PoV p W0 G τ (h (thOf ρ (js, vsD, gb)) G.st) Q := po
          cases e : h (thOf ρ (js, vsD, gb)) G.st with
          | ok d s => rw [e] at po; exact po
          | exc c ks xs s => exact absurd e (hne _ _ _ _ _ _)
          | bad => rw [e] at po; exact po
        refine Calls.spliced_nil ⟨J1.kIn, wpAny_call (codeAny_mono (GT j0 ej X.A X.stack u1 H1 Q f c (L c t) (thOf ρ (js, vsD, gb)) G room (by rw [← hK]; exact J1.env0) gd hF hC (fun A' outer' u HZ2 Q' E' G2 r2 e02 un x2 gd2 po2 => ?_) po') fun r u2 hq => ?_)⟩
        · refine lam_call LO (ws := js.map (NdefX.slotAt σ)) (wsD := js.map (slotD ρ)) r2 e02 gd2 (x2.f _ _ hF) (x2.f _ _ hC) (hV.imp id (x2.f _ _)) ?_ ?_ po2
          · have c1 := cellsAt_un (NdefX.cells_of I (cp I.ok c t)) J1.base (fun y b e hb => hfp b hb y b ((cp I.ok c t).sub y b e) rfl)
            exact cellsAt_un c1 un (fun _ _ _ z => by cases z)
          · refine ⟨by rw [List.length_map, List.length_map], fun k d e => ?_⟩
            rw [List.getElem?_map] at e ⊢
            cases ej : js[k]? with
            | none =>
              rw [ej] at e
              cases e
            | some j =>
              rw [ej] at e
              have e : slotD ρ j = some d := Option.some.inj e
              have er : ρ[j]? = some (some d) := by
                unfold slotD at e
                cases q : ρ[j]? with
                | none => rw [q] at e; cases e
                | some o =>
                  rw [q] at e
                  have e : o = some d := e
                  rw [e]
              obtain ⟨u', e3, r3⟩ := en.at_ j d er
              have n : j ≠ jv := fun z => hj j (List.mem_of_getElem? ej) (by rw [z]; exact List.mem_singleton.mpr rfl)
              rw [wipe1 hw n] at e3
              refine ⟨u', ?_, Rg.gx r3 x2⟩
              show some (NdefX.slotAt σ j) = _
              rw [NdefX.slotAt_of e3]
        · cases r with
          | error e => exact (show False from hq).elim
          | ok fl =>
            cases fl with
            | ret y => exact J1.after hq
            | next => exact False.elim hq
            | brk => exact False.elim hq
            | cont => exact False.elim hq
    · exact po.elim
  · exact po.elim
/-- [x(v) for v in l], l a list of lambdas -/
theorem qlcLam {x v : Str} {p1 p2 p3 pos lpos : Pos} {iter : Expr} {scope : Scope} {lv j0 jv : Nat} {g : Addr} {h : (Sto → R DV) → Sto → R DV} {ls : LamD} {ge : GE} (GT : GivT p X.prog X.w X.mg X.base lv g h) (ej : lv = j0 + 2) (LS : LamsOk p j0 X [jv] ls) (hne : ∀ th s c ks xs s', h th s ≠ .exc c ks xs s') (room : Room lv X.A)
    (hc : X.calm = true) (hN : X.N.Nodup) (hi : PE X iter (rd p W ge)) (ok : BlkOk X.N X.env.scope scope [(v, jv)])
    (hpg : ∀ (s : Shared) (H : Hp) (C : Addr) (cl : List (Str × Addr)) (fp : List Addr), PG (X.blk s H scope (compEnvC scope cl C X.env) fp) (.Name v p3) (L2.gName jv))
    (hg : ∀ (s : Shared) (H : Hp) (C : Addr) (cl : List (Str × Addr)) (fp : List Addr), Gl (X.blk s H scope (compEnvC scope cl C X.env) fp) x) (hm : X.mg x = some (.ref g)) (hk : PySem.W.keepIn X.K (.ref g) = true) (hNv : X.N[jv]? = some v) (hv : ∀ (C : Addr) (cl : List (Str × Addr)), Vis (compEnvC scope cl C X.env).scope v)
    (hK : X.K = p.K := by rfl) (hs : ∀ x, foldedSetIterable iter X.env x = pure x := by intro _; rfl) (hdb : (x == ("__debug__" : Str)) = false := by decide) (hd : (v == ("__debug__" : Str)) = false := by decide) (hcd : (v == ("__classdict__" : Str)) = false := by decide) :
    PE X (.ListComp (.Call (.Name x p1) [.Name v p2] [] pos) [⟨.Name v p3, iter, [], 0⟩] scope lpos) (rd p W (gLc ge (tN jv) [jv] gYes (gLamAsk h ls jv))) := by
  refine ⟨fun pins s σ H Q I q => ?_⟩
  have q1 := lc_imp (X := X) (iter := iter) (tg := .Name v p3) (tgb_name jv) hK q
  refine lc_from (own := [(v, jv)]) (te := fun σ2 H3 Q => wipe σ2 [jv] = wipe σ [jv] ∧ rd p W0 (gLamAsk h ls jv) σ2 H3 Q) hc hN I (PI.or (pi_list hi) (pi_tup hi)) ok hpg (fun s H C cl fp I3 hfp => blk_ask I3 hfp GT ej LS hne room hK (hg s H C cl fp) hm hk hNv (hv C cl) hdb hd hcd) hs ?_
  have turn : ∀ (J : It) (H1 : Hp), (∀ D, H1 D = none → ∃ W : Nat → Nat → Hp → Prop, (∃ m, W 0 m (upd H1 D (.lst []))) ∧ ∀ i m H, W i m H →
      (J.stop i H ∧ Q (.ref D) H) ∨ (J.go i H ∧ ∃ Nx : Hp → Prop, (∀ H', Nx H' → ∃ m', m' < m ∧ W (i + 1) m' H') ∧ ∀ x H', J.yld i H x H' → L2.gName jv x (wipe σ [jv]) H' fun σ2 H2 => wipe σ2 [jv] = wipe σ [jv] ∧ rdB p W0 gYes σ2 H2 fun b H3 =>
        if b = true then rd p W0 (gLamAsk h ls jv) σ2 H3 fun y H4 => ∃ acc, H4 D = some (.lst acc) ∧ acc.length < sizeLine ∧ Nx (upd H4 D (.lst (acc ++ [y]))) else Nx H3)) →
      ∀ D, H1 D = none → ∃ W : Nat → Nat → Hp → Prop, (∃ m, W 0 m (upd H1 D (.lst []))) ∧ ∀ i m H, W i m H →
      (J.stop i H ∧ Q (.ref D) H) ∨ (J.go i H ∧ ∃ Nx : Hp → Prop, (∀ H', Nx H' → ∃ m', m' < m ∧ W (i + 1) m' H') ∧ ∀ x H', J.yld i H x H' → L2.gName jv x (wipe σ [jv]) H' fun σ2 H2 => wipe σ2 [jv] = wipe σ [jv] ∧ tYes σ2 H2 fun b H3 =>
        if b = true then (wipe σ2 [jv] = wipe σ [jv] ∧ rd p W0 (gLamAsk h ls jv) σ2 H3 fun y H4 => ∃ acc, H4 D = some (.lst acc) ∧ acc.length < sizeLine ∧ Nx (upd H4 D (.lst (acc ++ [y])))) else Nx H3) := fun J H1 z D hD => by
    obtain ⟨Wt, w0, st⟩ := z D hD
    refine ⟨Wt, w0, fun i m H w => (st i m H w).imp id fun ⟨go, Nx, hNx, yl⟩ => ⟨go, Nx, hNx, fun x H' y => ?_⟩⟩
    obtain ⟨hw, G, ρ, gd, en, po⟩ := yl x H' y
    have po := po G true H' GX.rfl' rfl gd rfl
    exact ⟨hw, hw, po⟩
  rcases q1 with q1 | q1
  · exact .inl (rd_mono q1 fun v H1 ⟨a, e, z, r⟩ => ⟨a, e, z, turn _ _ r⟩)
  · exact .inr (rd_mono q1 fun v H1 ⟨a, e, z, r⟩ => ⟨a, e, z, turn _ _ r⟩)
end
end Dq

/-! The head of a law that makes lists of lambdas; a lambda's text; a class made whose __init__ raises. -/
namespace Dq
open PySem PySem.Spec PyProof.Rows L2 LamX
abbrev lamP (p : Pg) (lm : Nat → Addr → Addr → Option Xq.LF) : Pg := { p with lam := lm }
section
variable {p : Pg} {lm : Nat → Addr → Addr → Option Xq.LF}
mutual
theorem Rp.lamUp (h : ∀ i c t L, p.lam i c t = some L → lm i c t = some L) {F : Hp} {μ : List Addr} : ∀ (d : DV) (v : V), Rp p F μ d v → Rp (lamP p lm) F μ d v
  | .non, _, .non => .non
  | .bl b, _, .bl _ => .bl b
  | .int i, _, .int _ => .int i
  | .str z, _, .str _ => .str z
  | .lst xs, _, .lst a r => .lst a (Rps.lamUp h xs _ r)
  | .wl xs, _, .wl a r => .wl a (Rps.lamUp h xs _ r)
  | .tup xs, _, .tup a r => .tup a (Rps.lamUp h xs _ r)
  | .ins _ _ xs, _, .ins a e r => .ins a e (Rps.lamUp h xs _ r)
  | .mr _, _, .mr a => .mr a
  | .exn _ _ xs, _, .exn a b e r => .exn a b e (Rps.lamUp h xs _ r)
  | .fn _, _, .fn e e2 e3 e4 e5 => .fn e e2 e3 e4 e5
  | .cls c, _, .cls _ => .cls c
  | .lam _, _, .lam e h3 h4 h5 => .lam (h _ _ _ _ e) h3 h4 h5
theorem Rps.lamUp (h : ∀ i c t L, p.lam i c t = some L → lm i c t = some L) {F : Hp} {μ : List Addr} : ∀ (ds : List DV) (vs : List V), Rps p F μ ds vs → Rps (lamP p lm) F μ ds vs
  | [], _, .nil => .nil
  | d :: ds, _, .cons r t => .cons (Rp.lamUp h d _ r) (Rps.lamUp h ds _ t)
end
theorem Gd.lamUp (h : ∀ i c t L, p.lam i c t = some L → lm i c t = some L) {G : Gh} {H : Hp} (g : Gd p G H) : Gd (lamP p lm) G H :=
  ⟨g.le, g.len, fun k m e => by
    obtain ⟨a, e1, e2, e3⟩ := g.live k m e
    refine ⟨a, e1, e2, ?_⟩
    cases m with
    | lst xs => obtain ⟨vs, q1, q2⟩ := e3; exact ⟨vs, q1, Rps.lamUp h _ _ q2⟩
    | ins c ks xs => obtain ⟨dx, fs, q1, q2, q3⟩ := e3; exact ⟨dx, fs, q1, q2, Rps.lamUp h _ _ q3⟩, g.all, g.inj, g.tb⟩
end
/-- a law's body: it gives a truth, nothing made is left -/
def runB (N n : Nat) (b : GS) : List DV → Sto → R DV := fun ds s => match s, Dq.run N n b ds s with
  | [], .ok (.bl z) _ => .ok (.bl z) []
  | _, _ => .bad
section
variable {p : Pg} {P : Program} {w : World} {K : PySem.W.Frag} {mg : Str → Option Value} {base : Heap} {x qual : Str} {params : Arguments} {body : List Stmt} {scope : Scope} {dvs : List V} {kws : List (Str × V)} {f : Addr} {fd : FuncData} {N ps : List Str} {k n nN : Nat} {b : GS} {m : List DV → Sto → R DV}
/-- a law's def: its lambdas' records are told of its own frame -/
theorem def0L (F : FunD K x qual params body scope dvs kws f fd) {c : Addr} (hlaw : lawB K = true) (hf : f = He.ga K "law") (hc : c = lawC K) (S : FnScope N ps scope) (hN : N.length = nN) (hp : ps.length = n) (hn : n ≤ nN) (hm : m = runB nN n b) (h0 : ∀ i c t, p.lam i c t = none)
    (lm : List (Str × Addr) → Nat → Addr → Addr → Option Xq.LF)
    (h : ∀ (A : Around) (outer : List Env) (s : Shared) (H : Hp) (E : XK), Room k (A.deeper (envOfC qual scope s.heap.objs.size f (.ref c))) →
      PSs (cxOf CX0 P w K mg base N qual scope f (.ref c) A outer s H E).nox body (rdS (lamP p (lm (envOfC qual scope s.heap.objs.size f (.ref c)).cells)) W0 b)) : FnOk P w K mg base CX0 (k + 1) f fd ps (spD p We0 n m) := by
  subst hN hp hm hc
  obtain ⟨oc, od, dV, kV, doc, pm, an, cdv, ct, osl, rfl, lk, hcd, _, _⟩ := F.ex
  have e := lawC_of hlaw hf lk
  have e : cdv = .ref (lawC K) := e
  subst e
  refine fn_of lk hcd S (fun vs H Q E h => h.1) fun A outer s H vs Q E hr hs => ⟨_, PSs.nox (h A outer s H E hr), body_of (We := We0) (E := E) (n := ps.length) (fun _ _ _ _ _ _ z => z) hn ?_⟩
  obtain ⟨hl, G, ds, gd, r, po⟩ := hs
  have up : ∀ i c t L, p.lam i c t = some L → lm (envOfC qual scope s.heap.objs.size f (.ref (lawC K))).cells i c t = some L := fun i c t L e => by
    rw [h0] at e
    cases e
  refine ⟨hl, G, ds, gd.lamUp up, Rps.lamUp up _ _ r, ?_⟩
  unfold runB at po
  split at po
  · rename_i z s2 hs0 e2
    rw [e2]
    intro G3 v3 H3 x3 e3 g3 r3
    cases r3
    have m0 : G.μ = [] := List.length_eq_zero_iff.mp (by rw [gd.len, hs0]; rfl)
    refine po ⟨G3.F, [], []⟩ _ H3 ⟨x3.f, fun k a q => ?_⟩ rfl ⟨g3.le, rfl, fun k m q => ?_, fun k a q => ?_, fun j k a q => ?_, ⟨g3.tb.tabs, g3.tb.noF, fun k a o q => ?_⟩⟩ (.bl _)
    · rw [m0] at q
      simp at q
    · simp at q
    · simp at q
    · simp at q
    · simp at q
  · exact po.elim
end
/-! ### places in a text -/
def nthS : List Stmt → Nat → Stmt
  | [], _ => .Pass ⟨0, 0, 0, 0⟩
  | s :: _, 0 => s
  | _ :: r, n + 1 => nthS r n
def nthE : List Expr → Nat → Expr
  | [], _ => .Constant .none 0 ⟨0, 0, 0, 0⟩
  | e :: _, 0 => e
  | _ :: r, n + 1 => nthE r n
def valS : Stmt → Expr
  | .Assign _ e _ => e
  | .Return (some e) _ => e
  | .If e _ _ _ => e
  | .For _ e _ _ _ => e
  | _ => .Constant .none 0 ⟨0, 0, 0, 0⟩
def subS : Stmt → List Stmt
  | .If _ b _ _ => b
  | .For _ _ b _ _ => b
  | .While _ b _ _ => b
  | _ => []
def elsS : Stmt → List Stmt
  | .If _ _ b _ => b
  | _ => []
def kidE : Expr → List Expr
  | .BinOp l _ r _ => [l, r]
  | .BoolOp _ es _ => es
  | .UnaryOp _ e _ => [e]
  | .IfExp t b e _ => [t, b, e]
  | .Compare l _ rs _ => l :: rs
  | .Call g as _ _ => g :: as
  | .List es _ => es
  | .Tuple es _ _ => es
  | .Subscript v i _ => [v, i]
  | .Attribute v _ _ => [v]
  | .ListComp e _ _ _ => [e]
  | _ => []
def lamA : Expr → Arguments
  | .Lambda a _ _ _ => a
  | _ => ⟨[], [], none, [], [], none, []⟩
def lamBd : Expr → Expr
  | .Lambda _ b _ _ => b
  | e => e
def lamSc : Expr → Scope → Scope
  | .Lambda _ _ sc _, _ => sc
  | _, sc => sc
/-- the record of the lambda e made in a frame with these cells -/
abbrev lamL (sc : Scope) (e : Expr) (q : Str) (vs : List V) (cells : List (Str × Addr)) (c t : Addr) : Xq.LF := ⟨lamA e, lamBd e, lamSc e sc, q, cloFrom cells (lamSc e sc).names [], c, t, vs⟩
theorem bnd0 {L : Addr → Addr → Xq.LF} (h : ∀ c t doc pm ctv, bindArgs ((L c t).fd doc pm ctv) ⟨[], []⟩ = pure []) (c t : Addr) (s : Shared) (us : List Value) (doc pm ctv : Value) (hl : us.length = ([] : List Str).length) (_ : (L c t).vs = [] ∨ IsTup s.heap t us.toArray) : BindsTo s ((L c t).fd doc pm ctv) ⟨[], []⟩ (([] : List Str).zip us) := by
  cases us with
  | nil => exact BindsTo.of_eq (h c t doc pm ctv)
  | cons u us => cases hl
theorem bnd1 {L : Addr → Addr → Xq.LF} {x : Str} (hv : ∀ c t, (L c t).vs ≠ []) (hd : ∀ c t, (L c t).dV = .ref t) (h : ∀ c t doc pm ctv u, ∃ k : Option (Array Value) → Sem (List (Str × Value)), bindArgs ((L c t).fd doc pm ctv) ⟨[], []⟩ = seqItems? ((L c t).fd doc pm ctv).defaults >>= k ∧ k (some #[u]) = pure [(x, u)])
    (c t : Addr) (s : Shared) (us : List Value) (doc pm ctv : Value) (hl : us.length = [x].length) (ht : (L c t).vs = [] ∨ IsTup s.heap t us.toArray) : BindsTo s ((L c t).fd doc pm ctv) ⟨[], []⟩ ([x].zip us) := by
  match us, hl with
  | [u], _ =>
    rcases ht with z | ⟨o, ho, _, n, hs⟩
    · exact absurd z (hv c t)
    · obtain ⟨k, h1, h2⟩ := h c t doc pm ctv u
      exact BindsTo.of_defaults (hd c t) ho hs h1 h2
theorem caps_of {X : Cx} {sc0 : Scope} {e : Expr} {q : Str} {vs : List V} {cells : List (Str × Addr)} {fr : List Str} {js : List Nat} (hc : cells = X.env.cells) (hb : NdefX.ndefB X.env.scope (lamSc e sc0) fr = true) (hjs : js.map (fun j => X.N[j]?) = fr.map some) (ok : X.Ok) (c t : Addr) : NdefX.Caps X (lamL sc0 e q vs cells c t).cl fr js := by
  subst hc
  exact NdefX.Caps.made ok (NdefX.ndef_free hb) (NdefX.ndef_fr hb) hjs
section
variable {p : Pg} {P : Program} {w : World} {mg : Str → Option Value} {base : Heap} {lv n c : Nat} {f : Addr} {m : List DV → Sto → R DV} {ds0 : List DV} {X : Cx} {E : XK}
theorem OkX.mkc (o : OkX p P w mg base lv f n m ds0) (M : Mk X.K (p.cA c) f) (hr : Room (lv + 1) X.A) (tk : Takes X (WeX E)) (e : At X p P w mg base := by exact ⟨rfl, rfl, rfl, rfl, rfl⟩) : MkC p X (WeX E) c m ds0 := by
  obtain ⟨fd, ps, dvs, dsv, hn, F, hd, hb, h0⟩ := o.ex
  obtain ⟨e1, e2, e3, e4, e5⟩ := e
  subst e1 e2 e4 e5 hn
  rw [← e3] at F hb
  exact ⟨L2.CX X.prog X.w, E, WeX, lv, f, fd, ps, dvs, dsv, M, F, hr, hb, hd, h0, passes_call tk fun _ _ _ _ z => z, fun _ _ _ _ z => z, o.len⟩
theorem OkX.mkc0 (o : OkX p P w mg base lv f n m ds0) (M : Mk X.K (p.cA c) f) (hr : Room (lv + 1) X.A) (e : At X p P w mg base := by exact ⟨rfl, rfl, rfl, rfl, rfl⟩) : MkC p X W0 c m ds0 := by
  obtain ⟨fd, ps, dvs, dsv, hn, F, hd, hb, h0⟩ := o.ex
  obtain ⟨e1, e2, e3, e4, e5⟩ := e
  subst e1 e2 e4 e5 hn
  rw [← e3] at F hb
  exact ⟨L2.CX X.prog X.w, fun _ _ _ => False, WeX, lv, f, fd, ps, dvs, dsv, M, F, hr, hb, hd, h0, pass_no, fun _ _ _ _ z => z, o.len⟩
/-- an __init__ that may raise, called by keywords: mx tells the parameters behind self -/
structure OkMKX (p : Pg) (P : Program) (w : World) (mg : Str → Option Value) (base : Heap) (lv : Nat) (f : Addr) (n : Nat) (m : List DV → Sto → R DV) (npos : Nat) (ks : List Str) (mx : Mix) : Prop where
  ex : ∃ fd ps gg gV, ps.length = n ∧ FnOk P w p.K mg base (L2.CX P w) lv f fd ps (spD p WeX n m) ∧ KBn p.K fd ps (npos + 1) ks gg gV ∧
    ∀ (F : Hp) (μ : List Addr) (l z a : List DV) (vs zs : List V) (u : V), Rps p F μ l vs → Rps p F μ z zs → mx l z = some a → vs.length = npos ∧ zs.length = ks.length ∧ ∃ vs', gV (u :: vs) zs = u :: vs' ∧ Rps p F μ a vs'
  len : ∀ ds s, ds.length ≠ n → m ds s = .bad
theorem OkMKX.mkc0 {npos : Nat} {ks : List Str} {mx : Mix} (o : OkMKX p P w mg base lv f n m npos ks mx) (M : Mk X.K (p.cA c) f) (hr : Room (lv + 1) X.A) (e : At X p P w mg base := by exact ⟨rfl, rfl, rfl, rfl, rfl⟩) : MkK p X W0 c m npos ks mx := by
  obtain ⟨fd, ps, gg, gV, hn, F, hb, h0⟩ := o.ex
  obtain ⟨e1, e2, e3, e4, e5⟩ := e
  subst e1 e2 e4 e5 hn
  rw [← e3] at F hb
  exact ⟨L2.CX X.prog X.w, fun _ _ _ => False, WeX, lv, f, fd, ps, gg, gV, M, F, hr, hb, pass_no, fun _ _ _ _ z => z, o.len, h0⟩
end
end Dq

/-! a == b, a an instance with an own ==, b anything of a built-in type. -/
namespace Dq
open PySem PySem.Spec PyProof.Rows L2
def biT (n : String) : Bool := (["NoneType", "bool", "int", "str", "list", "tuple"] : List String).contains n
theorem map_type (C : Addr) : ∀ l : List String, (l.map Value.type).contains (Value.ref C) = false
  | [] => rfl
  | x :: l => by
    rw [List.map_cons, List.contains_cons, map_type C l]
    rfl
theorem biT_sub {K : PySem.W.Frag} {C : Addr} {n : String} (h : biT n = true) : PySem.W.subIn K (.type n) (.ref C) = some false := by
  unfold PySem.W.subIn fastBuiltinMro
  have hs : (fastFind? n).isSome = true := by
    have h := List.contains_iff_mem.mp h
    simp only [List.mem_cons, List.not_mem_nil, or_false] at h
    rcases h with rfl | rfl | rfl | rfl | rfl | rfl <;> decide +kernel
  obtain ⟨b, hb⟩ := Option.isSome_iff_exists.mp hs
  show Option.map (fun x => x.contains (Value.ref C)) (Option.map (fun x => List.map Value.type x.mro) (fastFind? n)) = some false
  rw [hb]
  show some ((b.mro.map Value.type).contains (Value.ref C)) = _
  rw [map_type]
@[simp] def ownEqB (own : Sel) (g : DV → DV → Sto → R DV) (a b : DV) (s : Sto) : R DV := match insS s a with
  | some (c, _, _) => match own c with
    | some f => match insS s b with
      | some (c', _, _) => match decide (c' = c) with
        | true => f [a, b] s
        | false => .bad
      | none => match tyD s b with
        | some (.bi n) => match biT n with
          | true => f [a, b] s
          | false => .bad
        | _ => .bad
    | none => .bad
  | none => g a b s
section
variable {p : Pg} {X : Cx} {W : WX}
theorem opd_ownEqB (hK : X.K = p.K) {own : Sel} {g : DV → DV → Sto → R DV} (hu : X.A.units < cLine) (h : OpR X (compareOp .Eq) (rOp p W g)) (hs : ∀ c f, own c = some f → SpC p X W c "__eq__" f) : OpR X (compareOp .Eq) (rOp p W (ownEqB own g)) :=
  fun pins s σ H x y v u Q I rx ry ⟨G, a, b, σ', gd, ra, rb, po⟩ => by
    unfold ownEqB at po
    split at po
    · rename_i c ks xs hi
      split at po
      · rename_i f hf
        obtain ⟨x1, dx, fs, rfl, ea, _, _⟩ := ins_of gd ra hi
        obtain rfl : v = Value.ref x1 := rx
        obtain ⟨ox, od, J⟩ := inst_at I ea
        obtain ⟨m, hF⟩ := I.fr
        obtain ⟨f1, h1, h2, C⟩ := (hs _ f hf).ex
        split at po
        · rename_i c' ks' xs' hi'
          split at po
          · rename_i hc
            have hc := of_decide_eq_true hc
            subst hc
            obtain ⟨y1, dy, fs', rfl, eb, _, _⟩ := ins_of gd rb hi'
            obtain rfl : u = Value.ref y1 := ry
            obtain ⟨oy, od', J'⟩ := inst_at I eb
            show wpAny (model X.prog X.w) X.A (richCompare .Eq (.ref x1) (.ref y1)) (EP X pins σ Q) X.xe s
            refine PySem.W.cmp_K (op := .Eq) hu hF I.ok.mod.kin J J'.type (by simp [PySem.W.notFirst]) h1 h2 (thn (C.run (Q := Q) I (.cons rfl (.cons rfl .nil) : Vals [.ref x1, .ref y1] [.ref x1, .ref y1]) gd (.cons ra (.cons rb .nil)) (by rw [List.append_nil]; exact po)) fun u s' z => cmpBack_of z)
          · exact po.elim
        · split at po
          · rename_i n ht
            split at po
            · rename_i hb
              have ty := ty_of (t := .bi n) gd (fun c e => nomatch e) rb ht
              obtain ⟨Pp, kx, hp, _⟩ := kit_of (t := .type n) I ry (by rw [hK]; exact ty)
              show wpAny (model X.prog X.w) X.A (richCompare .Eq (.ref x1) u) (EP X pins σ Q) X.xe s
              refine PySem.W.cmp_K (op := .Eq) (tb := .type n) hu hF I.ok.mod.kin J (kx.ty _ _ I.kIn hp) (by unfold PySem.W.notFirst; rw [biT_sub hb]; simp) h1 h2 (thn (C.run (Q := Q) I (.cons rfl (.cons ry .nil) : Vals [.ref x1, y] [.ref x1, u]) gd (.cons ra (.cons rb .nil)) (by rw [List.append_nil]; exact po)) fun u s' z => cmpBack_of z)
            · exact po.elim
          · exact po.elim
      · exact po.elim
    · exact h pins s σ H x y v u Q I rx ry ⟨G, a, b, σ', gd, ra, rb, po⟩
end
end Dq

/-! bool(x), x an instance with an own __bool__. -/
namespace PySem.W
open PySem PySem.Spec PySem.Calls PyProof.Rows
section
variable {prog : Program} {w : World} {A : Around} {E : Value → Shared → Prop} {s : Shared} {K : Frag} {x C f : Addr} {ox : Obj} {od : Option Obj}
theorem xbo_truthy {Q : Bool → Shared → Prop} (X : K.In s.heap) (I : InstAt s.heap x ox C od) (hs : findIn K (.ref C) "__bool__" = some (some (.ref f))) (hf : isFn K (.ref f) = true)
    (h : wpAny (model prog w) A (call (.ref f) [.ref x]) (fun v s1 => ∃ b, v = .bool b ∧ Q b s1) E s) : wpAny (model prog w) A (truthy (.ref x)) Q E s := by
  unfold truthy
  refine wpAny_bind (m := callSpecial? (.ref x) (Str.ofString "__bool__")) (special_fn X I hs (beq_iff_eq.mp hf) (wpAny_mono h (fun v s1 ⟨b, e, q⟩ => ?_) fun _ _ y => y))
  subst e
  exact wpAny_pure q
theorem xbo_new {Q : Fin → Shared → Prop} (X : K.In s.heap) (I : InstAt s.heap x ox C od) (hs : findIn K (.ref C) "__bool__" = some (some (.ref f))) (hf : isFn K (.ref f) = true)
    (h : wpAny (model prog w) A (call (.ref f) [.ref x]) (fun v s1 => ∃ b, v = .bool b ∧ Q (.done (.ret (.bool b))) s1) E s) :
    wpAny (model prog w) A (Builtin.«bool.__new__» ⟨[.type "bool", .ref x], []⟩) Q E s := by
  have f1 := F.conv_sub_bool
  unfold Builtin.«bool.__new__»
  repeat (any_goals (first | assumption | (with_reducible refine xbo_truthy X I hs hf (wpAny_mono h (fun v s1 z => ?_) fun _ _ y => y)) | wp_step))
  obtain ⟨b, e, q⟩ := z
  exact ⟨b, e, wpAny_pure q⟩
theorem xbo_call {Q : Value → Shared → Prop} (X : K.In s.heap) (I : InstAt s.heap x ox C od) (hs : findIn K (.ref C) "__bool__" = some (some (.ref f))) (hf : isFn K (.ref f) = true)
    (h : wpAny (model prog w) A.in1.in1 (call (.ref f) [.ref x]) (fun v s1 => ∃ b, v = .bool b ∧ Q (.bool b) s1) E s) : wpAny (model prog w) A (call (.type "bool") [.ref x]) Q E s := by
  refine callType_codes (T := "bool") (Bi := Builtin.«object.__init__») (Q₁ := fun r s₁ => ∃ b, r = .bool b ∧ Q r s₁) PySem.F.called_bool (PySem.F.typeCall_bool_1 _) PySem.F.entry_object_init ?_ ?_
  · refine codeAny_of_tree ?_
    show wpAny _ A.in1.in1 (do checkBuiltinCall "bool.__new__" ⟨[.type "bool", .ref x], []⟩; again (.builtin "bool.__new__" ⟨[.type "bool", .ref x], []⟩)) _ _ s
    refine wpAny_bind (wpAny_of_eq (PySem.F.newCall_bool_1 _) (wpAny_pure ⟨plainId_quiet (by decide +kernel) _, codeAny_builtin PySem.F.entry_bool_new ?_⟩))
    rw [Around.under_plainId (by decide +kernel) _]
    exact xbo_new X I hs hf (wpAny_mono h (fun v s1 ⟨b, e, q⟩ => ⟨b, e, b, rfl, q⟩) fun _ _ y => y)
  · rintro obj s₁ ⟨b, rfl, hq⟩
    exact ⟨rfl, PySem.F.args_object_init_2 _ _, object_init_meets PySem.F.called_bool.init.lookup PySem.F.called_bool.made (by decide) prog w A.in1 _ s₁ ⟨rfl, rfl, hq⟩⟩
end
end PySem.W
namespace Dq
open PySem PySem.Spec PyProof.Rows L2
/-- bool(x) by an own __bool__ -/
@[simp] def bolO (own : Sel) (g : List DV → Sto → R DV) : List DV → Sto → R DV
  | [d], s => match insS s d with
    | some (c, _, _) => match own c with
      | some f => (f [d] s).bind fun r s1 => match r with
        | .bl z => .ok (.bl z) s1
        | _ => .bad
      | none => .bad
    | none => g [d] s
  | l, s => g l s
section
variable {p : Pg} {X : Cx} {W : WX}
theorem opd_bolO {own : Sel} {g : List DV → Sto → R DV} (h : CallR X (.type "bool") (rCal p W g)) (hs : ∀ c f, own c = some f → SpC p (in1X (in1X X)) W c "__bool__" f) : CallR X (.type "bool") (rCal p W (bolO own g)) :=
  fun pins s σ H vs us Q I r ⟨G, ds, σ', gd, rs, po⟩ => by
    unfold bolO at po
    split at po
    · rename_i d st
      split at po
      · rename_i c ks xs hi
        split at po
        · rename_i f hf
          cases rs with
          | cons r1 rt =>
            cases rt
            cases r with
            | cons rv rt =>
              cases rt
              obtain ⟨x1, dx, fs, rfl, ea, _, _⟩ := ins_of gd r1 hi
              have ee : _ = Value.ref x1 := rv
              subst ee
              obtain ⟨ox, od, J⟩ := inst_at I ea
              obtain ⟨f1, h1, h2, C⟩ := (hs _ f hf).ex
              refine PySem.W.xbo_call I.kIn J h1 h2 (thn (C.run (X := in1X (in1X X)) (Q := fun w H1 => ∃ G1 e, GX G G1 ∧ Gd p G1 H1 ∧ Rp p G1.F G1.μ e w ∧ PoV p W G1 σ' (match e with
                | .bl z => .ok (.bl z) G1.st
                | _ => .bad) Q) (inv_in1 (inv_in1 I)) (.cons rfl .nil : Vals [.ref x1] [.ref x1]) gd (.cons r1 .nil) (Po.bind po)) fun u2 s2 z => ?_)
              obtain ⟨w, H2, I2, rw2, G1, e, x2, gd2, re, po2⟩ := z
              cases re with
              | bl k =>
                obtain rfl : u2 = Value.bool k := rw2
                exact ⟨k, rfl, .bl k, H2, inv_out1 (inv_out1 I2), rfl, Po.ret po2 GX.rfl' rfl gd2 (.bl k)⟩
              | _ => exact po2.elim
        · exact po.elim
      · exact h pins s σ H vs us Q I r ⟨G, _, σ', gd, rs, po⟩
    · exact h pins s σ H vs us Q I r ⟨G, _, σ', gd, rs, po⟩
end
end Dq

namespace Dq
open PySem PySem.Spec PyProof.Rows L2
@[simp] theorem okIf_t (d : DV) (s : Sto) : okIf true d s = .ok d s := rfl
theorem okIf_of {c : Bool} (h : c = true) (d : DV) (s : Sto) : okIf c d s = .ok d s := by subst h; rfl
@[simp] theorem fin_same (s s' : Sto) (d : DV) (h : s'.length = s.length) : RS.fin s (.rt d s') = .ok d s' := by
  show fin s d s' = _
  unfold fin
  simp [h]
@[simp] theorem finN_same (s s' : Sto) (ρ : En) (h : s'.length = s.length) : RS.fin s (.nx ρ s') = .ok .non s' := by
  show fin s .non s' = _
  unfold fin
  simp [h]
theorem cutOk_app (s t : Sto) : cutOk s (s ++ t) = true := by
  unfold cutOk
  rw [List.take_left]
  simp [sameS_rfl]
theorem fin_app (s t : Sto) (d : DV) (t' : Sto) (hf : frz 3000 s.length d (s ++ t) = some (d, s ++ t')) (hb : bel s.length d = true) : RS.fin s (.rt d (s ++ t)) = .ok d s := by
  cases t with
  | nil =>
    rw [List.append_nil]
    exact fin_same s s d rfl
  | cons x t =>
    show fin s d _ = _
    unfold fin
    rw [hf]
    have : decide ((s ++ x :: t).length = s.length) = false := by simp
    rw [this]
    simp only
    rw [hb, cutOk_app, List.take_left]
    rfl
theorem makeD_ins {c : Nat} {g : List DV → Sto → R DV} {l : List DV} {s : Sto} {ks : List Nat} {xs : List DV}
    (h : g (.mr s.length :: l) (s ++ [some (.ins c [] [])]) = .ok .non (s ++ [some (.ins c ks xs)])) (hb : bels s.length xs = true) : makeD false c g l s = .ok (.ins c ks xs) s := by
  unfold makeD
  rw [h]
  have e1 : (s ++ [some (MO.ins c ks xs)])[s.length]? = some (some (MO.ins c ks xs)) := by simp
  have e2 : (s ++ [some (MO.ins c ks xs)]).set s.length none = s ++ [none] := by simp [List.set_append]
  simp only [e1, e2]
  simp [hb, cutOk_app]
/-- small enough to be multiplied -/
def Sm (x : Int) : Prop := x.natAbs < 2 ^ 4000
theorem log2_lt {n k : Nat} (h : n < 2 ^ k) (hk : 0 < k) : n.log2 < k := by
  by_cases z : n = 0
  · subst z; simpa using hk
  · exact (Nat.log2_lt z).mpr h
theorem mulOk_of {i j : Int} (hi : Sm i) (hj : Sm j) : mulOk i j = true := by
  unfold mulOk
  have a := log2_lt hi (by decide)
  have b := log2_lt hj (by decide)
  simp only [decide_eq_true_eq]
  omega
theorem divOk_of {j : Int} (h0 : j ≠ 0) (hj : Sm j) : divOk j = true := by
  unfold divOk
  have b := log2_lt hj (by decide)
  simp only [Bool.and_eq_true, decide_eq_true_eq]
  omega
theorem Sm.of {x : Int} {k : Nat} (h : x.natAbs < 2 ^ k) (hk : k ≤ 4000 := by decide) : Sm x := Nat.lt_of_lt_of_le h (Nat.pow_le_pow_right (by decide) hk)
theorem Sm.neg {x : Int} (h : Sm x) : Sm (-x) := by unfold Sm; rw [Int.natAbs_neg]; exact h
theorem mulD_of {i j : Int} (hi : Sm i) (hj : Sm j) (s : Sto) : mulD (.int i) (.int j) s = .ok (.int (i * j)) s := by
  show okIf (mulOk i j) _ s = _
  exact okIf_of (mulOk_of hi hj) _ s
theorem fdivD_of {i j : Int} (h0 : j ≠ 0) (hj : Sm j) (s : Sto) : fdivD (.int i) (.int j) s = .ok (.int (i.fdiv j)) s := by
  show okIf (divOk j) _ s = _
  exact okIf_of (divOk_of h0 hj) _ s
theorem modD_of {i j : Int} (h0 : j ≠ 0) (s : Sto) : modD (.int i) (.int j) s = .ok (.int (i.fmod j)) s := by
  show okIf (decide (j ≠ 0)) _ s = _
  exact okIf_of (by simpa using h0) _ s
theorem shaped_int (i : Int) : SeqAt.shaped (.int i) = true := rfl
theorem shaped_tup2 (i j : Int) : SeqAt.shaped (.tuple [.int i, .int j]) = true := rfl
theorem eqD_int (i j : Int) (s : Sto) : eqD (.int i) (.int j) s = .ok (.bl (decide (i = j))) s := by
  show okIf (SeqAt.shaped (.int i) && SeqAt.shaped (.int j)) (.bl (PyData.eqv (.int i) (.int j))) s = _
  rw [shaped_int, shaped_int]
  show R.ok (DV.bl (PyData.eqv (.int i) (.int j))) s = _
  have : PyData.eqv (.int i) (.int j) = decide (i = j) := by
    unfold PyData.eqv
    by_cases h : i = j <;> simp [h]
  rw [this]
theorem neD_int (i j : Int) (s : Sto) : neD (.int i) (.int j) s = .ok (.bl (!decide (i = j))) s := by
  show okIf (SeqAt.shaped (.int i) && SeqAt.shaped (.int j)) (.bl (!PyData.eqv (.int i) (.int j))) s = _
  rw [shaped_int, shaped_int]
  show R.ok (DV.bl (!PyData.eqv (.int i) (.int j))) s = _
  have : PyData.eqv (.int i) (.int j) = decide (i = j) := by
    unfold PyData.eqv
    by_cases h : i = j <;> simp [h]
  rw [this]
theorem eqD_tup2 (a b c d : Int) (s : Sto) : eqD (.tup [.int a, .int b]) (.tup [.int c, .int d]) s = .ok (.bl (decide (a = c ∧ b = d))) s := by
  show okIf (SeqAt.shaped (.tuple [.int a, .int b]) && SeqAt.shaped (.tuple [.int c, .int d])) (.bl (PyData.eqv (.tuple [.int a, .int b]) (.tuple [.int c, .int d]))) s = _
  rw [shaped_tup2, shaped_tup2]
  show R.ok (DV.bl (PyData.eqv (.tuple [.int a, .int b]) (.tuple [.int c, .int d]))) s = _
  have : PyData.eqv (.tuple [.int a, .int b]) (.tuple [.int c, .int d]) = decide (a = c ∧ b = d) := by
    simp only [PyData.eqv, PyData.eqvAll]
    by_cases h : a = c <;> by_cases h2 : b = d <;> simp [h, h2]
  rw [this]
theorem ixD_tup (xs : List DV) (i : Nat) (s : Sto) (h : i < xs.length) : ixD (.tup xs) (.int i) s = .ok xs[i] s := by
  have : atI xs (i : Int) = some xs[i] := by
    unfold atI L2.ixN
    simp [h]
  simp [ixD, this]
theorem ixD_seq {a : DV} {xs : List DV} {i : Int} {s : Sto} {d : DV} (hs : seqS s a = some xs) (ha : ∀ z, a ≠ .str z) (h0 : 0 ≤ i) (h : xs[i.toNat]? = some d) : ixD a (.int i) s = .ok d s := by
  have hl : i.toNat < xs.length := by
    rcases Nat.lt_or_ge i.toNat xs.length with q | q
    · exact q
    · rw [List.getElem?_eq_none q] at h; cases h
  have : atI xs i = some d := by
    unfold atI L2.ixN
    have : i < xs.length := by omega
    rw [List.getElem?_eq_getElem hl] at h
    injection h with h
    simp [h0, this, h, hl]
  unfold ixD
  cases a with
  | str z => exact absurd rfl (ha z)
  | _ => simp only [hs, this]
theorem rng2_of {i j : Int} (h : -(2 ^ 62) ≤ i ∧ i < 2 ^ 62 ∧ -(2 ^ 62) ≤ j ∧ j < 2 ^ 62) : rng2 [.int i, .int j] = some (i, (j - i).toNat) := by
  show (match decide (-(2 ^ 62) ≤ i ∧ i < 2 ^ 62 ∧ -(2 ^ 62) ≤ j ∧ j < 2 ^ 62) with
    | true => some (i, (j - i).toNat)
    | false => none) = _
  rw [decide_eq_true h]
theorem rng1_of {j : Int} (h : -(2 ^ 62) ≤ j ∧ j < 2 ^ 62) : rng1 [.int j] = some (0, j.toNat) := by
  show (match decide (-(2 ^ 62) ≤ j ∧ j < 2 ^ 62) with
    | true => some ((0 : Int), j.toNat)
    | false => none) = _
  rw [decide_eq_true h]
end Dq

namespace Dq
open PySem PySem.Spec PyProof.Rows L2
/-- the turns of a comprehension give these -/
inductive LcF (t : GTg) (el : GE) (ρ : En) (n : Nat) : List DV → List DV → Prop
  | nil : LcF t el ρ n [] []
  | cons {x y : DV} {xs ys : List DV} (h : ∃ ρ1, t x ρ = some ρ1 ∧ ∀ S : Sto, S.length = n + 1 → el ρ1 S = .ok y S) (r : LcF t el ρ n xs ys) : LcF t el ρ n (x :: xs) (y :: ys)
theorem LcF.len {t : GTg} {el : GE} {ρ : En} {n : Nat} {xs ys : List DV} (h : LcF t el ρ n xs ys) : ys.length = xs.length := by
  induction h with
  | nil => rfl
  | cons _ _ ih => rw [List.length_cons, List.length_cons, ih]
theorem LcF.map {t : GTg} {el : GE} {ρ : En} {n : Nat} {f : DV → DV} : ∀ {xs : List DV}, (∀ x ∈ xs, ∃ ρ1, t x ρ = some ρ1 ∧ ∀ S : Sto, S.length = n + 1 → el ρ1 S = .ok (f x) S) → LcF t el ρ n xs (xs.map f)
  | [], _ => .nil
  | _ :: _, h => .cons (h _ (.head _)) (LcF.map fun x m => h x (.tail _ m))
theorem LcF.app {t : GTg} {el : GE} {ρ : En} {n : Nat} {xs ys xs' ys' : List DV} (h : LcF t el ρ n xs ys) (h' : LcF t el ρ n xs' ys') : LcF t el ρ n (xs ++ xs') (ys ++ ys') := by
  induction h with
  | nil => exact h'
  | cons a _ ih => exact .cons a ih
theorem lcR_ok {t : GTg} {el : GE} {ρ : En} (s : Sto) {xs ys : List DV} (h : LcF t el ρ s.length xs ys) : ∀ acc : List DV, acc.length + xs.length ≤ sizeLine → lcR t gYes el ρ s.length xs (s ++ [some (.lst acc)]) = some (s ++ [some (.lst (acc ++ ys))]) := by
  induction h with
  | nil => intro acc _; rw [lcR, List.append_nil]
  | @cons x y xs ys e _ ih =>
    intro acc hl
    obtain ⟨ρ1, e1, e2⟩ := e
    rw [List.length_cons] at hl
    have e3 := e2 (s ++ [some (.lst acc)]) (by simp)
    have e4 : (s ++ [some (MO.lst acc)])[s.length]? = some (some (MO.lst acc)) := by simp
    have e5 : (s ++ [some (MO.lst acc)]).set s.length (some (MO.lst (acc ++ [y]))) = s ++ [some (MO.lst (acc ++ [y]))] := by simp [List.set_append]
    have e6 : decide (acc.length < sizeLine) = true := decide_eq_true (by omega)
    have e7 := ih (acc ++ [y]) (by rw [List.length_append, List.length_cons, List.length_nil]; omega)
    rw [List.append_assoc] at e7
    rw [lcR, e1]
    show (match el ρ1 (s ++ [some (MO.lst acc)]) with
        | .ok y s2 => match s2[s.length]? with
          | some (some (.lst acc)) => match decide (acc.length < sizeLine) with
            | true => lcR t gYes el ρ s.length xs (s2.set s.length (some (.lst (acc ++ [y]))))
            | false => none
          | _ => none
        | _ => none) = _
    rw [e3]
    simp only [e4, e6, e5]
    exact e7
theorem lcEnd_ok (s : Sto) {ys : List DV} (hb : bels s.length ys = true) : lcEnd s (s ++ [some (.lst ys)]) = .ok (.lst ys) s := by
  unfold lcEnd
  have e4 : (s ++ [some (MO.lst ys)])[s.length]? = some (some (MO.lst ys)) := by simp
  have e5 : (s ++ [some (MO.lst ys)]).set s.length none = s ++ [none] := by simp [List.set_append]
  simp only [e4, e5, hb, cutOk_app, Bool.and_self, List.take_left]
theorem gLc_ok {ge : GE} {t : GTg} {vs : List Nat} {el : GE} {ρ : En} {s : Sto} {d : DV} {xs ys : List DV} (hg : ge ρ s = .ok d s) (hx : seqT d = some xs) (hz : xs.length ≤ sizeLine) (h : LcF t el (wipeD ρ vs) s.length xs ys) (hb : bels s.length ys = true) :
    gLc ge t vs gYes el ρ s = .ok (.lst ys) s := by
  unfold gLc
  have e := lcR_ok s h [] (by rw [List.length_nil]; omega)
  rw [hg]
  simp only [R.bind_ok, hx, e, List.nil_append]
  exact lcEnd_ok s hb
theorem gLz_ok {gl : GL} {t : GTg} {vs : List Nat} {el : GE} {ρ : En} {s : Sto} {da db : DV} {xs xs' ys : List DV} (hg : gl ρ s = .ok [da, db] s) (hx : seqsL da db = some (xs, xs')) (hz : (zipD xs xs').length ≤ sizeLine) (h : LcF t el (wipeD ρ vs) s.length (zipD xs xs') ys) (hb : bels s.length ys = true) :
    gLz gl t vs gYes el ρ s = .ok (.lst ys) s := by
  unfold gLz
  have e := lcR_ok s h [] (by rw [List.length_nil]; omega)
  rw [hg]
  simp only [R.bind_ok, hx, e, List.nil_append]
  exact lcEnd_ok s hb
theorem bels_app {m : Nat} : ∀ {xs ys : List DV}, bels m (xs ++ ys) = (bels m xs && bels m ys)
  | [], ys => by simp [bels]
  | x :: xs, ys => by simp only [List.cons_append, bels, bels_app (xs := xs), Bool.and_assoc]
theorem bels_rep {m : Nat} {d : DV} (h : bel m d = true) : ∀ n, bels m (List.replicate n d) = true
  | 0 => by simp [bels]
  | n + 1 => by rw [List.replicate_succ]; unfold bels; rw [h, bels_rep h n]; rfl
/-- constants and sequences of such, at most n deep -/
def plain : Nat → DV → Bool
  | _, .non => true
  | _, .bl _ => true
  | _, .int _ => true
  | _, .str x => SeqAt.shaped (.str x)
  | n + 1, .lst xs => decide (xs.length ≤ 64) && xs.all (plain n)
  | n + 1, .tup xs => decide (xs.length ≤ 64) && xs.all (plain n)
  | _, _ => false
mutual
theorem bel_plain {m : Nat} : ∀ {n : Nat} (d : DV), plain n d = true → bel m d = true
  | _, .non, _ => by unfold bel; rfl
  | _, .bl _, _ => by unfold bel; rfl
  | _, .int _, _ => by unfold bel; rfl
  | _, .str _, _ => by unfold bel; rfl
  | 0, .lst _, h => nomatch h
  | 0, .tup _, h => nomatch h
  | n + 1, .lst xs, h => by
    unfold plain at h
    rw [Bool.and_eq_true] at h
    unfold bel
    exact bels_plain xs h.2
  | n + 1, .tup xs, h => by
    unfold plain at h
    rw [Bool.and_eq_true] at h
    unfold bel
    exact bels_plain xs h.2
  | 0, .wl _, h => nomatch h
  | 0, .ins _ _ _, h => nomatch h
  | 0, .mr _, h => nomatch h
  | 0, .exn _ _ _, h => nomatch h
  | _ + 1, .wl _, h => nomatch h
  | _ + 1, .ins _ _ _, h => nomatch h
  | _ + 1, .mr _, h => nomatch h
  | _ + 1, .exn _ _ _, h => nomatch h
  | 0, .fn _, h => nomatch h
  | _ + 1, .fn _, h => nomatch h
  | 0, .cls _, h => nomatch h
  | _ + 1, .cls _, h => nomatch h
  | 0, .lam _, h => nomatch h
  | _ + 1, .lam _, h => nomatch h
theorem bels_plain {m : Nat} : ∀ {n : Nat} (xs : List DV), xs.all (plain n) = true → bels m xs = true
  | _, [], _ => by unfold bels; rfl
  | n, x :: xs, h => by
    rw [List.all_cons, Bool.and_eq_true] at h
    unfold bels
    rw [bel_plain x h.1, bels_plain xs h.2]
    rfl
end
theorem zipD_self : ∀ xs : List DV, zipD xs xs = xs.map fun x => .tup [x, x]
  | [] => by unfold zipD; rfl
  | x :: xs => by unfold zipD; rw [zipD_self xs]; rfl
@[simp] theorem blsD_rep (b : Bool) : ∀ n, blsD (List.replicate n (.bl b)) = some (List.replicate n b)
  | 0 => rfl
  | n + 1 => by
    show (match blsD (List.replicate n (.bl b)) with | some bs => some (b :: bs) | none => none) = _
    rw [blsD_rep b n]
    rfl
theorem allD_rep (n : Nat) (s : Sto) : allD [.lst (List.replicate n (.bl true))] s = .ok (.bl true) s := by
  show (match blsD (List.replicate n (.bl true)) with
      | some bs => R.ok (DV.bl (bs.all id)) s
      | none => .bad) = _
  rw [blsD_rep]
  simp
theorem run_rt {N n : Nat} {b : GS} {ds : List DV} {s s' : Sto} {d : DV} (hn : ds.length = n) (h : b (ds.map some ++ List.replicate (N - n) none) s = .rt d s') (hl : s'.length = s.length) : run N n b ds s = .ok d s' := by
  unfold run
  rw [decide_eq_true hn]
  simp only
  rw [h]
  exact fin_same _ _ _ hl
theorem seq_nx {a b : GS} {ρ ρ' : En} {s s' : Sto} (h : a ρ s = .nx ρ' s') : gSeq a b ρ s = b ρ' s' := by
  show RS.seq (a ρ s) b = _
  rw [h]
  rfl
theorem tabB_ok {K : PySem.W.Frag} {h : Heap} (X : K.In h) (t : tabB K h.get? = true) : lawB K = true ∧ PySem.W.CodeHd h (lawC K) (lawP K) ∧ K.lookup (lawP K) = none ∧ h.get? (lawP K) = some { cls := .none, data := .fields #[] } := by
  unfold tabB at t
  simp only [Bool.and_eq_true] at t
  obtain ⟨t1, t2, t3, t4⟩ := t
  exact ⟨t1, codeHdB_ok X t2, Option.isNone_iff_eq_none.mp t3, isTab_ok t4⟩
theorem tabs_nil {P : Addr} {q : Str} {H : Hp} (h : H P = some (.tbl #[])) : LamX.Tabs [(P, q)] H := fun y hy => by
  rw [List.mem_singleton.mp hy]
  exact LamX.TabS.nil h
end Dq

/-! The defs of the row gustfloor_k01_ratios_made by data; printed by a program. -/
namespace Row
open PySem PySem.Spec PyProof.Rows L2 Dq
def top (i : Nat) : Stmt := PySem.Challenge.pw_gustfloor_k01_ratios_made.main.body.getD i (.Pass ⟨0, 0, 0, 0⟩)
def NM : List Str := (["_top", "_bottom", "given", "code", "corner", "value", "other", "one", "most", "side", "name", "line", "index", "at", "bottom", "top"] : List Str)
theorem NM1 : NM.Nodup := by decide +kernel
theorem NM2 : NM.all (fun x => !(x.cps.size == 1)) = true := by decide +kernel
def cAd (K : PySem.W.Frag) : Nat → Addr
  | 0 => He.ga K "GustError"
  | 1 => He.ga K "InvalidRatio"
  | 2 => He.ga K "Missing"
  | 3 => He.ga K "NothingLeft"
  | 4 => He.ga K "Ratio"
  | _ => 0
abbrev pg (K : PySem.W.Frag) (lm : Nat → Addr → Addr → Option Xq.LF) : Pg := { K := K, lam := lm, cA := cAd K, nm := nmOf NM, nmi := nmOf_inj NM1 NM2, T := [(lawP K, "law.<locals>.<lambda>")] }
abbrev pg0 (K : PySem.W.Frag) : Pg := pg K fun _ _ _ => none
def pga (K : PySem.W.Frag) (a : Addr) : Addr := match PySem.W.recIn K a "property" with
  | some (.ref g :: _) => g
  | _ => 0
def fc__top : Nat → Bool := fun c => ([4] : List Nat).contains c
def fc__bottom : Nat → Bool := fun c => ([4] : List Nat).contains c
def isi_Ratio : Ty → Option Bool
  | .bi n => (([("NoneType", false), ("bool", false), ("int", false), ("str", false), ("list", false), ("tuple", false)] : List (String × Bool)).lookup n)
  | .own c => (([(4, true)] : List (Nat × Bool)).lookup c)
def isi_bool : Ty → Option Bool
  | .bi n => (([("NoneType", false), ("bool", true), ("int", false), ("str", false), ("list", false), ("tuple", false)] : List (String × Bool)).lookup n)
  | .own c => (([(4, false)] : List (Nat × Bool)).lookup c)
def isi_int : Ty → Option Bool
  | .bi n => (([("NoneType", false), ("bool", true), ("int", true), ("str", false), ("list", false), ("tuple", false)] : List (String × Bool)).lookup n)
  | .own c => (([(4, false)] : List (Nat × Bool)).lookup c)
def isi_list : Ty → Option Bool
  | .bi n => (([("NoneType", false), ("bool", false), ("int", false), ("str", false), ("list", true), ("tuple", false)] : List (String × Bool)).lookup n)
  | .own c => (([(4, false)] : List (Nat × Bool)).lookup c)
def isi_str : Ty → Option Bool
  | .bi n => (([("NoneType", false), ("bool", false), ("int", false), ("str", true), ("list", false), ("tuple", false)] : List (String × Bool)).lookup n)
  | .own c => (([(4, false)] : List (Nat × Bool)).lookup c)
def isi_tuple : Ty → Option Bool
  | .bi n => (([("NoneType", false), ("bool", false), ("int", false), ("str", false), ("list", false), ("tuple", true)] : List (String × Bool)).lookup n)
  | .own c => (([(4, false)] : List (Nat × Bool)).lookup c)
def FILE : Str := "/claim/cut.py"
def tabf_code : List Nat := [1, 3]
def fx_code (c : Nat) : Bool := tabf_code.contains c
def tabf_given : List Nat := [1]
def fx_given (c : Nat) : Bool := tabf_given.contains c
def tabt : List (Nat × Bool) := [(1, true), (3, true)]
def mtt (c : Nat) : Option Bool := tabt.lookup c
def propB (K : PySem.W.Frag) (C : Addr) (f : Str) : Bool := decide (PySem.W.findIn K (.ref C) f = some (some (.ref (He.ma K C f)))) && (decide (PySem.W.specialIn K (.ref (He.ma K C f)) "__get__" = some (some (.builtin "property.__get__"))) && (decide (PySem.W.takesIn K (.ref (He.ma K C f)) = some true) && (match PySem.W.recIn K (He.ma K C f) "property" with
  | some (.ref _ :: _) => true
  | _ => false)))
theorem prop_ok {K : PySem.W.Frag} {C : Addr} {f : Str} (h : propB K C f = true) : PropOf K C f (He.ma K C f) (pga K (He.ma K C f)) := by
  unfold propB at h
  rw [Bool.and_eq_true, Bool.and_eq_true, Bool.and_eq_true] at h
  obtain ⟨h1, h2, h3, h4⟩ := h
  refine ⟨of_decide_eq_true h1, of_decide_eq_true h2, of_decide_eq_true h3, ?_⟩
  unfold pga
  split at h4
  · rename_i g r e
    exact ⟨r, by rw [e]⟩
  · cases h4
def specB (K : PySem.W.Frag) (C : Addr) (f : Str) : Bool := decide (PySem.W.findIn K (.ref C) f = some (some (.ref (He.ma K C f)))) && PySem.W.isFn K (.ref (He.ma K C f))
theorem spec_ok {K : PySem.W.Frag} {C : Addr} {f : Str} (h : specB K C f = true) : PySem.W.findIn K (.ref C) f = some (some (.ref (He.ma K C f))) ∧ PySem.W.isFn K (.ref (He.ma K C f)) = true := by
  unfold specB at h
  rw [Bool.and_eq_true] at h
  exact ⟨of_decide_eq_true h.1, h.2⟩
def iscB (K : PySem.W.Frag) (C : Addr) : Bool := decide (PySem.W.findIn K (.ref C) "__class__" = some (some (.builtin "object.__class__"))) && (decide (PySem.W.specialIn K (.builtin "object.__class__") "__get__" = some (some (.builtin "getset_descriptor.__get__"))) && (decide (PySem.W.takesIn K (.builtin "object.__class__") = some true) && decide (PySem.W.mroIn K C (.type "object") = some true)))
theorem isc_ok {K : PySem.W.Frag} {c : Nat} {x : Str} (h0 : (He.Fa.cls x).ok K = true) (h : iscB K (He.ga K x) = true) (e : (pg0 K).cA c = He.ga K x := by rfl) : IsC (pg0 K) K c := by
  unfold iscB at h
  rw [Bool.and_eq_true, Bool.and_eq_true, Bool.and_eq_true] at h
  obtain ⟨h1, h2, h3, h4⟩ := h
  exact ⟨by rw [e]; exact He.cls_ok h0, by rw [e]; exact of_decide_eq_true h1, of_decide_eq_true h2, of_decide_eq_true h3, by rw [e]; exact of_decide_eq_true h4⟩
theorem iscL {K : PySem.W.Frag} {lm : Nat → Addr → Addr → Option Xq.LF} {c : Nat} (h : IsC (pg0 K) K c) : IsC (pg K lm) K c := ⟨h.cl, h.ha, h.hn, h.hk, h.hm⟩
def facts (K : PySem.W.Frag) : List Bool := [
  decide (PySem.W.nsIn K mainGlobals "gcd" = some (some (.builtin "math.gcd"))),
  (He.Fa.cls "Ratio").ok K,
  (tabf_code.all fun c => excCB K (cAd K c) && decide (PySem.W.findIn K (.ref (cAd K c)) "code" = some none)),
  (tabf_given.all fun c => excCB K (cAd K c) && decide (PySem.W.findIn K (.ref (cAd K c)) "given" = some none)),
  (He.Fa.glo "GustError").ok K,
  (He.Fa.glo "InvalidRatio").ok K,
  (He.Fa.glo "Missing").ok K,
  (He.Fa.glo "NothingLeft").ok K,
  (He.Fa.glo "Ratio").ok K,
  (He.Fa.glo "_law_fields").ok K,
  (He.Fa.glo "_law_frac").ok K,
  (He.Fa.glo "_law_gcd").ok K,
  (He.Fa.glo "_law_pick").ok K,
  (He.Fa.glo "_law_pull").ok K,
  (He.Fa.glo "_law_same").ok K,
  (He.Fa.glo "_law_sort").ok K,
  (He.Fa.glo "_law_start").ok K,
  (He.Fa.glo "_law_stray").ok K,
  (He.Fa.glo "_law_text").ok K,
  (He.Fa.glo "_law_try").ok K,
  (He.Fa.glo "digits").ok K,
  (He.Fa.glo "is_number").ok K,
  (He.Fa.glo "law").ok K,
  (He.Fa.int "CHUNK" 64).ok K,
  (He.Fa.int "CHUNK_LIMIT" 10000000000000000000000000000000000000000000000000000000000000000).ok K,
  (He.Fa.cls "Ratio").ok K,
  iscB K (He.ga K "Ratio"),
  PySem.W.keepIn K (.ref (He.ga K "_law_fields")),
  PySem.W.keepIn K (.ref (He.ga K "_law_frac")),
  PySem.W.keepIn K (.ref (He.ga K "_law_gcd")),
  PySem.W.keepIn K (.ref (He.ga K "_law_pick")),
  PySem.W.keepIn K (.ref (He.ga K "_law_pull")),
  PySem.W.keepIn K (.ref (He.ga K "_law_same")),
  PySem.W.keepIn K (.ref (He.ga K "_law_sort")),
  PySem.W.keepIn K (.ref (He.ga K "_law_start")),
  PySem.W.keepIn K (.ref (He.ga K "_law_stray")),
  PySem.W.keepIn K (.ref (He.ga K "_law_text")),
  PySem.W.keepIn K (.ref (He.ga K "_law_try")),
  PySem.W.keepIn K (.ref (He.ga K "digits")),
  PySem.W.keepIn K (.ref (He.ga K "is_number")),
  (He.Fa.mkr "Ratio").ok K,
  (tabt.all fun q => decide (PySem.W.exmAny K (.ref (cAd K q.1)) [.ref (He.ga K "GustError"), .ref (He.ga K "Missing"), .ref (He.ga K "NothingLeft")] = some q.2)),
  (He.Fa.noat "Ratio" "_bottom").ok K,
  (He.Fa.noat "Ratio" "_top").ok K,
  neB K (He.ga K "Ratio"),
  propB K (He.ga K "Ratio") "bottom",
  propB K (He.ga K "Ratio") "top",
  specB K (He.ga K "Ratio") "__bool__",
  specB K (He.ga K "Ratio") "__eq__",
  specB K (He.ga K "Ratio") "__repr__",
  specB K (He.ga K "Ratio") "__str__",
  decide (PySem.W.takerIn K (He.ga K "InvalidRatio") "code" = some none),
  decide (PySem.W.takerIn K (He.ga K "InvalidRatio") "given" = some none),
  xcB K (He.ga K "InvalidRatio") "ValueError" "ValueError.__new__" "ValueError.__init__" [.type "ValueError", .type "Exception", .type "BaseException", .type "object"],
  xiB K (He.ma K (He.ga K "InvalidRatio") "__init__") (He.ga K "InvalidRatio") FILE,
  (He.Fa.free "abs").ok K,
  (He.Fa.free "all").ok K,
  (He.Fa.free "bool").ok K,
  (He.Fa.free "divmod").ok K,
  (He.Fa.free "int").ok K,
  (He.Fa.free "isinstance").ok K,
  (He.Fa.free "len").ok K,
  (He.Fa.free "list").ok K,
  (He.Fa.free "range").ok K,
  (He.Fa.free "repr").ok K,
  (He.Fa.free "str").ok K,
  (He.Fa.free "super").ok K,
  (He.Fa.free "tuple").ok K,
  (He.Fa.free "zip").ok K,
  decide (PySem.W.kitOne K (.type "NoneType") (.ref (He.ga K "Ratio")) = some false),
  decide (PySem.W.kitOne K (.type "bool") (.ref (He.ga K "Ratio")) = some false),
  decide (PySem.W.kitOne K (.type "int") (.ref (He.ga K "Ratio")) = some false),
  decide (PySem.W.kitOne K (.type "str") (.ref (He.ga K "Ratio")) = some false),
  decide (PySem.W.kitOne K (.type "list") (.ref (He.ga K "Ratio")) = some false),
  decide (PySem.W.kitOne K (.type "tuple") (.ref (He.ga K "Ratio")) = some false),
  decide (PySem.W.kitOne K (.ref (He.ga K "Ratio")) (.ref (He.ga K "Ratio")) = some true),
  decide (PySem.W.kitOne K (.type "NoneType") (.type "bool") = some false),
  decide (PySem.W.kitOne K (.type "bool") (.type "bool") = some true),
  decide (PySem.W.kitOne K (.type "int") (.type "bool") = some false),
  decide (PySem.W.kitOne K (.type "str") (.type "bool") = some false),
  decide (PySem.W.kitOne K (.type "list") (.type "bool") = some false),
  decide (PySem.W.kitOne K (.type "tuple") (.type "bool") = some false),
  decide (PySem.W.kitOne K (.ref (He.ga K "Ratio")) (.type "bool") = some false),
  decide (PySem.W.kitOne K (.type "NoneType") (.type "int") = some false),
  decide (PySem.W.kitOne K (.type "bool") (.type "int") = some true),
  decide (PySem.W.kitOne K (.type "int") (.type "int") = some true),
  decide (PySem.W.kitOne K (.type "str") (.type "int") = some false),
  decide (PySem.W.kitOne K (.type "list") (.type "int") = some false),
  decide (PySem.W.kitOne K (.type "tuple") (.type "int") = some false),
  decide (PySem.W.kitOne K (.ref (He.ga K "Ratio")) (.type "int") = some false),
  decide (PySem.W.kitOne K (.type "NoneType") (.type "list") = some false),
  decide (PySem.W.kitOne K (.type "bool") (.type "list") = some false),
  decide (PySem.W.kitOne K (.type "int") (.type "list") = some false),
  decide (PySem.W.kitOne K (.type "str") (.type "list") = some false),
  decide (PySem.W.kitOne K (.type "list") (.type "list") = some true),
  decide (PySem.W.kitOne K (.type "tuple") (.type "list") = some false),
  decide (PySem.W.kitOne K (.ref (He.ga K "Ratio")) (.type "list") = some false),
  decide (PySem.W.kitOne K (.type "NoneType") (.type "str") = some false),
  decide (PySem.W.kitOne K (.type "bool") (.type "str") = some false),
  decide (PySem.W.kitOne K (.type "int") (.type "str") = some false),
  decide (PySem.W.kitOne K (.type "str") (.type "str") = some true),
  decide (PySem.W.kitOne K (.type "list") (.type "str") = some false),
  decide (PySem.W.kitOne K (.type "tuple") (.type "str") = some false),
  decide (PySem.W.kitOne K (.ref (He.ga K "Ratio")) (.type "str") = some false),
  decide (PySem.W.kitOne K (.type "NoneType") (.type "tuple") = some false),
  decide (PySem.W.kitOne K (.type "bool") (.type "tuple") = some false),
  decide (PySem.W.kitOne K (.type "int") (.type "tuple") = some false),
  decide (PySem.W.kitOne K (.type "str") (.type "tuple") = some false),
  decide (PySem.W.kitOne K (.type "list") (.type "tuple") = some false),
  decide (PySem.W.kitOne K (.type "tuple") (.type "tuple") = some true),
  decide (PySem.W.kitOne K (.ref (He.ga K "Ratio")) (.type "tuple") = some false)]
def ex (K : PySem.W.Frag) : Bool := (facts K).all id
structure Tx (K : PySem.W.Frag) (mg : Str → Option Value) : Prop where
  b_gcd : mg "gcd" = some (.builtin "math.gcd")
  cl_Ratio : Cls K (He.ga K "Ratio")
  fxb_code : (tabf_code.all fun c => excCB K (cAd K c) && decide (PySem.W.findIn K (.ref (cAd K c)) "code" = some none)) = true
  fxb_given : (tabf_given.all fun c => excCB K (cAd K c) && decide (PySem.W.findIn K (.ref (cAd K c)) "given" = some none)) = true
  g_GustError : mg "GustError" = some (.ref (He.ga K "GustError"))
  g_InvalidRatio : mg "InvalidRatio" = some (.ref (He.ga K "InvalidRatio"))
  g_Missing : mg "Missing" = some (.ref (He.ga K "Missing"))
  g_NothingLeft : mg "NothingLeft" = some (.ref (He.ga K "NothingLeft"))
  g_Ratio : mg "Ratio" = some (.ref (He.ga K "Ratio"))
  g__law_fields : mg "_law_fields" = some (.ref (He.ga K "_law_fields"))
  g__law_frac : mg "_law_frac" = some (.ref (He.ga K "_law_frac"))
  g__law_gcd : mg "_law_gcd" = some (.ref (He.ga K "_law_gcd"))
  g__law_pick : mg "_law_pick" = some (.ref (He.ga K "_law_pick"))
  g__law_pull : mg "_law_pull" = some (.ref (He.ga K "_law_pull"))
  g__law_same : mg "_law_same" = some (.ref (He.ga K "_law_same"))
  g__law_sort : mg "_law_sort" = some (.ref (He.ga K "_law_sort"))
  g__law_start : mg "_law_start" = some (.ref (He.ga K "_law_start"))
  g__law_stray : mg "_law_stray" = some (.ref (He.ga K "_law_stray"))
  g__law_text : mg "_law_text" = some (.ref (He.ga K "_law_text"))
  g__law_try : mg "_law_try" = some (.ref (He.ga K "_law_try"))
  g_digits : mg "digits" = some (.ref (He.ga K "digits"))
  g_is_number : mg "is_number" = some (.ref (He.ga K "is_number"))
  g_law : mg "law" = some (.ref (He.ga K "law"))
  i_CHUNK : ∃ t, mg "CHUNK" = some (.int 64 t)
  i_CHUNK_LIMIT : ∃ t, mg "CHUNK_LIMIT" = some (.int 10000000000000000000000000000000000000000000000000000000000000000 t)
  is_Ratio : IsC (pg0 K) K 4
  k__law_fields : PySem.W.keepIn K (.ref (He.ga K "_law_fields")) = true
  k__law_frac : PySem.W.keepIn K (.ref (He.ga K "_law_frac")) = true
  k__law_gcd : PySem.W.keepIn K (.ref (He.ga K "_law_gcd")) = true
  k__law_pick : PySem.W.keepIn K (.ref (He.ga K "_law_pick")) = true
  k__law_pull : PySem.W.keepIn K (.ref (He.ga K "_law_pull")) = true
  k__law_same : PySem.W.keepIn K (.ref (He.ga K "_law_same")) = true
  k__law_sort : PySem.W.keepIn K (.ref (He.ga K "_law_sort")) = true
  k__law_start : PySem.W.keepIn K (.ref (He.ga K "_law_start")) = true
  k__law_stray : PySem.W.keepIn K (.ref (He.ga K "_law_stray")) = true
  k__law_text : PySem.W.keepIn K (.ref (He.ga K "_law_text")) = true
  k__law_try : PySem.W.keepIn K (.ref (He.ga K "_law_try")) = true
  k_digits : PySem.W.keepIn K (.ref (He.ga K "digits")) = true
  k_is_number : PySem.W.keepIn K (.ref (He.ga K "is_number")) = true
  mk_Ratio : Mk K (He.ga K "Ratio") (He.ma K (He.ga K "Ratio") "__init__")
  mtb : (tabt.all fun q => decide (PySem.W.exmAny K (.ref (cAd K q.1)) [.ref (He.ga K "GustError"), .ref (He.ga K "Missing"), .ref (He.ga K "NothingLeft")] = some q.2)) = true
  na_Ratio__bottom : NoAttr K (He.ga K "Ratio") "_bottom"
  na_Ratio__top : NoAttr K (He.ga K "Ratio") "_top"
  ne_Ratio : PySem.W.findIn K (.ref (He.ga K "Ratio")) "__ne__" = some (some (.builtin "object.__ne__")) ∧ PySem.W.mroIn K (He.ga K "Ratio") (.type "object") = some true
  pr_Ratio_bottom : PropOf K (He.ga K "Ratio") "bottom" (He.ma K (He.ga K "Ratio") "bottom") (pga K (He.ma K (He.ga K "Ratio") "bottom"))
  pr_Ratio_top : PropOf K (He.ga K "Ratio") "top" (He.ma K (He.ga K "Ratio") "top") (pga K (He.ma K (He.ga K "Ratio") "top"))
  sp_Ratio_bool : PySem.W.findIn K (.ref (He.ga K "Ratio")) "__bool__" = some (some (.ref (He.ma K (He.ga K "Ratio") "__bool__"))) ∧ PySem.W.isFn K (.ref (He.ma K (He.ga K "Ratio") "__bool__")) = true
  sp_Ratio_eq : PySem.W.findIn K (.ref (He.ga K "Ratio")) "__eq__" = some (some (.ref (He.ma K (He.ga K "Ratio") "__eq__"))) ∧ PySem.W.isFn K (.ref (He.ma K (He.ga K "Ratio") "__eq__")) = true
  sp_Ratio_repr : PySem.W.findIn K (.ref (He.ga K "Ratio")) "__repr__" = some (some (.ref (He.ma K (He.ga K "Ratio") "__repr__"))) ∧ PySem.W.isFn K (.ref (He.ma K (He.ga K "Ratio") "__repr__")) = true
  sp_Ratio_str : PySem.W.findIn K (.ref (He.ga K "Ratio")) "__str__" = some (some (.ref (He.ma K (He.ga K "Ratio") "__str__"))) ∧ PySem.W.isFn K (.ref (He.ma K (He.ga K "Ratio") "__str__")) = true
  tk_InvalidRatio_code : PySem.W.takerIn K (He.ga K "InvalidRatio") "code" = some none
  tk_InvalidRatio_given : PySem.W.takerIn K (He.ga K "InvalidRatio") "given" = some none
  xc_InvalidRatio : Xq.XC K (He.ga K "InvalidRatio") "ValueError" "ValueError.__new__" "ValueError.__init__" [.type "ValueError", .type "Exception", .type "BaseException", .type "object"]
  xi_InvalidRatio : xiB K (He.ma K (He.ga K "InvalidRatio") "__init__") (He.ga K "InvalidRatio") FILE = true
  z_abs : mg "abs" = none
  z_all : mg "all" = none
  z_bool : mg "bool" = none
  z_divmod : mg "divmod" = none
  z_int : mg "int" = none
  z_isinstance : mg "isinstance" = none
  z_len : mg "len" = none
  z_list : mg "list" = none
  z_range : mg "range" = none
  z_repr : mg "repr" = none
  z_str : mg "str" = none
  z_super : mg "super" = none
  z_tuple : mg "tuple" = none
  z_zip : mg "zip" = none
  ki_Ratio_NoneType : PySem.W.kitOne K (.type "NoneType") (.ref (He.ga K "Ratio")) = some false
  ki_Ratio_bool : PySem.W.kitOne K (.type "bool") (.ref (He.ga K "Ratio")) = some false
  ki_Ratio_int : PySem.W.kitOne K (.type "int") (.ref (He.ga K "Ratio")) = some false
  ki_Ratio_str : PySem.W.kitOne K (.type "str") (.ref (He.ga K "Ratio")) = some false
  ki_Ratio_list : PySem.W.kitOne K (.type "list") (.ref (He.ga K "Ratio")) = some false
  ki_Ratio_tuple : PySem.W.kitOne K (.type "tuple") (.ref (He.ga K "Ratio")) = some false
  ki_Ratio_Ratio : PySem.W.kitOne K (.ref (He.ga K "Ratio")) (.ref (He.ga K "Ratio")) = some true
  ki_bool_NoneType : PySem.W.kitOne K (.type "NoneType") (.type "bool") = some false
  ki_bool_bool : PySem.W.kitOne K (.type "bool") (.type "bool") = some true
  ki_bool_int : PySem.W.kitOne K (.type "int") (.type "bool") = some false
  ki_bool_str : PySem.W.kitOne K (.type "str") (.type "bool") = some false
  ki_bool_list : PySem.W.kitOne K (.type "list") (.type "bool") = some false
  ki_bool_tuple : PySem.W.kitOne K (.type "tuple") (.type "bool") = some false
  ki_bool_Ratio : PySem.W.kitOne K (.ref (He.ga K "Ratio")) (.type "bool") = some false
  ki_int_NoneType : PySem.W.kitOne K (.type "NoneType") (.type "int") = some false
  ki_int_bool : PySem.W.kitOne K (.type "bool") (.type "int") = some true
  ki_int_int : PySem.W.kitOne K (.type "int") (.type "int") = some true
  ki_int_str : PySem.W.kitOne K (.type "str") (.type "int") = some false
  ki_int_list : PySem.W.kitOne K (.type "list") (.type "int") = some false
  ki_int_tuple : PySem.W.kitOne K (.type "tuple") (.type "int") = some false
  ki_int_Ratio : PySem.W.kitOne K (.ref (He.ga K "Ratio")) (.type "int") = some false
  ki_list_NoneType : PySem.W.kitOne K (.type "NoneType") (.type "list") = some false
  ki_list_bool : PySem.W.kitOne K (.type "bool") (.type "list") = some false
  ki_list_int : PySem.W.kitOne K (.type "int") (.type "list") = some false
  ki_list_str : PySem.W.kitOne K (.type "str") (.type "list") = some false
  ki_list_list : PySem.W.kitOne K (.type "list") (.type "list") = some true
  ki_list_tuple : PySem.W.kitOne K (.type "tuple") (.type "list") = some false
  ki_list_Ratio : PySem.W.kitOne K (.ref (He.ga K "Ratio")) (.type "list") = some false
  ki_str_NoneType : PySem.W.kitOne K (.type "NoneType") (.type "str") = some false
  ki_str_bool : PySem.W.kitOne K (.type "bool") (.type "str") = some false
  ki_str_int : PySem.W.kitOne K (.type "int") (.type "str") = some false
  ki_str_str : PySem.W.kitOne K (.type "str") (.type "str") = some true
  ki_str_list : PySem.W.kitOne K (.type "list") (.type "str") = some false
  ki_str_tuple : PySem.W.kitOne K (.type "tuple") (.type "str") = some false
  ki_str_Ratio : PySem.W.kitOne K (.ref (He.ga K "Ratio")) (.type "str") = some false
  ki_tuple_NoneType : PySem.W.kitOne K (.type "NoneType") (.type "tuple") = some false
  ki_tuple_bool : PySem.W.kitOne K (.type "bool") (.type "tuple") = some false
  ki_tuple_int : PySem.W.kitOne K (.type "int") (.type "tuple") = some false
  ki_tuple_str : PySem.W.kitOne K (.type "str") (.type "tuple") = some false
  ki_tuple_list : PySem.W.kitOne K (.type "list") (.type "tuple") = some false
  ki_tuple_tuple : PySem.W.kitOne K (.type "tuple") (.type "tuple") = some true
  ki_tuple_Ratio : PySem.W.kitOne K (.ref (He.ga K "Ratio")) (.type "tuple") = some false
theorem fa_ {K : PySem.W.Frag} (h : ex K = true) (i : Nat) {b : Bool} (e : (facts K)[i]? = some b) : b = true := List.all_eq_true.mp h b (List.mem_of_getElem? e)
theorem tx {K : PySem.W.Frag} {h : Heap} {mg : Str → Option Value} (X : K.In h) (G : h.Ns mainGlobals mg) (c : ex K = true) : Tx K mg := by
  have fa : ∀ (i : Nat) {b : Bool} (e : (facts K)[i]? = some b := by rfl), b = true := fun i b e => fa_ c i e
  exact {
    b_gcd := PySem.W.mg_of X G (of_decide_eq_true (fa 0))
    cl_Ratio := He.cls_ok (fa 1)
    fxb_code := fa 2
    fxb_given := fa 3
    g_GustError := He.glo_ok X G (fa 4)
    g_InvalidRatio := He.glo_ok X G (fa 5)
    g_Missing := He.glo_ok X G (fa 6)
    g_NothingLeft := He.glo_ok X G (fa 7)
    g_Ratio := He.glo_ok X G (fa 8)
    g__law_fields := He.glo_ok X G (fa 9)
    g__law_frac := He.glo_ok X G (fa 10)
    g__law_gcd := He.glo_ok X G (fa 11)
    g__law_pick := He.glo_ok X G (fa 12)
    g__law_pull := He.glo_ok X G (fa 13)
    g__law_same := He.glo_ok X G (fa 14)
    g__law_sort := He.glo_ok X G (fa 15)
    g__law_start := He.glo_ok X G (fa 16)
    g__law_stray := He.glo_ok X G (fa 17)
    g__law_text := He.glo_ok X G (fa 18)
    g__law_try := He.glo_ok X G (fa 19)
    g_digits := He.glo_ok X G (fa 20)
    g_is_number := He.glo_ok X G (fa 21)
    g_law := He.glo_ok X G (fa 22)
    i_CHUNK := He.int_ok X G (fa 23)
    i_CHUNK_LIMIT := He.int_ok X G (fa 24)
    is_Ratio := isc_ok (c := 4) (fa 25) (fa 26)
    k__law_fields := fa 27
    k__law_frac := fa 28
    k__law_gcd := fa 29
    k__law_pick := fa 30
    k__law_pull := fa 31
    k__law_same := fa 32
    k__law_sort := fa 33
    k__law_start := fa 34
    k__law_stray := fa 35
    k__law_text := fa 36
    k__law_try := fa 37
    k_digits := fa 38
    k_is_number := fa 39
    mk_Ratio := He.mkr_ok (fa 40)
    mtb := fa 41
    na_Ratio__bottom := He.noat_ok (fa 42)
    na_Ratio__top := He.noat_ok (fa 43)
    ne_Ratio := ne_ok (fa 44)
    pr_Ratio_bottom := prop_ok (fa 45)
    pr_Ratio_top := prop_ok (fa 46)
    sp_Ratio_bool := spec_ok (fa 47)
    sp_Ratio_eq := spec_ok (fa 48)
    sp_Ratio_repr := spec_ok (fa 49)
    sp_Ratio_str := spec_ok (fa 50)
    tk_InvalidRatio_code := of_decide_eq_true (fa 51)
    tk_InvalidRatio_given := of_decide_eq_true (fa 52)
    xc_InvalidRatio := xcB_ok Xq.xbV (fa 53)
    xi_InvalidRatio := fa 54
    z_abs := He.free_ok X G (fa 55)
    z_all := He.free_ok X G (fa 56)
    z_bool := He.free_ok X G (fa 57)
    z_divmod := He.free_ok X G (fa 58)
    z_int := He.free_ok X G (fa 59)
    z_isinstance := He.free_ok X G (fa 60)
    z_len := He.free_ok X G (fa 61)
    z_list := He.free_ok X G (fa 62)
    z_range := He.free_ok X G (fa 63)
    z_repr := He.free_ok X G (fa 64)
    z_str := He.free_ok X G (fa 65)
    z_super := He.free_ok X G (fa 66)
    z_tuple := He.free_ok X G (fa 67)
    z_zip := He.free_ok X G (fa 68)
    ki_Ratio_NoneType := of_decide_eq_true (fa 69)
    ki_Ratio_bool := of_decide_eq_true (fa 70)
    ki_Ratio_int := of_decide_eq_true (fa 71)
    ki_Ratio_str := of_decide_eq_true (fa 72)
    ki_Ratio_list := of_decide_eq_true (fa 73)
    ki_Ratio_tuple := of_decide_eq_true (fa 74)
    ki_Ratio_Ratio := of_decide_eq_true (fa 75)
    ki_bool_NoneType := of_decide_eq_true (fa 76)
    ki_bool_bool := of_decide_eq_true (fa 77)
    ki_bool_int := of_decide_eq_true (fa 78)
    ki_bool_str := of_decide_eq_true (fa 79)
    ki_bool_list := of_decide_eq_true (fa 80)
    ki_bool_tuple := of_decide_eq_true (fa 81)
    ki_bool_Ratio := of_decide_eq_true (fa 82)
    ki_int_NoneType := of_decide_eq_true (fa 83)
    ki_int_bool := of_decide_eq_true (fa 84)
    ki_int_int := of_decide_eq_true (fa 85)
    ki_int_str := of_decide_eq_true (fa 86)
    ki_int_list := of_decide_eq_true (fa 87)
    ki_int_tuple := of_decide_eq_true (fa 88)
    ki_int_Ratio := of_decide_eq_true (fa 89)
    ki_list_NoneType := of_decide_eq_true (fa 90)
    ki_list_bool := of_decide_eq_true (fa 91)
    ki_list_int := of_decide_eq_true (fa 92)
    ki_list_str := of_decide_eq_true (fa 93)
    ki_list_list := of_decide_eq_true (fa 94)
    ki_list_tuple := of_decide_eq_true (fa 95)
    ki_list_Ratio := of_decide_eq_true (fa 96)
    ki_str_NoneType := of_decide_eq_true (fa 97)
    ki_str_bool := of_decide_eq_true (fa 98)
    ki_str_int := of_decide_eq_true (fa 99)
    ki_str_str := of_decide_eq_true (fa 100)
    ki_str_list := of_decide_eq_true (fa 101)
    ki_str_tuple := of_decide_eq_true (fa 102)
    ki_str_Ratio := of_decide_eq_true (fa 103)
    ki_tuple_NoneType := of_decide_eq_true (fa 104)
    ki_tuple_bool := of_decide_eq_true (fa 105)
    ki_tuple_int := of_decide_eq_true (fa 106)
    ki_tuple_str := of_decide_eq_true (fa 107)
    ki_tuple_list := of_decide_eq_true (fa 108)
    ki_tuple_tuple := of_decide_eq_true (fa 109)
    ki_tuple_Ratio := of_decide_eq_true (fa 110)
  }
theorem Tx.fc__top {K : PySem.W.Frag} {mg : Str → Option Value} (T : Tx K mg) : ∀ c, Row.fc__top c = true → Cls K ((pg0 K).cA c) ∧ NoAttr K ((pg0 K).cA c) "_top" := by
  intro c h
  have h := List.elem_iff.mp h
  simp only [List.mem_cons, List.not_mem_nil, or_false] at h
  subst h
  exact ⟨T.cl_Ratio, T.na_Ratio__top⟩
theorem Tx.fc__bottom {K : PySem.W.Frag} {mg : Str → Option Value} (T : Tx K mg) : ∀ c, Row.fc__bottom c = true → Cls K ((pg0 K).cA c) ∧ NoAttr K ((pg0 K).cA c) "_bottom" := by
  intro c h
  have h := List.elem_iff.mp h
  simp only [List.mem_cons, List.not_mem_nil, or_false] at h
  subst h
  exact ⟨T.cl_Ratio, T.na_Ratio__bottom⟩
theorem Tx.isi_Ratio {K : PySem.W.Frag} {mg : Str → Option Value} {lm : Nat → Addr → Addr → Option Xq.LF} (T : Tx K mg) : ∀ t b, Row.isi_Ratio t = some b → PySem.W.kitOne K (t.val (pg K lm)) (.ref (He.ga K "Ratio")) = some b ∧ ∀ c, t = .own c → IsC (pg K lm) K c := by
  intro t b h
  cases t with
  | bi n =>
    refine ⟨?_, fun c z => nomatch z⟩
    obtain h := lookup_mem h
    simp only [List.mem_cons, List.not_mem_nil, or_false, Prod.mk.injEq] at h
    rcases h with ⟨rfl, rfl⟩ | ⟨rfl, rfl⟩ | ⟨rfl, rfl⟩ | ⟨rfl, rfl⟩ | ⟨rfl, rfl⟩ | ⟨rfl, rfl⟩
    · exact T.ki_Ratio_NoneType
    · exact T.ki_Ratio_bool
    · exact T.ki_Ratio_int
    · exact T.ki_Ratio_str
    · exact T.ki_Ratio_list
    · exact T.ki_Ratio_tuple
  | own k =>
    obtain h := lookup_mem h
    simp only [List.mem_cons, List.not_mem_nil, or_false, Prod.mk.injEq] at h
    obtain ⟨rfl, rfl⟩ := h
    exact ⟨T.ki_Ratio_Ratio, fun c z => by cases z; exact iscL T.is_Ratio⟩
theorem Tx.isi_bool {K : PySem.W.Frag} {mg : Str → Option Value} {lm : Nat → Addr → Addr → Option Xq.LF} (T : Tx K mg) : ∀ t b, Row.isi_bool t = some b → PySem.W.kitOne K (t.val (pg K lm)) (.type "bool") = some b ∧ ∀ c, t = .own c → IsC (pg K lm) K c := by
  intro t b h
  cases t with
  | bi n =>
    refine ⟨?_, fun c z => nomatch z⟩
    obtain h := lookup_mem h
    simp only [List.mem_cons, List.not_mem_nil, or_false, Prod.mk.injEq] at h
    rcases h with ⟨rfl, rfl⟩ | ⟨rfl, rfl⟩ | ⟨rfl, rfl⟩ | ⟨rfl, rfl⟩ | ⟨rfl, rfl⟩ | ⟨rfl, rfl⟩
    · exact T.ki_bool_NoneType
    · exact T.ki_bool_bool
    · exact T.ki_bool_int
    · exact T.ki_bool_str
    · exact T.ki_bool_list
    · exact T.ki_bool_tuple
  | own k =>
    obtain h := lookup_mem h
    simp only [List.mem_cons, List.not_mem_nil, or_false, Prod.mk.injEq] at h
    obtain ⟨rfl, rfl⟩ := h
    exact ⟨T.ki_bool_Ratio, fun c z => by cases z; exact iscL T.is_Ratio⟩
theorem Tx.isi_int {K : PySem.W.Frag} {mg : Str → Option Value} {lm : Nat → Addr → Addr → Option Xq.LF} (T : Tx K mg) : ∀ t b, Row.isi_int t = some b → PySem.W.kitOne K (t.val (pg K lm)) (.type "int") = some b ∧ ∀ c, t = .own c → IsC (pg K lm) K c := by
  intro t b h
  cases t with
  | bi n =>
    refine ⟨?_, fun c z => nomatch z⟩
    obtain h := lookup_mem h
    simp only [List.mem_cons, List.not_mem_nil, or_false, Prod.mk.injEq] at h
    rcases h with ⟨rfl, rfl⟩ | ⟨rfl, rfl⟩ | ⟨rfl, rfl⟩ | ⟨rfl, rfl⟩ | ⟨rfl, rfl⟩ | ⟨rfl, rfl⟩
    · exact T.ki_int_NoneType
    · exact T.ki_int_bool
    · exact T.ki_int_int
    · exact T.ki_int_str
    · exact T.ki_int_list
    · exact T.ki_int_tuple
  | own k =>
    obtain h := lookup_mem h
    simp only [List.mem_cons, List.not_mem_nil, or_false, Prod.mk.injEq] at h
    obtain ⟨rfl, rfl⟩ := h
    exact ⟨T.ki_int_Ratio, fun c z => by cases z; exact iscL T.is_Ratio⟩
theorem Tx.isi_list {K : PySem.W.Frag} {mg : Str → Option Value} {lm : Nat → Addr → Addr → Option Xq.LF} (T : Tx K mg) : ∀ t b, Row.isi_list t = some b → PySem.W.kitOne K (t.val (pg K lm)) (.type "list") = some b ∧ ∀ c, t = .own c → IsC (pg K lm) K c := by
  intro t b h
  cases t with
  | bi n =>
    refine ⟨?_, fun c z => nomatch z⟩
    obtain h := lookup_mem h
    simp only [List.mem_cons, List.not_mem_nil, or_false, Prod.mk.injEq] at h
    rcases h with ⟨rfl, rfl⟩ | ⟨rfl, rfl⟩ | ⟨rfl, rfl⟩ | ⟨rfl, rfl⟩ | ⟨rfl, rfl⟩ | ⟨rfl, rfl⟩
    · exact T.ki_list_NoneType
    · exact T.ki_list_bool
    · exact T.ki_list_int
    · exact T.ki_list_str
    · exact T.ki_list_list
    · exact T.ki_list_tuple
  | own k =>
    obtain h := lookup_mem h
    simp only [List.mem_cons, List.not_mem_nil, or_false, Prod.mk.injEq] at h
    obtain ⟨rfl, rfl⟩ := h
    exact ⟨T.ki_list_Ratio, fun c z => by cases z; exact iscL T.is_Ratio⟩
theorem Tx.isi_str {K : PySem.W.Frag} {mg : Str → Option Value} {lm : Nat → Addr → Addr → Option Xq.LF} (T : Tx K mg) : ∀ t b, Row.isi_str t = some b → PySem.W.kitOne K (t.val (pg K lm)) (.type "str") = some b ∧ ∀ c, t = .own c → IsC (pg K lm) K c := by
  intro t b h
  cases t with
  | bi n =>
    refine ⟨?_, fun c z => nomatch z⟩
    obtain h := lookup_mem h
    simp only [List.mem_cons, List.not_mem_nil, or_false, Prod.mk.injEq] at h
    rcases h with ⟨rfl, rfl⟩ | ⟨rfl, rfl⟩ | ⟨rfl, rfl⟩ | ⟨rfl, rfl⟩ | ⟨rfl, rfl⟩ | ⟨rfl, rfl⟩
    · exact T.ki_str_NoneType
    · exact T.ki_str_bool
    · exact T.ki_str_int
    · exact T.ki_str_str
    · exact T.ki_str_list
    · exact T.ki_str_tuple
  | own k =>
    obtain h := lookup_mem h
    simp only [List.mem_cons, List.not_mem_nil, or_false, Prod.mk.injEq] at h
    obtain ⟨rfl, rfl⟩ := h
    exact ⟨T.ki_str_Ratio, fun c z => by cases z; exact iscL T.is_Ratio⟩
theorem Tx.isi_tuple {K : PySem.W.Frag} {mg : Str → Option Value} {lm : Nat → Addr → Addr → Option Xq.LF} (T : Tx K mg) : ∀ t b, Row.isi_tuple t = some b → PySem.W.kitOne K (t.val (pg K lm)) (.type "tuple") = some b ∧ ∀ c, t = .own c → IsC (pg K lm) K c := by
  intro t b h
  cases t with
  | bi n =>
    refine ⟨?_, fun c z => nomatch z⟩
    obtain h := lookup_mem h
    simp only [List.mem_cons, List.not_mem_nil, or_false, Prod.mk.injEq] at h
    rcases h with ⟨rfl, rfl⟩ | ⟨rfl, rfl⟩ | ⟨rfl, rfl⟩ | ⟨rfl, rfl⟩ | ⟨rfl, rfl⟩ | ⟨rfl, rfl⟩
    · exact T.ki_tuple_NoneType
    · exact T.ki_tuple_bool
    · exact T.ki_tuple_int
    · exact T.ki_tuple_str
    · exact T.ki_tuple_list
    · exact T.ki_tuple_tuple
  | own k =>
    obtain h := lookup_mem h
    simp only [List.mem_cons, List.not_mem_nil, or_false, Prod.mk.injEq] at h
    obtain ⟨rfl, rfl⟩ := h
    exact ⟨T.ki_tuple_Ratio, fun c z => by cases z; exact iscL T.is_Ratio⟩
theorem Tx.fx_code {K : PySem.W.Frag} {mg : Str → Option Value} (T : Tx K mg) : ∀ c, Row.fx_code c = true → XfC K ((pg0 K).cA c) ∧ PySem.W.findIn K (.ref ((pg0 K).cA c)) "code" = some none := by
  intro c h
  have z := List.all_eq_true.mp T.fxb_code c (List.elem_iff.mp h)
  rw [Bool.and_eq_true] at z
  exact ⟨Dq.ExcC.xf (excCB_ok z.1), of_decide_eq_true z.2⟩
theorem Tx.fx_given {K : PySem.W.Frag} {mg : Str → Option Value} (T : Tx K mg) : ∀ c, Row.fx_given c = true → XfC K ((pg0 K).cA c) ∧ PySem.W.findIn K (.ref ((pg0 K).cA c)) "given" = some none := by
  intro c h
  have z := List.all_eq_true.mp T.fxb_given c (List.elem_iff.mp h)
  rw [Bool.and_eq_true] at z
  exact ⟨Dq.ExcC.xf (excCB_ok z.1), of_decide_eq_true z.2⟩
theorem Tx.mtt {K : PySem.W.Frag} {mg : Str → Option Value} (T : Tx K mg) : ∀ c b, Row.mtt c = some b → PySem.W.exmAny K (.ref ((pg0 K).cA c)) [.ref (He.ga K "GustError"), .ref (He.ga K "Missing"), .ref (He.ga K "NothingLeft")] = some b := by
  intro c b h
  exact of_decide_eq_true (List.all_eq_true.mp T.mtb (c, b) (lookup_mem h))
section
variable {P : Program} {w : World} {K : PySem.W.Frag} {mg : Str → Option Value} {base : Heap} {lm : Nat → Addr → Addr → Option Xq.LF}
def mix_Ratiodd_initdd_k0_bottom_top : Mix := fun l z => match l, z with
  | [], [k0, k1] => some [k1, k0]
  | _, _ => none
def bl_InvalidRatio_p1 : List V → List V → List (Str × V) := fun vs zs => match vs, zs with
  | [a0], [] => [("code", .str "InvalidRatio"), ("given", a0)]
  | _, _ => []
def mxe_InvalidRatio_p1 : MixE := fun l z => match l, z with
  | [a0], [] => some ([3, 2], [.str "InvalidRatio", a0])
  | _, _ => none
theorem exd_InvalidRatio_p1 : ExD (pg K lm) 1 ([] : List Str).length bl_InvalidRatio_p1 mxe_InvalidRatio_p1 := ⟨fun F μ l z ks xs vs zs r1 r2 h => by
  unfold mxe_InvalidRatio_p1 at h
  split at h
  · cases h
    cases r1 with
    | cons p0 pt0 =>
      cases pt0
      cases r2
      exact ⟨rfl, rfl, rfl, .cons (.str _) (.cons p0 (.nil))⟩
  · cases h⟩
abbrev s_InvalidRatiodd_initdd_xInvalidRatio_p1 : Stmt := inClass (top 4) 0
theorem okx_InvalidRatio_p1 (T : Tx K mg) (F : FunX P K (He.ga K "InvalidRatio") (He.ma K (He.ga K "InvalidRatio") "__init__") "InvalidRatio.__init__" (defArgs s_InvalidRatiodd_initdd_xInvalidRatio_p1) (defBody s_InvalidRatiodd_initdd_xInvalidRatio_p1) (defScope s_InvalidRatiodd_initdd_xInvalidRatio_p1)) : OkE (pg K lm) P w mg base 1 1 ([] : List Str) bl_InvalidRatio_p1 := ⟨fun X e hr => by
  obtain ⟨e1, e2, e3, e4, e5⟩ := e
  have e3 : X.K = K := e3
  subst e1 e2 e3 e4 e5
  obtain ⟨kV, doc, pm, an, cda, ct, cc, z, hcd⟩ := F.ex
  refine Xq.mkX_of (k := 0) (n := 1) (ps := (["given"] : List Str)) (pm' := fun us ws => match us, ws with | [a0], [] => [a0] | _, _ => []) T.xc_InvalidRatio z ⟨rfl, rfl, rfl, rfl, rfl, rfl, by decide +kernel⟩ ⟨fun env h => by cases env; cases h; exact ⟨_, rfl⟩, fun env h => by cases env; cases h; rfl, fun env h => by cases env; cases h; rfl⟩ hcd F.init F.fn hr rfl rfl T.z_super
    (fun us ws h1 h2 e => match us, ws, h1, h2 with | [_], [], _, _ => rfl) (by decide +kernel) ?_ (by decide)
  intro us ws vs zs r1 r2 h1 h2 e env he
  cases env
  cases he
  cases r1 with
  | nil => cases h1
  | cons p0 pt0 =>
    cases pt0 with
    | cons _ _ => cases h1
    | nil =>
      cases r2 with
      | cons _ _ => cases h2
      | nil =>
        refine ⟨_, rfl, ?_, ?_, ?_, .cons (.var (by rfl) p0 rfl rfl rfl) (.cons (.con rfl) (.nil))⟩
        · simp
        · simp
        · intro p hp
          simp only [List.mem_cons, List.not_mem_nil, or_false] at hp
          rcases hp with rfl | rfl
          · exact T.tk_InvalidRatio_given
          · exact T.tk_InvalidRatio_code⟩
theorem okr_InvalidRatio_p1 (T : Tx K mg) (F : FunX P K (He.ga K "InvalidRatio") (He.ma K (He.ga K "InvalidRatio") "__init__") "InvalidRatio.__init__" (defArgs s_InvalidRatiodd_initdd_xInvalidRatio_p1) (defBody s_InvalidRatiodd_initdd_xInvalidRatio_p1) (defScope s_InvalidRatiodd_initdd_xInvalidRatio_p1)) : OkR (pg K lm) P w mg base 1 1 ([] : List Str) bl_InvalidRatio_p1 := ⟨fun X e hr => by
  obtain ⟨e1, e2, e3, e4, e5⟩ := e
  have e3 : X.K = K := e3
  subst e1 e2 e3 e4 e5
  obtain ⟨kV, doc, pm, an, cda, ct, cc, z, hcd⟩ := F.ex
  refine Xq.mkR_of (k := 0) (n := 1) (ps := (["given"] : List Str)) (pm' := fun us ws => match us, ws with | [a0], [] => [a0] | _, _ => []) T.xc_InvalidRatio z ⟨rfl, rfl, rfl, rfl, rfl, rfl, by decide +kernel⟩ ⟨fun env h => by cases env; cases h; exact ⟨_, rfl⟩, fun env h => by cases env; cases h; rfl, fun env h => by cases env; cases h; rfl⟩ hcd F.init F.fn hr rfl rfl T.z_super
    (fun us ws h1 h2 e => match us, ws, h1, h2 with | [_], [], _, _ => rfl) (by decide +kernel) ?_ (by decide)
  intro us ws vs zs r1 r2 h1 h2 e env he
  cases env
  cases he
  cases r1 with
  | nil => cases h1
  | cons p0 pt0 =>
    cases pt0 with
    | cons _ _ => cases h1
    | nil =>
      cases r2 with
      | cons _ _ => cases h2
      | nil =>
        refine ⟨_, rfl, ?_, ?_, ?_, .cons (.var (by rfl) p0 rfl rfl rfl) (.cons (.con rfl) (.nil))⟩
        · simp
        · simp
        · intro p hp
          simp only [List.mem_cons, List.not_mem_nil, or_false] at hp
          rcases hp with rfl | rfl
          · exact T.tk_InvalidRatio_given
          · exact T.tk_InvalidRatio_code, T.xc_InvalidRatio.exC, T.xc_InvalidRatio.tyC⟩
/-! #### _law_sort (level 1) -/
abbrev s_law_sort : Stmt := top 22
theorem sc_law_sort : FnScope (["_law_thing", "_law_marks"] : List Str) (["_law_thing"] : List Str) (defScope s_law_sort) := ⟨rfl, rfl, rfl, by decide +kernel, rfl, by decide +kernel, by decide +kernel⟩
def b_law_sort (L : Nat) : GS :=
 (gSeq (gSet 1 (gLst (gCons (gBin (isD false) (gVar 0) (gC .non)) (gCons (gUn (isiD isi_bool) (gVar 0)) (gCons (gUn (isiD isi_int) (gVar 0)) (gCons (gUn (isiD isi_str) (gVar 0)) gNil))))))
 (gSeq (gSet 1 (gBin addD (gVar 1) (gLst (gCons (gUn (isiD isi_list) (gVar 0)) (gCons (gUn (isiD isi_tuple) (gVar 0)) (gCons (gC (.bl true)) gNil))))))
 (gRet (gIdx (gVar 1) (gC (.bl true))))))
def m_law_sort (L : Nat) : List DV → Sto → R DV := run 2 1 (b_law_sort L)
theorem fn_law_sort (L : Nat) (T : Tx K mg) {fd : FuncData} (F : FunD K "_law_sort" "_law_sort" (defArgs s_law_sort) (defBody s_law_sort) (defScope s_law_sort) [] [] (He.ga K "_law_sort") fd) : FnOk P w K mg base CX0 1 (He.ga K "_law_sort") fd (["_law_thing"] : List Str) (spD (pg K lm) We0 1 (m_law_sort L)) := by
  have S := sc_law_sort
  refine def0' (p := pg K lm) (k := 0) (nN := 2) (n := 1) (b := b_law_sort L) (m := m_law_sort L) F S rfl rfl (by decide) rfl (fun cdv A outer s H E hr => ?_)
  exact (bcons (sset 1 S.nd (Or.inl rfl) (qlst (qcons (qcmp opd_is (qv 0) qnon (nomark _)) (qcons (qisi T.z_isinstance rfl (by decide +kernel) (qv 0) (pe_bltn (v := .ty "bool") rfl T.z_bool (by decide +kernel) rfl) (.ty _) rfl T.isi_bool) (qcons (qisi T.z_isinstance rfl (by decide +kernel) (qv 0) (pe_bltn (v := .ty "int") rfl T.z_int (by decide +kernel) rfl) (.ty _) rfl T.isi_int) (qcons (qisi T.z_isinstance rfl (by decide +kernel) (qv 0) (pe_bltn (v := .ty "str") rfl T.z_str (by decide +kernel) rfl) (.ty _) rfl T.isi_str) qnil))))))
 (bcons (sset 1 S.nd (Or.inl rfl) (qbin (opd_add rfl) (qv 1) (qlst (qcons (qisi T.z_isinstance rfl (by decide +kernel) (qv 0) (pe_bltn (v := .ty "list") rfl T.z_list (by decide +kernel) rfl) (.ty _) rfl T.isi_list) (qcons (qisi T.z_isinstance rfl (by decide +kernel) (qv 0) (pe_bltn (v := .ty "tuple") rfl T.z_tuple (by decide +kernel) rfl) (.ty _) rfl T.isi_tuple) (qcons qbl qnil))))))
 (bone (sret (qidx (qv 1) qbl)))))
theorem ok_law_sort (L : Nat) (T : Tx K mg) (F : ∃ fd, FunD K "_law_sort" "_law_sort" (defArgs s_law_sort) (defBody s_law_sort) (defScope s_law_sort) [] [] (He.ga K "_law_sort") fd) : OkD (pg K lm) P w mg base 1 (He.ga K "_law_sort") 1 (m_law_sort L) [] :=
  let ⟨fd, F⟩ := F; ⟨⟨fd, _, [], [], rfl, fn_law_sort L T  F, .nil, F.bindsN (fun _ _ _ _ _ _ us hl => match us, hl with | [_], _ => rfl), fun _ _ => .nil⟩, fun ds s h => run_len h⟩
/-! #### _law_same (level 10) -/
abbrev s_law_same : Stmt := top 23
theorem sc_law_same : FnScope (["_law_found", "_law_due", "_law_a", "_law_b"] : List Str) (["_law_found", "_law_due"] : List Str) (defScope s_law_same) := ⟨rfl, rfl, rfl, by decide +kernel, rfl, by decide +kernel, by decide +kernel⟩
def b_law_same (L : Nat) (rec_ : List DV → Sto → R DV) : GS :=
 (gSeq (gIfS (gT truB (gBin neD (gCall (m_law_sort L) [] (gCons (gVar 0) gNil)) (gCall (m_law_sort L) [] (gCons (gVar 1) gNil))))
 (gRet (gC (.bl false)))
 gNext)
 (gSeq (gIfS (gT truB (gBin (inD false) (gCall (m_law_sort L) [] (gCons (gVar 1) gNil)) (gTup (gCons (gC (.int 4)) (gCons (gC (.int 5)) gNil)))))
 (gRet (gAndV (gBin eqD (gB lenD (gCons (gVar 0) gNil)) (gB lenD (gCons (gVar 1) gNil))) (gB allD (gCons (gLz (gCons (gVar 0) (gCons (gVar 1) gNil)) (tTup 2 (tCons (tN 2) (tCons (tN 3) tNil))) [2, 3] gYes (gCall rec_ [] (gCons (gVar 2) (gCons (gVar 3) gNil)))) gNil))))
 gNext)
 (gRet (gBin eqD (gVar 0) (gVar 1)))))
def m_law_same (L : Nat) : Nat → List DV → Sto → R DV
  | 0 => run 4 2 gBad
  | d + 1 => run 4 2 (b_law_same L (m_law_same L d))
theorem fn_law_same (L : Nat) (T : Tx K mg) (o_law_sort : OkD (pg K lm) P w mg base 1 (He.ga K "_law_sort") 1 (m_law_sort L) []) {fd : FuncData} (F : FunD K "_law_same" "_law_same" (defArgs s_law_same) (defBody s_law_same) (defScope s_law_same) [] [] (He.ga K "_law_same") fd) : ∀ d : Nat, FnOk P w K mg base CX0 (2 + d) (He.ga K "_law_same") fd (["_law_found", "_law_due"] : List Str) (spD (pg K lm) We0 2 (m_law_same L d))
  | 0 => def0' (p := pg K lm) (k := 1) (nN := 4) (n := 2) (b := gBad) (m := m_law_same L 0) F sc_law_same rfl rfl (by decide) rfl (fun cdv A outer s H E hr => bnever)
  | d + 1 => by
    have S := sc_law_same
    have o_law_same : OkD (pg K lm) P w mg base (2 + d) (He.ga K "_law_same") 2 (m_law_same L d) [] := ⟨⟨fd, _, [], [], rfl, fn_law_same L T o_law_sort F d, .nil, F.bindsN (fun _ _ _ _ _ _ us hl => match us, hl with | [_, _], _ => rfl), fun _ _ => .nil⟩, fun ds s h => by cases d <;> exact run_len h⟩
    refine def0' (p := pg K lm) (k := 2 + d) (nN := 4) (n := 2) (b := b_law_same L (m_law_same L d)) (m := m_law_same L (d + 1)) F S rfl rfl (by decide) rfl (fun cdv A outer s H E hr => ?_)
    exact (bcons (sif (qtcmp (opd_ne rfl hr.units) (qcall (o_law_sort.c (hr.mono (by omega))) T.g__law_sort T.k__law_sort rfl (qcons (qv 0) qnil)) (qcall (o_law_sort.c (hr.mono (by omega))) T.g__law_sort T.k__law_sort rfl (qcons (qv 1) qnil)) (nomark _))
 (bone (sret qbl))
 bnil)
 (bcons (sif (qtcmp (opd_in rfl) (qcall (o_law_sort.c (hr.mono (by omega))) T.g__law_sort T.k__law_sort rfl (qcons (qv 1) qnil)) (qtup (qcons qint (qcons qint qnil))) (by with_unfolding_all rfl))
 (bone (sret (qand (qcmp (opd_eq rfl hr.units) (qblt (opd_len rfl) T.z_len rfl PySem.boot_len (qcons (qv 0) qnil)) (qblt (opd_len rfl) T.z_len rfl PySem.boot_len (qcons (qv 1) qnil)) (nomark _)) (q1 (qblt (opd_all rfl rfl) T.z_all rfl (by decide +kernel) (qcons (qlz (own := [("_law_a", 2), ("_law_b", 3)]) rfl S.nd T.z_zip (qcons (qv 0) (qcons (qv 1) qnil)) (blkOk_by (show blkC (["_law_found", "_law_due", "_law_a", "_law_b"] : List Str) (defScope s_law_same) _ _ = true from by decide +kernel)) (tgb_pair rfl 2 3) (fun _ _ _ _ _ => gpair 2 3 rfl S.nd (by first | exact Or.inl rfl | exact Or.inr rfl) (by first | exact Or.inl rfl | exact Or.inr rfl)) (fun _ _ _ _ _ => qts_nil) (fun _ _ _ _ _ => (qcall (o_law_same.c (hr.mono (by omega))) T.g__law_same T.k__law_same rfl (qcons (qv 2) (qcons (qv 3) qnil))))) qnil))))))
 bnil)
 (bone (sret (qcmp (opd_eq rfl hr.units) (qv 0) (qv 1) (nomark _))))))
theorem ok_law_same (L : Nat) (T : Tx K mg) (o_law_sort : OkD (pg K lm) P w mg base 1 (He.ga K "_law_sort") 1 (m_law_sort L) []) (F : ∃ fd, FunD K "_law_same" "_law_same" (defArgs s_law_same) (defBody s_law_same) (defScope s_law_same) [] [] (He.ga K "_law_same") fd) : OkD (pg K lm) P w mg base 10 (He.ga K "_law_same") 2 (m_law_same L 8) [] :=
  let ⟨fd, F⟩ := F; ⟨⟨fd, _, [], [], rfl, fn_law_same L T o_law_sort F 8, .nil, F.bindsN (fun _ _ _ _ _ _ us hl => match us, hl with | [_, _], _ => rfl), fun _ _ => .nil⟩, fun ds s h => run_len h⟩
/-! #### _law_fields (level 1) -/
abbrev s_law_fields : Stmt := top 26
theorem sc_law_fields : FnScope (["_law_e"] : List Str) (["_law_e"] : List Str) (defScope s_law_fields) := ⟨rfl, rfl, rfl, by decide +kernel, rfl, by decide +kernel, by decide +kernel⟩
def b_law_fields (L : Nat) : GS :=
 (gSeq (gIfS (gT truB (gBin (inD false) (gUn (atE 3 fx_code) (gVar 0)) (gTup (gCons (gC (.str "InvalidRatio")) (gCons (gC (.str "InvalidSpan")) (gCons (gC (.str "InvalidCount")) (gCons (gC (.str "InvalidLimit")) gNil)))))))
 (gRet (gTup (gCons (gUn (atE 2 fx_given) (gVar 0)) gNil)))
 gNext)
 (gSeq (gIfS (gT truB (gBin (inD false) (gUn (atE 3 fx_code) (gVar 0)) (gTup (gCons (gC (.str "InvalidText")) (gCons (gC (.str "InvalidCorners")) (gCons (gC (.str "InvalidTiles")) (gCons (gC (.str "InvalidDeed")) gNil)))))))
 (gRet (gTup (gCons (gIf (gT truB (gBin eqD (gUn (atE 3 fx_code) (gVar 0)) (gC (.str "InvalidText")))) (gUn (atD 11 (fun _ => none) (fun _ => false)) (gVar 0)) (gIf (gT truB (gBin eqD (gUn (atE 3 fx_code) (gVar 0)) (gC (.str "InvalidDeed")))) (gUn (atD 12 (fun _ => none) (fun _ => false)) (gVar 0)) (gUn (atD 13 (fun _ => none) (fun _ => false)) (gVar 0)))) gNil)))
 gNext)
 (gSeq (gIfS (gT truB (gBin (inD false) (gUn (atE 3 fx_code) (gVar 0)) (gTup (gCons (gC (.str "InvalidName")) (gCons (gC (.str "DuplicateName")) (gCons (gC (.str "UnknownTile")) (gCons (gC (.str "UnknownMark")) gNil)))))))
 (gRet (gTup (gCons (gUn (atD 10 (fun _ => none) (fun _ => false)) (gVar 0)) gNil)))
 gNext)
 (gSeq (gIfS (gT truB (gBin (inD false) (gUn (atE 3 fx_code) (gVar 0)) (gTup (gCons (gC (.str "SplitSide")) (gCons (gC (.str "InvalidWall")) (gCons (gC (.str "MarkedSide")) (gCons (gC (.str "UnknownSide")) gNil)))))))
 (gRet (gTup (gCons (gUn (atD 9 (fun _ => none) (fun _ => false)) (gVar 0)) gNil)))
 gNext)
 (gSeq (gIfS (gT truB (gBin (inD false) (gUn (atE 3 fx_code) (gVar 0)) (gTup (gCons (gC (.str "TooMany")) (gCons (gC (.str "TooFar")) gNil)))))
 (gRet (gTup (gCons (gUn (atD 8 (fun _ => none) (fun _ => false)) (gVar 0)) gNil)))
 gNext)
 (gSeq (gIfS (gT truB (gBin (inD false) (gUn (atE 3 fx_code) (gVar 0)) (gTup (gCons (gC (.str "Overlap")) (gCons (gC (.str "InvalidChord")) (gCons (gC (.str "NotJoined")) gNil))))))
 (gRet (gTup (gCons (gUn (atD 7 (fun _ => none) (fun _ => false)) (gVar 0)) (gCons (gUn (atD 6 (fun _ => none) (fun _ => false)) (gVar 0)) gNil))))
 gNext)
 (gSeq (gIfS (gT truB (gBin (inD false) (gUn (atE 3 fx_code) (gVar 0)) (gTup (gCons (gC (.str "InvalidPlace")) (gCons (gC (.str "InvalidRound")) gNil)))))
 (gRet (gTup (gCons (gUn (atD 5 (fun _ => none) (fun _ => false)) (gVar 0)) gNil)))
 gNext)
 (gRet (gIf (gT truB (gBin eqD (gUn (atE 3 fx_code) (gVar 0)) (gC (.str "LooseCorner")))) (gTup (gCons (gUn (atD 4 (fun _ => none) (fun _ => false)) (gVar 0)) gNil)) (gTup gNil))))))))))
def m_law_fields (L : Nat) : List DV → Sto → R DV := run 1 1 (b_law_fields L)
theorem fnS_law_fields (L : Nat) (T : Tx K mg) (hh : Option (Addr × Nat × Addr)) (aa : Option (Addr × Addr × Str × Hp × List Addr)) {fd : FuncData} (F : FunD K "_law_fields" "_law_fields" (defArgs s_law_fields) (defBody s_law_fields) (defScope s_law_fields) [] [] (He.ga K "_law_fields") fd) : Tq.FnS (modP (pg K lm) hh aa) P w mg base 1 (He.ga K "_law_fields") fd (["_law_e"] : List Str) 1 (m_law_fields L) := by
  have S := sc_law_fields
  refine Tq.fnS_of (p := modP (pg K lm) hh aa) (k := 0) (nN := 1) (n := 1) (b := b_law_fields L) (m := m_law_fields L) F S rfl rfl (by decide) rfl (fun cdv A outer s H y hy hr => ?_)
  have hx : HotX (modP (pg K lm) hh aa) (L2H.cxH CX0 P w K mg base (["_law_e"] : List Str) "_law_fields" (defScope s_law_fields) (He.ga K "_law_fields") cdv A outer s H (fun _ _ _ => False) y).nox := hy.x (List.mem_cons_self ..)
  exact (bcons (sif (qtcmp (opd_in rfl) (qattrE (qv 0) T.fx_code) (qtup (qcons qstr (qcons qstr (qcons qstr (qcons qstr qnil))))) (by with_unfolding_all rfl))
 (bone (sret (qtup (qcons (qattrE (qv 0) T.fx_given) qnil))))
 bnil)
 (bcons (sif (qtcmp (opd_in rfl) (qattrE (qv 0) T.fx_code) (qtup (qcons qstr (qcons qstr (qcons qstr (qcons qstr qnil))))) (by with_unfolding_all rfl))
 (bone (sret (qtup (qcons (qif (qtcmp (opd_eq rfl hr.units) (qattrE (qv 0) T.fx_code) qstr (nomark _)) (qattr (qv 0) (fun c f h => match c, h with | _, h => nomatch h) (fun c h => nomatch h)) (qif (qtcmp (opd_eq rfl hr.units) (qattrE (qv 0) T.fx_code) qstr (nomark _)) (qattr (qv 0) (fun c f h => match c, h with | _, h => nomatch h) (fun c h => nomatch h)) (qattr (qv 0) (fun c f h => match c, h with | _, h => nomatch h) (fun c h => nomatch h)))) qnil))))
 bnil)
 (bcons (sif (qtcmp (opd_in rfl) (qattrE (qv 0) T.fx_code) (qtup (qcons qstr (qcons qstr (qcons qstr (qcons qstr qnil))))) (by with_unfolding_all rfl))
 (bone (sret (qtup (qcons (qattr (qv 0) (fun c f h => match c, h with | _, h => nomatch h) (fun c h => nomatch h)) qnil))))
 bnil)
 (bcons (sif (qtcmp (opd_in rfl) (qattrE (qv 0) T.fx_code) (qtup (qcons qstr (qcons qstr (qcons qstr (qcons qstr qnil))))) (by with_unfolding_all rfl))
 (bone (sret (qtup (qcons (qattr (qv 0) (fun c f h => match c, h with | _, h => nomatch h) (fun c h => nomatch h)) qnil))))
 bnil)
 (bcons (sif (qtcmp (opd_in rfl) (qattrE (qv 0) T.fx_code) (qtup (qcons qstr (qcons qstr qnil))) (by with_unfolding_all rfl))
 (bone (sret (qtup (qcons (qattr (qv 0) (fun c f h => match c, h with | _, h => nomatch h) (fun c h => nomatch h)) qnil))))
 bnil)
 (bcons (sif (qtcmp (opd_in rfl) (qattrE (qv 0) T.fx_code) (qtup (qcons qstr (qcons qstr (qcons qstr qnil)))) (by with_unfolding_all rfl))
 (bone (sret (qtup (qcons (qattr (qv 0) (fun c f h => match c, h with | _, h => nomatch h) (fun c h => nomatch h)) (qcons (qattr (qv 0) (fun c f h => match c, h with | _, h => nomatch h) (fun c h => nomatch h)) qnil)))))
 bnil)
 (bcons (sif (qtcmp (opd_in rfl) (qattrE (qv 0) T.fx_code) (qtup (qcons qstr (qcons qstr qnil))) (by with_unfolding_all rfl))
 (bone (sret (qtup (qcons (qattr (qv 0) (fun c f h => match c, h with | _, h => nomatch h) (fun c h => nomatch h)) qnil))))
 bnil)
 (bone (sret (qif (qtcmp (opd_eq rfl hr.units) (qattrE (qv 0) T.fx_code) qstr (nomark _)) (qtup (qcons (qattr (qv 0) (fun c f h => match c, h with | _, h => nomatch h) (fun c h => nomatch h)) qnil)) (qtup qnil)))))))))))
/-! #### _law_try: asks what it gets -/
abbrev s_law_try : Stmt := top 27
theorem sc_law_try : FnScope (["_law_ask", "_law_e"] : List Str) (["_law_ask"] : List Str) (defScope s_law_try) := ⟨rfl, rfl, rfl, by decide +kernel, rfl, by decide +kernel, by decide +kernel⟩
def b_law_try (L : Nat) (th : Sto → R DV) : GS :=
 (gTry mtt 1 (gRet (gTup (gCons (gC (.str "told")) (gCons (gAsk th 0) gNil))))
 (gRet (gBin addD (gTup (gCons (gC (.str "no")) (gCons (gUn (atE 3 fx_code) (gVar 1)) gNil))) (gCall (m_law_fields L) [] (gCons (gVar 1) gNil)))))
def h_law_try (L : Nat) : (Sto → R DV) → Sto → R DV := runH 2 (b_law_try L)
theorem giv_law_try (L : Nat) (T : Tx K mg) {fd_law_fields : FuncData} (F_law_fields : FunD K "_law_fields" "_law_fields" (defArgs s_law_fields) (defBody s_law_fields) (defScope s_law_fields) [] [] (He.ga K "_law_fields") fd_law_fields) {fd : FuncData} (F : FunD K "_law_try" "_law_try" (defArgs s_law_try) (defBody s_law_try) (defScope s_law_try) [] [] (He.ga K "_law_try") fd) : GivL (pg K lm) P w mg base 22 (He.ga K "_law_try") (h_law_try L) := by
  have S := sc_law_try
  refine giv_of (k := 20) (nN := 2) (b := b_law_try L) rfl rfl F S (Or.inl rfl) rfl rfl rfl (F.bindsN (fun _ _ _ _ _ _ us hl => match us, hl with | [_], _ => rfl)) rfl rfl (fun aa th cdv A outer s H hr ask => ?_)
  refine bone (stry (p := modP (pg K lm) none aa) rfl rfl rfl S.nd rfl rfl (Tq.test3 ⟨rfl, rfl, .inl T.g_GustError⟩ ⟨rfl, rfl, .inl T.g_Missing⟩ ⟨rfl, rfl, .inl T.g_NothingLeft⟩) T.mtt LamX.takes0 (fun W1 pn1 xe1 tk1 => ?_) (fun x ox c dx pn hy => ?_))
  · exact (bone (sret (qtup (qcons qstr (qcons (ask W1 pn1 xe1 _ _ tk1) qnil)))))
  · have hx : HotX (hotP (modP (pg K lm) none aa) x c dx) (Cx.suite (cxOf CX0 P w K mg base (["_law_ask", "_law_e"] : List Str) "_law_try" (defScope s_law_try) (He.ga K "_law_try") cdv A outer s H (fun _ _ _ => False)).nox x ((x, ox) :: pn)) := hy.x (List.mem_cons_self ..)
    exact (bone (sret (qbin (opd_add rfl) (qtup (qcons qstr (qcons (qattrE (qv 1) T.fx_code) qnil))) (Tq.qcallS (y := (x, ox)) (fnS_law_fields L T _ _ F_law_fields) rfl hy (List.mem_cons_self ..) ⟨(hr.mono (show 1 ≤ 21 by decide)).dp, (hr.mono (show 1 ≤ 21 by decide)).un⟩ rfl T.g__law_fields T.k__law_fields (F_law_fields.bindsN (fun _ _ _ _ _ _ us hl => match us, hl with | [_], _ => rfl)) (fun ds s h => run_len h) (qcons (qv 1) qnil)))))
theorem giv2_law_try (L : Nat) (T : Tx K mg) {fd_law_fields : FuncData} (F_law_fields : FunD K "_law_fields" "_law_fields" (defArgs s_law_fields) (defBody s_law_fields) (defScope s_law_fields) [] [] (He.ga K "_law_fields") fd_law_fields) {fd : FuncData} (F : FunD K "_law_try" "_law_try" (defArgs s_law_try) (defBody s_law_try) (defScope s_law_try) [] [] (He.ga K "_law_try") fd) : GivT (pg K lm) P w mg base 22 (He.ga K "_law_try") (h_law_try L) := by
  have S := sc_law_try
  refine giv2_of (k := 20) (nN := 2) (b := b_law_try L) rfl rfl F S (Or.inl rfl) rfl rfl rfl (F.bindsN (fun _ _ _ _ _ _ us hl => match us, hl with | [_], _ => rfl)) rfl rfl (fun aa th cdv A outer s H hr ask => ?_)
  refine bone (stry (p := modP (pg K lm) none aa) rfl rfl rfl S.nd rfl rfl (Tq.test3 ⟨rfl, rfl, .inl T.g_GustError⟩ ⟨rfl, rfl, .inl T.g_Missing⟩ ⟨rfl, rfl, .inl T.g_NothingLeft⟩) T.mtt LamX.takes0 (fun W1 pn1 xe1 tk1 => ?_) (fun x ox c dx pn hy => ?_))
  · exact (bone (sret (qtup (qcons qstr (qcons (ask W1 pn1 xe1 _ _ tk1) qnil)))))
  · have hx : HotX (hotP (modP (pg K lm) none aa) x c dx) (Cx.suite (cxOf CX0 P w K mg base (["_law_ask", "_law_e"] : List Str) "_law_try" (defScope s_law_try) (He.ga K "_law_try") cdv A outer s H (fun _ _ _ => False)).nox x ((x, ox) :: pn)) := hy.x (List.mem_cons_self ..)
    exact (bone (sret (qbin (opd_add rfl) (qtup (qcons qstr (qcons (qattrE (qv 1) T.fx_code) qnil))) (Tq.qcallS (y := (x, ox)) (fnS_law_fields L T _ _ F_law_fields) rfl hy (List.mem_cons_self ..) ⟨(hr.mono (show 1 ≤ 21 by decide)).dp, (hr.mono (show 1 ≤ 21 by decide)).un⟩ rfl T.g__law_fields T.k__law_fields (F_law_fields.bindsN (fun _ _ _ _ _ _ us hl => match us, hl with | [_], _ => rfl)) (fun ds s h => run_len h) (qcons (qv 1) qnil)))))
/-! #### Ratio___eq__ (level 1) -/
abbrev s_Ratiodd_eqdd : Stmt := inClass (top 15) 10
theorem sc_Ratiodd_eqdd : FnScope (["self", "other"] : List Str) (["self", "other"] : List Str) (defScope s_Ratiodd_eqdd) := ⟨rfl, rfl, rfl, by decide +kernel, rfl, by decide +kernel, by decide +kernel⟩
def b_Ratiodd_eqdd (L : Nat) : GS :=
 (gRet (gAndV (gUn (isiD isi_Ratio) (gVar 1)) (gAndV (gBin eqD (gUn (atD 0 (fun _ => none) fc__top) (gVar 0)) (gUn (atD 0 (fun _ => none) fc__top) (gVar 1))) (gBin eqD (gUn (atD 1 (fun _ => none) fc__bottom) (gVar 0)) (gUn (atD 1 (fun _ => none) fc__bottom) (gVar 1))))))
def m_Ratiodd_eqdd (L : Nat) : List DV → Sto → R DV := run 2 2 (b_Ratiodd_eqdd L)
theorem fn_Ratiodd_eqdd (L : Nat) (T : Tx K mg) {fd : FuncData} (F : FunD K "__eq__" "Ratio.__eq__" (defArgs s_Ratiodd_eqdd) (defBody s_Ratiodd_eqdd) (defScope s_Ratiodd_eqdd) [] [] (He.ma K (He.ga K "Ratio") "__eq__") fd) : FnOk P w K mg base CX0 1 (He.ma K (He.ga K "Ratio") "__eq__") fd (["self", "other"] : List Str) (spD (pg K lm) We0 2 (m_Ratiodd_eqdd L)) := by
  have S := sc_Ratiodd_eqdd
  refine def0' (p := pg K lm) (k := 0) (nN := 2) (n := 2) (b := b_Ratiodd_eqdd L) (m := m_Ratiodd_eqdd L) F S rfl rfl (by decide) rfl (fun cdv A outer s H E hr => ?_)
  exact (bone (sret (qand (qisi T.z_isinstance rfl (by decide +kernel) (qv 1) (pe_glob (v := .ref (He.ga K "Ratio")) rfl T.g_Ratio rfl) (.own _) rfl T.isi_Ratio) (qand (qcmp (opd_eq rfl hr.units) (qattr (qv 0) (fun c f h => match c, h with | _, h => nomatch h) (T.fc__top)) (qattr (qv 1) (fun c f h => match c, h with | _, h => nomatch h) (T.fc__top)) (nomark _)) (q1 (qcmp (opd_eq rfl hr.units) (qattr (qv 0) (fun c f h => match c, h with | _, h => nomatch h) (T.fc__bottom)) (qattr (qv 1) (fun c f h => match c, h with | _, h => nomatch h) (T.fc__bottom)) (nomark _)))))))
theorem ok_Ratiodd_eqdd (L : Nat) (T : Tx K mg) (F : ∃ fd, FunD K "__eq__" "Ratio.__eq__" (defArgs s_Ratiodd_eqdd) (defBody s_Ratiodd_eqdd) (defScope s_Ratiodd_eqdd) [] [] (He.ma K (He.ga K "Ratio") "__eq__") fd) : OkD (pg K lm) P w mg base 1 (He.ma K (He.ga K "Ratio") "__eq__") 2 (m_Ratiodd_eqdd L) [] :=
  let ⟨fd, F⟩ := F; ⟨⟨fd, _, [], [], rfl, fn_Ratiodd_eqdd L T  F, .nil, F.bindsN (fun _ _ _ _ _ _ us hl => match us, hl with | [_, _], _ => rfl), fun _ _ => .nil⟩, fun ds s h => run_len h⟩
def sel_eq_op_Ratio (L : Nat) : Sel
  | 4 => some (m_Ratiodd_eqdd L)
  | _ => none
/-! #### Ratio___bool__ (level 1) -/
abbrev s_Ratiodd_booldd : Stmt := inClass (top 15) 11
theorem sc_Ratiodd_booldd : FnScope (["self"] : List Str) (["self"] : List Str) (defScope s_Ratiodd_booldd) := ⟨rfl, rfl, rfl, by decide +kernel, rfl, by decide +kernel, by decide +kernel⟩
def b_Ratiodd_booldd (L : Nat) : GS :=
 (gRet (gB boolB (gCons (gUn (atD 0 (fun _ => none) fc__top) (gVar 0)) gNil)))
def m_Ratiodd_booldd (L : Nat) : List DV → Sto → R DV := run 1 1 (b_Ratiodd_booldd L)
theorem fn_Ratiodd_booldd (L : Nat) (T : Tx K mg) {fd : FuncData} (F : FunD K "__bool__" "Ratio.__bool__" (defArgs s_Ratiodd_booldd) (defBody s_Ratiodd_booldd) (defScope s_Ratiodd_booldd) [] [] (He.ma K (He.ga K "Ratio") "__bool__") fd) : FnOk P w K mg base CX0 1 (He.ma K (He.ga K "Ratio") "__bool__") fd (["self"] : List Str) (spD (pg K lm) We0 1 (m_Ratiodd_booldd L)) := by
  have S := sc_Ratiodd_booldd
  refine def0' (p := pg K lm) (k := 0) (nN := 1) (n := 1) (b := b_Ratiodd_booldd L) (m := m_Ratiodd_booldd L) F S rfl rfl (by decide) rfl (fun cdv A outer s H E hr => ?_)
  exact (bone (sret (qbty opd_bool T.z_bool rfl (by decide +kernel) (qcons (qattr (qv 0) (fun c f h => match c, h with | _, h => nomatch h) (T.fc__top)) qnil))))
theorem ok_Ratiodd_booldd (L : Nat) (T : Tx K mg) (F : ∃ fd, FunD K "__bool__" "Ratio.__bool__" (defArgs s_Ratiodd_booldd) (defBody s_Ratiodd_booldd) (defScope s_Ratiodd_booldd) [] [] (He.ma K (He.ga K "Ratio") "__bool__") fd) : OkD (pg K lm) P w mg base 1 (He.ma K (He.ga K "Ratio") "__bool__") 1 (m_Ratiodd_booldd L) [] :=
  let ⟨fd, F⟩ := F; ⟨⟨fd, _, [], [], rfl, fn_Ratiodd_booldd L T  F, .nil, F.bindsN (fun _ _ _ _ _ _ us hl => match us, hl with | [_], _ => rfl), fun _ _ => .nil⟩, fun ds s h => run_len h⟩
def sel_bool_op_Ratio (L : Nat) : Sel
  | 4 => some (m_Ratiodd_booldd L)
  | _ => none
/-! #### is_number (level 1) -/
abbrev s_is_number : Stmt := top 11
theorem sc_is_number : FnScope (["value"] : List Str) (["value"] : List Str) (defScope s_is_number) := ⟨rfl, rfl, rfl, by decide +kernel, rfl, by decide +kernel, by decide +kernel⟩
def b_is_number (L : Nat) : GS :=
 (gRet (gAndV (gUn (isiD isi_int) (gVar 0)) (gNotV (gUn (isiD isi_bool) (gVar 0)))))
def m_is_number (L : Nat) : List DV → Sto → R DV := run 1 1 (b_is_number L)
theorem fn_is_number (L : Nat) (T : Tx K mg) {fd : FuncData} (F : FunD K "is_number" "is_number" (defArgs s_is_number) (defBody s_is_number) (defScope s_is_number) [] [] (He.ga K "is_number") fd) : FnOk P w K mg base CX0 1 (He.ga K "is_number") fd (["value"] : List Str) (spD (pg K lm) We0 1 (m_is_number L)) := by
  have S := sc_is_number
  refine def0' (p := pg K lm) (k := 0) (nN := 1) (n := 1) (b := b_is_number L) (m := m_is_number L) F S rfl rfl (by decide) rfl (fun cdv A outer s H E hr => ?_)
  exact (bone (sret (qand (qisi T.z_isinstance rfl (by decide +kernel) (qv 0) (pe_bltn (v := .ty "int") rfl T.z_int (by decide +kernel) rfl) (.ty _) rfl T.isi_int) (q1 (qnot (qisi T.z_isinstance rfl (by decide +kernel) (qv 0) (pe_bltn (v := .ty "bool") rfl T.z_bool (by decide +kernel) rfl) (.ty _) rfl T.isi_bool))))))
theorem ok_is_number (L : Nat) (T : Tx K mg) (F : ∃ fd, FunD K "is_number" "is_number" (defArgs s_is_number) (defBody s_is_number) (defScope s_is_number) [] [] (He.ga K "is_number") fd) : OkD (pg K lm) P w mg base 1 (He.ga K "is_number") 1 (m_is_number L) [] :=
  let ⟨fd, F⟩ := F; ⟨⟨fd, _, [], [], rfl, fn_is_number L T  F, .nil, F.bindsN (fun _ _ _ _ _ _ us hl => match us, hl with | [_], _ => rfl), fun _ _ => .nil⟩, fun ds s h => run_len h⟩
/-! #### Ratio___init__ (level 2) -/
abbrev s_Ratiodd_initdd : Stmt := inClass (top 15) 0
theorem sc_Ratiodd_initdd : FnScope (["self", "top", "bottom", "common"] : List Str) (["self", "top", "bottom"] : List Str) (defScope s_Ratiodd_initdd) := ⟨rfl, rfl, rfl, by decide +kernel, rfl, by decide +kernel, by decide +kernel⟩
def b_Ratiodd_initdd (L : Nat) : GS :=
 (gSeq (gIfS (nxE (gOr (gNot (gT truD (gCall (m_is_number L) [] (gCons (gVar 1) gNil)))) (gOr (gNot (gT truD (gCall (m_is_number L) [] (gCons (gVar 2) gNil)))) (gT truB (gBin eqD (gVar 2) (gC (.int 0)))))))
 (gRaise 1 mxe_InvalidRatio_p1 (nxE (gCons (gTup (gCons (gVar 1) (gCons (gVar 2) gNil))) gNil)) gNil)
 gNext)
 (gSeq (nxS (gSet 3 (gB gcdD (gCons (gVar 1) (gCons (gVar 2) gNil)))))
 (gSeq (nxS (gIfS (gT truB (gBin ltD (gVar 2) (gC (.int 0))))
 (gSet 3 (gUn negD (gVar 3)))
 gNext))
 (gSeq (nxS (gFld 0 fc__top (gBin fdivD (gVar 1) (gVar 3)) (gVar 0)))
 (nxS (gFld 1 fc__bottom (gBin fdivD (gVar 2) (gVar 3)) (gVar 0)))))))
def m_Ratiodd_initdd (L : Nat) : List DV → Sto → R DV := run 4 3 (b_Ratiodd_initdd L)
theorem fn_Ratiodd_initdd (L : Nat) (T : Tx K mg) (o_is_number : OkD (pg K lm) P w mg base 1 (He.ga K "is_number") 1 (m_is_number L) []) (xr_InvalidRatio_p1 : OkR (pg K lm) P w mg base 1 1 ([] : List Str) bl_InvalidRatio_p1) {fd : FuncData} (F : FunD K "__init__" "Ratio.__init__" (defArgs s_Ratiodd_initdd) (defBody s_Ratiodd_initdd) (defScope s_Ratiodd_initdd) [V.int 1] [] (He.ma K (He.ga K "Ratio") "__init__") fd) : FnOk P w K mg base (L2.CX P w) 2 (He.ma K (He.ga K "Ratio") "__init__") fd (["self", "top", "bottom"] : List Str) (spD (pg K lm) WeX 3 (m_Ratiodd_initdd L)) := by
  have S := sc_Ratiodd_initdd
  refine defX' (p := pg K lm) (k := 1) (nN := 4) (n := 3) (b := b_Ratiodd_initdd L) (m := m_Ratiodd_initdd L) F S rfl rfl (by decide) rfl (fun cdv A outer s H E hr => ?_)
  exact (bcons (sif (lfB (L2.PW.pt (qwor (qtnot (qt (qcall (o_is_number.c (hr.mono (by decide))) T.g_is_number T.k_is_number rfl (qcons (qv 1) qnil)))) (qwor (qtnot (qt (qcall (o_is_number.c (hr.mono (by decide))) T.g_is_number T.k_is_number rfl (qcons (qv 2) qnil)))) (qw1 (qtcmp (opd_eq rfl hr.units) (qv 2) qint (nomark _)))))))
 (bone (sraise rfl cxTakes (pmkP (c := 1) (xr_InvalidRatio_p1.m' _ ⟨rfl, rfl, rfl, rfl, rfl⟩ (hr.mono (by decide))) xr_InvalidRatio_p1.sub xr_InvalidRatio_p1.ty exd_InvalidRatio_p1 T.g_InvalidRatio rfl (lfL (qcons (qtup (qcons (qv 1) (qcons (qv 2) qnil))) qnil)))))
 bnil)
 (bcons (lfS (sset 3 S.nd (Or.inl rfl) (qbfn opd_gcd T.b_gcd rfl (qcons (qv 1) (qcons (qv 2) qnil)))))
 (bcons (lfS (sif (qtcmp opd_lt (qv 2) qint (nomark _))
 (bone (sset 3 S.nd (Or.inl rfl) (qun opd_neg (qv 3))))
 bnil))
 (bcons (lfS (sfld (qv 0) (qbin opd_fdiv (qv 1) (qv 3)) (T.fc__top)))
 (bone (lfS (sfld (qv 0) (qbin opd_fdiv (qv 2) (qv 3)) (T.fc__bottom))))))))
theorem ok_Ratiodd_initdd (L : Nat) (T : Tx K mg) (o_is_number : OkD (pg K lm) P w mg base 1 (He.ga K "is_number") 1 (m_is_number L) []) (xr_InvalidRatio_p1 : OkR (pg K lm) P w mg base 1 1 ([] : List Str) bl_InvalidRatio_p1) (F : ∃ fd, FunD K "__init__" "Ratio.__init__" (defArgs s_Ratiodd_initdd) (defBody s_Ratiodd_initdd) (defScope s_Ratiodd_initdd) [V.int 1] [] (He.ma K (He.ga K "Ratio") "__init__") fd) : OkX (pg K lm) P w mg base 2 (He.ma K (He.ga K "Ratio") "__init__") 3 (m_Ratiodd_initdd L) [] :=
  let ⟨fd, F⟩ := F; ⟨(let ⟨ds, hd, hb⟩ := F.binds1 (ps := (["self", "top", "bottom"] : List Str)) 3 1 (by simp) (by decide) (fun _ _ _ _ _ _ _ us its hl hi => match us, its, hl, hi with | [_, _, _], [_], _, _ => ⟨_, rfl, rfl⟩); ⟨fd, _, [], ds, rfl, fn_Ratiodd_initdd L T o_is_number xr_InvalidRatio_p1 F, hd, hb, fun _ _ => .nil⟩), fun ds s h => run_len h⟩
theorem ok_Ratiodd_initdd_d1 (L : Nat) (T : Tx K mg) (o_is_number : OkD (pg K lm) P w mg base 1 (He.ga K "is_number") 1 (m_is_number L) []) (xr_InvalidRatio_p1 : OkR (pg K lm) P w mg base 1 1 ([] : List Str) bl_InvalidRatio_p1) (F : ∃ fd, FunD K "__init__" "Ratio.__init__" (defArgs s_Ratiodd_initdd) (defBody s_Ratiodd_initdd) (defScope s_Ratiodd_initdd) [V.int 1] [] (He.ma K (He.ga K "Ratio") "__init__") fd) : OkX (pg K lm) P w mg base 2 (He.ma K (He.ga K "Ratio") "__init__") 3 (m_Ratiodd_initdd L) [(.int 1)] :=
  let ⟨fd, F⟩ := F; ⟨(let ⟨ds, hd, hb⟩ := F.binds1 (ps := (["self", "top", "bottom"] : List Str)) 2 0 (by simp) (by decide) (fun _ _ _ _ _ _ _ us its hl hi => match us, its, hl, hi with | [_, _], [_], _, _ => ⟨_, rfl, rfl⟩); ⟨fd, _, _, ds, rfl, fn_Ratiodd_initdd L T o_is_number xr_InvalidRatio_p1 F, hd, hb, fun _ _ => by repeat constructor⟩), fun ds s h => run_len h⟩
def g_Ratiodd_initdd_k0_bottom_top {α : Type} (vs mz zs : List α) : List α := match vs, mz, zs with
  | [a0], [m0], [k0, k1] => [a0, k1, k0]
  | _, _, _ => []
theorem rel_Ratiodd_initdd_k0_bottom_top {vs mz zs : List V} {us mv ws : List Value} (h1 : Vals vs us) (h2 : Vals mz mv) (h3 : Vals zs ws) : Vals (g_Ratiodd_initdd_k0_bottom_top vs mz zs) (g_Ratiodd_initdd_k0_bottom_top us mv ws) := by
  cases h1 with
  | nil => exact .nil
  | cons h1r0 h1t0 =>
    cases h1t0 with
    | cons _ _ => exact .nil
    | nil =>
      cases h2 with
      | nil => exact .nil
      | cons h2r0 h2t0 =>
        cases h2t0 with
        | cons _ _ => exact .nil
        | nil =>
          cases h3 with
          | nil => exact .nil
          | cons h3r0 h3t0 =>
            cases h3t0 with
            | nil => exact .nil
            | cons h3r1 h3t1 =>
              cases h3t1 with
              | cons _ _ => exact .nil
              | nil =>
                exact (.cons h1r0 (.cons h3r1 (.cons h3r0 .nil)))
theorem ok_Ratiodd_initdd_k0_bottom_top (L : Nat) (T : Tx K mg) (o_is_number : OkD (pg K lm) P w mg base 1 (He.ga K "is_number") 1 (m_is_number L) []) (xr_InvalidRatio_p1 : OkR (pg K lm) P w mg base 1 1 ([] : List Str) bl_InvalidRatio_p1) (F : ∃ fd, FunD K "__init__" "Ratio.__init__" (defArgs s_Ratiodd_initdd) (defBody s_Ratiodd_initdd) (defScope s_Ratiodd_initdd) [V.int 1] [] (He.ma K (He.ga K "Ratio") "__init__") fd) : OkMKX (pg K lm) P w mg base 2 (He.ma K (He.ga K "Ratio") "__init__") 3 (m_Ratiodd_initdd L) 0 (["bottom", "top"] : List Str) mix_Ratiodd_initdd_k0_bottom_top := by
  obtain ⟨fd, F⟩ := F
  obtain ⟨mv, hb⟩ := F.kbindsD (ps := (["self", "top", "bottom"] : List Str)) 1 (["bottom", "top"] : List Str) g_Ratiodd_initdd_k0_bottom_top (by simp) rel_Ratiodd_initdd_k0_bottom_top (fun _ _ _ _ _ _ _ us its ws hl hi hk => match us, its, ws, hl, hi, hk with | [_], [_], [_, _], _, _, _ => ⟨_, rfl, rfl⟩)
  refine ⟨⟨fd, _, _, _, rfl, fn_Ratiodd_initdd L T o_is_number xr_InvalidRatio_p1 F, hb, ?_⟩, fun ds s h => run_len h⟩
  intro F μ l z a vs zs u h1 h2 h3
  unfold mix_Ratiodd_initdd_k0_bottom_top at h3
  split at h3
  · cases h3
    obtain _ | _ := h1
    obtain _ | ⟨q0, _ | ⟨q1, _ | _⟩⟩ := h2
    exact ⟨rfl, rfl, _, rfl, .cons q1 (.cons q0 (.nil))⟩
  · cases h3
/-! #### _law_pull (level 1) -/
abbrev s_law_pull : Stmt := top 18
theorem sc_law_pull : FnScope (["_law_bag", "_law_many", "_law_seed", "_law_cell", "_law_digit"] : List Str) (["_law_bag", "_law_many"] : List Str) (defScope s_law_pull) := ⟨rfl, rfl, rfl, by decide +kernel, rfl, by decide +kernel, by decide +kernel⟩
def b_law_pull (L : Nat) : GS :=
 (gSeq (gIfS (gAnd (gT truB (gBin eqD (gBin ixD (gVar 0) (gC (.int 2))) (gC (.int 0)))) (gT truB (gBin ltD (gBin ixD (gVar 0) (gC (.int 1))) (gB lenD (gCons (gBin ixD (gVar 0) (gC (.int 0))) gNil)))))
 (gSeq (gSet 3 (gBin ixD (gBin ixD (gVar 0) (gC (.int 0))) (gBin ixD (gVar 0) (gC (.int 1)))))
 (gSeq (gSetI (gBin addD (gBin ixD (gVar 0) (gC (.int 1))) (gC (.int 1))) (gVar 0) (gC (.int 1)))
 (gIfS (gT truB (gBin geD (gVar 3) (gBin powD (gC (.int 10)) (gC (.int 18)))))
 (gSetI (gVar 3) (gVar 0) (gC (.int 2)))
 (gSetI (gBin modD (gB intD (gCons (gBin addD (gBin addD (gBin mulD (gBin ixD (gVar 0) (gC (.int 3))) (gC (.int 40237))) (gBin mulD (gBin modD (gB intD (gCons (gVar 3) gNil)) (gC (.int 2147483489))) (gC (.int 6581)))) (gC (.int 37))) gNil)) (gC (.int 2147483629))) (gVar 0) (gC (.int 3))))))
 gNext)
 (gSeq (gIfS (gT truB (gBin gtD (gBin ixD (gVar 0) (gC (.int 2))) (gC (.int 0))))
 (gSeq (gSet 4 (gBin modD (gB intD (gCons (gBin ixD (gVar 0) (gC (.int 2))) gNil)) (gVar 1)))
 (gSeq (gSetI (gBin fdivD (gBin ixD (gVar 0) (gC (.int 2))) (gVar 1)) (gVar 0) (gC (.int 2)))
 (gRet (gVar 4))))
 gNext)
 (gSeq (gSetI (gBin addD (gBin ixD (gVar 0) (gC (.int 4))) (gC (.int 1))) (gVar 0) (gC (.int 4)))
 (gSeq (gSet 2 (gBin ixD (gVar 0) (gC (.int 3))))
 (gSeq (gSetI (gBin modD (gB intD (gCons (gBin addD (gBin addD (gBin addD (gBin mulD (gVar 2) (gVar 2)) (gBin mulD (gVar 2) (gC (.int 28657)))) (gBin mulD (gBin ixD (gVar 0) (gC (.int 4))) (gC (.int 1300367)))) (gC (.int 70001))) gNil)) (gC (.int 2147483579))) (gVar 0) (gC (.int 3)))
 (gRet (gBin modD (gB intD (gCons (gBin addD (gBin fdivD (gBin ixD (gVar 0) (gC (.int 3))) (gC (.int 61))) (gBin mulD (gBin modD (gB intD (gCons (gBin ixD (gVar 0) (gC (.int 3))) gNil)) (gC (.int 8059))) (gC (.int 47)))) gNil)) (gVar 1))))))))
def m_law_pull (L : Nat) : List DV → Sto → R DV := run 5 2 (b_law_pull L)
theorem fn_law_pull (L : Nat) (T : Tx K mg) {fd : FuncData} (F : FunD K "_law_pull" "_law_pull" (defArgs s_law_pull) (defBody s_law_pull) (defScope s_law_pull) [] [] (He.ga K "_law_pull") fd) : FnOk P w K mg base CX0 1 (He.ga K "_law_pull") fd (["_law_bag", "_law_many"] : List Str) (spD (pg K lm) We0 2 (m_law_pull L)) := by
  have S := sc_law_pull
  refine def0' (p := pg K lm) (k := 0) (nN := 5) (n := 2) (b := b_law_pull L) (m := m_law_pull L) F S rfl rfl (by decide) rfl (fun cdv A outer s H E hr => ?_)
  exact (bcons (sif (L2.PW.pt (qwand (qtcmp (opd_eq rfl hr.units) (qix (qv 0) qint (fun _ _ => rfl)) qint (nomark _)) (qw1 (qtcmp opd_lt (qix (qv 0) qint (fun _ _ => rfl)) (qblt (opd_len rfl) T.z_len rfl PySem.boot_len (qcons (qix (qv 0) qint (fun _ _ => rfl)) qnil)) (nomark _)))))
 (bcons (sset 3 S.nd (Or.inl rfl) (qix (qix (qv 0) qint (fun _ _ => rfl)) (qix (qv 0) qint (fun _ _ => rfl)) (fun _ _ => rfl)))
 (bcons (sseti (qbin (opd_add rfl) (qix (qv 0) qint (fun _ _ => rfl)) qint) (qv 0) qint)
 (bone (sif (qtcmp opd_ge (qv 3) (qbin opd_pow qint qint) (nomark _))
 (bone (sseti (qv 3) (qv 0) qint))
 (bone (sseti (qbin opd_mod (qbty opd_int T.z_int rfl (by decide +kernel) (qcons (qbin (opd_add rfl) (qbin (opd_add rfl) (qbin opd_mul (qix (qv 0) qint (fun _ _ => rfl)) qint) (qbin opd_mul (qbin opd_mod (qbty opd_int T.z_int rfl (by decide +kernel) (qcons (qv 3) qnil)) qint) qint)) qint) qnil)) qint) (qv 0) qint))))))
 bnil)
 (bcons (sif (qtcmp opd_gt (qix (qv 0) qint (fun _ _ => rfl)) qint (nomark _))
 (bcons (sset 4 S.nd (Or.inl rfl) (qbin opd_mod (qbty opd_int T.z_int rfl (by decide +kernel) (qcons (qix (qv 0) qint (fun _ _ => rfl)) qnil)) (qv 1)))
 (bcons (sseti (qbin opd_fdiv (qix (qv 0) qint (fun _ _ => rfl)) (qv 1)) (qv 0) qint)
 (bone (sret (qv 4)))))
 bnil)
 (bcons (sseti (qbin (opd_add rfl) (qix (qv 0) qint (fun _ _ => rfl)) qint) (qv 0) qint)
 (bcons (sset 2 S.nd (Or.inl rfl) (qix (qv 0) qint (fun _ _ => rfl)))
 (bcons (sseti (qbin opd_mod (qbty opd_int T.z_int rfl (by decide +kernel) (qcons (qbin (opd_add rfl) (qbin (opd_add rfl) (qbin (opd_add rfl) (qbin opd_mul (qv 2) (qv 2)) (qbin opd_mul (qv 2) qint)) (qbin opd_mul (qix (qv 0) qint (fun _ _ => rfl)) qint)) qint) qnil)) qint) (qv 0) qint)
 (bone (sret (qbin opd_mod (qbty opd_int T.z_int rfl (by decide +kernel) (qcons (qbin (opd_add rfl) (qbin opd_fdiv (qix (qv 0) qint (fun _ _ => rfl)) qint) (qbin opd_mul (qbin opd_mod (qbty opd_int T.z_int rfl (by decide +kernel) (qcons (qix (qv 0) qint (fun _ _ => rfl)) qnil)) qint) qint)) qnil)) (qv 1)))))))))
theorem ok_law_pull (L : Nat) (T : Tx K mg) (F : ∃ fd, FunD K "_law_pull" "_law_pull" (defArgs s_law_pull) (defBody s_law_pull) (defScope s_law_pull) [] [] (He.ga K "_law_pull") fd) : OkD (pg K lm) P w mg base 1 (He.ga K "_law_pull") 2 (m_law_pull L) [] :=
  let ⟨fd, F⟩ := F; ⟨⟨fd, _, [], [], rfl, fn_law_pull L T  F, .nil, F.bindsN (fun _ _ _ _ _ _ us hl => match us, hl with | [_, _], _ => rfl), fun _ _ => .nil⟩, fun ds s h => run_len h⟩
/-! #### _law_pick (level 2) -/
abbrev s_law_pick : Stmt := top 19
theorem sc_law_pick : FnScope (["_law_bag", "_law_some"] : List Str) (["_law_bag", "_law_some"] : List Str) (defScope s_law_pick) := ⟨rfl, rfl, rfl, by decide +kernel, rfl, by decide +kernel, by decide +kernel⟩
def b_law_pick (L : Nat) : GS :=
 (gRet (gBin ixD (gVar 1) (gCall (m_law_pull L) [] (gCons (gVar 0) (gCons (gB lenD (gCons (gVar 1) gNil)) gNil)))))
def m_law_pick (L : Nat) : List DV → Sto → R DV := run 2 2 (b_law_pick L)
theorem fn_law_pick (L : Nat) (T : Tx K mg) (o_law_pull : OkD (pg K lm) P w mg base 1 (He.ga K "_law_pull") 2 (m_law_pull L) []) {fd : FuncData} (F : FunD K "_law_pick" "_law_pick" (defArgs s_law_pick) (defBody s_law_pick) (defScope s_law_pick) [] [] (He.ga K "_law_pick") fd) : FnOk P w K mg base CX0 2 (He.ga K "_law_pick") fd (["_law_bag", "_law_some"] : List Str) (spD (pg K lm) We0 2 (m_law_pick L)) := by
  have S := sc_law_pick
  refine def0' (p := pg K lm) (k := 1) (nN := 2) (n := 2) (b := b_law_pick L) (m := m_law_pick L) F S rfl rfl (by decide) rfl (fun cdv A outer s H E hr => ?_)
  exact (bone (sret (qix (qv 1) (qcall (o_law_pull.c (hr.mono (by decide))) T.g__law_pull T.k__law_pull rfl (qcons (qv 0) (qcons (qblt (opd_len rfl) T.z_len rfl PySem.boot_len (qcons (qv 1) qnil)) qnil))) (fun _ _ => rfl))))
theorem ok_law_pick (L : Nat) (T : Tx K mg) (o_law_pull : OkD (pg K lm) P w mg base 1 (He.ga K "_law_pull") 2 (m_law_pull L) []) (F : ∃ fd, FunD K "_law_pick" "_law_pick" (defArgs s_law_pick) (defBody s_law_pick) (defScope s_law_pick) [] [] (He.ga K "_law_pick") fd) : OkD (pg K lm) P w mg base 2 (He.ga K "_law_pick") 2 (m_law_pick L) [] :=
  let ⟨fd, F⟩ := F; ⟨⟨fd, _, [], [], rfl, fn_law_pick L T o_law_pull F, .nil, F.bindsN (fun _ _ _ _ _ _ us hl => match us, hl with | [_, _], _ => rfl), fun _ _ => .nil⟩, fun ds s h => run_len h⟩
/-! #### _law_stray (level 3) -/
abbrev s_law_stray : Stmt := top 25
theorem sc_law_stray : FnScope (["_law_bag"] : List Str) (["_law_bag"] : List Str) (defScope s_law_stray) := ⟨rfl, rfl, rfl, by decide +kernel, rfl, by decide +kernel, by decide +kernel⟩
def b_law_stray (L : Nat) : GS :=
 (gRet (gCall (m_law_pick L) [] (gCons (gVar 0) (gCons (gLst (gCons (gC .non) (gCons (gC (.bl true)) (gCons (gC (.str "x")) (gCons (gC (.str "1/2")) (gCons (gC (.int 1)) (gCons (gTup gNil) (gCons (gLst gNil) (gCons (gTup (gCons (gC (.int 1)) (gCons (gC (.int 2)) gNil))) (gCons (gLst (gCons (gC .non) gNil)) gNil)))))))))) gNil))))
def m_law_stray (L : Nat) : List DV → Sto → R DV := run 1 1 (b_law_stray L)
theorem fn_law_stray (L : Nat) (T : Tx K mg) (o_law_pick : OkD (pg K lm) P w mg base 2 (He.ga K "_law_pick") 2 (m_law_pick L) []) {fd : FuncData} (F : FunD K "_law_stray" "_law_stray" (defArgs s_law_stray) (defBody s_law_stray) (defScope s_law_stray) [] [] (He.ga K "_law_stray") fd) : FnOk P w K mg base CX0 3 (He.ga K "_law_stray") fd (["_law_bag"] : List Str) (spD (pg K lm) We0 1 (m_law_stray L)) := by
  have S := sc_law_stray
  refine def0' (p := pg K lm) (k := 2) (nN := 1) (n := 1) (b := b_law_stray L) (m := m_law_stray L) F S rfl rfl (by decide) rfl (fun cdv A outer s H E hr => ?_)
  exact (bone (sret (qcall (o_law_pick.c (hr.mono (by decide))) T.g__law_pick T.k__law_pick rfl (qcons (qv 0) (qcons (qlst (qcons qnon (qcons qbl (qcons qstr (qcons qstr (qcons qint (qcons (qtup qnil) (qcons (qlst qnil) (qcons (qtup (qcons qint (qcons qint qnil))) (qcons (qlst (qcons qnon qnil)) qnil)))))))))) qnil)))))
theorem ok_law_stray (L : Nat) (T : Tx K mg) (o_law_pick : OkD (pg K lm) P w mg base 2 (He.ga K "_law_pick") 2 (m_law_pick L) []) (F : ∃ fd, FunD K "_law_stray" "_law_stray" (defArgs s_law_stray) (defBody s_law_stray) (defScope s_law_stray) [] [] (He.ga K "_law_stray") fd) : OkD (pg K lm) P w mg base 3 (He.ga K "_law_stray") 1 (m_law_stray L) [] :=
  let ⟨fd, F⟩ := F; ⟨⟨fd, _, [], [], rfl, fn_law_stray L T o_law_pick F, .nil, F.bindsN (fun _ _ _ _ _ _ us hl => match us, hl with | [_], _ => rfl), fun _ _ => .nil⟩, fun ds s h => run_len h⟩
/-! #### _law_text (level 1) -/
abbrev s_law_text : Stmt := top 24
theorem sc_law_text : FnScope (["_law_p"] : List Str) (["_law_p"] : List Str) (defScope s_law_text) := ⟨rfl, rfl, rfl, by decide +kernel, rfl, by decide +kernel, by decide +kernel⟩
def b_law_text (L : Nat) : GS :=
 (gRet (gIf (gT truB (gBin eqD (gBin ixD (gVar 0) (gC (.int 1))) (gC (.int 1)))) (gB strB (gCons (gBin ixD (gVar 0) (gC (.int 0))) gNil)) (gBin addD (gBin addD (gB strB (gCons (gBin ixD (gVar 0) (gC (.int 0))) gNil)) (gC (.str "/"))) (gB strB (gCons (gBin ixD (gVar 0) (gC (.int 1))) gNil)))))
def m_law_text (L : Nat) : List DV → Sto → R DV := run 1 1 (b_law_text L)
theorem fn_law_text (L : Nat) (T : Tx K mg) {fd : FuncData} (F : FunD K "_law_text" "_law_text" (defArgs s_law_text) (defBody s_law_text) (defScope s_law_text) [] [] (He.ga K "_law_text") fd) : FnOk P w K mg base CX0 1 (He.ga K "_law_text") fd (["_law_p"] : List Str) (spD (pg K lm) We0 1 (m_law_text L)) := by
  have S := sc_law_text
  refine def0' (p := pg K lm) (k := 0) (nN := 1) (n := 1) (b := b_law_text L) (m := m_law_text L) F S rfl rfl (by decide) rfl (fun cdv A outer s H E hr => ?_)
  exact (bone (sret (qif (qtcmp (opd_eq rfl hr.units) (qix (qv 0) qint (fun _ _ => rfl)) qint (nomark _)) (qbty opd_str T.z_str rfl (by decide +kernel) (qcons (qix (qv 0) qint (fun _ _ => rfl)) qnil)) (qbin (opd_add rfl) (qbin (opd_add rfl) (qbty opd_str T.z_str rfl (by decide +kernel) (qcons (qix (qv 0) qint (fun _ _ => rfl)) qnil)) qstr) (qbty opd_str T.z_str rfl (by decide +kernel) (qcons (qix (qv 0) qint (fun _ _ => rfl)) qnil))))))
theorem ok_law_text (L : Nat) (T : Tx K mg) (F : ∃ fd, FunD K "_law_text" "_law_text" (defArgs s_law_text) (defBody s_law_text) (defScope s_law_text) [] [] (He.ga K "_law_text") fd) : OkD (pg K lm) P w mg base 1 (He.ga K "_law_text") 1 (m_law_text L) [] :=
  let ⟨fd, F⟩ := F; ⟨⟨fd, _, [], [], rfl, fn_law_text L T  F, .nil, F.bindsN (fun _ _ _ _ _ _ us hl => match us, hl with | [_], _ => rfl), fun _ _ => .nil⟩, fun ds s h => run_len h⟩
/-! #### Ratio_bottom (level 1) -/
abbrev s_Ratio_bottom : Stmt := inClass (top 15) 3
theorem sc_Ratio_bottom : FnScope (["self"] : List Str) (["self"] : List Str) (defScope s_Ratio_bottom) := ⟨rfl, rfl, rfl, by decide +kernel, rfl, by decide +kernel, by decide +kernel⟩
def b_Ratio_bottom (L : Nat) : GS :=
 (gRet (gUn (atD 1 (fun _ => none) fc__bottom) (gVar 0)))
def m_Ratio_bottom (L : Nat) : List DV → Sto → R DV := run 1 1 (b_Ratio_bottom L)
theorem fn_Ratio_bottom (L : Nat) (T : Tx K mg) {fd : FuncData} (F : FunD K "bottom" "Ratio.bottom" (defArgs s_Ratio_bottom) (defBody s_Ratio_bottom) (defScope s_Ratio_bottom) [] [] (pga K (He.ma K (He.ga K "Ratio") "bottom")) fd) : FnOk P w K mg base CX0 1 (pga K (He.ma K (He.ga K "Ratio") "bottom")) fd (["self"] : List Str) (spD (pg K lm) We0 1 (m_Ratio_bottom L)) := by
  have S := sc_Ratio_bottom
  refine def0' (p := pg K lm) (k := 0) (nN := 1) (n := 1) (b := b_Ratio_bottom L) (m := m_Ratio_bottom L) F S rfl rfl (by decide) rfl (fun cdv A outer s H E hr => ?_)
  exact (bone (sret (qattr (qv 0) (fun c f h => match c, h with | _, h => nomatch h) (T.fc__bottom))))
theorem ok_Ratio_bottom (L : Nat) (T : Tx K mg) (F : ∃ fd, FunD K "bottom" "Ratio.bottom" (defArgs s_Ratio_bottom) (defBody s_Ratio_bottom) (defScope s_Ratio_bottom) [] [] (pga K (He.ma K (He.ga K "Ratio") "bottom")) fd) : OkD (pg K lm) P w mg base 1 (pga K (He.ma K (He.ga K "Ratio") "bottom")) 1 (m_Ratio_bottom L) [] :=
  let ⟨fd, F⟩ := F; ⟨⟨fd, _, [], [], rfl, fn_Ratio_bottom L T  F, .nil, F.bindsN (fun _ _ _ _ _ _ us hl => match us, hl with | [_], _ => rfl), fun _ _ => .nil⟩, fun ds s h => run_len h⟩
def sel_bottom_Ratio (L : Nat) : Sel
  | 4 => some (m_Ratio_bottom L)
  | _ => none
/-! #### Ratio_top (level 1) -/
abbrev s_Ratio_top : Stmt := inClass (top 15) 2
theorem sc_Ratio_top : FnScope (["self"] : List Str) (["self"] : List Str) (defScope s_Ratio_top) := ⟨rfl, rfl, rfl, by decide +kernel, rfl, by decide +kernel, by decide +kernel⟩
def b_Ratio_top (L : Nat) : GS :=
 (gRet (gUn (atD 0 (fun _ => none) fc__top) (gVar 0)))
def m_Ratio_top (L : Nat) : List DV → Sto → R DV := run 1 1 (b_Ratio_top L)
theorem fn_Ratio_top (L : Nat) (T : Tx K mg) {fd : FuncData} (F : FunD K "top" "Ratio.top" (defArgs s_Ratio_top) (defBody s_Ratio_top) (defScope s_Ratio_top) [] [] (pga K (He.ma K (He.ga K "Ratio") "top")) fd) : FnOk P w K mg base CX0 1 (pga K (He.ma K (He.ga K "Ratio") "top")) fd (["self"] : List Str) (spD (pg K lm) We0 1 (m_Ratio_top L)) := by
  have S := sc_Ratio_top
  refine def0' (p := pg K lm) (k := 0) (nN := 1) (n := 1) (b := b_Ratio_top L) (m := m_Ratio_top L) F S rfl rfl (by decide) rfl (fun cdv A outer s H E hr => ?_)
  exact (bone (sret (qattr (qv 0) (fun c f h => match c, h with | _, h => nomatch h) (T.fc__top))))
theorem ok_Ratio_top (L : Nat) (T : Tx K mg) (F : ∃ fd, FunD K "top" "Ratio.top" (defArgs s_Ratio_top) (defBody s_Ratio_top) (defScope s_Ratio_top) [] [] (pga K (He.ma K (He.ga K "Ratio") "top")) fd) : OkD (pg K lm) P w mg base 1 (pga K (He.ma K (He.ga K "Ratio") "top")) 1 (m_Ratio_top L) [] :=
  let ⟨fd, F⟩ := F; ⟨⟨fd, _, [], [], rfl, fn_Ratio_top L T  F, .nil, F.bindsN (fun _ _ _ _ _ _ us hl => match us, hl with | [_], _ => rfl), fun _ _ => .nil⟩, fun ds s h => run_len h⟩
def sel_top_Ratio (L : Nat) : Sel
  | 4 => some (m_Ratio_top L)
  | _ => none
/-! #### digits (level 1) -/
abbrev s_digits : Stmt := top 12
theorem sc_digits : FnScope (["number", "rest", "chunks", "low"] : List Str) (["number"] : List Str) (defScope s_digits) := ⟨rfl, rfl, rfl, by decide +kernel, rfl, by decide +kernel, by decide +kernel⟩
def b_digits (L : Nat) : GS :=
 (gSeq (gSet 1 (gB absD (gCons (gVar 0) gNil)))
 (gSeq (gSet 2 (gMut gNil))
 (gSeq (whR (gT truB (gBin geD (gVar 1) (gC (.int 10000000000000000000000000000000000000000000000000000000000000000))))
 (gSeq (gAsg (gB divmodD (gCons (gVar 1) (gCons (gC (.int 10000000000000000000000000000000000000000000000000000000000000000)) gNil))) (tTup 2 (tCons (tN 1) (tCons (tN 3) tNil))))
 (gExpr (gApp (gVar 2) (gSm zfillB (gB strB (gCons (gVar 3) gNil)) (gCons (gC (.int 64)) gNil))))) L)
 (gSeq (gExpr (gApp (gVar 2) (gB strB (gCons (gVar 1) gNil))))
 (gSeq (gIfS (gT truB (gBin ltD (gVar 0) (gC (.int 0))))
 (gExpr (gApp (gVar 2) (gC (.str "-"))))
 gNext)
 (gRet (gSm joinB (gC (.str "")) (gCons (gUn revD (gVar 2)) gNil))))))))
def m_digits (L : Nat) : List DV → Sto → R DV := run 4 1 (b_digits L)
theorem fn_digits (L : Nat) (T : Tx K mg) {fd : FuncData} (F : FunD K "digits" "digits" (defArgs s_digits) (defBody s_digits) (defScope s_digits) [] [] (He.ga K "digits") fd) : FnOk P w K mg base CX0 1 (He.ga K "digits") fd (["number"] : List Str) (spD (pg K lm) We0 1 (m_digits L)) := by
  have S := sc_digits
  refine def0' (p := pg K lm) (k := 0) (nN := 4) (n := 1) (b := b_digits L) (m := m_digits L) F S rfl rfl (by decide) rfl (fun cdv A outer s H E hr => ?_)
  exact (bcons (sset 1 S.nd (Or.inl rfl) (qblt opd_abs T.z_abs rfl (by decide +kernel) (qcons (qv 0) qnil)))
 (bcons (sset 2 S.nd (Or.inl rfl) (qmut qnil))
 (bcons (swhile L PassesOwn.never (qtcmp opd_ge (qv 1) (qc (pe_glob (v := .int 10000000000000000000000000000000000000000000000000000000000000000) rfl (T.i_CHUNK_LIMIT).choose_spec ⟨_, rfl⟩) fun _ _ => .int _) (nomark _))
 (bcons (sasg (qblt opd_divmod T.z_divmod rfl (by decide +kernel) (qcons (qv 1) (qcons (qc (pe_glob (v := .int 10000000000000000000000000000000000000000000000000000000000000000) rfl (T.i_CHUNK_LIMIT).choose_spec ⟨_, rfl⟩) fun _ _ => .int _) qnil))) (gtup rfl (gcons (gname 1 S.nd (Or.inl rfl)) (gcons (gname 3 S.nd (Or.inl rfl)) gnil))))
 (bone (sexpr (qapp (qv 2) (qsm PySem.F.slot_str_zfill PySem.F.type_str_zfill sm_zfill (qbty opd_str T.z_str rfl (by decide +kernel) (qcons (qv 3) qnil)) (qcons (qc (pe_glob (v := .int 64) rfl (T.i_CHUNK).choose_spec ⟨_, rfl⟩) fun _ _ => .int _) qnil)))))))
 (bcons (sexpr (qapp (qv 2) (qbty opd_str T.z_str rfl (by decide +kernel) (qcons (qv 1) qnil))))
 (bcons (sif (qtcmp opd_lt (qv 0) qint (nomark _))
 (bone (sexpr (qapp (qv 2) qstr)))
 bnil)
 (bone (sret (qsm PySem.F.slot_str_join PySem.F.type_str_join (sm_join rfl) qstr (qcons (qrev (qv 2)) qnil)))))))))
theorem ok_digits (L : Nat) (T : Tx K mg) (F : ∃ fd, FunD K "digits" "digits" (defArgs s_digits) (defBody s_digits) (defScope s_digits) [] [] (He.ga K "digits") fd) : OkD (pg K lm) P w mg base 1 (He.ga K "digits") 1 (m_digits L) [] :=
  let ⟨fd, F⟩ := F; ⟨⟨fd, _, [], [], rfl, fn_digits L T  F, .nil, F.bindsN (fun _ _ _ _ _ _ us hl => match us, hl with | [_], _ => rfl), fun _ _ => .nil⟩, fun ds s h => run_len h⟩
/-! #### Ratio___str__ (level 2) -/
abbrev s_Ratiodd_strdd : Stmt := inClass (top 15) 12
theorem sc_Ratiodd_strdd : FnScope (["self"] : List Str) (["self"] : List Str) (defScope s_Ratiodd_strdd) := ⟨rfl, rfl, rfl, by decide +kernel, rfl, by decide +kernel, by decide +kernel⟩
def b_Ratiodd_strdd (L : Nat) : GS :=
 (gSeq (gIfS (gT truB (gBin eqD (gUn (atD 1 (fun _ => none) fc__bottom) (gVar 0)) (gC (.int 1))))
 (gRet (gB strB (gCons (gCall (m_digits L) [] (gCons (gUn (atD 0 (fun _ => none) fc__top) (gVar 0)) gNil)) gNil)))
 gNext)
 (gRet (joinG [(gFmt (gCall (m_digits L) [] (gCons (gUn (atD 0 (fun _ => none) fc__top) (gVar 0)) gNil))), (gC (.str "/")), (gFmt (gCall (m_digits L) [] (gCons (gUn (atD 1 (fun _ => none) fc__bottom) (gVar 0)) gNil)))] Str.empty)))
def m_Ratiodd_strdd (L : Nat) : List DV → Sto → R DV := run 1 1 (b_Ratiodd_strdd L)
theorem fn_Ratiodd_strdd (L : Nat) (T : Tx K mg) (o_digits : OkD (pg K lm) P w mg base 1 (He.ga K "digits") 1 (m_digits L) []) {fd : FuncData} (F : FunD K "__str__" "Ratio.__str__" (defArgs s_Ratiodd_strdd) (defBody s_Ratiodd_strdd) (defScope s_Ratiodd_strdd) [] [] (He.ma K (He.ga K "Ratio") "__str__") fd) : FnOk P w K mg base CX0 2 (He.ma K (He.ga K "Ratio") "__str__") fd (["self"] : List Str) (spD (pg K lm) We0 1 (m_Ratiodd_strdd L)) := by
  have S := sc_Ratiodd_strdd
  refine def0' (p := pg K lm) (k := 1) (nN := 1) (n := 1) (b := b_Ratiodd_strdd L) (m := m_Ratiodd_strdd L) F S rfl rfl (by decide) rfl (fun cdv A outer s H E hr => ?_)
  exact (bcons (sif (qtcmp (opd_eq rfl hr.units) (qattr (qv 0) (fun c f h => match c, h with | _, h => nomatch h) (T.fc__bottom)) qint (nomark _))
 (bone (sret (qbty opd_str T.z_str rfl (by decide +kernel) (qcons (qcall (o_digits.c (hr.mono (by decide))) T.g_digits T.k_digits rfl (qcons (qattr (qv 0) (fun c f h => match c, h with | _, h => nomatch h) (T.fc__top)) qnil)) qnil))))
 bnil)
 (bone (sret (qjoined (gs := [(gFmt (gCall (m_digits L) [] (gCons (gUn (atD 0 (fun _ => none) fc__top) (gVar 0)) gNil))), (gC (.str "/")), (gFmt (gCall (m_digits L) [] (gCons (gUn (atD 1 (fun _ => none) fc__bottom) (gVar 0)) gNil)))]) (.cons (qfmt (qcall (o_digits.c (hr.mono (by decide))) T.g_digits T.k_digits rfl (qcons (qattr (qv 0) (fun c f h => match c, h with | _, h => nomatch h) (T.fc__top)) qnil))) (.cons qstr (.cons (qfmt (qcall (o_digits.c (hr.mono (by decide))) T.g_digits T.k_digits rfl (qcons (qattr (qv 0) (fun c f h => match c, h with | _, h => nomatch h) (T.fc__bottom)) qnil))) .nil)))))))
theorem ok_Ratiodd_strdd (L : Nat) (T : Tx K mg) (o_digits : OkD (pg K lm) P w mg base 1 (He.ga K "digits") 1 (m_digits L) []) (F : ∃ fd, FunD K "__str__" "Ratio.__str__" (defArgs s_Ratiodd_strdd) (defBody s_Ratiodd_strdd) (defScope s_Ratiodd_strdd) [] [] (He.ma K (He.ga K "Ratio") "__str__") fd) : OkD (pg K lm) P w mg base 2 (He.ma K (He.ga K "Ratio") "__str__") 1 (m_Ratiodd_strdd L) [] :=
  let ⟨fd, F⟩ := F; ⟨⟨fd, _, [], [], rfl, fn_Ratiodd_strdd L T o_digits F, .nil, F.bindsN (fun _ _ _ _ _ _ us hl => match us, hl with | [_], _ => rfl), fun _ _ => .nil⟩, fun ds s h => run_len h⟩
def sel_str_op_Ratio (L : Nat) : Sel
  | 4 => some (m_Ratiodd_strdd L)
  | _ => none
/-! #### Ratio___repr__ (level 5) -/
abbrev s_Ratiodd_reprdd : Stmt := inClass (top 15) 13
theorem sc_Ratiodd_reprdd : FnScope (["self"] : List Str) (["self"] : List Str) (defScope s_Ratiodd_reprdd) := ⟨rfl, rfl, rfl, by decide +kernel, rfl, by decide +kernel, by decide +kernel⟩
def b_Ratiodd_reprdd (L : Nat) : GS :=
 (gRet (joinG [(gC (.str "Ratio(")), (gFmt (gB (txtO (sel_str_op_Ratio L) strB) (gCons (gVar 0) gNil))), (gC (.str ")"))] Str.empty))
def m_Ratiodd_reprdd (L : Nat) : List DV → Sto → R DV := run 1 1 (b_Ratiodd_reprdd L)
theorem fn_Ratiodd_reprdd (L : Nat) (T : Tx K mg) (o_Ratiodd_strdd : OkD (pg K lm) P w mg base 2 (He.ma K (He.ga K "Ratio") "__str__") 1 (m_Ratiodd_strdd L) []) {fd : FuncData} (F : FunD K "__repr__" "Ratio.__repr__" (defArgs s_Ratiodd_reprdd) (defBody s_Ratiodd_reprdd) (defScope s_Ratiodd_reprdd) [] [] (He.ma K (He.ga K "Ratio") "__repr__") fd) : FnOk P w K mg base CX0 5 (He.ma K (He.ga K "Ratio") "__repr__") fd (["self"] : List Str) (spD (pg K lm) We0 1 (m_Ratiodd_reprdd L)) := by
  have S := sc_Ratiodd_reprdd
  refine def0' (p := pg K lm) (k := 4) (nN := 1) (n := 1) (b := b_Ratiodd_reprdd L) (m := m_Ratiodd_reprdd L) F S rfl rfl (by decide) rfl (fun cdv A outer s H E hr => ?_)
  exact (bone (sret (qjoined (gs := [(gC (.str "Ratio(")), (gFmt (gB (txtO (sel_str_op_Ratio L) strB) (gCons (gVar 0) gNil))), (gC (.str ")"))]) (.cons qstr (.cons (qfmt (qbty (opd_strO (un2 hr) opd_str (fun c f h => match c, h with | 0, h => nomatch h | 1, h => nomatch h | 2, h => nomatch h | 3, h => nomatch h | 4, h => by cases h; exact (OkD.sp2 (c := 4) (name := "__str__") o_Ratiodd_strdd T.sp_Ratio_str.1 T.sp_Ratio_str.2 (hr.mono (by decide))) | _ + 5, h => nomatch h)) T.z_str rfl (by decide +kernel) (qcons (qv 0) qnil))) (.cons qstr .nil))))))
theorem ok_Ratiodd_reprdd (L : Nat) (T : Tx K mg) (o_Ratiodd_strdd : OkD (pg K lm) P w mg base 2 (He.ma K (He.ga K "Ratio") "__str__") 1 (m_Ratiodd_strdd L) []) (F : ∃ fd, FunD K "__repr__" "Ratio.__repr__" (defArgs s_Ratiodd_reprdd) (defBody s_Ratiodd_reprdd) (defScope s_Ratiodd_reprdd) [] [] (He.ma K (He.ga K "Ratio") "__repr__") fd) : OkD (pg K lm) P w mg base 5 (He.ma K (He.ga K "Ratio") "__repr__") 1 (m_Ratiodd_reprdd L) [] :=
  let ⟨fd, F⟩ := F; ⟨⟨fd, _, [], [], rfl, fn_Ratiodd_reprdd L T o_Ratiodd_strdd F, .nil, F.bindsN (fun _ _ _ _ _ _ us hl => match us, hl with | [_], _ => rfl), fun _ _ => .nil⟩, fun ds s h => run_len h⟩
def sel_repr_op_Ratio (L : Nat) : Sel
  | 4 => some (m_Ratiodd_reprdd L)
  | _ => none
/-! #### _law_gcd (level 1) -/
abbrev s_law_gcd : Stmt := top 20
theorem sc_law_gcd : FnScope (["_law_a", "_law_b"] : List Str) (["_law_a", "_law_b"] : List Str) (defScope s_law_gcd) := ⟨rfl, rfl, rfl, by decide +kernel, rfl, by decide +kernel, by decide +kernel⟩
def b_law_gcd (L : Nat) : GS :=
 (gSeq (whR (gT truB (gBin gtD (gVar 1) (gC (.int 0))))
 (gPar 0 1 (gCons (gVar 1) (gCons (gBin modD (gB intD (gCons (gVar 0) gNil)) (gVar 1)) gNil))) L)
 (gRet (gVar 0)))
def m_law_gcd (L : Nat) : List DV → Sto → R DV := run 2 2 (b_law_gcd L)
theorem fn_law_gcd (L : Nat) (T : Tx K mg) {fd : FuncData} (F : FunD K "_law_gcd" "_law_gcd" (defArgs s_law_gcd) (defBody s_law_gcd) (defScope s_law_gcd) [] [] (He.ga K "_law_gcd") fd) : FnOk P w K mg base CX0 1 (He.ga K "_law_gcd") fd (["_law_a", "_law_b"] : List Str) (spD (pg K lm) We0 2 (m_law_gcd L)) := by
  have S := sc_law_gcd
  refine def0' (p := pg K lm) (k := 0) (nN := 2) (n := 2) (b := b_law_gcd L) (m := m_law_gcd L) F S rfl rfl (by decide) rfl (fun cdv A outer s H E hr => ?_)
  exact (bcons (swhile L PassesOwn.never (qtcmp opd_gt (qv 1) qint (nomark _))
 (bone (spar (i := 0) (j := 1) rfl S.nd rfl rfl (by decide) rfl rfl (qcons (qv 1) (qcons (qbin opd_mod (qbty opd_int T.z_int rfl (by decide +kernel) (qcons (qv 0) qnil)) (qv 1)) qnil)) rfl)))
 (bone (sret (qv 0))))
theorem ok_law_gcd (L : Nat) (T : Tx K mg) (F : ∃ fd, FunD K "_law_gcd" "_law_gcd" (defArgs s_law_gcd) (defBody s_law_gcd) (defScope s_law_gcd) [] [] (He.ga K "_law_gcd") fd) : OkD (pg K lm) P w mg base 1 (He.ga K "_law_gcd") 2 (m_law_gcd L) [] :=
  let ⟨fd, F⟩ := F; ⟨⟨fd, _, [], [], rfl, fn_law_gcd L T  F, .nil, F.bindsN (fun _ _ _ _ _ _ us hl => match us, hl with | [_, _], _ => rfl), fun _ _ => .nil⟩, fun ds s h => run_len h⟩
/-! #### _law_frac (level 2) -/
abbrev s_law_frac : Stmt := top 21
theorem sc_law_frac : FnScope (["_law_a", "_law_b", "_law_by"] : List Str) (["_law_a", "_law_b"] : List Str) (defScope s_law_frac) := ⟨rfl, rfl, rfl, by decide +kernel, rfl, by decide +kernel, by decide +kernel⟩
def b_law_frac (L : Nat) : GS :=
 (gSeq (gSet 2 (gCall (m_law_gcd L) [] (gCons (gB absD (gCons (gVar 0) gNil)) (gCons (gB absD (gCons (gVar 1) gNil)) gNil))))
 (gSeq (gSet 2 (gIf (gT truB (gBin gtD (gVar 1) (gC (.int 0)))) (gVar 2) (gBin subD (gC (.int 0)) (gVar 2))))
 (gRet (gTup (gCons (gBin fdivD (gVar 0) (gVar 2)) (gCons (gBin fdivD (gVar 1) (gVar 2)) gNil))))))
def m_law_frac (L : Nat) : List DV → Sto → R DV := run 3 2 (b_law_frac L)
theorem fn_law_frac (L : Nat) (T : Tx K mg) (o_law_gcd : OkD (pg K lm) P w mg base 1 (He.ga K "_law_gcd") 2 (m_law_gcd L) []) {fd : FuncData} (F : FunD K "_law_frac" "_law_frac" (defArgs s_law_frac) (defBody s_law_frac) (defScope s_law_frac) [] [] (He.ga K "_law_frac") fd) : FnOk P w K mg base CX0 2 (He.ga K "_law_frac") fd (["_law_a", "_law_b"] : List Str) (spD (pg K lm) We0 2 (m_law_frac L)) := by
  have S := sc_law_frac
  refine def0' (p := pg K lm) (k := 1) (nN := 3) (n := 2) (b := b_law_frac L) (m := m_law_frac L) F S rfl rfl (by decide) rfl (fun cdv A outer s H E hr => ?_)
  exact (bcons (sset 2 S.nd (Or.inl rfl) (qcall (o_law_gcd.c (hr.mono (by decide))) T.g__law_gcd T.k__law_gcd rfl (qcons (qblt opd_abs T.z_abs rfl (by decide +kernel) (qcons (qv 0) qnil)) (qcons (qblt opd_abs T.z_abs rfl (by decide +kernel) (qcons (qv 1) qnil)) qnil))))
 (bcons (sset 2 S.nd (Or.inl rfl) (qif (qtcmp opd_gt (qv 1) qint (nomark _)) (qv 2) (qbin opd_sub qint (qv 2))))
 (bone (sret (qtup (qcons (qbin opd_fdiv (qv 0) (qv 2)) (qcons (qbin opd_fdiv (qv 1) (qv 2)) qnil)))))))
theorem ok_law_frac (L : Nat) (T : Tx K mg) (o_law_gcd : OkD (pg K lm) P w mg base 1 (He.ga K "_law_gcd") 2 (m_law_gcd L) []) (F : ∃ fd, FunD K "_law_frac" "_law_frac" (defArgs s_law_frac) (defBody s_law_frac) (defScope s_law_frac) [] [] (He.ga K "_law_frac") fd) : OkD (pg K lm) P w mg base 2 (He.ga K "_law_frac") 2 (m_law_frac L) [] :=
  let ⟨fd, F⟩ := F; ⟨⟨fd, _, [], [], rfl, fn_law_frac L T o_law_gcd F, .nil, F.bindsN (fun _ _ _ _ _ _ us hl => match us, hl with | [_, _], _ => rfl), fun _ _ => .nil⟩, fun ds s h => run_len h⟩
/-! #### _law_start (level 1) -/
abbrev s_law_start : Stmt := top 17
theorem sc_law_start : FnScope (["_law_script"] : List Str) (["_law_script"] : List Str) (defScope s_law_start) := ⟨rfl, rfl, rfl, by decide +kernel, rfl, by decide +kernel, by decide +kernel⟩
def b_law_start (L : Nat) : GS :=
 (gRet (gMut (gCons (gB listD (gCons (gSl (gVar 0) gNo (gPart (gC (.int 63)))) gNil)) (gCons (gC (.int 0)) (gCons (gC (.int 0)) (gCons (gBin addD (gC (.int 49290)) (gB lenD (gCons (gVar 0) gNil))) (gCons (gC (.int 0)) gNil)))))))
def m_law_start (L : Nat) : List DV → Sto → R DV := runK 1 1 (b_law_start L)
theorem fn_law_start (L : Nat) (T : Tx K mg) {fd : FuncData} (F : FunD K "_law_start" "_law_start" (defArgs s_law_start) (defBody s_law_start) (defScope s_law_start) [] [] (He.ga K "_law_start") fd) : FnOk P w K mg base CX0 1 (He.ga K "_law_start") fd (["_law_script"] : List Str) (spD (pg K lm) We0 1 (m_law_start L)) := by
  have S := sc_law_start
  refine def0K' (p := pg K lm) (k := 0) (nN := 1) (n := 1) (b := b_law_start L) (m := m_law_start L) F S rfl rfl (by decide) rfl (fun cdv A outer s H E hr => ?_)
  exact (bone (sret (qmut (qcons (qbty (opd_list rfl) T.z_list rfl (by decide +kernel) (qcons (qsl (qv 0) qno (qpart qint)) qnil)) (qcons qint (qcons qint (qcons (qbin (opd_add rfl) qint (qblt (opd_len rfl) T.z_len rfl PySem.boot_len (qcons (qv 0) qnil))) (qcons qint qnil))))))))
theorem ok_law_start (L : Nat) (T : Tx K mg) (F : ∃ fd, FunD K "_law_start" "_law_start" (defArgs s_law_start) (defBody s_law_start) (defScope s_law_start) [] [] (He.ga K "_law_start") fd) : OkD (pg K lm) P w mg base 1 (He.ga K "_law_start") 1 (m_law_start L) [] :=
  let ⟨fd, F⟩ := F; ⟨⟨fd, _, [], [], rfl, fn_law_start L T  F, .nil, F.bindsN (fun _ _ _ _ _ _ us hl => match us, hl with | [_], _ => rfl), fun _ _ => .nil⟩, fun ds s h => runK_len h⟩
/-! #### law (level 23) -/
abbrev s_law : Stmt := top 28
theorem sc_law : FnScope (["_law_script", "_law_bag", "_law_turn_k", "_law_odd", "_law_asks", "_law_due", "_law_a", "_law_b", "_law_found", "_law_p", "_law_made", "_law_plain", "_law_far", "_law_ask", "_law_one_d"] : List Str) (["_law_script"] : List Str) (defScope s_law) := ⟨rfl, rfl, rfl, by decide +kernel, rfl, by decide +kernel, by decide +kernel⟩
abbrev sl_law_0 : Expr := (nthE (kidE (nthE (kidE (valS (nthS (subS (nthS (defBody s_law) 6)) 0))) 1)) 1)
def lb_law_0 (L : Nat) : GE :=
 (gMake false 4 (m_Ratiodd_initdd L) [] (nxE (gCons (gC (.int 7)) (gCons (gVar 1) gNil))))
abbrev sl_law_1 : Expr := (nthE (kidE (nthE (kidE (valS (nthS (subS (nthS (defBody s_law) 6)) 0))) 1)) 0)
def lb_law_1 (L : Nat) : GE :=
 (gMake false 4 (m_Ratiodd_initdd L) [(.int 1)] (nxE (gCons (gVar 0) gNil)))
abbrev sl_law_2 : Expr := (nthE (kidE (valS (nthS (defBody s_law) 4))) 2)
def lb_law_2 (L : Nat) : GE :=
 (gMake false 4 (m_Ratiodd_initdd L) [] (nxE (gCons (gVar 1) (gCons (gC (.int 0)) gNil))))
abbrev sl_law_3 : Expr := (nthE (kidE (valS (nthS (defBody s_law) 4))) 1)
def lb_law_3 (L : Nat) : GE :=
 (gMake false 4 (m_Ratiodd_initdd L) [] (nxE (gCons (gC (.int 0)) (gCons (gC (.int 0)) gNil))))
abbrev sl_law_4 : Expr := (nthE (kidE (valS (nthS (defBody s_law) 4))) 0)
def lb_law_4 (L : Nat) : GE :=
 (gMake false 4 (m_Ratiodd_initdd L) [] (nxE (gCons (gC (.int 5)) (gCons (gC (.int 0)) gNil))))
def ls_law (L : Nat) : LamD := fun i => match i with
  | 0 => some ([3], [.int 0], lb_law_0 L)
  | 1 => some ([3], [], lb_law_1 L)
  | 2 => some ([3], [.int 0], lb_law_2 L)
  | 3 => some ([], [.int 0], lb_law_3 L)
  | 4 => some ([], [], lb_law_4 L)
  | _ => none
def lms_law (cells : List (Str × Addr)) : Nat → Addr → Addr → Option Xq.LF := fun i c t => match i with
  | 0 => some (lamL (defScope s_law) sl_law_0 "law.<locals>.<lambda>" [.int 0] cells c t)
  | 1 => some (lamL (defScope s_law) sl_law_1 "law.<locals>.<lambda>" [] cells c t)
  | 2 => some (lamL (defScope s_law) sl_law_2 "law.<locals>.<lambda>" [.int 0] cells c t)
  | 3 => some (lamL (defScope s_law) sl_law_3 "law.<locals>.<lambda>" [.int 0] cells c t)
  | 4 => some (lamL (defScope s_law) sl_law_4 "law.<locals>.<lambda>" [] cells c t)
  | _ => none
def b_law (L : Nat) : GS :=
 (gSeq (gSet 1 (gCall (m_law_start L) [] (gCons (gVar 0) gNil)))
 (gSeq (gForR rng1 (gCons (gC (.int 6)) gNil) (tN 2)
 (gSeq (gSet 6 (gCall (m_law_pick L) [] (gCons (gVar 1) (gCons (gLst (gCons (gC (.int 0)) (gCons (gC (.int 1)) (gCons (gUn negD (gC (.int 6))) (gCons (gCall (m_law_pull L) [] (gCons (gVar 1) (gCons (gC (.int 60)) gNil))) (gCons (gUn negD (gCall (m_law_pull L) [] (gCons (gVar 1) (gCons (gBin powD (gC (.int 10)) (gC (.int 29))) gNil)))) (gCons (gBin powD (gC (.int 10)) (gC (.int 29))) gNil))))))) gNil))))
 (gSeq (gSet 7 (gCall (m_law_pick L) [] (gCons (gVar 1) (gCons (gLst (gCons (gC (.int 1)) (gCons (gUn negD (gC (.int 1))) (gCons (gC (.int 4)) (gCons (gBin addD (gC (.int 1)) (gCall (m_law_pull L) [] (gCons (gVar 1) (gCons (gC (.int 60)) gNil)))) (gCons (gBin subD (gUn negD (gC (.int 1))) (gCall (m_law_pull L) [] (gCons (gVar 1) (gCons (gBin powD (gC (.int 10)) (gC (.int 29))) gNil)))) (gCons (gC (.int 12)) gNil))))))) gNil))))
 (gSeq (gPar 9 10 (gCons (gCall (m_law_frac L) [] (gCons (gVar 6) (gCons (gVar 7) gNil))) (gCons (gMake false 4 (m_Ratiodd_initdd L) [] (gCons (gVar 6) (gCons (gVar 7) gNil))) gNil)))
 (gSeq (gSet 8 (gLst (gCons (gUn (atD 15 (sel_top_Ratio L) (fun _ => false)) (gVar 10)) (gCons (gUn (atD 14 (sel_bottom_Ratio L) (fun _ => false)) (gVar 10)) (gCons (gB (txtO (sel_str_op_Ratio L) strB) (gCons (gVar 10) gNil)) (gCons (gB (txtO (sel_repr_op_Ratio L) badB) (gCons (gVar 10) gNil)) (gCons (gB (bolO (sel_bool_op_Ratio L) boolB) (gCons (gVar 10) gNil)) gNil)))))))
 (gSeq (gIfS (gNot (gT (truO (sel_bool_op_Ratio L)) (gCall (m_law_same L 8) [] (gCons (gVar 8) (gCons (gLst (gCons (gBin ixD (gVar 9) (gC (.int 0))) (gCons (gBin ixD (gVar 9) (gC (.int 1))) (gCons (gCall (m_law_text L) [] (gCons (gVar 9) gNil)) (gCons (gBin addD (gBin addD (gC (.str "Ratio(")) (gCall (m_law_text L) [] (gCons (gVar 9) gNil))) (gC (.str ")"))) (gCons (gBin (ownNe (sel_eq_op_Ratio L) neD) (gBin ixD (gVar 9) (gC (.int 0))) (gC (.int 0))) gNil)))))) gNil)))))
 (gRet (gC (.bl false)))
 gNext)
 (gSeq (gPar 11 12 (gCons (gMake false 4 (m_Ratiodd_initdd L) [(.int 1)] (gCons (gVar 6) gNil)) (gCons (gMake false 4 (m_Ratiodd_initdd L) [] (gCons (gBin addD (gBin ixD (gVar 9) (gC (.int 0))) (gBin ixD (gVar 9) (gC (.int 1)))) (gCons (gBin ixD (gVar 9) (gC (.int 1))) gNil))) gNil)))
 (gSeq (gIfS (gNot (gT (truO (sel_bool_op_Ratio L)) (gCall (m_law_same L 8) [] (gCons (gLst (gCons (gUn (atD 15 (sel_top_Ratio L) (fun _ => false)) (gVar 11)) (gCons (gUn (atD 14 (sel_bottom_Ratio L) (fun _ => false)) (gVar 11)) gNil))) (gCons (gLst (gCons (gVar 6) (gCons (gC (.int 1)) gNil))) gNil)))))
 (gRet (gC (.bl false)))
 gNext)
 (gSeq (gIfS (gOr (gNot (gT truB (gBin (ownEqB (sel_eq_op_Ratio L) eqD) (gVar 10) (gMakeK false 4 (m_Ratiodd_initdd L) mix_Ratiodd_initdd_k0_bottom_top gNil (gCons (gBin mulD (gC (.int 3)) (gVar 7)) (gCons (gBin mulD (gC (.int 3)) (gVar 6)) gNil)))))) (gOr (gT truB (gBin (ownEqB (sel_eq_op_Ratio L) eqD) (gVar 10) (gVar 12))) (gT truB (gBin (ownNe (sel_eq_op_Ratio L) neD) (gVar 10) (gMake false 4 (m_Ratiodd_initdd L) [] (gCons (gBin ixD (gVar 9) (gC (.int 0))) (gCons (gBin ixD (gVar 9) (gC (.int 1))) gNil)))))))
 (gRet (gC (.bl false)))
 gNext)
 (gIfS (gOr (gT truB (gBin (ownEqB (sel_eq_op_Ratio L) eqD) (gVar 10) (gCall (m_law_text L) [] (gCons (gVar 9) gNil)))) (gOr (gT truB (gBin (ownEqB (sel_eq_op_Ratio L) eqD) (gVar 10) (gVar 6))) (gOr (gT truB (gBin (ownEqB (sel_eq_op_Ratio L) eqD) (gVar 10) (gVar 9))) (gT truB (gBin (ownEqB (sel_eq_op_Ratio L) eqD) (gVar 11) (gVar 6))))))
 (gRet (gC (.bl false)))
 gNext))))))))))
 (gSeq (gSet 3 (gCall (m_law_stray L) [] (gCons (gVar 1) gNil)))
 (gSeq (gSet 3 (gIf (gAnd (gT truB (gBin (ownEqB (sel_eq_op_Ratio L) eqD) (gVar 3) (gC (.int 1)))) (gNot (gT (truO (sel_bool_op_Ratio L)) (gUn (isiD isi_bool) (gVar 3))))) (gC (.int 0)) (gVar 3)))
 (gSeq (gSet 4 (gLst (gCons (gLamV 4) (gCons (gLamV 3) (gCons (gLamV 2) gNil)))))
 (gSeq (gSet 5 (gLst (gCons (gTup (gCons (gC (.int 5)) (gCons (gC (.int 0)) gNil))) (gCons (gTup (gCons (gC (.int 0)) (gCons (gC (.int 0)) gNil))) (gCons (gTup (gCons (gVar 3) (gCons (gC (.int 0)) gNil))) gNil)))))
 (gSeq (gIfS (gOr (gT truB (gBin (ownNe (sel_eq_op_Ratio L) neD) (gVar 3) (gC (.int 0)))) (gT (truO (sel_bool_op_Ratio L)) (gUn (isiD isi_bool) (gVar 3))))
 (gSeq (gSet 4 (gBin addD (gVar 4) (gLst (gCons (gLamV 1) (gCons (gLamV 0) gNil)))))
 (gSet 5 (gBin addD (gVar 5) (gLst (gCons (gTup (gCons (gVar 3) (gCons (gC (.int 1)) gNil))) (gCons (gTup (gCons (gC (.int 7)) (gCons (gVar 3) gNil))) gNil))))))
 gNext)
 (gRet (gCall (m_law_same L 8) [] (gCons (gLc (gVar 4) (tN 13) [13] gYes (gLamAsk (h_law_try L) (ls_law L) 13)) (gCons (gLc (gVar 5) (tN 14) [14] gYes (gTup (gCons (gC (.str "no")) (gCons (gC (.str "InvalidRatio")) (gCons (gVar 14) gNil))))) gNil)))))))))))
def m_law (L : Nat) : List DV → Sto → R DV := runB 15 1 (b_law L)
theorem lo_law_0 (L : Nat) (T : Tx K mg) (o_law_same : OkD (pg K lm) P w mg base 10 (He.ga K "_law_same") 2 (m_law_same L 8) []) (o_Ratiodd_eqdd : OkD (pg K lm) P w mg base 1 (He.ma K (He.ga K "Ratio") "__eq__") 2 (m_Ratiodd_eqdd L) []) (o_Ratiodd_booldd : OkD (pg K lm) P w mg base 1 (He.ma K (He.ga K "Ratio") "__bool__") 1 (m_Ratiodd_booldd L) []) (o_Ratiodd_initdd : OkX (pg K lm) P w mg base 2 (He.ma K (He.ga K "Ratio") "__init__") 3 (m_Ratiodd_initdd L) []) (o_Ratiodd_initdd_d1 : OkX (pg K lm) P w mg base 2 (He.ma K (He.ga K "Ratio") "__init__") 3 (m_Ratiodd_initdd L) [(.int 1)]) (o_law_stray : OkD (pg K lm) P w mg base 3 (He.ga K "_law_stray") 1 (m_law_stray L) []) (o_law_text : OkD (pg K lm) P w mg base 1 (He.ga K "_law_text") 1 (m_law_text L) []) (o_Ratiodd_initdd_k0_bottom_top : OkMKX (pg K lm) P w mg base 2 (He.ma K (He.ga K "Ratio") "__init__") 3 (m_Ratiodd_initdd L) 0 (["bottom", "top"] : List Str) mix_Ratiodd_initdd_k0_bottom_top) (o_Ratio_bottom : OkD (pg K lm) P w mg base 1 (pga K (He.ma K (He.ga K "Ratio") "bottom")) 1 (m_Ratio_bottom L) []) (o_Ratio_top : OkD (pg K lm) P w mg base 1 (pga K (He.ma K (He.ga K "Ratio") "top")) 1 (m_Ratio_top L) []) (o_Ratiodd_reprdd : OkD (pg K lm) P w mg base 5 (He.ma K (He.ga K "Ratio") "__repr__") 1 (m_Ratiodd_reprdd L) []) (o_Ratiodd_strdd : OkD (pg K lm) P w mg base 2 (He.ma K (He.ga K "Ratio") "__str__") 1 (m_Ratiodd_strdd L) []) (o_law_frac : OkD (pg K lm) P w mg base 2 (He.ga K "_law_frac") 2 (m_law_frac L) []) (o_law_pick : OkD (pg K lm) P w mg base 2 (He.ga K "_law_pick") 2 (m_law_pick L) []) (o_law_pull : OkD (pg K lm) P w mg base 1 (He.ga K "_law_pull") 2 (m_law_pull L) []) (o_law_start : OkD (pg K lm) P w mg base 1 (He.ga K "_law_start") 1 (m_law_start L) []) (o2_law_try : GivT (pg K lm) P w mg base 22 (He.ga K "_law_try") (h_law_try L)) (TB : LamX.TabB base mg (lawC K) (lawP K)) (hB : lawB K = true) (cells : List (Str × Addr)) : LamOk (pg K lm) P w mg base 20 (lamL (defScope s_law) sl_law_0 "law.<locals>.<lambda>" [.int 0] cells) (["_law_a_z", "_law_odd"] : List Str) (["_law_a_z"] : List Str) (["_law_odd"] : List Str) [.int 0] (lb_law_0 L) := by
  refine ⟨fun _ _ => NdefX.nscope_by (show NdefX.nscB _ _ _ (lamSc sl_law_0 (defScope s_law)) = true from by decide +kernel), rfl, rfl, fun _ _ _ _ => .cons (.int _) .nil, bnd1 (fun _ _ => List.cons_ne_nil _ _) (fun _ _ => rfl) (fun _ _ _ _ _ _ => ⟨_, rfl, rfl⟩), fun _ _ => rfl, fun _ _ => rfl, fun c t f A outer s H E hr => ?_⟩
  exact (qmake (OkX.mkc (c := 4) o_Ratiodd_initdd T.mk_Ratio (hr.mono (by decide)) ncxTakes) T.g_Ratio rfl (lfL (qcons qint (qcons (qv 1) qnil))))
theorem lo_law_1 (L : Nat) (T : Tx K mg) (o_law_same : OkD (pg K lm) P w mg base 10 (He.ga K "_law_same") 2 (m_law_same L 8) []) (o_Ratiodd_eqdd : OkD (pg K lm) P w mg base 1 (He.ma K (He.ga K "Ratio") "__eq__") 2 (m_Ratiodd_eqdd L) []) (o_Ratiodd_booldd : OkD (pg K lm) P w mg base 1 (He.ma K (He.ga K "Ratio") "__bool__") 1 (m_Ratiodd_booldd L) []) (o_Ratiodd_initdd : OkX (pg K lm) P w mg base 2 (He.ma K (He.ga K "Ratio") "__init__") 3 (m_Ratiodd_initdd L) []) (o_Ratiodd_initdd_d1 : OkX (pg K lm) P w mg base 2 (He.ma K (He.ga K "Ratio") "__init__") 3 (m_Ratiodd_initdd L) [(.int 1)]) (o_law_stray : OkD (pg K lm) P w mg base 3 (He.ga K "_law_stray") 1 (m_law_stray L) []) (o_law_text : OkD (pg K lm) P w mg base 1 (He.ga K "_law_text") 1 (m_law_text L) []) (o_Ratiodd_initdd_k0_bottom_top : OkMKX (pg K lm) P w mg base 2 (He.ma K (He.ga K "Ratio") "__init__") 3 (m_Ratiodd_initdd L) 0 (["bottom", "top"] : List Str) mix_Ratiodd_initdd_k0_bottom_top) (o_Ratio_bottom : OkD (pg K lm) P w mg base 1 (pga K (He.ma K (He.ga K "Ratio") "bottom")) 1 (m_Ratio_bottom L) []) (o_Ratio_top : OkD (pg K lm) P w mg base 1 (pga K (He.ma K (He.ga K "Ratio") "top")) 1 (m_Ratio_top L) []) (o_Ratiodd_reprdd : OkD (pg K lm) P w mg base 5 (He.ma K (He.ga K "Ratio") "__repr__") 1 (m_Ratiodd_reprdd L) []) (o_Ratiodd_strdd : OkD (pg K lm) P w mg base 2 (He.ma K (He.ga K "Ratio") "__str__") 1 (m_Ratiodd_strdd L) []) (o_law_frac : OkD (pg K lm) P w mg base 2 (He.ga K "_law_frac") 2 (m_law_frac L) []) (o_law_pick : OkD (pg K lm) P w mg base 2 (He.ga K "_law_pick") 2 (m_law_pick L) []) (o_law_pull : OkD (pg K lm) P w mg base 1 (He.ga K "_law_pull") 2 (m_law_pull L) []) (o_law_start : OkD (pg K lm) P w mg base 1 (He.ga K "_law_start") 1 (m_law_start L) []) (o2_law_try : GivT (pg K lm) P w mg base 22 (He.ga K "_law_try") (h_law_try L)) (TB : LamX.TabB base mg (lawC K) (lawP K)) (hB : lawB K = true) (cells : List (Str × Addr)) : LamOk (pg K lm) P w mg base 20 (lamL (defScope s_law) sl_law_1 "law.<locals>.<lambda>" [] cells) (["_law_odd"] : List Str) ([] : List Str) (["_law_odd"] : List Str) [] (lb_law_1 L) := by
  refine ⟨fun _ _ => NdefX.nscope_by (show NdefX.nscB _ _ _ (lamSc sl_law_1 (defScope s_law)) = true from by decide +kernel), rfl, rfl, fun _ _ _ _ => .nil, bnd0 (fun _ _ _ _ _ => rfl), fun _ _ => rfl, fun _ _ => rfl, fun c t f A outer s H E hr => ?_⟩
  exact (qmake (OkX.mkc (c := 4) o_Ratiodd_initdd_d1 T.mk_Ratio (hr.mono (by decide)) ncxTakes) T.g_Ratio rfl (lfL (qcons (qv 0) qnil)))
theorem lo_law_2 (L : Nat) (T : Tx K mg) (o_law_same : OkD (pg K lm) P w mg base 10 (He.ga K "_law_same") 2 (m_law_same L 8) []) (o_Ratiodd_eqdd : OkD (pg K lm) P w mg base 1 (He.ma K (He.ga K "Ratio") "__eq__") 2 (m_Ratiodd_eqdd L) []) (o_Ratiodd_booldd : OkD (pg K lm) P w mg base 1 (He.ma K (He.ga K "Ratio") "__bool__") 1 (m_Ratiodd_booldd L) []) (o_Ratiodd_initdd : OkX (pg K lm) P w mg base 2 (He.ma K (He.ga K "Ratio") "__init__") 3 (m_Ratiodd_initdd L) []) (o_Ratiodd_initdd_d1 : OkX (pg K lm) P w mg base 2 (He.ma K (He.ga K "Ratio") "__init__") 3 (m_Ratiodd_initdd L) [(.int 1)]) (o_law_stray : OkD (pg K lm) P w mg base 3 (He.ga K "_law_stray") 1 (m_law_stray L) []) (o_law_text : OkD (pg K lm) P w mg base 1 (He.ga K "_law_text") 1 (m_law_text L) []) (o_Ratiodd_initdd_k0_bottom_top : OkMKX (pg K lm) P w mg base 2 (He.ma K (He.ga K "Ratio") "__init__") 3 (m_Ratiodd_initdd L) 0 (["bottom", "top"] : List Str) mix_Ratiodd_initdd_k0_bottom_top) (o_Ratio_bottom : OkD (pg K lm) P w mg base 1 (pga K (He.ma K (He.ga K "Ratio") "bottom")) 1 (m_Ratio_bottom L) []) (o_Ratio_top : OkD (pg K lm) P w mg base 1 (pga K (He.ma K (He.ga K "Ratio") "top")) 1 (m_Ratio_top L) []) (o_Ratiodd_reprdd : OkD (pg K lm) P w mg base 5 (He.ma K (He.ga K "Ratio") "__repr__") 1 (m_Ratiodd_reprdd L) []) (o_Ratiodd_strdd : OkD (pg K lm) P w mg base 2 (He.ma K (He.ga K "Ratio") "__str__") 1 (m_Ratiodd_strdd L) []) (o_law_frac : OkD (pg K lm) P w mg base 2 (He.ga K "_law_frac") 2 (m_law_frac L) []) (o_law_pick : OkD (pg K lm) P w mg base 2 (He.ga K "_law_pick") 2 (m_law_pick L) []) (o_law_pull : OkD (pg K lm) P w mg base 1 (He.ga K "_law_pull") 2 (m_law_pull L) []) (o_law_start : OkD (pg K lm) P w mg base 1 (He.ga K "_law_start") 1 (m_law_start L) []) (o2_law_try : GivT (pg K lm) P w mg base 22 (He.ga K "_law_try") (h_law_try L)) (TB : LamX.TabB base mg (lawC K) (lawP K)) (hB : lawB K = true) (cells : List (Str × Addr)) : LamOk (pg K lm) P w mg base 20 (lamL (defScope s_law) sl_law_2 "law.<locals>.<lambda>" [.int 0] cells) (["_law_b_z", "_law_odd"] : List Str) (["_law_b_z"] : List Str) (["_law_odd"] : List Str) [.int 0] (lb_law_2 L) := by
  refine ⟨fun _ _ => NdefX.nscope_by (show NdefX.nscB _ _ _ (lamSc sl_law_2 (defScope s_law)) = true from by decide +kernel), rfl, rfl, fun _ _ _ _ => .cons (.int _) .nil, bnd1 (fun _ _ => List.cons_ne_nil _ _) (fun _ _ => rfl) (fun _ _ _ _ _ _ => ⟨_, rfl, rfl⟩), fun _ _ => rfl, fun _ _ => rfl, fun c t f A outer s H E hr => ?_⟩
  exact (qmake (OkX.mkc (c := 4) o_Ratiodd_initdd T.mk_Ratio (hr.mono (by decide)) ncxTakes) T.g_Ratio rfl (lfL (qcons (qv 1) (qcons qint qnil))))
theorem lo_law_3 (L : Nat) (T : Tx K mg) (o_law_same : OkD (pg K lm) P w mg base 10 (He.ga K "_law_same") 2 (m_law_same L 8) []) (o_Ratiodd_eqdd : OkD (pg K lm) P w mg base 1 (He.ma K (He.ga K "Ratio") "__eq__") 2 (m_Ratiodd_eqdd L) []) (o_Ratiodd_booldd : OkD (pg K lm) P w mg base 1 (He.ma K (He.ga K "Ratio") "__bool__") 1 (m_Ratiodd_booldd L) []) (o_Ratiodd_initdd : OkX (pg K lm) P w mg base 2 (He.ma K (He.ga K "Ratio") "__init__") 3 (m_Ratiodd_initdd L) []) (o_Ratiodd_initdd_d1 : OkX (pg K lm) P w mg base 2 (He.ma K (He.ga K "Ratio") "__init__") 3 (m_Ratiodd_initdd L) [(.int 1)]) (o_law_stray : OkD (pg K lm) P w mg base 3 (He.ga K "_law_stray") 1 (m_law_stray L) []) (o_law_text : OkD (pg K lm) P w mg base 1 (He.ga K "_law_text") 1 (m_law_text L) []) (o_Ratiodd_initdd_k0_bottom_top : OkMKX (pg K lm) P w mg base 2 (He.ma K (He.ga K "Ratio") "__init__") 3 (m_Ratiodd_initdd L) 0 (["bottom", "top"] : List Str) mix_Ratiodd_initdd_k0_bottom_top) (o_Ratio_bottom : OkD (pg K lm) P w mg base 1 (pga K (He.ma K (He.ga K "Ratio") "bottom")) 1 (m_Ratio_bottom L) []) (o_Ratio_top : OkD (pg K lm) P w mg base 1 (pga K (He.ma K (He.ga K "Ratio") "top")) 1 (m_Ratio_top L) []) (o_Ratiodd_reprdd : OkD (pg K lm) P w mg base 5 (He.ma K (He.ga K "Ratio") "__repr__") 1 (m_Ratiodd_reprdd L) []) (o_Ratiodd_strdd : OkD (pg K lm) P w mg base 2 (He.ma K (He.ga K "Ratio") "__str__") 1 (m_Ratiodd_strdd L) []) (o_law_frac : OkD (pg K lm) P w mg base 2 (He.ga K "_law_frac") 2 (m_law_frac L) []) (o_law_pick : OkD (pg K lm) P w mg base 2 (He.ga K "_law_pick") 2 (m_law_pick L) []) (o_law_pull : OkD (pg K lm) P w mg base 1 (He.ga K "_law_pull") 2 (m_law_pull L) []) (o_law_start : OkD (pg K lm) P w mg base 1 (He.ga K "_law_start") 1 (m_law_start L) []) (o2_law_try : GivT (pg K lm) P w mg base 22 (He.ga K "_law_try") (h_law_try L)) (TB : LamX.TabB base mg (lawC K) (lawP K)) (hB : lawB K = true) (cells : List (Str × Addr)) : LamOk (pg K lm) P w mg base 20 (lamL (defScope s_law) sl_law_3 "law.<locals>.<lambda>" [.int 0] cells) (["_law_a_z"] : List Str) (["_law_a_z"] : List Str) ([] : List Str) [.int 0] (lb_law_3 L) := by
  refine ⟨fun _ _ => NdefX.nscope_by (show NdefX.nscB _ _ _ (lamSc sl_law_3 (defScope s_law)) = true from by decide +kernel), rfl, rfl, fun _ _ _ _ => .cons (.int _) .nil, bnd1 (fun _ _ => List.cons_ne_nil _ _) (fun _ _ => rfl) (fun _ _ _ _ _ _ => ⟨_, rfl, rfl⟩), fun _ _ => rfl, fun _ _ => rfl, fun c t f A outer s H E hr => ?_⟩
  exact (qmake (OkX.mkc (c := 4) o_Ratiodd_initdd T.mk_Ratio (hr.mono (by decide)) ncxTakes) T.g_Ratio rfl (lfL (qcons qint (qcons qint qnil))))
theorem lo_law_4 (L : Nat) (T : Tx K mg) (o_law_same : OkD (pg K lm) P w mg base 10 (He.ga K "_law_same") 2 (m_law_same L 8) []) (o_Ratiodd_eqdd : OkD (pg K lm) P w mg base 1 (He.ma K (He.ga K "Ratio") "__eq__") 2 (m_Ratiodd_eqdd L) []) (o_Ratiodd_booldd : OkD (pg K lm) P w mg base 1 (He.ma K (He.ga K "Ratio") "__bool__") 1 (m_Ratiodd_booldd L) []) (o_Ratiodd_initdd : OkX (pg K lm) P w mg base 2 (He.ma K (He.ga K "Ratio") "__init__") 3 (m_Ratiodd_initdd L) []) (o_Ratiodd_initdd_d1 : OkX (pg K lm) P w mg base 2 (He.ma K (He.ga K "Ratio") "__init__") 3 (m_Ratiodd_initdd L) [(.int 1)]) (o_law_stray : OkD (pg K lm) P w mg base 3 (He.ga K "_law_stray") 1 (m_law_stray L) []) (o_law_text : OkD (pg K lm) P w mg base 1 (He.ga K "_law_text") 1 (m_law_text L) []) (o_Ratiodd_initdd_k0_bottom_top : OkMKX (pg K lm) P w mg base 2 (He.ma K (He.ga K "Ratio") "__init__") 3 (m_Ratiodd_initdd L) 0 (["bottom", "top"] : List Str) mix_Ratiodd_initdd_k0_bottom_top) (o_Ratio_bottom : OkD (pg K lm) P w mg base 1 (pga K (He.ma K (He.ga K "Ratio") "bottom")) 1 (m_Ratio_bottom L) []) (o_Ratio_top : OkD (pg K lm) P w mg base 1 (pga K (He.ma K (He.ga K "Ratio") "top")) 1 (m_Ratio_top L) []) (o_Ratiodd_reprdd : OkD (pg K lm) P w mg base 5 (He.ma K (He.ga K "Ratio") "__repr__") 1 (m_Ratiodd_reprdd L) []) (o_Ratiodd_strdd : OkD (pg K lm) P w mg base 2 (He.ma K (He.ga K "Ratio") "__str__") 1 (m_Ratiodd_strdd L) []) (o_law_frac : OkD (pg K lm) P w mg base 2 (He.ga K "_law_frac") 2 (m_law_frac L) []) (o_law_pick : OkD (pg K lm) P w mg base 2 (He.ga K "_law_pick") 2 (m_law_pick L) []) (o_law_pull : OkD (pg K lm) P w mg base 1 (He.ga K "_law_pull") 2 (m_law_pull L) []) (o_law_start : OkD (pg K lm) P w mg base 1 (He.ga K "_law_start") 1 (m_law_start L) []) (o2_law_try : GivT (pg K lm) P w mg base 22 (He.ga K "_law_try") (h_law_try L)) (TB : LamX.TabB base mg (lawC K) (lawP K)) (hB : lawB K = true) (cells : List (Str × Addr)) : LamOk (pg K lm) P w mg base 20 (lamL (defScope s_law) sl_law_4 "law.<locals>.<lambda>" [] cells) ([] : List Str) ([] : List Str) ([] : List Str) [] (lb_law_4 L) := by
  refine ⟨fun _ _ => NdefX.nscope_by (show NdefX.nscB _ _ _ (lamSc sl_law_4 (defScope s_law)) = true from by decide +kernel), rfl, rfl, fun _ _ _ _ => .nil, bnd0 (fun _ _ _ _ _ => rfl), fun _ _ => rfl, fun _ _ => rfl, fun c t f A outer s H E hr => ?_⟩
  exact (qmake (OkX.mkc (c := 4) o_Ratiodd_initdd T.mk_Ratio (hr.mono (by decide)) ncxTakes) T.g_Ratio rfl (lfL (qcons qint (qcons qint qnil))))
theorem body_law (L : Nat) (T : Tx K mg) (o_law_same : OkD (pg K lm) P w mg base 10 (He.ga K "_law_same") 2 (m_law_same L 8) []) (o_Ratiodd_eqdd : OkD (pg K lm) P w mg base 1 (He.ma K (He.ga K "Ratio") "__eq__") 2 (m_Ratiodd_eqdd L) []) (o_Ratiodd_booldd : OkD (pg K lm) P w mg base 1 (He.ma K (He.ga K "Ratio") "__bool__") 1 (m_Ratiodd_booldd L) []) (o_Ratiodd_initdd : OkX (pg K lm) P w mg base 2 (He.ma K (He.ga K "Ratio") "__init__") 3 (m_Ratiodd_initdd L) []) (o_Ratiodd_initdd_d1 : OkX (pg K lm) P w mg base 2 (He.ma K (He.ga K "Ratio") "__init__") 3 (m_Ratiodd_initdd L) [(.int 1)]) (o_law_stray : OkD (pg K lm) P w mg base 3 (He.ga K "_law_stray") 1 (m_law_stray L) []) (o_law_text : OkD (pg K lm) P w mg base 1 (He.ga K "_law_text") 1 (m_law_text L) []) (o_Ratiodd_initdd_k0_bottom_top : OkMKX (pg K lm) P w mg base 2 (He.ma K (He.ga K "Ratio") "__init__") 3 (m_Ratiodd_initdd L) 0 (["bottom", "top"] : List Str) mix_Ratiodd_initdd_k0_bottom_top) (o_Ratio_bottom : OkD (pg K lm) P w mg base 1 (pga K (He.ma K (He.ga K "Ratio") "bottom")) 1 (m_Ratio_bottom L) []) (o_Ratio_top : OkD (pg K lm) P w mg base 1 (pga K (He.ma K (He.ga K "Ratio") "top")) 1 (m_Ratio_top L) []) (o_Ratiodd_reprdd : OkD (pg K lm) P w mg base 5 (He.ma K (He.ga K "Ratio") "__repr__") 1 (m_Ratiodd_reprdd L) []) (o_Ratiodd_strdd : OkD (pg K lm) P w mg base 2 (He.ma K (He.ga K "Ratio") "__str__") 1 (m_Ratiodd_strdd L) []) (o_law_frac : OkD (pg K lm) P w mg base 2 (He.ga K "_law_frac") 2 (m_law_frac L) []) (o_law_pick : OkD (pg K lm) P w mg base 2 (He.ga K "_law_pick") 2 (m_law_pick L) []) (o_law_pull : OkD (pg K lm) P w mg base 1 (He.ga K "_law_pull") 2 (m_law_pull L) []) (o_law_start : OkD (pg K lm) P w mg base 1 (He.ga K "_law_start") 1 (m_law_start L) []) (o2_law_try : GivT (pg K lm) P w mg base 22 (He.ga K "_law_try") (h_law_try L)) (TB : LamX.TabB base mg (lawC K) (lawP K)) (hB : lawB K = true) (A : Around) (outer : List Env) (s : Shared) (H : Hp) (E : XK) (hr : Room 22 (A.deeper (envOfC "law" (defScope s_law) s.heap.objs.size (He.ga K "law") (.ref (lawC K))))) (hlm : lm = lms_law (envOfC "law" (defScope s_law) s.heap.objs.size (He.ga K "law") (.ref (lawC K))).cells) : PSs (cxOf CX0 P w K mg base (["_law_script", "_law_bag", "_law_turn_k", "_law_odd", "_law_asks", "_law_due", "_law_a", "_law_b", "_law_found", "_law_p", "_law_made", "_law_plain", "_law_far", "_law_ask", "_law_one_d"] : List Str) "law" (defScope s_law) (He.ga K "law") (.ref (lawC K)) A outer s H E).nox (defBody s_law) (rdS (pg K lm) W0 (b_law L)) := by
  have S := sc_law
  have LS_13 : LamsOk (pg K lm) 20 ((cxOf CX0 P w K mg base (["_law_script", "_law_bag", "_law_turn_k", "_law_odd", "_law_asks", "_law_due", "_law_a", "_law_b", "_law_found", "_law_p", "_law_made", "_law_plain", "_law_far", "_law_ask", "_law_one_d"] : List Str) "law" (defScope s_law) (He.ga K "law") (.ref (lawC K)) A outer s H E).nox) [13] (ls_law L) := by
    intro i js vsD gb e
    match i, e with
    | 0, e =>
      cases e
      exact ⟨by decide, _, _, _, _, lo_law_0 (P := P) (w := w) (base := base) L T o_law_same o_Ratiodd_eqdd o_Ratiodd_booldd o_Ratiodd_initdd o_Ratiodd_initdd_d1 o_law_stray o_law_text o_Ratiodd_initdd_k0_bottom_top o_Ratio_bottom o_Ratio_top o_Ratiodd_reprdd o_Ratiodd_strdd o_law_frac o_law_pick o_law_pull o_law_start o2_law_try TB hB (envOfC "law" (defScope s_law) s.heap.objs.size (He.ga K "law") (.ref (lawC K))).cells, fun _ _ => by subst hlm; rfl, caps_of rfl (show NdefX.ndefB (defScope s_law) _ _ = true from by decide +kernel) rfl⟩
    | 1, e =>
      cases e
      exact ⟨by decide, _, _, _, _, lo_law_1 (P := P) (w := w) (base := base) L T o_law_same o_Ratiodd_eqdd o_Ratiodd_booldd o_Ratiodd_initdd o_Ratiodd_initdd_d1 o_law_stray o_law_text o_Ratiodd_initdd_k0_bottom_top o_Ratio_bottom o_Ratio_top o_Ratiodd_reprdd o_Ratiodd_strdd o_law_frac o_law_pick o_law_pull o_law_start o2_law_try TB hB (envOfC "law" (defScope s_law) s.heap.objs.size (He.ga K "law") (.ref (lawC K))).cells, fun _ _ => by subst hlm; rfl, caps_of rfl (show NdefX.ndefB (defScope s_law) _ _ = true from by decide +kernel) rfl⟩
    | 2, e =>
      cases e
      exact ⟨by decide, _, _, _, _, lo_law_2 (P := P) (w := w) (base := base) L T o_law_same o_Ratiodd_eqdd o_Ratiodd_booldd o_Ratiodd_initdd o_Ratiodd_initdd_d1 o_law_stray o_law_text o_Ratiodd_initdd_k0_bottom_top o_Ratio_bottom o_Ratio_top o_Ratiodd_reprdd o_Ratiodd_strdd o_law_frac o_law_pick o_law_pull o_law_start o2_law_try TB hB (envOfC "law" (defScope s_law) s.heap.objs.size (He.ga K "law") (.ref (lawC K))).cells, fun _ _ => by subst hlm; rfl, caps_of rfl (show NdefX.ndefB (defScope s_law) _ _ = true from by decide +kernel) rfl⟩
    | 3, e =>
      cases e
      exact ⟨by decide, _, _, _, _, lo_law_3 (P := P) (w := w) (base := base) L T o_law_same o_Ratiodd_eqdd o_Ratiodd_booldd o_Ratiodd_initdd o_Ratiodd_initdd_d1 o_law_stray o_law_text o_Ratiodd_initdd_k0_bottom_top o_Ratio_bottom o_Ratio_top o_Ratiodd_reprdd o_Ratiodd_strdd o_law_frac o_law_pick o_law_pull o_law_start o2_law_try TB hB (envOfC "law" (defScope s_law) s.heap.objs.size (He.ga K "law") (.ref (lawC K))).cells, fun _ _ => by subst hlm; rfl, caps_of rfl (show NdefX.ndefB (defScope s_law) _ _ = true from by decide +kernel) rfl⟩
    | 4, e =>
      cases e
      exact ⟨by decide, _, _, _, _, lo_law_4 (P := P) (w := w) (base := base) L T o_law_same o_Ratiodd_eqdd o_Ratiodd_booldd o_Ratiodd_initdd o_Ratiodd_initdd_d1 o_law_stray o_law_text o_Ratiodd_initdd_k0_bottom_top o_Ratio_bottom o_Ratio_top o_Ratiodd_reprdd o_Ratiodd_strdd o_law_frac o_law_pick o_law_pull o_law_start o2_law_try TB hB (envOfC "law" (defScope s_law) s.heap.objs.size (He.ga K "law") (.ref (lawC K))).cells, fun _ _ => by subst hlm; rfl, caps_of rfl (show NdefX.ndefB (defScope s_law) _ _ = true from by decide +kernel) rfl⟩
  exact (bcons (sset 1 S.nd (Or.inl rfl) (qcall (o_law_start.c (hr.mono (by decide))) T.g__law_start T.k__law_start rfl (qcons (qv 0) qnil)))
 (bcons (sforR1 PassesOwn.never rfl rfl T.z_range (qcons qint qnil) (gname 2 S.nd (Or.inl rfl))
 (bcons (sset 6 S.nd (Or.inl rfl) (qcall (o_law_pick.c (hr.mono (by decide))) T.g__law_pick T.k__law_pick rfl (qcons (qv 1) (qcons (qlst (qcons qint (qcons qint (qcons (qun opd_neg qint) (qcons (qcall (o_law_pull.c (hr.mono (by decide))) T.g__law_pull T.k__law_pull rfl (qcons (qv 1) (qcons qint qnil))) (qcons (qun opd_neg (qcall (o_law_pull.c (hr.mono (by decide))) T.g__law_pull T.k__law_pull rfl (qcons (qv 1) (qcons (qbin opd_pow qint qint) qnil)))) (qcons (qbin opd_pow qint qint) qnil))))))) qnil))))
 (bcons (sset 7 S.nd (Or.inl rfl) (qcall (o_law_pick.c (hr.mono (by decide))) T.g__law_pick T.k__law_pick rfl (qcons (qv 1) (qcons (qlst (qcons qint (qcons (qun opd_neg qint) (qcons qint (qcons (qbin (opd_add rfl) qint (qcall (o_law_pull.c (hr.mono (by decide))) T.g__law_pull T.k__law_pull rfl (qcons (qv 1) (qcons qint qnil)))) (qcons (qbin opd_sub (qun opd_neg qint) (qcall (o_law_pull.c (hr.mono (by decide))) T.g__law_pull T.k__law_pull rfl (qcons (qv 1) (qcons (qbin opd_pow qint qint) qnil)))) (qcons qint qnil))))))) qnil))))
 (bcons (spar (i := 9) (j := 10) rfl S.nd rfl rfl (by decide) rfl rfl (qcons (qcall (o_law_frac.c (hr.mono (by decide))) T.g__law_frac T.k__law_frac rfl (qcons (qv 6) (qcons (qv 7) qnil))) (qcons (qmake (OkX.mkc0 (c := 4) o_Ratiodd_initdd T.mk_Ratio (hr.mono (by decide))) T.g_Ratio rfl (qcons (qv 6) (qcons (qv 7) qnil))) qnil)) rfl)
 (bcons (sset 8 S.nd (Or.inl rfl) (qlst (qcons (qattr (qv 10) (fun c f h => match c, h with | 0, h => nomatch h | 1, h => nomatch h | 2, h => nomatch h | 3, h => nomatch h | 4, h => by cases h; exact (OkD.pr (c := 4) (name := "top") o_Ratio_top T.cl_Ratio T.pr_Ratio_top (hr.mono (by decide))) | _ + 5, h => nomatch h) (fun c h => nomatch h)) (qcons (qattr (qv 10) (fun c f h => match c, h with | 0, h => nomatch h | 1, h => nomatch h | 2, h => nomatch h | 3, h => nomatch h | 4, h => by cases h; exact (OkD.pr (c := 4) (name := "bottom") o_Ratio_bottom T.cl_Ratio T.pr_Ratio_bottom (hr.mono (by decide))) | _ + 5, h => nomatch h) (fun c h => nomatch h)) (qcons (qbty (opd_strO (un2 hr) opd_str (fun c f h => match c, h with | 0, h => nomatch h | 1, h => nomatch h | 2, h => nomatch h | 3, h => nomatch h | 4, h => by cases h; exact (OkD.sp2 (c := 4) (name := "__str__") o_Ratiodd_strdd T.sp_Ratio_str.1 T.sp_Ratio_str.2 (hr.mono (by decide))) | _ + 5, h => nomatch h)) T.z_str rfl (by decide +kernel) (qcons (qv 10) qnil)) (qcons (qblt (opd_reprO (un1' hr) opd_badB (fun c f h => match c, h with | 0, h => nomatch h | 1, h => nomatch h | 2, h => nomatch h | 3, h => nomatch h | 4, h => by cases h; exact (OkD.sp1 (c := 4) (name := "__repr__") o_Ratiodd_reprdd T.sp_Ratio_repr.1 T.sp_Ratio_repr.2 (hr.mono (by decide))) | _ + 5, h => nomatch h)) T.z_repr rfl (by decide +kernel) (qcons (qv 10) qnil)) (qcons (qbty (opd_bolO opd_bool (fun c f h => match c, h with | 0, h => nomatch h | 1, h => nomatch h | 2, h => nomatch h | 3, h => nomatch h | 4, h => by cases h; exact (OkD.sp2 (c := 4) (name := "__bool__") o_Ratiodd_booldd T.sp_Ratio_bool.1 T.sp_Ratio_bool.2 (hr.mono (by decide))) | _ + 5, h => nomatch h)) T.z_bool rfl (by decide +kernel) (qcons (qv 10) qnil)) qnil)))))))
 (bcons (sif (qtnot (qtO (qcall (o_law_same.c (hr.mono (by decide))) T.g__law_same T.k__law_same rfl (qcons (qv 8) (qcons (qlst (qcons (qix (qv 9) qint (fun _ _ => rfl)) (qcons (qix (qv 9) qint (fun _ _ => rfl)) (qcons (qcall (o_law_text.c (hr.mono (by decide))) T.g__law_text T.k__law_text rfl (qcons (qv 9) qnil)) (qcons (qbin (opd_add rfl) (qbin (opd_add rfl) qstr (qcall (o_law_text.c (hr.mono (by decide))) T.g__law_text T.k__law_text rfl (qcons (qv 9) qnil))) qstr) (qcons (qcmp (opd_ownNe (un1 hr) (opd_ne rfl hr.units) (fun c f h => match c, h with | 0, h => nomatch h | 1, h => nomatch h | 2, h => nomatch h | 3, h => nomatch h | 4, h => by cases h; exact (OkD.ne (c := 4) o_Ratiodd_eqdd T.sp_Ratio_eq.1 T.sp_Ratio_eq.2 T.ne_Ratio (hr.mono (by decide))) | _ + 5, h => nomatch h)) (qix (qv 9) qint (fun _ _ => rfl)) qint (nomark _)) qnil)))))) qnil))) (fun c f h => match c, h with | 0, h => nomatch h | 1, h => nomatch h | 2, h => nomatch h | 3, h => nomatch h | 4, h => by cases h; exact (OkD.sp (c := 4) (name := "__bool__") o_Ratiodd_booldd T.sp_Ratio_bool.1 T.sp_Ratio_bool.2 (hr.mono (by decide))) | _ + 5, h => nomatch h)))
 (bone (sret qbl))
 bnil)
 (bcons (spar (i := 11) (j := 12) rfl S.nd rfl rfl (by decide) rfl rfl (qcons (qmake (OkX.mkc0 (c := 4) o_Ratiodd_initdd_d1 T.mk_Ratio (hr.mono (by decide))) T.g_Ratio rfl (qcons (qv 6) qnil)) (qcons (qmake (OkX.mkc0 (c := 4) o_Ratiodd_initdd T.mk_Ratio (hr.mono (by decide))) T.g_Ratio rfl (qcons (qbin (opd_add rfl) (qix (qv 9) qint (fun _ _ => rfl)) (qix (qv 9) qint (fun _ _ => rfl))) (qcons (qix (qv 9) qint (fun _ _ => rfl)) qnil))) qnil)) rfl)
 (bcons (sif (qtnot (qtO (qcall (o_law_same.c (hr.mono (by decide))) T.g__law_same T.k__law_same rfl (qcons (qlst (qcons (qattr (qv 11) (fun c f h => match c, h with | 0, h => nomatch h | 1, h => nomatch h | 2, h => nomatch h | 3, h => nomatch h | 4, h => by cases h; exact (OkD.pr (c := 4) (name := "top") o_Ratio_top T.cl_Ratio T.pr_Ratio_top (hr.mono (by decide))) | _ + 5, h => nomatch h) (fun c h => nomatch h)) (qcons (qattr (qv 11) (fun c f h => match c, h with | 0, h => nomatch h | 1, h => nomatch h | 2, h => nomatch h | 3, h => nomatch h | 4, h => by cases h; exact (OkD.pr (c := 4) (name := "bottom") o_Ratio_bottom T.cl_Ratio T.pr_Ratio_bottom (hr.mono (by decide))) | _ + 5, h => nomatch h) (fun c h => nomatch h)) qnil))) (qcons (qlst (qcons (qv 6) (qcons qint qnil))) qnil))) (fun c f h => match c, h with | 0, h => nomatch h | 1, h => nomatch h | 2, h => nomatch h | 3, h => nomatch h | 4, h => by cases h; exact (OkD.sp (c := 4) (name := "__bool__") o_Ratiodd_booldd T.sp_Ratio_bool.1 T.sp_Ratio_bool.2 (hr.mono (by decide))) | _ + 5, h => nomatch h)))
 (bone (sret qbl))
 bnil)
 (bcons (sif (L2.PW.pt (qwor (qtnot (qtcmp (opd_ownEqB rfl hr.units0 (opd_eq rfl hr.units) (fun c f h => match c, h with | 0, h => nomatch h | 1, h => nomatch h | 2, h => nomatch h | 3, h => nomatch h | 4, h => by cases h; exact (OkD.sp (c := 4) (name := "__eq__") o_Ratiodd_eqdd T.sp_Ratio_eq.1 T.sp_Ratio_eq.2 (hr.mono (by decide))) | _ + 5, h => nomatch h)) (qv 10) (qmakeK0 (OkMKX.mkc0 (c := 4) o_Ratiodd_initdd_k0_bottom_top T.mk_Ratio (hr.mono (by decide))) T.g_Ratio rfl (kcons (qbin opd_mul qint (qv 7)) (kcons (qbin opd_mul qint (qv 6)) knil))) (nomark _))) (qwor (qtcmp (opd_ownEqB rfl hr.units0 (opd_eq rfl hr.units) (fun c f h => match c, h with | 0, h => nomatch h | 1, h => nomatch h | 2, h => nomatch h | 3, h => nomatch h | 4, h => by cases h; exact (OkD.sp (c := 4) (name := "__eq__") o_Ratiodd_eqdd T.sp_Ratio_eq.1 T.sp_Ratio_eq.2 (hr.mono (by decide))) | _ + 5, h => nomatch h)) (qv 10) (qv 12) (nomark _)) (qw1 (qtcmp (opd_ownNe (un1 hr) (opd_ne rfl hr.units) (fun c f h => match c, h with | 0, h => nomatch h | 1, h => nomatch h | 2, h => nomatch h | 3, h => nomatch h | 4, h => by cases h; exact (OkD.ne (c := 4) o_Ratiodd_eqdd T.sp_Ratio_eq.1 T.sp_Ratio_eq.2 T.ne_Ratio (hr.mono (by decide))) | _ + 5, h => nomatch h)) (qv 10) (qmake (OkX.mkc0 (c := 4) o_Ratiodd_initdd T.mk_Ratio (hr.mono (by decide))) T.g_Ratio rfl (qcons (qix (qv 9) qint (fun _ _ => rfl)) (qcons (qix (qv 9) qint (fun _ _ => rfl)) qnil))) (nomark _))))))
 (bone (sret qbl))
 bnil)
 (bone (sif (L2.PW.pt (qwor (qtcmp (opd_ownEqB rfl hr.units0 (opd_eq rfl hr.units) (fun c f h => match c, h with | 0, h => nomatch h | 1, h => nomatch h | 2, h => nomatch h | 3, h => nomatch h | 4, h => by cases h; exact (OkD.sp (c := 4) (name := "__eq__") o_Ratiodd_eqdd T.sp_Ratio_eq.1 T.sp_Ratio_eq.2 (hr.mono (by decide))) | _ + 5, h => nomatch h)) (qv 10) (qcall (o_law_text.c (hr.mono (by decide))) T.g__law_text T.k__law_text rfl (qcons (qv 9) qnil)) (nomark _)) (qwor (qtcmp (opd_ownEqB rfl hr.units0 (opd_eq rfl hr.units) (fun c f h => match c, h with | 0, h => nomatch h | 1, h => nomatch h | 2, h => nomatch h | 3, h => nomatch h | 4, h => by cases h; exact (OkD.sp (c := 4) (name := "__eq__") o_Ratiodd_eqdd T.sp_Ratio_eq.1 T.sp_Ratio_eq.2 (hr.mono (by decide))) | _ + 5, h => nomatch h)) (qv 10) (qv 6) (nomark _)) (qwor (qtcmp (opd_ownEqB rfl hr.units0 (opd_eq rfl hr.units) (fun c f h => match c, h with | 0, h => nomatch h | 1, h => nomatch h | 2, h => nomatch h | 3, h => nomatch h | 4, h => by cases h; exact (OkD.sp (c := 4) (name := "__eq__") o_Ratiodd_eqdd T.sp_Ratio_eq.1 T.sp_Ratio_eq.2 (hr.mono (by decide))) | _ + 5, h => nomatch h)) (qv 10) (qv 9) (nomark _)) (qw1 (qtcmp (opd_ownEqB rfl hr.units0 (opd_eq rfl hr.units) (fun c f h => match c, h with | 0, h => nomatch h | 1, h => nomatch h | 2, h => nomatch h | 3, h => nomatch h | 4, h => by cases h; exact (OkD.sp (c := 4) (name := "__eq__") o_Ratiodd_eqdd T.sp_Ratio_eq.1 T.sp_Ratio_eq.2 (hr.mono (by decide))) | _ + 5, h => nomatch h)) (qv 11) (qv 6) (nomark _)))))))
 (bone (sret qbl))
 bnil)))))))))))
 (bcons (sset 3 S.nd (by first | exact Or.inl rfl | exact Or.inr rfl) (qcall (o_law_stray.c (hr.mono (by decide))) T.g__law_stray T.k__law_stray rfl (qcons (qv 1) qnil)))
 (bcons (sset 3 S.nd (by first | exact Or.inl rfl | exact Or.inr rfl) (qif (L2.PW.pt (qwand (qtcmp (opd_ownEqB rfl hr.units0 (opd_eq rfl hr.units) (fun c f h => match c, h with | 0, h => nomatch h | 1, h => nomatch h | 2, h => nomatch h | 3, h => nomatch h | 4, h => by cases h; exact (OkD.sp (c := 4) (name := "__eq__") o_Ratiodd_eqdd T.sp_Ratio_eq.1 T.sp_Ratio_eq.2 (hr.mono (by decide))) | _ + 5, h => nomatch h)) (qv 3) qint (nomark _)) (qw1 (qtnot (qtO (qisi T.z_isinstance rfl (by decide +kernel) (qv 3) (pe_bltn (v := .ty "bool") rfl T.z_bool (by decide +kernel) rfl) (.ty _) rfl T.isi_bool) (fun c f h => match c, h with | 0, h => nomatch h | 1, h => nomatch h | 2, h => nomatch h | 3, h => nomatch h | 4, h => by cases h; exact (OkD.sp (c := 4) (name := "__bool__") o_Ratiodd_booldd T.sp_Ratio_bool.1 T.sp_Ratio_bool.2 (hr.mono (by decide))) | _ + 5, h => nomatch h)))))) qint (qv 3)))
 (bcons (sset 4 S.nd (Or.inl rfl) (qlst (qcons (qlamV 4 TB rfl (List.mem_singleton.mpr rfl) (fun _ hy _ => by rw [List.mem_singleton.mp hy]; rfl) (NdefX.ndef_free (fr := ([] : List Str)) (show NdefX.ndefB (defScope s_law) _ _ = true from by decide +kernel)) rfl (fun _ _ => by subst hlm; rfl)) (qcons (qlamV1 3 (z := 0) TB rfl (List.mem_singleton.mpr rfl) (fun _ hy _ => by rw [List.mem_singleton.mp hy]; rfl) (NdefX.ndef_free (fr := ([] : List Str)) (show NdefX.ndefB (defScope s_law) _ _ = true from by decide +kernel)) rfl rfl (fun _ _ => by subst hlm; rfl)) (qcons (qlamV1 2 (z := 0) TB rfl (List.mem_singleton.mpr rfl) (fun _ hy _ => by rw [List.mem_singleton.mp hy]; rfl) (NdefX.ndef_free (fr := (["_law_odd"] : List Str)) (show NdefX.ndefB (defScope s_law) _ _ = true from by decide +kernel)) rfl rfl (fun _ _ => by subst hlm; rfl)) qnil)))))
 (bcons (sset 5 S.nd (Or.inl rfl) (qlst (qcons (qtup (qcons qint (qcons qint qnil))) (qcons (qtup (qcons qint (qcons qint qnil))) (qcons (qtup (qcons (qv 3) (qcons qint qnil))) qnil)))))
 (bcons (sif (L2.PW.pt (qwor (qtcmp (opd_ownNe (un1 hr) (opd_ne rfl hr.units) (fun c f h => match c, h with | 0, h => nomatch h | 1, h => nomatch h | 2, h => nomatch h | 3, h => nomatch h | 4, h => by cases h; exact (OkD.ne (c := 4) o_Ratiodd_eqdd T.sp_Ratio_eq.1 T.sp_Ratio_eq.2 T.ne_Ratio (hr.mono (by decide))) | _ + 5, h => nomatch h)) (qv 3) qint (nomark _)) (qw1 (qtO (qisi T.z_isinstance rfl (by decide +kernel) (qv 3) (pe_bltn (v := .ty "bool") rfl T.z_bool (by decide +kernel) rfl) (.ty _) rfl T.isi_bool) (fun c f h => match c, h with | 0, h => nomatch h | 1, h => nomatch h | 2, h => nomatch h | 3, h => nomatch h | 4, h => by cases h; exact (OkD.sp (c := 4) (name := "__bool__") o_Ratiodd_booldd T.sp_Ratio_bool.1 T.sp_Ratio_bool.2 (hr.mono (by decide))) | _ + 5, h => nomatch h)))))
 (bcons (sset 4 S.nd (Or.inl rfl) (qbin (opd_add rfl) (qv 4) (qlst (qcons (qlamV 1 TB rfl (List.mem_singleton.mpr rfl) (fun _ hy _ => by rw [List.mem_singleton.mp hy]; rfl) (NdefX.ndef_free (fr := (["_law_odd"] : List Str)) (show NdefX.ndefB (defScope s_law) _ _ = true from by decide +kernel)) rfl (fun _ _ => by subst hlm; rfl)) (qcons (qlamV1 0 (z := 0) TB rfl (List.mem_singleton.mpr rfl) (fun _ hy _ => by rw [List.mem_singleton.mp hy]; rfl) (NdefX.ndef_free (fr := (["_law_odd"] : List Str)) (show NdefX.ndefB (defScope s_law) _ _ = true from by decide +kernel)) rfl rfl (fun _ _ => by subst hlm; rfl)) qnil)))))
 (bone (sset 5 S.nd (Or.inl rfl) (qbin (opd_add rfl) (qv 5) (qlst (qcons (qtup (qcons (qv 3) (qcons qint qnil))) (qcons (qtup (qcons qint (qcons (qv 3) qnil))) qnil)))))))
 bnil)
 (bone (sret (qcall (o_law_same.c (hr.mono (by decide))) T.g__law_same T.k__law_same rfl (qcons (qlcLam (j0 := 20) o2_law_try rfl LS_13 runH_ne (hr.mono (by decide)) rfl S.nd (qv 4) (blkOk_by (show blkC (["_law_script", "_law_bag", "_law_turn_k", "_law_odd", "_law_asks", "_law_due", "_law_a", "_law_b", "_law_found", "_law_p", "_law_made", "_law_plain", "_law_far", "_law_ask", "_law_one_d"] : List Str) (defScope s_law) _ _ = true from by decide +kernel)) (fun _ _ _ _ _ => pg_name (i := 13) S.nd rfl (by first | exact Or.inl rfl | exact Or.inr rfl)) (fun _ _ _ _ _ => rfl) T.g__law_try T.k__law_try rfl (fun _ _ => Or.inl rfl)) (qcons (qlc (own := [("_law_one_d", 14)]) rfl S.nd (qv 5) (blkOk_by (show blkC (["_law_script", "_law_bag", "_law_turn_k", "_law_odd", "_law_asks", "_law_due", "_law_a", "_law_b", "_law_found", "_law_p", "_law_made", "_law_plain", "_law_far", "_law_ask", "_law_one_d"] : List Str) (defScope s_law) _ _ = true from by decide +kernel)) (tgb_name 14) (fun _ _ _ _ _ => pg_name (i := 14) S.nd rfl (by first | exact Or.inl rfl | exact Or.inr rfl)) (fun _ _ _ _ _ => qts_nil) (fun _ _ _ _ _ => (qtup (qcons qstr (qcons qstr (qcons (qv 14) qnil)))))) qnil))))))))))))
theorem fn_law (L : Nat) (hB : lawB K = true) {fd : FuncData} (F : FunD K "law" "law" (defArgs s_law) (defBody s_law) (defScope s_law) [] [] (He.ga K "law") fd) (h : ∀ (lm : Nat → Addr → Addr → Option Xq.LF) (A : Around) (outer : List Env) (s : Shared) (H : Hp) (E : XK), Room 22 (A.deeper (envOfC "law" (defScope s_law) s.heap.objs.size (He.ga K "law") (.ref (lawC K)))) → lm = lms_law (envOfC "law" (defScope s_law) s.heap.objs.size (He.ga K "law") (.ref (lawC K))).cells → PSs (cxOf CX0 P w K mg base (["_law_script", "_law_bag", "_law_turn_k", "_law_odd", "_law_asks", "_law_due", "_law_a", "_law_b", "_law_found", "_law_p", "_law_made", "_law_plain", "_law_far", "_law_ask", "_law_one_d"] : List Str) "law" (defScope s_law) (He.ga K "law") (.ref (lawC K)) A outer s H E).nox (defBody s_law) (rdS (pg K lm) W0 (b_law L))) : FnOk P w K mg base CX0 23 (He.ga K "law") fd (["_law_script"] : List Str) (spD (pg0 K) We0 1 (m_law L)) :=
  def0L (p := pg0 K) (k := 22) (nN := 15) (n := 1) (b := b_law L) (m := m_law L) F hB rfl rfl sc_law rfl rfl (by decide) rfl (fun _ _ _ => rfl) lms_law (fun A outer s H E hr => h _ A outer s H E hr rfl)
def fns : List DefQ := [
  ⟨fun K => (He.ga K "_law_sort"), "_law_sort", "_law_sort", defArgs s_law_sort, defBody s_law_sort, defScope s_law_sort, [], [], []⟩,
  ⟨fun K => (He.ga K "_law_same"), "_law_same", "_law_same", defArgs s_law_same, defBody s_law_same, defScope s_law_same, [], [], []⟩,
  ⟨fun K => (He.ga K "_law_fields"), "_law_fields", "_law_fields", defArgs s_law_fields, defBody s_law_fields, defScope s_law_fields, [], [], []⟩,
  ⟨fun K => (He.ma K (He.ga K "Ratio") "__eq__"), "__eq__", "Ratio.__eq__", defArgs s_Ratiodd_eqdd, defBody s_Ratiodd_eqdd, defScope s_Ratiodd_eqdd, [], [], []⟩,
  ⟨fun K => (He.ma K (He.ga K "Ratio") "__bool__"), "__bool__", "Ratio.__bool__", defArgs s_Ratiodd_booldd, defBody s_Ratiodd_booldd, defScope s_Ratiodd_booldd, [], [], []⟩,
  ⟨fun K => (He.ga K "is_number"), "is_number", "is_number", defArgs s_is_number, defBody s_is_number, defScope s_is_number, [], [], []⟩,
  ⟨fun K => (He.ma K (He.ga K "Ratio") "__init__"), "__init__", "Ratio.__init__", defArgs s_Ratiodd_initdd, defBody s_Ratiodd_initdd, defScope s_Ratiodd_initdd, [He.Dv.int 1], [], []⟩,
  ⟨fun K => (He.ga K "_law_pull"), "_law_pull", "_law_pull", defArgs s_law_pull, defBody s_law_pull, defScope s_law_pull, [], [], []⟩,
  ⟨fun K => (He.ga K "_law_pick"), "_law_pick", "_law_pick", defArgs s_law_pick, defBody s_law_pick, defScope s_law_pick, [], [], []⟩,
  ⟨fun K => (He.ga K "_law_stray"), "_law_stray", "_law_stray", defArgs s_law_stray, defBody s_law_stray, defScope s_law_stray, [], [], []⟩,
  ⟨fun K => (He.ga K "_law_text"), "_law_text", "_law_text", defArgs s_law_text, defBody s_law_text, defScope s_law_text, [], [], []⟩,
  ⟨fun K => (pga K (He.ma K (He.ga K "Ratio") "bottom")), "bottom", "Ratio.bottom", defArgs s_Ratio_bottom, defBody s_Ratio_bottom, defScope s_Ratio_bottom, [], [], []⟩,
  ⟨fun K => (pga K (He.ma K (He.ga K "Ratio") "top")), "top", "Ratio.top", defArgs s_Ratio_top, defBody s_Ratio_top, defScope s_Ratio_top, [], [], []⟩,
  ⟨fun K => (He.ga K "digits"), "digits", "digits", defArgs s_digits, defBody s_digits, defScope s_digits, [], [], []⟩,
  ⟨fun K => (He.ma K (He.ga K "Ratio") "__str__"), "__str__", "Ratio.__str__", defArgs s_Ratiodd_strdd, defBody s_Ratiodd_strdd, defScope s_Ratiodd_strdd, [], [], []⟩,
  ⟨fun K => (He.ma K (He.ga K "Ratio") "__repr__"), "__repr__", "Ratio.__repr__", defArgs s_Ratiodd_reprdd, defBody s_Ratiodd_reprdd, defScope s_Ratiodd_reprdd, [], [], []⟩,
  ⟨fun K => (He.ga K "_law_gcd"), "_law_gcd", "_law_gcd", defArgs s_law_gcd, defBody s_law_gcd, defScope s_law_gcd, [], [], []⟩,
  ⟨fun K => (He.ga K "_law_frac"), "_law_frac", "_law_frac", defArgs s_law_frac, defBody s_law_frac, defScope s_law_frac, [], [], []⟩,
  ⟨fun K => (He.ga K "_law_start"), "_law_start", "_law_start", defArgs s_law_start, defBody s_law_start, defScope s_law_start, [], [], []⟩,
  ⟨fun K => (He.ga K "law"), "law", "law", defArgs s_law, defBody s_law, defScope s_law, [], [], []⟩,
  ⟨fun K => (He.ga K "_law_try"), "_law_try", "_law_try", defArgs s_law_try, defBody s_law_try, defScope s_law_try, [], [], []⟩,
  ⟨fun K => (He.ma K (He.ga K "InvalidRatio") "__init__"), "__init__", "InvalidRatio.__init__", defArgs s_InvalidRatiodd_initdd_xInvalidRatio_p1, defBody s_InvalidRatiodd_initdd_xInvalidRatio_p1, defScope s_InvalidRatiodd_initdd_xInvalidRatio_p1, [], [], ["__class__"]⟩]
end
theorem law_end {P : Program} {w : World} {K : PySem.W.Frag} {h : Heap} {mg : Str → Option Value} {fa : Addr} (X : K.In h) (G : h.Ns mainGlobals mg) (hfa : mg "law" = some (.ref fa)) (c : SaysQ fns ex K) (L : Nat) (hfile : ((P.main.file : Str) == FILE) = true) (htop : (P.main.scope.names.lookup ("super" : Str)).isSome = false) (hB : lawB K = true) : ∃ fd : FuncData, (∀ (s : Shared) (v : Value), BindsTo s fd ⟨[v], []⟩ [("_law_script", v)]) ∧ ∀ base : Heap, K.In base → base.Ns mainGlobals mg → LamX.TabB base mg (lawC K) (lawP K) → FnOk P w K mg base CX0 23 fa fd ["_law_script"] (spD (pg0 K) We0 1 (m_law L)) := by
  have T := tx X G c.ex_
  have efa : fa = He.ga K "law" := by
    have e := hfa.symm.trans T.g_law
    injection e with e
    injection e
  subst efa
  have F_law_sort : ∃ fd, FunD K "_law_sort" "_law_sort" (defArgs s_law_sort) (defBody s_law_sort) (defScope s_law_sort) [] [] (He.ga K "_law_sort") fd := c.fn_ 0
  have F_law_same : ∃ fd, FunD K "_law_same" "_law_same" (defArgs s_law_same) (defBody s_law_same) (defScope s_law_same) [] [] (He.ga K "_law_same") fd := c.fn_ 1
  have F_law_fields : ∃ fd, FunD K "_law_fields" "_law_fields" (defArgs s_law_fields) (defBody s_law_fields) (defScope s_law_fields) [] [] (He.ga K "_law_fields") fd := c.fn_ 2
  have F_Ratiodd_eqdd : ∃ fd, FunD K "__eq__" "Ratio.__eq__" (defArgs s_Ratiodd_eqdd) (defBody s_Ratiodd_eqdd) (defScope s_Ratiodd_eqdd) [] [] (He.ma K (He.ga K "Ratio") "__eq__") fd := c.fn_ 3
  have F_Ratiodd_booldd : ∃ fd, FunD K "__bool__" "Ratio.__bool__" (defArgs s_Ratiodd_booldd) (defBody s_Ratiodd_booldd) (defScope s_Ratiodd_booldd) [] [] (He.ma K (He.ga K "Ratio") "__bool__") fd := c.fn_ 4
  have F_is_number : ∃ fd, FunD K "is_number" "is_number" (defArgs s_is_number) (defBody s_is_number) (defScope s_is_number) [] [] (He.ga K "is_number") fd := c.fn_ 5
  have F_Ratiodd_initdd : ∃ fd, FunD K "__init__" "Ratio.__init__" (defArgs s_Ratiodd_initdd) (defBody s_Ratiodd_initdd) (defScope s_Ratiodd_initdd) [V.int 1] [] (He.ma K (He.ga K "Ratio") "__init__") fd := c.fn_ 6
  have F_law_pull : ∃ fd, FunD K "_law_pull" "_law_pull" (defArgs s_law_pull) (defBody s_law_pull) (defScope s_law_pull) [] [] (He.ga K "_law_pull") fd := c.fn_ 7
  have F_law_pick : ∃ fd, FunD K "_law_pick" "_law_pick" (defArgs s_law_pick) (defBody s_law_pick) (defScope s_law_pick) [] [] (He.ga K "_law_pick") fd := c.fn_ 8
  have F_law_stray : ∃ fd, FunD K "_law_stray" "_law_stray" (defArgs s_law_stray) (defBody s_law_stray) (defScope s_law_stray) [] [] (He.ga K "_law_stray") fd := c.fn_ 9
  have F_law_text : ∃ fd, FunD K "_law_text" "_law_text" (defArgs s_law_text) (defBody s_law_text) (defScope s_law_text) [] [] (He.ga K "_law_text") fd := c.fn_ 10
  have F_Ratio_bottom : ∃ fd, FunD K "bottom" "Ratio.bottom" (defArgs s_Ratio_bottom) (defBody s_Ratio_bottom) (defScope s_Ratio_bottom) [] [] (pga K (He.ma K (He.ga K "Ratio") "bottom")) fd := c.fn_ 11
  have F_Ratio_top : ∃ fd, FunD K "top" "Ratio.top" (defArgs s_Ratio_top) (defBody s_Ratio_top) (defScope s_Ratio_top) [] [] (pga K (He.ma K (He.ga K "Ratio") "top")) fd := c.fn_ 12
  have F_digits : ∃ fd, FunD K "digits" "digits" (defArgs s_digits) (defBody s_digits) (defScope s_digits) [] [] (He.ga K "digits") fd := c.fn_ 13
  have F_Ratiodd_strdd : ∃ fd, FunD K "__str__" "Ratio.__str__" (defArgs s_Ratiodd_strdd) (defBody s_Ratiodd_strdd) (defScope s_Ratiodd_strdd) [] [] (He.ma K (He.ga K "Ratio") "__str__") fd := c.fn_ 14
  have F_Ratiodd_reprdd : ∃ fd, FunD K "__repr__" "Ratio.__repr__" (defArgs s_Ratiodd_reprdd) (defBody s_Ratiodd_reprdd) (defScope s_Ratiodd_reprdd) [] [] (He.ma K (He.ga K "Ratio") "__repr__") fd := c.fn_ 15
  have F_law_gcd : ∃ fd, FunD K "_law_gcd" "_law_gcd" (defArgs s_law_gcd) (defBody s_law_gcd) (defScope s_law_gcd) [] [] (He.ga K "_law_gcd") fd := c.fn_ 16
  have F_law_frac : ∃ fd, FunD K "_law_frac" "_law_frac" (defArgs s_law_frac) (defBody s_law_frac) (defScope s_law_frac) [] [] (He.ga K "_law_frac") fd := c.fn_ 17
  have F_law_start : ∃ fd, FunD K "_law_start" "_law_start" (defArgs s_law_start) (defBody s_law_start) (defScope s_law_start) [] [] (He.ga K "_law_start") fd := c.fn_ 18
  obtain ⟨fd, F⟩ : ∃ fd, FunD K "law" "law" (defArgs s_law) (defBody s_law) (defScope s_law) [] [] (He.ga K "law") fd := c.fn_ 19
  have b := FunD.bindsA (ps := ["_law_script"]) F fun _ _ _ _ _ _ us hl => match us, hl with | [_], _ => rfl
  refine ⟨fd, fun s v => b s [v] rfl, fun base _ _ TB => ?_⟩
  refine fn_law L hB F fun lm A outer s H E hr hlm => ?_
  have xr_InvalidRatio_p1 := okr_InvalidRatio_p1 (lm := lm) (w := w) (base := base) T (funX_of (P := P) c 21 (C := He.ga K "InvalidRatio") (file := FILE) rfl T.xi_InvalidRatio hfile htop)
  have x_InvalidRatio_p1 := okx_InvalidRatio_p1 (lm := lm) (w := w) (base := base) T (funX_of (P := P) c 21 (C := He.ga K "InvalidRatio") (file := FILE) rfl T.xi_InvalidRatio hfile htop)
  have FX_law_fields := F_law_fields
  obtain ⟨fdX_law_fields, FX_law_fields⟩ := FX_law_fields
  obtain ⟨fd_law_try, F_law_try⟩ : ∃ fd, FunD K "_law_try" "_law_try" (defArgs s_law_try) (defBody s_law_try) (defScope s_law_try) [] [] (He.ga K "_law_try") fd := c.fn_ 20
  have o2_law_try := giv2_law_try (lm := lm) (P := P) (w := w) (mg := mg) (base := base) L T FX_law_fields F_law_try
  have o_law_try := giv_law_try (lm := lm) (P := P) (w := w) (mg := mg) (base := base) L T FX_law_fields F_law_try
  have o_law_sort := ok_law_sort (lm := lm) (P := P) (w := w) (base := base) L T  F_law_sort
  have o_law_same := ok_law_same (lm := lm) (P := P) (w := w) (base := base) L T o_law_sort F_law_same
  have o_Ratiodd_eqdd := ok_Ratiodd_eqdd (lm := lm) (P := P) (w := w) (base := base) L T  F_Ratiodd_eqdd
  have o_Ratiodd_booldd := ok_Ratiodd_booldd (lm := lm) (P := P) (w := w) (base := base) L T  F_Ratiodd_booldd
  have o_is_number := ok_is_number (lm := lm) (P := P) (w := w) (base := base) L T  F_is_number
  have o_Ratiodd_initdd := ok_Ratiodd_initdd (lm := lm) (P := P) (w := w) (base := base) L T o_is_number xr_InvalidRatio_p1 F_Ratiodd_initdd
  have o_Ratiodd_initdd_d1 := ok_Ratiodd_initdd_d1 (lm := lm) (P := P) (w := w) (base := base) L T o_is_number xr_InvalidRatio_p1 F_Ratiodd_initdd
  have o_Ratiodd_initdd_k0_bottom_top := ok_Ratiodd_initdd_k0_bottom_top (lm := lm) (P := P) (w := w) (base := base) L T o_is_number xr_InvalidRatio_p1 F_Ratiodd_initdd
  have o_law_pull := ok_law_pull (lm := lm) (P := P) (w := w) (base := base) L T  F_law_pull
  have o_law_pick := ok_law_pick (lm := lm) (P := P) (w := w) (base := base) L T o_law_pull F_law_pick
  have o_law_stray := ok_law_stray (lm := lm) (P := P) (w := w) (base := base) L T o_law_pick F_law_stray
  have o_law_text := ok_law_text (lm := lm) (P := P) (w := w) (base := base) L T  F_law_text
  have o_Ratio_bottom := ok_Ratio_bottom (lm := lm) (P := P) (w := w) (base := base) L T  F_Ratio_bottom
  have o_Ratio_top := ok_Ratio_top (lm := lm) (P := P) (w := w) (base := base) L T  F_Ratio_top
  have o_digits := ok_digits (lm := lm) (P := P) (w := w) (base := base) L T  F_digits
  have o_Ratiodd_strdd := ok_Ratiodd_strdd (lm := lm) (P := P) (w := w) (base := base) L T o_digits F_Ratiodd_strdd
  have o_Ratiodd_reprdd := ok_Ratiodd_reprdd (lm := lm) (P := P) (w := w) (base := base) L T o_Ratiodd_strdd F_Ratiodd_reprdd
  have o_law_gcd := ok_law_gcd (lm := lm) (P := P) (w := w) (base := base) L T  F_law_gcd
  have o_law_frac := ok_law_frac (lm := lm) (P := P) (w := w) (base := base) L T o_law_gcd F_law_frac
  have o_law_start := ok_law_start (lm := lm) (P := P) (w := w) (base := base) L T  F_law_start
  exact body_law (lm := lm) (P := P) (w := w) (base := base) L T o_law_same o_Ratiodd_eqdd o_Ratiodd_booldd o_Ratiodd_initdd o_Ratiodd_initdd_d1 o_law_stray o_law_text o_Ratiodd_initdd_k0_bottom_top o_Ratio_bottom o_Ratio_top o_Ratiodd_reprdd o_Ratiodd_strdd o_law_frac o_law_pick o_law_pull o_law_start o2_law_try TB hB A outer s H E hr hlm
abbrev Rr : PySem.W.OpenRow := PySem.W.OpenLaw.row PySem.Challenge.rw_gustfloor_k01_ratios_made
def names : List PySem.Str := (["_wall", "GustError", "InvalidRatio", "Missing", "NothingLeft", "MOST_LETTERS", "CHUNK", "CHUNK_LIMIT", "is_number", "digits", "number_of", "ratio_of", "Ratio", "_law_start", "_law_pull", "_law_pick", "_law_gcd", "_law_frac", "_law_sort", "_law_same", "_law_text", "_law_stray", "_law_fields", "_law_try"] : List Str)
def AS0 : List PySem.Addr := [3, 260, 259, 81, 80, 59, 58, 115, 125, 132, 271, 278, 285, 292, 299, 306, 311, 318, 325, 332]
def AS1 : List PySem.Addr := [339, 78, 161, 179, 187, 236, 243, 250, 257, 77, 2, 93, 344, 114, 124, 131, 270, 277, 284, 291]
def AS2 : List PySem.Addr := [298, 305, 310, 317, 324, 331, 338, 343, 66, 160, 154, 178, 186, 235, 242, 249, 256, 177, 185]
def AS : List PySem.Addr := AS0 ++ (AS1 ++ (AS2))
abbrev hk : PySem.W.Hook := hookLT AS fns ex
def ob (s : PySem.W.SharedT) : AlT := obsLT AS fns ex (HandSHeadRun.getT s)
theorem ob_eq (s : PySem.W.SharedT) : ob s = hk.obs s.abs := obsLT_eq (HandSHeadRun.getT_eq s)
theorem run_ (w : World) : HandSHeadRun.RunEqI Rr (PySem.W.view Rr.prog [0, 28]) hk ob 8000 names w := by
  unfold HandSHeadRun.RunEqI
  kernel_rfl
end Row

namespace Row
open PySem PySem.Spec PyProof.Rows L2 Dq
@[simp] theorem sz0 : (0 : Nat) ≤ sizeLine := by decide
@[simp] theorem sz1 : (1 : Nat) ≤ sizeLine := by decide
@[simp] theorem sz2 : (2 : Nat) ≤ sizeLine := by decide
def srt : DV → Int
  | .non => 0
  | .bl _ => 1
  | .int _ => 2
  | .str _ => 3
  | .lst _ => 4
  | .tup _ => 5
  | _ => 6
theorem ev_sort (L : Nat) {n : Nat} : ∀ d : DV, plain n d = true → ∀ S : Sto, m_law_sort L [d] S = .ok (.int (srt d)) S
  | .non, _, S => run_rt rfl (by kernel_rfl) rfl
  | .bl b, _, S => run_rt rfl (by cases b <;> kernel_rfl) rfl
  | .int i, _, S => run_rt rfl (by kernel_rfl) rfl
  | .str x, _, S => run_rt rfl (by kernel_rfl) rfl
  | .lst xs, _, S => run_rt rfl (by kernel_rfl) rfl
  | .tup xs, _, S => run_rt rfl (by kernel_rfl) rfl
  | .wl _, h, _ => by cases n <;> exact nomatch h
  | .ins _ _ _, h, _ => by cases n <;> exact nomatch h
  | .mr _, h, _ => by cases n <;> exact nomatch h
  | .exn _ _ _, h, _ => by cases n <;> exact nomatch h
  | .fn _, h, _ => by cases n <;> exact nomatch h
  | .cls _, h, _ => by cases n <;> exact nomatch h
  | .lam _, h, _ => by cases n <;> exact nomatch h
theorem eqD_str {x : Str} (h : SeqAt.shaped (.str x) = true) (S : Sto) : eqD (.str x) (.str x) S = .ok (.bl true) S := by
  show okIf (SeqAt.shaped (.str x) && SeqAt.shaped (.str x)) (.bl (PyData.eqv (.str x) (.str x))) S = _
  have e : PyData.eqv (.str x) (.str x) = true := by unfold PyData.eqv; simp
  rw [e, h]
  rfl
theorem eqD_bl (b : Bool) (S : Sto) : eqD (.bl b) (.bl b) S = .ok (.bl true) S := by cases b <;> rfl
/-- two readings of one thing, and the tests over them -/
theorem same_go (L : Nat) (m : List DV → Sto → R DV) (k : Int) (d : DV) (S : Sto) (hs : ∀ S, m_law_sort L [d] S = .ok (.int k) S) (h : (k = 4 ∨ k = 5) ∧ (∃ n : Int, lenD [d] S = .ok (.int n) S) ∧ gLz (gCons (gVar 0) (gCons (gVar 1) gNil)) (tTup 2 (tCons (tN 2) (tCons (tN 3) tNil))) [2, 3] gYes (gCall m [] (gCons (gVar 2) (gCons (gVar 3) gNil))) [some d, some d, none, none] S = .ok (.lst (List.replicate (match seqT d with | some xs => xs.length | none => 0) (.bl true))) S ∨ k ≠ 4 ∧ k ≠ 5 ∧ eqD d d S = .ok (.bl true) S) :
    b_law_same L m [some d, some d, none, none] S = .rt (.bl true) S := by
  unfold b_law_same
  rcases h with ⟨h1, ⟨n, h2⟩, h3⟩ | ⟨h1, h2, h3⟩
  · have e1 : inD false (.int k) (.tup [.int 4, .int 5]) S = .ok (.bl true) S := by
      rcases h1 with rfl | rfl <;> rfl
    generalize (match seqT d with | some xs => xs.length | none => 0) = q at h3
    simp [hs, neD_int, e1, h2, eqD_int]
    rw [h3]
    simp [allD_rep]
  · have e1 : inD false (.int k) (.tup [.int 4, .int 5]) S = .ok (.bl false) S := by
      show R.ok (DV.bl (inF (.int k) [.int 4, .int 5])) S = _
      have : inF (.int k) [.int 4, .int 5] = false := by
        unfold inF eqF
        simp [Ne.symm h1, Ne.symm h2]
      rw [this]
    simp [hs, neD_int, e1, h3]
theorem same_seq (L : Nat) {n : Nat} (ih : ∀ d : DV, plain n d = true → ∀ S : Sto, m_law_same L (n + 1) [d, d] S = .ok (.bl true) S) (xs : List DV) (d : DV) (hq : seqsL d d = some (xs, xs)) (hl : xs.length ≤ 64) (hp : xs.all (plain n) = true) (S : Sto) :
    gLz (gCons (gVar 0) (gCons (gVar 1) gNil)) (tTup 2 (tCons (tN 2) (tCons (tN 3) tNil))) [2, 3] gYes (gCall (m_law_same L (n + 1)) [] (gCons (gVar 2) (gCons (gVar 3) gNil))) [some d, some d, none, none] S = .ok (.lst (List.replicate xs.length (.bl true))) S := by
  have hz : (zipD xs xs).length = xs.length := by rw [zipD_self, List.length_map]
  refine gLz_ok rfl hq (by rw [hz]; exact Nat.le_trans hl (by decide)) ?_ (bels_rep rfl _)
  rw [zipD_self]
  have e : List.replicate xs.length (DV.bl true) = (xs.map fun x => DV.tup [x, x]).map fun _ => DV.bl true := by
    rw [List.map_map]
    exact List.map_const'.symm
  rw [e]
  refine LcF.map fun x hx => ?_
  rw [List.mem_map] at hx
  obtain ⟨y, hy, rfl⟩ := hx
  refine ⟨_, rfl, fun S _ => ?_⟩
  exact ih y (List.all_eq_true.mp hp y hy) S
theorem same_plain (L : Nat) : ∀ (n : Nat) (d : DV), plain n d = true → ∀ S : Sto, m_law_same L (n + 1) [d, d] S = .ok (.bl true) S := by
  intro n
  induction n with
  | zero =>
    intro d h S
    have hs := ev_sort L d h
    refine run_rt rfl (same_go L _ _ d S hs (.inr ?_)) rfl
    cases d with
    | non => exact ⟨by decide, by decide, rfl⟩
    | bl b => exact ⟨by simp [srt], by simp [srt], eqD_bl b S⟩
    | int i => exact ⟨by simp [srt], by simp [srt], by rw [eqD_int]; simp⟩
    | str x => exact ⟨by simp [srt], by simp [srt], eqD_str h S⟩
    | _ => exact nomatch h
  | succ n ih =>
    intro d h S
    have hs := ev_sort L d h
    refine run_rt rfl (same_go L _ _ d S hs ?_) rfl
    cases d with
    | non => exact .inr ⟨by decide, by decide, rfl⟩
    | bl b => exact .inr ⟨by simp [srt], by simp [srt], eqD_bl b S⟩
    | int i => exact .inr ⟨by simp [srt], by simp [srt], by rw [eqD_int]; simp⟩
    | str x => exact .inr ⟨by simp [srt], by simp [srt], eqD_str h S⟩
    | lst xs =>
      unfold Dq.plain at h
      rw [Bool.and_eq_true] at h
      exact .inl ⟨.inl rfl, ⟨_, rfl⟩, same_seq L ih xs _ rfl (of_decide_eq_true h.1) h.2 S⟩
    | tup xs =>
      unfold Dq.plain at h
      rw [Bool.and_eq_true] at h
      exact .inl ⟨.inr rfl, ⟨_, rfl⟩, same_seq L ih xs _ rfl (of_decide_eq_true h.1) h.2 S⟩
    | _ => exact nomatch h
theorem nx_if {g : GE} {b : GS} {ρ : En} {s : Sto} (h : g ρ s = .ok (.bl true) s) : gIfS (gNot (gT truD g)) b gNext ρ s = .nx ρ s := by
  simp only [gIfS, gNot, gT, h, R.bind_ok, truD]
  rfl
theorem call2 {m : List DV → Sto → R DV} {a b : GE} {ρ : En} {s : Sto} {x y : DV} (h1 : a ρ s = .ok x s) (h2 : b ρ s = .ok y s) : gCall m [] (gCons a (gCons b gNil)) ρ s = m [x, y] s := by
  simp [h1, h2]
theorem same_eq (L : Nat) {a b : GE} {ρ : En} {s : Sto} {d : DV} (h1 : a ρ s = .ok d s) (h2 : b ρ s = .ok d s) (hp : plain 7 d = true) : gCall (m_law_same L 8) [] (gCons a (gCons b gNil)) ρ s = .ok (.bl true) s := by
  rw [call2 h1 h2]
  exact same_plain L 7 d hp s
@[simp] theorem sz5 : (5 : Nat) ≤ sizeLine := by decide
abbrev bag (T : Sto) (c : List DV) (i r sd ct : Int) : Sto := some (.lst [.lst c, .int i, .int r, .int sd, .int ct]) :: T
structure BagV (k : Nat) (c : List DV) (i r sd ct : Int) : Prop where
  c : ∃ ns : List Int, c = ns.map DV.int
  i0 : 0 ≤ i
  r0 : 0 ≤ r
  s0 : 0 ≤ sd
  s1 : sd < 2147483648
  t0 : 0 ≤ ct
  t1 : ct ≤ k
def BagOk (T : Sto) (k : Nat) (s : Sto) : Prop := ∃ c i r sd ct, s = bag T c i r sd ct ∧ BagV k c i r sd ct
theorem BagOk.mono {T : Sto} {k j : Nat} {s : Sto} (h : BagOk T k s) (l : k ≤ j) : BagOk T j s := by
  obtain ⟨c, i, r, sd, ct, e, v⟩ := h
  exact ⟨c, i, r, sd, ct, e, ⟨v.c, v.i0, v.r0, v.s0, v.s1, v.t0, by have := v.t1; omega⟩⟩
section
variable (a b c d e : DV) (T : Sto)
@[simp] theorem bx0 : ixD (.mr 0) (.int 0) (some (.lst [a, b, c, d, e]) :: T) = .ok a (some (.lst [a, b, c, d, e]) :: T) := rfl
@[simp] theorem bx1 : ixD (.mr 0) (.int 1) (some (.lst [a, b, c, d, e]) :: T) = .ok b (some (.lst [a, b, c, d, e]) :: T) := rfl
@[simp] theorem bx2 : ixD (.mr 0) (.int 2) (some (.lst [a, b, c, d, e]) :: T) = .ok c (some (.lst [a, b, c, d, e]) :: T) := rfl
@[simp] theorem bx3 : ixD (.mr 0) (.int 3) (some (.lst [a, b, c, d, e]) :: T) = .ok d (some (.lst [a, b, c, d, e]) :: T) := rfl
@[simp] theorem bx4 : ixD (.mr 0) (.int 4) (some (.lst [a, b, c, d, e]) :: T) = .ok e (some (.lst [a, b, c, d, e]) :: T) := rfl
variable (x : DV)
@[simp] theorem bs1 : setD (.mr 0) (.int 1) x (some (.lst [a, b, c, d, e]) :: T) = some (some (.lst [a, x, c, d, e]) :: T) := rfl
@[simp] theorem bs2 : setD (.mr 0) (.int 2) x (some (.lst [a, b, c, d, e]) :: T) = some (some (.lst [a, b, x, d, e]) :: T) := rfl
@[simp] theorem bs3 : setD (.mr 0) (.int 3) x (some (.lst [a, b, c, d, e]) :: T) = some (some (.lst [a, b, c, x, e]) :: T) := rfl
@[simp] theorem bs4 : setD (.mr 0) (.int 4) x (some (.lst [a, b, c, d, e]) :: T) = some (some (.lst [a, b, c, d, x]) :: T) := rfl
end
@[simp] theorem lenD_lst (xs : List DV) (s : Sto) : lenD [.lst xs] s = .ok (.int xs.length) s := rfl
theorem fmod_pos {a b : Int} (h : 0 < b) : a.fmod b = a % b := Int.fmod_eq_emod_of_nonneg a (Int.le_of_lt h)
theorem fdiv_pos {a b : Int} (h : 0 < b) : a.fdiv b = a / b := Int.fdiv_eq_ediv_of_nonneg a (Int.le_of_lt h)
theorem Sm.n {x : Int} (h : x.natAbs < 2 ^ 64) : Sm x := Sm.of h
@[simp] theorem pow18 (s : Sto) : powD (.int 10) (.int 18) s = .ok (.int 1000000000000000000) s := rfl
/-- the first part of a pull -/
abbrev pull1 : GS := (gIfS (gAnd (gT truB (gBin eqD (gBin ixD (gVar 0) (gC (.int 2))) (gC (.int 0)))) (gT truB (gBin ltD (gBin ixD (gVar 0) (gC (.int 1))) (gB lenD (gCons (gBin ixD (gVar 0) (gC (.int 0))) gNil)))))
 (gSeq (gSet 3 (gBin ixD (gBin ixD (gVar 0) (gC (.int 0))) (gBin ixD (gVar 0) (gC (.int 1)))))
 (gSeq (gSetI (gBin addD (gBin ixD (gVar 0) (gC (.int 1))) (gC (.int 1))) (gVar 0) (gC (.int 1)))
 (gIfS (gT truB (gBin geD (gVar 3) (gBin powD (gC (.int 10)) (gC (.int 18)))))
 (gSetI (gVar 3) (gVar 0) (gC (.int 2)))
 (gSetI (gBin modD (gB intD (gCons (gBin addD (gBin addD (gBin mulD (gBin ixD (gVar 0) (gC (.int 3))) (gC (.int 40237))) (gBin mulD (gBin modD (gB intD (gCons (gVar 3) gNil)) (gC (.int 2147483489))) (gC (.int 6581)))) (gC (.int 37))) gNil)) (gC (.int 2147483629))) (gVar 0) (gC (.int 3))))))
 gNext)
theorem ev_pull1 {T : Sto} (k : Nat) (m : DV) (s : Sto) (h : BagOk T k s) : ∃ x3 s', pull1 [some (.mr 0), some m, none, none, none] s = .nx [some (.mr 0), some m, none, x3, none] s' ∧ BagOk T k s' := by
  obtain ⟨c, i, r, sd, ct, rfl, v⟩ := h
  obtain ⟨ns, rfl⟩ := v.c
  by_cases q : r = 0
  · by_cases q2 : i < ns.length
    · have hl : i.toNat < ns.length := by have := v.i0; omega
      have e1 : ∀ s, ixD (.lst (ns.map DV.int)) (.int i) s = .ok (.int ns[i.toNat]) s := fun s => ixD_seq (xs := ns.map DV.int) rfl (fun z h => nomatch h) v.i0 (by simp [hl])
      generalize ns[i.toNat] = cell at e1
      by_cases q3 : 1000000000000000000 ≤ cell
      · refine ⟨some (.int cell), bag T (ns.map DV.int) (i + 1) cell sd ct, ?_, _, _, _, _, _, rfl, ⟨ns, rfl⟩, by have := v.i0; omega, by omega, v.s0, v.s1, v.t0, v.t1⟩
        simp only [pull1, bag]
        simp [q, q2, eqD_int, e1, q3]
      · have m1 : ∀ s, modD (.int cell) (.int 2147483489) s = .ok (.int (cell % 2147483489)) s := fun s => by rw [modD_of (by decide), fmod_pos (by decide)]
        have m2 : ∀ x s, modD (.int x) (.int 2147483629) s = .ok (.int (x % 2147483629)) s := fun x s => by rw [modD_of (by decide), fmod_pos (by decide)]
        have a1 : ∀ s, mulD (.int sd) (.int 40237) s = .ok (.int (sd * 40237)) s := mulD_of (Sm.n (by have := v.s0; have := v.s1; omega)) (Sm.n (by decide))
        have a2 : ∀ s, mulD (.int (cell % 2147483489)) (.int 6581) s = .ok (.int (cell % 2147483489 * 6581)) s := mulD_of (Sm.n (by omega)) (Sm.n (by decide))
        refine ⟨some (.int cell), bag T (ns.map DV.int) (i + 1) r ((sd * 40237 + cell % 2147483489 * 6581 + 37) % 2147483629) ct, ?_, _, _, _, _, _, rfl, ⟨ns, rfl⟩, by have := v.i0; omega, v.r0, by omega, by omega, v.t0, v.t1⟩
        simp only [pull1, bag]
        simp [q, q2, eqD_int, e1, q3, m1, m2, a1, a2]
    · refine ⟨none, bag T (ns.map DV.int) i r sd ct, ?_, _, _, _, _, _, rfl, v⟩
      simp only [pull1, bag]
      simp [q, q2, eqD_int]
  · refine ⟨none, bag T (ns.map DV.int) i r sd ct, ?_, _, _, _, _, _, rfl, v⟩
    simp only [pull1, bag]
    simp [q, eqD_int]
theorem ev_pull {T : Sto} (L k : Nat) (m : Int) (s : Sto) (h : BagOk T k s) (hm : 0 < m) (sm : Sm m) (hk : k < 2 ^ 60) : ∃ v s', m_law_pull L [.mr 0, .int m] s = .ok (.int v) s' ∧ 0 ≤ v ∧ v < m ∧ BagOk T (k + 1) s' := by
  obtain ⟨x3, s1, e, h1⟩ := ev_pull1 k (.int m) s h
  have hlen : s.length = T.length + 1 := by obtain ⟨c, i, r, sd, ct, rfl, _⟩ := h; rfl
  obtain ⟨c, i, r, sd, ct, rfl, v⟩ := h1
  have m1 : ∀ x s, modD (.int x) (.int m) s = .ok (.int (x % m)) s := fun x s => by rw [modD_of (by omega), fmod_pos hm]
  have d1 : ∀ x s, fdivD (.int x) (.int m) s = .ok (.int (x / m)) s := fun x s => by rw [fdivD_of (by omega) sm, fdiv_pos hm]
  have hb : ∀ x : Int, 0 ≤ x % m ∧ x % m < m := fun x => ⟨Int.emod_nonneg _ (by omega), Int.emod_lt_of_pos _ hm⟩
  by_cases q : 0 < r
  · refine ⟨r % m, bag T c i (r / m) sd ct, ?_, (hb r).1, (hb r).2, _, _, _, _, _, rfl, ⟨v.c, v.i0, Int.ediv_nonneg v.r0 (Int.le_of_lt hm), v.s0, v.s1, v.t0, by have := v.t1; omega⟩⟩
    simp only [m_law_pull, Dq.run, b_law_pull]
    rw [gSeq]
    simp [-gSeq, -gIfS]
    refine Eq.trans (congrArg (fun r => RS.fin s (RS.seq r _)) e) ?_
    simp [bag, q, m1, d1, hlen]
  · have m2 : ∀ x s, modD (.int x) (.int 2147483579) s = .ok (.int (x % 2147483579)) s := fun x s => by rw [modD_of (by decide), fmod_pos (by decide)]
    have m3 : ∀ x s, modD (.int x) (.int 8059) s = .ok (.int (x % 8059)) s := fun x s => by rw [modD_of (by decide), fmod_pos (by decide)]
    have d2 : ∀ x s, fdivD (.int x) (.int 61) s = .ok (.int (x / 61)) s := fun x s => by rw [fdivD_of (by decide) (Sm.n (by decide)), fdiv_pos (by decide)]
    have ssd : Sm sd := Sm.n (by have := v.s0; have := v.s1; omega)
    have a1 : ∀ s, mulD (.int sd) (.int sd) s = .ok (.int (sd * sd)) s := mulD_of ssd ssd
    have a2 : ∀ s, mulD (.int sd) (.int 28657) s = .ok (.int (sd * 28657)) s := mulD_of ssd (Sm.n (by decide))
    have a3 : ∀ s, mulD (.int (ct + 1)) (.int 1300367) s = .ok (.int ((ct + 1) * 1300367)) s := mulD_of (Sm.n (by have := v.t0; have := v.t1; omega)) (Sm.n (by decide))
    have a4 : ∀ x s, mulD (.int (x % 8059)) (.int 47) s = .ok (.int (x % 8059 * 47)) s := fun x => mulD_of (Sm.n (by omega)) (Sm.n (by decide))
    let sd2 := (sd * sd + sd * 28657 + (ct + 1) * 1300367 + 70001) % 2147483579
    have e2 : (sd * sd + sd * 28657 + (ct + 1) * 1300367 + 70001) % 2147483579 = sd2 := rfl
    have g2 : 0 ≤ sd2 ∧ sd2 < 2147483579 := ⟨Int.emod_nonneg _ (by decide), Int.emod_lt_of_pos _ (by decide)⟩
    refine ⟨(sd2 / 61 + sd2 % 8059 * 47) % m, bag T c i r sd2 (ct + 1), ?_, (hb _).1, (hb _).2, _, _, _, _, _, rfl, ⟨v.c, v.i0, v.r0, g2.1, by omega, by have := v.t0; omega, by have := v.t1; omega⟩⟩
    simp only [m_law_pull, Dq.run, b_law_pull]
    rw [gSeq]
    simp [-gSeq, -gIfS]
    refine Eq.trans (congrArg (fun r => RS.fin s (RS.seq r _)) e) ?_
    simp [bag, q, m1, m2, m3, d2, a1, a2, a3, a4, e2, hlen]
theorem ev_pick {T : Sto} (L k : Nat) (xs : List DV) (s : Sto) (h : BagOk T k s) (h0 : 0 < xs.length) (h1 : xs.length < 100) (hk : k < 2 ^ 60) : ∃ d s', m_law_pick L [.mr 0, .lst xs] s = .ok d s' ∧ d ∈ xs ∧ BagOk T (k + 1) s' := by
  obtain ⟨v, s', e, v0, v1, b⟩ := ev_pull L k xs.length s h (by omega) (Sm.n (by omega)) hk
  have hl : v.toNat < xs.length := by omega
  have e1 : ixD (.lst xs) (.int v) s' = .ok xs[v.toNat] s' := ixD_seq (xs := xs) rfl (fun z h => nomatch h) v0 (by simp [hl])
  refine ⟨xs[v.toNat], s', ?_, List.getElem_mem _, b⟩
  have z : s'.length = s.length := by
    obtain ⟨c, i, r, sd, ct, rfl, _⟩ := h
    obtain ⟨c', i', r', sd', ct', rfl, _⟩ := b
    rfl
  simp only [m_law_pick, Dq.run, b_law_pick]
  simp [e, e1, z]
theorem BagOk.len {T : Sto} {k j : Nat} {s s' : Sto} (h : BagOk T k s) (b : BagOk T j s') : s'.length = s.length := by
  obtain ⟨c, i, r, sd, ct, rfl, _⟩ := h
  obtain ⟨c', i', r', sd', ct', rfl, _⟩ := b
  rfl
theorem ev_start (L : Nat) (ns : List Int) (h : ns.length ≤ 63) : ∃ s, m_law_start L [.wl (ns.map DV.int)] [] = .ok (.mr 0) s ∧ BagOk [] 0 s := by
  refine ⟨bag [] (ns.map DV.int) 0 0 (49290 + ns.length) 0, ?_, _, _, _, _, _, rfl, ⟨ns, rfl⟩, by decide, by decide, by omega, by omega, by decide, by decide⟩
  have hc : Dq.cutD (ns.map DV.int) none (some 63) = ns.map DV.int := by
    unfold Dq.cutD
    have e1 : HT.sIx (ns.map DV.int).length 0 none = 0 := rfl
    have e2 : HT.sIx (ns.map DV.int).length (ns.map DV.int).length (some 63) = ns.length := by
      have := HT.sIx_nat (ns.map DV.int).length (ns.map DV.int).length 63
      refine this.trans ?_
      rw [List.length_map]
      omega
    rw [e1, e2]
    simp only [List.drop_zero, Nat.sub_zero]
    rw [List.take_of_length_le (by simp)]
  simp only [m_law_start, runK, b_law_start]
  simp [gSl, gNo, gPart, slD, hc, listD, lenD, RS.finK]
theorem rt_bl (b : Bool) (s s' : Sto) : ∃ t, RS.fin s (.rt (.bl b) s') = .ok (.bl b) t := by
  show ∃ t, Dq.fin s (.bl b) s' = .ok (.bl b) t
  unfold Dq.fin
  cases decide (s'.length = s.length) with
  | true => exact ⟨_, rfl⟩
  | false =>
    simp only [frz]
    split <;> exact ⟨_, rfl⟩
/-! comprehensions whose parts draw -/
theorem bels_ints (m : Nat) : ∀ ns : List Int, bels m (ns.map DV.int) = true
  | [] => by simp [bels]
  | n :: ns => by
    rw [List.map_cons]
    unfold bels
    rw [bels_ints m ns]
    rfl
theorem lcR_draw {T : Sto} {t : GTg} {el : GE} {ρ : En} {Y : DV → Prop} {d : Nat} (hel : ∀ x, ∃ ρ1, t x ρ = some ρ1 ∧ ∀ (T' : Sto) (k : Nat) (s : Sto), BagOk T' k s → k + d < 2 ^ 59 → ∃ y s', el ρ1 s = .ok y s' ∧ Y y ∧ BagOk T' (k + d) s') :
    ∀ (xs acc : List DV) (k : Nat) (s : Sto), BagOk (T ++ [some (.lst acc)]) k s → k + d * xs.length < 2 ^ 58 → acc.length + xs.length ≤ sizeLine →
      ∃ ys s', lcR t gYes el ρ (T.length + 1) xs s = some s' ∧ BagOk (T ++ [some (.lst (acc ++ ys))]) (k + d * xs.length) s' ∧ ys.length = xs.length ∧ ∀ y ∈ ys, Y y
  | [], acc, k, s, h, _, _ => ⟨[], s, rfl, by simpa using h, rfl, fun y hy => nomatch hy⟩
  | x :: xs, acc, k, s, h, hk, hl => by
    rw [List.length_cons] at hk hl
    rw [Nat.mul_add, Nat.mul_one] at hk
    obtain ⟨ρ1, e1, e2⟩ := hel x
    obtain ⟨y, s1, e3, hy, b1⟩ := e2 _ k s h (by omega)
    obtain ⟨c, i, r, sd, ct, rfl, v⟩ := b1
    have e4 : (bag (T ++ [some (MO.lst acc)]) c i r sd ct)[T.length + 1]? = some (some (MO.lst acc)) := by simp [bag]
    have e5 : (bag (T ++ [some (MO.lst acc)]) c i r sd ct).set (T.length + 1) (some (MO.lst (acc ++ [y]))) = bag (T ++ [some (MO.lst (acc ++ [y]))]) c i r sd ct := by
      simp [bag, List.set_append]
    have e6 : decide (acc.length < sizeLine) = true := decide_eq_true (by omega)
    obtain ⟨ys, s2, e7, b2, l2, h2⟩ := lcR_draw hel xs (acc ++ [y]) (k + d) (bag (T ++ [some (MO.lst (acc ++ [y]))]) c i r sd ct) ⟨c, i, r, sd, ct, rfl, v⟩ (by omega) (by rw [List.length_append, List.length_cons, List.length_nil]; omega)
    refine ⟨y :: ys, s2, ?_, ?_, by simp [l2], ?_⟩
    · rw [lcR, e1]
      show (match el ρ1 s with
        | .ok y s2 => match s2[T.length + 1]? with
          | some (some (.lst acc)) => match decide (acc.length < sizeLine) with
            | true => lcR t gYes el ρ (T.length + 1) xs (s2.set (T.length + 1) (some (.lst (acc ++ [y]))))
            | false => none
          | _ => none
        | _ => none) = _
      rw [e3]
      simp only [e4, e6, e5]
      exact e7
    · rw [List.append_assoc] at b2
      rw [List.length_cons, show k + d * (xs.length + 1) = k + d + d * xs.length from by rw [Nat.mul_add, Nat.mul_one]; omega]
      exact b2
    · intro z hz
      rcases List.mem_cons.mp hz with rfl | hz
      · exact hy
      · exact h2 z hz
theorem gLr_draw {T : Sto} {f : List DV → Option (Int × Nat)} {gl : GL} {t : GTg} {vs : List Nat} {el : GE} {ρ : En} {Y : DV → Prop} {d k n : Nat} {lo : Int} {s s1 : Sto} {ds : List DV} (hg : gl ρ s = .ok ds s1) (hf : f ds = some (lo, n)) (hT : T.all (belO (T.length + 1)) = true) (h : BagOk T k s1)
    (hel : ∀ x, ∃ ρ1, t x (wipeD ρ vs) = some ρ1 ∧ ∀ (T' : Sto) (k : Nat) (s : Sto), BagOk T' k s → k + d < 2 ^ 59 → ∃ y s', el ρ1 s = .ok y s' ∧ Y y ∧ BagOk T' (k + d) s')
    (hk : k + d * n < 2 ^ 58) (hn : n ≤ 16777216) (hb : ∀ y, Y y → bel (T.length + 1) y = true) : ∃ ys s', gLr f gl t vs gYes el ρ s = .ok (.lst ys) s' ∧ BagOk T (k + d * n) s' ∧ ys.length = n ∧ ∀ y ∈ ys, Y y := by
  obtain ⟨c, i, r, sd, ct, rfl, v⟩ := h
  have hr : (rangeI lo n).length = n := by simp [rangeI]
  obtain ⟨ys, s2, e, b, l, hy⟩ := lcR_draw (T := T) hel (rangeI lo n) [] k (bag (T ++ [some (MO.lst [])]) c i r sd ct) ⟨c, i, r, sd, ct, rfl, v⟩ (by rw [hr]; exact hk) (by rw [hr, List.length_nil]; exact Nat.le_trans (by omega) (show 16777216 ≤ sizeLine by decide))
  rw [hr] at b l
  obtain ⟨c', i', r', sd', ct', rfl, v'⟩ := b
  refine ⟨ys, bag T c' i' r' sd' ct', ?_, ⟨c', i', r', sd', ct', rfl, v'⟩, l, hy⟩
  unfold gLr
  rw [hg]
  simp only [R.bind_ok, hf]
  have e0 : (bag T c i r sd ct) ++ [some (MO.lst [])] = bag (T ++ [some (MO.lst [])]) c i r sd ct := rfl
  have e1 : (bag T c i r sd ct).length = T.length + 1 := by simp [bag]
  rw [e0, e1, e]
  simp only
  unfold lcEnd
  have e4 : (bag (T ++ [some (MO.lst ([] ++ ys))]) c' i' r' sd' ct')[T.length + 1]? = some (some (MO.lst ys)) := by simp [bag]
  have e5 : (bag (T ++ [some (MO.lst ([] ++ ys))]) c' i' r' sd' ct').set (T.length + 1) none = bag T c' i' r' sd' ct' ++ [none] := by simp [bag, List.set_append]
  have hbs : bels (T.length + 1) ys = true := by
    clear e e4 e5 l
    induction ys with
    | nil => simp [bels]
    | cons y ys ih =>
      unfold bels
      rw [hb y (hy y (.head _)), ih (fun z hz => hy z (.tail _ hz))]
      rfl
  have hc : cutOk (bag T c i r sd ct) (bag T c' i' r' sd' ct' ++ [none]) = true := by
    unfold cutOk
    rw [Bool.or_eq_true]
    right
    rw [e1]
    have : (bag T c' i' r' sd' ct' ++ [none]).take (T.length + 1) = bag T c' i' r' sd' ct' := by
      rw [List.take_append_of_le_length (by simp [bag])]
      exact List.take_of_length_le (by simp [bag])
    rw [this]
    obtain ⟨ns, rfl⟩ := v'.c
    simp only [bag, List.all_cons, Bool.and_eq_true]
    refine ⟨?_, hT⟩
    simp [belO, bels, bel, bels_ints]
  rw [e1]
  simp only [e4, e5, hbs, hc, Bool.and_self]
  rw [show T.length + 1 = (bag T c' i' r' sd' ct').length from by simp [bag], List.take_left]
/-! draws of letters -/
theorem ev_pickS {T : Sto} (L k : Nat) (z : Str) (s : Sto) (h : BagOk T k s) (h0 : 0 < z.length) (h1 : z.length < 100) (hk : k < 2 ^ 60) : ∃ c s', m_law_pick L [.mr 0, .str z] s = .ok (.str ⟨#[c]⟩) s' ∧ c ∈ z.cps.toList ∧ BagOk T (k + 1) s' := by
  obtain ⟨v, s', e, v0, v1, b⟩ := ev_pull L k z.length s h (by omega) (Sm.n (by omega)) hk
  have hl : v.toNat < z.cps.toList.length := by
    have : z.cps.toList.length = z.length := by simp [Str.length]
    omega
  have hz : z.length ≤ sizeLine := Nat.le_trans (Nat.le_of_lt h1) (by decide)
  have e1 : ixD (.str z) (.int v) s' = .ok (.str ⟨#[z.cps.toList[v.toNat]]⟩) s' := by
    have : atI z.cps.toList v = some z.cps.toList[v.toNat] := by
      unfold atI L2.ixN
      have h3 : v < (z.cps.toList.length : Int) := by omega
      have h4 : 0 ≤ v ∧ v < (z.cps.toList.length : Int) := ⟨v0, h3⟩
      simp only [v0, h3, if_true]
      show z.cps.toList[v.toNat]? = _
      exact List.getElem?_eq_getElem hl
    unfold ixD
    simp only [this, decide_eq_true hz]
  refine ⟨_, s', ?_, List.getElem_mem hl, b⟩
  have zl : s'.length = s.length := by
    obtain ⟨c, i, r, sd, ct, rfl, _⟩ := h
    obtain ⟨c', i', r', sd', ct', rfl, _⟩ := b
    rfl
  have e2 : lenD [.str z] s = .ok (.int z.length) s := okIf_of (decide_eq_true hz) _ _
  simp only [m_law_pick, Dq.run, b_law_pick]
  simp [e, e1, e2, zl]
end Row

namespace Row
open PySem PySem.Spec PyProof.Rows L2 Dq
abbrev fr (n d : Int) : DV := .tup [.int n, .int d]
abbrev rat (n d : Int) : DV := .ins 4 [0, 1] [.int n, .int d]
@[simp] theorem ix_fr0 (n d : DV) (s : Sto) : ixD (.tup [n, d]) (.int 0) s = .ok n s := rfl
@[simp] theorem ix_fr1 (n d : DV) (s : Sto) : ixD (.tup [n, d]) (.int 1) s = .ok d s := rfl
@[simp] theorem sz4 : (4 : Nat) ≤ sizeLine := by decide
@[simp] theorem tup2_ok : (2 : Nat) ≤ sizeLine := by decide
def Lb : Nat := 2 ^ 5000
/-! gcd, fractions -/
theorem emod_lt {a b : Int} (h : 0 < b) : a % b < b := Int.emod_lt_of_pos a h
theorem ev_gcd_loop (s : Sto) : ∀ (n : Nat) (a b : Int), 0 ≤ a → 0 ≤ b → b < n →
    whR (gT truB (gBin gtD (gVar 1) (gC (.int 0)))) (gPar 0 1 (gCons (gVar 1) (gCons (gBin modD (gB intD (gCons (gVar 0) gNil)) (gVar 1)) gNil))) n [some (.int a), some (.int b)] s = .nx [some (.int (Int.gcd a b)), some (.int 0)] s
  | 0, a, b, _, h0, h => by omega
  | n + 1, a, b, ha, hb, h => by
    rw [whR]
    by_cases z : b = 0
    · subst z
      simp
      omega
    · have bp : 0 < b := by omega
      have e : a.fmod b = a % b := Int.fmod_eq_emod_of_nonneg a hb
      have ih := ev_gcd_loop s n b (a % b) hb (Int.emod_nonneg a z) (by have := emod_lt (a := a) bp; omega)
      have g : Int.gcd b (a % b) = Int.gcd a b := by
        have q : a = a % b + a / b * b := by have := Int.mul_ediv_add_emod a b; grind
        calc Int.gcd b (a % b) = Int.gcd b (a % b + a / b * b) := (Int.gcd_add_mul_right_right ..).symm
          _ = Int.gcd a b := by rw [← q, Int.gcd_comm]
      rw [g] at ih
      simp [bp, modD_of z, e]
      exact ih
theorem ev_gcd (L : Nat) (a b : Int) (s : Sto) (ha : 0 ≤ a) (hb : 0 ≤ b) (hL : b < L) : m_law_gcd L [.int a, .int b] s = .ok (.int (Int.gcd a b)) s := by
  simp only [m_law_gcd, Dq.run, b_law_gcd]
  have := ev_gcd_loop s L a b ha hb hL
  simp [-Dq.gCons, -gT, -gPar, this]
theorem fdiv_mul {g n : Int} (h : g ≠ 0) : (g * n).fdiv g = n := Int.mul_fdiv_cancel_left n h
/-- a fraction in lowest terms and its size -/
structure Fr (n d a b : Int) : Prop where
  p : 0 < d
  g : Int.gcd n d = 1
  e : n * b = a * d
  n : n.natAbs ≤ a.natAbs
  d : d.natAbs ≤ b.natAbs
theorem low_terms {a b : Int} (hb : b ≠ 0) : ∃ n0 d0 : Int, a = Int.gcd a b * n0 ∧ b = Int.gcd a b * d0 ∧ Int.gcd n0 d0 = 1 ∧ n0.natAbs ≤ a.natAbs ∧ d0.natAbs ≤ b.natAbs ∧ 0 < Int.gcd a b ∧ Int.gcd a b ≤ b.natAbs := by
  have g0 : 0 < Int.gcd a b := Int.gcd_pos_of_ne_zero_right a hb
  obtain ⟨n0, hn⟩ := Int.gcd_dvd_left a b
  obtain ⟨d0, hd⟩ := Int.gcd_dvd_right a b
  refine ⟨n0, d0, hn, hd, ?_, ?_, ?_, g0, Nat.le_of_dvd (by omega) (Int.natAbs_dvd_natAbs.mpr (Int.gcd_dvd_right a b))⟩
  · have : Int.gcd a b = Int.gcd a b * Int.gcd n0 d0 := by
      have e := Int.gcd_mul_left (Int.gcd a b) n0 d0
      rw [← hn, ← hd, Int.natAbs_natCast] at e
      exact e
    exact Nat.eq_of_mul_eq_mul_left g0 (by omega)
  · have : a.natAbs = Int.gcd a b * n0.natAbs := by
      have e := congrArg Int.natAbs hn
      rw [Int.natAbs_mul, Int.natAbs_natCast] at e
      exact e
    have := Nat.le_mul_of_pos_left n0.natAbs g0
    omega
  · have : b.natAbs = Int.gcd a b * d0.natAbs := by
      have e := congrArg Int.natAbs hd
      rw [Int.natAbs_mul, Int.natAbs_natCast] at e
      exact e
    have := Nat.le_mul_of_pos_left d0.natAbs g0
    omega
theorem ev_frac (L : Nat) (a b : Int) (s : Sto) (hb : b ≠ 0) (hs : Sm b) (hL : (b.natAbs : Int) < L) : ∃ n d, m_law_frac L [.int a, .int b] s = .ok (fr n d) s ∧ Fr n d a b := by
  obtain ⟨n0, d0, hn, hd, hg, b1, b2, g0, g1⟩ := low_terms (a := a) hb
  have ab : ∀ x : Int, (if x < 0 then -x else x) = (x.natAbs : Int) := fun x => by split <;> omega
  have h1 := ev_gcd L a.natAbs b.natAbs s (by omega) (by omega) hL
  rw [show Int.gcd (a.natAbs : Int) (b.natAbs : Int) = Int.gcd a b from by simp only [Int.gcd, Int.natAbs_natCast]] at h1
  have gs : Sm (Int.gcd a b : Int) := by
    show Int.natAbs _ < _
    rw [Int.natAbs_natCast]
    exact Nat.lt_of_le_of_lt g1 hs
  generalize Int.gcd a b = g at *
  by_cases p : 0 < b
  · have gz : (g : Int) ≠ 0 := by omega
    refine ⟨n0, d0, ?_, ?_, hg, ?_, b1, b2⟩
    · simp only [m_law_frac, Dq.run, b_law_frac]
      have x1 : a.fdiv (g : Int) = n0 := by rw [hn]; exact fdiv_mul gz
      have x2 : b.fdiv (g : Int) = d0 := by rw [hd]; exact fdiv_mul gz
      simp [ab, h1, p, fdivD_of gz gs, x1, x2]
    · rw [hd] at p
      exact Int.pos_of_mul_pos_right p (by omega)
    · rw [hn, hd]; grind
  · have gz : (0 - (g : Int)) ≠ 0 := by omega
    have gs' : Sm (0 - (g : Int)) := by rw [Int.zero_sub]; exact gs.neg
    refine ⟨-n0, -d0, ?_, ?_, by simpa using hg, ?_, by omega, by omega⟩
    · simp only [m_law_frac, Dq.run, b_law_frac]
      have x1 : a.fdiv (0 - (g : Int)) = -n0 := by
        rw [hn, show (g : Int) * n0 = (0 - (g : Int)) * (-n0) from by grind]; exact fdiv_mul gz
      have x2 : b.fdiv (0 - (g : Int)) = -d0 := by
        rw [hd, show (g : Int) * d0 = (0 - (g : Int)) * (-d0) from by grind]; exact fdiv_mul gz
      simp only [Int.zero_sub] at gz gs' x1 x2
      simp [ab, h1, p, fdivD_of gz gs', x1, x2]
    · have : (g : Int) * d0 < 0 := by rw [← hd]; omega
      have : 0 < (g : Int) * (-d0) := by rw [Int.mul_neg]; omega
      exact Int.pos_of_mul_pos_right this (by omega)
    · rw [hn, hd]; grind
/-! ratios -/
@[simp] theorem fct4 : fc__top 4 = true := rfl
@[simp] theorem fcb4 : fc__bottom 4 = true := rfl
@[simp] theorem isi_rat (n d : DV) (s : Sto) : isiD isi_Ratio (.ins 4 [0, 1] [n, d]) s = .ok (.bl true) s := rfl
@[simp] theorem isi_int_int (n : Int) (s : Sto) : isiD isi_int (.int n) s = .ok (.bl true) s := rfl
@[simp] theorem isi_bool_int (n : Int) (s : Sto) : isiD isi_bool (.int n) s = .ok (.bl false) s := rfl
theorem ev_isnum (L : Nat) (n : Int) (s : Sto) : m_is_number L [.int n] s = .ok (.bl true) s := by
  simp [m_is_number, Dq.run, b_is_number]
@[simp] theorem ev_top (L : Nat) (n d : Int) (s : Sto) : m_Ratio_top L [rat n d] s = .ok (.int n) s := by
  simp [m_Ratio_top, Dq.run, b_Ratio_top]
@[simp] theorem ev_bottom (L : Nat) (n d : Int) (s : Sto) : m_Ratio_bottom L [rat n d] s = .ok (.int d) s := by
  simp [m_Ratio_bottom, Dq.run, b_Ratio_bottom]
/-- a fraction in lowest terms of some size -/
structure FrOk (n d : Int) : Prop where
  p : 0 < d
  g : Int.gcd n d = 1
  n : n.natAbs < 2 ^ 200
  d : d.natAbs < 2 ^ 200
theorem FrOk.sn {n d : Int} (h : FrOk n d) : Sm n := Sm.of h.n
theorem FrOk.sd {n d : Int} (h : FrOk n d) : Sm d := Sm.of h.d
theorem lt200 {n : Nat} (h : n < 2 ^ 128) : n < 2 ^ 200 := Nat.lt_of_lt_of_le h (Nat.pow_le_pow_right (by decide) (by decide))
theorem ltL {L : Nat} (hL : Lb ≤ L) {x : Int} (h : x.natAbs < 2 ^ 4000) : (x.natAbs : Int) < L := by
  have : (2 : Nat) ^ 4000 ≤ Lb := Nat.pow_le_pow_right (by decide) (by decide)
  omega
theorem Sm.ltL {L : Nat} (hL : Lb ≤ L) {x : Int} (h : Sm x) : (x.natAbs : Int) < L := Row.ltL hL h
@[simp] theorem pow6 (s : Sto) : powD (.int 10) (.int 6) s = .ok (.int 1000000) s := rfl
@[simp] theorem pow3 (s : Sto) : powD (.int 10) (.int 3) s = .ok (.int 1000) s := rfl
@[simp] theorem pow9 (s : Sto) : powD (.int 10) (.int 9) s = .ok (.int 1000000000) s := rfl
@[simp] theorem pow29 (s : Sto) : powD (.int 10) (.int 29) s = .ok (.int 100000000000000000000000000000) s := rfl
@[simp] theorem pow30 (s : Sto) : powD (.int 10) (.int 30) s = .ok (.int 1000000000000000000000000000000) s := rfl
theorem Sm.n2 {x : Int} (h : x.natAbs < 2 ^ 128) : Sm x := Sm.of h
@[simp] theorem sz3 : (3 : Nat) ≤ sizeLine := by decide
theorem dvd_co {n d d' : Int} (g : Int.gcd n d = 1) (h : d ∣ n * d') : d ∣ d' := by
  have h1 := Int.natAbs_dvd_natAbs.mpr h
  rw [Int.natAbs_mul] at h1
  have co : Nat.Coprime d.natAbs n.natAbs := by
    show Nat.gcd d.natAbs n.natAbs = 1
    rw [Nat.gcd_comm]
    exact g
  exact Int.natAbs_dvd_natAbs.mp (Nat.Coprime.dvd_of_dvd_mul_left co h1)
theorem Fr.uniq {n d n' d' a b : Int} (hb : b ≠ 0) (f : Fr n d a b) (f' : Fr n' d' a b) : n = n' ∧ d = d' := by
  have e : n * d' = n' * d := by
    have h1 := f.e
    have h2 := f'.e
    have h3 : (n * d') * b = (n' * d) * b := by
      calc (n * d') * b = (n * b) * d' := by grind
        _ = (a * d) * d' := by rw [h1]
        _ = (a * d') * d := by grind
        _ = (n' * b) * d := by rw [h2]
        _ = (n' * d) * b := by grind
    exact Int.eq_of_mul_eq_mul_right hb h3
  have dv : d ∣ d' := by
    have : d ∣ n * d' := ⟨n', by rw [e]; grind⟩
    exact dvd_co f.g this
  have dv' : d' ∣ d := by
    have : d' ∣ n' * d := ⟨n, by rw [← e]; grind⟩
    exact dvd_co f'.g this
  have ed : d = d' := by
    have h1 := Int.le_of_dvd f'.p dv
    have h2 := Int.le_of_dvd f.p dv'
    omega
  subst ed
  exact ⟨Int.eq_of_mul_eq_mul_right (by have := f.p; omega) e, rfl⟩
theorem ev_rinit (L : Nat) (a b : Int) (hb : b ≠ 0) (hs : Sm b) : ∃ n d, (∀ s : Sto, m_Ratiodd_initdd L [.mr s.length, .int a, .int b] (s ++ [some (.ins 4 [] [])]) = .ok .non (s ++ [some (.ins 4 [0, 1] [.int n, .int d])])) ∧ Fr n d a b := by
  obtain ⟨n0, d0, hn, hd, hg, b1, b2, g0, g1⟩ := low_terms (a := a) hb
  have gs : Sm (Int.gcd a b : Int) := by
    show Int.natAbs _ < _
    rw [Int.natAbs_natCast]
    exact Nat.lt_of_le_of_lt g1 hs
  generalize hgc : Int.gcd a b = g at *
  by_cases p : b < 0
  · have gz : (-(g : Int)) ≠ 0 := by omega
    refine ⟨-n0, -d0, fun s => ?_, ?_, by simpa using hg, ?_, by omega, by omega⟩
    · have x1 : a.fdiv (-(g : Int)) = -n0 := by rw [hn, show (g : Int) * n0 = (-(g : Int)) * (-n0) from by grind]; exact fdiv_mul gz
      have x2 : b.fdiv (-(g : Int)) = -d0 := by rw [hd, show (g : Int) * d0 = (-(g : Int)) * (-d0) from by grind]; exact fdiv_mul gz
      simp [m_Ratiodd_initdd, Dq.run, b_Ratiodd_initdd, ev_isnum, eqD_int, hb, p, hgc, fdivD_of gz gs.neg, x1, x2]
    · have : (g : Int) * d0 < 0 := by rw [← hd]; omega
      have : 0 < (g : Int) * (-d0) := by rw [Int.mul_neg]; omega
      exact Int.pos_of_mul_pos_right this (by omega)
    · rw [hn, hd]; grind
  · have gz : (g : Int) ≠ 0 := by omega
    refine ⟨n0, d0, fun s => ?_, ?_, hg, ?_, b1, b2⟩
    · have x1 : a.fdiv (g : Int) = n0 := by rw [hn]; exact fdiv_mul gz
      have x2 : b.fdiv (g : Int) = d0 := by rw [hd]; exact fdiv_mul gz
      simp [m_Ratiodd_initdd, Dq.run, b_Ratiodd_initdd, ev_isnum, eqD_int, hb, p, hgc, fdivD_of gz gs, x1, x2]
    · have : 0 < (g : Int) * d0 := by rw [← hd]; omega
      exact Int.pos_of_mul_pos_right this (by omega)
    · rw [hn, hd]; grind
theorem ev_rmake (L : Nat) (a b : Int) (hb : b ≠ 0) (hs : Sm b) : ∃ n d, (∀ s, makeD false 4 (m_Ratiodd_initdd L) [.int a, .int b] s = .ok (rat n d) s) ∧ Fr n d a b := by
  obtain ⟨n, d, e, f⟩ := ev_rinit L a b hb hs
  exact ⟨n, d, fun s => makeD_ins (e s) rfl, f⟩
theorem ints_free (ns : List Int) : xfrees (ns.map DV.int) = true := by
  induction ns with
  | nil => unfold xfrees; rfl
  | cons n ns ih =>
    rw [List.map_cons]
    unfold xfrees
    rw [ih]
    unfold xfree
    rfl
theorem BagOk.free {k : Nat} {s : Sto} (h : BagOk [] k s) : s.all xfreeO = true := by
  obtain ⟨c, i, r, sd, ct, rfl, v⟩ := h
  obtain ⟨ns, rfl⟩ := v.c
  have e := ints_free ns
  simp [xfreeO, xfrees, xfree, e]
theorem run_rt' {b : GS} {th : Sto → R DV} {N : Nat} {B : (Sto → R DV) → GS} {s : Sto} {d : DV} (h : B th (some (.fn s.length) :: List.replicate (N - 1) none) s = .rt d s) (f : xfree d = true) (fs : s.all xfreeO = true) : runH N B th s = .ok d s := by
  unfold runH
  rw [h]
  rw [fin_same _ _ _ rfl]
  simp only [f, fs, Bool.and_self]
theorem try_ok (L : Nat) (th : Sto → R DV) (s : Sto) (d : DV) (h : th s = .ok d s) (f : xfree d = true) (fs : s.all xfreeO = true) : h_law_try L th s = .ok (.tup [.str "told", d]) s := by
  refine run_rt' (b := gBad) ?_ (by simp [xfree, xfrees, f]) fs
  simp [b_law_try, gTry, gAsk, fs, h]
theorem ev_fields (L : Nat) (g : DV) (s : Sto) : m_law_fields L [.exn 1 [3, 2] [.str "InvalidRatio", g]] s = .ok (.tup [g]) s := run_rt rfl (by kernel_rfl) rfl
theorem try_no (L : Nat) (th : Sto → R DV) (s : Sto) (g : DV) (h : th s = .exc 1 [3, 2] [.str "InvalidRatio", g] s) (f : xfree g = true) (fs : s.all xfreeO = true) : h_law_try L th s = .ok (.tup [.str "no", .str "InvalidRatio", g]) s := by
  refine run_rt' (b := gBad) ?_ (by simp [xfree, xfrees, f]) fs
  have e1 : mtt 1 = some true := by decide
  have e2 : ∀ s, atE 3 fx_code (.exn 1 [3, 2] [.str "InvalidRatio", g]) s = .ok (.str "InvalidRatio") s := fun s => rfl
  have e3 : ∀ s, addD (.tup [.str "no", .str "InvalidRatio"]) (.tup [g]) s = .ok (.tup [.str "no", .str "InvalidRatio", g]) s := fun s => rfl
  have e4 := ev_fields L g s
  have e5 : gRet (gTup (gCons (gC (.str "told")) (gCons (gAsk th 0) gNil))) (some (.fn s.length) :: List.replicate (2 - 1) none) s = .exc 1 [3, 2] [.str "InvalidRatio", g] (some (.fn s.length) :: List.replicate (2 - 1) none) s := by
    simp [gAsk, fs, h, R.bind, R.toS]
  unfold b_law_try gTry
  rw [e5]
  simp only [e1]
  have e6 : gRet (gBin addD (gTup (gCons (gC (.str "no")) (gCons (gUn (atE 3 fx_code) (gVar 1)) gNil))) (gCall (m_law_fields L) [] (gCons (gVar 1) gNil))) ((some (.fn s.length) :: List.replicate (2 - 1) none).set 1 (some (.exn 1 [3, 2] [.str "InvalidRatio", g]))) s = .rt (.tup [.str "no", .str "InvalidRatio", g]) s := by
    simp [-atE, e2, e3, e4]
  rw [e6]
  simp [suiteD, xfree, xfrees, f, fs]
end Row

namespace Row
open PySem PySem.Spec PyProof.Rows L2 Dq TL
/-! numbers as texts -/
def decN (n : Int) : List Nat := (if n < 0 then [45] else []) ++ numL n.natAbs
theorem tl_ofS (s : String) : tl (Str.ofString s) = s.toList.map Char.toNat := by
  rw [Str.ofString_eq_toList]
theorem tl_dec : ∀ n : Int, tl (Str.ofString (toString n)) = decN n
  | .ofNat m => by
    have e : ¬ ((m : Nat) : Int) < 0 := by omega
    show tl (Str.ofString (toString ((m : Nat) : Int))) = _
    rw [tl_num]
    show _ = (if ((m : Nat) : Int) < 0 then [45] else []) ++ numL ((m : Nat) : Int).natAbs
    rw [if_neg e]
    rfl
  | .negSucc m => by
    have e : Int.negSucc m < 0 := Int.negSucc_lt_zero m
    unfold decN
    rw [if_pos e]
    show _ = 45 :: numL (m + 1)
    rw [← tl_num, tl_ofS, tl_ofS]
    have h : toString (Int.negSucc m) = "-" ++ toString ((m + 1 : Nat) : Int) := rfl
    rw [h, String.toList_append, List.map_append]
    rfl
theorem len_decN {n : Int} {k : Nat} (hk : 0 < k) (h : n.natAbs < 10 ^ k) : (decN n).length ≤ k + 1 := by
  unfold decN
  rw [List.length_append]
  have := numL_len hk h
  split <;> simp <;> omega
/-- r as k digits -/
def padL : Nat → Nat → List Nat
  | 0, _ => []
  | k + 1, r => padL k (r / 10) ++ [48 + r % 10]
theorem numL_pad : ∀ (k q r : Nat), 0 < q → r < 10 ^ k → numL (q * 10 ^ k + r) = numL q ++ padL k r
  | 0, q, r, hq, hr => by
    have : r = 0 := by simpa using hr
    subst this
    simp [padL]
  | k + 1, q, r, hq, hr => by
    have hp : 10 ^ (k + 1) = 10 ^ k * 10 := Nat.pow_succ ..
    rw [hp] at hr
    have h1 : 1 ≤ 10 ^ k := Nat.one_le_pow _ _ (by decide)
    have h2 : 10 ≤ q * 10 ^ (k + 1) + r := by
      rw [hp]
      have : 1 * (1 * 10) ≤ q * (10 ^ k * 10) := Nat.mul_le_mul hq (Nat.mul_le_mul h1 (Nat.le_refl _))
      omega
    have e : q * 10 ^ (k + 1) + r = (q * 10 ^ k) * 10 + r := by rw [hp, Nat.mul_assoc]
    rw [numL_step h2, e]
    have e1 : ((q * 10 ^ k) * 10 + r) / 10 = q * 10 ^ k + r / 10 := by omega
    have e2 : ((q * 10 ^ k) * 10 + r) % 10 = r % 10 := by omega
    rw [e1, e2, numL_pad k q (r / 10) hq (by omega), padL, List.append_assoc]
theorem padL_zero : ∀ k, padL k 0 = List.replicate k 48
  | 0 => rfl
  | k + 1 => by
    show padL k 0 ++ [48] = _
    rw [padL_zero k, List.replicate_succ', List.append_cancel_left_eq]
theorem padL_eq : ∀ (k r : Nat), 0 < k → r < 10 ^ k → padL k r = List.replicate (k - (numL r).length) 48 ++ numL r
  | 0, _, h, _ => absurd h (by decide)
  | k + 1, r, _, hr => by
    by_cases h : r < 10
    · rw [numL_lt h, padL, show r / 10 = 0 from by omega, padL_zero, Nat.mod_eq_of_lt h]
      rfl
    · have hk : 0 < k := by
        cases k with
        | zero => simp at hr; omega
        | succ j => omega
      have hp : 10 ^ (k + 1) = 10 ^ k * 10 := Nat.pow_succ ..
      rw [numL_step (by omega), padL, padL_eq k (r / 10) hk (by omega), List.length_append, List.append_assoc]
      congr 2
      simp
theorem sm10 {n : Nat} (h : n < 10 ^ 64) : n.log2 < 1920 := log2_lt (Nat.lt_of_lt_of_le h (by decide)) (by decide)
theorem tl_zfill {r : Nat} (h : r < 10 ^ 64) : tl (Txt.zfill (Str.ofString (toString ((r : Nat) : Int))) 64) = padL 64 r := by
  have e := tl_num r
  have hl := numL_len (k := 64) (by decide) h
  generalize Str.ofString (toString ((r : Nat) : Int)) = x at e
  have lx : x.length = (numL r).length := by rw [← e]; exact len_tl x
  rw [padL_eq 64 r (by decide) h]
  unfold Txt.zfill
  split
  · rename_i c
    have : (numL r).length = 64 := by omega
    rw [this, e]
    rfl
  · rename_i c
    have z : zfilled x ((64 : Int).toNat - x.length) = Builtin.Str.padded x ((64 : Int).toNat - x.length) 0 48 := by
      unfold zfilled
      have hd := numL_digits r
      rw [← e] at hd
      have hx : ∀ c, x.cps[0]? = some c → 48 ≤ c ∧ c ≤ 57 := fun c hc => hd c (by
        rw [← Array.getElem?_toList] at hc
        exact List.mem_of_getElem? hc)
      split
      · rename_i h; exact absurd (hx _ h) (by omega)
      · rename_i h; exact absurd (hx _ h) (by omega)
      · rfl
    rw [z]
    show tl (Builtin.Str.padded x _ 0 48) = _
    rw [show (64 : Int).toNat - x.length = 64 - (numL r).length from by rw [lx]; rfl]
    unfold Builtin.Str.padded
    rw [← e, ← len_tl]
    show (Array.replicate _ 48 ++ x.cps ++ Array.replicate 0 48).toList = _
    rw [Array.toList_append, Array.toList_append, Array.toList_replicate, Array.toList_replicate]
    simp
end Row

namespace Row
open PySem PySem.Spec PyProof.Rows L2 Dq TL
abbrev DC : GB := (gT truB (gBin geD (gVar 1) (gC (.int 10000000000000000000000000000000000000000000000000000000000000000))))
abbrev DB : GS := (gSeq (gAsg (gB divmodD (gCons (gVar 1) (gCons (gC (.int 10000000000000000000000000000000000000000000000000000000000000000)) gNil))) (tTup 2 (tCons (tN 1) (tCons (tN 3) tNil))))
 (gExpr (gApp (gVar 2) (gSm zfillB (gB strB (gCons (gVar 3) gNil)) (gCons (gC (.int 64)) gNil)))))
abbrev C64 : Int := 10000000000000000000000000000000000000000000000000000000000000000
def P64 : Nat := 10 ^ 64
theorem P64e : P64 = 10 ^ 64 := rfl
theorem P64p : 0 < P64 := by decide
theorem c64n : ((P64 : Nat) : Int) = C64 := by decide
theorem smC : Sm C64 := Sm.of (k := 220) (by decide)
theorem dm (x : Int) (s : Sto) : divmodD [.int x, .int C64] s = .ok (.tup [.int (x / C64), .int (x % C64)]) s := by
  unfold divmodD
  refine okIf_of ?_ _ s
  have b := log2_lt smC (by decide)
  rw [Bool.and_eq_true]
  exact ⟨by decide, decide_eq_true (by omega)⟩
/-- a number's text -/
def dS (n : Int) : Str := Str.ofString (toString n)
def zS (m : Nat) : Str := Txt.zfill (dS m) 64
theorem tl_dS (n : Int) : tl (dS n) = decN n := tl_dec n
theorem tl_zS {m : Nat} (h : m < P64) : tl (zS m) = padL 64 m := tl_zfill h
theorem str_int {n : Int} (h : n.natAbs.log2 < 1920) (s : Sto) : strB [.int n] s = .ok (.str (dS n)) s := okIf_of (decide_eq_true h) _ _
theorem log64 {m : Nat} (h : m < P64) : ((m : Nat) : Int).natAbs.log2 < 1920 := by
  rw [Int.natAbs_natCast]
  exact sm10 h
/-- one turn -/
theorem db_turn (nn : DV) (r : Nat) (acc : List DV) (x3 : Option DV) (s : Sto) (h : acc.length < sizeLine) : DB [some nn, some (.int (r : Int)), some (.mr s.length), x3] (s ++ [some (.lst acc)]) =
    .nx [some nn, some (.int ((r / P64 : Nat) : Int)), some (.mr s.length), some (.int ((r % P64 : Nat) : Int))] (s ++ [some (.lst (acc ++ [.str (zS (r % P64))]))]) := by
  have e1 : (r : Int) / C64 = ((r / P64 : Nat) : Int) := by rw [← c64n]; exact (Int.natCast_ediv ..).symm
  have e2 : (r : Int) % C64 = ((r % P64 : Nat) : Int) := by rw [← c64n]; exact (Int.natCast_emod ..).symm
  have e3 := dm (r : Int)
  have hr : r % P64 < P64 := Nat.mod_lt _ P64p
  rw [e1, e2] at e3
  generalize r / P64 = q at *
  generalize r % P64 = m at *
  have e4 : ∀ s, strB [.int ((m : Nat) : Int)] s = .ok (.str (dS m)) s := str_int (log64 hr)
  have e5 : ∀ s, zfillB (dS m) [.int 64] s = .ok (.str (zS m)) s := fun s => okIf_of rfl _ _
  have e6 : (s ++ [some (MO.lst acc)])[s.length]? = some (some (MO.lst acc)) := by simp
  simp [e3, e4, e5, appD, h, List.set_append]
theorem ev_dloop (nn : DV) (s : Sto) : ∀ (f n r : Nat) (acc : List Str) (x3 : Option DV), f < n → r < P64 ^ (f + 1) → acc.length + f < sizeLine → ∃ r' acc' x3', whR DC DB n [some nn, some (.int (r : Int)), some (.mr s.length), x3] (s ++ [some (.lst (acc.map DV.str))]) =
    .nx [some nn, some (.int ((r' : Nat) : Int)), some (.mr s.length), x3'] (s ++ [some (.lst ((acc ++ acc').map DV.str))]) ∧ r' < P64 ∧ numL r = numL r' ++ (acc'.reverse.map tl).flatten ∧ (∀ z ∈ acc', z.length ≤ 64) ∧ acc'.length ≤ f
  | f, 0, r, acc, x3, hn, hr, hl => absurd hn (Nat.not_lt_zero _)
  | f, n + 1, r, acc, x3, hn, hr, hl => by
    by_cases h : r < P64
    · refine ⟨r, [], x3, ?_, h, by simp, by simp, Nat.zero_le _⟩
      have c : ¬ C64 ≤ (r : Int) := by rw [← c64n]; omega
      rw [whR]
      simp [c]
    · have c : C64 ≤ (r : Int) := by rw [← c64n]; omega
      have cd : DC [some nn, some (.int (r : Int)), some (.mr s.length), x3] (s ++ [some (.lst (acc.map DV.str))]) = .ok true (s ++ [some (.lst (acc.map DV.str))]) := by simp [c]
      cases f with
      | zero => exact absurd (by simpa using hr) h
      | succ f =>
        have hq : r / P64 < P64 ^ (f + 1) := by
          rw [Nat.div_lt_iff_lt_mul P64p, ← Nat.pow_succ]
          exact hr
        obtain ⟨r', acc', x3', e, h1, h2, h3, h4⟩ := ev_dloop nn s f n (r / P64) (acc ++ [zS (r % P64)]) (some (.int ((r % P64 : Nat) : Int))) (by omega) hq (by rw [List.length_append, List.length_singleton]; omega)
        have hm : r % P64 < P64 := Nat.mod_lt _ P64p
        have hz := tl_zS hm
        refine ⟨r', zS (r % P64) :: acc', x3', ?_, h1, ?_, ?_, by simpa using h4⟩
        · rw [whR]
          show R.toS _ (DC _ _) _ = _
          rw [cd]
          simp only [R.toS_ok]
          rw [db_turn nn r _ x3 s (by rw [List.length_map]; omega)]
          simp only
          rw [show acc.map DV.str ++ [DV.str (zS (r % P64))] = (acc ++ [zS (r % P64)]).map DV.str from by simp]
          rw [e, List.append_assoc]
          rfl
        · have hp : 0 < r / P64 := Nat.div_pos (by omega) P64p
          have := numL_pad 64 (r / P64) (r % P64) hp hm
          rw [← P64e, Nat.mul_comm, Nat.div_add_mod] at this
          rw [this, h2, List.reverse_cons, List.map_append, List.flatten_append, List.append_assoc]
          simp [hz]
        · intro z hz'
          rcases List.mem_cons.mp hz' with rfl | hz'
          · rw [len_tl, hz, padL_eq 64 _ (by decide) hm]
            have := numL_len (k := 64) (by decide) hm
            rw [List.length_append, List.length_replicate]
            omega
          · exact h3 z hz'
theorem joinL_nil : ∀ l : List (List Nat), joinL [] l = l.flatten
  | [] => rfl
  | [x] => by simp [joinL]
  | x :: y :: r => by
    have ih := joinL_nil (y :: r)
    show x ++ ([] ++ joinL [] (y :: r)) = _
    rw [ih]
    simp
theorem strsD_map : ∀ ys : List Str, strsD (ys.map DV.str) = some ys
  | [] => rfl
  | y :: ys => by
    show (strsD (ys.map DV.str)).map _ = _
    rw [strsD_map ys]
    rfl
abbrev mnS : Str := "-"
theorem ev_digits (L : Nat) (hL : 40 ≤ L) (n : Int) (hn : n.natAbs < P64 ^ 40) (s : Sto) : ∃ w, m_digits L [.int n] s = .ok (.str w) s ∧ tl w = decN n := by
  obtain ⟨r', acc', x3', e, h1, h2, h3, h4⟩ := ev_dloop (.int n) s 39 L n.natAbs [] none (by omega) hn (by decide)
  have ab : (if n < 0 then -n else n) = (n.natAbs : Int) := by split <;> omega
  have e1 : ∀ s, strB [.int ((r' : Nat) : Int)] s = .ok (.str (dS r')) s := str_int (log64 h1)
  have e0 : (("" : String) : Str) = ⟨#[]⟩ := by decide +kernel
  have key : ∀ parts : List Str, (∀ z ∈ parts, z.length ≤ 70) → parts.length ≤ 50 → ∀ s, ∃ w, joinB "" [.lst (parts.map DV.str)] s = .ok (.str w) s ∧ tl w = (parts.map tl).flatten := fun parts hp hl s => by
    refine ⟨Txt.join ⟨#[]⟩ parts, ?_, ?_⟩
    · unfold joinB
      simp only [seqS, strsD_map, e0]
      refine okIf_of (decide_eq_true ?_) _ _
      have : (parts.map (·.length)).sum ≤ parts.length * 70 := by
        clear hl
        induction parts with
        | nil => simp
        | cons z r ih =>
          have := ih fun y hy => hp y (.tail _ hy)
          have := hp z (.head _)
          simp only [List.map_cons, List.sum_cons, List.length_cons]
          omega
      have z0 : (⟨#[]⟩ : Str).length = 0 := rfl
      rw [z0]
      omega
    · rw [join_eq, tl_join]
      exact joinL_nil _
  have hd : (dS r').length ≤ 70 := by
    rw [len_tl, tl_dS]
    have := len_decN (n := (r' : Int)) (k := 64) (by decide) (by rw [Int.natAbs_natCast]; exact h1)
    omega
  have z1 : acc'.length < sizeLine := Nat.lt_of_le_of_lt h4 (by decide)
  have z2 : acc'.length + 1 < sizeLine := Nat.lt_of_le_of_lt (Nat.succ_le_succ h4) (by decide)
  have dr : numL r' = decN (r' : Int) := by
    unfold decN
    rw [if_neg (by omega), Int.natAbs_natCast]
    rfl
  by_cases neg : n < 0
  · obtain ⟨w, e2, e3⟩ := key (mnS :: dS r' :: acc'.reverse) (fun z hz => by
      rcases List.mem_cons.mp hz with rfl | hz
      · decide +kernel
      rcases List.mem_cons.mp hz with rfl | hz
      · exact hd
      · exact Nat.le_trans (h3 z (List.mem_reverse.mp hz)) (by decide)) (by simp; omega) (s ++ [some (.lst ((acc' ++ [dS r'] ++ [mnS]).map DV.str))])
    refine ⟨w, ?_, ?_⟩
    · simp only [m_digits, Dq.run, b_digits]
      have hb : b_digits L [some (.int n), none, none, none] s = .rt (.str w) (s ++ [some (.lst ((acc' ++ [dS r'] ++ [mnS]).map DV.str))]) := by
        unfold b_digits
        refine (seq_nx (ρ' := [some (.int n), some (.int n.natAbs), none, none]) (s' := s) (by simp [ab])).trans ?_
        refine (seq_nx (ρ' := [some (.int n), some (.int n.natAbs), some (.mr s.length), none]) (s' := s ++ [some (.lst [])]) (by simp)).trans ?_
        refine (seq_nx e).trans ?_
        refine (seq_nx (ρ' := [some (.int n), some (.int r'), some (.mr s.length), x3']) (s' := s ++ [some (.lst ((acc' ++ [dS r']).map DV.str))]) (by simp [e1, appD, z1, List.set_append])).trans ?_
        refine (seq_nx (ρ' := [some (.int n), some (.int r'), some (.mr s.length), x3']) (s' := s ++ [some (.lst ((acc' ++ [dS r'] ++ [mnS]).map DV.str))]) ?_).trans ?_
        · simp [appD, neg, z2, List.set_append]
        · have hr : ∀ xs, revD (.mr s.length) (s ++ [some (.lst xs)]) = .ok (.lst xs.reverse) (s ++ [some (.lst xs)]) := fun xs => by simp [revD]
          have e4 : (List.map DV.str (acc' ++ [dS r'] ++ [mnS])).reverse = List.map DV.str (mnS :: dS r' :: acc'.reverse) := by simp
          simp only [gRet, gSm, gC, Dq.gCons, gUn, gVar, Dq.gNil, List.getElem?_cons_succ, List.getElem?_cons_zero, R.bind_ok, hr, e4, e2, R.toS_ok]
      show RS.fin s (b_digits L [some (.int n), none, none, none] s) = _
      rw [hb]
      exact fin_app s _ _ _ rfl (by unfold bel; rfl)
    · rw [e3]
      show tl mnS ++ (tl (dS r') ++ (acc'.reverse.map tl).flatten) = _
      rw [tl_dS, ← dr, ← h2]
      unfold decN
      rw [if_pos neg]
      rfl
  · obtain ⟨w, e2, e3⟩ := key (dS r' :: acc'.reverse) (fun z hz => by
      rcases List.mem_cons.mp hz with rfl | hz
      · exact hd
      · exact Nat.le_trans (h3 z (List.mem_reverse.mp hz)) (by decide)) (by simp; omega) (s ++ [some (.lst ((acc' ++ [dS r']).map DV.str))])
    refine ⟨w, ?_, ?_⟩
    · have hb : b_digits L [some (.int n), none, none, none] s = .rt (.str w) (s ++ [some (.lst ((acc' ++ [dS r']).map DV.str))]) := by
        unfold b_digits
        refine (seq_nx (ρ' := [some (.int n), some (.int n.natAbs), none, none]) (s' := s) (by simp [ab])).trans ?_
        refine (seq_nx (ρ' := [some (.int n), some (.int n.natAbs), some (.mr s.length), none]) (s' := s ++ [some (.lst [])]) (by simp)).trans ?_
        refine (seq_nx e).trans ?_
        refine (seq_nx (ρ' := [some (.int n), some (.int r'), some (.mr s.length), x3']) (s' := s ++ [some (.lst ((acc' ++ [dS r']).map DV.str))]) (by simp [e1, appD, z1, List.set_append])).trans ?_
        refine (seq_nx (ρ' := [some (.int n), some (.int r'), some (.mr s.length), x3']) (s' := s ++ [some (.lst ((acc' ++ [dS r']).map DV.str))]) (by simp [neg])).trans ?_
        have hr : ∀ xs, revD (.mr s.length) (s ++ [some (.lst xs)]) = .ok (.lst xs.reverse) (s ++ [some (.lst xs)]) := fun xs => by simp [revD]
        have e4 : (List.map DV.str (acc' ++ [dS r'])).reverse = List.map DV.str (dS r' :: acc'.reverse) := by simp
        simp only [gRet, gSm, gC, Dq.gCons, gUn, gVar, Dq.gNil, List.getElem?_cons_succ, List.getElem?_cons_zero, R.bind_ok, hr, e4, e2, R.toS_ok]
      show RS.fin s (b_digits L [some (.int n), none, none, none] s) = _
      rw [hb]
      exact fin_app s _ _ _ rfl (by unfold bel; rfl)
    · rw [e3]
      show tl (dS r') ++ (acc'.reverse.map tl).flatten = _
      rw [tl_dS, ← dr, ← h2]
      unfold decN
      rw [if_neg neg]
      rfl
end Row

namespace Row
open PySem PySem.Spec PyProof.Rows L2 Dq TL
/-! words of digits -/
def alldig (l : List Nat) : Bool := !l.isEmpty && l.all fun c => decide (48 ≤ c) && decide (c ≤ 57)
theorem alldig_iff {l : List Nat} : alldig l = true ↔ l ≠ [] ∧ NumText.AllDigits l := by
  unfold alldig NumText.AllDigits
  simp [List.all_eq_true]
theorem dig128 : ∀ i : Fin 128, Unicode.isDigit i.val = (decide (48 ≤ i.val) && decide (i.val ≤ 57)) := by decide +kernel
theorem asc_dig (w : Str) : (Txt.isascii w && Txt.isdigit w) = alldig (tl w) := by
  have ha : Txt.isascii w = (tl w).all (fun c => decide (c < 128)) := by
    show w.cps.all _ = _
    rw [← Array.all_toList]
  have hd : Txt.isdigit w = (decide (w.length > 0) && (tl w).all Unicode.isDigit) := by
    show (decide (w.length > 0) && w.cps.all _) = _
    rw [← Array.all_toList]
  have hz : decide (w.length > 0) = !(tl w).isEmpty := by
    rw [len_tl]
    cases tl w <;> simp
  rw [hz] at hd
  by_cases q : ∀ c ∈ tl w, c < 128
  · have e1 : Txt.isascii w = true := by rw [ha, List.all_eq_true]; intro c hc; exact decide_eq_true (q c hc)
    have e2 : (tl w).all Unicode.isDigit = (tl w).all fun c => decide (48 ≤ c) && decide (c ≤ 57) := by
      rw [Bool.eq_iff_iff, List.all_eq_true, List.all_eq_true]
      constructor
      · intro h c hc
        rw [← dig128 ⟨c, q c hc⟩]
        exact h c hc
      · intro h c hc
        have := dig128 ⟨c, q c hc⟩
        rw [this]
        exact h c hc
    rw [e2] at hd
    have e3 : Txt.isdigit w = alldig (tl w) := hd
    rw [e1, e3, Bool.true_and]
  · have e1 : Txt.isascii w = false := by
      rw [ha, ← Bool.not_eq_true, List.all_eq_true]
      intro h
      exact q fun c hc => of_decide_eq_true (h c hc)
    have e2 : alldig (tl w) = false := by
      rw [← Bool.not_eq_true, alldig_iff]
      intro h
      exact q fun c hc => by have := h.2 c hc; omega
    rw [e1, e2, Bool.false_and]
def stripL : List Nat → List Nat
  | 45 :: r => r
  | l => l
theorem stripL_of {l : List Nat} (h : l.head? ≠ some 45) : stripL l = l := by
  unfold stripL
  split
  · exact absurd rfl h
  · rfl
theorem tl_mn : tl mnS = [45] := by decide +kernel
theorem tl_rmpre (w : Str) : tl (Txt.removeprefix w "-") = stripL (tl w) := by
  have hl : (mnS : Str).length = 1 := by decide +kernel
  rw [PySem.StrLaws.removeprefix_eq, hl]
  rw [PySem.StrLaws.subAt_eq, hl, show mnS.cps.toList = [45] from tl_mn, show w.cps.toList = tl w from rfl, len_tl]
  cases h : tl w with
  | nil => simp [h, stripL]
  | cons c r =>
    by_cases hc : c = 45
    · subst hc
      have : (decide (0 + 1 ≤ (45 :: r).length) && (List.take 1 (List.drop 0 (45 :: r)) == [45])) = true := by simp
      rw [if_pos this]
      show (((45 :: r).drop 1).take ((45 :: r).length - 1)) = r
      simp
    · have : (decide (0 + 1 ≤ (c :: r).length) && (List.take 1 (List.drop 0 (c :: r)) == [45])) = false := by simp [hc]
      rw [if_neg (by rw [this]; decide), h]
      rw [stripL_of (by simp [hc])]
/-- the number that is written -/
def valL : List Nat → Int
  | 45 :: r => -(NumText.digitsVal r : Int)
  | l => (NumText.digitsVal l : Int)
theorem valL_of {l : List Nat} (h : l.head? ≠ some 45) : valL l = (NumText.digitsVal l : Int) := by
  unfold valL
  split
  · exact absurd rfl h
  · rfl
theorem head_dig {l : List Nat} (h : alldig l = true) : l.head? ≠ some 45 := by
  rw [alldig_iff] at h
  cases l with
  | nil => simp
  | cons c r =>
    have := h.2 c (.head _)
    simp
    omega
theorem ev_int {w : Str} (h : alldig (stripL (tl w)) = true) (hl : w.length ≤ 2000) (s : Sto) : intTB [.str w] s = .ok (.int (valL (tl w))) s := by
  have hs : ∀ c ∈ tl w, c = 45 ∨ (48 ≤ c ∧ c ≤ 57) := by
    rw [alldig_iff] at h
    by_cases q : (tl w).head? = some 45
    · cases e : tl w with
      | nil => intro c hc; cases hc
      | cons c r =>
        rw [e] at q h
        have q : c = 45 := by simpa using q
        subst q
        intro d hd
        rcases List.mem_cons.mp hd with rfl | hd
        · exact .inl rfl
        · exact .inr (h.2 d hd)
    · rw [stripL_of q] at h
      exact fun c hc => .inr (h.2 c hc)
  have hi : PySem.intText? w = some (valL (tl w)) := by
    have h2 := alldig_iff.mp h
    by_cases q : (tl w).head? = some 45
    · cases e : tl w with
      | nil => rw [e] at q; cases q
      | cons c r =>
        rw [e] at q h2
        have q : c = 45 := by simpa using q
        subst q
        exact PySem.intText_neg e h2.2 h2.1 (Nat.le_trans hl (by decide))
    · rw [stripL_of q] at h2
      rw [valL_of q]
      exact PySem.intText_digits h2.2 h2.1 (Nat.le_trans hl (by decide))
  unfold intTB
  simp only [hi]
  refine okIf_of ?_ _ s
  have e := (PySem.numText_signs hs).2
  rw [e, Bool.or_eq_true, Bool.and_eq_true]
  by_cases q : w.length ≤ 640
  · exact .inl (decide_eq_true q)
  · refine .inr ⟨?_, decide_eq_true (Nat.le_trans hl (by decide))⟩
    rw [show w.cps.toList.length = w.length from (len_tl w).symm]
    simp [q]
theorem fold_lt : ∀ (l : List Nat) (a : Nat), NumText.AllDigits l → l.foldl (fun acc c => acc * 10 + (c - 48)) a < (a + 1) * 10 ^ l.length
  | [], a, _ => by simp
  | c :: r, a, h => by
    have hc := h c (.head _)
    have ih := fold_lt r (a * 10 + (c - 48)) fun d hd => h d (.tail _ hd)
    rw [List.foldl_cons, List.length_cons, Nat.pow_succ]
    refine Nat.lt_of_lt_of_le ih ?_
    rw [show (a + 1) * (10 ^ r.length * 10) = ((a + 1) * 10) * 10 ^ r.length from by rw [Nat.mul_comm (10 ^ r.length) 10, Nat.mul_assoc]]
    exact Nat.mul_le_mul_right _ (by omega)
theorem val_lt {l : List Nat} (h : NumText.AllDigits l) : NumText.digitsVal l < 10 ^ l.length := by
  have := fold_lt l 0 h
  rw [Nat.zero_add, Nat.one_mul] at this
  exact this
theorem joinG_step {g : GE} {gs : List GE} {acc y : Str} {ρ : En} {s s1 : Sto} (h : g ρ s = .ok (.str y) s1) (hz : decide ((acc ++ y).length ≤ sizeLine) = true) : joinG (g :: gs) acc ρ s = joinG gs (acc ++ y) ρ s1 := by
  show (g ρ s).bind _ = _
  rw [h]
  simp only [R.bind_ok, hz]
/-! the text of a ratio -/
def canonL (n d : Int) : List Nat := if d = 1 then decN n else decN n ++ 47 :: decN d
theorem P40 : P64 ^ 40 = 10 ^ 2560 := by
  rw [P64e, ← Nat.pow_mul]
theorem ev_rstr (L : Nat) (hL : 40 ≤ L) {n d : Int} (hn : n.natAbs < P64 ^ 40) (hd : d.natAbs < P64 ^ 40) (s : Sto) : ∃ w, m_Ratiodd_strdd L [rat n d] s = .ok (.str w) s ∧ tl w = canonL n d := by
  obtain ⟨u, e1, t1⟩ := ev_digits L hL n hn s
  obtain ⟨v, e2, t2⟩ := ev_digits L hL d hd s
  have l1 : u.length ≤ 2561 := by rw [len_tl, t1]; exact len_decN (by decide) (by rw [← P40]; exact hn)
  have l2 : v.length ≤ 2561 := by rw [len_tl, t2]; exact len_decN (by decide) (by rw [← P40]; exact hd)
  by_cases h : d = 1
  · refine ⟨u, ?_, by rw [t1]; unfold canonL; rw [if_pos h]⟩
    have e3 : ∀ s, strB [.str u] s = .ok (.str u) s := fun _ => rfl
    simp [m_Ratiodd_strdd, Dq.run, b_Ratiodd_strdd, eqD_int, h, e1, e3]
  · have sl : ("/" : Str).length = 1 := by decide +kernel
    have ts : tl ("/" : Str) = [47] := by decide +kernel
    have z1 : decide (u.length ≤ sizeLine) = true := decide_eq_true (Nat.le_trans l1 (by decide))
    have z2 : decide (v.length ≤ sizeLine) = true := decide_eq_true (Nat.le_trans l2 (by decide))
    have le : ∀ x : Str, (Str.empty ++ x) = x := fun x => ext_tl (by rw [tl_append]; rfl)
    have z3 : decide ((u ++ ("/" : Str)).length ≤ sizeLine) = true := decide_eq_true (by
      rw [len_tl, tl_append, List.length_append, ← len_tl, ← len_tl, sl]
      exact Nat.le_trans (Nat.succ_le_succ l1) (by decide))
    have z4 : decide ((u ++ ("/" : Str) ++ v).length ≤ sizeLine) = true := decide_eq_true (by
      rw [len_tl, tl_append, tl_append, List.length_append, List.length_append, ← len_tl, ← len_tl, ← len_tl, sl]
      exact Nat.le_trans (Nat.add_le_add (Nat.succ_le_succ l1) l2) (by decide))
    refine ⟨u ++ ("/" : Str) ++ v, ?_, ?_⟩
    · have g1 : gFmt (gCall (m_digits L) [] (gCons (gUn (atD 0 (fun _ => none) fc__top) (gVar 0)) gNil)) [some (rat n d)] s = .ok (.str u) s := by simp [e1, okIf_of z1]
      have g2 : gFmt (gCall (m_digits L) [] (gCons (gUn (atD 1 (fun _ => none) fc__bottom) (gVar 0)) gNil)) [some (rat n d)] s = .ok (.str v) s := by simp [e2, okIf_of z2]
      have hj : joinG [(gFmt (gCall (m_digits L) [] (gCons (gUn (atD 0 (fun _ => none) fc__top) (gVar 0)) gNil))), (gC (.str "/")), (gFmt (gCall (m_digits L) [] (gCons (gUn (atD 1 (fun _ => none) fc__bottom) (gVar 0)) gNil)))] Str.empty [some (rat n d)] s = .ok (.str (u ++ ("/" : Str) ++ v)) s := by
        rw [joinG_step g1 (by rw [le]; exact z1), le, joinG_step (y := "/") (s1 := s) rfl z3, joinG_step g2 z4]
        rfl
      have hb : b_Ratiodd_strdd L [some (rat n d)] s = .rt (.str (u ++ ("/" : Str) ++ v)) s := by
        unfold b_Ratiodd_strdd
        refine (seq_nx (ρ' := [some (rat n d)]) (s' := s) (by simp [eqD_int, h])).trans ?_
        rw [gRet, hj]
        rfl
      exact run_rt rfl hb rfl
    · rw [tl_append, tl_append, t1, t2, ts]
      unfold canonL
      rw [if_neg h]
      simp
end Row

namespace Row
open PySem PySem.Spec PyProof.Rows L2 Dq TL
def Asc (l : List Nat) : Prop := ∀ c ∈ l, c < 128
theorem Asc.app {l m : List Nat} (h : Asc l) (h' : Asc m) : Asc (l ++ m) := fun c hc => (List.mem_append.mp hc).elim (h c) (h' c)
theorem asc_num (n : Nat) : Asc (numL n) := fun c hc => by have := numL_digits n c hc; omega
theorem asc_dec (n : Int) : Asc (decN n) := by
  unfold decN
  refine Asc.app ?_ (asc_num _)
  split
  · intro c hc
    rw [List.mem_singleton.mp hc]
    decide
  · intro c hc
    cases hc
theorem asc_canon (n d : Int) : Asc (canonL n d) := by
  unfold canonL
  split
  · exact asc_dec n
  · refine Asc.app (asc_dec n) fun c hc => ?_
    rcases List.mem_cons.mp hc with rfl | hc
    · decide
    · exact asc_dec d c hc
theorem shA {x : Str} (h : Asc (tl x)) : SeqAt.shaped (.str x) = true := by
  show (PyData.strOk x && _) = true
  rw [Bool.and_eq_true]
  refine ⟨?_, rfl⟩
  show x.cps.all _ = true
  rw [← Array.all_toList, List.all_eq_true]
  intro c hc
  have := h c hc
  exact decide_eq_true (by omega)
theorem eqv_str (x y : Str) : PyData.eqv (.str x) (.str y) = decide (x = y) := by
  unfold PyData.eqv
  by_cases h : x = y <;> simp [h]
theorem neS {x y : Str} (hx : Asc (tl x)) (hy : Asc (tl y)) (s : Sto) : neD (.str x) (.str y) s = .ok (.bl (!decide (x = y))) s := by
  show okIf (SeqAt.shaped (.str x) && SeqAt.shaped (.str y)) (.bl (!PyData.eqv (.str x) (.str y))) s = _
  rw [shA hx, shA hy, eqv_str]
  rfl
theorem eqS {x y : Str} (hx : Asc (tl x)) (hy : Asc (tl y)) (s : Sto) : eqD (.str x) (.str y) s = .ok (.bl (decide (x = y))) s := by
  show okIf (SeqAt.shaped (.str x) && SeqAt.shaped (.str y)) (.bl (PyData.eqv (.str x) (.str y))) s = _
  rw [shA hx, shA hy, eqv_str]
  rfl
structure Tk (t : Str) (n : Nat) : Prop where
  a : Asc (tl t)
  l : t.length ≤ n
theorem Tk.mono {t : Str} {n m : Nat} (h : Tk t n) (hm : n ≤ m) : Tk t m := ⟨h.a, Nat.le_trans h.l hm⟩
theorem Tk.app {t u : Str} {n m : Nat} (h : Tk t n) (h' : Tk u m) : Tk (t ++ u) (n + m) := ⟨by rw [tl_append]; exact h.a.app h'.a, by
  have e : (t ++ u).length = t.length + u.length := by rw [len_tl, tl_append, List.length_append, ← len_tl, ← len_tl]
  have := h.l
  have := h'.l
  omega⟩
theorem Tk.cut {t : Str} {n : Nat} (h : Tk t n) (lo hi : Option Int) : Tk (cutS t lo hi) n := by
  have e : tl (cutS t lo hi) = ((tl t).drop (HT.sIx t.length 0 lo)).take (HT.sIx t.length t.length hi - HT.sIx t.length 0 lo) := rfl
  refine ⟨fun c hc => ?_, ?_⟩
  · rw [e] at hc
    exact h.a c (List.mem_of_mem_drop (List.mem_of_mem_take hc))
  · rw [len_tl, e, List.length_take, List.length_drop, ← len_tl]
    have := h.l
    omega
theorem Tk.add {t u : Str} {n m : Nat} (h : Tk t n) (h' : Tk u m) (hz : n + m ≤ 3000) (s : Sto) : addD (.str t) (.str u) s = .ok (.str (t ++ u)) s := by
  refine okIf_of (decide_eq_true ?_) _ _
  have := h.l
  have := h'.l
  exact Nat.le_trans (by omega : t.length + u.length ≤ 3000) (by decide)

theorem tk_sl : Tk ("/" : Str) 1 := ⟨by rw [show tl ("/" : Str) = [47] from by decide +kernel]; intro c hc; rw [List.mem_singleton.mp hc]; decide, by decide +kernel⟩
theorem sm200 {n : Int} (h : n.natAbs < 2 ^ 200) : n.natAbs.log2 < 1920 := log2_lt (Nat.lt_of_lt_of_le h (Nat.pow_le_pow_right (by decide) (by decide))) (by decide)
theorem tk_dS {n : Int} (h : n.natAbs < 2 ^ 200) : Tk (dS n) 62 := ⟨by rw [tl_dS]; exact asc_dec n, by
  rw [len_tl, tl_dS]
  exact len_decN (by decide) (Nat.lt_of_lt_of_le h (by decide))⟩
/-- the text of a ratio -/
def rTx (n d : Int) : Str := if d = 1 then dS n else dS n ++ ("/" : Str) ++ dS d
theorem tl_rTx (n d : Int) : tl (rTx n d) = canonL n d := by
  unfold rTx canonL
  split
  · exact tl_dS n
  · rw [tl_append, tl_append, tl_dS, tl_dS, show tl ("/" : Str) = [47] from by decide +kernel]
    simp
theorem tk_rTx {n d : Int} (hn : n.natAbs < 2 ^ 200) (hd : d.natAbs < 2 ^ 200) : Tk (rTx n d) 125 := by
  unfold rTx
  split
  · exact (tk_dS hn).mono (by decide)
  · exact ((tk_dS hn).app tk_sl).app (tk_dS hd)
theorem ev_ltext (L : Nat) {n d : Int} (hn : n.natAbs < 2 ^ 200) (hd : d.natAbs < 2 ^ 200) (s : Sto) : m_law_text L [fr n d] s = .ok (.str (rTx n d)) s := by
  have e1 := str_int (sm200 hn) s
  have e2 := str_int (sm200 hd) s
  by_cases q : d = 1
  · subst q
    simp [m_law_text, Dq.run, b_law_text, eqD_int, e1, rTx]
  · have e3 := (tk_dS hn).add tk_sl (by decide) s
    have e4 := ((tk_dS hn).app tk_sl).add (tk_dS hd) (by decide) s
    simp [-addD, m_law_text, Dq.run, b_law_text, eqD_int, q, e1, e2, e3, e4, rTx]
theorem p200 {x : Int} (h : x.natAbs < 2 ^ 200) : x.natAbs < P64 ^ 40 := by
  rw [P40]
  exact Nat.lt_of_lt_of_le h (by decide +kernel)
theorem ev_str (L : Nat) (hL : 40 ≤ L) {n d : Int} (hn : n.natAbs < 2 ^ 200) (hd : d.natAbs < 2 ^ 200) (s : Sto) : m_Ratiodd_strdd L [rat n d] s = .ok (.str (rTx n d)) s := by
  obtain ⟨w, e, t⟩ := ev_rstr L hL (p200 hn) (p200 hd) s
  rw [e]
  have : w = rTx n d := ext_tl (by rw [t, tl_rTx])
  rw [this]
abbrev rOp : Str := "Ratio("
abbrev rCl : Str := ")"
def rRp (n d : Int) : Str := rOp ++ rTx n d ++ rCl
theorem tk_op : Tk rOp 6 := ⟨by rw [show tl rOp = [82, 97, 116, 105, 111, 40] from by decide +kernel]; intro c hc; simp at hc; omega, by decide +kernel⟩
theorem tk_cl : Tk rCl 1 := ⟨by rw [show tl rCl = [41] from by decide +kernel]; intro c hc; simp at hc; omega, by decide +kernel⟩
theorem tk_rRp {n d : Int} (hn : n.natAbs < 2 ^ 200) (hd : d.natAbs < 2 ^ 200) : Tk (rRp n d) 132 := (tk_op.app (tk_rTx hn hd)).app tk_cl
theorem ev_repr (L : Nat) (hL : 40 ≤ L) {n d : Int} (hn : n.natAbs < 2 ^ 200) (hd : d.natAbs < 2 ^ 200) (s : Sto) : m_Ratiodd_reprdd L [rat n d] s = .ok (.str (rRp n d)) s := by
  have e1 := ev_str L hL hn hd s
  have le : ∀ x : Str, (Str.empty ++ x) = x := fun x => ext_tl (by rw [tl_append]; rfl)
  have z0 : decide ((rTx n d).length ≤ sizeLine) = true := decide_eq_true (Nat.le_trans (tk_rTx hn hd).l (by decide))
  have z1 : decide ((Str.empty ++ rOp).length ≤ sizeLine) = true := by decide +kernel
  have z2 : decide ((rOp ++ rTx n d).length ≤ sizeLine) = true := decide_eq_true (Nat.le_trans (tk_op.app (tk_rTx hn hd)).l (by decide))
  have z3 : decide ((rOp ++ rTx n d ++ rCl).length ≤ sizeLine) = true := decide_eq_true (Nat.le_trans (tk_rRp hn hd).l (by decide))
  have g1 : gFmt (gB (txtO (sel_str_op_Ratio L) strB) (gCons (gVar 0) gNil)) [some (rat n d)] s = .ok (.str (rTx n d)) s := by simp [insS, sel_str_op_Ratio, e1, okIf_of z0]
  have hj : joinG [(gC (.str "Ratio(")), (gFmt (gB (txtO (sel_str_op_Ratio L) strB) (gCons (gVar 0) gNil))), (gC (.str ")"))] Str.empty [some (rat n d)] s = .ok (.str (rRp n d)) s := by
    rw [joinG_step (y := rOp) (s1 := s) rfl z1, le, joinG_step g1 z2, joinG_step (y := rCl) (s1 := s) rfl z3]
    rfl
  have hb : b_Ratiodd_reprdd L [some (rat n d)] s = .rt (.str (rRp n d)) s := by
    unfold b_Ratiodd_reprdd
    rw [gRet, hj]
    rfl
  exact run_rt rfl hb rfl
/-! ### a ratio that is none -/
theorem finX_app {s : Sto} {x : Option MO} {c : Nat} {ks : List Nat} {xs : List DV} (hb : bels s.length xs = true) : finX s c ks xs (s ++ [x]) = .exc c ks xs s := by
  unfold finX
  have e : decide ((s ++ [x]).length = s.length) = false := by simp
  rw [e]
  simp [hb, cutOk_app]
theorem mk_bad {L : Nat} {a b : DV} {s : Sto} (hb : bels s.length [.tup [a, b]] = true) (e : m_Ratiodd_initdd L [.mr s.length, a, b] (s ++ [some (.ins 4 [] [])]) = .exc 1 [3, 2] [.str "InvalidRatio", .tup [a, b]] (s ++ [some (.ins 4 [] [])])) :
    makeD false 4 (m_Ratiodd_initdd L) [a, b] s = .exc 1 [3, 2] [.str "InvalidRatio", .tup [a, b]] s := by
  unfold makeD
  rw [e]
  refine finX_app ?_
  simp only [bels, bel, Bool.and_true, Bool.true_and] at hb ⊢
  exact hb
theorem rbad1 (L : Nat) (a b : DV) (s : Sto) (e1 : ∀ s, m_is_number L [a] s = .ok (.bl false) s) (hb : bels s.length [.tup [a, b]] = true) : makeD false 4 (m_Ratiodd_initdd L) [a, b] s = .exc 1 [3, 2] [.str "InvalidRatio", .tup [a, b]] s := by
  refine mk_bad hb ?_
  simp [m_Ratiodd_initdd, Dq.run, b_Ratiodd_initdd, e1, gRaise, mxe_InvalidRatio_p1, RS.fin, finX]
theorem rbad2 (L : Nat) (a : Int) (b : DV) (s : Sto) (e2 : ∀ s, m_is_number L [b] s = .ok (.bl false) s) (hb : bels s.length [.tup [.int a, b]] = true) : makeD false 4 (m_Ratiodd_initdd L) [.int a, b] s = .exc 1 [3, 2] [.str "InvalidRatio", .tup [.int a, b]] s := by
  refine mk_bad hb ?_
  simp [m_Ratiodd_initdd, Dq.run, b_Ratiodd_initdd, ev_isnum, e2, gRaise, mxe_InvalidRatio_p1, RS.fin, finX]
theorem rbad3 (L : Nat) (a : Int) (s : Sto) : makeD false 4 (m_Ratiodd_initdd L) [.int a, .int 0] s = .exc 1 [3, 2] [.str "InvalidRatio", .tup [.int a, .int 0]] s := by
  refine mk_bad (by simp [bels, bel]) ?_
  simp [m_Ratiodd_initdd, Dq.run, b_Ratiodd_initdd, ev_isnum, eqD_int, gRaise, mxe_InvalidRatio_p1, RS.fin, finX]
end Row

namespace Row
open PySem PySem.Spec PyProof.Rows L2 Dq TL
abbrev A1 (L : Nat) : GS := (gSet 6 (gCall (m_law_pick L) [] (gCons (gVar 1) (gCons (gLst (gCons (gC (.int 0)) (gCons (gC (.int 1)) (gCons (gUn negD (gC (.int 6))) (gCons (gCall (m_law_pull L) [] (gCons (gVar 1) (gCons (gC (.int 60)) gNil))) (gCons (gUn negD (gCall (m_law_pull L) [] (gCons (gVar 1) (gCons (gBin powD (gC (.int 10)) (gC (.int 29))) gNil)))) (gCons (gBin powD (gC (.int 10)) (gC (.int 29))) gNil))))))) gNil))))
abbrev A2 (L : Nat) : GS := (gSet 7 (gCall (m_law_pick L) [] (gCons (gVar 1) (gCons (gLst (gCons (gC (.int 1)) (gCons (gUn negD (gC (.int 1))) (gCons (gC (.int 4)) (gCons (gBin addD (gC (.int 1)) (gCall (m_law_pull L) [] (gCons (gVar 1) (gCons (gC (.int 60)) gNil)))) (gCons (gBin subD (gUn negD (gC (.int 1))) (gCall (m_law_pull L) [] (gCons (gVar 1) (gCons (gBin powD (gC (.int 10)) (gC (.int 29))) gNil)))) (gCons (gC (.int 12)) gNil))))))) gNil))))
abbrev A3 (L : Nat) : GS := (gPar 9 10 (gCons (gCall (m_law_frac L) [] (gCons (gVar 6) (gCons (gVar 7) gNil))) (gCons (gMake false 4 (m_Ratiodd_initdd L) [] (gCons (gVar 6) (gCons (gVar 7) gNil))) gNil)))
abbrev A4 (L : Nat) : GS := (gSet 8 (gLst (gCons (gUn (atD 15 (sel_top_Ratio L) (fun _ => false)) (gVar 10)) (gCons (gUn (atD 14 (sel_bottom_Ratio L) (fun _ => false)) (gVar 10)) (gCons (gB (txtO (sel_str_op_Ratio L) strB) (gCons (gVar 10) gNil)) (gCons (gB (txtO (sel_repr_op_Ratio L) badB) (gCons (gVar 10) gNil)) (gCons (gB (bolO (sel_bool_op_Ratio L) boolB) (gCons (gVar 10) gNil)) gNil)))))))
abbrev A5 (L : Nat) : GS := (gIfS (gNot (gT (truO (sel_bool_op_Ratio L)) (gCall (m_law_same L 8) [] (gCons (gVar 8) (gCons (gLst (gCons (gBin ixD (gVar 9) (gC (.int 0))) (gCons (gBin ixD (gVar 9) (gC (.int 1))) (gCons (gCall (m_law_text L) [] (gCons (gVar 9) gNil)) (gCons (gBin addD (gBin addD (gC (.str "Ratio(")) (gCall (m_law_text L) [] (gCons (gVar 9) gNil))) (gC (.str ")"))) (gCons (gBin (ownNe (sel_eq_op_Ratio L) neD) (gBin ixD (gVar 9) (gC (.int 0))) (gC (.int 0))) gNil)))))) gNil)))))
 (gRet (gC (.bl false)))
 gNext)
abbrev A6 (L : Nat) : GS := (gPar 11 12 (gCons (gMake false 4 (m_Ratiodd_initdd L) [(.int 1)] (gCons (gVar 6) gNil)) (gCons (gMake false 4 (m_Ratiodd_initdd L) [] (gCons (gBin addD (gBin ixD (gVar 9) (gC (.int 0))) (gBin ixD (gVar 9) (gC (.int 1)))) (gCons (gBin ixD (gVar 9) (gC (.int 1))) gNil))) gNil)))
abbrev A7 (L : Nat) : GS := (gIfS (gNot (gT (truO (sel_bool_op_Ratio L)) (gCall (m_law_same L 8) [] (gCons (gLst (gCons (gUn (atD 15 (sel_top_Ratio L) (fun _ => false)) (gVar 11)) (gCons (gUn (atD 14 (sel_bottom_Ratio L) (fun _ => false)) (gVar 11)) gNil))) (gCons (gLst (gCons (gVar 6) (gCons (gC (.int 1)) gNil))) gNil)))))
 (gRet (gC (.bl false)))
 gNext)
abbrev A8 (L : Nat) : GS := (gIfS (gOr (gNot (gT truB (gBin (ownEqB (sel_eq_op_Ratio L) eqD) (gVar 10) (gMakeK false 4 (m_Ratiodd_initdd L) mix_Ratiodd_initdd_k0_bottom_top gNil (gCons (gBin mulD (gC (.int 3)) (gVar 7)) (gCons (gBin mulD (gC (.int 3)) (gVar 6)) gNil)))))) (gOr (gT truB (gBin (ownEqB (sel_eq_op_Ratio L) eqD) (gVar 10) (gVar 12))) (gT truB (gBin (ownNe (sel_eq_op_Ratio L) neD) (gVar 10) (gMake false 4 (m_Ratiodd_initdd L) [] (gCons (gBin ixD (gVar 9) (gC (.int 0))) (gCons (gBin ixD (gVar 9) (gC (.int 1))) gNil)))))))
 (gRet (gC (.bl false)))
 gNext)
abbrev A9 (L : Nat) : GS := (gIfS (gOr (gT truB (gBin (ownEqB (sel_eq_op_Ratio L) eqD) (gVar 10) (gCall (m_law_text L) [] (gCons (gVar 9) gNil)))) (gOr (gT truB (gBin (ownEqB (sel_eq_op_Ratio L) eqD) (gVar 10) (gVar 6))) (gOr (gT truB (gBin (ownEqB (sel_eq_op_Ratio L) eqD) (gVar 10) (gVar 9))) (gT truB (gBin (ownEqB (sel_eq_op_Ratio L) eqD) (gVar 11) (gVar 6))))))
 (gRet (gC (.bl false)))
 gNext)
abbrev lturn (L : Nat) : GS := (gSeq (gSet 6 (gCall (m_law_pick L) [] (gCons (gVar 1) (gCons (gLst (gCons (gC (.int 0)) (gCons (gC (.int 1)) (gCons (gUn negD (gC (.int 6))) (gCons (gCall (m_law_pull L) [] (gCons (gVar 1) (gCons (gC (.int 60)) gNil))) (gCons (gUn negD (gCall (m_law_pull L) [] (gCons (gVar 1) (gCons (gBin powD (gC (.int 10)) (gC (.int 29))) gNil)))) (gCons (gBin powD (gC (.int 10)) (gC (.int 29))) gNil))))))) gNil))))
 (gSeq (gSet 7 (gCall (m_law_pick L) [] (gCons (gVar 1) (gCons (gLst (gCons (gC (.int 1)) (gCons (gUn negD (gC (.int 1))) (gCons (gC (.int 4)) (gCons (gBin addD (gC (.int 1)) (gCall (m_law_pull L) [] (gCons (gVar 1) (gCons (gC (.int 60)) gNil)))) (gCons (gBin subD (gUn negD (gC (.int 1))) (gCall (m_law_pull L) [] (gCons (gVar 1) (gCons (gBin powD (gC (.int 10)) (gC (.int 29))) gNil)))) (gCons (gC (.int 12)) gNil))))))) gNil))))
 (gSeq (gPar 9 10 (gCons (gCall (m_law_frac L) [] (gCons (gVar 6) (gCons (gVar 7) gNil))) (gCons (gMake false 4 (m_Ratiodd_initdd L) [] (gCons (gVar 6) (gCons (gVar 7) gNil))) gNil)))
 (gSeq (gSet 8 (gLst (gCons (gUn (atD 15 (sel_top_Ratio L) (fun _ => false)) (gVar 10)) (gCons (gUn (atD 14 (sel_bottom_Ratio L) (fun _ => false)) (gVar 10)) (gCons (gB (txtO (sel_str_op_Ratio L) strB) (gCons (gVar 10) gNil)) (gCons (gB (txtO (sel_repr_op_Ratio L) badB) (gCons (gVar 10) gNil)) (gCons (gB (bolO (sel_bool_op_Ratio L) boolB) (gCons (gVar 10) gNil)) gNil)))))))
 (gSeq (gIfS (gNot (gT (truO (sel_bool_op_Ratio L)) (gCall (m_law_same L 8) [] (gCons (gVar 8) (gCons (gLst (gCons (gBin ixD (gVar 9) (gC (.int 0))) (gCons (gBin ixD (gVar 9) (gC (.int 1))) (gCons (gCall (m_law_text L) [] (gCons (gVar 9) gNil)) (gCons (gBin addD (gBin addD (gC (.str "Ratio(")) (gCall (m_law_text L) [] (gCons (gVar 9) gNil))) (gC (.str ")"))) (gCons (gBin (ownNe (sel_eq_op_Ratio L) neD) (gBin ixD (gVar 9) (gC (.int 0))) (gC (.int 0))) gNil)))))) gNil)))))
 (gRet (gC (.bl false)))
 gNext)
 (gSeq (gPar 11 12 (gCons (gMake false 4 (m_Ratiodd_initdd L) [(.int 1)] (gCons (gVar 6) gNil)) (gCons (gMake false 4 (m_Ratiodd_initdd L) [] (gCons (gBin addD (gBin ixD (gVar 9) (gC (.int 0))) (gBin ixD (gVar 9) (gC (.int 1)))) (gCons (gBin ixD (gVar 9) (gC (.int 1))) gNil))) gNil)))
 (gSeq (gIfS (gNot (gT (truO (sel_bool_op_Ratio L)) (gCall (m_law_same L 8) [] (gCons (gLst (gCons (gUn (atD 15 (sel_top_Ratio L) (fun _ => false)) (gVar 11)) (gCons (gUn (atD 14 (sel_bottom_Ratio L) (fun _ => false)) (gVar 11)) gNil))) (gCons (gLst (gCons (gVar 6) (gCons (gC (.int 1)) gNil))) gNil)))))
 (gRet (gC (.bl false)))
 gNext)
 (gSeq (gIfS (gOr (gNot (gT truB (gBin (ownEqB (sel_eq_op_Ratio L) eqD) (gVar 10) (gMakeK false 4 (m_Ratiodd_initdd L) mix_Ratiodd_initdd_k0_bottom_top gNil (gCons (gBin mulD (gC (.int 3)) (gVar 7)) (gCons (gBin mulD (gC (.int 3)) (gVar 6)) gNil)))))) (gOr (gT truB (gBin (ownEqB (sel_eq_op_Ratio L) eqD) (gVar 10) (gVar 12))) (gT truB (gBin (ownNe (sel_eq_op_Ratio L) neD) (gVar 10) (gMake false 4 (m_Ratiodd_initdd L) [] (gCons (gBin ixD (gVar 9) (gC (.int 0))) (gCons (gBin ixD (gVar 9) (gC (.int 1))) gNil)))))))
 (gRet (gC (.bl false)))
 gNext)
 (gIfS (gOr (gT truB (gBin (ownEqB (sel_eq_op_Ratio L) eqD) (gVar 10) (gCall (m_law_text L) [] (gCons (gVar 9) gNil)))) (gOr (gT truB (gBin (ownEqB (sel_eq_op_Ratio L) eqD) (gVar 10) (gVar 6))) (gOr (gT truB (gBin (ownEqB (sel_eq_op_Ratio L) eqD) (gVar 10) (gVar 9))) (gT truB (gBin (ownEqB (sel_eq_op_Ratio L) eqD) (gVar 11) (gVar 6))))))
 (gRet (gC (.bl false)))
 gNext)))))))))
abbrev B1 (L : Nat) : GS := (gSet 1 (gCall (m_law_start L) [] (gCons (gVar 0) gNil)))
abbrev B2 (L : Nat) : GS := (gForR rng1 (gCons (gC (.int 6)) gNil) (tN 2)
 (gSeq (gSet 6 (gCall (m_law_pick L) [] (gCons (gVar 1) (gCons (gLst (gCons (gC (.int 0)) (gCons (gC (.int 1)) (gCons (gUn negD (gC (.int 6))) (gCons (gCall (m_law_pull L) [] (gCons (gVar 1) (gCons (gC (.int 60)) gNil))) (gCons (gUn negD (gCall (m_law_pull L) [] (gCons (gVar 1) (gCons (gBin powD (gC (.int 10)) (gC (.int 29))) gNil)))) (gCons (gBin powD (gC (.int 10)) (gC (.int 29))) gNil))))))) gNil))))
 (gSeq (gSet 7 (gCall (m_law_pick L) [] (gCons (gVar 1) (gCons (gLst (gCons (gC (.int 1)) (gCons (gUn negD (gC (.int 1))) (gCons (gC (.int 4)) (gCons (gBin addD (gC (.int 1)) (gCall (m_law_pull L) [] (gCons (gVar 1) (gCons (gC (.int 60)) gNil)))) (gCons (gBin subD (gUn negD (gC (.int 1))) (gCall (m_law_pull L) [] (gCons (gVar 1) (gCons (gBin powD (gC (.int 10)) (gC (.int 29))) gNil)))) (gCons (gC (.int 12)) gNil))))))) gNil))))
 (gSeq (gPar 9 10 (gCons (gCall (m_law_frac L) [] (gCons (gVar 6) (gCons (gVar 7) gNil))) (gCons (gMake false 4 (m_Ratiodd_initdd L) [] (gCons (gVar 6) (gCons (gVar 7) gNil))) gNil)))
 (gSeq (gSet 8 (gLst (gCons (gUn (atD 15 (sel_top_Ratio L) (fun _ => false)) (gVar 10)) (gCons (gUn (atD 14 (sel_bottom_Ratio L) (fun _ => false)) (gVar 10)) (gCons (gB (txtO (sel_str_op_Ratio L) strB) (gCons (gVar 10) gNil)) (gCons (gB (txtO (sel_repr_op_Ratio L) badB) (gCons (gVar 10) gNil)) (gCons (gB (bolO (sel_bool_op_Ratio L) boolB) (gCons (gVar 10) gNil)) gNil)))))))
 (gSeq (gIfS (gNot (gT (truO (sel_bool_op_Ratio L)) (gCall (m_law_same L 8) [] (gCons (gVar 8) (gCons (gLst (gCons (gBin ixD (gVar 9) (gC (.int 0))) (gCons (gBin ixD (gVar 9) (gC (.int 1))) (gCons (gCall (m_law_text L) [] (gCons (gVar 9) gNil)) (gCons (gBin addD (gBin addD (gC (.str "Ratio(")) (gCall (m_law_text L) [] (gCons (gVar 9) gNil))) (gC (.str ")"))) (gCons (gBin (ownNe (sel_eq_op_Ratio L) neD) (gBin ixD (gVar 9) (gC (.int 0))) (gC (.int 0))) gNil)))))) gNil)))))
 (gRet (gC (.bl false)))
 gNext)
 (gSeq (gPar 11 12 (gCons (gMake false 4 (m_Ratiodd_initdd L) [(.int 1)] (gCons (gVar 6) gNil)) (gCons (gMake false 4 (m_Ratiodd_initdd L) [] (gCons (gBin addD (gBin ixD (gVar 9) (gC (.int 0))) (gBin ixD (gVar 9) (gC (.int 1)))) (gCons (gBin ixD (gVar 9) (gC (.int 1))) gNil))) gNil)))
 (gSeq (gIfS (gNot (gT (truO (sel_bool_op_Ratio L)) (gCall (m_law_same L 8) [] (gCons (gLst (gCons (gUn (atD 15 (sel_top_Ratio L) (fun _ => false)) (gVar 11)) (gCons (gUn (atD 14 (sel_bottom_Ratio L) (fun _ => false)) (gVar 11)) gNil))) (gCons (gLst (gCons (gVar 6) (gCons (gC (.int 1)) gNil))) gNil)))))
 (gRet (gC (.bl false)))
 gNext)
 (gSeq (gIfS (gOr (gNot (gT truB (gBin (ownEqB (sel_eq_op_Ratio L) eqD) (gVar 10) (gMakeK false 4 (m_Ratiodd_initdd L) mix_Ratiodd_initdd_k0_bottom_top gNil (gCons (gBin mulD (gC (.int 3)) (gVar 7)) (gCons (gBin mulD (gC (.int 3)) (gVar 6)) gNil)))))) (gOr (gT truB (gBin (ownEqB (sel_eq_op_Ratio L) eqD) (gVar 10) (gVar 12))) (gT truB (gBin (ownNe (sel_eq_op_Ratio L) neD) (gVar 10) (gMake false 4 (m_Ratiodd_initdd L) [] (gCons (gBin ixD (gVar 9) (gC (.int 0))) (gCons (gBin ixD (gVar 9) (gC (.int 1))) gNil)))))))
 (gRet (gC (.bl false)))
 gNext)
 (gIfS (gOr (gT truB (gBin (ownEqB (sel_eq_op_Ratio L) eqD) (gVar 10) (gCall (m_law_text L) [] (gCons (gVar 9) gNil)))) (gOr (gT truB (gBin (ownEqB (sel_eq_op_Ratio L) eqD) (gVar 10) (gVar 6))) (gOr (gT truB (gBin (ownEqB (sel_eq_op_Ratio L) eqD) (gVar 10) (gVar 9))) (gT truB (gBin (ownEqB (sel_eq_op_Ratio L) eqD) (gVar 11) (gVar 6))))))
 (gRet (gC (.bl false)))
 gNext))))))))))
abbrev B3 (L : Nat) : GS := (gSet 3 (gCall (m_law_stray L) [] (gCons (gVar 1) gNil)))
abbrev B4 (L : Nat) : GS := (gSet 3 (gIf (gAnd (gT truB (gBin (ownEqB (sel_eq_op_Ratio L) eqD) (gVar 3) (gC (.int 1)))) (gNot (gT (truO (sel_bool_op_Ratio L)) (gUn (isiD isi_bool) (gVar 3))))) (gC (.int 0)) (gVar 3)))
abbrev B5 (L : Nat) : GS := (gSet 4 (gLst (gCons (gLamV 4) (gCons (gLamV 3) (gCons (gLamV 2) gNil)))))
abbrev B6 (L : Nat) : GS := (gSet 5 (gLst (gCons (gTup (gCons (gC (.int 5)) (gCons (gC (.int 0)) gNil))) (gCons (gTup (gCons (gC (.int 0)) (gCons (gC (.int 0)) gNil))) (gCons (gTup (gCons (gVar 3) (gCons (gC (.int 0)) gNil))) gNil)))))
abbrev B7 (L : Nat) : GS := (gIfS (gOr (gT truB (gBin (ownNe (sel_eq_op_Ratio L) neD) (gVar 3) (gC (.int 0)))) (gT (truO (sel_bool_op_Ratio L)) (gUn (isiD isi_bool) (gVar 3))))
 (gSeq (gSet 4 (gBin addD (gVar 4) (gLst (gCons (gLamV 1) (gCons (gLamV 0) gNil)))))
 (gSet 5 (gBin addD (gVar 5) (gLst (gCons (gTup (gCons (gVar 3) (gCons (gC (.int 1)) gNil))) (gCons (gTup (gCons (gC (.int 7)) (gCons (gVar 3) gNil))) gNil))))))
 gNext)
abbrev B8 (L : Nat) : GS := (gRet (gCall (m_law_same L 8) [] (gCons (gLc (gVar 4) (tN 13) [13] gYes (gLamAsk (h_law_try L) (ls_law L) 13)) (gCons (gLc (gVar 5) (tN 14) [14] gYes (gTup (gCons (gC (.str "no")) (gCons (gC (.str "InvalidRatio")) (gCons (gVar 14) gNil))))) gNil))))
end Row

namespace Row
open PySem PySem.Spec PyProof.Rows L2 Dq TL
/-- the turns of a comprehension that asks lambdas -/
inductive LcX (t : GTg) (el : GE) (ρ : En) (s : Sto) : List DV → List DV → Prop
  | nil : LcX t el ρ s [] []
  | cons {x y : DV} {xs ys : List DV} (f : xfree y = true) (h : ∃ ρ1, t x ρ = some ρ1 ∧ ∀ S : Sto, S.length = s.length + 1 → S.all xfreeO = true → el ρ1 S = .ok y S) (r : LcX t el ρ s xs ys) : LcX t el ρ s (x :: xs) (y :: ys)
theorem xfrees_app : ∀ (a b : List DV), xfrees a = true → xfrees b = true → xfrees (a ++ b) = true
  | [], _, _, h => h
  | x :: a, b, h, h' => by
    rw [List.cons_append]
    unfold xfrees at h ⊢
    rw [Bool.and_eq_true] at h ⊢
    exact ⟨h.1, xfrees_app a b h.2 h'⟩
theorem lcR_okX {t : GTg} {el : GE} {ρ : En} (s : Sto) (hs : s.all xfreeO = true) {xs ys : List DV} (h : LcX t el ρ s xs ys) : ∀ acc : List DV, xfrees acc = true → acc.length + xs.length ≤ sizeLine → lcR t gYes el ρ s.length xs (s ++ [some (.lst acc)]) = some (s ++ [some (.lst (acc ++ ys))]) := by
  induction h with
  | nil => intro acc _ _; rw [lcR, List.append_nil]
  | @cons x y xs ys f e _ ih =>
    intro acc fa hl
    obtain ⟨ρ1, e1, e2⟩ := e
    rw [List.length_cons] at hl
    have e3 := e2 (s ++ [some (.lst acc)]) (by simp) (by rw [List.all_append, hs]; simp [xfreeO, fa])
    have e4 : (s ++ [some (MO.lst acc)])[s.length]? = some (some (MO.lst acc)) := by simp
    have e5 : (s ++ [some (MO.lst acc)]).set s.length (some (MO.lst (acc ++ [y]))) = s ++ [some (MO.lst (acc ++ [y]))] := by simp [List.set_append]
    have e6 : decide (acc.length < sizeLine) = true := decide_eq_true (by omega)
    have e7 := ih (acc ++ [y]) (xfrees_app _ _ fa (by unfold xfrees; rw [f]; unfold xfrees; rfl)) (by rw [List.length_append, List.length_cons, List.length_nil]; omega)
    rw [List.append_assoc] at e7
    rw [lcR, e1]
    show (match el ρ1 (s ++ [some (MO.lst acc)]) with
        | .ok y s2 => match s2[s.length]? with
          | some (some (.lst acc)) => match decide (acc.length < sizeLine) with
            | true => lcR t gYes el ρ s.length xs (s2.set s.length (some (.lst (acc ++ [y]))))
            | false => none
          | _ => none
        | _ => none) = _
    rw [e3]
    simp only [e4, e6, e5]
    exact e7
theorem gLc_okX {ge : GE} {t : GTg} {vs : List Nat} {el : GE} {ρ : En} {s : Sto} {d : DV} {xs ys : List DV} (hs : s.all xfreeO = true) (hg : ge ρ s = .ok d s) (hx : seqT d = some xs) (hz : xs.length ≤ sizeLine) (h : LcX t el (wipeD ρ vs) s xs ys) (hb : bels s.length ys = true) :
    gLc ge t vs gYes el ρ s = .ok (.lst ys) s := by
  unfold gLc
  have e := lcR_okX s hs h [] (by unfold xfrees; rfl) (by rw [List.length_nil]; omega)
  rw [hg]
  simp only [R.bind_ok, hx, e, List.nil_append]
  exact lcEnd_ok s hb
/-- a thing that is no ratio's part -/
structure Odd (d : DV) : Prop where
  n : ∀ (L : Nat) (s : Sto), m_is_number L [d] s = .ok (.bl false) s
  f : xfree d = true
  p : plain 4 d = true
  ne : ∀ s, neD d (.int 0) s = .ok (.bl true) s
  i : ∀ s, insS s d = none
abbrev E15 (x0 d4 d5 x2 x6 x7 x8 x9 x10 x11 x12 : Option DV) (d : DV) : En := [x0, some (.mr 0), x2, some d, d4, d5, x6, x7, x8, x9, x10, x11, x12, none, none]
abbrev due (a b : DV) : DV := .tup [a, b]
abbrev no (g : DV) : DV := .tup [.str "no", .str "InvalidRatio", g]
theorem ask_i (L : Nat) (ρ : En) (i : Nat) (z : List Nat × List DV × GE) (g : DV) (hi : ρ[13]? = some (some (.lam i))) (hz : ls_law L i = some z) (f : xfree g = true) (h : ∀ S, thOf ρ z S = .exc 1 [3, 2] [.str "InvalidRatio", g] S) (S : Sto) (fs : S.all xfreeO = true) :
    gLamAsk (h_law_try L) (ls_law L) 13 ρ S = .ok (no g) S := by
  unfold gLamAsk
  rw [hi]
  simp only [hz]
  exact try_no L _ S g (h S) f fs
end Row

namespace Row
open PySem PySem.Spec PyProof.Rows L2 Dq TL
section
variable (L : Nat) (x0 x2 x4 x5 x6 x7 x8 x9 x10 x11 x12 x13 x14 : Option DV) (d : DV) (s : Sto)
abbrev EE (d : Option DV) : En := [x0, some (.mr 0), x2, d, x4, x5, x6, x7, x8, x9, x10, x11, x12, x13, x14]
theorem odd_non : Odd .non := ⟨fun L s => run_rt rfl (by kernel_rfl) rfl, rfl, rfl, fun _ => rfl, fun _ => rfl⟩
theorem odd_bl : Odd (.bl true) := ⟨fun L s => run_rt rfl (by kernel_rfl) rfl, rfl, rfl, fun _ => rfl, fun _ => rfl⟩
theorem odd_x : Odd (.str "x") := ⟨fun L s => run_rt rfl (by kernel_rfl) rfl, rfl, by decide +kernel, fun _ => by kernel_rfl, fun _ => rfl⟩
theorem odd_h : Odd (.str "1/2") := ⟨fun L s => run_rt rfl (by kernel_rfl) rfl, rfl, by decide +kernel, fun _ => by kernel_rfl, fun _ => rfl⟩
theorem odd_t0 : Odd (.tup []) := ⟨fun L s => run_rt rfl (by kernel_rfl) rfl, by decide +kernel, by decide +kernel, fun _ => by kernel_rfl, fun _ => rfl⟩
theorem odd_l0 : Odd (.lst []) := ⟨fun L s => run_rt rfl (by kernel_rfl) rfl, by decide +kernel, by decide +kernel, fun _ => by kernel_rfl, fun _ => rfl⟩
theorem odd_t2 : Odd (.tup [.int 1, .int 2]) := ⟨fun L s => run_rt rfl (by kernel_rfl) rfl, by decide +kernel, by decide +kernel, fun _ => by kernel_rfl, fun _ => rfl⟩
theorem odd_l1 : Odd (.lst [.non]) := ⟨fun L s => run_rt rfl (by kernel_rfl) rfl, by decide +kernel, by decide +kernel, fun _ => by kernel_rfl, fun _ => rfl⟩
abbrev strays : List DV := [.non, .bl true, .str "x", .str "1/2", .int 1, .tup [], .lst [], .tup [.int 1, .int 2], .lst [.non]]
theorem ev_stray (k : Nat) (h : BagOk [] k s) (hk : k < 2 ^ 59) : ∃ d s', m_law_stray L [.mr 0] s = .ok d s' ∧ d ∈ strays ∧ BagOk [] (k + 1) s' := by
  obtain ⟨d, s', e, m, b⟩ := ev_pick L k strays s h (by decide) (by decide) (by omega)
  refine ⟨d, s', run_rt rfl ?_ (h.len b), m, b⟩
  have hc : b_law_stray L [some (.mr 0)] s = (m_law_pick L [.mr 0, .lst strays] s).toS [some (.mr 0)] fun d s1 => .rt d s1 := by
    unfold b_law_stray
    rfl
  show b_law_stray L [some (.mr 0)] s = _
  rw [hc, e]
  rfl
theorem ev_b34 (k : Nat) (h : BagOk [] k s) (hk : k < 2 ^ 59) : ∃ d s', (gSeq (B3 L) (B4 L)) (EE x0 x2 x4 x5 x6 x7 x8 x9 x10 x11 x12 x13 x14 none) s = .nx (EE x0 x2 x4 x5 x6 x7 x8 x9 x10 x11 x12 x13 x14 (some d)) s' ∧ (Odd d ∨ d = .int 0) ∧ BagOk [] (k + 1) s' := by
  obtain ⟨d, s', e, m, b⟩ := ev_stray L s k h hk
  have h3 : B3 L (EE x0 x2 x4 x5 x6 x7 x8 x9 x10 x11 x12 x13 x14 none) s = .nx (EE x0 x2 x4 x5 x6 x7 x8 x9 x10 x11 x12 x13 x14 (some d)) s' := by simp [e]
  have go : ∀ d', B4 L (EE x0 x2 x4 x5 x6 x7 x8 x9 x10 x11 x12 x13 x14 (some d)) s' = .nx (EE x0 x2 x4 x5 x6 x7 x8 x9 x10 x11 x12 x13 x14 (some d')) s' → (Odd d' ∨ d' = .int 0) → ∃ d s', (gSeq (B3 L) (B4 L)) (EE x0 x2 x4 x5 x6 x7 x8 x9 x10 x11 x12 x13 x14 none) s = .nx (EE x0 x2 x4 x5 x6 x7 x8 x9 x10 x11 x12 x13 x14 (some d)) s' ∧ (Odd d ∨ d = .int 0) ∧ BagOk [] (k + 1) s' := fun d' e4 o => ⟨d', s', by rw [seq_nx h3]; exact e4, o, b⟩
  simp only [strays, List.mem_cons, List.not_mem_nil, or_false] at m
  rcases m with rfl | rfl | rfl | rfl | rfl | rfl | rfl | rfl | rfl
  · exact go .non (by kernel_rfl) (.inl odd_non)
  · exact go (.bl true) (by kernel_rfl) (.inl odd_bl)
  · exact go (.str "x") (by kernel_rfl) (.inl odd_x)
  · exact go (.str "1/2") (by kernel_rfl) (.inl odd_h)
  · exact go (.int 0) (by kernel_rfl) (.inr rfl)
  · exact go (.tup []) (by kernel_rfl) (.inl odd_t0)
  · exact go (.lst []) (by kernel_rfl) (.inl odd_l0)
  · exact go (.tup [.int 1, .int 2]) (by kernel_rfl) (.inl odd_t2)
  · exact go (.lst [.non]) (by kernel_rfl) (.inl odd_l1)
end
end Row

namespace Row
open PySem PySem.Spec PyProof.Rows L2 Dq TL
section
variable (L : Nat) (x0 x2 x4 x5 x6 x7 x8 x9 x10 x11 x12 x13 x14 : Option DV) (d : DV) (s : Sto)
theorem b5 : B5 L (EE x0 x2 x4 x5 x6 x7 x8 x9 x10 x11 x12 x13 x14 (some d)) s = .nx (EE x0 x2 (some (.lst [.lam 4, .lam 3, .lam 2])) x5 x6 x7 x8 x9 x10 x11 x12 x13 x14 (some d)) s := by kernel_rfl
theorem b6 : B6 L (EE x0 x2 x4 x5 x6 x7 x8 x9 x10 x11 x12 x13 x14 (some d)) s = .nx (EE x0 x2 x4 (some (.lst [due (.int 5) (.int 0), due (.int 0) (.int 0), due d (.int 0)])) x6 x7 x8 x9 x10 x11 x12 x13 x14 (some d)) s := by kernel_rfl
theorem b7_0 (a b : List DV) : B7 L (EE x0 x2 (some (.lst a)) (some (.lst b)) x6 x7 x8 x9 x10 x11 x12 x13 x14 (some (.int 0))) s = .nx (EE x0 x2 (some (.lst a)) (some (.lst b)) x6 x7 x8 x9 x10 x11 x12 x13 x14 (some (.int 0))) s := by kernel_rfl
theorem b7_d (o : Odd d) (a1 a2 a3 b1 b2 b3 : DV) : B7 L (EE x0 x2 (some (.lst [a1, a2, a3])) (some (.lst [b1, b2, b3])) x6 x7 x8 x9 x10 x11 x12 x13 x14 (some d)) s = .nx (EE x0 x2 (some (.lst [a1, a2, a3, .lam 1, .lam 0])) (some (.lst [b1, b2, b3, due d (.int 1), due (.int 7) d])) x6 x7 x8 x9 x10 x11 x12 x13 x14 (some d)) s := by
  have hc : (gOr (gT truB (gBin (ownNe (sel_eq_op_Ratio L) neD) (gVar 3) (gC (.int 0)))) (gT (truO (sel_bool_op_Ratio L)) (gUn (isiD isi_bool) (gVar 3)))) (EE x0 x2 (some (.lst [a1, a2, a3])) (some (.lst [b1, b2, b3])) x6 x7 x8 x9 x10 x11 x12 x13 x14 (some d)) s = .ok true s := by
    simp [-insS, o.i, o.ne]
  unfold B7 gIfS
  rw [hc]
  kernel_rfl
theorem th4 (ρ : En) (S : Sto) : thOf ρ ([], [], lb_law_4 L) S = .exc 1 [3, 2] [.str "InvalidRatio", due (.int 5) (.int 0)] S := by
  simp [thOf, lb_law_4, rbad3]
theorem th3 (ρ : En) (S : Sto) : thOf ρ ([], [.int 0], lb_law_3 L) S = .exc 1 [3, 2] [.str "InvalidRatio", due (.int 0) (.int 0)] S := by
  simp [thOf, lb_law_3, rbad3]
theorem bel_two {m n : Nat} {a b : DV} (ha : plain n a = true) (hb : plain n b = true) : bels m [.tup [a, b]] = true := by
  simp [bels, bel, bel_plain a ha, bel_plain b hb]
theorem th2 (ρ : En) (S : Sto) (o : Odd d) (h : slotD ρ 3 = some d) : thOf ρ ([3], [.int 0], lb_law_2 L) S = .exc 1 [3, 2] [.str "InvalidRatio", due d (.int 0)] S := by
  have e := rbad1 L d (.int 0) S (o.n L) (bel_two o.p rfl)
  simp [thOf, lb_law_2, h, e]
theorem th1 (ρ : En) (S : Sto) (o : Odd d) (h : slotD ρ 3 = some d) : thOf ρ ([3], [], lb_law_1 L) S = .exc 1 [3, 2] [.str "InvalidRatio", due d (.int 1)] S := by
  have e := rbad1 L d (.int 1) S (o.n L) (bel_two o.p rfl)
  simp [thOf, lb_law_1, h, e]
theorem th0 (ρ : En) (S : Sto) (o : Odd d) (h : slotD ρ 3 = some d) : thOf ρ ([3], [.int 0], lb_law_0 L) S = .exc 1 [3, 2] [.str "InvalidRatio", due (.int 7) d] S := by
  have e := rbad2 L 7 d S (o.n L) (bel_two rfl o.p)
  simp [thOf, lb_law_0, h, e]
theorem th2z (ρ : En) (S : Sto) (h : slotD ρ 3 = some (.int 0)) : thOf ρ ([3], [.int 0], lb_law_2 L) S = .exc 1 [3, 2] [.str "InvalidRatio", due (.int 0) (.int 0)] S := by
  have e := rbad3 L 0 S
  simp [thOf, lb_law_2, h, e]
end
end Row

namespace Row
open PySem PySem.Spec PyProof.Rows L2 Dq TL
section
variable (L : Nat) (x0 x2 x4 x5 x6 x7 x8 x9 x10 x11 x12 x13 x14 : Option DV) (d : DV) (s : Sto)
theorem plain_no {g : DV} {n : Nat} (h : plain n g = true) : plain (n + 1) (no g) = true := by
  have e1 : plain n (.str "no") = true := by cases n <;> (show SeqAt.shaped (.str "no") = true; decide +kernel)
  have e2 : plain n (.str "InvalidRatio") = true := by cases n <;> (show SeqAt.shaped (.str "InvalidRatio") = true; decide +kernel)
  unfold Dq.plain
  simp [e1, e2, h]
theorem plain_due {a b : DV} {n : Nat} (h : plain n a = true) (h' : plain n b = true) : plain (n + 1) (due a b) = true := by
  unfold Dq.plain
  simp [h, h']
theorem plain_lst {xs : List DV} {n : Nat} (hl : xs.length ≤ 64) (h : ∀ x ∈ xs, plain n x = true) : plain (n + 1) (.lst xs) = true := by
  unfold Dq.plain
  rw [Bool.and_eq_true]
  exact ⟨decide_eq_true hl, List.all_eq_true.mpr h⟩
theorem xf_due {a b : DV} (h : xfree a = true) (h' : xfree b = true) : xfree (due a b) = true := by simp [xfree, xfrees, h, h']
theorem xf_no {g : DV} (h : xfree g = true) : xfree (no g) = true := by simp [xfree, xfrees, h]
/-- what is told -/
theorem ev_told (as gs : List DV) (hs : s.all xfreeO = true) (hz : as.length ≤ 64) (h : LcX (tN 13) (gLamAsk (h_law_try L) (ls_law L) 13) (wipeD (EE x0 x2 (some (.lst as)) (some (.lst gs)) x6 x7 x8 x9 x10 x11 x12 x13 x14 (some d)) [13]) s as (gs.map no)) (hp : ∀ g ∈ gs, plain 5 g = true) (hl : gs.length ≤ 64) :
    B8 L (EE x0 x2 (some (.lst as)) (some (.lst gs)) x6 x7 x8 x9 x10 x11 x12 x13 x14 (some d)) s = .rt (.bl true) s := by
  have pn : ∀ x ∈ gs.map no, plain 6 x = true := fun x hx => by
    obtain ⟨g, hg, rfl⟩ := List.mem_map.mp hx
    exact plain_no (hp g hg)
  have hb : bels s.length (gs.map no) = true := bels_plain (n := 6) _ (List.all_eq_true.mpr pn)
  have h1 : gLc (gVar 4) (tN 13) [13] gYes (gLamAsk (h_law_try L) (ls_law L) 13) (EE x0 x2 (some (.lst as)) (some (.lst gs)) x6 x7 x8 x9 x10 x11 x12 x13 x14 (some d)) s = .ok (.lst (gs.map no)) s :=
    gLc_okX hs rfl rfl (Nat.le_trans hz (by decide)) h hb
  have h2 : gLc (gVar 5) (tN 14) [14] gYes (gTup (gCons (gC (.str "no")) (gCons (gC (.str "InvalidRatio")) (gCons (gVar 14) gNil)))) (EE x0 x2 (some (.lst as)) (some (.lst gs)) x6 x7 x8 x9 x10 x11 x12 x13 x14 (some d)) s = .ok (.lst (gs.map no)) s := by
    refine gLc_ok rfl rfl (Nat.le_trans hl (by decide)) (LcF.map (f := no) fun x _ => ⟨_, rfl, fun S _ => rfl⟩) hb
  have e := same_eq L h1 h2 (plain_lst (n := 6) (by rw [List.length_map]; exact hl) pn)
  show (gCall (m_law_same L 8) [] _ _ s).toS _ _ = _
  rw [e]
  rfl
theorem tail_odd (o : Odd d) (hs : s.all xfreeO = true) : (gSeq (B5 L) (gSeq (B6 L) (gSeq (B7 L) (B8 L)))) (EE x0 x2 x4 x5 x6 x7 x8 x9 x10 x11 x12 x13 x14 (some d)) s = .rt (.bl true) s := by
  rw [seq_nx (b5 L x0 x2 x4 x5 x6 x7 x8 x9 x10 x11 x12 x13 x14 d s), seq_nx (b6 L x0 x2 _ x5 x6 x7 x8 x9 x10 x11 x12 x13 x14 d s), seq_nx (b7_d L x0 x2 x6 x7 x8 x9 x10 x11 x12 x13 x14 d s o _ _ _ _ _ _)]
  have fi : ∀ n : Int, xfree (.int n) = true := fun _ => rfl
  have pi : ∀ n : Int, plain 4 (.int n) = true := fun _ => rfl
  refine ev_told L x0 x2 x6 x7 x8 x9 x10 x11 x12 x13 x14 d s [.lam 4, .lam 3, .lam 2, .lam 1, .lam 0] [due (.int 5) (.int 0), due (.int 0) (.int 0), due d (.int 0), due d (.int 1), due (.int 7) d] hs (by decide) ?_ ?_ (by show 5 ≤ 64; decide)
  · have go : ∀ (i : Nat) (z : List Nat × List DV × GE) (g : DV), ls_law L i = some z → xfree g = true → (∀ ρ S, slotD ρ 3 = some d → thOf ρ z S = .exc 1 [3, 2] [.str "InvalidRatio", g] S) →
        ∃ ρ1, tN 13 (.lam i) (wipeD (EE x0 x2 (some (.lst [.lam 4, .lam 3, .lam 2, .lam 1, .lam 0])) (some (.lst [due (.int 5) (.int 0), due (.int 0) (.int 0), due d (.int 0), due d (.int 1), due (.int 7) d])) x6 x7 x8 x9 x10 x11 x12 x13 x14 (some d)) [13]) = some ρ1 ∧ ∀ S : Sto, S.length = s.length + 1 → S.all xfreeO = true → gLamAsk (h_law_try L) (ls_law L) 13 ρ1 S = .ok (no g) S :=
      fun i z g hz f h => ⟨_, rfl, fun S _ fs => ask_i L _ i z g rfl hz f (fun S => h _ S rfl) S fs⟩
    exact .cons (xf_no (xf_due (fi 5) (fi 0))) (go 4 _ _ rfl (xf_due (fi 5) (fi 0)) fun ρ S _ => th4 L ρ S) (.cons (xf_no (xf_due (fi 0) (fi 0))) (go 3 _ _ rfl (xf_due (fi 0) (fi 0)) fun ρ S _ => th3 L ρ S)
      (.cons (xf_no (xf_due o.f (fi 0))) (go 2 _ _ rfl (xf_due o.f (fi 0)) fun ρ S h => th2 L d ρ S o h) (.cons (xf_no (xf_due o.f (fi 1))) (go 1 _ _ rfl (xf_due o.f (fi 1)) fun ρ S h => th1 L d ρ S o h)
      (.cons (xf_no (xf_due (fi 7) o.f)) (go 0 _ _ rfl (xf_due (fi 7) o.f) fun ρ S h => th0 L d ρ S o h) .nil))))
  · intro g hg
    simp only [List.mem_cons, List.not_mem_nil, or_false] at hg
    rcases hg with rfl | rfl | rfl | rfl | rfl
    · exact plain_due (pi 5) (pi 0)
    · exact plain_due (pi 0) (pi 0)
    · exact plain_due o.p (pi 0)
    · exact plain_due o.p (pi 1)
    · exact plain_due (pi 7) o.p
theorem tail_0 (hs : s.all xfreeO = true) : (gSeq (B5 L) (gSeq (B6 L) (gSeq (B7 L) (B8 L)))) (EE x0 x2 x4 x5 x6 x7 x8 x9 x10 x11 x12 x13 x14 (some (.int 0))) s = .rt (.bl true) s := by
  rw [seq_nx (b5 L x0 x2 x4 x5 x6 x7 x8 x9 x10 x11 x12 x13 x14 (.int 0) s), seq_nx (b6 L x0 x2 _ x5 x6 x7 x8 x9 x10 x11 x12 x13 x14 (.int 0) s), seq_nx (b7_0 L x0 x2 x6 x7 x8 x9 x10 x11 x12 x13 x14 s _ _)]
  have fi : ∀ n : Int, xfree (.int n) = true := fun _ => rfl
  have pi : ∀ n : Int, plain 4 (.int n) = true := fun _ => rfl
  refine ev_told L x0 x2 x6 x7 x8 x9 x10 x11 x12 x13 x14 (.int 0) s [.lam 4, .lam 3, .lam 2] [due (.int 5) (.int 0), due (.int 0) (.int 0), due (.int 0) (.int 0)] hs (by decide) ?_ ?_ (by decide)
  · have go : ∀ (i : Nat) (z : List Nat × List DV × GE) (g : DV), ls_law L i = some z → xfree g = true → (∀ ρ S, slotD ρ 3 = some (.int 0) → thOf ρ z S = .exc 1 [3, 2] [.str "InvalidRatio", g] S) →
        ∃ ρ1, tN 13 (.lam i) (wipeD (EE x0 x2 (some (.lst [.lam 4, .lam 3, .lam 2])) (some (.lst [due (.int 5) (.int 0), due (.int 0) (.int 0), due (.int 0) (.int 0)])) x6 x7 x8 x9 x10 x11 x12 x13 x14 (some (.int 0))) [13]) = some ρ1 ∧ ∀ S : Sto, S.length = s.length + 1 → S.all xfreeO = true → gLamAsk (h_law_try L) (ls_law L) 13 ρ1 S = .ok (no g) S :=
      fun i z g hz f h => ⟨_, rfl, fun S _ fs => ask_i L _ i z g rfl hz f (fun S => h _ S rfl) S fs⟩
    exact .cons (xf_no (xf_due (fi 5) (fi 0))) (go 4 _ _ rfl (xf_due (fi 5) (fi 0)) fun ρ S _ => th4 L ρ S) (.cons (xf_no (xf_due (fi 0) (fi 0))) (go 3 _ _ rfl (xf_due (fi 0) (fi 0)) fun ρ S _ => th3 L ρ S)
      (.cons (xf_no (xf_due (fi 0) (fi 0))) (go 2 _ _ rfl (xf_due (fi 0) (fi 0)) fun ρ S h => th2z L ρ S h) .nil))
  · intro g hg
    simp only [List.mem_cons, List.not_mem_nil, or_false] at hg
    rcases hg with rfl | rfl | rfl
    · exact plain_due (pi 5) (pi 0)
    · exact plain_due (pi 0) (pi 0)
    · exact plain_due (pi 0) (pi 0)
end
end Row

namespace Row
open PySem PySem.Spec PyProof.Rows L2 Dq TL
abbrev T29 : Int := 100000000000000000000000000000
theorem pd29 (s : Sto) : powD (.int 10) (.int 29) s = .ok (.int T29) s := by kernel_rfl
theorem smT : Sm T29 := Sm.of (k := 100) (by decide)
theorem s29 {x : Int} (h : x.natAbs ≤ T29.natAbs) : Sm x := Nat.lt_of_le_of_lt h smT
section
variable (L : Nat) (x0 x2 x4 x5 x6 x7 x8 x9 x10 x11 x12 x13 x14 y : Option DV) (s : Sto)
theorem ev_a1 (k : Nat) (h : BagOk [] k s) (hk : k < 2 ^ 57) : ∃ (a : Int) (s' : Sto), A1 L (EE x0 x2 x4 x5 x6 x7 x8 x9 x10 x11 x12 x13 x14 y) s = .nx (EE x0 x2 x4 x5 (some (.int a)) x7 x8 x9 x10 x11 x12 x13 x14 y) s' ∧ a.natAbs ≤ T29.natAbs ∧ BagOk [] (k + 3) s' := by
  obtain ⟨v1, s1, e1, p1, q1, b1⟩ := ev_pull L k 60 s h (by decide) (Sm.n (by decide)) (by omega)
  obtain ⟨v2, s2, e2, p2, q2, b2⟩ := ev_pull L (k + 1) T29 s1 b1 (by decide) smT (by omega)
  obtain ⟨d, s3, e3, m, b3⟩ := ev_pick L (k + 2) [.int 0, .int 1, .int (-6), .int v1, .int (-v2), .int T29] s2 b2 (by show 0 < 6; decide) (by show 6 < 100; decide) (by omega)
  have q2 : v2 < 100000000000000000000000000000 := q2
  have tz : T29.natAbs = 100000000000000000000000000000 := by decide
  have hx : ∃ a : Int, d = .int a ∧ a.natAbs ≤ T29.natAbs := by
    simp only [List.mem_cons, List.not_mem_nil, or_false] at m
    rcases m with rfl | rfl | rfl | rfl | rfl | rfl
    · exact ⟨_, rfl, by decide⟩
    · exact ⟨_, rfl, by decide⟩
    · exact ⟨_, rfl, by decide⟩
    · exact ⟨_, rfl, by rw [tz]; omega⟩
    · exact ⟨_, rfl, by rw [tz]; omega⟩
    · exact ⟨_, rfl, by decide⟩
  obtain ⟨a, rfl, ha⟩ := hx
  exact ⟨a, s3, by simp [pd29, e1, e2, e3, show (6 : Nat) ≤ sizeLine from by decide], ha, b3⟩
theorem ev_a2 (k : Nat) (h : BagOk [] k s) (hk : k < 2 ^ 57) : ∃ (b : Int) (s' : Sto), A2 L (EE x0 x2 x4 x5 x6 x7 x8 x9 x10 x11 x12 x13 x14 y) s = .nx (EE x0 x2 x4 x5 x6 (some (.int b)) x8 x9 x10 x11 x12 x13 x14 y) s' ∧ b ≠ 0 ∧ b.natAbs ≤ T29.natAbs ∧ BagOk [] (k + 3) s' := by
  obtain ⟨v1, s1, e1, p1, q1, b1⟩ := ev_pull L k 60 s h (by decide) (Sm.n (by decide)) (by omega)
  obtain ⟨v2, s2, e2, p2, q2, b2⟩ := ev_pull L (k + 1) T29 s1 b1 (by decide) smT (by omega)
  obtain ⟨d, s3, e3, m, b3⟩ := ev_pick L (k + 2) [.int 1, .int (-1), .int 4, .int (1 + v1), .int (-1 - v2), .int 12] s2 b2 (by show 0 < 6; decide) (by show 6 < 100; decide) (by omega)
  have q2 : v2 < 100000000000000000000000000000 := q2
  have tz : T29.natAbs = 100000000000000000000000000000 := by decide
  have hx : ∃ a : Int, d = .int a ∧ a ≠ 0 ∧ a.natAbs ≤ T29.natAbs := by
    simp only [List.mem_cons, List.not_mem_nil, or_false] at m
    rcases m with rfl | rfl | rfl | rfl | rfl | rfl
    · exact ⟨_, rfl, by decide, by decide⟩
    · exact ⟨_, rfl, by decide, by decide⟩
    · exact ⟨_, rfl, by decide, by decide⟩
    · exact ⟨_, rfl, by omega, by rw [tz]; omega⟩
    · exact ⟨_, rfl, by omega, by rw [tz]; omega⟩
    · exact ⟨_, rfl, by decide, by decide⟩
  obtain ⟨a, rfl, hn, ha⟩ := hx
  exact ⟨a, s3, by simp [pd29, e1, e2, e3, show (6 : Nat) ≤ sizeLine from by decide], hn, ha, b3⟩
end
theorem n200 {x y : Int} (h : x.natAbs ≤ y.natAbs) (h' : y.natAbs ≤ T29.natAbs) : x.natAbs < 2 ^ 200 := Nat.lt_of_le_of_lt (Nat.le_trans h h') (by decide)
theorem is_r (n d : Int) (s : Sto) : isiD isi_Ratio (rat n d) s = .ok (.bl true) s := rfl
theorem is_s (w : Str) (s : Sto) : isiD isi_Ratio (.str w) s = .ok (.bl false) s := rfl
theorem is_i (a : Int) (s : Sto) : isiD isi_Ratio (.int a) s = .ok (.bl false) s := rfl
theorem is_t (a b : Int) (s : Sto) : isiD isi_Ratio (fr a b) s = .ok (.bl false) s := rfl
theorem eq_rr (L : Nat) (n d n' d' : Int) (s : Sto) : m_Ratiodd_eqdd L [rat n d, rat n' d'] s = .ok (.bl (decide (n = n' ∧ d = d'))) s := by
  by_cases h : n = n' <;> by_cases h' : d = d' <;> simp [m_Ratiodd_eqdd, Dq.run, b_Ratiodd_eqdd, eqD_int, h, h', is_r]
theorem eq_rs (L : Nat) (n d : Int) (w : Str) (s : Sto) : m_Ratiodd_eqdd L [rat n d, .str w] s = .ok (.bl false) s := by
  simp [m_Ratiodd_eqdd, Dq.run, b_Ratiodd_eqdd, is_s]
theorem eq_ri (L : Nat) (n d a : Int) (s : Sto) : m_Ratiodd_eqdd L [rat n d, .int a] s = .ok (.bl false) s := by
  simp [m_Ratiodd_eqdd, Dq.run, b_Ratiodd_eqdd, is_i]
theorem eq_rt (L : Nat) (n d a b : Int) (s : Sto) : m_Ratiodd_eqdd L [rat n d, fr a b] s = .ok (.bl false) s := by
  simp [m_Ratiodd_eqdd, Dq.run, b_Ratiodd_eqdd, is_t]
theorem bol_r (L : Nat) (n d : Int) (s : Sto) : m_Ratiodd_booldd L [rat n d] s = .ok (.bl (decide (n ≠ 0))) s := by
  by_cases h : n = 0 <;> simp [m_Ratiodd_booldd, Dq.run, b_Ratiodd_booldd, boolB, h]
end Row

namespace Row
open PySem PySem.Spec PyProof.Rows L2 Dq TL
theorem nx_ifO {own : Sel} {g : GE} {b : GS} {ρ : En} {s : Sto} (h : g ρ s = .ok (.bl true) s) : gIfS (gNot (gT (truO own) g)) b gNext ρ s = .nx ρ s := by
  simp [h, insS]
theorem top_r (L : Nat) (n d : Int) (s : Sto) : m_Ratio_top L [rat n d] s = .ok (.int n) s := by simp [m_Ratio_top, Dq.run, b_Ratio_top]
theorem bot_r (L : Nat) (n d : Int) (s : Sto) : m_Ratio_bottom L [rat n d] s = .ok (.int d) s := by simp [m_Ratio_bottom, Dq.run, b_Ratio_bottom]
/-- a ratio and a pair of the same whole numbers -/
theorem both (L : Nat) (hL : Lb ≤ L) (a b : Int) (hb : b ≠ 0) (sb : Sm b) : ∃ n d, Fr n d a b ∧ (∀ s, m_law_frac L [.int a, .int b] s = .ok (fr n d) s) ∧ ∀ s, makeD false 4 (m_Ratiodd_initdd L) [.int a, .int b] s = .ok (rat n d) s := by
  obtain ⟨n, d, e, f⟩ := ev_rmake L a b hb sb
  refine ⟨n, d, f, fun s => ?_, e⟩
  obtain ⟨n', d', e', f'⟩ := ev_frac L a b s hb sb (Sm.ltL hL sb)
  obtain ⟨rfl, rfl⟩ := Fr.uniq hb f f'
  exact e'
/-- a ratio of a pair that stands for the same -/
theorem same_r (L : Nat) {n d a b : Int} (hb : b ≠ 0) (sb : Sm b) (f : Fr n d a b) (s : Sto) : makeD false 4 (m_Ratiodd_initdd L) [.int a, .int b] s = .ok (rat n d) s := by
  obtain ⟨n', d', e, f'⟩ := ev_rmake L a b hb sb
  obtain ⟨rfl, rfl⟩ := Fr.uniq hb f f'
  exact e s
section
variable (L : Nat) (x0 x2 x4 x5 x6 x7 x8 x9 x10 x11 x12 x13 x14 y : Option DV) (s : Sto) {n d a b : Int}
theorem ev_a3 (ef : ∀ s, m_law_frac L [.int a, .int b] s = .ok (fr n d) s) (em : ∀ s, makeD false 4 (m_Ratiodd_initdd L) [.int a, .int b] s = .ok (rat n d) s) :
    A3 L (EE x0 x2 x4 x5 (some (.int a)) (some (.int b)) x8 x9 x10 x11 x12 x13 x14 y) s = .nx (EE x0 x2 x4 x5 (some (.int a)) (some (.int b)) x8 (some (fr n d)) (some (rat n d)) x11 x12 x13 x14 y) s := by
  simp [ef, em]
abbrev fnd (n d : Int) : DV := .lst [.int n, .int d, .str (rTx n d), .str (rRp n d), .bl (!decide (n = 0))]
theorem ev_a4 (hL : 40 ≤ L) (hn : n.natAbs < 2 ^ 200) (hd : d.natAbs < 2 ^ 200) : A4 L (EE x0 x2 x4 x5 x6 x7 x8 x9 (some (rat n d)) x11 x12 x13 x14 y) s = .nx (EE x0 x2 x4 x5 x6 x7 (some (fnd n d)) x9 (some (rat n d)) x11 x12 x13 x14 y) s := by
  have e3 := ev_str L hL hn hd s
  have e4 := ev_repr L hL hn hd s
  have e5 := bol_r L n d s
  have e6 : (decide (n ≠ 0)) = !decide (n = 0) := by by_cases h : n = 0 <;> simp [h]
  rw [e6] at e5
  simp [insS, sel_top_Ratio, sel_bottom_Ratio, sel_str_op_Ratio, sel_repr_op_Ratio, sel_bool_op_Ratio, top_r, bot_r, e3, e4, e5]
theorem pl_fnd (hn : n.natAbs < 2 ^ 200) (hd : d.natAbs < 2 ^ 200) : plain 7 (fnd n d) = true := by
  have e1 : plain 6 (.str (rTx n d)) = true := shA (tk_rTx hn hd).a
  have e2 : plain 6 (.str (rRp n d)) = true := shA (tk_rRp hn hd).a
  refine plain_lst (n := 6) (by show 5 ≤ 64; decide) fun x hx => ?_
  simp only [List.mem_cons, List.not_mem_nil, or_false] at hx
  rcases hx with rfl | rfl | rfl | rfl | rfl
  · rfl
  · rfl
  · exact e1
  · exact e2
  · rfl
theorem ev_a5 (hn : n.natAbs < 2 ^ 200) (hd : d.natAbs < 2 ^ 200) : A5 L (EE x0 x2 x4 x5 x6 x7 (some (fnd n d)) (some (fr n d)) x10 x11 x12 x13 x14 y) s = .nx (EE x0 x2 x4 x5 x6 x7 (some (fnd n d)) (some (fr n d)) x10 x11 x12 x13 x14 y) s := by
  have e1 := ev_ltext L hn hd s
  have e2 := tk_op.add (tk_rTx hn hd) (by decide) s
  have e3 := (tk_op.app (tk_rTx hn hd)).add tk_cl (by decide) s
  refine nx_ifO (same_eq L (d := fnd n d) rfl ?_ (pl_fnd hn hd))
  simp [-addD, insS, e1, e2, e3, neD_int, rRp]
theorem ev_a6 (hp : ∀ s, makeD false 4 (m_Ratiodd_initdd L) [.int a, .int 1] s = .ok (rat a 1) s) (hf : ∀ s, makeD false 4 (m_Ratiodd_initdd L) [.int (n + d), .int d] s = .ok (rat (n + d) d) s) :
    A6 L (EE x0 x2 x4 x5 (some (.int a)) x7 x8 (some (fr n d)) x10 x11 x12 x13 x14 y) s = .nx (EE x0 x2 x4 x5 (some (.int a)) x7 x8 (some (fr n d)) x10 (some (rat a 1)) (some (rat (n + d) d)) x13 x14 y) s := by
  simp [hp, hf]
theorem ev_a7 : A7 L (EE x0 x2 x4 x5 (some (.int a)) x7 x8 x9 x10 (some (rat a 1)) x12 x13 x14 y) s = .nx (EE x0 x2 x4 x5 (some (.int a)) x7 x8 x9 x10 (some (rat a 1)) x12 x13 x14 y) s := by
  refine nx_ifO (same_eq L (d := .lst [.int a, .int 1]) ?_ ?_ rfl)
  · simp [insS, sel_top_Ratio, sel_bottom_Ratio, top_r, bot_r]
  · simp
theorem ev_a8 (h3 : ∀ s, makeD false 4 (m_Ratiodd_initdd L) [.int (3 * a), .int (3 * b)] s = .ok (rat n d) s) (ha : Sm a) (hb : Sm b) (hs : ∀ s, makeD false 4 (m_Ratiodd_initdd L) [.int n, .int d] s = .ok (rat n d) s) (hd : 0 < d) :
    A8 L (EE x0 x2 x4 x5 (some (.int a)) (some (.int b)) x8 (some (fr n d)) (some (rat n d)) x11 (some (rat (n + d) d)) x13 x14 y) s = .nx (EE x0 x2 x4 x5 (some (.int a)) (some (.int b)) x8 (some (fr n d)) (some (rat n d)) x11 (some (rat (n + d) d)) x13 x14 y) s := by
  have s3 : Sm 3 := Sm.n (by decide)
  have m1 := mulD_of s3 hb s
  have m2 := mulD_of s3 ha s
  have e1 := eq_rr L n d n d s
  have e2 := eq_rr L n d (n + d) d s
  have z : ¬ (n = n + d ∧ d = d) := by omega
  rw [decide_eq_false z] at e2
  rw [decide_eq_true ⟨rfl, rfl⟩] at e1
  simp [-mulD, insS, sel_eq_op_Ratio, mix_Ratiodd_initdd_k0_bottom_top, m1, m2, h3, hs, e1, e2]
theorem ev_a9 (hn : n.natAbs < 2 ^ 200) (hd : d.natAbs < 2 ^ 200) :
    A9 L (EE x0 x2 x4 x5 (some (.int a)) x7 x8 (some (fr n d)) (some (rat n d)) (some (rat a 1)) x12 x13 x14 y) s = .nx (EE x0 x2 x4 x5 (some (.int a)) x7 x8 (some (fr n d)) (some (rat n d)) (some (rat a 1)) x12 x13 x14 y) s := by
  have e1 := ev_ltext L hn hd s
  have t1 : biT "str" = true := by decide
  have t2 : biT "int" = true := by decide
  have t3 : biT "tuple" = true := by decide
  simp [insS, tyD, t1, t2, t3, sel_eq_op_Ratio, e1, eq_rs, eq_ri, eq_rt]
end
end Row

namespace Row
open PySem PySem.Spec PyProof.Rows L2 Dq TL
theorem ev_turn (L : Nat) (hL : Lb ≤ L) (h40 : 40 ≤ L) (k : Nat) (x0 x2 x4 x5 x6 x7 x8 x9 x10 x11 x12 x13 x14 y : Option DV) (s : Sto) (h : BagOk [] k s) (hk : k < 2 ^ 56) :
    ∃ y6 y7 y8 y9 y10 y11 y12 s', lturn L (EE x0 x2 x4 x5 x6 x7 x8 x9 x10 x11 x12 x13 x14 y) s = .nx (EE x0 x2 x4 x5 y6 y7 y8 y9 y10 y11 y12 x13 x14 y) s' ∧ BagOk [] (k + 6) s' := by
  obtain ⟨a, s1, e1, ha, b1⟩ := ev_a1 L x0 x2 x4 x5 x6 x7 x8 x9 x10 x11 x12 x13 x14 y s k h (by omega)
  obtain ⟨b, s2, e2, hb, hbn, b2⟩ := ev_a2 L x0 x2 x4 x5 (some (.int a)) x7 x8 x9 x10 x11 x12 x13 x14 y s1 (k + 3) b1 (by omega)
  have sa := s29 ha
  have sb := s29 hbn
  obtain ⟨n, d, f, ef, em⟩ := both L hL a b hb sb
  have hn := n200 f.n ha
  have hd := n200 f.d hbn
  have d0 : d ≠ 0 := by have := f.p; omega
  have hp : ∀ s, makeD false 4 (m_Ratiodd_initdd L) [.int a, .int 1] s = .ok (rat a 1) s := fun s => same_r L (by decide) (Sm.n (by decide)) ⟨by decide, by simp, rfl, Nat.le_refl _, Nat.le_refl _⟩ s
  have hf : ∀ s, makeD false 4 (m_Ratiodd_initdd L) [.int (n + d), .int d] s = .ok (rat (n + d) d) s := fun s => same_r L d0 (Sm.of hd) ⟨f.p, by have := f.g; simpa using this, rfl, Nat.le_refl _, Nat.le_refl _⟩ s
  have hs : ∀ s, makeD false 4 (m_Ratiodd_initdd L) [.int n, .int d] s = .ok (rat n d) s := fun s => same_r L d0 (Sm.of hd) ⟨f.p, f.g, rfl, Nat.le_refl _, Nat.le_refl _⟩ s
  have s3b : Sm (3 * b) := Sm.of (k := 200) (Nat.lt_of_le_of_lt (by have tz : T29.natAbs = 100000000000000000000000000000 := by decide
                                                                    rw [tz] at hbn; omega : (3 * b).natAbs ≤ 300000000000000000000000000000) (by decide))
  have h3 : ∀ s, makeD false 4 (m_Ratiodd_initdd L) [.int (3 * a), .int (3 * b)] s = .ok (rat n d) s := fun s => same_r L (by omega) s3b ⟨f.p, f.g, by have := f.e; grind, by have := f.n; omega, by have := f.d; omega⟩ s
  refine ⟨some (.int a), some (.int b), some (fnd n d), some (fr n d), some (rat n d), some (rat a 1), some (rat (n + d) d), s2, ?_, b2⟩
  refine (seq_nx e1).trans ?_
  refine (seq_nx e2).trans ?_
  refine (seq_nx (ev_a3 L x0 x2 x4 x5 x8 x9 x10 x11 x12 x13 x14 y s2 ef em)).trans ?_
  refine (seq_nx (ev_a4 L x0 x2 x4 x5 _ _ x8 _ x11 x12 x13 x14 y s2 h40 hn hd)).trans ?_
  refine (seq_nx (ev_a5 L x0 x2 x4 x5 _ _ _ x11 x12 x13 x14 y s2 hn hd)).trans ?_
  refine (seq_nx (ev_a6 L x0 x2 x4 x5 _ _ _ x11 x12 x13 x14 y s2 hp hf)).trans ?_
  refine (seq_nx (ev_a7 L x0 x2 x4 x5 _ _ _ _ _ x13 x14 y s2)).trans ?_
  refine (seq_nx (ev_a8 L x0 x2 x4 x5 _ _ x13 x14 y s2 h3 sa sb hs f.p)).trans ?_
  exact ev_a9 L x0 x2 x4 x5 _ _ _ x13 x14 y s2 hn hd
theorem ev_turns (L : Nat) (hL : Lb ≤ L) (h40 : 40 ≤ L) : ∀ (xs : List DV) (k : Nat) (x0 x2 x4 x5 x6 x7 x8 x9 x10 x11 x12 x13 x14 y : Option DV) (s : Sto), BagOk [] k s → k + 6 * xs.length < 2 ^ 55 →
    ∃ y2 y6 y7 y8 y9 y10 y11 y12 s' k', forR (turn (tN 2) (lturn L)) xs (EE x0 x2 x4 x5 x6 x7 x8 x9 x10 x11 x12 x13 x14 y) s = .nx (EE x0 y2 x4 x5 y6 y7 y8 y9 y10 y11 y12 x13 x14 y) s' ∧ BagOk [] k' s' ∧ k' ≤ k + 6 * xs.length
  | [], k, _, _, _, _, _, _, _, _, _, _, _, _, _, _, s, h, _ => ⟨_, _, _, _, _, _, _, _, _, _, rfl, h, by simp⟩
  | x :: xs, k, x0, x2, x4, x5, x6, x7, x8, x9, x10, x11, x12, x13, x14, y, s, h, hk => by
    rw [List.length_cons] at hk
    obtain ⟨y6, y7, y8, y9, y10, y11, y12, s', e, b⟩ := ev_turn L hL h40 k x0 (some x) x4 x5 x6 x7 x8 x9 x10 x11 x12 x13 x14 y s h (by omega)
    obtain ⟨z2, z6, z7, z8, z9, z10, z11, z12, s2, k', e2, b2, hk'⟩ := ev_turns L hL h40 xs (k + 6) x0 (some x) x4 x5 y6 y7 y8 y9 y10 y11 y12 x13 x14 y s' b (by omega)
    refine ⟨z2, z6, z7, z8, z9, z10, z11, z12, s2, k', ?_, b2, by rw [List.length_cons]; omega⟩
    rw [forR]
    have : turn (tN 2) (lturn L) x (EE x0 x2 x4 x5 x6 x7 x8 x9 x10 x11 x12 x13 x14 y) s = .nx (EE x0 (some x) x4 x5 y6 y7 y8 y9 y10 y11 y12 x13 x14 y) s' := e
    rw [this]
    exact e2
theorem law_rt (L : Nat) (hL : Lb ≤ L) (h40 : 40 ≤ L) (ns : List Int) (h : ns.length ≤ 63) : ∃ s, b_law L [some (.wl (ns.map DV.int)), none, none, none, none, none, none, none, none, none, none, none, none, none, none] [] = .rt (.bl true) s := by
  obtain ⟨s0, e0, b0⟩ := ev_start L ns h
  obtain ⟨y2, y6, y7, y8, y9, y10, y11, y12, s1, k1, e1, b1, hk1⟩ := ev_turns L hL h40 (rangeI 0 6) 0 (some (.wl (ns.map DV.int))) none none none none none none none none none none none none none s0 b0 (by simp [rangeI])
  have hk : k1 < 2 ^ 59 := by
    have : (rangeI 0 6).length = 6 := by decide
    rw [this] at hk1
    omega
  obtain ⟨d, s2, e2, o, b2⟩ := ev_b34 L (some (.wl (ns.map DV.int))) y2 none none y6 y7 y8 y9 y10 y11 y12 none none s1 k1 b1 hk
  refine ⟨s2, ?_⟩
  unfold b_law
  refine (seq_nx (ρ' := EE (some (.wl (ns.map DV.int))) none none none none none none none none none none none none none) (s' := s0) (by simp [e0])).trans ?_
  refine (seq_nx (ρ' := EE (some (.wl (ns.map DV.int))) y2 none none y6 y7 y8 y9 y10 y11 y12 none none none) (s' := s1) ?_).trans ?_
  · rw [gForR]
    have r : rng1 [.int 6] = some (0, 6) := by decide
    simp only [Dq.gCons, gC, Dq.gNil, R.bind_ok, R.toS_ok, r]
    exact e1
  · have fs := b2.free
    have tl : (gSeq (B5 L) (gSeq (B6 L) (gSeq (B7 L) (B8 L)))) (EE (some (.wl (ns.map DV.int))) y2 none none y6 y7 y8 y9 y10 y11 y12 none none (some d)) s2 = .rt (.bl true) s2 := by
      rcases o with o | rfl
      · exact tail_odd L _ _ _ _ _ _ _ _ _ _ _ _ _ d s2 o fs
      · exact tail_0 L _ _ _ _ _ _ _ _ _ _ _ _ _ s2 fs
    have e2 : (B3 L (EE (some (.wl (ns.map DV.int))) y2 none none y6 y7 y8 y9 y10 y11 y12 none none none) s1).seq (B4 L) = .nx (EE (some (.wl (ns.map DV.int))) y2 none none y6 y7 y8 y9 y10 y11 y12 none none (some d)) s2 := e2
    show (B3 L _ s1).seq (gSeq (B4 L) (gSeq (B5 L) (gSeq (B6 L) (gSeq (B7 L) (B8 L))))) = _
    cases e3 : B3 L (EE (some (.wl (ns.map DV.int))) y2 none none y6 y7 y8 y9 y10 y11 y12 none none none) s1 with
    | nx ρ' s' =>
      rw [e3] at e2
      have e2 : B4 L ρ' s' = _ := e2
      show (B4 L ρ' s').seq _ = _
      rw [e2]
      exact tl
    | rt d s => rw [e3] at e2; cases e2
    | bk ρ s => rw [e3] at e2; cases e2
    | ct ρ s => rw [e3] at e2; cases e2
    | exc c ks xs ρ s => rw [e3] at e2; cases e2
    | bad => rw [e3] at e2; cases e2
def Lm : Nat := Lb
theorem math (ns : List Int) (h : ns.length ≤ 63) : ∃ s, m_law Lm [.wl (ns.map DV.int)] [] = .ok (.bl true) s := by
  obtain ⟨s, e⟩ := law_rt Lb (Nat.le_refl _) (by decide +kernel) ns h
  obtain ⟨t, e2⟩ := rt_bl true [] s
  have er : Dq.run 15 1 (b_law Lb) [.wl (ns.map DV.int)] [] = .ok (.bl true) t := by
    show RS.fin [] (b_law Lb [some (.wl (ns.map DV.int)), none, none, none, none, none, none, none, none, none, none, none, none, none, none] []) = _
    rw [e]
    exact e2
  refine ⟨[], ?_⟩
  show runB 15 1 (b_law Lb) [.wl (ns.map DV.int)] [] = _
  unfold runB
  rw [er]
end Row

namespace Row
open PySem PySem.Spec PyProof.Rows L2 Dq
theorem law_sp {K : PySem.W.Frag} (H : Hp) (a : Addr) (ns : List Int) (hl : ns.length ≤ 63) (hT : H (lawP K) = some (.tbl #[])) (hS : SqL K H a (ns.map V.int)) : spD (pg0 K) We0 1 (m_law Lm) [.ref a] H (fun v _ => v = .bl true) fun _ _ _ => False := by
  obtain ⟨s, e⟩ := math ns hl
  exact Dq.law_spT (tabs_nil hT) hS e
end Row
open PySem PySem.W PySem.Calls PyProof.Rows in
set_option maxRecDepth 100000 in
set_option maxHeartbeats 0 in
theorem PySem.Challenge.cw_gustfloor_k01_ratios_made_holds : PySem.Challenge.rw_gustfloor_k01_ratios_made.Holds := by
  w_on; o_law
  refine HandSHeadRun.head_imp (r := OpenLaw.row PySem.Challenge.rw_gustfloor_k01_ratios_made) (q := view (OpenLaw.row PySem.Challenge.rw_gustfloor_k01_ratios_made).prog [0, 28]) (H := Row.hk) (ob := Row.ob) (M := 8000) (loose := Row.names) (d := HandSHeadRun.topDef (OpenLaw.row PySem.Challenge.rw_gustfloor_k01_ratios_made).prog 28) (kwd := []) Row.ob_eq Row.run_
    (by kernel_rfl) (by kernel_rfl) (by kernel_rfl) (by rfl) (by first | assumption | decide +kernel) (by decide +kernel) ⟨rfl, rfl, rfl, rfl, rfl, by decide +kernel⟩ ?hw ?hc
  case hw => w_witness2
  case hc =>
    refine LamX.walk_ofTsE (l := PySem.Challenge.rw_gustfloor_k01_ratios_made) (n := 63) (k := 23) (x := "_law_script") (CX := fun _ => L2.CX0) rfl (by decide) (by kernel_rfl) ⟨rfl, by decide, by decide⟩ ?F (fun _ _ _ _ _ z => z)
    intro w mg fa h Y G hmg0
    obtain ⟨K, KX, c, t⟩ := Y
    obtain ⟨t1, t2, t3, t4⟩ := Dq.tabB_ok KX t
    have hmg : mg ("law" : PySem.Str) = some (.ref fa) := by
      have e : (HandSHeadRun.topDef (OpenLaw.row PySem.Challenge.rw_gustfloor_k01_ratios_made).prog 28).name = ("law" : PySem.Str) := by kernel_rfl
      rw [← e]
      exact hmg0
    obtain ⟨fd0, hb, hF⟩ := Row.law_end (P := PySem.Challenge.rw_gustfloor_k01_ratios_made.prog) (w := w) KX G hmg c Row.Lm (by decide +kernel) (by decide +kernel) t1
    refine ⟨K, KX, fd0, [(Dq.lawC K, Dq.lawP K)], Dq.spD (Row.pg0 K) Dq.We0 1 (Row.m_law Row.Lm), fun y hy => ?_, fun y hy => ?_, fun y hy => ?_, hb, fun H a ns hl _ hT hS => Row.law_sp H a ns hl (hT _ (List.mem_singleton.mpr rfl)) hS, fun base kb nb tb => hF base kb nb (tb _ (List.mem_singleton.mpr rfl))⟩
    · rw [List.mem_singleton.mp hy]; exact t4
    · rw [List.mem_singleton.mp hy]; exact t3
    · rw [List.mem_singleton.mp hy]; exact t2

