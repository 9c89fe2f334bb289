import PyProof.Rows.All
import Wide.All
import OpenK.AllK
import Wide.FinOn
import KE.RegKIsAll
import HandS.ForExc
import HandS.Wide
import HandS.WideBits
import HandS.IsInst
import HandS.ExcIs
import HandS.Codes
import HandS.StrMore
import HandS.Comp
import HandS.Iter
import HandS.Text
import HandS.Dict
import HandS.More
import HandS.DictEq
import KE.KeyNested
import HandS.TupLen
import HandS.TupAny
import HandS.TupMul
import HandS.Sort
import HandS.WordsDict
import KE.DataMinMax
import HandS.Exc
import HandS.ExcOwn
import HandS.WordsExc
import HandS.Gcd
import HandS.CallLocal
import HandS.DeepEq
import HandS.Zip
import HandS.Star
import KE.LtData
import PyProof.StrOps2
import HandS.Style
import HandS.Conv
import HandS.NoneIn
import HandS.SetBool
import HandS.Strs
import HandS.SortInts
import HandS.Deep
import PyProof.P3In
import KE.KDictKeyed
import KE.SortData
import KE.SortCalls
import KE.KDictSum
import HandS.DictComp
import HandS.TryMany
import HandS.SetTxt0
import HandS.SetKeys
import PySem.Challenge.RW_odds_k16_parts_of_statements
set_option Elab.async false
set_option linter.all false
set_option maxRecDepth 100000
set_option maxHeartbeats 4000000
namespace O
open PySem L2
/-! ## data: what a program computes with, without addresses -/
inductive D where
  | non | bl (b : Bool) | int (i : Int) | str (x : Str) | tup (xs : List D) | obj (n : Nat) | fn (x : Str) | ty (n : String) | raw (a : Addr) | kl (xs : List D) | tk (ks : List Key)
inductive Ob where
  | lst (xs : List D) | dk (kvs : List (Key × D)) | dt (kvs : List (List Key × D)) | ins (C : Str) (fs : List (Str × D)) | dn (kvs : List (D × D)) | hk (kvs : List (Key × D))
abbrev Sto := List Ob
abbrev Env := List (Option D)
inductive Res (α : Type) where
  | ok (a : α) (S : Sto) | exc (c : Str) (fs : List (Str × D)) (S : Sto) | bad
inductive RS where
  | nx (ρ : Env) (S : Sto) | rt (d : D) (S : Sto) | bk (ρ : Env) (S : Sto) | ct (ρ : Env) (S : Sto) | exc (c : Str) (fs : List (Str × D)) (ρ : Env) (S : Sto) | bad
def Res.bind {α β : Type} (r : Res α) (k : α → Sto → Res β) : Res β := match r with
  | .ok a S => k a S
  | .exc c fs S => .exc c fs S
  | .bad => .bad
theorem Res.bind_ok {α β : Type} (a : α) (S : Sto) (k : α → Sto → Res β) : (Res.ok a S).bind k = k a S := rfl
theorem Res.bind_exc {α β : Type} (c : Str) (fs : List (Str × D)) (S : Sto) (k : α → Sto → Res β) : (Res.exc c fs S).bind k = .exc c fs S := rfl
abbrev DE := Env → Sto → Res D
abbrev DT := Env → Sto → Res Bool
abbrev DA := Env → Sto → Res (List D)
abbrev DS := Env → Sto → RS
abbrev DF := List D → Sto → Res D
/-- a list that nobody changes -/
def SqF (K : PySem.W.Frag) (H : Hp) (a : Addr) (xs : List V) : Prop :=
  (∃ ob, H a = some (.frz ob (.lst xs))) ∨
    ∃ (o : Obj) (is : Array Value) (n : Nat), K.lookup a = some o ∧ o.cls = .type "list" ∧ o.dict = none ∧ o.data = .seq is n ∧ is.size ≤ sizeLine ∧ Vals xs is.toList
theorem SqF.L {K : PySem.W.Frag} {H : Hp} {a : Addr} {xs : List V} (h : SqF K H a xs) : SqL K H a xs := by
  rcases h with ⟨ob, h⟩ | h
  · exact .inl (.inr ⟨ob, h⟩)
  · exact .inr h
/-- the world: where each object of the store stands -/
structure Wo where
  m : Nat → Addr
  S : Sto
  H : Hp
section
variable (K : PySem.W.Frag) (mg : Str → Option Value)
mutual
def Rv (w : Wo) : D → V → Prop
  | .non, v => v = .non
  | .bl b, v => v = .bl b
  | .int i, v => v = .int i
  | .str x, v => v = .str x
  | .tup ds, v => ∃ a vs, v = .ref a ∧ SqT K w.H a vs ∧ Rvs w ds vs
  | .obj n, v => n < w.S.length ∧ v = .ref (w.m n)
  | .fn x, v => ∃ a, mg x = some (.ref a) ∧ v = .ref a
  | .ty n, v => v = .ty n
  | .raw a, v => v = .ref a
  | .kl ds, v => ∃ a vs, v = .ref a ∧ SqF K w.H a vs ∧ Rvs w ds vs
  | .tk ks, v => ∃ a, v = .ref a ∧ w.H a = some (.tup (ks.map kV))
def Rvs (w : Wo) : List D → List V → Prop
  | [], vs => vs = []
  | d :: ds, vs => ∃ v r, vs = v :: r ∧ Rv w d v ∧ Rvs w ds r
end
/-- a dict's pairs -/
def Rkv {κ : Type} (w : Wo) : List (κ × D) → List (κ × V) → Prop
  | [], vs => vs = []
  | p :: ps, vs => ∃ v r, vs = (p.1, v) :: r ∧ Rv K mg w p.2 v ∧ Rkv w ps r
/-- an object's fields -/
def Rfs (w : Wo) : List (Str × D) → List (Str × V) → Prop
  | [], vs => vs = []
  | p :: ps, vs => ∃ v r, vs = (p.1, v) :: r ∧ Rv K mg w p.2 v ∧ Rfs w ps r
/-- keys of numbers and truth values -/
def nkI : D → Option NestedKey
  | .bl b => some (.num (if b = true then 1 else 0))
  | .int i => some (.num i)
  | _ => none
def nkL : List D → Option (List NestedKey)
  | [] => some []
  | d :: r => match nkI d, nkL r with
    | some k, some ks => some (k :: ks)
    | _, _ => none
def nkT : D → Option NestedKey
  | .tup ds => (nkL ds).map NestedKey.tup
  | _ => none
def DNφ (a : Addr) (xs : List (NestedKey × Addr × Value)) (h : Heap) : Prop := ∃ o es ep, h.get? a = some o ∧ o.ExactDict ∧ o.data = .dict es ep ∧ ∀ wd : World, es.toList = xs.map fun x => ⟨x.1.hash wd, .ref x.2.1, x.2.2⟩
def Rdn (w : Wo) : List (D × D) → List (NestedKey × Addr × Value) → Prop
  | [], xs => xs = []
  | p :: ps, xs => ∃ k b u r, xs = (k, b, u) :: r ∧ nkT p.1 = some k ∧ Rv K mg w p.1 (.ref b) ∧ (∃ v, Rv K mg w p.2 v ∧ RelV v u) ∧ Rdn w ps r
/-- the object at a is o -/
def Rob (w : Wo) (a : Addr) : Ob → Prop
  | .lst ds => ∃ vs, w.H a = some (.lst vs) ∧ Rvs K mg w ds vs
  | .dk kvs => ∃ vs, w.H a = some (.dK vs) ∧ Rkv K mg w kvs vs
  | .dt kvs => ∃ vs, w.H a = some (.dT vs) ∧ Rkv K mg w kvs vs
  | .ins C fs => ∃ Ca dx vs, mg C = some (.ref Ca) ∧ w.H a = some (.ins Ca dx vs) ∧ Rfs K mg w fs vs
  | .dn kvs => ∃ xs, w.H a = some (.ext (DNφ a xs)) ∧ (a == sysModules) = false ∧ xs.length ≤ sizeLine ∧ (xs.map (·.1)).Nodup ∧ Rdn K mg w kvs xs
  | .hk kvs => ∃ o vs, w.H a = some (.frz o (.dK vs)) ∧ Rkv K mg w kvs vs
structure Wo.Ok (w : Wo) : Prop where
  inj : ∀ i j, i < w.S.length → j < w.S.length → w.m i = w.m j → i = j
  has : ∀ i o, w.S[i]? = some o → Rob K mg w (w.m i) o
end
/-- an object that is held still -/
def heldO : Option Ob → Bool
  | some (.hk _) => true
  | _ => false
structure Wo.Le (w w' : Wo) : Prop where
  len : w.S.length ≤ w'.S.length
  ag : ∀ i, i < w.S.length → w'.m i = w.m i
  fr : ∀ a o, w.H a = some o → (∀ i, i < w.S.length → w.m i = a → heldO w.S[i]? = true) → w'.H a = some o
  nw : ∀ i, w.S.length ≤ i → i < w'.S.length → w.H (w'.m i) = none
  hd : ∀ i, i < w.S.length → heldO w.S[i]? = true → w'.S[i]? = w.S[i]?
theorem Wo.Le.fr' {w w' : Wo} (h : w.Le w') (a : Addr) (o : HO) (e : w.H a = some o) (n : ∀ i, i < w.S.length → w.m i ≠ a) : w'.H a = some o := h.fr a o e fun i hi z => absurd z (n i hi)
theorem Wo.Le.refl (w : Wo) : w.Le w := ⟨Nat.le_refl _, fun _ _ => rfl, fun _ _ h _ => h, fun i h h' => absurd (Nat.lt_of_lt_of_le h' h) (Nat.lt_irrefl _), fun _ _ _ => rfl⟩
section
variable {K : PySem.W.Frag} {mg : Str → Option Value}
/-- an object of the store is tracked, and is no tuple -/
theorem Wo.Ok.at {w : Wo} (ok : w.Ok K mg) {i : Nat} (h : i < w.S.length) : ∃ o, w.H (w.m i) = some o ∧ (∀ xs, o ≠ .tup xs) ∧ (∀ ob u, o ≠ .frz ob (.tup u)) ∧ ∀ ob u, o ≠ .frz ob (.lst u) := by
  have h2 := ok.has i _ (List.getElem?_eq_getElem h)
  cases e : w.S[i] with
  | lst ds =>
    rw [e] at h2
    obtain ⟨vs, h3, _⟩ := h2
    exact ⟨_, h3, (by intro _ z; cases z), (by intro _ _ z; cases z), (by intro _ _ z; cases z)⟩
  | dk kvs =>
    rw [e] at h2
    obtain ⟨vs, h3, _⟩ := h2
    exact ⟨_, h3, (by intro _ z; cases z), (by intro _ _ z; cases z), (by intro _ _ z; cases z)⟩
  | dt kvs =>
    rw [e] at h2
    obtain ⟨vs, h3, _⟩ := h2
    exact ⟨_, h3, (by intro _ z; cases z), (by intro _ _ z; cases z), (by intro _ _ z; cases z)⟩
  | ins C fs =>
    rw [e] at h2
    obtain ⟨Ca, dx, vs, _, h3, _⟩ := h2
    exact ⟨_, h3, (by intro _ z; cases z), (by intro _ _ z; cases z), (by intro _ _ z; cases z)⟩
  | dn kvs =>
    rw [e] at h2
    obtain ⟨xs, h3, _⟩ := h2
    exact ⟨_, h3, (by intro _ z; cases z), (by intro _ _ z; cases z), (by intro _ _ z; cases z)⟩
  | hk kvs =>
    rw [e] at h2
    obtain ⟨o, vs, h3, _⟩ := h2
    exact ⟨_, h3, (by intro _ z; cases z), (by intro _ _ z; cases z), (by intro _ _ z; cases z)⟩
theorem Wo.Le.trans {a b c : Wo} (okb : b.Ok K mg) (h : a.Le b) (k : b.Le c) : a.Le c := by
  refine ⟨Nat.le_trans h.len k.len, fun i hi => (k.ag i (Nat.lt_of_lt_of_le hi h.len)).trans (h.ag i hi), fun x o e n => k.fr x o (h.fr x o e n) fun i hi => ?_, fun i hi hi' => ?_, fun i hi z => (k.hd i (Nat.lt_of_lt_of_le hi h.len) (by rw [h.hd i hi z]; exact z)).trans (h.hd i hi z)⟩
  · by_cases hl : i < a.S.length
    · rw [h.ag i hl]
      intro z
      have y := n i hl z
      rw [h.hd i hl y]
      exact y
    · intro z
      have := h.nw i (Nat.le_of_not_lt hl) hi
      rw [z, e] at this
      cases this
  · by_cases hl : i < b.S.length
    · rw [k.ag i hl]
      exact h.nw i hi hl
    · have h1 := k.nw i (Nat.le_of_not_lt hl) hi'
      cases e : a.H (c.m i) with
      | none => rfl
      | some o =>
        by_cases ht : ∀ j, j < a.S.length → a.m j ≠ c.m i
        · rw [h.fr' _ _ e ht] at h1
          cases h1
        · have : ∃ j, j < a.S.length ∧ a.m j = c.m i := by
            refine Classical.byContradiction fun z => ht fun j hj e2 => z ⟨j, hj, e2⟩
          obtain ⟨j, hj, e2⟩ := this
          obtain ⟨o2, h2, _⟩ := okb.at (Nat.lt_of_lt_of_le hj h.len)
          rw [h.ag j hj, e2, h1] at h2
          cases h2
theorem Wo.Le.tup {w w' : Wo} (ok : w.Ok K mg) (h : w.Le w') {a : Addr} {xs : List V} (t : SqT K w.H a xs) : SqT K w'.H a xs := by
  rcases t with (t | ⟨o, t⟩) | t
  · refine .inl (.inl (h.fr' _ _ t fun i hi z => ?_))
    obtain ⟨o, h1, h2, _⟩ := ok.at hi
    rw [z, t] at h1
    exact h2 xs (Option.some.inj h1).symm
  · refine .inl (.inr ⟨o, h.fr' _ _ t fun i hi z => ?_⟩)
    obtain ⟨o2, h1, _, h2, _⟩ := ok.at hi
    rw [z, t] at h1
    exact h2 o _ (Option.some.inj h1).symm
  · exact .inr t
theorem Wo.Le.kl {w w' : Wo} (ok : w.Ok K mg) (h : w.Le w') {a : Addr} {xs : List V} (t : SqF K w.H a xs) : SqF K w'.H a xs := by
  rcases t with ⟨o, t⟩ | t
  · refine .inl ⟨o, h.fr' _ _ t fun i hi z => ?_⟩
    obtain ⟨o2, h1, _, _, h2⟩ := ok.at hi
    rw [z, t] at h1
    exact h2 o _ (Option.some.inj h1).symm
  · exact .inr t
mutual
theorem Rv.up {w w' : Wo} (ok : w.Ok K mg) (h : w.Le w') : ∀ (d : D) (v : V), Rv K mg w d v → Rv K mg w' d v
  | .non, v, r => by rw [Rv] at r ⊢; exact r
  | .bl b, v, r => by rw [Rv] at r ⊢; exact r
  | .int i, v, r => by rw [Rv] at r ⊢; exact r
  | .str x, v, r => by rw [Rv] at r ⊢; exact r
  | .tup ds, v, r => by
    rw [Rv] at r ⊢
    obtain ⟨a, vs, e, t, q⟩ := r
    exact ⟨a, vs, e, h.tup ok t, Rvs.up ok h ds vs q⟩
  | .obj n, v, r => by
    rw [Rv] at r ⊢
    exact ⟨Nat.lt_of_lt_of_le r.1 h.len, by rw [h.ag n r.1]; exact r.2⟩
  | .fn x, v, r => by rw [Rv] at r ⊢; exact r
  | .ty n, v, r => by rw [Rv] at r ⊢; exact r
  | .raw n, v, r => by rw [Rv] at r ⊢; exact r
  | .kl ds, v, r => by
    rw [Rv] at r ⊢
    obtain ⟨a, vs, e, t, q⟩ := r
    exact ⟨a, vs, e, h.kl ok t, Rvs.up ok h ds vs q⟩
  | .tk ks, v, r => by
    rw [Rv] at r ⊢
    obtain ⟨a, e, t⟩ := r
    refine ⟨a, e, h.fr' _ _ t fun i hi z => ?_⟩
    obtain ⟨o, h1, h2, _⟩ := ok.at hi
    rw [z, t] at h1
    exact h2 _ (Option.some.inj h1).symm
theorem Rvs.up {w w' : Wo} (ok : w.Ok K mg) (h : w.Le w') : ∀ (ds : List D) (vs : List V), Rvs K mg w ds vs → Rvs K mg w' ds vs
  | [], vs, r => by rw [Rvs] at r ⊢; exact r
  | d :: ds, vs, r => by
    rw [Rvs] at r ⊢
    obtain ⟨v, q, e, r1, r2⟩ := r
    exact ⟨v, q, e, Rv.up ok h d v r1, Rvs.up ok h ds q r2⟩
end
theorem Rkv.up {κ : Type} {w w' : Wo} (ok : w.Ok K mg) (h : w.Le w') : ∀ {ps : List (κ × D)} {vs : List (κ × V)}, Rkv K mg w ps vs → Rkv K mg w' ps vs
  | [], vs, r => r
  | p :: ps, vs, r => by
    obtain ⟨v, q, e, r1, r2⟩ := r
    exact ⟨v, q, e, Rv.up ok h _ v r1, Rkv.up ok h r2⟩
theorem Rfs.up {w w' : Wo} (ok : w.Ok K mg) (h : w.Le w') : ∀ {ps : List (Str × D)} {vs : List (Str × V)}, Rfs K mg w ps vs → Rfs K mg w' ps vs
  | [], vs, r => r
  | p :: ps, vs, r => by
    obtain ⟨v, q, e, r1, r2⟩ := r
    exact ⟨v, q, e, Rv.up ok h _ v r1, Rfs.up ok h r2⟩
theorem Rdn.mono {w w' : Wo} (h : ∀ d v, Rv K mg w d v → Rv K mg w' d v) : ∀ {ps : List (D × D)} {xs : List (NestedKey × Addr × Value)}, Rdn K mg w ps xs → Rdn K mg w' ps xs
  | [], xs, r => r
  | p :: ps, xs, r => by
    obtain ⟨k, b, u, r', e, e2, r1, ⟨v, r2, r3⟩, r4⟩ := r
    exact ⟨k, b, u, r', e, e2, h _ _ r1, ⟨v, h _ _ r2, r3⟩, Rdn.mono h r4⟩
/-- slots -/
def Rσ (K : PySem.W.Frag) (mg : Str → Option Value) (w : Wo) : Env → St → Prop
  | [], σ => σ = []
  | x :: ρ, σ => ∃ y τ, σ = y :: τ ∧ (match x with | none => True | some d => ∃ v, y = some v ∧ Rv K mg w d v) ∧ Rσ K mg w ρ τ
theorem Rσ.up {w w' : Wo} (ok : w.Ok K mg) (h : w.Le w') : ∀ {ρ : Env} {σ : St}, Rσ K mg w ρ σ → Rσ K mg w' ρ σ
  | [], σ, r => r
  | x :: ρ, σ, r => by
    obtain ⟨y, τ, e, r1, r2⟩ := r
    refine ⟨y, τ, e, ?_, Rσ.up ok h r2⟩
    cases x with
    | none => trivial
    | some d =>
      obtain ⟨v, e2, r3⟩ := r1
      exact ⟨v, e2, r3.up ok h _ _⟩
theorem Rσ.get {w : Wo} : ∀ {ρ : Env} {σ : St} {i : Nat} {d : D}, Rσ K mg w ρ σ → ρ[i]? = some (some d) → ∃ v, σ[i]? = some (some v) ∧ Rv K mg w d v
  | [], σ, i, d, r, e => by simp at e
  | x :: ρ, σ, 0, d, r, e => by
    obtain ⟨y, τ, e1, r1, r2⟩ := r
    have e : x = some d := Option.some.inj e
    subst e e1
    obtain ⟨v, e2, r3⟩ := r1
    exact ⟨v, by rw [e2]; rfl, r3⟩
  | x :: ρ, σ, i + 1, d, r, e => by
    obtain ⟨y, τ, e1, r1, r2⟩ := r
    subst e1
    exact Rσ.get (i := i) r2 e
theorem Rσ.set {w : Wo} {d : D} {v : V} (rv : Rv K mg w d v) : ∀ {ρ : Env} {σ : St} (i : Nat), Rσ K mg w ρ σ → Rσ K mg w (ρ.set i (some d)) (σ.set i (some v))
  | [], σ, i, r => by
    have e : σ = [] := r
    subst e
    exact r
  | x :: ρ, σ, 0, r => by
    obtain ⟨y, τ, e1, r1, r2⟩ := r
    subst e1
    exact ⟨some v, τ, rfl, ⟨v, rfl, rv⟩, r2⟩
  | x :: ρ, σ, i + 1, r => by
    obtain ⟨y, τ, e1, r1, r2⟩ := r
    subst e1
    exact ⟨y, _, rfl, r1, Rσ.set rv i r2⟩
theorem Rσ.setN {w : Wo} : ∀ {ρ : Env} {σ : St} (i : Nat) (z : Option V), Rσ K mg w ρ σ → Rσ K mg w (ρ.set i none) (σ.set i z)
  | [], σ, i, z, r => by
    have e : σ = [] := r
    subst e
    exact r
  | x :: ρ, σ, 0, z, r => by
    obtain ⟨y, τ, e1, r1, r2⟩ := r
    subst e1
    exact ⟨z, τ, rfl, trivial, r2⟩
  | x :: ρ, σ, i + 1, z, r => by
    obtain ⟨y, τ, e1, r1, r2⟩ := r
    subst e1
    exact ⟨y, _, rfl, r1, Rσ.setN i z r2⟩
theorem Rσ.len {w : Wo} : ∀ {ρ : Env} {σ : St}, Rσ K mg w ρ σ → σ.length = ρ.length
  | [], σ, r => by
    have e : σ = [] := r
    rw [e]
    rfl
  | x :: ρ, σ, r => by
    obtain ⟨y, τ, e1, r1, r2⟩ := r
    rw [e1, List.length_cons, List.length_cons, Rσ.len r2]
theorem Rvs.len {w : Wo} : ∀ {ds : List D} {vs : List V}, Rvs K mg w ds vs → vs.length = ds.length
  | [], vs, r => by
    rw [Rvs] at r
    rw [r]
    rfl
  | d :: ds, vs, r => by
    rw [Rvs] at r
    obtain ⟨v, q, e, _, r2⟩ := r
    rw [e, List.length_cons, List.length_cons, Rvs.len r2]
theorem Rvs.get {w : Wo} : ∀ {ds : List D} {vs : List V} {i : Nat} {d : D}, Rvs K mg w ds vs → ds[i]? = some d → ∃ v, vs[i]? = some v ∧ Rv K mg w d v
  | [], vs, i, d, r, e => by simp at e
  | x :: ds, vs, 0, d, r, e => by
    rw [Rvs] at r
    obtain ⟨v, q, e1, r1, r2⟩ := r
    have e : x = d := Option.some.inj e
    subst e e1
    exact ⟨v, rfl, r1⟩
  | x :: ds, vs, i + 1, d, r, e => by
    rw [Rvs] at r
    obtain ⟨v, q, e1, r1, r2⟩ := r
    subst e1
    exact Rvs.get (i := i) r2 e
theorem Rvs.get' {w : Wo} : ∀ {ds : List D} {vs : List V} {i : Nat} {v : V}, Rvs K mg w ds vs → vs[i]? = some v → ∃ d, ds[i]? = some d ∧ Rv K mg w d v
  | [], vs, i, d, r, e => by
    rw [Rvs] at r
    rw [r] at e
    simp at e
  | x :: ds, vs, 0, v, r, e => by
    rw [Rvs] at r
    obtain ⟨v2, q, e1, r1, r2⟩ := r
    rw [e1] at e
    have e : v2 = v := Option.some.inj e
    subst e
    exact ⟨x, rfl, r1⟩
  | x :: ds, vs, i + 1, d, r, e => by
    rw [Rvs] at r
    obtain ⟨v, q, e1, r1, r2⟩ := r
    rw [e1] at e
    exact Rvs.get' (i := i) r2 e
theorem Rvs.nil {w : Wo} : Rvs K mg w [] [] := by rw [Rvs]
theorem Rvs.cons {w : Wo} {d : D} {ds : List D} {v : V} {vs : List V} (h : Rv K mg w d v) (k : Rvs K mg w ds vs) : Rvs K mg w (d :: ds) (v :: vs) := by
  rw [Rvs]
  exact ⟨v, vs, rfl, h, k⟩
theorem Rvs.append {w : Wo} : ∀ {ds es : List D} {vs us : List V}, Rvs K mg w ds vs → Rvs K mg w es us → Rvs K mg w (ds ++ es) (vs ++ us)
  | [], es, vs, us, h, k => by
    rw [Rvs] at h
    rw [h]
    exact k
  | d :: ds, es, vs, us, h, k => by
    rw [Rvs] at h
    obtain ⟨v, q, e, r1, r2⟩ := h
    rw [e]
    exact Rvs.cons r1 (Rvs.append r2 k)
theorem Rvs.take {w : Wo} : ∀ {ds : List D} {vs : List V} (n : Nat), Rvs K mg w ds vs → Rvs K mg w (ds.take n) (vs.take n)
  | ds, vs, 0, h => by
    rw [List.take_zero, List.take_zero]
    exact Rvs.nil
  | [], vs, n + 1, h => by
    rw [Rvs] at h
    rw [h]
    exact Rvs.nil
  | d :: ds, vs, n + 1, h => by
    rw [Rvs] at h
    obtain ⟨v, q, e, r1, r2⟩ := h
    rw [e]
    exact Rvs.cons r1 (Rvs.take n r2)
theorem Rvs.drop {w : Wo} : ∀ {ds : List D} {vs : List V} (n : Nat), Rvs K mg w ds vs → Rvs K mg w (ds.drop n) (vs.drop n)
  | ds, vs, 0, h => h
  | [], vs, n + 1, h => by
    rw [Rvs] at h
    rw [h]
    exact Rvs.nil
  | d :: ds, vs, n + 1, h => by
    rw [Rvs] at h
    obtain ⟨v, q, e, r1, r2⟩ := h
    rw [e]
    exact Rvs.drop n r2
theorem Rvs.set {w : Wo} {d : D} {v : V} (hv : Rv K mg w d v) : ∀ {ds : List D} {vs : List V} (n : Nat), Rvs K mg w ds vs → Rvs K mg w (ds.set n d) (vs.set n v)
  | [], vs, n, h => by
    rw [Rvs] at h
    rw [h]
    exact Rvs.nil
  | x :: ds, vs, 0, h => by
    rw [Rvs] at h
    obtain ⟨v, q, e, r1, r2⟩ := h
    rw [e]
    exact Rvs.cons hv r2
  | x :: ds, vs, n + 1, h => by
    rw [Rvs] at h
    obtain ⟨v, q, e, r1, r2⟩ := h
    rw [e]
    exact Rvs.cons r1 (Rvs.set hv n r2)
/-! ## what is wanted of a result -/
section
variable {α β γ δ : Type} {w : Wo} {R : Wo → α → β → Prop} {R' : Wo → γ → δ → Prop} {Q : δ → Hp → Prop} {E : Str → List (Str × D) → Wo → Prop}
def Fin (K : PySem.W.Frag) (mg : Str → Option Value) (w : Wo) (R : Wo → α → β → Prop) (r : Res α) (Q : β → Hp → Prop) (E : Str → List (Str × D) → Wo → Prop) : Prop := match r with
  | .ok a S' => ∀ (w' : Wo) (b : β), w.Le w' → w'.Ok K mg → w'.S = S' → R w' a b → Q b w'.H
  | .exc c fs S' => ∀ w' : Wo, w.Le w' → w'.Ok K mg → w'.S = S' → E c fs w'
  | .bad => False
theorem Fin.up {r : Res α} {Q : β → Hp → Prop} {w' : Wo} (ok : w'.Ok K mg) (le : w.Le w') (h : Fin K mg w R r Q E) : Fin K mg w' R r Q E := by
  cases r with
  | ok a S' => exact fun w2 b l2 o2 e r => h w2 b (Wo.Le.trans ok le l2) o2 e r
  | exc c fs S' => exact fun w2 l2 o2 e => h w2 (Wo.Le.trans ok le l2) o2 e
  | bad => exact h
theorem Fin.bind {r : Res α} {k : α → Sto → Res γ} {P : β → Hp → Prop} (h : Fin K mg w R' (r.bind k) Q E)
    (hk : ∀ (w' : Wo) (a : α) (b : β), w.Le w' → w'.Ok K mg → R w' a b → Fin K mg w' R' (k a w'.S) Q E → P b w'.H) : Fin K mg w R r P E := by
  cases r with
  | ok a S' =>
    intro w' b le ok e hR
    refine hk w' a b le ok hR ?_
    rw [e]
    exact Fin.up ok le h
  | exc c fs S' => exact h
  | bad => exact h
theorem Fin.now {a : α} {b : β} {Q : β → Hp → Prop} (h : Fin K mg w R (.ok a w.S) Q E) (ok : w.Ok K mg) (r : R w a b) : Q b w.H := h w b (Wo.Le.refl w) ok rfl r
end
/-- no relation between a bool and itself but that it is the same -/
def Rb (_ : Wo) (a b : Bool) : Prop := a = b
/-- the exception's own dict -/
def Rxd (K : PySem.W.Frag) (mg : Str → Option Value) (w : Wo) : List (Str × D) → Option Addr → Prop
  | [], d => d = none
  | fs, d => ∃ a vs, d = some a ∧ w.H a = some (.xd vs) ∧ Rfs K mg w fs vs
/-- a wish, over data -/
def XW (K : PySem.W.Frag) (mg : Str → Option Value) (W : WX) (σ : St) : Str → List (Str × D) → Wo → Prop := fun c fs w => ∀ C d, mg c = some (.ref C) → Rxd K mg w fs d → W (.ref C) d σ w.H
def LE (K : PySem.W.Frag) (mg : Str → Option Value) (W : WX) (de : DE) : TE := fun σ H Q => ∃ w : Wo, w.Ok K mg ∧ w.H = H ∧ ∃ ρ, Rσ K mg w ρ σ ∧ Fin K mg w (Rv K mg) (de ρ w.S) Q (XW K mg W σ)
def LT (K : PySem.W.Frag) (mg : Str → Option Value) (W : WX) (de : DT) : TT := fun σ H Q => ∃ w : Wo, w.Ok K mg ∧ w.H = H ∧ ∃ ρ, Rσ K mg w ρ σ ∧ Fin K mg w Rb (de ρ w.S) Q (XW K mg W σ)
def LA (K : PySem.W.Frag) (mg : Str → Option Value) (W : WX) (de : DA) : TA := fun σ H Q => ∃ w : Wo, w.Ok K mg ∧ w.H = H ∧ ∃ ρ, Rσ K mg w ρ σ ∧ Fin K mg w (Rvs K mg) (de ρ w.S) Q (XW K mg W σ)
def FinS (K : PySem.W.Frag) (mg : Str → Option Value) (W : WX) (w : Wo) (r : RS) (D' : Ends) : Prop := match r with
  | .nx ρ S => ∀ (w' : Wo) σ, w.Le w' → w'.Ok K mg → w'.S = S → Rσ K mg w' ρ σ → D'.nx σ w'.H
  | .rt d S => ∀ (w' : Wo) v, w.Le w' → w'.Ok K mg → w'.S = S → Rv K mg w' d v → D'.rt v w'.H
  | .bk ρ S => ∀ (w' : Wo) σ, w.Le w' → w'.Ok K mg → w'.S = S → Rσ K mg w' ρ σ → D'.bk σ w'.H
  | .ct ρ S => ∀ (w' : Wo) σ, w.Le w' → w'.Ok K mg → w'.S = S → Rσ K mg w' ρ σ → D'.ct σ w'.H
  | .exc c fs ρ S => ∀ (w' : Wo) σ, w.Le w' → w'.Ok K mg → w'.S = S → Rσ K mg w' ρ σ → XW K mg W σ c fs w'
  | .bad => False
theorem FinS.up {W : WX} {w w' : Wo} {r : RS} {D' : Ends} (ok : w'.Ok K mg) (le : w.Le w') (h : FinS K mg W w r D') : FinS K mg W w' r D' := by
  cases r with
  | nx ρ S => exact fun w2 b l2 o2 e r => h w2 b (Wo.Le.trans ok le l2) o2 e r
  | rt ρ S => exact fun w2 b l2 o2 e r => h w2 b (Wo.Le.trans ok le l2) o2 e r
  | bk ρ S => exact fun w2 b l2 o2 e r => h w2 b (Wo.Le.trans ok le l2) o2 e r
  | ct ρ S => exact fun w2 b l2 o2 e r => h w2 b (Wo.Le.trans ok le l2) o2 e r
  | exc c fs ρ S => exact fun w2 b l2 o2 e r => h w2 b (Wo.Le.trans ok le l2) o2 e r
  | bad => exact h
def LS (K : PySem.W.Frag) (mg : Str → Option Value) (W : WX) (ds : DS) : TS := fun D' σ H => ∃ w : Wo, w.Ok K mg ∧ w.H = H ∧ ∃ ρ, Rσ K mg w ρ σ ∧ FinS K mg W w (ds ρ w.S) D'
/-! ## weakening -/
theorem _root_.L2.PE.imp {X : Cx} {e : Expr} {t t' : TE} (h : PE X e t) (k : ∀ σ H Q, t' σ H Q → t σ H Q) : PE X e t' := ⟨fun pins s σ H Q I ht => h.run pins s σ H Q I (k _ _ _ ht)⟩
theorem _root_.L2.PT.imp {X : Cx} {e : Expr} {t t' : TT} (h : PT X e t) (k : ∀ σ H Q, t' σ H Q → t σ H Q) : PT X e t' := ⟨fun pins s σ H Q I ht => h.run pins s σ H Q I (k _ _ _ ht)⟩
theorem _root_.L2.PW.imp {X : Cx} {e : Expr} {t t' : TT} (h : PW X e t) (k : ∀ σ H Q, t' σ H Q → t σ H Q) : PW X e t' := ⟨fun wh pins s σ H Q I ht => h.run wh pins s σ H Q I (k _ _ _ ht)⟩
theorem _root_.L2.PA.imp {X : Cx} {e : List Expr} {t t' : TA} (h : PA X e t) (k : ∀ σ H Q, t' σ H Q → t σ H Q) : PA X e t' := ⟨fun ps pins s σ H Q I ht => h.run ps pins s σ H Q I (k _ _ _ ht)⟩
theorem _root_.L2.PS.imp {X : Cx} {st : Stmt} {t t' : TS} (h : PS X st t) (k : ∀ D' σ H, t' D' σ H → t D' σ H) : PS X st t' := ⟨fun pins s σ H D' I ht => h.run pins s σ H D' I (k _ _ _ ht)⟩
theorem _root_.L2.PSs.imp {X : Cx} {st : List Stmt} {t t' : TS} (h : PSs X st t) (k : ∀ D' σ H, t' D' σ H → t D' σ H) : PSs X st t' := ⟨fun pins s σ H D' I ht => h.run pins s σ H D' I (k _ _ _ ht)⟩
end

section
variable {K : PySem.W.Frag} {mg : Str → Option Value} {X : Cx} {W : WX} {pos : Pos} {a b c : Expr}
/-! ## names, constants -/
def slotR (S : Sto) : Option (Option D) → Res D
  | some (some d) => .ok d S
  | some none => .bad
  | none => .bad
def eV (i : Nat) (ρ : Env) (S : Sto) : Res D := slotR S ρ[i]?
def eC (d : D) (_ : Env) (S : Sto) : Res D := .ok d S
theorem i_var {i : Nat} {σ : St} {H : Hp} {Q : VK} (h : LE K mg W (eV i) σ H Q) : tVar i σ H Q := by
  obtain ⟨w, ok, rfl, ρ, r, h⟩ := h
  unfold eV at h
  cases e : ρ[i]? with
  | none =>
    rw [e] at h
    exact h.elim
  | some z =>
    rw [e] at h
    cases z with
    | none => exact h.elim
    | some d =>
      obtain ⟨v, e2, rv⟩ := r.get e
      exact ⟨v, e2, Fin.now h ok rv⟩
theorem lv (i : Nat) {x : Str} {pos : Pos} (hN : X.N[i]? = some x := by rfl) (hv : Vis X.env.scope x := by first | exact Or.inl rfl | exact Or.inr (Or.inl rfl) | exact Or.inr (Or.inr rfl)) (hd : (x == ("__debug__" : Str)) = false := by decide)
    (hcd : (x == ("__classdict__" : Str)) = false := by decide) : PE X (.Name x pos) (LE X.K X.mg W (eV i)) := (pe_var hN hv hd hcd).imp fun _ _ _ h => i_var h
theorem i_con {d : D} {v : V} (hv : ∀ w, Rv K mg w d v) {σ : St} {H : Hp} {Q : VK} (h : LE K mg W (eC d) σ H Q) : tC v σ H Q := by
  obtain ⟨w, ok, rfl, ρ, r, h⟩ := h
  exact Fin.now h ok (hv w)
theorem lc_of {e : Expr} {d : D} {v : V} (hv : ∀ w, Rv X.K X.mg w d v) (h : PE X e (tC v)) : PE X e (LE X.K X.mg W (eC d)) := h.imp fun _ _ _ h => i_con hv h
theorem l_int {i j pos} : PE X (.Constant (.int i) j pos) (LE X.K X.mg W (eC (.int i))) := lc_of (fun w => by rw [Rv]) pe_int
theorem l_bl {i j pos} : PE X (.Constant (.bool i) j pos) (LE X.K X.mg W (eC (.bl i))) := lc_of (fun w => by rw [Rv]) pe_bl
theorem l_str {i j pos} : PE X (.Constant (.str i) j pos) (LE X.K X.mg W (eC (.str i))) := lc_of (fun w => by rw [Rv]) pe_str
theorem l_non {j pos} : PE X (.Constant .none j pos) (LE X.K X.mg W (eC .non)) := lc_of (fun w => by rw [Rv]) pe_non
theorem l_ty {x : Str} {n : String} {pos : Pos} (hg : Gl X x) (hm : X.mg x = none) (hv : bootBuiltins x = some (.type n)) (hn : x ≠ "__name__" := by decide) (hd : (x == ("__debug__" : Str)) = false := by decide) : PE X (.Name x pos) (LE X.K X.mg W (eC (.ty n))) :=
  lc_of (v := .ty n) (fun w => by rw [Rv]) (pe_bltn hg hm hv rfl hn hd)
/-- a def or a class of the module as a value -/
theorem l_fn {x : Str} {f : Addr} {pos : Pos} (hg : Gl X x) (hm : X.mg x = some (.ref f)) (hd : (x == ("__debug__" : Str)) = false := by decide) : PE X (.Name x pos) (LE X.K X.mg W (eC (.fn x))) :=
  lc_of (v := .ref f) (fun w => by rw [Rv]; exact ⟨f, hm, rfl⟩) (pe_glob hg hm rfl hd)
/-- a constant of the module -/
theorem l_glob {x : Str} {d : D} {v : V} {u : Value} {pos : Pos} (hg : Gl X x) (hm : X.mg x = some u) (r : RelV v u) (hv : ∀ w, Rv X.K X.mg w d v) (hd : (x == ("__debug__" : Str)) = false := by decide) : PE X (.Name x pos) (LE X.K X.mg W (eC d)) :=
  lc_of hv (pe_glob hg hm r hd)
/-! ## two-place operations -/
def Op2 (K : PySem.W.Frag) (mg : Str → Option Value) (r : R2) (f : D → D → Sto → Res D) : Prop := ∀ (w : Wo) (a b : D) (v u : V) (Q : VK) (E : Str → List (Str × D) → Wo → Prop), w.Ok K mg → Rv K mg w a v → Rv K mg w b u → Fin K mg w (Rv K mg) (f a b w.S) Q E → r v u w.H Q
def eOp1 (f : D → D → Sto → Res D) (db : DE) (ρ : Env) (x : D) (S1 : Sto) : Res D := (db ρ S1).bind (f x)
def eOp (f : D → D → Sto → Res D) (da db : DE) (ρ : Env) (S : Sto) : Res D := (da ρ S).bind (eOp1 f db ρ)
theorem i_op {r : R2} {f : D → D → Sto → Res D} {da db : DE} (o : Op2 K mg r f) {σ : St} {H : Hp} {Q : VK} (h : LE K mg W (eOp f da db) σ H Q) : tOp r (LE K mg W da) (LE K mg W db) σ H Q := by
  obtain ⟨w, ok, rfl, ρ, rr, h⟩ := h
  refine ⟨w, ok, rfl, ρ, rr, h.bind fun w1 x v le1 ok1 r1 h1 => ?_⟩
  refine ⟨w1, ok1, rfl, ρ, rr.up ok le1, h1.bind fun w2 y u le2 ok2 r2 h2 => ?_⟩
  exact o w2 x y v u Q _ ok2 (r1.up ok1 le2) r2 h2
theorem l_op {op : Operator} {r : R2} {f : D → D → Sto → Res D} {da db : DE} (ho : OpR X (binaryOp op) r) (o : Op2 X.K X.mg r f) (ha : PE X a (LE X.K X.mg W da)) (hb : PE X b (LE X.K X.mg W db)) : PE X (.BinOp a op b pos) (LE X.K X.mg W (eOp f da db)) :=
  (pe_op ho ha hb).imp fun _ _ _ h => i_op o h
theorem l_cmp {op : CmpOp} {r : R2} {f : D → D → Sto → Res D} {da db : DE} (ho : OpR X (compareOp op) r) (o : Op2 X.K X.mg r f) (ha : PE X a (LE X.K X.mg W da)) (hb : PE X b (LE X.K X.mg W db)) (hm : behindInMarks op b = false) : PE X (.Compare a [op] [b] pos) (LE X.K X.mg W (eOp f da db)) :=
  (pe_cmpR ho ha hb hm).imp fun _ _ _ h => i_op o h
theorem l_ix {r : R2} {f : D → D → Sto → Res D} {da db : DE} (ho : IxR X r) (o : Op2 X.K X.mg r f) (ha : PE X a (LE X.K X.mg W da)) (hb : PE X b (LE X.K X.mg W db)) (hs : PlainIx b) : PE X (.Subscript a b pos) (LE X.K X.mg W (eOp f da db)) :=
  (pe_ix ho ha hb hs).imp fun _ _ _ h => i_op o h
/-- a value as a test -/
def toB : D → Sto → Res Bool
  | .bl b, S => .ok b S
  | _, _ => .bad
def eT (da : DE) (ρ : Env) (S : Sto) : Res Bool := (da ρ S).bind toB
theorem i_test {t : TE} {da : DE} (ht : ∀ σ H Q, LE K mg W da σ H Q → t σ H Q) {σ : St} {H : Hp} {Q : Bool → Hp → Prop} (h : LT K mg W (eT da) σ H Q) : t σ H fun x H1 => ∃ c, x = .bl c ∧ Q c H1 := by
  obtain ⟨w, ok, rfl, ρ, rr, h⟩ := h
  refine ht _ _ _ ⟨w, ok, rfl, ρ, rr, Fin.bind (R' := Rb) h fun w1 x v le1 ok1 r1 h1 => ?_⟩
  cases x with
  | bl k =>
    rw [Rv] at r1
    exact ⟨k, r1, Fin.now h1 ok1 rfl⟩
  | _ => exact h1.elim
theorem lt_cmp {op : CmpOp} {r : R2} {f : D → D → Sto → Res D} {da db : DE} (ho : OpR X (compareOp op) r) (o : Op2 X.K X.mg r f) (ha : PE X a (LE X.K X.mg W da)) (hb : PE X b (LE X.K X.mg W db)) (hm : behindInMarks op b = false) : PT X (.Compare a [op] [b] pos) (LT X.K X.mg W (eT (eOp f da db))) :=
  (pt_cmpR ho ha hb hm).imp fun _ _ _ h => i_test (fun _ _ _ => i_op o) h
theorem lt_val {e : Expr} {de : DE} (h : PE X e (LE X.K X.mg W de)) (he : ∀ whole, isTrue e X.env whole = (do let v ← whole; standAt e.pos; holding [v] (truthy v)) := by intro _; rfl) : PT X e (LT X.K X.mg W (eT de)) :=
  (pt_val h he).imp fun _ _ _ h => i_test (fun _ _ _ x => x) h
/-- by truth -/
def truB : D → Sto → Res Bool
  | .non, S => .ok false S
  | .bl b, S => .ok b S
  | .int i, S => .ok (i != 0) S
  | .str x, S => if x.length ≤ sizeLine then .ok (x.length != 0) S else .bad
  | .tup xs, S => .ok (!xs.isEmpty) S
  | .obj n, S => match S[n]? with
    | some (.lst xs) => .ok (!xs.isEmpty) S
    | some (.dk xs) => .ok (!xs.isEmpty) S
    | _ => .bad
  | _, _ => .bad
/-! ## and, or, not -/
def eAnd1 (tb : DT) (ρ : Env) : Bool → Sto → Res Bool
  | true, S1 => tb ρ S1
  | false, S1 => .ok false S1
def eOr1 (tb : DT) (ρ : Env) : Bool → Sto → Res Bool
  | true, S1 => .ok true S1
  | false, S1 => tb ρ S1
def eNot1 (c : Bool) (S1 : Sto) : Res Bool := .ok (!c) S1
def eAnd (ta tb : DT) (ρ : Env) (S : Sto) : Res Bool := (ta ρ S).bind (eAnd1 tb ρ)
def eOr (ta tb : DT) (ρ : Env) (S : Sto) : Res Bool := (ta ρ S).bind (eOr1 tb ρ)
def eNot (ta : DT) (ρ : Env) (S : Sto) : Res Bool := (ta ρ S).bind eNot1
theorem i_and {ta tb : DT} {σ : St} {H : Hp} {Q : Bool → Hp → Prop} (h : LT K mg W (eAnd ta tb) σ H Q) : tAnd (LT K mg W ta) (LT K mg W tb) σ H Q := by
  obtain ⟨w, ok, rfl, ρ, rr, h⟩ := h
  refine ⟨w, ok, rfl, ρ, rr, h.bind fun w1 x v le1 ok1 r1 h1 => ?_⟩
  have r1 : x = v := r1
  subst r1
  cases x with
  | true => exact iteT ⟨w1, ok1, rfl, ρ, rr.up ok le1, h1⟩
  | false => exact iteF (Fin.now h1 ok1 rfl)
theorem i_or {ta tb : DT} {σ : St} {H : Hp} {Q : Bool → Hp → Prop} (h : LT K mg W (eOr ta tb) σ H Q) : tOr (LT K mg W ta) (LT K mg W tb) σ H Q := by
  obtain ⟨w, ok, rfl, ρ, rr, h⟩ := h
  refine ⟨w, ok, rfl, ρ, rr, h.bind fun w1 x v le1 ok1 r1 h1 => ?_⟩
  have r1 : x = v := r1
  subst r1
  cases x with
  | true => exact iteT (Fin.now h1 ok1 rfl)
  | false => exact iteF ⟨w1, ok1, rfl, ρ, rr.up ok le1, h1⟩
theorem i_not {ta : DT} {σ : St} {H : Hp} {Q : Bool → Hp → Prop} (h : LT K mg W (eNot ta) σ H Q) : tNot (LT K mg W ta) σ H Q := by
  obtain ⟨w, ok, rfl, ρ, rr, h⟩ := h
  refine ⟨w, ok, rfl, ρ, rr, h.bind fun w1 x v le1 ok1 r1 h1 => ?_⟩
  have r1 : x = v := r1
  subst r1
  exact Fin.now h1 ok1 rfl
variable {rest : List Expr}
theorem lw_and1 {ta : DT} (ha : PT X a (LT X.K X.mg W ta)) : PW X (.BoolOp .And [a] pos) (LT X.K X.mg W ta) := pw_and1 ha
theorem lw_or1 {ta : DT} (ha : PT X a (LT X.K X.mg W ta)) : PW X (.BoolOp .Or [a] pos) (LT X.K X.mg W ta) := pw_or1 ha
theorem lw_and {ta tb : DT} (ha : PT X a (LT X.K X.mg W ta)) (hb : PW X (.BoolOp .And (b :: rest) pos) (LT X.K X.mg W tb)) : PW X (.BoolOp .And (a :: b :: rest) pos) (LT X.K X.mg W (eAnd ta tb)) := (pw_and ha hb).imp fun _ _ _ => i_and
theorem lw_or {ta tb : DT} (ha : PT X a (LT X.K X.mg W ta)) (hb : PW X (.BoolOp .Or (b :: rest) pos) (LT X.K X.mg W tb)) : PW X (.BoolOp .Or (a :: b :: rest) pos) (LT X.K X.mg W (eOr ta tb)) := (pw_or ha hb).imp fun _ _ _ => i_or
theorem lt_not {ta : DT} (ha : PT X a (LT X.K X.mg W ta)) : PT X (.UnaryOp .Not a pos) (LT X.K X.mg W (eNot ta)) := (pt_not ha).imp fun _ _ _ => i_not
/-- .. as values (bools) -/
def eAndV1 (db : DE) (ρ : Env) : D → Sto → Res D
  | .bl true, S1 => db ρ S1
  | .bl false, S1 => .ok (.bl false) S1
  | _, _ => .bad
def eOrV1 (db : DE) (ρ : Env) : D → Sto → Res D
  | .bl true, S1 => .ok (.bl true) S1
  | .bl false, S1 => db ρ S1
  | _, _ => .bad
def eNotV1 : D → Sto → Res D
  | .bl k, S1 => .ok (.bl (!k)) S1
  | _, _ => .bad
def eAndV (da db : DE) (ρ : Env) (S : Sto) : Res D := (da ρ S).bind (eAndV1 db ρ)
def eOrV (da db : DE) (ρ : Env) (S : Sto) : Res D := (da ρ S).bind (eOrV1 db ρ)
def eNotV (da : DE) (ρ : Env) (S : Sto) : Res D := (da ρ S).bind eNotV1
theorem i_andV {da db : DE} {σ : St} {H : Hp} {Q : VK} (h : LE K mg W (eAndV da db) σ H Q) : tAndV (LE K mg W da) (LE K mg W db) σ H Q := by
  obtain ⟨w, ok, rfl, ρ, rr, h⟩ := h
  refine ⟨w, ok, rfl, ρ, rr, h.bind fun w1 x v le1 ok1 r1 h1 => ?_⟩
  cases x with
  | bl k =>
    rw [Rv] at r1
    refine ⟨k, r1, ?_⟩
    cases k with
    | true => exact iteT ⟨w1, ok1, rfl, ρ, rr.up ok le1, h1⟩
    | false => exact iteF (Fin.now h1 ok1 (by rw [Rv]))
  | _ => exact h1.elim
theorem i_orV {da db : DE} {σ : St} {H : Hp} {Q : VK} (h : LE K mg W (eOrV da db) σ H Q) : tOrV (LE K mg W da) (LE K mg W db) σ H Q := by
  obtain ⟨w, ok, rfl, ρ, rr, h⟩ := h
  refine ⟨w, ok, rfl, ρ, rr, h.bind fun w1 x v le1 ok1 r1 h1 => ?_⟩
  cases x with
  | bl k =>
    rw [Rv] at r1
    refine ⟨k, r1, ?_⟩
    cases k with
    | true => exact iteT (Fin.now h1 ok1 (by rw [Rv]))
    | false => exact iteF ⟨w1, ok1, rfl, ρ, rr.up ok le1, h1⟩
  | _ => exact h1.elim
theorem i_notV {da : DE} {σ : St} {H : Hp} {Q : VK} (h : LE K mg W (eNotV da) σ H Q) : tNotV (LE K mg W da) σ H Q := by
  obtain ⟨w, ok, rfl, ρ, rr, h⟩ := h
  refine ⟨w, ok, rfl, ρ, rr, h.bind fun w1 x v le1 ok1 r1 h1 => ?_⟩
  cases x with
  | bl k =>
    rw [Rv] at r1
    exact ⟨k, r1, Fin.now h1 ok1 (by rw [Rv])⟩
  | _ => exact h1.elim
theorem l_one {op} {da : DE} (ha : PE X a (LE X.K X.mg W da)) : PE X (.BoolOp op [a] pos) (LE X.K X.mg W da) := pe_one ha
theorem l_and {da db : DE} (ha : PE X a (LE X.K X.mg W da)) (hb : PE X (.BoolOp .And (b :: rest) pos) (LE X.K X.mg W db)) : PE X (.BoolOp .And (a :: b :: rest) pos) (LE X.K X.mg W (eAndV da db)) := (pe_and ha hb).imp fun _ _ _ => i_andV
theorem l_or {da db : DE} (ha : PE X a (LE X.K X.mg W da)) (hb : PE X (.BoolOp .Or (b :: rest) pos) (LE X.K X.mg W db)) : PE X (.BoolOp .Or (a :: b :: rest) pos) (LE X.K X.mg W (eOrV da db)) := (pe_or ha hb).imp fun _ _ _ => i_orV
theorem l_not {da : DE} (ha : PE X a (LE X.K X.mg W da)) : PE X (.UnaryOp .Not a pos) (LE X.K X.mg W (eNotV da)) := (pe_not ha).imp fun _ _ _ => i_notV
def eIf1 (da db : DE) (ρ : Env) : Bool → Sto → Res D
  | true, S1 => da ρ S1
  | false, S1 => db ρ S1
def eIf (t : DT) (da db : DE) (ρ : Env) (S : Sto) : Res D := (t ρ S).bind (eIf1 da db ρ)
theorem i_if {t : DT} {da db : DE} {σ : St} {H : Hp} {Q : VK} (h : LE K mg W (eIf t da db) σ H Q) : tIf (LT K mg W t) (LE K mg W da) (LE K mg W db) σ H Q := by
  obtain ⟨w, ok, rfl, ρ, rr, h⟩ := h
  refine ⟨w, ok, rfl, ρ, rr, h.bind fun w1 x v le1 ok1 r1 h1 => ?_⟩
  have r1 : x = v := r1
  subst r1
  cases x with
  | true => exact iteT ⟨w1, ok1, rfl, ρ, rr.up ok le1, h1⟩
  | false => exact iteF ⟨w1, ok1, rfl, ρ, rr.up ok le1, h1⟩
theorem l_ifx {t : DT} {da db : DE} (hc : PT X c (LT X.K X.mg W t)) (ha : PE X a (LE X.K X.mg W da)) (hb : PE X b (LE X.K X.mg W db)) : PE X (.IfExp c a b pos) (LE X.K X.mg W (eIf t da db)) := (pe_ifExp hc ha hb).imp fun _ _ _ => i_if
/-! ## chains -/
def eChain3 (g : D → D → Sto → Res D) (dc : DE) (ρ : Env) (y : D) : D → Sto → Res D
  | .bl true, S3 => (dc ρ S3).bind (g y)
  | .bl false, S3 => .ok (.bl false) S3
  | _, _ => .bad
def eChain2 (f g : D → D → Sto → Res D) (dc : DE) (ρ : Env) (x y : D) (S2 : Sto) : Res D := (f x y S2).bind (eChain3 g dc ρ y)
def eChain1 (f g : D → D → Sto → Res D) (db dc : DE) (ρ : Env) (x : D) (S1 : Sto) : Res D := (db ρ S1).bind (eChain2 f g dc ρ x)
def eChain (f g : D → D → Sto → Res D) (da db dc : DE) (ρ : Env) (S : Sto) : Res D := (da ρ S).bind (eChain1 f g db dc ρ)
/-- an operation that raises nothing: the Fin of its own result is enough -/
theorem i_chain {r r' : R2} {f g : D → D → Sto → Res D} {da db dc : DE} (o : Op2 K mg r f) (o' : Op2 K mg r' g) {σ : St} {H : Hp} {Q : VK} (h : LE K mg W (eChain f g da db dc) σ H Q) :
    tChain r r' (LE K mg W da) (LE K mg W db) (LE K mg W dc) σ H Q := by
  obtain ⟨w, ok, rfl, ρ, rr, h⟩ := h
  refine ⟨w, ok, rfl, ρ, rr, h.bind fun w1 x v le1 ok1 r1 h1 => ?_⟩
  have rr1 := rr.up ok le1
  refine ⟨w1, ok1, rfl, ρ, rr1, h1.bind fun w2 y u le2 ok2 r2 h2 => ?_⟩
  have rr2 := rr1.up ok1 le2
  refine o w2 x y v u _ _ ok2 (r1.up ok1 le2) r2 (h2.bind fun w3 z t le3 ok3 r3 h3 => ?_)
  have rr3 := rr2.up ok2 le3
  cases z with
  | bl k =>
    rw [Rv] at r3
    refine ⟨k, r3, ?_⟩
    cases k with
    | true =>
      refine iteT ⟨w3, ok3, rfl, ρ, rr3, h3.bind fun w4 z2 t2 le4 ok4 r4 h4 => ?_⟩
      exact o' w4 y z2 u t2 Q _ ok4 ((r2.up ok2 le3).up ok3 le4) r4 h4
    | false => exact iteF (Fin.now h3 ok3 (by rw [Rv]))
  | _ => exact h3.elim
theorem l_chain {op op' : CmpOp} {r r' : R2} {f g : D → D → Sto → Res D} {da db dc : DE} (ho : OpR X (compareOp op) r) (o : Op2 X.K X.mg r f) (ho' : OpR X (compareOp op') r') (o' : Op2 X.K X.mg r' g) (ha : PE X a (LE X.K X.mg W da)) (hb : PE X b (LE X.K X.mg W db)) (hc : PE X c (LE X.K X.mg W dc))
    (hm : lastMarks [op, op'] [b, c] = false := by with_unfolding_all rfl) : PE X (.Compare a [op, op'] [b, c] pos) (LE X.K X.mg W (eChain f g da db dc)) := (pe_chain ho ho' ha hb hc hm).imp fun _ _ _ => i_chain o o'
theorem lt_chain {op op' : CmpOp} {r r' : R2} {f g : D → D → Sto → Res D} {da db dc : DE} (ho : OpR X (compareOp op) r) (o : Op2 X.K X.mg r f) (ho' : OpR X (compareOp op') r') (o' : Op2 X.K X.mg r' g) (ha : PE X a (LE X.K X.mg W da)) (hb : PE X b (LE X.K X.mg W db)) (hc : PE X c (LE X.K X.mg W dc))
    (hm : lastMarks [op, op'] [b, c] = false := by with_unfolding_all rfl) : PT X (.Compare a [op, op'] [b, c] pos) (LT X.K X.mg W (eT (eChain f g da db dc))) := (pt_chain ho ho' ha hb hc hm).imp fun _ _ _ h => i_test (fun _ _ _ => i_chain o o') h
/-! ## argument lists, displays -/
def eNil (_ : Env) (S : Sto) : Res (List D) := .ok [] S
def eCons2 (x : D) (xs : List D) (S2 : Sto) : Res (List D) := .ok (x :: xs) S2
def eCons1 (dr : DA) (ρ : Env) (x : D) (S1 : Sto) : Res (List D) := (dr ρ S1).bind (eCons2 x)
def eCons (da : DE) (dr : DA) (ρ : Env) (S : Sto) : Res (List D) := (da ρ S).bind (eCons1 dr ρ)
theorem i_nil {σ : St} {H : Hp} {Q : List V → Hp → Prop} (h : LA K mg W eNil σ H Q) : tNil σ H Q := by
  obtain ⟨w, ok, rfl, ρ, rr, h⟩ := h
  exact Fin.now h ok Rvs.nil
theorem i_cons {da : DE} {dr : DA} {σ : St} {H : Hp} {Q : List V → Hp → Prop} (h : LA K mg W (eCons da dr) σ H Q) : tCons (LE K mg W da) (LA K mg W dr) σ H Q := by
  obtain ⟨w, ok, rfl, ρ, rr, h⟩ := h
  refine ⟨w, ok, rfl, ρ, rr, h.bind fun w1 x v le1 ok1 r1 h1 => ?_⟩
  refine ⟨w1, ok1, rfl, ρ, rr.up ok le1, h1.bind fun w2 xs vs le2 ok2 r2 h2 => ?_⟩
  exact Fin.now h2 ok2 (Rvs.cons (r1.up ok1 le2) r2)
variable {es : List Expr}
theorem la_nil : PA X [] (LA X.K X.mg W eNil) := pa_nil.imp fun _ _ _ => i_nil
theorem la_cons {da : DE} {dr : DA} (ha : PE X a (LE X.K X.mg W da)) (hr : PA X es (LA X.K X.mg W dr)) (hs : starEach (a :: es) X.env = (false, eval a X.env) :: starEach es X.env := by rfl) : PA X (a :: es) (LA X.K X.mg W (eCons da dr)) :=
  (pa_cons ha hr hs).imp fun _ _ _ => i_cons
theorem same_upd {H : Hp} {p : Addr} {o : HO} (h : H p = none) : Same H (upd H p o) := fun b x e => by
  rw [upd_ne (ne_of_none e h)]
  exact e
/-- nothing but an untracked new thing -/
theorem Rob.up {w w' : Wo} (ok : w.Ok K mg) (le : w.Le w') {a : Addr} {o : Ob} (hH : ∀ x, w.H a = some x → w'.H a = some x) (h : Rob K mg w a o) : Rob K mg w' a o := by
  cases o with
  | lst ds =>
    obtain ⟨vs, h1, h2⟩ := h
    exact ⟨vs, hH _ h1, h2.up ok le⟩
  | dk ds =>
    obtain ⟨vs, h1, h2⟩ := h
    exact ⟨vs, hH _ h1, h2.up ok le⟩
  | dt ds =>
    obtain ⟨vs, h1, h2⟩ := h
    exact ⟨vs, hH _ h1, h2.up ok le⟩
  | ins C fs =>
    obtain ⟨Ca, dx, vs, h0, h1, h2⟩ := h
    exact ⟨Ca, dx, vs, h0, hH _ h1, h2.up ok le⟩
  | dn kvs =>
    obtain ⟨xs, h1, h2, h3, h4, h5⟩ := h
    exact ⟨xs, hH _ h1, h2, h3, h4, h5.mono fun d v r => r.up ok le d v⟩
  | hk ds =>
    obtain ⟨o, vs, h1, h2⟩ := h
    exact ⟨o, vs, hH _ h1, h2.up ok le⟩
def Wo.heap (w : Wo) (H : Hp) : Wo := ⟨w.m, w.S, H⟩
theorem Wo.new_le {w : Wo} {p : Addr} {o : HO} (hp : w.H p = none) : w.Le (w.heap (upd w.H p o)) :=
  ⟨Nat.le_refl _, fun _ _ => rfl, fun a x e _ => same_upd hp a x e, fun i h h' => absurd (Nat.lt_of_lt_of_le h' h) (Nat.lt_irrefl _), fun _ _ _ => rfl⟩
theorem Wo.new_ok {w : Wo} (ok : w.Ok K mg) {p : Addr} {o : HO} (hp : w.H p = none) : (w.heap (upd w.H p o)).Ok K mg :=
  ⟨ok.inj, fun i o' h => (ok.has i o' h).up ok (Wo.new_le hp) fun x e => same_upd hp _ x e⟩
def mkTup (xs : List D) (S1 : Sto) : Res D := if xs.length ≤ sizeLine then .ok (.tup xs) S1 else .bad
def eTup (da : DA) (ρ : Env) (S : Sto) : Res D := (da ρ S).bind mkTup
theorem i_tup {da : DA} {σ : St} {H : Hp} {Q : VK} (h : LE K mg W (eTup da) σ H Q) : tTup (LA K mg W da) σ H Q := by
  obtain ⟨w, ok, rfl, ρ, rr, h⟩ := h
  refine ⟨w, ok, rfl, ρ, rr, h.bind fun w1 xs vs le1 ok1 r1 h1 => ?_⟩
  unfold mkTup at h1
  by_cases hl : xs.length ≤ sizeLine
  · rw [if_pos hl] at h1
    refine ⟨by rw [r1.len]; exact hl, fun p hp => ?_⟩
    have le2 := Wo.new_le (w := w1) (p := p) (o := .tup vs) hp
    have ok2 := Wo.new_ok (o := .tup vs) ok1 hp
    refine Fin.now (w := w1.heap (upd w1.H p (.tup vs))) (h1.up ok2 le2) ok2 ?_
    rw [Rv]
    exact ⟨p, vs, rfl, SqT.of upd_same, r1.up ok1 le2⟩
  · rw [if_neg hl] at h1
    exact h1.elim
theorem l_tup {da : DA} {x1} (h : PA X es (LA X.K X.mg W da)) : PE X (.Tuple es x1 pos) (LE X.K X.mg W (eTup da)) := (pe_tup h).imp fun _ _ _ => i_tup
/-! ## the store grows by an object -/
def Wo.add (w : Wo) (p : Addr) (o : Ob) (u : HO) : Wo := ⟨fun i => if i = w.S.length then p else w.m i, w.S ++ [o], upd w.H p u⟩
theorem Wo.add_m {w : Wo} {p : Addr} {o : Ob} {u : HO} : (w.add p o u).m w.S.length = p := if_pos rfl
theorem Wo.add_le {w : Wo} {p : Addr} {o : Ob} {u : HO} (hp : w.H p = none) : w.Le (w.add p o u) := by
  refine ⟨by show _ ≤ (w.S ++ [o]).length; rw [List.length_append]; exact Nat.le_add_right _ _, fun i hi => if_neg (Nat.ne_of_lt hi), fun a x e _ => same_upd hp a x e, fun i h h' => ?_, fun i hi _ => List.getElem?_append_left hi⟩
  have h' : i < (w.S ++ [o]).length := h'
  rw [List.length_append] at h'
  have h' : i < w.S.length + 1 := h'
  have e : i = w.S.length := by omega
  rw [e, Wo.add_m]
  exact hp
theorem Wo.add_ok {w : Wo} (ok : w.Ok K mg) {p : Addr} {o : Ob} {u : HO} (hp : w.H p = none) (ho : Rob K mg (w.add p o u) p o) : (w.add p o u).Ok K mg := by
  have old : ∀ i, i < w.S.length → (w.add p o u).m i = w.m i ∧ w.m i ≠ p := fun i hi => by
    refine ⟨if_neg (Nat.ne_of_lt hi), fun e => ?_⟩
    obtain ⟨x, h1, _⟩ := ok.at hi
    rw [e, hp] at h1
    cases h1
  refine ⟨fun i j hi hj e => ?_, fun i o' h => ?_⟩
  · have hi : i < (w.S ++ [o]).length := hi
    have hj : j < (w.S ++ [o]).length := hj
    rw [List.length_append] at hi hj
    have hi : i < w.S.length + 1 := hi
    have hj : j < w.S.length + 1 := hj
    by_cases h1 : i < w.S.length
    · rw [(old i h1).1] at e
      by_cases h2 : j < w.S.length
      · rw [(old j h2).1] at e
        exact ok.inj i j h1 h2 e
      · have e2 : j = w.S.length := by omega
        rw [e2, Wo.add_m] at e
        exact absurd e (old i h1).2
    · have e1 : i = w.S.length := by omega
      rw [e1, Wo.add_m] at e
      by_cases h2 : j < w.S.length
      · rw [(old j h2).1] at e
        exact absurd e.symm (old j h2).2
      · omega
  · have h : (w.S ++ [o])[i]? = some o' := h
    by_cases h1 : i < w.S.length
    · rw [List.getElem?_append_left h1] at h
      rw [(old i h1).1]
      exact (ok.has i o' h).up ok (Wo.add_le hp) fun x e => by
        show upd w.H p u (w.m i) = some x
        rw [upd_ne (old i h1).2]
        exact e
    · have h2 := (List.getElem?_eq_some_iff.mp h).1
      rw [List.length_append] at h2
      have h2 : i < w.S.length + 1 := h2
      have e1 : i = w.S.length := by omega
      rw [e1, List.getElem?_append_right (Nat.le_refl _), Nat.sub_self] at h
      have e2 : o = o' := Option.some.inj h
      rw [e1, Wo.add_m, ← e2]
      exact ho
/-- a new object is handed back -/
theorem Fin.add {w : Wo} {o : Ob} {Q : VK} {E : Str → List (Str × D) → Wo → Prop} {p : Addr} {u : HO} (h : Fin K mg w (Rv K mg) (.ok (.obj w.S.length) (w.S ++ [o])) Q E) (ok : w.Ok K mg) (hp : w.H p = none)
    (ho : w.Le (w.add p o u) → Rob K mg (w.add p o u) p o) : Q (.ref p) (upd w.H p u) := by
  have le := Wo.add_le (o := o) (u := u) hp
  refine h (w.add p o u) (.ref p) le (Wo.add_ok ok hp (ho le)) rfl ?_
  rw [Rv]
  refine ⟨by show w.S.length < (w.S ++ [o]).length; rw [List.length_append]; exact Nat.lt_succ_self _, by rw [Wo.add_m]⟩
def mkLst (xs : List D) (S : Sto) : Res D := if xs.length ≤ sizeLine then .ok (.obj S.length) (S ++ [.lst xs]) else .bad
theorem Fin.newLst {w : Wo} {xs : List D} {vs : List V} {Q : VK} {E : Str → List (Str × D) → Wo → Prop} {p : Addr} (h : Fin K mg w (Rv K mg) (mkLst xs w.S) Q E) (ok : w.Ok K mg) (hp : w.H p = none) (r : Rvs K mg w xs vs) : Q (.ref p) (upd w.H p (.lst vs)) := by
  unfold mkLst at h
  by_cases hl : xs.length ≤ sizeLine
  · rw [if_pos hl] at h
    exact Fin.add h ok hp fun le => ⟨vs, upd_same, r.up ok le⟩
  · rw [if_neg hl] at h
    exact h.elim
theorem Fin.lstLen {w : Wo} {xs : List D} {S : Sto} {Q : VK} {E : Str → List (Str × D) → Wo → Prop} (h : Fin K mg w (Rv K mg) (mkLst xs S) Q E) : xs.length ≤ sizeLine := by
  unfold mkLst at h
  by_cases hl : xs.length ≤ sizeLine
  · exact hl
  · rw [if_neg hl] at h
    exact h.elim
def eLst (da : DA) (ρ : Env) (S : Sto) : Res D := (da ρ S).bind mkLst
theorem i_lst {da : DA} {σ : St} {H : Hp} {Q : VK} (h : LE K mg W (eLst da) σ H Q) : tLst (LA K mg W da) σ H Q := by
  obtain ⟨w, ok, rfl, ρ, rr, h⟩ := h
  refine ⟨w, ok, rfl, ρ, rr, h.bind fun w1 xs vs le1 ok1 r1 h1 => ?_⟩
  exact ⟨by rw [r1.len]; exact h1.lstLen, fun p hp => h1.newLst ok1 hp r1⟩
theorem l_lst {da : DA} (h : PA X es (LA X.K X.mg W da)) : PE X (.List es pos) (LE X.K X.mg W (eLst da)) := (pe_lst h).imp fun _ _ _ => i_lst
end

/-! ## sum, min and max of a tuple of numbers -/
section
open PyProof.Rows
variable {prog : Program} {w : World} {A : Around} {E : Value → Shared → Prop} {s : Shared} {l : Addr} {its : List Value} {ns : List Int} {Q : Value → Shared → Prop}
theorem sumT_raw (hh : A.handled = none) (hl : s.heap.IsTuple l its.toArray) (hi : IntsAre its ns)
    (h : ∀ hp tk tt, (∀ b o, s.heap.get? b = some o → hp.get? b = some o) → Q (.int ns.sum tt) { s with heap := hp, toks := tk }) :
    wpAny (model prog w) A (call (.builtin "sum") [.ref l]) Q E s := by
  obtain ⟨xs, e⟩ := hi.allInts.items
  have hn : numsOf (intItems xs).toList = ns := (congrArg (fun z => numsOf z.toList) e.symm).trans hi.numsOf
  rw [nums_intItems] at hn
  rw [e] at hl
  refine PySem.call_sum_walkAnyS (PySem.W.iter_tupleW (A := A.in1) hh hl fun s2 es W st fp hw hk => ?_)
  refine ⟨_, _, _, _, _, _, _, numAt xs, rfl, W, st, fp, fun _ _ => intItems_at, fun s9 t9 m => ?_⟩
  obtain ⟨hp, tk, rfl, old⟩ := PySem.W.moved_old es rfl m
  have z := h hp tk t9 old
  have e5 : (intItems xs).size = xs.size := by simp [intItems]
  rw [e5, preSum_eq, List.take_of_length_le (by simp), hn]
  exact z
theorem minT_raw (hh : A.handled = none) (hl : s.heap.IsTuple l its.toArray) (hi : IntsAre its ns) (hne : 0 < ns.length)
    (h : ∀ hp tk m tt, (∀ b o, s.heap.get? b = some o → hp.get? b = some o) → m ∈ ns → (∀ a ∈ ns, m ≤ a) → Q (.int m tt) { s with heap := hp, toks := tk }) :
    wpAny (model prog w) A (call (.builtin "min") [.ref l]) Q E s := by
  obtain ⟨xs, e⟩ := hi.allInts.items
  have hn : numsOf (intItems xs).toList = ns := (congrArg (fun z => numsOf z.toList) e.symm).trans hi.numsOf
  rw [nums_intItems] at hn
  subst hn
  rw [e] at hl
  have hz : 0 < xs.size := by simpa using hne
  have e5 : (intItems xs).size = xs.size := by simp [intItems]
  refine PySem.call_min_walkS (PySem.W.iter_tupleW (A := A.in1) hh hl fun s2 es W st fp hw hk => ?_)
  refine ⟨_, _, _, _, _, _, _, _, rfl, W, st, fp, by rw [e5]; exact hz, CmpOf.ints_lt (numAt xs) (fun _ _ => intItems_at), fun v s9 hv m => ?_⟩
  obtain ⟨hp, tk, rfl, old⟩ := PySem.W.moved_old es rfl m
  rw [e5] at hv
  obtain ⟨t, rfl⟩ := intItems_at hv
  obtain ⟨g1, g2⟩ := argBest_lt (numAt xs) (xs.size - 1)
  refine h hp tk _ t old ?_ fun a ha => ?_
  · rw [numAt_eq]
    exact PySem.getD_mem (by rw [List.length_map, Array.length_toList]; omega)
  · obtain ⟨j, hj, rfl⟩ := mem_getD ha
    rw [List.length_map, Array.length_toList] at hj
    rw [← numAt_eq]
    exact g2 j (by omega)
theorem maxT_raw (hh : A.handled = none) (hl : s.heap.IsTuple l its.toArray) (hi : IntsAre its ns) (hne : 0 < ns.length)
    (h : ∀ hp tk m tt, (∀ b o, s.heap.get? b = some o → hp.get? b = some o) → m ∈ ns → (∀ a ∈ ns, a ≤ m) → Q (.int m tt) { s with heap := hp, toks := tk }) :
    wpAny (model prog w) A (call (.builtin "max") [.ref l]) Q E s := by
  obtain ⟨xs, e⟩ := hi.allInts.items
  have hn : numsOf (intItems xs).toList = ns := (congrArg (fun z => numsOf z.toList) e.symm).trans hi.numsOf
  rw [nums_intItems] at hn
  subst hn
  rw [e] at hl
  have hz : 0 < xs.size := by simpa using hne
  have e5 : (intItems xs).size = xs.size := by simp [intItems]
  refine PySem.call_max_walkS (PySem.W.iter_tupleW (A := A.in1) hh hl fun s2 es W st fp hw hk => ?_)
  refine ⟨_, _, _, _, _, _, _, _, rfl, W, st, fp, by rw [e5]; exact hz, CmpOf.ints_gt (numAt xs) (fun _ _ => intItems_at), fun v s9 hv m => ?_⟩
  obtain ⟨hp, tk, rfl, old⟩ := PySem.W.moved_old es rfl m
  rw [e5] at hv
  obtain ⟨t, rfl⟩ := intItems_at hv
  obtain ⟨g1, g2⟩ := argBest_gt (numAt xs) (xs.size - 1)
  refine h hp tk _ t old ?_ fun a ha => ?_
  · rw [numAt_eq]
    exact PySem.getD_mem (by rw [List.length_map, Array.length_toList]; omega)
  · obtain ⟨j, hj, rfl⟩ := mem_getD ha
    rw [List.length_map, Array.length_toList] at hj
    rw [← numAt_eq]
    exact g2 j (by omega)
end
section
open PyProof.Rows
variable {X : Cx}
def rSumT (K : PySem.W.Frag) : List V → Hp → VK → Prop := fun vs H Q => ∃ (a : Addr) (ns : List Int), vs = [V.ref a] ∧ SqT K H a (ns.map V.int) ∧ Q (.int (List.sum ns)) H
def rMinT (K : PySem.W.Frag) : List V → Hp → VK → Prop := fun vs H Q => ∃ (a : Addr) (ns : List Int), vs = [V.ref a] ∧ SqT K H a (ns.map V.int) ∧ 0 < ns.length ∧ ∀ m : Int, m ∈ ns → (∀ y ∈ ns, m ≤ y) → Q (.int m) H
def rMaxT (K : PySem.W.Frag) : List V → Hp → VK → Prop := fun vs H Q => ∃ (a : Addr) (ns : List Int), vs = [V.ref a] ∧ SqT K H a (ns.map V.int) ∧ 0 < ns.length ∧ ∀ m : Int, m ∈ ns → (∀ y ∈ ns, y ≤ m) → Q (.int m) H
theorem cr_sumT (hc : X.calm = true) : CallR X (.builtin "sum") (rSumT X.K) := by
  intro pins s σ H vs us Q I r h
  obtain ⟨a, ns, rfl, t, q⟩ := h
  obtain ⟨its, rv, tu, _⟩ := I.tuple t
  rw [Vals.ref1 r]
  exact sumT_raw (I.ok.hd hc) tu rv.ints fun hp tk tt old => ⟨.int _, H, I.kept old, ⟨_, rfl⟩, q⟩
theorem cr_minT (hc : X.calm = true) : CallR X (.builtin "min") (rMinT X.K) := by
  intro pins s σ H vs us Q I r h
  obtain ⟨a, ns, rfl, t, hn, q⟩ := h
  obtain ⟨its, rv, tu, _⟩ := I.tuple t
  rw [Vals.ref1 r]
  exact minT_raw (I.ok.hd hc) tu rv.ints hn fun hp tk m tt old g1 g2 => ⟨.int _, H, I.kept old, ⟨_, rfl⟩, q m g1 g2⟩
theorem cr_maxT (hc : X.calm = true) : CallR X (.builtin "max") (rMaxT X.K) := by
  intro pins s σ H vs us Q I r h
  obtain ⟨a, ns, rfl, t, hn, q⟩ := h
  obtain ⟨its, rv, tu, _⟩ := I.tuple t
  rw [Vals.ref1 r]
  exact maxT_raw (I.ok.hd hc) tu rv.ints hn fun hp tk m tt old g1 g2 => ⟨.int _, H, I.kept old, ⟨_, rfl⟩, q m g1 g2⟩
theorem cr_sumA (hc : X.calm = true) : CallR X (.builtin "sum") (fun vs H Q => rSum X.K vs H Q ∨ rSumT X.K vs H Q) := (cr_sum hc).or (cr_sumT hc)
theorem cr_minA (hc : X.calm = true) : CallR X (.builtin "min") (fun vs H Q => rMin X.K vs H Q ∨ rMinT X.K vs H Q) := (cr_min hc).or (cr_minT hc)
theorem cr_maxA (hc : X.calm = true) : CallR X (.builtin "max") (fun vs H Q => rMax X.K vs H Q ∨ rMaxT X.K vs H Q) := (cr_max hc).or (cr_maxT hc)
end
section
variable {K : PySem.W.Frag} {mg : Str → Option Value} {X : Cx} {W : WX}
/-! ## scalars -/
def D.sc : D → Option V
  | .non => some .non
  | .bl b => some (.bl b)
  | .int i => some (.int i)
  | .str x => some (.str x)
  | _ => none
theorem Rv.sc {w : Wo} {d : D} {v u : V} (h : Rv K mg w d v) (e : d.sc = some u) : v = u := by
  cases d <;> first
    | (rw [Rv] at h; rw [h]; exact Option.some.inj e)
    | (exact absurd e (by intro z; cases z))
theorem Rv.int {w : Wo} {i : Int} {v : V} (h : Rv K mg w (.int i) v) : v = .int i := by rw [Rv] at h; exact h
theorem Rv.str {w : Wo} {i : Str} {v : V} (h : Rv K mg w (.str i) v) : v = .str i := by rw [Rv] at h; exact h
theorem Rv.bl {w : Wo} {i : Bool} {v : V} (h : Rv K mg w (.bl i) v) : v = .bl i := by rw [Rv] at h; exact h
theorem Rv.non {w : Wo} {v : V} (h : Rv K mg w .non v) : v = .non := by rw [Rv] at h; exact h
theorem Rv.ty {w : Wo} {n : String} {v : V} (h : Rv K mg w (.ty n) v) : v = .ty n := by rw [Rv] at h; exact h
theorem Rv.tup {w : Wo} {ds : List D} {v : V} (h : Rv K mg w (.tup ds) v) : ∃ a vs, v = .ref a ∧ SqT K w.H a vs ∧ Rvs K mg w ds vs := by rw [Rv] at h; exact h
theorem Rv.obj {w : Wo} {n : Nat} {v : V} (h : Rv K mg w (.obj n) v) : n < w.S.length ∧ v = .ref (w.m n) := by rw [Rv] at h; exact h
theorem mk_int {w : Wo} {i : Int} : Rv K mg w (.int i) (.int i) := by rw [Rv]
theorem mk_bl {w : Wo} {i : Bool} : Rv K mg w (.bl i) (.bl i) := by rw [Rv]
theorem mk_str {w : Wo} {i : Str} : Rv K mg w (.str i) (.str i) := by rw [Rv]
theorem mk_non {w : Wo} : Rv K mg w .non .non := by rw [Rv]
theorem Rv.kl {w : Wo} {ds : List D} {v : V} (h : Rv K mg w (.kl ds) v) : ∃ a vs, v = .ref a ∧ SqF K w.H a vs ∧ Rvs K mg w ds vs := by
  rw [Rv] at h
  exact h
theorem mk_tup {w : Wo} {a : Addr} {ds : List D} {vs : List V} (h : SqT K w.H a vs) (r : Rvs K mg w ds vs) : Rv K mg w (.tup ds) (.ref a) := by
  rw [Rv]
  exact ⟨a, vs, rfl, h, r⟩
def scs : List D → Option (List V)
  | [] => some []
  | d :: ds => match d.sc, scs ds with
    | some v, some vs => some (v :: vs)
    | _, _ => none
theorem Rvs.sc {w : Wo} : ∀ {ds : List D} {vs us : List V}, Rvs K mg w ds vs → scs ds = some us → vs = us
  | [], vs, us, r, e => by
    rw [Rvs] at r
    rw [r]
    exact Option.some.inj e
  | d :: ds, vs, us, r, e => by
    rw [Rvs] at r
    obtain ⟨v, q, e1, r1, r2⟩ := r
    unfold scs at e
    cases e2 : d.sc with
    | none =>
      rw [e2] at e
      cases e
    | some u =>
      cases e3 : scs ds with
      | none =>
        rw [e2, e3] at e
        cases e
      | some us2 =>
        rw [e2, e3] at e
        rw [e1, r1.sc e2, Rvs.sc r2 e3]
        exact Option.some.inj e
theorem sc_flat {d : D} {v : V} (e : d.sc = some v) : flatV v = true := by
  cases d <;> first
    | (rw [← Option.some.inj e]; rfl)
    | (exact absurd e (by intro z; cases z))
theorem scs_flat : ∀ {ds : List D} {us : List V}, scs ds = some us → us.all flatV = true
  | [], us, e => by
    rw [← Option.some.inj e]
    rfl
  | d :: ds, us, e => by
    unfold scs at e
    cases e2 : d.sc with
    | none =>
      rw [e2] at e
      cases e
    | some u =>
      cases e3 : scs ds with
      | none =>
        rw [e2, e3] at e
        cases e
      | some us2 =>
        rw [e2, e3] at e
        rw [← Option.some.inj e, List.all_cons, sc_flat e2, scs_flat e3]
        rfl
/-! ## numbers and + -/
/-- what a store's object is, as a list -/
def lstOf (S : Sto) (n : Nat) : Option (List D) := match S[n]? with
  | some (.lst xs) => some xs
  | _ => none
theorem lst_at {w : Wo} (ok : w.Ok K mg) {n : Nat} {xs : List D} (h : lstOf w.S n = some xs) : ∃ vs, SqL K w.H (w.m n) vs ∧ Rvs K mg w xs vs := by
  unfold lstOf at h
  cases e : w.S[n]? with
  | none =>
    rw [e] at h
    cases h
  | some o =>
    rw [e] at h
    have r := ok.has n o e
    cases o with
    | lst ds =>
      obtain ⟨vs, h1, h2⟩ := r
      rw [← Option.some.inj h]
      exact ⟨vs, SqL.of h1, h2⟩
    | dk kvs => cases h
    | dt kvs => cases h
    | ins C fs => cases h
    | dn kvs => cases h
    | hk kvs => cases h
theorem lst_mut {w : Wo} (ok : w.Ok K mg) {n : Nat} {xs : List D} (h : w.S[n]? = some (.lst xs)) : ∃ vs, w.H (w.m n) = some (.lst vs) ∧ Rvs K mg w xs vs := ok.has n _ h
def dAdd : D → D → Sto → Res D
  | .int i, .int j, S => .ok (.int (i + j)) S
  | .str x, .str y, S => if x.length + y.length ≤ sizeLine then .ok (.str (x ++ y)) S else .bad
  | .tup xs, .tup ys, S => if xs.length + ys.length ≤ sizeLine then .ok (.tup (xs ++ ys)) S else .bad
  | .obj n, .obj m, S => match S[n]?, S[m]? with
    | some (.lst xs), some (.lst ys) => mkLst (xs ++ ys) S
    | _, _ => .bad
  | _, _, _ => .bad
def rAddA (K : PySem.W.Frag) : R2 := fun x y H Q => rI0 (fun i j => .int (i + j)) x y H Q ∨ (∃ i j, x = .str i ∧ y = .str j ∧ i.length + j.length ≤ sizeLine ∧ Q (.str (i ++ j)) H) ∨ rCatA K x y H Q ∨ rCat x y H Q
theorem op_addA : OpR X (binaryOp .Add) (rAddA X.K) := op_add.or (op_add_str.or (op_catA.or op_cat))
theorem Fin.newTup {w : Wo} {xs : List D} {vs : List V} {Q : VK} {E : Str → List (Str × D) → Wo → Prop} {p : Addr} (h : Fin K mg w (Rv K mg) (.ok (.tup xs) w.S) Q E) (ok : w.Ok K mg) (hp : w.H p = none) (r : Rvs K mg w xs vs) : Q (.ref p) (upd w.H p (.tup vs)) := by
  have le2 := Wo.new_le (w := w) (p := p) (o := .tup vs) hp
  have ok2 := Wo.new_ok (o := .tup vs) ok hp
  exact Fin.now (w := w.heap (upd w.H p (.tup vs))) (h.up ok2 le2) ok2 (mk_tup (SqT.of upd_same) (r.up ok le2))
theorem o_add : Op2 K mg (rAddA K) dAdd := by
  intro w a b v u Q E ok ra rb h
  unfold dAdd at h
  split at h
  · rw [ra.int, rb.int]
    exact .inl ⟨_, _, rfl, rfl, Fin.now h ok mk_int⟩
  · rw [ra.str, rb.str]
    split at h
    · rename_i hz
      exact .inr (.inl ⟨_, _, rfl, rfl, hz, Fin.now h ok mk_str⟩)
    · exact h.elim
  · rename_i xs ys
    split at h
    · rename_i hz
      obtain ⟨a1, v1, rfl, t1, r1⟩ := ra.tup
      obtain ⟨a2, v2, rfl, t2, r2⟩ := rb.tup
      refine .inr (.inr (.inl ⟨a1, a2, v1, v2, rfl, rfl, t1, t2, by rw [r1.len, r2.len]; exact hz, fun e => ?_, fun e e2 => ?_, fun e e2 p hp => ?_⟩))
      · have l := r1.len
        rw [e] at l
        have e3 : xs = [] := List.eq_nil_of_length_eq_zero l.symm
        rw [e3, List.nil_append] at h
        exact Fin.now h ok (mk_tup t2 r2)
      · have l := r2.len
        rw [e2] at l
        have e3 : ys = [] := List.eq_nil_of_length_eq_zero l.symm
        rw [e3, List.append_nil] at h
        exact Fin.now h ok (mk_tup t1 r1)
      · exact h.newTup ok hp (r1.append r2)
    · exact h.elim
  · split at h
    · rename_i n m xs ys e1 e2
      obtain ⟨_, rfl⟩ := ra.obj
      obtain ⟨_, rfl⟩ := rb.obj
      obtain ⟨v1, h1, r1⟩ := lst_mut ok e1
      obtain ⟨v2, h2, r2⟩ := lst_mut ok e2
      have hl := h.lstLen
      rw [List.length_append] at hl
      exact .inr (.inr (.inr ⟨_, _, v1, v2, rfl, rfl, h1, h2, by rw [r1.len, r2.len]; exact hl, fun p hp => h.newLst ok hp (r1.append r2)⟩))
    · exact h.elim
  · exact h.elim
def dSub : D → D → Sto → Res D
  | .int i, .int j, S => .ok (.int (i - j)) S
  | _, _, _ => .bad
theorem o_sub : Op2 K mg (rI0 fun i j => .int (i - j)) dSub := by
  intro w a b v u Q E ok ra rb h
  unfold dSub at h
  split at h
  · rw [ra.int, rb.int]
    exact ⟨_, _, rfl, rfl, Fin.now h ok mk_int⟩
  · exact h.elim
/-! ## t * 1 is t itself -/
theorem tupOnce (l : Addr) (its : Array Value) (nn : Nat) (dct : Option Addr) (ss : Array (Option Value)) (u : Tok) :
    Meets (Builtin.«tuple.__mul__» ⟨[.ref l, .int 1 u], []⟩) (fun _ R s =>
      s.heap.get? l = some { cls := .type "tuple", dict := dct, data := .seq its nn, slots := ss } ∧ R (.ok (.ret (Value.ref l))) s) :=
  .of_wp fun _ _ _ _ s h => by
    obtain ⟨hp, gl, dd, tks, oo⟩ := s
    obtain ⟨hat, h⟩ := h
    have ix := AutoSeq1.idx_int
    have g0 : (decide ((1 : Int) < -(2 ^ 63)) || decide ((1 : Int) ≥ 2 ^ 63)) = false := by decide
    have g1 : (its.isEmpty || (1 : Int) == 1) = true := by rw [show ((1 : Int) == 1) = true from rfl, Bool.or_true]
    wp_walk using wpAny_loadPart' hat
    repeat (first
      | (refine wpAny_ite_false (decide_eq_false (by rw [g0]; exact Bool.false_ne_true)) ?_; wp_walk using wpAny_loadPart' hat)
      | (refine wpAny_ite_true (decide_eq_true g1) ?_; wp_walk using wpAny_loadPart' hat))
    exact ⟨_, rfl, h⟩
def rOneT (K : PySem.W.Frag) : R2 := fun x y H Q => ∃ l xs, x = .ref l ∧ y = .int 1 ∧ SqT K H l xs ∧ Q (.ref l) H
theorem op_oneT {X : Cx} : OpR X (binaryOp .Mult) (rOneT X.K) := by
  intro pins s σ H x y v u Q I rx ry h
  obtain ⟨l, xs, rfl, rfl, hT, q⟩ := h
  cases rx
  obtain ⟨t, rfl⟩ := ry
  obtain ⟨its, r, ⟨⟨cls, dd, data, sl⟩, ho, hc, n, hd⟩, _⟩ := I.tuple hT
  simp only at hc hd
  subst hc hd
  have two : Meets (Builtin.«int.__rmul__» ⟨[.int 1 t, .ref l], []⟩) _ := int_rmul_tuple 1 t l its.toArray n dd sl
  refine wpAny_binaryOp_repeat_ref (T := "tuple") (U := "int") (by decide) ⟨_, ho, rfl⟩ (fun s' => typeIs_int s' 1 t) noFill_tuple_mul F.fills_int_mul F.slot_int_rmul repeat_tuple F.slot_int_index.lookup ?_
  refine call_meets F.slot_int_rmul (typeIs_int s 1 t) F.entry_int_rmul (F.args_int_rmul_2 _ _) two ⟨ho, rfl, ⟨_, ho, rfl⟩, ?_⟩
  refine call_meets F.slot_tuple_mul ⟨_, ho, rfl⟩ F.entry_tuple_mul (F.args_tuple_mul_2 _ _) (tupOnce l its.toArray n dd sl t) ⟨ho, ?_⟩
  exact ⟨.ref l, H, I, rfl, q⟩
/-- a product of two numbers, the one below 2 ^ 64 or both of together less than a million bits; t * k of a tuple -/
def MulOk (i j : Int) : Prop := i.natAbs < 2 ^ 64 ∨ j.natAbs < 2 ^ 64 ∨ i.natAbs.log2 + j.natAbs.log2 < 1000000
instance (i j : Int) : Decidable (MulOk i j) := by unfold MulOk; infer_instance
def dMul : D → D → Sto → Res D
  | .int i, .int j, S => if MulOk i j then .ok (.int (i * j)) S else .bad
  | .tup xs, .int k, S => if k = 1 then .ok (.tup xs) S else if xs ≠ [] ∧ 2 ≤ k ∧ k ≤ 1000 ∧ xs.length ≤ 1000 then .ok (.tup (List.replicate k.toNat xs).flatten) S else .bad
  | _, _, _ => .bad
def rMulA (K : PySem.W.Frag) : R2 := fun x y H Q => rI CMulW (fun i j => .int (i * j)) x y H Q ∨ rI CMul (fun i j => .int (i * j)) x y H Q ∨ rRepT K x y H Q ∨ rOneT K x y H Q
theorem op_mulA : OpR X (binaryOp .Mult) (rMulA X.K) := op_mulW.or (op_mul.or (op_repT.or op_oneT))
theorem Rvs.rep {w : Wo} {xs : List D} {vs : List V} (r : Rvs K mg w xs vs) : ∀ n : Nat, Rvs K mg w (List.replicate n xs).flatten (List.replicate n vs).flatten
  | 0 => Rvs.nil
  | n + 1 => by
    rw [List.replicate_succ, List.replicate_succ, List.flatten_cons, List.flatten_cons]
    exact r.append (Rvs.rep r n)
theorem o_mul : Op2 K mg (rMulA K) dMul := by
  intro w a b v u Q E ok ra rb h
  unfold dMul at h
  split at h
  · rw [ra.int, rb.int]
    split at h
    · rename_i hz
      rcases hz with hz | hz | hz
      · exact .inr (.inl ⟨_, _, rfl, rfl, .inl ⟨by omega, by omega⟩, Fin.now h ok mk_int⟩)
      · exact .inr (.inl ⟨_, _, rfl, rfl, .inr ⟨by omega, by omega⟩, Fin.now h ok mk_int⟩)
      · exact .inl ⟨_, _, rfl, rfl, hz, Fin.now h ok mk_int⟩
    · exact h.elim
  · rename_i xs k
    split at h
    · rename_i hk
      obtain ⟨a1, v1, rfl, t1, r1⟩ := ra.tup
      rw [rb.int]
      subst hk
      exact .inr (.inr (.inr ⟨a1, v1, rfl, rfl, t1, Fin.now h ok (mk_tup t1 r1)⟩))
    · split at h
      · rename_i hz
        obtain ⟨h1, h2, h3, h4⟩ := hz
        obtain ⟨a1, v1, rfl, t1, r1⟩ := ra.tup
        rw [rb.int]
        refine .inr (.inr (.inl ⟨a1, k, v1, rfl, rfl, t1, fun e => h1 ?_, h2, h3, by rw [r1.len]; exact h4, fun p hp => h.newTup ok hp (r1.rep _)⟩))
        have l := r1.len
        rw [e] at l
        exact List.eq_nil_of_length_eq_zero l.symm
      · exact h.elim
  · exact h.elim
/-- // by a divisor of either sign, not too great -/
def dDiv : D → D → Sto → Res D
  | .int i, .int j, S => if j ≠ 0 ∧ j.natAbs.log2 < 9000 then .ok (.int (i.fdiv j)) S else .bad
  | _, _, _ => .bad
theorem op_fdivG : OpR X (binaryOp .FloorDiv) (rI (fun _ j => j ≠ 0 ∧ j.natAbs.log2 < 9000) fun i j => .int (i.fdiv j)) := opI fun _ _ _ _ _ _ _ hc q => PyProof.Rows.floordiv_int hc.1 q (.inl (PyProof.noPylong_of_log2 hc.2))
theorem o_div : Op2 K mg (rI (fun _ j => j ≠ 0 ∧ j.natAbs.log2 < 9000) fun i j => .int (i.fdiv j)) dDiv := by
  intro w a b v u Q E ok ra rb h
  unfold dDiv at h
  split at h
  · rw [ra.int, rb.int]
    split at h
    · rename_i hz
      exact ⟨_, _, rfl, rfl, hz, Fin.now h ok mk_int⟩
    · exact h.elim
  · exact h.elim
def dMod : D → D → Sto → Res D
  | .int i, .int j, S => if j ≠ 0 then .ok (.int (i.fmod j)) S else .bad
  | _, _, _ => .bad
theorem o_mod : Op2 K mg (rI (fun _ j => j ≠ 0) fun i j => .int (i.fmod j)) dMod := by
  intro w a b v u Q E ok ra rb h
  unfold dMod at h
  split at h
  · rw [ra.int, rb.int]
    split at h
    · rename_i hz
      exact ⟨_, _, rfl, rfl, hz, Fin.now h ok mk_int⟩
    · exact h.elim
  · exact h.elim
def dPow : D → D → Sto → Res D
  | .int i, .int j, S => if 0 ≤ j ∧ j ≤ 1000000 ∧ i.natAbs < 2 ^ 64 then .ok (.int (i ^ j.toNat)) S else .bad
  | _, _, _ => .bad
theorem o_pow : Op2 K mg (rI CPow fun i j => .int (i ^ j.toNat)) dPow := by
  intro w a b v u Q E ok ra rb h
  unfold dPow at h
  split at h
  · rw [ra.int, rb.int]
    split at h
    · rename_i hz
      exact ⟨_, _, rfl, rfl, hz, Fin.now h ok mk_int⟩
    · exact h.elim
  · exact h.elim
/-- one place -/
def eUn (f : D → Sto → Res D) (da : DE) (ρ : Env) (S : Sto) : Res D := (da ρ S).bind f
def Op1 (K : PySem.W.Frag) (mg : Str → Option Value) (r : V → Hp → VK → Prop) (f : D → Sto → Res D) : Prop := ∀ (w : Wo) (a : D) (v : V) (Q : VK) (E : Str → List (Str × D) → Wo → Prop), w.Ok K mg → Rv K mg w a v → Fin K mg w (Rv K mg) (f a w.S) Q E → r v w.H Q
theorem i_un {r : V → Hp → VK → Prop} {f : D → Sto → Res D} {da : DE} (o : Op1 K mg r f) {σ : St} {H : Hp} {Q : VK} (h : LE K mg W (eUn f da) σ H Q) : tUn r (LE K mg W da) σ H Q := by
  obtain ⟨w, ok, rfl, ρ, rr, h⟩ := h
  exact ⟨w, ok, rfl, ρ, rr, h.bind fun w1 x v le1 ok1 r1 h1 => o w1 x v Q _ ok1 r1 h1⟩
theorem l_un {op : UnaryOp} {r : V → Hp → VK → Prop} {f : D → Sto → Res D} {da : DE} {a : Expr} {pos : Pos} (ho : UnR X (unaryOp op) r) (o : Op1 X.K X.mg r f) (ha : PE X a (LE X.K X.mg W da)) : PE X (.UnaryOp op a pos) (LE X.K X.mg W (eUn f da)) := (pe_un ho ha).imp fun _ _ _ => i_un o
def dNeg : D → Sto → Res D
  | .int i, S => .ok (.int (-i)) S
  | _, _ => .bad
theorem o_neg : Op1 K mg (rU fun i => .int (-i)) dNeg := by
  intro w a v Q E ok ra h
  unfold dNeg at h
  split at h
  · rw [ra.int]
    exact ⟨_, rfl, Fin.now h ok mk_int⟩
  · exact h.elim
/-! ## comparisons -/
def dRel (p : Int → Int → Bool) : D → D → Sto → Res D
  | .int i, .int j, S => .ok (.bl (p i j)) S
  | _, _, _ => .bad
theorem o_rel (p : Int → Int → Bool) : Op2 K mg (rI0 fun i j => .bl (p i j)) (dRel p) := by
  intro w a b v u Q E ok ra rb h
  unfold dRel at h
  split at h
  · rw [ra.int, rb.int]
    exact ⟨_, _, rfl, rfl, Fin.now h ok mk_bl⟩
  · exact h.elim
abbrev dLt := dRel fun i j => decide (i < j)
abbrev dLe := dRel fun i j => decide (i ≤ j)
abbrev dGt := dRel fun i j => decide (j < i)
abbrev dGe := dRel fun i j => decide (j ≤ i)
def dEq : D → D → Sto → Res D
  | .int i, .int j, S => .ok (.bl (decide (i = j))) S
  | .str i, .str j, S => .ok (.bl (decide (i = j))) S
  | .bl i, .bl j, S => .ok (.bl (decide (i = j))) S
  | .non, .non, S => .ok (.bl true) S
  | .non, .int _, S => .ok (.bl false) S
  | .non, .bl _, S => .ok (.bl false) S
  | .non, .str _, S => .ok (.bl false) S
  | .int _, .non, S => .ok (.bl false) S
  | .bl _, .non, S => .ok (.bl false) S
  | .str _, .non, S => .ok (.bl false) S
  | .int _, .str _, S => .ok (.bl false) S
  | .str _, .int _, S => .ok (.bl false) S
  | .bl _, .str _, S => .ok (.bl false) S
  | .str _, .bl _, S => .ok (.bl false) S
  | _, _, _ => .bad
def dNe (a b : D) (S : Sto) : Res D := (dEq a b S).bind eNotV1
theorem dEq_sc {a b : D} {S : Sto} : (dEq a b S = .bad) ∨ ∃ x y, a.sc = some x ∧ b.sc = some y ∧ scal x y = true ∧ dEq a b S = .ok (.bl (decide (x = y))) S := by
  unfold dEq
  split
  · rename_i i j
    exact .inr ⟨_, _, rfl, rfl, rfl, congrArg (fun k => Res.ok (D.bl k) S) (show decide (i = j) = decide (V.int i = V.int j) from (by rw [Bool.eq_iff_iff]; simp))⟩
  · rename_i i j
    exact .inr ⟨_, _, rfl, rfl, rfl, congrArg (fun k => Res.ok (D.bl k) S) (show decide (i = j) = decide (V.str i = V.str j) from (by rw [Bool.eq_iff_iff]; simp))⟩
  · rename_i i j
    exact .inr ⟨_, _, rfl, rfl, rfl, congrArg (fun k => Res.ok (D.bl k) S) (show decide (i = j) = decide (V.bl i = V.bl j) from (by rw [Bool.eq_iff_iff]; simp))⟩
  all_goals first
    | exact .inr ⟨_, _, rfl, rfl, rfl, rfl⟩
    | exact .inr ⟨_, _, rfl, rfl, rfl, by simp⟩
    | exact .inl rfl
theorem o_eq : Op2 K mg rEq dEq := by
  intro w a b v u Q E ok ra rb h
  rcases dEq_sc (a := a) (b := b) (S := w.S) with e | ⟨x, y, e1, e2, e3, e4⟩
  · rw [e] at h
    exact h.elim
  · rw [e4] at h
    rw [ra.sc e1, rb.sc e2]
    exact ⟨e3, Fin.now h ok mk_bl⟩
theorem o_ne : Op2 K mg rNe dNe := by
  intro w a b v u Q E ok ra rb h
  unfold dNe at h
  rcases dEq_sc (a := a) (b := b) (S := w.S) with e | ⟨x, y, e1, e2, e3, e4⟩
  · rw [e] at h
    exact h.elim
  · rw [e4] at h
    rw [ra.sc e1, rb.sc e2]
    exact ⟨e3, Fin.now h ok mk_bl⟩
/-- x in a list or tuple of scalars; a text in a text -/
def dIn (neg : Bool) : D → D → Sto → Res D
  | x, .tup ys, S => match x.sc, scs ys with
    | some v, some vs => .ok (.bl (if neg then !inV v vs else inV v vs)) S
    | _, _ => .bad
  | x, .obj n, S => match x.sc, (lstOf S n).bind scs with
    | some v, some vs => .ok (.bl (if neg then !inV v vs else inV v vs)) S
    | _, _ => .bad
  | .str i, .str j, S => .ok (.bl (if neg then !(!(Builtin.Str.occurrences j i 0 j.length 1).isEmpty) else !(Builtin.Str.occurrences j i 0 j.length 1).isEmpty)) S
  | _, _, _ => .bad
def rInA (K : PySem.W.Frag) (neg : Bool) : R2 := fun x y H Q => rIn K neg x y H Q ∨ ∃ i j, x = .str i ∧ y = .str j ∧ Q (.bl (if neg then !(!(Builtin.Str.occurrences j i 0 j.length 1).isEmpty) else !(Builtin.Str.occurrences j i 0 j.length 1).isEmpty)) H
theorem op_inA : OpR X (compareOp .In) (rInA X.K false) := op_in_seq.or op_in_str
theorem op_notInA : OpR X (compareOp .NotIn) (rInA X.K true) := op_notIn_seq.or op_notIn_str
theorem o_in (neg : Bool) : Op2 K mg (rInA K neg) (dIn neg) := by
  intro w a b v u Q E ok ra rb h
  unfold dIn at h
  split at h
  · split at h
    · rename_i x ys S v' vs' e1 e2
      obtain ⟨p, v2, rfl, t, r⟩ := rb.tup
      have e3 := r.sc e2
      subst e3
      rw [ra.sc e1]
      exact .inl ⟨p, _, rfl, .inr t, sc_flat e1, scs_flat e2, Fin.now h ok mk_bl⟩
    · exact h.elim
  · split at h
    · rename_i x n S v' vs' e1 e2
      obtain ⟨_, rfl⟩ := rb.obj
      obtain ⟨ys, e3, e4⟩ := Option.bind_eq_some_iff.mp e2
      obtain ⟨v2, t, r⟩ := lst_at ok e3
      have e5 := r.sc e4
      subst e5
      rw [ra.sc e1]
      exact .inl ⟨_, _, rfl, .inl t, sc_flat e1, scs_flat e4, Fin.now h ok mk_bl⟩
    · exact h.elim
  · rw [ra.str, rb.str]
    exact .inr ⟨_, _, rfl, rfl, Fin.now h ok mk_bl⟩
  · exact h.elim
/-- is None -/
def dIsN : D → Sto → Res D
  | .non, S => .ok (.bl true) S
  | _, S => .ok (.bl false) S
def dNotN : D → Sto → Res D
  | .non, S => .ok (.bl false) S
  | _, S => .ok (.bl true) S
def isNon : D → Bool
  | .non => true
  | _ => false
theorem Rv.isN {w : Wo} {d : D} {v : V} (h : Rv K mg w d v) : decide (v = .non) = isNon d := by
  cases d with
  | non => have e := h.non; subst e; rfl
  | bl b => have e := h.bl; subst e; rfl
  | int b => have e := h.int; subst e; rfl
  | str b => have e := h.str; subst e; rfl
  | tup b => obtain ⟨a, vs, e, _⟩ := h.tup; subst e; rfl
  | obj n => have e := h.obj.2; subst e; rfl
  | fn x =>
    rw [Rv] at h
    obtain ⟨a, _, e⟩ := h
    subst e
    rfl
  | ty n => have e := h.ty; subst e; rfl
  | raw n =>
    rw [Rv] at h
    subst h
    rfl
  | kl xs =>
    rw [Rv] at h
    obtain ⟨a, vs, e, _⟩ := h
    subst e
    rfl
  | tk xs =>
    rw [Rv] at h
    obtain ⟨a, e, _⟩ := h
    subst e
    rfl
theorem i_isN {da : DE} {σ : St} {H : Hp} {Q : VK} (h : LE K mg W (eUn dIsN da) σ H Q) : tIsN (LE K mg W da) σ H Q := by
  obtain ⟨w, ok, rfl, ρ, rr, h⟩ := h
  refine ⟨w, ok, rfl, ρ, rr, h.bind fun w1 x v le1 ok1 r1 h1 => ?_⟩
  rw [r1.isN]
  cases x <;> exact Fin.now h1 ok1 mk_bl
theorem i_notN {da : DE} {σ : St} {H : Hp} {Q : VK} (h : LE K mg W (eUn dNotN da) σ H Q) : tNotN (LE K mg W da) σ H Q := by
  obtain ⟨w, ok, rfl, ρ, rr, h⟩ := h
  refine ⟨w, ok, rfl, ρ, rr, h.bind fun w1 x v le1 ok1 r1 h1 => ?_⟩
  rw [r1.isN]
  cases x <;> exact Fin.now h1 ok1 mk_bl
theorem l_isN {a : Expr} {j} {pos pos' : Pos} {da : DE} (ha : PE X a (LE X.K X.mg W da)) : PE X (.Compare a [.Is] [.Constant .none j pos'] pos) (LE X.K X.mg W (eUn dIsN da)) := (pe_cmp (pc_isN ha)).imp fun _ _ _ => i_isN
theorem l_notN {a : Expr} {j} {pos pos' : Pos} {da : DE} (ha : PE X a (LE X.K X.mg W da)) : PE X (.Compare a [.IsNot] [.Constant .none j pos'] pos) (LE X.K X.mg W (eUn dNotN da)) := (pe_cmp (pc_notN ha)).imp fun _ _ _ => i_notN
theorem lt_isN {a : Expr} {j} {pos pos' : Pos} {da : DE} (ha : PE X a (LE X.K X.mg W da)) : PT X (.Compare a [.Is] [.Constant .none j pos'] pos) (LT X.K X.mg W (eT (eUn dIsN da))) := (pt_cmp (pc_isN ha)).imp fun _ _ _ h => i_test (fun _ _ _ => i_isN) h
theorem lt_notN {a : Expr} {j} {pos pos' : Pos} {da : DE} (ha : PE X a (LE X.K X.mg W da)) : PT X (.Compare a [.IsNot] [.Constant .none j pos'] pos) (LT X.K X.mg W (eT (eUn dNotN da))) := (pt_cmp (pc_notN ha)).imp fun _ _ _ h => i_test (fun _ _ _ => i_notN) h
/-! ## subscripts -/
def dIx : D → D → Sto → Res D
  | .tup xs, .int i, S => match atI xs i with
    | some d => .ok d S
    | none => .bad
  | .obj n, .int i, S => match (lstOf S n).bind fun xs => atI xs i with
    | some d => .ok d S
    | none => .bad
  | .str z, .int i, S => if z.length ≤ sizeLine then (match atI z.cps.toList i with
    | some c => .ok (.str ⟨#[c]⟩) S
    | none => .bad) else .bad
  | _, _, _ => .bad
theorem Rvs.atI {w : Wo} {ds : List D} {vs : List V} {i : Int} {d : D} (r : Rvs K mg w ds vs) (h : atI ds i = some d) : ∃ v, L2.atI vs i = some v ∧ Rv K mg w d v := by
  unfold L2.atI at h ⊢
  rw [r.len]
  obtain ⟨j, e1, e2⟩ := Option.bind_eq_some_iff.mp h
  obtain ⟨v, e3, r3⟩ := r.get e2
  exact ⟨v, by rw [e1]; exact e3, r3⟩
theorem o_ix : Op2 K mg (rIx K) dIx := by
  intro w a b v u Q E ok ra rb h
  unfold dIx at h
  split at h
  · split at h
    · rename_i xs i S d e
      obtain ⟨p, vs, rfl, t, r⟩ := ra.tup
      obtain ⟨z, e2, r2⟩ := r.atI e
      rw [rb.int]
      exact .inr (.inl ⟨p, vs, i, z, rfl, rfl, t, e2, Fin.now h ok r2⟩)
    · exact h.elim
  · split at h
    · rename_i n i S d e
      obtain ⟨_, rfl⟩ := ra.obj
      obtain ⟨xs, e3, e4⟩ := Option.bind_eq_some_iff.mp e
      obtain ⟨vs, t, r⟩ := lst_at ok e3
      obtain ⟨z, e2, r2⟩ := r.atI e4
      rw [rb.int]
      exact .inl ⟨_, vs, i, z, rfl, rfl, t, e2, Fin.now h ok r2⟩
    · exact h.elim
  · split at h
    · rename_i hz
      split at h
      · rename_i c e
        rw [ra.str, rb.int]
        exact .inr (.inr ⟨_, _, c, rfl, rfl, hz, e, Fin.now h ok mk_str⟩)
      · exact h.elim
    · exact h.elim
  · exact h.elim
/-! ## slices -/
def cutL {α : Type} (xs : List α) (lo hi : Option Int) : List α := (xs.drop (HT.sIx xs.length 0 lo)).take (HT.sIx xs.length xs.length hi - HT.sIx xs.length 0 lo)
theorem Rvs.cut {w : Wo} {ds : List D} {vs : List V} (r : Rvs K mg w ds vs) (lo hi : Option Int) : Rvs K mg w (cutL ds lo hi) (cutV vs lo hi) := by
  unfold cutL cutV
  rw [r.len]
  exact (r.drop _).take _
theorem cutL_whole {α : Type} {xs : List α} {lo hi : Option Int} (h : HT.sIx xs.length 0 lo = 0 ∧ HT.sIx xs.length xs.length hi = xs.length) : cutL xs lo hi = xs := by
  unfold cutL
  rw [h.1, h.2, List.drop_zero, Nat.sub_zero, List.take_length]
def dSl : D → Option Int → Option Int → Sto → Res D
  | .tup xs, lo, hi, S => .ok (.tup (cutL xs lo hi)) S
  | .obj n, lo, hi, S => match lstOf S n with
    | some xs => mkLst (cutL xs lo hi) S
    | none => .bad
  | .str z, lo, hi, S => if z.length ≤ sizeLine then .ok (.str (cutS z lo hi)) S else .bad
  | .kl xs, lo, hi, S => mkLst (cutL xs lo hi) S
  | _, _, _, _ => .bad
abbrev DO := Env → Sto → Res (Option Int)
def eNo (_ : Env) (S : Sto) : Res (Option Int) := .ok none S
def eSo1 : D → Sto → Res (Option Int)
  | .int i, S1 => .ok (some i) S1
  | _, _ => .bad
def eSo (da : DE) (ρ : Env) (S : Sto) : Res (Option Int) := (da ρ S).bind eSo1
def Ro (_ : Wo) (a b : Option Int) : Prop := a = b
def LO (K : PySem.W.Frag) (mg : Str → Option Value) (W : WX) (de : DO) : TO := fun σ H Q => ∃ w : Wo, w.Ok K mg ∧ w.H = H ∧ ∃ ρ, Rσ K mg w ρ σ ∧ Fin K mg w Ro (de ρ w.S) Q (XW K mg W σ)
theorem _root_.L2.PO.imp {e : Option Expr} {t t' : TO} (h : PO X e t) (k : ∀ σ H Q, t' σ H Q → t σ H Q) : PO X e t' := ⟨fun pins s σ H Q I ht => h.run pins s σ H Q I (k _ _ _ ht)⟩
theorem lo_none : PO X none (LO X.K X.mg W eNo) := po_none.imp fun _ _ _ h => by
  obtain ⟨w, ok, rfl, ρ, rr, h⟩ := h
  exact Fin.now h ok rfl
theorem lo_some {e : Expr} {da : DE} (ha : PE X e (LE X.K X.mg W da)) : PO X (some e) (LO X.K X.mg W (eSo da)) := (po_some ha).imp fun _ _ _ h => by
  obtain ⟨w, ok, rfl, ρ, rr, h⟩ := h
  refine ⟨w, ok, rfl, ρ, rr, Fin.bind (R' := Ro) h fun w1 x v le1 ok1 r1 h1 => ?_⟩
  cases x with
  | int i => exact ⟨i, r1.int, Fin.now h1 ok1 rfl⟩
  | _ => exact h1.elim
def eSl2 (dh : DO) (ρ : Env) (x : D) (l : Option Int) (S2 : Sto) : Res D := (dh ρ S2).bind (dSl x l)
def eSl1 (dl dh : DO) (ρ : Env) (x : D) (S1 : Sto) : Res D := (dl ρ S1).bind (eSl2 dh ρ x)
def eSl (da : DE) (dl dh : DO) (ρ : Env) (S : Sto) : Res D := (da ρ S).bind (eSl1 dl dh ρ)
def rSlX (K : PySem.W.Frag) : V → Option Int → Option Int → Hp → VK → Prop := fun x lo hi H Q => rSlL K x lo hi H Q ∨ rSlA K x lo hi H Q ∨ (∃ z, x = .str z ∧ z.length ≤ sizeLine ∧ Q (.str (cutS z lo hi)) H)
theorem l_slice {e : Expr} {lo hi : Option Expr} {pos p2 : Pos} {da : DE} {dl dh : DO} (hs : SlR X (rSlX X.K)) (ha : PE X e (LE X.K X.mg W da)) (hl : PO X lo (LO X.K X.mg W dl)) (hh : PO X hi (LO X.K X.mg W dh)) : PE X (.Subscript e (.Slice lo hi none p2) pos) (LE X.K X.mg W (eSl da dl dh)) :=
  (pe_slice hs ha hl hh).imp fun _ _ _ h => by
    obtain ⟨w, ok, rfl, ρ, rr, h⟩ := h
    refine ⟨w, ok, rfl, ρ, rr, h.bind fun w1 x v le1 ok1 r1 h1 => ?_⟩
    have rr1 := rr.up ok le1
    refine ⟨w1, ok1, rfl, ρ, rr1, h1.bind fun w2 l l' le2 ok2 r2 h2 => ?_⟩
    have r2 : l = l' := r2
    subst r2
    have rr2 := rr1.up ok1 le2
    refine ⟨w2, ok2, rfl, ρ, rr2, h2.bind fun w3 u u' le3 ok3 r3 h3 => ?_⟩
    have r3 : u = u' := r3
    subst r3
    have r1 := (r1.up ok1 le2).up ok2 le3
    unfold dSl at h3
    split at h3
    · obtain ⟨p, vs, rfl, t, r⟩ := r1.tup
      refine .inr (.inl ⟨p, vs, rfl, t, fun hw => ?_, fun hw q hq => h3.newTup ok3 hq (r.cut _ _)⟩)
      rw [r.len] at hw
      rw [cutL_whole hw] at h3
      exact Fin.now h3 ok3 (mk_tup t r)
    · split at h3
      · rename_i xs e
        obtain ⟨_, rfl⟩ := r1.obj
        obtain ⟨vs, t, r⟩ := lst_at ok3 e
        exact .inl ⟨_, vs, rfl, t, fun q hq => h3.newLst ok3 hq (r.cut _ _)⟩
      · exact h3.elim
    · split at h3
      · rename_i hz
        rw [r1.str]
        exact .inr (.inr ⟨_, rfl, hz, Fin.now h3 ok3 mk_str⟩)
      · exact h3.elim
    · obtain ⟨p, vs, rfl, t, r⟩ := r1.kl
      exact .inl ⟨_, vs, rfl, t.L, fun q hq => h3.newLst ok3 hq (r.cut _ _)⟩
    · exact h3.elim
/-! ## calls of built-ins -/
def Opn (K : PySem.W.Frag) (mg : Str → Option Value) (r : List V → Hp → VK → Prop) (f : List D → Sto → Res D) : Prop := ∀ (w : Wo) (ds : List D) (vs : List V) (Q : VK) (E : Str → List (Str × D) → Wo → Prop), w.Ok K mg → Rvs K mg w ds vs → Fin K mg w (Rv K mg) (f ds w.S) Q E → r vs w.H Q
def eCall (f : DF) (da : DA) (ρ : Env) (S : Sto) : Res D := (da ρ S).bind f
theorem i_callB {r : List V → Hp → VK → Prop} {f : DF} {da : DA} (o : Opn K mg r f) {σ : St} {H : Hp} {Q : VK} (h : LE K mg W (eCall f da) σ H Q) : tCB r (LA K mg W da) σ H Q := by
  obtain ⟨w, ok, rfl, ρ, rr, h⟩ := h
  exact ⟨w, ok, rfl, ρ, rr, h.bind fun w1 x v le1 ok1 r1 h1 => o w1 x v Q _ ok1 r1 h1⟩
variable {e : Expr} {es : List Expr} {x : Str} {p pos : Pos} {id T : String} {r : List V → Hp → VK → Prop} {f : DF} {da : DA}
theorem l_callB (hc : CallR X (.builtin id) r) (o : Opn X.K X.mg r f) (hg : Gl X x) (hm : X.mg x = none) (hv : bootBuiltins x = some (.builtin id)) (ha : PA X (e :: es) (LA X.K X.mg W da)) (hn : x ≠ "__name__" := by decide) (hdb : (x == ("__debug__" : Str)) = false := by decide)
    (he : starEach (e :: es) X.env = (false, eval e X.env) :: starEach es X.env := by rfl) (hpl : (backTo pos (starEach es X.env)).any (·.1) = false := by rfl) : PE X (.Call (.Name x p) (e :: es) [] pos) (LE X.K X.mg W (eCall f da)) := (pe_callB hc hg hm hv ha hn hdb he hpl).imp fun _ _ _ => i_callB o
theorem l_callTy (hc : CallR X (.type T) r) (o : Opn X.K X.mg r f) (hg : Gl X x) (hm : X.mg x = none) (hv : bootBuiltins x = some (.type T)) (ha : PA X (e :: es) (LA X.K X.mg W da)) (hn : x ≠ "__name__" := by decide) (hdb : (x == ("__debug__" : Str)) = false := by decide)
    (he : starEach (e :: es) X.env = (false, eval e X.env) :: starEach es X.env := by rfl) (hpl : (backTo pos (starEach es X.env)).any (·.1) = false := by rfl) : PE X (.Call (.Name x p) (e :: es) [] pos) (LE X.K X.mg W (eCall f da)) := (pe_callTy hc hg hm hv ha hn hdb he hpl).imp fun _ _ _ => i_callB o
theorem Rvs.one {w : Wo} {d : D} {vs : List V} (h : Rvs K mg w [d] vs) : ∃ v, vs = [v] ∧ Rv K mg w d v := by
  rw [Rvs] at h
  obtain ⟨v, q, e, r1, r2⟩ := h
  rw [Rvs] at r2
  exact ⟨v, by rw [e, r2], r1⟩
theorem Rvs.two {w : Wo} {d d2 : D} {vs : List V} (h : Rvs K mg w [d, d2] vs) : ∃ v u, vs = [v, u] ∧ Rv K mg w d v ∧ Rv K mg w d2 u := by
  rw [Rvs] at h
  obtain ⟨v, q, e, r1, r2⟩ := h
  obtain ⟨u, e2, r3⟩ := r2.one
  exact ⟨v, u, by rw [e, e2], r1, r3⟩
def dLen : DF
  | [.tup xs], S => .ok (.int xs.length) S
  | [.str z], S => if z.length ≤ sizeLine then .ok (.int z.length) S else .bad
  | [.obj n], S => match S[n]? with
    | some (.lst xs) => .ok (.int xs.length) S
    | some (.dk xs) => .ok (.int xs.length) S
    | some (.dt xs) => .ok (.int xs.length) S
    | _ => .bad
  | _, _ => .bad
def rLenA (K : PySem.W.Frag) : List V → Hp → VK → Prop := fun xs H Q => (∃ p ys, xs = [.ref p] ∧ (SqL K H p ys ∨ SqT K H p ys) ∧ Q (.int ys.length) H) ∨ (∃ z, xs = [.str z] ∧ z.length ≤ sizeLine ∧ Q (.int z.length) H) ∨ (∃ a kvs, xs = [V.ref a] ∧ H a = some (.dK kvs) ∧ Q (.int kvs.length) H) ∨ rLenT xs H Q
theorem call_lenA : CallR X (.builtin "len") (rLenA X.K) := call_len_seq.or (call_len_str.or (call_lenD.or call_len_dT))
theorem Rkv.len {κ : Type} {w : Wo} : ∀ {ps : List (κ × D)} {vs : List (κ × V)}, Rkv K mg w ps vs → vs.length = ps.length
  | [], vs, r => by
    have e : vs = [] := r
    rw [e]
    rfl
  | p :: ps, vs, r => by
    obtain ⟨v, q, e, _, r2⟩ := r
    rw [e, List.length_cons, List.length_cons, Rkv.len r2]
theorem o_len : Opn K mg (rLenA K) dLen := by
  intro w ds vs Q E ok r h
  unfold dLen at h
  split at h
  · obtain ⟨v, rfl, r1⟩ := r.one
    obtain ⟨p, us, rfl, t, r2⟩ := r1.tup
    refine .inl ⟨p, us, rfl, .inr t, ?_⟩
    rw [r2.len]
    exact Fin.now h ok mk_int
  · obtain ⟨v, rfl, r1⟩ := r.one
    split at h
    · rename_i hz
      rw [r1.str]
      exact .inr (.inl ⟨_, rfl, hz, Fin.now h ok mk_int⟩)
    · exact h.elim
  · obtain ⟨v, rfl, r1⟩ := r.one
    obtain ⟨_, rfl⟩ := r1.obj
    split at h
    · rename_i e
      obtain ⟨us, t, r2⟩ := lst_at ok (n := _) (by unfold lstOf; rw [e])
      refine .inl ⟨_, us, rfl, .inl t, ?_⟩
      rw [r2.len]
      exact Fin.now h ok mk_int
    · rename_i e
      obtain ⟨us, t, r2⟩ := ok.has _ _ e
      refine .inr (.inr (.inl ⟨_, us, rfl, t, ?_⟩))
      rw [r2.len]
      exact Fin.now h ok mk_int
    · rename_i e
      obtain ⟨us, t, r2⟩ := ok.has _ _ e
      refine .inr (.inr (.inr ⟨_, us, rfl, t, ?_⟩))
      rw [r2.len]
      exact Fin.now h ok mk_int
    · exact h.elim
  · exact h.elim
def dInt : DF
  | [.int i], S => .ok (.int i) S
  | [.bl k], S => .ok (.int (if k then 1 else 0)) S
  | _, _ => .bad
theorem o_int : Opn K mg (fun xs H Q => (∃ i, xs = [.int i] ∧ Q (.int i) H) ∨ ∃ k, xs = [.bl k] ∧ Q (.int (if k then 1 else 0)) H) dInt := by
  intro w ds vs Q E ok r h
  unfold dInt at h
  split at h
  · obtain ⟨v, rfl, r1⟩ := r.one
    rw [r1.int]
    exact .inl ⟨_, rfl, Fin.now h ok mk_int⟩
  · obtain ⟨v, rfl, r1⟩ := r.one
    rw [r1.bl]
    exact .inr ⟨_, rfl, Fin.now h ok mk_int⟩
  · exact h.elim
def dAbs : DF
  | [.int i], S => .ok (.int (if i < 0 then -i else i)) S
  | _, _ => .bad
theorem o_abs : Opn K mg (fun xs H Q => ∃ i, xs = [.int i] ∧ Q (.int (if i < 0 then -i else i)) H) dAbs := by
  intro w ds vs Q E ok r h
  unfold dAbs at h
  split at h
  · obtain ⟨v, rfl, r1⟩ := r.one
    rw [r1.int]
    exact ⟨_, rfl, Fin.now h ok mk_int⟩
  · exact h.elim
def dMax2 : DF
  | [.int i, .int j], S => .ok (.int (if j > i then j else i)) S
  | _, _ => .bad
theorem o_max2 : Opn K mg (fun xs H Q => ∃ i j, xs = [.int i, .int j] ∧ Q (.int (if j > i then j else i)) H) dMax2 := by
  intro w ds vs Q E ok r h
  unfold dMax2 at h
  split at h
  · obtain ⟨v, u, rfl, r1, r2⟩ := r.two
    rw [r1.int, r2.int]
    exact ⟨_, _, rfl, Fin.now h ok mk_int⟩
  · exact h.elim
def dMin2 : DF
  | [.int i, .int j], S => .ok (.int (if j < i then j else i)) S
  | _, _ => .bad
theorem o_min2 : Opn K mg (fun xs H Q => ∃ i j, xs = [.int i, .int j] ∧ Q (.int (if j < i then j else i)) H) dMin2 := by
  intro w ds vs Q E ok r h
  unfold dMin2 at h
  split at h
  · obtain ⟨v, u, rfl, r1, r2⟩ := r.two
    rw [r1.int, r2.int]
    exact ⟨_, _, rfl, Fin.now h ok mk_int⟩
  · exact h.elim
def dStr : DF
  | [.int i], S => if i.natAbs.log2 < 1920 then .ok (.str (toString i)) S else .bad
  | _, _ => .bad
theorem o_str : Opn K mg (fun xs H Q => ∃ i, xs = [.int i] ∧ i.natAbs.log2 < 1920 ∧ Q (.str (toString i)) H) dStr := by
  intro w ds vs Q E ok r h
  unfold dStr at h
  split at h
  · obtain ⟨v, rfl, r1⟩ := r.one
    split at h
    · rename_i hz
      rw [r1.int]
      exact ⟨_, rfl, hz, Fin.now h ok mk_str⟩
    · exact h.elim
  · exact h.elim
def seqOf (d : D) (S : Sto) : Option (List D) := match d with
  | .tup xs => some xs
  | .obj n => lstOf S n
  | .kl xs => some xs
  | _ => none
theorem seq_at {w : Wo} (ok : w.Ok K mg) {d : D} {v : V} {xs : List D} (r : Rv K mg w d v) (h : seqOf d w.S = some xs) : ∃ p vs, v = .ref p ∧ (SqL K w.H p vs ∨ SqT K w.H p vs) ∧ Rvs K mg w xs vs := by
  unfold seqOf at h
  split at h
  · obtain ⟨p, vs, e, t, r2⟩ := r.tup
    rw [← Option.some.inj h]
    exact ⟨p, vs, e, .inr t, r2⟩
  · obtain ⟨_, e⟩ := r.obj
    obtain ⟨vs, t, r2⟩ := lst_at ok h
    exact ⟨_, vs, e, .inl t, r2⟩
  · obtain ⟨p, vs, e, t, r2⟩ := r.kl
    rw [← Option.some.inj h]
    exact ⟨p, vs, e, .inl t.L, r2⟩
  · cases h
def dList : DF
  | [d], S => match seqOf d S with
    | some xs => mkLst xs S
    | none => .bad
  | _, _ => .bad
theorem o_list : Opn K mg (fun xs H Q => ∃ p ys, xs = [.ref p] ∧ (SqL K H p ys ∨ SqT K H p ys) ∧ ∀ l, H l = none → Q (.ref l) (upd H l (.lst ys))) dList := by
  intro w ds vs Q E ok r h
  unfold dList at h
  split at h
  · obtain ⟨v, rfl, r1⟩ := r.one
    split at h
    · rename_i e
      obtain ⟨p, us, rfl, t, r2⟩ := seq_at ok r1 e
      exact ⟨p, us, rfl, t, fun l hl => h.newLst ok hl r2⟩
    · exact h.elim
  · exact h.elim
def dTuple : DF
  | [.tup xs], S => .ok (.tup xs) S
  | [.obj n], S => match lstOf S n with
    | some xs => .ok (.tup xs) S
    | none => .bad
  | _, _ => .bad
theorem o_tuple : Opn K mg (fun xs H Q => ∃ p ys, xs = [.ref p] ∧ ((SqL K H p ys ∧ ∀ l, H l = none → Q (.ref l) (upd H l (.tup ys))) ∨ (SqT K H p ys ∧ Q (.ref p) H))) dTuple := by
  intro w ds vs Q E ok r h
  unfold dTuple at h
  split at h
  · obtain ⟨v, rfl, r1⟩ := r.one
    obtain ⟨p, us, rfl, t, r2⟩ := r1.tup
    exact ⟨p, us, rfl, .inr ⟨t, Fin.now h ok (mk_tup t r2)⟩⟩
  · obtain ⟨v, rfl, r1⟩ := r.one
    obtain ⟨_, rfl⟩ := r1.obj
    split at h
    · rename_i e
      obtain ⟨us, t, r2⟩ := lst_at ok e
      exact ⟨_, us, rfl, .inl ⟨t, fun l hl => h.newTup ok hl r2⟩⟩
    · exact h.elim
  · exact h.elim
/-! ## isinstance -/
theorem SqL.ty {H : Hp} {a : Addr} {xs : List V} (h : SqL K H a xs) : TyX K H (.ref a) (.type "list") := by
  rcases h with (h | ⟨o, h⟩) | ⟨o, its, n, h, hc, _⟩
  · exact .base (.lst h)
  · exact .base (.frz h)
  · exact .kList h hc
theorem SqT.ty {H : Hp} {a : Addr} {xs : List V} (h : SqT K H a xs) : TyX K H (.ref a) (.type "tuple") := by
  rcases h with (h | ⟨o, h⟩) | ⟨o, its, n, h, hc, _⟩
  · exact .base (.tup h)
  · exact .fTuple h
  · exact .kTuple h hc
def tyOf : D → Sto → Option String
  | .non, _ => some "NoneType"
  | .bl _, _ => some "bool"
  | .int _, _ => some "int"
  | .str _, _ => some "str"
  | .tup _, _ => some "tuple"
  | .obj n, S => match lstOf S n with
    | some _ => some "list"
    | none => none
  | _, _ => none
theorem ty_at {w : Wo} (ok : w.Ok K mg) {d : D} {v : V} {t : String} (r : Rv K mg w d v) (h : tyOf d w.S = some t) : TyX K w.H v (.type t) := by
  unfold tyOf at h
  split at h
  · rw [r.non, ← Option.some.inj h]; exact .base .non
  · rw [r.bl, ← Option.some.inj h]; exact .base (.bl _)
  · rw [r.int, ← Option.some.inj h]; exact .base (.int _)
  · rw [r.str, ← Option.some.inj h]; exact .base (.str _)
  · obtain ⟨p, vs, e, t, _⟩ := r.tup
    rw [e, ← Option.some.inj h]
    exact SqT.ty t
  · obtain ⟨_, e⟩ := r.obj
    split at h
    · rename_i e2
      obtain ⟨vs, t, _⟩ := lst_at ok e2
      rw [e, ← Option.some.inj h]
      exact SqL.ty t
    · cases h
  · cases h
def dIsi : DF
  | [d, .ty T], S => match (tyOf d S).bind fun t => kitB t T with
    | some b => .ok (.bl b) S
    | none => .bad
  | _, _ => .bad
theorem o_isi : Opn K mg (rIsi K) dIsi := by
  intro w ds vs Q E ok r h
  unfold dIsi at h
  split at h
  · obtain ⟨v, u, rfl, r1, r2⟩ := r.two
    split at h
    · rename_i b e
      obtain ⟨t, e1, e2⟩ := Option.bind_eq_some_iff.mp e
      rw [r2.ty]
      exact ⟨v, _, _, _, b, rfl, .ty _, ty_at ok r1 e1, kit_ty e2, Fin.now h ok mk_bl⟩
    · exact h.elim
  · exact h.elim
/-! ## sums, least, greatest of a list of ints -/
def asInts : List D → Option (List Int)
  | [] => some []
  | .int i :: ds => (asInts ds).map fun r => i :: r
  | _ => none
theorem Rvs.ints {w : Wo} : ∀ {ds : List D} {vs : List V} {ns : List Int}, Rvs K mg w ds vs → O.asInts ds = some ns → vs = ns.map V.int
  | [], vs, ns, r, e => by
    rw [Rvs] at r
    rw [r, ← Option.some.inj e]
    rfl
  | .int i :: ds, vs, ns, r, e => by
    rw [Rvs] at r
    obtain ⟨v, q, e1, r1, r2⟩ := r
    obtain ⟨ms, e2, e3⟩ := Option.map_eq_some_iff.mp e
    rw [e1, r1.int, Rvs.ints r2 e2, ← e3]
    rfl
  | .non :: ds, vs, ns, r, e => by cases e
  | .bl _ :: ds, vs, ns, r, e => by cases e
  | .str _ :: ds, vs, ns, r, e => by cases e
  | .tup _ :: ds, vs, ns, r, e => by cases e
  | .obj _ :: ds, vs, ns, r, e => by cases e
  | .fn _ :: ds, vs, ns, r, e => by cases e
  | .ty _ :: ds, vs, ns, r, e => by cases e
  | .raw _ :: ds, vs, ns, r, e => by cases e
  | .kl _ :: ds, vs, ns, r, e => by cases e
def intsOf (d : D) (S : Sto) : Option (List Int) := match d with
  | .obj n => (lstOf S n).bind asInts
  | .tup xs => asInts xs
  | _ => none
theorem ints_at {w : Wo} (ok : w.Ok K mg) {d : D} {v : V} {ns : List Int} (r : Rv K mg w d v) (h : intsOf d w.S = some ns) : ∃ p, v = .ref p ∧ (SqL K w.H p (ns.map V.int) ∨ SqT K w.H p (ns.map V.int)) := by
  unfold intsOf at h
  split at h
  · obtain ⟨_, e⟩ := r.obj
    obtain ⟨xs, e1, e2⟩ := Option.bind_eq_some_iff.mp h
    obtain ⟨vs, t, r2⟩ := lst_at ok e1
    rw [r2.ints e2] at t
    exact ⟨_, e, .inl t⟩
  · obtain ⟨a, vs, e, t, r2⟩ := r.tup
    rw [r2.ints h] at t
    exact ⟨_, e, .inr t⟩
  · cases h
def dSum : DF
  | [d], S => match intsOf d S with
    | some ns => .ok (.int ns.sum) S
    | none => .bad
  | _, _ => .bad
theorem o_sum : Opn K mg (fun vs H Q => rSum K vs H Q ∨ rSumT K vs H Q) dSum := by
  intro w ds vs Q E ok r h
  unfold dSum at h
  split at h
  · obtain ⟨v, rfl, r1⟩ := r.one
    split at h
    · rename_i e
      obtain ⟨p, rfl, t⟩ := ints_at ok r1 e
      rcases t with t | t
      · exact .inl ⟨p, _, rfl, t, Fin.now h ok mk_int⟩
      · exact .inr ⟨p, _, rfl, t, Fin.now h ok mk_int⟩
    · exact h.elim
  · exact h.elim
def greatest : List Int → Int
  | [] => 0
  | [i] => i
  | i :: r => max i (greatest r)
def least : List Int → Int
  | [] => 0
  | [i] => i
  | i :: r => min i (least r)
theorem greatest_is : ∀ (ns : List Int) (m : Int), m ∈ ns → (∀ y ∈ ns, y ≤ m) → m = greatest ns
  | [], m, h, _ => by cases h
  | [i], m, h, _ => List.mem_singleton.mp h
  | i :: j :: r, m, h, k => by
    show m = max i (greatest (j :: r))
    have all : ∀ (ns : List Int), ns ≠ [] → greatest ns ∈ ns ∧ ∀ y ∈ ns, y ≤ greatest ns := by
      intro ns
      induction ns with
      | nil => intro h; exact absurd rfl h
      | cons a l ih =>
        intro _
        cases l with
        | nil => exact ⟨List.mem_singleton.mpr rfl, fun y hy => by rw [List.mem_singleton.mp hy]; exact Int.le_refl _⟩
        | cons b l =>
          obtain ⟨h1, h2⟩ := ih (by intro z; cases z)
          have e : greatest (a :: b :: l) = max a (greatest (b :: l)) := rfl
          rw [e]
          refine ⟨?_, fun y hy => ?_⟩
          · by_cases hab : a ≤ greatest (b :: l)
            · rw [Int.max_eq_right hab]; exact List.mem_cons_of_mem _ h1
            · rw [Int.max_eq_left (by omega)]; exact List.mem_cons_self
          · rcases List.mem_cons.mp hy with e | e
            · rw [e]; exact Int.le_max_left _ _
            · exact Int.le_trans (h2 y e) (Int.le_max_right _ _)
    obtain ⟨a1, a2⟩ := all (i :: j :: r) (by intro z; cases z)
    have x1 := k _ a1
    have x2 := a2 m h
    have e : greatest (i :: j :: r) = max i (greatest (j :: r)) := rfl
    rw [← e]
    omega
theorem least_is : ∀ (ns : List Int) (m : Int), m ∈ ns → (∀ y ∈ ns, m ≤ y) → m = least ns
  | [], m, h, _ => by cases h
  | [i], m, h, _ => List.mem_singleton.mp h
  | i :: j :: r, m, h, k => by
    show m = min i (least (j :: r))
    have all : ∀ (ns : List Int), ns ≠ [] → least ns ∈ ns ∧ ∀ y ∈ ns, least ns ≤ y := by
      intro ns
      induction ns with
      | nil => intro h; exact absurd rfl h
      | cons a l ih =>
        intro _
        cases l with
        | nil => exact ⟨List.mem_singleton.mpr rfl, fun y hy => by rw [List.mem_singleton.mp hy]; exact Int.le_refl _⟩
        | cons b l =>
          obtain ⟨h1, h2⟩ := ih (by intro z; cases z)
          have e : least (a :: b :: l) = min a (least (b :: l)) := rfl
          rw [e]
          refine ⟨?_, fun y hy => ?_⟩
          · by_cases hab : a ≤ least (b :: l)
            · rw [Int.min_eq_left hab]; exact List.mem_cons_self
            · rw [Int.min_eq_right (by omega)]; exact List.mem_cons_of_mem _ h1
          · rcases List.mem_cons.mp hy with e | e
            · rw [e]; exact Int.min_le_left _ _
            · exact Int.le_trans (Int.min_le_right _ _) (h2 y e)
    obtain ⟨a1, a2⟩ := all (i :: j :: r) (by intro z; cases z)
    have x1 := k _ a1
    have x2 := a2 m h
    have e : least (i :: j :: r) = min i (least (j :: r)) := rfl
    rw [← e]
    omega
def dMaxL : DF
  | [d], S => match intsOf d S with
    | some ns => if 0 < ns.length then .ok (.int (greatest ns)) S else .bad
    | none => .bad
  | _, _ => .bad
theorem o_maxL : Opn K mg (fun vs H Q => rMax K vs H Q ∨ rMaxT K vs H Q) dMaxL := by
  intro w ds vs Q E ok r h
  unfold dMaxL at h
  split at h
  · obtain ⟨v, rfl, r1⟩ := r.one
    split at h
    · rename_i e
      split at h
      · rename_i hl
        obtain ⟨p, rfl, t⟩ := ints_at ok r1 e
        rcases t with t | t
        · refine .inl ⟨p, _, rfl, t, hl, fun m h1 h2 => ?_⟩
          rw [greatest_is _ m h1 h2]
          exact Fin.now h ok mk_int
        · refine .inr ⟨p, _, rfl, t, hl, fun m h1 h2 => ?_⟩
          rw [greatest_is _ m h1 h2]
          exact Fin.now h ok mk_int
      · exact h.elim
    · exact h.elim
  · exact h.elim
def dMinL : DF
  | [d], S => match intsOf d S with
    | some ns => if 0 < ns.length then .ok (.int (least ns)) S else .bad
    | none => .bad
  | _, _ => .bad
theorem o_minL : Opn K mg (fun vs H Q => rMin K vs H Q ∨ rMinT K vs H Q) dMinL := by
  intro w ds vs Q E ok r h
  unfold dMinL at h
  split at h
  · obtain ⟨v, rfl, r1⟩ := r.one
    split at h
    · rename_i e
      split at h
      · rename_i hl
        obtain ⟨p, rfl, t⟩ := ints_at ok r1 e
        rcases t with t | t
        · refine .inl ⟨p, _, rfl, t, hl, fun m h1 h2 => ?_⟩
          rw [least_is _ m h1 h2]
          exact Fin.now h ok mk_int
        · refine .inr ⟨p, _, rfl, t, hl, fun m h1 h2 => ?_⟩
          rw [least_is _ m h1 h2]
          exact Fin.now h ok mk_int
      · exact h.elim
    · exact h.elim
  · exact h.elim
end

section
variable {K : PySem.W.Frag} {mg : Str → Option Value} {X : Cx} {W : WX} {pos : Pos} {a b c e : Expr} {es : List Expr}
/-! ## defs -/
def endR : RS → Res D
  | .nx _ S' => .ok .non S'
  | .rt d S' => .ok d S'
  | .exc c fs _ S' => .exc c fs S'
  | .bk _ _ => .bad
  | .ct _ _ => .bad
  | .bad => .bad
def runD (n m : Nat) (body : DS) : DF := fun args S => if args.length = n then endR (body (args.map some ++ List.replicate (m - n) none) S) else .bad
def Ar (n : Nat) (f : DF) : Prop := ∀ ds S, ds.length ≠ n → f ds S = .bad
theorem runD_ar (n m : Nat) (body : DS) : Ar n (runD n m body) := fun ds S h => if_neg h
def badF : DF := fun _ _ => .bad
theorem badF_ar (n : Nat) : Ar n badF := fun _ _ _ => rfl
def EW (K : PySem.W.Frag) (mg : Str → Option Value) (E : XK) : Str → List (Str × D) → Wo → Prop := fun c fs w => ∀ C d, mg c = some (.ref C) → Rxd K mg w fs d → E (.ref C) d w.H
/-- a def does what f says -/
def spD (K : PySem.W.Frag) (mg : Str → Option Value) (f : DF) : Sp := fun vs H Q E => ∃ (w : Wo) (ds : List D), w.Ok K mg ∧ w.H = H ∧ Rvs K mg w ds vs ∧ Fin K mg w (Rv K mg) (f ds w.S) Q (EW K mg E)
theorem i_call {f : DF} {da : DA} {σ : St} {H : Hp} {Q : VK} (h : LE K mg W (eCall f da) σ H Q) : tCallS (spD K mg f) (WE W) (LA K mg W da) σ H Q := by
  obtain ⟨w, ok, rfl, ρ, rr, h⟩ := h
  exact ⟨w, ok, rfl, ρ, rr, h.bind fun w1 x v le1 ok1 r1 h1 => ⟨w1, x, ok1, rfl, r1, h1⟩⟩
theorem l_call {k : Nat} {f : Addr} {fd : FuncData} {ps : List Str} {x : Str} {p : Pos} {fh : DF} {da : DA} (F : FnOk X.prog X.w X.K X.mg X.base (L2.CX X.prog X.w) k f fd ps (spD X.K X.mg fh)) (hr : Room k X.A) (hg : Gl X x) (hm : X.mg x = some (.ref f)) (hk : PySem.W.keepIn X.K (.ref f) = true) (hb : Binds X.K fd ps []) (tk : Takes X W)
    (ha : PA X (e :: es) (LA X.K X.mg W da)) (hdb : (x == ("__debug__" : Str)) = false := by decide) (he : starEach (e :: es) X.env = (false, eval e X.env) :: starEach es X.env := by rfl) (hpl : (backTo pos (starEach es X.env)).any (·.1) = false := by rfl) :
    PE X (.Call (.Name x p) (e :: es) [] pos) (LE X.K X.mg W (eCall fh da)) :=
  (pe_callS F hr hg hm hk hb (fun σ => passAt tk σ) ha hdb he hpl).imp fun _ _ _ => i_call
section
variable {P : Program} {wd : World} {base : Heap}
theorem d_ok {x qual : Str} {st : Stmt} {f : Addr} {fd : FuncData} {N ps : List Str} {k : Nat} {ds : DS} (F : Fun K x qual st f fd) (S : FnScope N ps (defScope st))
    (h : ∀ (cdv : Value) (A : Around) (outer : List PySem.Env) (s : Shared) (H : Hp) (E : XK), Room k (A.deeper (PyProof.Rows.envOfC qual (defScope st) s.heap.objs.size f cdv)) →
      Takes (cxOf (L2.CX P wd) P wd K mg base N qual (defScope st) f cdv A outer s H E) (fun cls d _ H => E cls d H) →
      PassesOwn (model P wd) (cxOf (L2.CX P wd) P wd K mg base N qual (defScope st) f cdv A outer s H E).A (cxOf (L2.CX P wd) P wd K mg base N qual (defScope st) f cdv A outer s H E).env (cxOf (L2.CX P wd) P wd K mg base N qual (defScope st) f cdv A outer s H E).xe →
      PSs (cxOf (L2.CX P wd) P wd K mg base N qual (defScope st) f cdv A outer s H E) (defBody st) (LS K mg (fun cls d _ H => E cls d H) ds)) :
    FnOk P wd K mg base (L2.CX P wd) (k + 1) f fd ps (spD K mg (runD ps.length N.length ds)) := by
  refine F.okX S (fun vs H Q E hs => ?_) (fun cdv A outer s H vs Q E hr hs => ⟨_, h cdv A outer s H E hr (takes_of rfl rfl rfl rfl) (passes_of (X := cxOf (L2.CX P wd) P wd K mg base N qual (defScope st) f cdv A outer s H E) rfl), ?_⟩)
  · obtain ⟨w, args, ok, e, r, hf⟩ := hs
    rw [r.len]
    by_cases hl : args.length = ps.length
    · exact hl
    · rw [runD_ar _ _ _ _ _ hl] at hf
      exact hf.elim
  · obtain ⟨w, args, ok, e, r, hf⟩ := hs
    subst e
    by_cases hl : args.length = ps.length
    · have r0 : ∀ (n : Nat), Rσ K mg w (List.replicate n none) (List.replicate n none) := fun n => by
        induction n with
        | zero => exact rfl
        | succ n ih => exact ⟨none, _, rfl, trivial, ih⟩
      have r1 : ∀ (ds : List D) (vs : List V) (n : Nat), Rvs K mg w ds vs → Rσ K mg w (ds.map some ++ List.replicate n none) (vs.map some ++ List.replicate n none) := fun ds => by
        induction ds with
        | nil =>
          intro vs n r
          rw [Rvs] at r
          rw [r]
          exact r0 n
        | cons d ds ih =>
          intro vs n r
          rw [Rvs] at r
          obtain ⟨v, q, e, r2, r3⟩ := r
          rw [e]
          exact ⟨some v, _, rfl, ⟨v, rfl, r2⟩, ih q n r3⟩
      refine ⟨w, ok, rfl, args.map some ++ List.replicate (N.length - ps.length) none, ?_, ?_⟩
      · unfold L2.start
        rw [r.len, hl]
        exact r1 args vs _ r
      · unfold runD at hf
        rw [if_pos hl] at hf
        cases e : ds (args.map some ++ List.replicate (N.length - ps.length) none) w.S with
        | nx ρ S =>
          rw [e] at hf
          exact fun w' σ le ok' es _ => hf w' .non le ok' es mk_non
        | rt d S =>
          rw [e] at hf
          exact fun w' v le ok' es r' => hf w' v le ok' es r'
        | exc c fs ρ S =>
          rw [e] at hf
          exact fun w' σ le ok' es _ => hf w' le ok' es
        | bk ρ S =>
          rw [e] at hf
          exact hf.elim
        | ct ρ S =>
          rw [e] at hf
          exact hf.elim
        | bad =>
          rw [e] at hf
          exact hf.elim
    · rw [runD_ar _ _ _ _ _ hl] at hf
      exact hf.elim
theorem bad_ok {f : Addr} {fd : FuncData} {ps : List Str} {k : Nat} : FnOk P wd K mg base (L2.CX P wd) k f fd ps (spD K mg badF) := by
  refine ⟨fun vs H Q E h => ?_, fun A outer s H args us vs Q E hr he hb hv h => ?_⟩
  · obtain ⟨_, _, _, _, _, h⟩ := h
    exact h.elim
  · obtain ⟨_, _, _, _, _, h⟩ := h
    exact h.elim
end
/-! ## statements -/
def seqR (t : DS) : RS → RS
  | .nx ρ' S' => t ρ' S'
  | .rt d S' => .rt d S'
  | .bk ρ' S' => .bk ρ' S'
  | .ct ρ' S' => .ct ρ' S'
  | .exc c fs ρ' S' => .exc c fs ρ' S'
  | .bad => .bad
def dSeq (s t : DS) (ρ : Env) (S : Sto) : RS := seqR t (s ρ S)
def dNext (ρ : Env) (S : Sto) : RS := .nx ρ S
def bindR (k : D → Env → Sto → RS) (ρ : Env) : Res D → RS
  | .ok d S' => k d ρ S'
  | .exc c fs S' => .exc c fs ρ S'
  | .bad => .bad
def dBind (de : DE) (k : D → Env → Sto → RS) (ρ : Env) (S : Sto) : RS := bindR k ρ (de ρ S)
def setK (i : Nat) (d : D) (ρ : Env) (S : Sto) : RS := .nx (ρ.set i (some d)) S
def exprK (_ : D) (ρ : Env) (S : Sto) : RS := .nx ρ S
def retK (d : D) (_ : Env) (S : Sto) : RS := .rt d S
def dSet (i : Nat) (de : DE) (ρ : Env) (S : Sto) : RS := dBind de (setK i) ρ S
def dExpr (de : DE) (ρ : Env) (S : Sto) : RS := dBind de exprK ρ S
def dRet (de : DE) (ρ : Env) (S : Sto) : RS := dBind de retK ρ S
def dRetN (_ : Env) (S : Sto) : RS := .rt .non S
def ifR (s u : DS) (ρ : Env) : Res Bool → RS
  | .ok true S' => s ρ S'
  | .ok false S' => u ρ S'
  | .exc c fs S' => .exc c fs ρ S'
  | .bad => .bad
def dIfS (t : DT) (s u : DS) (ρ : Env) (S : Sto) : RS := ifR s u ρ (t ρ S)
def dBreak (ρ : Env) (S : Sto) : RS := .bk ρ S
def dCont (ρ : Env) (S : Sto) : RS := .ct ρ S
theorem i_seq {s t : DS} {D' : Ends} {σ : St} {H : Hp} (h : LS K mg W (dSeq s t) D' σ H) : tSeq (LS K mg W s) (LS K mg W t) D' σ H := by
  obtain ⟨w, ok, rfl, ρ, rr, h⟩ := h
  refine ⟨w, ok, rfl, ρ, rr, ?_⟩
  unfold dSeq at h
  cases e : s ρ w.S with
  | nx ρ' S' =>
    rw [e] at h
    exact fun w' σ' le ok' es r => ⟨w', ok', rfl, ρ', r, FinS.up ok' le (by rw [es]; exact h)⟩
  | rt d S =>
    rw [e] at h
    exact h
  | bk ρ S =>
    rw [e] at h
    exact h
  | ct ρ S =>
    rw [e] at h
    exact h
  | exc c fs ρ S =>
    rw [e] at h
    exact h
  | bad =>
    rw [e] at h
    exact h
theorem i_bind {de : DE} {k : D → Env → Sto → RS} {D' : Ends} {σ : St} {H : Hp} {P : VK} (h : LS K mg W (dBind de k) D' σ H)
    (hk : ∀ (w : Wo) (d : D) (v : V) (ρ : Env), w.Ok K mg → Rv K mg w d v → Rσ K mg w ρ σ → FinS K mg W w (k d ρ w.S) D' → P v w.H) : LE K mg W de σ H P := by
  obtain ⟨w, ok, rfl, ρ, rr, h⟩ := h
  refine ⟨w, ok, rfl, ρ, rr, ?_⟩
  unfold dBind at h
  cases e : de ρ w.S with
  | ok d S =>
    rw [e] at h
    exact fun w' v le ok' es r => hk w' d v ρ ok' r (rr.up ok le) (FinS.up ok' le (by rw [es]; exact h))
  | exc c fs S =>
    rw [e] at h
    exact fun w' le ok' es => h w' σ le ok' es (rr.up ok le)
  | bad =>
    rw [e] at h
    exact h
theorem FinS.now {w : Wo} {ρ : Env} {D' : Ends} {σ : St} (h : FinS K mg W w (.nx ρ w.S) D') (ok : w.Ok K mg) (r : Rσ K mg w ρ σ) : D'.nx σ w.H := h w σ (Wo.Le.refl w) ok rfl r
theorem i_next {D' : Ends} {σ : St} {H : Hp} (h : LS K mg W dNext D' σ H) : tNext D' σ H := by
  obtain ⟨w, ok, rfl, ρ, rr, h⟩ := h
  exact h.now ok rr
theorem i_set {i : Nat} {de : DE} {D' : Ends} {σ : St} {H : Hp} (h : LS K mg W (dSet i de) D' σ H) : tAsg (LE K mg W de) (gName i) D' σ H :=
  i_bind h fun w d v ρ ok r rr h => h.now ok (rr.set r i)
theorem i_expr {de : DE} {D' : Ends} {σ : St} {H : Hp} (h : LS K mg W (dExpr de) D' σ H) : tDrop (LE K mg W de) D' σ H := i_bind h fun w d v ρ ok r rr h => h.now ok rr
theorem i_ret {de : DE} {D' : Ends} {σ : St} {H : Hp} (h : LS K mg W (dRet de) D' σ H) : tRet (LE K mg W de) D' σ H := i_bind h fun w d v ρ ok r rr h => h w v (Wo.Le.refl w) ok rfl r
theorem i_retN {D' : Ends} {σ : St} {H : Hp} (h : LS K mg W dRetN D' σ H) : tRetN D' σ H := by
  obtain ⟨w, ok, rfl, ρ, rr, h⟩ := h
  exact h w .non (Wo.Le.refl w) ok rfl mk_non
theorem i_break {D' : Ends} {σ : St} {H : Hp} (h : LS K mg W dBreak D' σ H) : tBreak D' σ H := by
  obtain ⟨w, ok, rfl, ρ, rr, h⟩ := h
  exact h w σ (Wo.Le.refl w) ok rfl rr
theorem i_cont {D' : Ends} {σ : St} {H : Hp} (h : LS K mg W dCont D' σ H) : tCont D' σ H := by
  obtain ⟨w, ok, rfl, ρ, rr, h⟩ := h
  exact h w σ (Wo.Le.refl w) ok rfl rr
theorem i_ifS {t : DT} {s u : DS} {D' : Ends} {σ : St} {H : Hp} (h : LS K mg W (dIfS t s u) D' σ H) : tIfS (LT K mg W t) (LS K mg W s) (LS K mg W u) D' σ H := by
  obtain ⟨w, ok, rfl, ρ, rr, h⟩ := h
  refine ⟨w, ok, rfl, ρ, rr, ?_⟩
  unfold dIfS at h
  cases e : t ρ w.S with
  | ok d S =>
    rw [e] at h
    intro w' v le ok' es r
    have r : d = v := r
    subst r
    cases d with
    | true => exact iteT ⟨w', ok', rfl, ρ, rr.up ok le, FinS.up ok' le (by rw [es]; exact h)⟩
    | false => exact iteF ⟨w', ok', rfl, ρ, rr.up ok le, FinS.up ok' le (by rw [es]; exact h)⟩
  | exc c fs S =>
    rw [e] at h
    exact fun w' le ok' es => h w' σ le ok' es (rr.up ok le)
  | bad =>
    rw [e] at h
    exact h
variable {st : Stmt} {rest : List Stmt} {s1 t1 : DS}
theorem lss_nil : PSs X [] (LS X.K X.mg W dNext) := pss_nil.imp fun _ _ _ => i_next
theorem lss_cons (h1 : PS X st (LS X.K X.mg W s1)) (h2 : PSs X rest (LS X.K X.mg W t1)) : PSs X (st :: rest) (LS X.K X.mg W (dSeq s1 t1)) := (pss_cons h1 h2).imp fun _ _ _ => i_seq
theorem lss_one (h1 : PS X st (LS X.K X.mg W s1)) : PSs X [st] (LS X.K X.mg W s1) := pss_one h1
theorem ls_pass : PS X (.Pass pos) (LS X.K X.mg W dNext) := ps_pass.imp fun _ _ _ => i_next
theorem ls_break : PS X (.Break pos) (LS X.K X.mg W dBreak) := ps_break.imp fun _ _ _ => i_break
theorem ls_cont : PS X (.Continue pos) (LS X.K X.mg W dCont) := ps_continue.imp fun _ _ _ => i_cont
theorem ls_expr {de : DE} (he : PE X e (LE X.K X.mg W de)) (hs : swapsWith e none pos.line X.env = pure false := by rfl) : PS X (.Expr e pos) (LS X.K X.mg W (dExpr de)) := (ps_expr he hs).imp fun _ _ _ => i_expr
theorem ls_ret {de : DE} (he : PE X e (LE X.K X.mg W de)) : PS X (.Return (some e) pos) (LS X.K X.mg W (dRet de)) := (ps_ret he).imp fun _ _ _ => i_ret
theorem ls_retN : PS X (.Return none pos) (LS X.K X.mg W dRetN) := ps_retN.imp fun _ _ _ => i_retN
theorem ls_if {t : DT} {sa sb : List Stmt} {u : DS} (hc : PT X c (LT X.K X.mg W t)) (ha : PSs X sa (LS X.K X.mg W s1)) (hb : PSs X sb (LS X.K X.mg W u)) : PS X (.If c sa sb pos) (LS X.K X.mg W (dIfS t s1 u)) := (ps_if hc ha hb).imp fun _ _ _ => i_ifS
theorem ls_set {i : Nat} {x : Str} {de : DE} {pos' : Pos} (hN : X.N.Nodup) (hi : X.N[i]? = some x) (hx : Loc X.env.scope x) (he : PE X e (LE X.K X.mg W de)) (hs : swapsWith e (some (.Name x pos')) pos.line X.env = pure false := by rfl) (hf : X.fn x = true ∨ X.env.scope.names.lookup x = some .local := by first | exact .inl rfl | exact .inr rfl | assumption) :
    PS X (.Assign [.Name x pos'] e pos) (LS X.K X.mg W (dSet i de)) := (ps_set hN hi hx he hs hf).imp fun _ _ _ => i_set
/-! ## targets -/
abbrev DG := D → Env → Sto → Option Env
abbrev DGs := List D → Env → Sto → Option Env
/-- a target that sets names alone: vs are its slots -/
def GOk (K : PySem.W.Frag) (mg : Str → Option Value) (vs : List Nat) (dg : DG) (g : TG) : Prop := ∀ (w : Wo) (d : D) (v : V) (ρ ρ' : Env) (σ : St) (Q : St → Hp → Prop), w.Ok K mg → Rσ K mg w ρ σ → Rv K mg w d v → dg d ρ w.S = some ρ' →
  (∀ σ', Rσ K mg w ρ' σ' → (∀ ws : List Nat, (∀ i ∈ vs, i ∈ ws) → wipe σ' ws = wipe σ ws) → Q σ' w.H) → g v σ w.H Q
def GsOk (K : PySem.W.Frag) (mg : Str → Option Value) (vs : List Nat) (dg : DGs) (g : TGs) : Prop := ∀ (w : Wo) (d : List D) (v : List V) (ρ ρ' : Env) (σ : St) (Q : St → Hp → Prop), w.Ok K mg → Rσ K mg w ρ σ → Rvs K mg w d v → dg d ρ w.S = some ρ' →
  (∀ σ', Rσ K mg w ρ' σ' → (∀ ws : List Nat, (∀ i ∈ vs, i ∈ ws) → wipe σ' ws = wipe σ ws) → Q σ' w.H) → g v σ w.H Q
theorem wipe_set {σ : St} {i : Nat} {z : Option V} : ∀ {ws : List Nat}, i ∈ ws → wipe (σ.set i z) ws = wipe σ ws
  | [], h => by cases h
  | v :: ws, h => by
    show (wipe (σ.set i z) ws).set v none = (wipe σ ws).set v none
    by_cases hm : i ∈ ws
    · rw [wipe_set hm]
    · have e : v = i := by
        rcases List.mem_cons.mp h with e | e
        · exact e.symm
        · exact absurd e hm
      subst e
      have key : ∀ (τ : St) (us : List Nat), v ∉ us → wipe (τ.set v z) us = (wipe τ us).set v z := fun τ us => by
        induction us with
        | nil => intro _; rfl
        | cons u us ih =>
          intro hn
          show (wipe (τ.set v z) us).set u none = ((wipe τ us).set u none).set v z
          rw [ih fun m => hn (List.mem_cons_of_mem _ m), List.set_comm _ _ fun (q : v = u) => hn (by rw [q]; exact List.mem_cons_self)]
      rw [key σ ws hm, List.set_set]
def tgN (i : Nat) (d : D) (ρ : Env) (_ : Sto) : Option Env := some (ρ.set i (some d))
theorem g_name (i : Nat) : GOk K mg [i] (tgN i) (gName i) := by
  intro w d v ρ ρ' σ Q ok rr r e h
  have e : ρ.set i (some d) = ρ' := Option.some.inj e
  subst e
  exact h _ (rr.set r i) fun ws hw => wipe_set (hw i (List.mem_singleton.mpr rfl))
def tgNil : DGs
  | [], ρ, _ => some ρ
  | _ :: _, _, _ => none
def tgCons1 (gs : DGs) (r : List D) (S : Sto) (ρ1 : Env) : Option Env := gs r ρ1 S
def tgCons (g : DG) (gs : DGs) : DGs
  | [], _, _ => none
  | d :: r, ρ, S => (g d ρ S).bind (tgCons1 gs r S)
def tgT (n : Nat) (gs : DGs) : DG
  | .tup ds, ρ, S => if ds.length = n then gs ds ρ S else none
  | _, _, _ => none
theorem gs_nil : GsOk K mg [] tgNil gNil := by
  intro w d v ρ ρ' σ Q ok rr r e h
  cases d with
  | nil =>
    have e := Option.some.inj e
    subst e
    have l := r.len
    exact ⟨List.eq_nil_of_length_eq_zero l, h σ rr fun _ _ => rfl⟩
  | cons x y => cases e
theorem gs_cons {vs us : List Nat} {g : DG} {gs : DGs} {t : TG} {u : TGs} (h1 : GOk K mg vs g t) (h2 : GsOk K mg us gs u) : GsOk K mg (vs ++ us) (tgCons g gs) (gCons t u) := by
  intro w d v ρ ρ' σ Q ok rr r e h
  cases d with
  | nil => cases e
  | cons d ds =>
    obtain ⟨ρ1, e1, e2⟩ := Option.bind_eq_some_iff.mp e
    rw [Rvs] at r
    obtain ⟨x, q, e3, r1, r2⟩ := r
    refine ⟨x, q, e3, h1 w d x ρ ρ1 σ _ ok rr r1 e1 fun σ1 rr1 w1 => ?_⟩
    refine h2 w ds q ρ1 ρ' σ1 Q ok rr1 r2 e2 fun σ2 rr2 w2 => h σ2 rr2 fun ws hw => ?_
    rw [w2 ws fun i hi => hw i (List.mem_append_right _ hi), w1 ws fun i hi => hw i (List.mem_append_left _ hi)]
theorem g_tup {vs : List Nat} {n : Nat} {gs : DGs} {u : TGs} (h : GsOk K mg vs gs u) : GOk K mg vs (tgT n gs) (gTup K n u) := by
  intro w d v ρ ρ' σ Q ok rr r e k
  cases d with
  | tup ds =>
    unfold tgT at e
    dsimp only at e
    by_cases hl : ds.length = n
    · rw [if_pos hl] at e
      obtain ⟨p, xs, rfl, t, r2⟩ := r.tup
      exact ⟨p, xs, rfl, t, by rw [r2.len]; exact hl, h w _ xs ρ ρ' σ Q ok rr r2 e k⟩
    · rw [if_neg hl] at e
      cases e
  | _ => cases e
def asgR (S : Sto) : Option Env → RS
  | some ρ' => .nx ρ' S
  | none => .bad
def asgK (g : DG) (d : D) (ρ : Env) (S : Sto) : RS := asgR S (g d ρ S)
def dAsg (de : DE) (g : DG) (ρ : Env) (S : Sto) : RS := dBind de (asgK g) ρ S
theorem ls_asg {tg : Expr} {de : DE} {vs : List Nat} {dg : DG} {g : TG} (he : PE X e (LE X.K X.mg W de)) (hg : PG X tg g) (o : GOk X.K X.mg vs dg g) (hs : swapsWithSole [tg] e pos.line X.env = pure false := by rfl) (hw : swappedStores [tg] e X.env = pure none := by rfl)
    (h1 : (assignEach [tg] X.env).map (·.2) = [assign tg X.env] := by rfl) : PS X (.Assign [tg] e pos) (LS X.K X.mg W (dAsg de dg)) := (ps_asg he hg hs hw h1).imp fun D' σ H h => i_bind h fun w d v ρ1 ok r rr h => by
  unfold asgK at h
  cases e2 : dg d ρ1 w.S with
  | none =>
    rw [e2] at h
    exact h.elim
  | some ρ' =>
    rw [e2] at h
    exact o w d v ρ1 ρ' σ _ ok rr r e2 fun σ' r' _ => h.now ok r'
/-! ## a change of an object -/
def Wo.put (w : Wo) (n : Nat) (o : Ob) (u : HO) : Wo := ⟨w.m, w.S.set n o, upd w.H (w.m n) u⟩
theorem heldO_no {S : Sto} {n : Nat} {o : Ob} (h : S[n]? = some o) (ho : heldO (some o) = false) : heldO S[n]? = false := by rw [h]; exact ho
theorem Wo.put_le {w : Wo} {n : Nat} {o : Ob} {u : HO} (hn : n < w.S.length) (hh : heldO w.S[n]? = false := by exact heldO_no (by assumption) (by rfl)) : w.Le (w.put n o u) := by
  refine ⟨by show _ ≤ (w.S.set n o).length; rw [List.length_set]; exact Nat.le_refl _, fun _ _ => rfl, fun a x e k => ?_, fun i h h' => ?_, fun i hi z => ?_⟩
  · show upd w.H (w.m n) u a = some x
    rw [upd_ne fun z => by
      have y := k n hn z.symm
      rw [hh] at y
      cases y]
    exact e
  · have h' : i < (w.S.set n o).length := h'
    rw [List.length_set] at h'
    exact absurd (Nat.lt_of_lt_of_le h' h) (Nat.lt_irrefl _)
  · show (w.S.set n o)[i]? = w.S[i]?
    exact List.getElem?_set_ne fun e => by
      rw [← e, hh] at z
      cases z
theorem Wo.put_ok {w : Wo} (ok : w.Ok K mg) {n : Nat} {o : Ob} {u : HO} (hn : n < w.S.length) (ho : Rob K mg (w.put n o u) (w.m n) o) (hh : heldO w.S[n]? = false := by exact heldO_no (by assumption) (by rfl)) : (w.put n o u).Ok K mg := by
  have le := Wo.put_le (o := o) (u := u) hn hh
  refine ⟨fun i j hi hj e => ?_, fun i o' h => ?_⟩
  · have hi : i < (w.S.set n o).length := hi
    have hj : j < (w.S.set n o).length := hj
    rw [List.length_set] at hi hj
    exact ok.inj i j hi hj e
  · have h : (w.S.set n o)[i]? = some o' := h
    by_cases hi : n = i
    · subst hi
      rw [List.getElem?_set_self hn] at h
      have e := Option.some.inj h
      rw [← e]
      exact ho
    · rw [List.getElem?_set_ne hi] at h
      have hil := (List.getElem?_eq_some_iff.mp h).1
      refine (ok.has i o' h).up ok le fun x e => ?_
      show upd w.H (w.m n) u (w.m i) = some x
      rw [upd_ne fun z => hi (ok.inj i n hil hn z).symm]
      exact e
theorem Wo.putLst {w : Wo} (ok : w.Ok K mg) {n : Nat} {xs : List D} {vs : List V} (hn : n < w.S.length) (r : Rvs K mg w xs vs) (hh : heldO w.S[n]? = false := by exact heldO_no (by assumption) (by rfl)) : (w.put n (.lst xs) (.lst vs)).Ok K mg :=
  Wo.put_ok ok hn ⟨vs, upd_same, r.up ok (Wo.put_le hn hh)⟩ hh
/-- o[i] = e of a list -/
def putJ (ρ : Env) (S3 : Sto) (n : Nat) (xs : List D) (x : D) : Option Nat → RS
  | some j => .nx ρ (S3.set n (.lst (xs.set j x)))
  | none => .bad
def putO (ρ : Env) (S3 : Sto) (n : Nat) (k : Int) (x : D) : Option Ob → RS
  | some (.lst xs) => putJ ρ S3 n xs x (ixN xs.length k)
  | _ => .bad
def putK3 (x : D) : D → D → Env → Sto → RS
  | .obj n, .int k, ρ, S3 => putO ρ S3 n k x S3[n]?
  | _, _, _, _ => .bad
def putK2 (di : DE) (x y : D) (ρ : Env) (S2 : Sto) : RS := bindR (putK3 x y) ρ (di ρ S2)
def putK1 (do_ di : DE) (x : D) (ρ : Env) (S1 : Sto) : RS := bindR (putK2 di x) ρ (do_ ρ S1)
def dPutL (de do_ di : DE) (ρ : Env) (S : Sto) : RS := bindR (putK1 do_ di) ρ (de ρ S)
theorem lt_of_get {α : Type} {l : List α} {n : Nat} {x : α} (h : l[n]? = some x) : n < l.length := (List.getElem?_eq_some_iff.mp h).1
theorem FinS.ofBind {w : Wo} {r : Res D} {k : D → Env → Sto → RS} {ρ : Env} {σ : St} {D' : Ends} {P : VK} (ok : w.Ok K mg) (rr : Rσ K mg w ρ σ) (h : FinS K mg W w (bindR k ρ r) D')
    (hk : ∀ (w' : Wo) (d : D) (v : V), w.Le w' → w'.Ok K mg → Rv K mg w' d v → Rσ K mg w' ρ σ → FinS K mg W w' (k d ρ w'.S) D' → P v w'.H) : Fin K mg w (Rv K mg) r P (XW K mg W σ) := by
  cases r with
  | ok d S => exact fun w' v le ok' es r => hk w' d v le ok' r (rr.up ok le) (FinS.up ok' le (by rw [es]; exact h))
  | exc c fs S => exact fun w' le ok' es => h w' σ le ok' es (rr.up ok le)
  | bad => exact h
theorem ls_putL {o i : Expr} {p2 : Pos} {de do_ di : DE} (he : PE X e (LE X.K X.mg W de)) (ho : PE X o (LE X.K X.mg W do_)) (hi : PE X i (LE X.K X.mg W di)) (hg : PG X (.Subscript o i p2) (gSub (LE X.K X.mg W do_) (LE X.K X.mg W di) rSetL))
    (hs : swapsWithSole [.Subscript o i p2] e pos.line X.env = pure false := by rfl) (hw : swappedStores [.Subscript o i p2] e X.env = pure none := by rfl) :
    PS X (.Assign [.Subscript o i p2] e pos) (LS X.K X.mg W (dPutL de do_ di)) := (ps_asg he hg hs hw).imp fun D' σ H h => by
  obtain ⟨w, ok, rfl, ρ, rr, h⟩ := h
  refine ⟨w, ok, rfl, ρ, rr, FinS.ofBind ok rr h fun w1 x v le1 ok1 r1 rr1 h1 => ?_⟩
  refine ⟨w1, ok1, rfl, ρ, rr1, FinS.ofBind ok1 rr1 h1 fun w2 y u le2 ok2 r2 rr2 h2 => ?_⟩
  refine ⟨w2, ok2, rfl, ρ, rr2, FinS.ofBind ok2 rr2 h2 fun w3 z t le3 ok3 r3 rr3 h3 => ?_⟩
  cases y with
  | obj n =>
    cases z with
    | int k =>
      have h3 : FinS X.K X.mg W w3 (putO ρ w3.S n k x w3.S[n]?) D' := h3
      cases e4 : w3.S[n]? with
      | none => rw [e4] at h3; exact h3.elim
      | some ob =>
        rw [e4] at h3
        cases ob with
        | lst xs =>
          have h3 : FinS X.K X.mg W w3 (putJ ρ w3.S n xs x (ixN xs.length k)) D' := h3
          cases e5 : ixN xs.length k with
          | none => rw [e5] at h3; exact h3.elim
          | some j =>
            rw [e5] at h3
            obtain ⟨vs, hv, rv⟩ := lst_mut ok3 e4
            have r2 := r2.up ok2 le3
            obtain ⟨hn, rfl⟩ := r2.obj
            have r1 := (r1.up ok1 le2).up ok2 le3
            refine ⟨_, vs, k, j, rfl, r3.int, hv, by rw [rv.len]; exact e5, ?_⟩
            have rs := rv.set r1 j
            exact h3 (w3.put n (.lst (xs.set j x)) (.lst (vs.set j v))) σ (Wo.put_le hn) (Wo.putLst ok3 hn rs) rfl (rr3.up ok3 (Wo.put_le hn))
        | _ => exact h3.elim
    | _ => exact h3.elim
  | _ => exact h3.elim
/-! ## x += e -/
def augR (i : Nat) (f : D → D → Sto → Res D) (de : DE) (ρ : Env) (S : Sto) : Option (Option D) → RS
  | some (some x) => bindR (setK i) ρ ((de ρ S).bind (f x))
  | _ => .bad
def dAug (i : Nat) (f : D → D → Sto → Res D) (de : DE) (ρ : Env) (S : Sto) : RS := augR i f de ρ S ρ[i]?
def OpIp (K : PySem.W.Frag) (mg : Str → Option Value) (t : TIp) (f : D → D → Sto → Res D) : Prop := ∀ (w : Wo) (a b : D) (v u : V) (Q : VK) (E : Str → List (Str × D) → Wo → Prop), w.Ok K mg → Rv K mg w a v → Rv K mg w b u → Fin K mg w (Rv K mg) (f a b w.S) Q E → t v u w.H Q
theorem ls_aug {i : Nat} {x : Str} {op : Operator} {ti : TIp} {f : D → D → Sto → Res D} {de : DE} {pos' : Pos} (hN : X.N.Nodup) (hi : X.N[i]? = some x) (hx : Loc X.env.scope x) (he : PE X e (LE X.K X.mg W de)) (ho : PIp X op ti) (o : OpIp X.K X.mg ti f) (hf : X.fn x = true ∨ X.env.scope.names.lookup x = some .local := by first | exact .inl rfl | exact .inr rfl | assumption) :
    PS X (.AugAssign (.Name x pos') op e pos) (LS X.K X.mg W (dAug i f de)) := (ps_aug hN hi hx he ho hf).imp fun D' σ H h => by
  obtain ⟨w, ok, rfl, ρ, rr, h⟩ := h
  unfold dAug at h
  cases e1 : ρ[i]? with
  | none => rw [e1] at h; exact h.elim
  | some z =>
    rw [e1] at h
    cases z with
    | none => exact h.elim
    | some d =>
      obtain ⟨v, e2, rv⟩ := rr.get e1
      refine ⟨v, e2, w, ok, rfl, ρ, rr, ?_⟩
      have h2 : Fin X.K X.mg w (Rv X.K X.mg) ((de ρ w.S).bind (f d)) (fun z H2 => D'.nx (σ.set i (some z)) H2) (XW X.K X.mg W σ) :=
        FinS.ofBind ok rr h fun w1 x u le1 ok1 r1 rr1 h1 => h1.now ok1 (rr1.set r1 i)
      exact h2.bind fun w1 y u le1 ok1 r1 h1 => o w1 d y v u _ _ ok1 (rv.up ok le1) r1 h1
def dIpI (g : Int → Int → Int) : D → D → Sto → Res D
  | .int i, .int j, S => .ok (.int (g i j)) S
  | _, _, _ => .bad
theorem oi_int (g : Int → Int → Int) : OpIp K mg (ipI g) (dIpI g) := by
  intro w a b v u Q E ok ra rb h
  unfold dIpI at h
  split at h
  · rw [ra.int, rb.int]
    exact ⟨_, _, rfl, rfl, Fin.now h ok mk_int⟩
  · exact h.elim
end

section
variable {K : PySem.W.Frag} {mg : Str → Option Value} {X : Cx} {W : WX} {pos : Pos} {a b c e : Expr} {es : List Expr}
/-! ## what is walked -/
abbrev Walked := List D × (Sto → Prop)
abbrev DI := Env → Sto → Res Walked
structure RI (K : PySem.W.Frag) (mg : Str → Option Value) (w : Wo) (p : Walked) (J : It) : Prop where
  now : p.2 w.S
  step : ∀ (w' : Wo) (i : Nat) (d : D), w.Le w' → w'.Ok K mg → p.2 w'.S → p.1[i]? = some d → J.go i w'.H ∧ ∀ x H', J.yld i w'.H x H' → ∃ w3 : Wo, w'.Le w3 ∧ w3.Ok K mg ∧ w3.S = w'.S ∧ w3.H = H' ∧ Rv K mg w3 d x
  stop : ∀ w' : Wo, w.Le w' → w'.Ok K mg → p.2 w'.S → J.stop p.1.length w'.H
/-- a thing is walked as di says -/
def IOk (K : PySem.W.Frag) (mg : Str → Option Value) (W : WX) (di : DI) (wi : TI) : Prop := ∀ (w : Wo) (ρ : Env) (σ : St) (R : It → Hp → Prop), w.Ok K mg → Rσ K mg w ρ σ → Fin K mg w (RI K mg) (di ρ w.S) R (XW K mg W σ) → wi σ w.H R
def sameL (n : Nat) (xs : List D) : Sto → Prop := fun S => lstOf S n = some xs
/-- a list, a tuple -/
def toWalk : D → Sto → Res Walked
  | .obj n, S => match lstOf S n with
    | some xs => .ok (xs, sameL n xs) S
    | none => .bad
  | .kl xs, S => .ok (xs, fun _ => True) S
  | _, _ => .bad
def toWalkT : D → Sto → Res Walked
  | .tup xs, S => .ok (xs, fun _ => True) S
  | _, _ => .bad
def wL (de : DE) (ρ : Env) (S : Sto) : Res Walked := (de ρ S).bind toWalk
def wT (de : DE) (ρ : Env) (S : Sto) : Res Walked := (de ρ S).bind toWalkT
theorem io_list {de : DE} : IOk K mg W (wL de) (iList K (LE K mg W de)) := by
  intro w ρ σ R ok rr h
  refine ⟨w, ok, rfl, ρ, rr, Fin.bind (R' := RI K mg) h fun w1 x v le1 ok1 r1 h1 => ?_⟩
  unfold toWalk at h1
  split at h1
  · split at h1
    · rename_i n _ xs e
      obtain ⟨_, rfl⟩ := r1.obj
      obtain ⟨vs, t, rv⟩ := lst_at ok1 e
      refine ⟨_, rfl, ⟨vs, t⟩, Fin.now h1 ok1 ⟨e, fun w2 i d le ok2 e2 hi => ?_, fun w2 le ok2 e2 => ?_⟩⟩
      · obtain ⟨us, t2, rv2⟩ := lst_at ok2 (show lstOf w2.S n = some xs from e2)
        rw [le.ag n r1.obj.1] at t2
        obtain ⟨z, ez, rz⟩ := rv2.get hi
        refine ⟨⟨us, z, t2, ez⟩, fun x H' y => ⟨w2, Wo.Le.refl _, ok2, rfl, y.1.symm, ?_⟩⟩
        have e3 := (y.2 us t2).symm.trans ez
        rw [Option.some.inj e3]
        exact rz
      · obtain ⟨us, t2, rv2⟩ := lst_at ok2 (show lstOf w2.S n = some xs from e2)
        rw [le.ag n r1.obj.1] at t2
        exact ⟨us, t2, by rw [rv2.len]; exact Nat.le_refl _⟩
    · exact h1.elim
  · rename_i xs
    obtain ⟨p, vs, rfl, t, rv⟩ := r1.kl
    refine ⟨_, rfl, ⟨vs, t.L⟩, Fin.now h1 ok1 ⟨trivial, fun w2 i d le ok2 e2 hi => ?_, fun w2 le ok2 e2 => ?_⟩⟩
    · have t2 := (le.kl ok1 t).L
      obtain ⟨z, ez, rz⟩ := (rv.up ok1 le).get hi
      refine ⟨⟨vs, z, t2, ez⟩, fun x H' y => ⟨w2, Wo.Le.refl _, ok2, rfl, y.1.symm, ?_⟩⟩
      have e3 := (y.2 vs t2).symm.trans ez
      rw [Option.some.inj e3]
      exact rz
    · exact ⟨vs, (le.kl ok1 t).L, by rw [rv.len]; exact Nat.le_refl _⟩
  · exact h1.elim
theorem io_tup {de : DE} : IOk K mg W (wT de) (iTup K (LE K mg W de)) := by
  intro w ρ σ R ok rr h
  refine ⟨w, ok, rfl, ρ, rr, Fin.bind (R' := RI K mg) h fun w1 x v le1 ok1 r1 h1 => ?_⟩
  unfold toWalkT at h1
  split at h1
  · rename_i xs
    obtain ⟨p, vs, rfl, t, rv⟩ := r1.tup
    refine ⟨_, rfl, ⟨vs, t⟩, Fin.now h1 ok1 ⟨trivial, fun w2 i d le ok2 e2 hi => ?_, fun w2 le ok2 e2 => ?_⟩⟩
    · have t2 := le.tup ok1 t
      obtain ⟨z, ez, rz⟩ := (rv.up ok1 le).get hi
      refine ⟨⟨vs, z, t2, ez⟩, fun x H' y => ⟨w2, Wo.Le.refl _, ok2, rfl, y.1.symm, ?_⟩⟩
      have e3 := (y.2 vs t2).symm.trans ez
      rw [Option.some.inj e3]
      exact rz
    · exact ⟨vs, le.tup ok1 t, by rw [rv.len]; exact Nat.le_refl _⟩
  · exact h1.elim
def rng (lo : Int) (n : Nat) : List D := (List.range n).map fun (i : Nat) => .int (lo + (i : Int))
theorem rng_get {lo : Int} {n i : Nat} {d : D} (h : (rng lo n)[i]? = some d) : i < n ∧ d = .int (lo + i) := by
  unfold rng at h
  rw [List.getElem?_map] at h
  obtain ⟨j, e1, e2⟩ := Option.map_eq_some_iff.mp h
  have hl := lt_of_get e1
  rw [List.length_range] at hl
  rw [List.getElem?_range hl] at e1
  exact ⟨hl, by rw [← e2, ← Option.some.inj e1]⟩
theorem ri_rng {w : Wo} {lo : Int} {n : Nat} : RI K mg w (rng lo n, fun _ => True) (Itr lo n) := by
  refine ⟨trivial, fun w2 i d le ok2 _ hi => ?_, fun w2 le ok2 _ => ?_⟩
  · obtain ⟨h1, h2⟩ := rng_get hi
    refine ⟨h1, fun x H' y => ⟨w2, Wo.Le.refl _, ok2, rfl, y.1.symm, ?_⟩⟩
    rw [h2, y.2]
    exact mk_int
  · show n ≤ (rng lo n).length
    unfold rng
    rw [List.length_map, List.length_range]
    exact Nat.le_refl _
/-- a number that a range may end with -/
structure OkR (j : Int) : Prop where
  lo : -(2 ^ 62) ≤ j
  hi : j < 2 ^ 62
noncomputable instance (j : Int) : Decidable (OkR j) := Classical.propDecidable _
noncomputable def toRng1 : List D → Sto → Res Walked
  | [.int j], S => if OkR j then .ok (rng 0 j.toNat, fun _ => True) S else .bad
  | _, _ => .bad
noncomputable def toRng2 : List D → Sto → Res Walked
  | [.int i, .int j], S => if OkR i ∧ OkR j then .ok (rng i (j - i).toNat, fun _ => True) S else .bad
  | _, _ => .bad
noncomputable def wR1 (da : DA) (ρ : Env) (S : Sto) : Res Walked := (da ρ S).bind toRng1
noncomputable def wR2 (da : DA) (ρ : Env) (S : Sto) : Res Walked := (da ρ S).bind toRng2
theorem io_rng1 {da : DA} : IOk K mg W (wR1 da) (iRng1 (LA K mg W da)) := by
  intro w ρ σ R ok rr h
  refine ⟨w, ok, rfl, ρ, rr, Fin.bind (R' := RI K mg) h fun w1 x v le1 ok1 r1 h1 => ?_⟩
  unfold toRng1 at h1
  split at h1
  · split at h1
    · rename_i hj
      obtain ⟨z, rfl, rz⟩ := r1.one
      rw [rz.int]
      exact ⟨_, rfl, hj.lo, hj.hi, Fin.now h1 ok1 ri_rng⟩
    · exact h1.elim
  · exact h1.elim
theorem io_rng2 {da : DA} : IOk K mg W (wR2 da) (iRng2 (LA K mg W da)) := by
  intro w ρ σ R ok rr h
  refine ⟨w, ok, rfl, ρ, rr, Fin.bind (R' := RI K mg) h fun w1 x v le1 ok1 r1 h1 => ?_⟩
  unfold toRng2 at h1
  split at h1
  · split at h1
    · rename_i hj
      obtain ⟨z, y, rfl, rz, ry⟩ := r1.two
      rw [rz.int, ry.int]
      exact ⟨_, _, rfl, ⟨hj.1.lo, hj.1.hi, hj.2.lo, hj.2.hi⟩, Fin.now h1 ok1 ri_rng⟩
    · exact h1.elim
  · exact h1.elim
/-- a text -/
def signs (z : Str) : List D := z.cps.toList.map fun c => .str ⟨#[c]⟩
def toWalkS : D → Sto → Res Walked
  | .str z, S => .ok (signs z, fun _ => True) S
  | _, _ => .bad
def wS (de : DE) (ρ : Env) (S : Sto) : Res Walked := (de ρ S).bind toWalkS
theorem io_str {de : DE} : IOk K mg W (wS de) (iStr (LE K mg W de)) := by
  intro w ρ σ R ok rr h
  refine ⟨w, ok, rfl, ρ, rr, Fin.bind (R' := RI K mg) h fun w1 x v le1 ok1 r1 h1 => ?_⟩
  unfold toWalkS at h1
  split at h1
  · rename_i z
    rw [r1.str]
    refine ⟨z, rfl, Fin.now h1 ok1 ⟨trivial, fun w2 i d le ok2 e2 hi => ?_, fun w2 le ok2 e2 => ?_⟩⟩
    · unfold signs at hi
      rw [List.getElem?_map] at hi
      obtain ⟨k, e1, e3⟩ := Option.map_eq_some_iff.mp hi
      have hl := lt_of_get e1
      refine ⟨(by show i < z.cps.size; simpa using hl), fun x H' y => ⟨w2, Wo.Le.refl _, ok2, rfl, y.1.symm, ?_⟩⟩
      obtain ⟨q, e4, e5⟩ := y.2
      rw [← Array.getElem?_toList, e1] at e4
      rw [e5, ← e3, Option.some.inj e4]
      exact mk_str
    · show z.cps.size ≤ (signs z).length
      unfold signs
      rw [List.length_map]
      simp
  · exact h1.elim
/-! ## for -/
open Classical in
noncomputable def turnR (still : Sto → Prop) (k : DS) : RS → RS
  | .nx ρ2 S2 => if still S2 then k ρ2 S2 else .bad
  | .ct ρ2 S2 => if still S2 then k ρ2 S2 else .bad
  | .bk ρ2 S2 => .nx ρ2 S2
  | .rt d S2 => .rt d S2
  | .exc c fs ρ2 S2 => .exc c fs ρ2 S2
  | .bad => .bad
noncomputable def turnG (still : Sto → Prop) (body k : DS) (S : Sto) : Option Env → RS
  | none => .bad
  | some ρ1 => turnR still k (body ρ1 S)
noncomputable def dLoop (still : Sto → Prop) (g : DG) (body : DS) : List D → Env → Sto → RS
  | [], ρ, S => .nx ρ S
  | d :: r, ρ, S => turnG still body (dLoop still g body r) S (g d ρ S)
noncomputable def forR (g : DG) (body : DS) (ρ : Env) : Res Walked → RS
  | .ok (items, still) S1 => dLoop still g body items ρ S1
  | .exc c fs S1 => .exc c fs ρ S1
  | .bad => .bad
noncomputable def dFor (di : DI) (g : DG) (body : DS) (ρ : Env) (S : Sto) : RS := forR g body ρ (di ρ S)
theorem i_for {di : DI} {wi : TI} {g : DG} {tg : TG} {vs : List Nat} {body : DS} (hi : IOk K mg W di wi) (hg : GOk K mg vs g tg) {D' : Ends} {σ : St} {H : Hp} (h : LS K mg W (dFor di g body) D' σ H) : tFor wi tg (LS K mg W body) D' σ H := by
  obtain ⟨w, ok, rfl, ρ, rr, h⟩ := h
  refine hi w ρ σ _ ok rr ?_
  unfold dFor at h
  cases e : di ρ w.S with
  | bad => rw [e] at h; exact h
  | exc c fs S => rw [e] at h; exact fun w' le ok' es => h w' σ le ok' es (rr.up ok le)
  | ok p S =>
    rw [e] at h
    obtain ⟨items, still⟩ := p
    intro w1 J le1 ok1 es1 ri
    subst es1
    have h := FinS.up ok1 le1 h
    have rr1 := rr.up ok le1
    refine ⟨fun i m σ H => m = items.length - i ∧ i ≤ items.length ∧ ∃ (w2 : Wo) (ρ2 : Env), w1.Le w2 ∧ w2.Ok K mg ∧ w2.H = H ∧ still w2.S ∧ Rσ K mg w2 ρ2 σ ∧ FinS K mg W w2 (dLoop still g body (items.drop i) ρ2 w2.S) D',
      ⟨items.length, rfl, Nat.zero_le _, w1, ρ, Wo.Le.refl _, ok1, rfl, ri.now, rr1, h⟩, ?_⟩
    rintro i m σ2 H2 ⟨rfl, hil, w2, ρ2, le2, ok2, rfl, st2, rr2, h2⟩
    by_cases hlt : i < items.length
    · have ei := List.getElem?_eq_getElem hlt
      rw [List.drop_eq_getElem_cons hlt] at h2
      generalize items[i] = d at ei h2
      obtain ⟨go, yl⟩ := ri.step w2 i d le2 ok2 st2 ei
      refine .inr ⟨go, fun σ' H' => ∃ (w5 : Wo) (ρ5 : Env), w1.Le w5 ∧ w5.Ok K mg ∧ w5.H = H' ∧ still w5.S ∧ Rσ K mg w5 ρ5 σ' ∧ FinS K mg W w5 (dLoop still g body (items.drop (i + 1)) ρ5 w5.S) D',
        fun σ' H' n => ⟨items.length - (i + 1), by omega, rfl, hlt, n⟩, fun x H' y => ?_⟩
      obtain ⟨w3, le3, ok3, es3, rfl, r3⟩ := yl x H' y
      have rr3 := rr2.up ok2 le3
      unfold dLoop at h2
      rw [← es3] at h2
      cases eg : g d ρ2 w3.S with
      | none => rw [eg] at h2; exact h2.elim
      | some ρ3 =>
        rw [eg] at h2
        refine hg w3 d x ρ2 ρ3 σ2 _ ok3 rr3 r3 eg fun σ3 rr4 _ => ⟨w3, ok3, rfl, ρ3, rr4, ?_⟩
        have le13 := le2.trans ok2 le3
        have h2 := FinS.up ok3 le3 h2
        unfold turnG at h2
        dsimp only at h2
        cases eb : body ρ3 w3.S with
        | nx ρ4 S4 =>
          rw [eb] at h2
          unfold turnR at h2
          dsimp only at h2
          by_cases hs : still S4
          · rw [if_pos hs] at h2
            exact fun w4 σ4 le4 ok4 es4 rr5 => ⟨w4, ρ4, le13.trans ok3 le4, ok4, rfl, by rw [es4]; exact hs, rr5, FinS.up ok4 le4 (by rw [es4]; exact h2)⟩
          · rw [if_neg hs] at h2
            exact h2.elim
        | ct ρ4 S4 =>
          rw [eb] at h2
          unfold turnR at h2
          dsimp only at h2
          by_cases hs : still S4
          · rw [if_pos hs] at h2
            exact fun w4 σ4 le4 ok4 es4 rr5 => ⟨w4, ρ4, le13.trans ok3 le4, ok4, rfl, by rw [es4]; exact hs, rr5, FinS.up ok4 le4 (by rw [es4]; exact h2)⟩
          · rw [if_neg hs] at h2
            exact h2.elim
        | bk ρ4 S4 =>
          rw [eb] at h2
          exact fun w4 σ4 le4 ok4 es4 rr5 => h2 w4 σ4 le4 ok4 es4 rr5
        | rt d4 S4 =>
          rw [eb] at h2
          exact fun w4 σ4 le4 ok4 es4 rr5 => h2 w4 σ4 le4 ok4 es4 rr5
        | exc c fs ρ4 S4 =>
          rw [eb] at h2
          exact fun w4 σ4 le4 ok4 es4 rr5 => h2 w4 σ4 le4 ok4 es4 rr5
        | bad =>
          rw [eb] at h2
          exact h2.elim
    · have e1 : i = items.length := by omega
      subst e1
      rw [List.drop_length] at h2
      refine .inl ⟨ri.stop w2 le2 ok2 st2, ?_⟩
      exact h2.now ok2 rr2
theorem ls_for {tg iter : Expr} {body : List Stmt} {di : DI} {wi : TI} {g : DG} {t : TG} {vs : List Nat} {bd : DS} (hp : PassesOwn (model X.prog X.w) X.A X.env X.xe) (hc : X.calm = true) (hi : PI X tg iter wi) (oi : IOk X.K X.mg W di wi) (hg : PG X tg t) (og : GOk X.K X.mg vs g t) (hb : PSs X body (LS X.K X.mg W bd))
    (hs : ∀ x, foldedSetIterable iter X.env x = pure x := by intro _; rfl) : PS X (.For tg iter body [] pos) (LS X.K X.mg W (dFor di g bd)) := (ps_for hp hc hi hg hb hs).imp fun _ _ _ h => i_for oi og h
/-! ## while -/
def whR (k : DS) : RS → RS
  | .nx ρ2 S2 => k ρ2 S2
  | .ct ρ2 S2 => k ρ2 S2
  | .bk ρ2 S2 => .nx ρ2 S2
  | .rt d S2 => .rt d S2
  | .exc c fs ρ2 S2 => .exc c fs ρ2 S2
  | .bad => .bad
def whT (body k : DS) (ρ : Env) : Res Bool → RS
  | .ok true S1 => whR k (body ρ S1)
  | .ok false S1 => .nx ρ S1
  | .exc c fs S1 => .exc c fs ρ S1
  | .bad => .bad
def dWhile : Nat → DT → DS → Env → Sto → RS
  | 0, _, _, _, _ => .bad
  | n + 1, t, body, ρ, S => whT body (dWhile n t body) ρ (t ρ S)
theorem i_while {n : Nat} {t : DT} {body : DS} {D' : Ends} {σ : St} {H : Hp} (h : LS K mg W (dWhile n t body) D' σ H) : tWhile (LT K mg W t) (LS K mg W body) D' σ H := by
  obtain ⟨w, ok, rfl, ρ, rr, h⟩ := h
  refine ⟨fun m σ H => ∃ (w : Wo) (ρ : Env), w.Ok K mg ∧ w.H = H ∧ Rσ K mg w ρ σ ∧ FinS K mg W w (dWhile m t body ρ w.S) D', ⟨n, w, ρ, ok, rfl, rr, h⟩, ?_⟩
  rintro m σ2 H2 ⟨w2, ρ2, ok2, rfl, rr2, h2⟩
  refine ⟨w2, ok2, rfl, ρ2, rr2, ?_⟩
  cases m with
  | zero => exact h2.elim
  | succ m =>
    unfold dWhile at h2
    cases et : t ρ2 w2.S with
    | bad => rw [et] at h2; exact h2
    | exc c fs S => rw [et] at h2; exact fun w' le ok' es => h2 w' σ2 le ok' es (rr2.up ok2 le)
    | ok k S =>
      rw [et] at h2
      intro w3 v le3 ok3 es3 r3
      have r3 : k = v := r3
      subst r3
      subst es3
      have h2 := FinS.up ok3 le3 h2
      have rr3 := rr2.up ok2 le3
      cases k with
      | false => exact iteF (h2.now ok3 rr3)
      | true =>
        refine iteT ⟨fun σ' H' => ∃ (w5 : Wo) (ρ5 : Env), w5.Ok K mg ∧ w5.H = H' ∧ Rσ K mg w5 ρ5 σ' ∧ FinS K mg W w5 (dWhile m t body ρ5 w5.S) D', fun σ' H' q => ⟨m, Nat.lt_succ_self m, q⟩, w3, ok3, rfl, ρ2, rr3, ?_⟩
        unfold whT at h2
        dsimp only at h2
        cases eb : body ρ2 w3.S with
        | nx ρ4 S4 =>
          rw [eb] at h2
          exact fun w4 σ4 le4 ok4 es4 rr5 => ⟨w4, ρ4, ok4, rfl, rr5, FinS.up ok4 le4 (by rw [es4]; exact h2)⟩
        | ct ρ4 S4 =>
          rw [eb] at h2
          exact fun w4 σ4 le4 ok4 es4 rr5 => ⟨w4, ρ4, ok4, rfl, rr5, FinS.up ok4 le4 (by rw [es4]; exact h2)⟩
        | bk ρ4 S4 => rw [eb] at h2; exact h2
        | rt d4 S4 => rw [eb] at h2; exact h2
        | exc c fs ρ4 S4 => rw [eb] at h2; exact h2
        | bad => rw [eb] at h2; exact h2.elim
theorem ls_while (n : Nat) {body : List Stmt} {t : DT} {bd : DS} (hp : PassesOwn (model X.prog X.w) X.A X.env X.xe) (hc : PT X c (LT X.K X.mg W t)) (hb : PSs X body (LS X.K X.mg W bd)) : PS X (.While c body [] pos) (LS X.K X.mg W (dWhile n t bd)) := (ps_while hp hc hb).imp fun _ _ _ => i_while
/-! ## comprehensions -/
open Classical in
noncomputable def cSkip (still : Sto → Prop) (k : Sto → Res (List D)) (S1 : Sto) : Res (List D) := if still S1 then k S1 else .bad
def cHead (x : D) : Res (List D) → Res (List D)
  | .ok xs S3 => .ok (x :: xs) S3
  | .exc _ _ _ => .bad
  | .bad => .bad
noncomputable def cElt (still : Sto → Prop) (k : Sto → Res (List D)) : Res D → Res (List D)
  | .ok x S2 => cHead x (cSkip still k S2)
  | .exc _ _ _ => .bad
  | .bad => .bad
noncomputable def cTest (still : Sto → Prop) (e : DE) (k : Sto → Res (List D)) (ρ1 : Env) : Res Bool → Res (List D)
  | .ok true S1 => cElt still k (e ρ1 S1)
  | .ok false S1 => cSkip still k S1
  | .exc _ _ _ => .bad
  | .bad => .bad
noncomputable def cTg (still : Sto → Prop) (t : DT) (e : DE) (k : Sto → Res (List D)) (S : Sto) : Option Env → Res (List D)
  | none => .bad
  | some ρ1 => cTest still e k ρ1 (t ρ1 S)
noncomputable def cLoop (still : Sto → Prop) (g : DG) (t : DT) (e : DE) (ρ : Env) : List D → Sto → Res (List D)
  | [], S => .ok [] S
  | d :: r, S => cTg still t e (cLoop still g t e ρ r) S (g d ρ S)
def wipeE (ρ : Env) : List Nat → Env
  | [] => ρ
  | v :: vs => (wipeE ρ vs).set v none
def fitL (xs : List D) (S : Sto) : Res D := mkLst xs S
def cEnd : Res (List D) → Res D
  | .ok xs S2 => mkLst xs S2
  | .exc _ _ _ => .bad
  | .bad => .bad
noncomputable def dComp1 (g : DG) (t : DT) (e : DE) (ρ : Env) : Walked → Sto → Res D
  | (items, still), S1 => cEnd (cLoop still g t e ρ items S1)
noncomputable def dComp (di : DI) (g : DG) (vs : List Nat) (t : DT) (e : DE) (ρ : Env) (S : Sto) : Res D := (di ρ S).bind (dComp1 g t e (wipeE ρ vs))
def W0 : WX := fun _ _ _ _ => False
theorem Rσ.wipe {w : Wo} {ρ : Env} {σ : St} (r : Rσ K mg w ρ σ) : ∀ vs : List Nat, Rσ K mg w (wipeE ρ vs) (L2.wipe σ vs)
  | [] => r
  | v :: vs => Rσ.setN v none (Rσ.wipe r vs)
/-- an untracked thing that is no tuple changes -/
theorem Wo.hid_sqt {w : Wo} {p : Addr} {xs ys : List V} (hp : w.H p = some (.lst xs)) {a : Addr} {zs : List V} (t : SqT K w.H a zs) : SqT K (upd w.H p (.lst ys)) a zs := by
  rcases t with (t | ⟨o, t⟩) | t
  · exact .inl (.inl (by rw [upd_ne (ne_of t hp (by intro z; cases z))]; exact t))
  · exact .inl (.inr ⟨o, by rw [upd_ne (ne_of t hp (by intro z; cases z))]; exact t⟩)
  · exact .inr t
theorem Wo.hid_sqf {w : Wo} {p : Addr} {xs ys : List V} (hp : w.H p = some (.lst xs)) {a : Addr} {zs : List V} (t : SqF K w.H a zs) : SqF K (upd w.H p (.lst ys)) a zs := by
  rcases t with ⟨o, t⟩ | t
  · exact .inl ⟨o, by rw [upd_ne (ne_of t hp (by intro z; cases z))]; exact t⟩
  · exact .inr t
mutual
theorem Wo.hid_rv {w : Wo} {p : Addr} {xs ys : List V} (hp : w.H p = some (.lst xs)) : ∀ (d : D) (v : V), Rv K mg w d v → Rv K mg (w.heap (upd w.H p (.lst ys))) d v
  | .non, v, r => by rw [Rv] at r ⊢; exact r
  | .bl b, v, r => by rw [Rv] at r ⊢; exact r
  | .int i, v, r => by rw [Rv] at r ⊢; exact r
  | .str x, v, r => by rw [Rv] at r ⊢; exact r
  | .tup ds, v, r => by
    rw [Rv] at r ⊢
    obtain ⟨a, vs, e, t, q⟩ := r
    exact ⟨a, vs, e, Wo.hid_sqt hp t, Wo.hid_rvs hp ds vs q⟩
  | .obj n, v, r => by rw [Rv] at r ⊢; exact r
  | .fn x, v, r => by rw [Rv] at r ⊢; exact r
  | .ty n, v, r => by rw [Rv] at r ⊢; exact r
  | .raw n, v, r => by rw [Rv] at r ⊢; exact r
  | .kl ds, v, r => by
    rw [Rv] at r ⊢
    obtain ⟨a, vs, e, t, q⟩ := r
    exact ⟨a, vs, e, Wo.hid_sqf hp t, Wo.hid_rvs hp ds vs q⟩
  | .tk ks, v, r => by
    rw [Rv] at r ⊢
    obtain ⟨a, e, t⟩ := r
    refine ⟨a, e, ?_⟩
    show upd w.H p (.lst ys) a = some _
    rw [upd_ne fun z => ?_]
    · exact t
    · rw [z, hp] at t
      cases t
theorem Wo.hid_rvs {w : Wo} {p : Addr} {xs ys : List V} (hp : w.H p = some (.lst xs)) : ∀ (ds : List D) (vs : List V), Rvs K mg w ds vs → Rvs K mg (w.heap (upd w.H p (.lst ys))) ds vs
  | [], vs, r => by rw [Rvs] at r ⊢; exact r
  | d :: ds, vs, r => by
    rw [Rvs] at r ⊢
    obtain ⟨v, q, e, r1, r2⟩ := r
    exact ⟨v, q, e, Wo.hid_rv hp d v r1, Wo.hid_rvs hp ds q r2⟩
end
theorem Wo.hid_rkv {κ : Type} {w : Wo} {p : Addr} {xs ys : List V} (hp : w.H p = some (.lst xs)) : ∀ {ps : List (κ × D)} {vs : List (κ × V)}, Rkv K mg w ps vs → Rkv K mg (w.heap (upd w.H p (.lst ys))) ps vs
  | [], vs, r => r
  | q :: ps, vs, r => by
    obtain ⟨v, z, e, r1, r2⟩ := r
    exact ⟨v, z, e, Wo.hid_rv hp _ v r1, Wo.hid_rkv hp r2⟩
theorem Wo.hid_rfs {w : Wo} {p : Addr} {xs ys : List V} (hp : w.H p = some (.lst xs)) : ∀ {ps : List (Str × D)} {vs : List (Str × V)}, Rfs K mg w ps vs → Rfs K mg (w.heap (upd w.H p (.lst ys))) ps vs
  | [], vs, r => r
  | q :: ps, vs, r => by
    obtain ⟨v, z, e, r1, r2⟩ := r
    exact ⟨v, z, e, Wo.hid_rv hp _ v r1, Wo.hid_rfs hp r2⟩
theorem Wo.hid_ok {w : Wo} (ok : w.Ok K mg) {p : Addr} {xs ys : List V} (hp : w.H p = some (.lst xs)) (hn : ∀ i, i < w.S.length → w.m i ≠ p) : (w.heap (upd w.H p (.lst ys))).Ok K mg := by
  refine ⟨ok.inj, fun i o h => ?_⟩
  have r := ok.has i o h
  have hi := hn i (lt_of_get h)
  have keep : ∀ x, w.H (w.m i) = some x → (upd w.H p (.lst ys)) (w.m i) = some x := fun x e => by rw [upd_ne hi]; exact e
  cases o with
  | lst ds =>
    obtain ⟨vs, h1, h2⟩ := r
    exact ⟨vs, keep _ h1, Wo.hid_rvs hp _ _ h2⟩
  | dk ds =>
    obtain ⟨vs, h1, h2⟩ := r
    exact ⟨vs, keep _ h1, Wo.hid_rkv hp h2⟩
  | dt ds =>
    obtain ⟨vs, h1, h2⟩ := r
    exact ⟨vs, keep _ h1, Wo.hid_rkv hp h2⟩
  | ins C fs =>
    obtain ⟨Ca, dx, vs, h0, h1, h2⟩ := r
    exact ⟨Ca, dx, vs, h0, keep _ h1, Wo.hid_rfs hp h2⟩
  | dn kvs =>
    obtain ⟨xs, h1, h2, h3, h4, h5⟩ := r
    exact ⟨xs, keep _ h1, h2, h3, h4, h5.mono fun d v r => Wo.hid_rv hp d v r⟩
  | hk ds =>
    obtain ⟨o, vs, h1, h2⟩ := r
    exact ⟨o, vs, keep _ h1, Wo.hid_rkv hp h2⟩
theorem Wo.hid_le {w0 w : Wo} (le : w0.Le w) {p : Addr} {ys : List V} (h0 : w0.H p = none) : w0.Le (w.heap (upd w.H p (.lst ys))) := by
  refine ⟨le.len, le.ag, fun a x e n => ?_, le.nw, le.hd⟩
  show upd w.H p (.lst ys) a = some x
  rw [upd_ne (ne_of_none e h0)]
  exact le.fr a x e n
/-- the list that is being made comes to be tracked -/
theorem Wo.adopt {w : Wo} (ok : w.Ok K mg) {p : Addr} {vs : List V} {xs : List D} (hp : w.H p = some (.lst vs)) (hn : ∀ i, i < w.S.length → w.m i ≠ p) (r : Rvs K mg w xs vs) :
    (Wo.mk (fun i => if i = w.S.length then p else w.m i) (w.S ++ [.lst xs]) w.H).Ok K mg := by
  generalize hw2 : (Wo.mk (fun i => if i = w.S.length then p else w.m i) (w.S ++ [.lst xs]) w.H) = w2
  have eS : w2.S = w.S ++ [.lst xs] := by rw [← hw2]
  have eH : w2.H = w.H := by rw [← hw2]
  have eo : ∀ i, i < w.S.length → w2.m i = w.m i := fun i hi => by rw [← hw2]; exact if_neg (Nat.ne_of_lt hi)
  have en : w2.m w.S.length = p := by rw [← hw2]; exact if_pos rfl
  have el : w2.S.length = w.S.length + 1 := by rw [eS, List.length_append]; rfl
  have le : w.Le (w2) ∨ True := .inr trivial
  have up : ∀ (d : D) (v : V), Rv K mg w d v → Rv K mg w2 d v := by
    have hlen : w.S.length ≤ w2.S.length := by omega
    have key : (∀ (d : D) (v : V), Rv K mg w d v → Rv K mg w2 d v) := by
      intro d
      refine D.rec (motive_1 := fun d => ∀ v, Rv K mg w d v → Rv K mg w2 d v) (motive_2 := fun ds => ∀ vs, Rvs K mg w ds vs → Rvs K mg w2 ds vs) ?_ ?_ ?_ ?_ ?_ ?_ ?_ ?_ ?_ ?_ ?_ ?_ ?_ d
      · intro v r; rw [Rv] at r ⊢; exact r
      · intro _ v r; rw [Rv] at r ⊢; exact r
      · intro _ v r; rw [Rv] at r ⊢; exact r
      · intro _ v r; rw [Rv] at r ⊢; exact r
      · intro ds ih v r
        rw [Rv] at r ⊢
        obtain ⟨a, vs, e, t, q⟩ := r
        exact ⟨a, vs, e, by rw [eH]; exact t, ih vs q⟩
      · intro n v r
        rw [Rv] at r ⊢
        exact ⟨Nat.lt_of_lt_of_le r.1 hlen, by rw [eo n r.1]; exact r.2⟩
      · intro _ v r; rw [Rv] at r ⊢; exact r
      · intro _ v r; rw [Rv] at r ⊢; exact r
      · intro _ v r; rw [Rv] at r ⊢; exact r
      · intro ds ih v r
        rw [Rv] at r ⊢
        obtain ⟨a, vs, e, t, q⟩ := r
        exact ⟨a, vs, e, by rw [eH]; exact t, ih vs q⟩
      · intro ks v r
        rw [Rv] at r ⊢
        obtain ⟨a, e, t⟩ := r
        exact ⟨a, e, by rw [eH]; exact t⟩
      · intro vs r; rw [Rvs] at r ⊢; exact r
      · intro d ds ih1 ih2 vs r
        rw [Rvs] at r ⊢
        obtain ⟨v, q, e, r1, r2⟩ := r
        exact ⟨v, q, e, ih1 v r1, ih2 q r2⟩
    exact key
  have ups : ∀ (ds : List D) (vs : List V), Rvs K mg w ds vs → Rvs K mg w2 ds vs := by
    intro ds
    induction ds with
    | nil => intro vs r; rw [Rvs] at r ⊢; exact r
    | cons d ds ih =>
      intro vs r
      rw [Rvs] at r ⊢
      obtain ⟨v, q, e, r1, r2⟩ := r
      exact ⟨v, q, e, up d v r1, ih q r2⟩
  have upk : ∀ {κ : Type} (ds : List (κ × D)) (vs : List (κ × V)), Rkv K mg w ds vs → Rkv K mg w2 ds vs := by
    intro κ ds
    induction ds with
    | nil => intro vs r; exact r
    | cons d ds ih =>
      intro vs r
      obtain ⟨v, q, e, r1, r2⟩ := r
      exact ⟨v, q, e, up _ v r1, ih q r2⟩
  have upf : ∀ (ds : List (Str × D)) (vs : List (Str × V)), Rfs K mg w ds vs → Rfs K mg w2 ds vs := by
    intro ds
    induction ds with
    | nil => intro vs r; exact r
    | cons d ds ih =>
      intro vs r
      obtain ⟨v, q, e, r1, r2⟩ := r
      exact ⟨v, q, e, up _ v r1, ih q r2⟩
  refine ⟨fun i j hi hj e => ?_, fun i o h => ?_⟩
  · rw [el] at hi hj
    by_cases h1 : i < w.S.length
    · by_cases h2 : j < w.S.length
      · rw [eo i h1, eo j h2] at e
        exact ok.inj i j h1 h2 e
      · have e2 : j = w.S.length := by omega
        rw [e2, en, eo i h1] at e
        exact absurd e (hn i h1)
    · have e1 : i = w.S.length := by omega
      by_cases h2 : j < w.S.length
      · rw [e1, en, eo j h2] at e
        exact absurd e.symm (hn j h2)
      · omega
  · rw [eS] at h
    by_cases h1 : i < w.S.length
    · rw [List.getElem?_append_left h1] at h
      rw [eo i h1]
      have r := ok.has i o h
      cases o with
      | lst ds =>
        obtain ⟨vs, h1, h2⟩ := r
        exact ⟨vs, by rw [eH]; exact h1, ups _ _ h2⟩
      | dk ds =>
        obtain ⟨vs, h1, h2⟩ := r
        exact ⟨vs, by rw [eH]; exact h1, upk _ _ h2⟩
      | dt ds =>
        obtain ⟨vs, h1, h2⟩ := r
        exact ⟨vs, by rw [eH]; exact h1, upk _ _ h2⟩
      | ins C fs =>
        obtain ⟨Ca, dx, vs, h0, h1, h2⟩ := r
        exact ⟨Ca, dx, vs, h0, by rw [eH]; exact h1, upf _ _ h2⟩
      | dn kvs =>
        obtain ⟨xs, h1, h2, h3, h4, h5⟩ := r
        refine ⟨xs, by rw [eH]; exact h1, h2, h3, h4, h5.mono fun d v r => ?_⟩
        have z := ups [d] [v] (Rvs.cons r Rvs.nil)
        rw [Rvs] at z
        obtain ⟨v', q, e, z1, _⟩ := z
        cases e
        exact z1
      | hk ds =>
        obtain ⟨o, vs, h1, h2⟩ := r
        exact ⟨o, vs, by rw [eH]; exact h1, upk _ _ h2⟩
    · have h2 := lt_of_get h
      rw [List.length_append] at h2
      have h2 : i < w.S.length + 1 := h2
      have e1 : i = w.S.length := by omega
      rw [e1, List.getElem?_append_right (Nat.le_refl _), Nat.sub_self] at h
      have e2 : Ob.lst xs = o := Option.some.inj h
      rw [e1, en, ← e2]
      exact ⟨vs, by rw [eH]; exact hp, ups _ _ r⟩
theorem i_comp {di : DI} {wi : TI} {g : DG} {tg : TG} {us vs : List Nat} {t : DT} {de : DE} (hi : IOk K mg W di wi) (hg : GOk K mg us g tg) (hu : ∀ i ∈ us, i ∈ vs) {σ : St} {H : Hp} {Q : VK} (h : LE K mg W (dComp di g vs t de) σ H Q) :
    tLc wi tg (LT K mg W0 t) (LE K mg W0 de) vs σ H Q := by
  obtain ⟨w, ok, rfl, ρ, rr, h⟩ := h
  refine hi w ρ σ _ ok rr (h.bind fun w1 p J le1 ok1 ri h1 => ?_)
  obtain ⟨items, still⟩ := p
  intro q hq
  have rr1 := (rr.up ok le1).wipe vs
  have len1 : (upd w1.H q (.lst [])) q = some (.lst []) := upd_same
  have base : w1.Le (w1.heap (upd w1.H q (.lst []))) := Wo.new_le hq
  have okb : (w1.heap (upd w1.H q (.lst []))).Ok K mg := Wo.new_ok ok1 hq
  refine ⟨fun i m H => m = items.length - i ∧ i ≤ items.length ∧ ∃ (w2 : Wo) (acc : List D) (av : List V) (xs : List D) (S' : Sto), w1.Le w2 ∧ w2.Ok K mg ∧ w2.H = H ∧ still w2.S ∧ w2.H q = some (.lst av) ∧ (∀ j, j < w2.S.length → w2.m j ≠ q) ∧ Rvs K mg w2 acc av ∧
      cLoop still g t de (wipeE ρ vs) (items.drop i) w2.S = .ok xs S' ∧ Fin K mg w1 (Rv K mg) (mkLst (acc ++ xs) S') Q (XW K mg W σ), ?_, ?_⟩
  · cases e : cLoop still g t de (wipeE ρ vs) items w1.S with
    | bad =>
      unfold dComp1 at h1
      dsimp only at h1
      rw [e] at h1
      exact h1.elim
    | exc c fs S =>
      unfold dComp1 at h1
      dsimp only at h1
      rw [e] at h1
      exact h1.elim
    | ok xs S' =>
      unfold dComp1 at h1
      dsimp only at h1
      rw [e] at h1
      refine ⟨items.length, rfl, Nat.zero_le _, w1.heap (upd w1.H q (.lst [])), [], [], xs, S', base, okb, rfl, ri.now, upd_same, fun j hj z => ?_, Rvs.nil, e, h1⟩
      obtain ⟨o, h2, _⟩ := ok1.at (show j < w1.S.length from hj)
      have z : w1.m j = q := z
      rw [z, hq] at h2
      cases h2
  · rintro i m H2 ⟨rfl, hil, w2, acc, av, xs, S', le2, ok2, rfl, st2, hl2, hn2, ra, ec, hf⟩
    by_cases hlt : i < items.length
    · have ei := List.getElem?_eq_getElem hlt
      rw [List.drop_eq_getElem_cons hlt] at ec
      generalize items[i] = d at ei ec
      obtain ⟨go, yl⟩ := ri.step w2 i d le2 ok2 st2 ei
      refine .inr ⟨go, fun H' => ∃ (w2 : Wo) (acc : List D) (av : List V) (xs : List D) (S' : Sto), w1.Le w2 ∧ w2.Ok K mg ∧ w2.H = H' ∧ still w2.S ∧ w2.H q = some (.lst av) ∧ (∀ j, j < w2.S.length → w2.m j ≠ q) ∧ Rvs K mg w2 acc av ∧
        cLoop still g t de (wipeE ρ vs) (items.drop (i + 1)) w2.S = .ok xs S' ∧ Fin K mg w1 (Rv K mg) (mkLst (acc ++ xs) S') Q (XW K mg W σ), fun H' n => ⟨items.length - (i + 1), by omega, rfl, hlt, n⟩, fun x H' y => ?_⟩
      obtain ⟨w3, le3, ok3, es3, rfl, r3⟩ := yl x H' y
      -- the hidden list is still there, and still hidden
      have hid : ∀ {wa wb : Wo} {bv : List V}, wa.Ok K mg → wa.Le wb → wa.H q = some (.lst bv) → (∀ j, j < wa.S.length → wa.m j ≠ q) → wb.H q = some (.lst bv) ∧ ∀ j, j < wb.S.length → wb.m j ≠ q := fun {wa wb bv} oka le hq2 hn => by
        refine ⟨le.fr' _ _ hq2 hn, fun j hj z => ?_⟩
        by_cases hja : j < wa.S.length
        · rw [le.ag j hja] at z
          exact hn j hja z
        · have := le.nw j (Nat.le_of_not_lt hja) hj
          rw [z, hq2] at this
          cases this
      obtain ⟨hl3, hn3⟩ := hid ok2 le3 hl2 hn2
      have le13 := le2.trans ok2 le3
      have rr3 := (rr.up ok (le1.trans ok1 le13)).wipe vs
      unfold cLoop at ec
      rw [← es3] at ec
      cases eg : g d (wipeE ρ vs) w3.S with
      | none => rw [eg] at ec; cases ec
      | some ρ3 =>
        rw [eg] at ec
        refine hg w3 d x _ ρ3 _ _ ok3 rr3 r3 eg fun σ3 rr4 hw => ⟨?_, w3, ok3, rfl, ρ3, rr4, ?_⟩
        · rw [hw vs hu]
          have ww : ∀ us : List Nat, (∀ i ∈ us, i ∈ vs) → L2.wipe (L2.wipe σ us) vs = L2.wipe σ vs := by
            intro us
            induction us with
            | nil => intro _; rfl
            | cons u us ih =>
              intro hus
              show L2.wipe ((L2.wipe σ us).set u none) vs = _
              rw [wipe_set (hus u List.mem_cons_self), ih fun i hi => hus i (List.mem_cons_of_mem _ hi)]
          exact ww vs fun _ hi => hi
        · unfold cTg at ec
          dsimp only at ec
          cases et : t ρ3 w3.S with
          | bad => rw [et] at ec; cases ec
          | exc c fs S => rw [et] at ec; cases ec
          | ok k S4 =>
            rw [et] at ec
            intro w4 v4 le4 ok4 es4 r4
            have r4 : k = v4 := r4
            subst r4
            subst es4
            obtain ⟨hl4, hn4⟩ := hid ok3 le4 hl3 hn3
            have le14 := le13.trans ok3 le4
            have ra4 := ((ra.up ok2 le3).up ok3 le4)
            have rr5 := rr4.up ok3 le4
            cases k with
            | false =>
              refine iteF ?_
              unfold cTest cSkip at ec
              dsimp only at ec
              by_cases hs : still w4.S
              · rw [if_pos hs] at ec
                exact ⟨w4, acc, av, xs, S', le14, ok4, rfl, hs, hl4, hn4, ra4, ec, hf⟩
              · rw [if_neg hs] at ec
                cases ec
            | true =>
              refine iteT ⟨w4, ok4, rfl, ρ3, rr5, ?_⟩
              unfold cTest at ec
              dsimp only at ec
              cases ee : de ρ3 w4.S with
              | bad => rw [ee] at ec; cases ec
              | exc c fs S => rw [ee] at ec; cases ec
              | ok z S5 =>
                rw [ee] at ec
                intro w5 v5 le5 ok5 es5 r5
                subst es5
                obtain ⟨hl5, hn5⟩ := hid ok4 le5 hl4 hn4
                have le15 := le14.trans ok4 le5
                have ra5 := ra4.up ok4 le5
                unfold cElt cSkip at ec
                dsimp only at ec
                by_cases hs : still w5.S
                · rw [if_pos hs] at ec
                  cases er : cLoop still g t de (wipeE ρ vs) (items.drop (i + 1)) w5.S with
                  | bad => rw [er] at ec; cases ec
                  | exc c fs S => rw [er] at ec; cases ec
                  | ok ys S6 =>
                    rw [er] at ec
                    unfold cHead at ec
                    injection ec with ec1 ec2
                    subst ec1 ec2
                    have hlen := hf.lstLen
                    rw [List.length_append, List.length_cons] at hlen
                    refine ⟨av, hl5, by rw [ra5.len]; omega, w5.heap (upd w5.H q (.lst (av ++ [v5]))), acc ++ [z], av ++ [v5], ys, S6, Wo.hid_le le15 hq, Wo.hid_ok ok5 hl5 hn5, rfl, hs, upd_same, hn5, Wo.hid_rvs hl5 _ _ (ra5.append (Rvs.cons r5 Rvs.nil)), er, ?_⟩
                    rw [List.append_assoc]
                    exact hf
                · rw [if_neg hs] at ec
                  cases ec
    · have e1 : i = items.length := by omega
      subst e1
      rw [List.drop_length] at ec
      unfold cLoop at ec
      injection ec with ec1 ec2
      subst ec1 ec2
      refine .inl ⟨ri.stop w2 le2 ok2 st2, ?_⟩
      rw [List.append_nil] at hf
      unfold mkLst at hf
      by_cases hl : acc.length ≤ sizeLine
      · rw [if_pos hl] at hf
        have ad := Wo.adopt ok2 hl2 hn2 ra
        have le : w1.Le (Wo.mk (fun i => if i = w2.S.length then q else w2.m i) (w2.S ++ [Ob.lst acc]) w2.H) := by
          refine ⟨?_, fun i hi => ?_, le2.fr, fun i hi hi2 => ?_, fun i hi z => (List.getElem?_append_left (Nat.lt_of_lt_of_le hi le2.len)).trans (le2.hd i hi z)⟩
          · show w1.S.length ≤ (w2.S ++ [Ob.lst acc]).length
            rw [List.length_append]
            have := le2.len
            omega
          · show (if i = w2.S.length then q else w2.m i) = w1.m i
            rw [if_neg (Nat.ne_of_lt (Nat.lt_of_lt_of_le hi le2.len))]
            exact le2.ag i hi
          · show w1.H (if i = w2.S.length then q else w2.m i) = none
            by_cases h1 : i = w2.S.length
            · rw [if_pos h1]
              exact hq
            · rw [if_neg h1]
              have hi2 : i < (w2.S ++ [Ob.lst acc]).length := hi2
              rw [List.length_append] at hi2
              have hi2 : i < w2.S.length + 1 := hi2
              exact le2.nw i hi (by omega)
        refine hf (Wo.mk (fun i => if i = w2.S.length then q else w2.m i) (w2.S ++ [Ob.lst acc]) w2.H) (.ref q) le ad rfl ?_
        rw [Rv]
        exact ⟨by show w2.S.length < (w2.S ++ [Ob.lst acc]).length; rw [List.length_append]; exact Nat.lt_succ_self _, by show V.ref q = V.ref (if w2.S.length = w2.S.length then q else w2.m w2.S.length); rw [if_pos rfl]⟩
      · rw [if_neg hl] at hf
        exact hf.elim
end

section
variable {K : PySem.W.Frag} {mg : Str → Option Value} {X : Cx} {W : WX} {pos : Pos} {a b c e : Expr} {es : List Expr}
theorem ixX : IxR X (rIx X.K) := ix_seq
theorem slX : SlR X (rSlX X.K) := sl_list.or (sl_tupA.or sl_str)
theorem Rvs.of_sc {w : Wo} : ∀ {ds : List D} {vs : List V}, scs ds = some vs → Rvs K mg w ds vs
  | [], vs, e => by
    rw [← Option.some.inj e]
    exact Rvs.nil
  | d :: ds, vs, e => by
    unfold scs at e
    cases e2 : d.sc with
    | none =>
      rw [e2] at e
      cases e
    | some u =>
      cases e3 : scs ds with
      | none =>
        rw [e2, e3] at e
        cases e
      | some us2 =>
        rw [e2, e3] at e
        rw [← Option.some.inj e]
        refine Rvs.cons ?_ (Rvs.of_sc e3)
        cases d <;> first
          | (rw [← Option.some.inj e2, Rv])
          | (exact absurd e2 (by intro z; cases z))
/-! ## methods of built-in types -/
def tyM (T : String) (d : D) (S : Sto) : Bool := match d with
  | .str _ => T == "str"
  | .int _ => T == "int"
  | .obj n => match S[n]? with
    | some (.lst _) => T == "list"
    | some (.dk _) => T == "dict"
    | _ => false
  | _ => false
theorem tyM_at {w : Wo} (ok : w.Ok K mg) {T : String} {d : D} {v : V} (r : Rv K mg w d v) (h : tyM T d w.S = true) : tyV K T v w.H := by
  unfold tyM at h
  split at h
  · rw [r.str]
    exact beq_iff_eq.mp h
  · rw [r.int]
    exact beq_iff_eq.mp h
  · obtain ⟨_, rfl⟩ := r.obj
    split at h
    · rename_i e
      obtain ⟨vs, h1, _⟩ := ok.has _ _ e
      exact .inl ⟨beq_iff_eq.mp h, vs, SqL.of h1⟩
    · rename_i e
      obtain ⟨vs, h1, _⟩ := ok.has _ _ e
      exact .inr (.inr (.inl ⟨beq_iff_eq.mp h, .inl ⟨vs, h1⟩⟩))
    · cases h
  · cases h
abbrev DM := D → List D → Sto → Res D
def Opm (K : PySem.W.Frag) (mg : Str → Option Value) (r : V → List V → Hp → VK → Prop) (f : DM) : Prop := ∀ (w : Wo) (x : D) (ds : List D) (v : V) (vs : List V) (Q : VK) (E : Str → List (Str × D) → Wo → Prop), w.Ok K mg → Rv K mg w x v → Rvs K mg w ds vs → Fin K mg w (Rv K mg) (f x ds w.S) Q E → r v vs w.H Q
def eMeth1 (T : String) (f : DM) (da : DA) (ρ : Env) (x : D) (S1 : Sto) : Res D := if tyM T x S1 = true then (da ρ S1).bind (f x) else .bad
def eMeth (T : String) (f : DM) (do_ : DE) (da : DA) (ρ : Env) (S : Sto) : Res D := (do_ ρ S).bind (eMeth1 T f da ρ)
theorem i_meth {T : String} {r : V → List V → Hp → VK → Prop} {f : DM} {do_ : DE} {da : DA} (o : Opm K mg r f) {σ : St} {H : Hp} {Q : VK} (h : LE K mg W (eMeth T f do_ da) σ H Q) : tBM K T r (LE K mg W do_) (LA K mg W da) σ H Q := by
  obtain ⟨w, ok, rfl, ρ, rr, h⟩ := h
  refine ⟨w, ok, rfl, ρ, rr, h.bind fun w1 x v le1 ok1 r1 h1 => ?_⟩
  unfold eMeth1 at h1
  by_cases ht : tyM T x w1.S = true
  · rw [if_pos ht] at h1
    refine ⟨tyM_at ok1 r1 ht, w1, ok1, rfl, ρ, rr.up ok le1, h1.bind fun w2 ds vs le2 ok2 r2 h2 => ?_⟩
    exact o w2 x ds v vs Q _ ok2 (r1.up ok1 le2) r2 h2
  · rw [if_neg ht] at h1
    exact h1.elim
theorem i_meth0 {T : String} {r : V → List V → Hp → VK → Prop} {f : DM} {do_ : DE} (o : Opm K mg r f) {σ : St} {H : Hp} {Q : VK} (h : LE K mg W (eMeth T f do_ eNil) σ H Q) : tBM0 K T r (LE K mg W do_) σ H Q := by
  obtain ⟨w, ok, rfl, ρ, rr, h⟩ := h
  refine ⟨w, ok, rfl, ρ, rr, h.bind fun w1 x v le1 ok1 r1 h1 => ?_⟩
  unfold eMeth1 at h1
  by_cases ht : tyM T x w1.S = true
  · rw [if_pos ht] at h1
    exact ⟨tyM_at ok1 r1 ht, o w1 x [] v [] Q _ ok1 r1 Rvs.nil h1⟩
  · rw [if_neg ht] at h1
    exact h1.elim
section
variable {o : Expr} {name : Str} {apos cpos : Pos} {T id : String} {r : V → List V → Hp → VK → Prop} {f : DM} {do_ : DE} {da : DA}
theorem l_bm0 (pa : PlainAttrs T) (slot : Slot T name id) (hty : typeOf (.builtin id) = pure (.type "method_descriptor")) (hm : MtR X id r) (om : Opm X.K X.mg r f) (ho : PE X o (LE X.K X.mg W do_))
    (hbase : attributeBase o name X.env (eval o X.env) = eval o X.env := by rfl) (hline : (apos.endLine == cpos.line) = true := by rfl) : PE X (.Call (.Attribute o name apos) [] [] cpos) (LE X.K X.mg W (eMeth T f do_ eNil)) :=
  (pe_bm0 pa slot hty hm ho hbase hline).imp fun _ _ _ => i_meth0 om
theorem l_bm (pa : PlainAttrs T) (slot : Slot T name id) (hty : typeOf (.builtin id) = pure (.type "method_descriptor")) (hm : MtR X id r) (om : Opm X.K X.mg r f) (ho : PE X o (LE X.K X.mg W do_)) (ha : PA X (e :: es) (LA X.K X.mg W da))
    (hbase : attributeBase o name X.env (eval o X.env) = eval o X.env := by rfl)
    (hfew : ((backTo cpos (starEach (e :: es) X.env)).all (fun x => !x.1) && (backToKw cpos (keywordEach [] X.env)).all (fun x => x.1.isSome)
      && decide ((e :: es).length + ([] : List Keyword).length + (if ([] : List Keyword).isEmpty then 0 else 1) < 30)) = true := by rfl)
    (hline : (apos.endLine == cpos.line) = true := by rfl) (hs : starEach (e :: es) X.env = (false, eval e X.env) :: starEach es X.env := by rfl) (hplain : (backTo cpos (starEach es X.env)).any (·.1) = false := by rfl) :
    PE X (.Call (.Attribute o name apos) (e :: es) [] cpos) (LE X.K X.mg W (eMeth T f do_ da)) :=
  (pe_bm pa slot hty hm ho ha hbase hfew hline hs hplain).imp fun _ _ _ => i_meth om
end
/-- a list is given other items, and x is handed back -/
theorem Fin.putLst {w : Wo} {n : Nat} {xs : List D} {vs us : List V} {x : D} {v : V} {Q : VK} {E : Str → List (Str × D) → Wo → Prop} (h : Fin K mg w (Rv K mg) (.ok x (w.S.set n (.lst xs))) Q E) (ok : w.Ok K mg) (hn : n < w.S.length) (r : Rvs K mg w xs vs) (rx : Rv K mg w x v) (hh : heldO w.S[n]? = false := by exact heldO_no (by assumption) (by rfl)) : Q v (upd w.H (w.m n) (.lst vs)) := by
  have le := Wo.put_le (o := Ob.lst xs) (u := HO.lst vs) hn hh
  exact h (w.put n (.lst xs) (.lst vs)) v le (Wo.putLst ok hn r hh) rfl (rx.up ok le)
def mAppend : DM
  | .obj n, [d], S => match S[n]? with
    | some (.lst xs) => if xs.length < sizeLine then .ok .non (S.set n (.lst (xs ++ [d]))) else .bad
    | _ => .bad
  | _, _, _ => .bad
theorem om_append : Opm K mg rAppend mAppend := by
  intro w x ds v vs Q E ok rx rs h
  unfold mAppend at h
  split at h
  · obtain ⟨u, rfl, ru⟩ := rs.one
    obtain ⟨hn, rfl⟩ := rx.obj
    split at h
    · rename_i e
      split at h
      · rename_i hl
        obtain ⟨us, h1, r1⟩ := lst_mut ok e
        exact ⟨_, us, u, rfl, rfl, h1, by rw [r1.len]; exact hl, h.putLst (us := us) ok hn (r1.append (Rvs.cons ru Rvs.nil)) mk_non⟩
      · exact h.elim
    · exact h.elim
  · exact h.elim
def mExtend : DM
  | .obj n, [.obj m], S => match S[n]?, S[m]? with
    | some (.lst xs), some (.lst ys) => if xs.length + ys.length ≤ sizeLine then .ok .non (S.set n (.lst (xs ++ ys))) else .bad
    | _, _ => .bad
  | _, _, _ => .bad
theorem om_extend : Opm K mg rExtend mExtend := by
  intro w x ds v vs Q E ok rx rs h
  unfold mExtend at h
  split at h
  · obtain ⟨u, rfl, ru⟩ := rs.one
    obtain ⟨hn, rfl⟩ := rx.obj
    obtain ⟨hm, rfl⟩ := ru.obj
    split at h
    · rename_i e1 e2
      split at h
      · rename_i hl
        obtain ⟨us, h1, r1⟩ := lst_mut ok e1
        obtain ⟨zs, h2, r2⟩ := lst_mut ok e2
        exact ⟨_, _, us, zs, rfl, rfl, h1, h2, by rw [r1.len, r2.len]; exact hl, h.putLst (us := us) ok hn (r1.append r2) mk_non⟩
      · exact h.elim
    · exact h.elim
  · exact h.elim
def mPop : DM
  | .obj n, [], S => match S[n]? with
    | some (.lst xs) => match xs[xs.length - 1]? with
      | some d => .ok d (S.set n (.lst xs.dropLast))
      | none => .bad
    | _ => .bad
  | _, _, _ => .bad
theorem Rvs.dropLast {w : Wo} {ds : List D} {vs : List V} (r : Rvs K mg w ds vs) : Rvs K mg w ds.dropLast vs.dropLast := by
  rw [List.dropLast_eq_take, List.dropLast_eq_take, r.len]
  exact r.take _
theorem om_pop : Opm K mg rPop mPop := by
  intro w x ds v vs Q E ok rx rs h
  unfold mPop at h
  split at h
  · have e0 : vs = [] := by
      rw [Rvs] at rs
      exact rs
    obtain ⟨hn, rfl⟩ := rx.obj
    split at h
    · rename_i e1
      split at h
      · rename_i e2
        obtain ⟨us, h1, r1⟩ := lst_mut ok e1
        obtain ⟨z, e3, rz⟩ := r1.get e2
        exact ⟨_, us, z, rfl, e0, h1, by rw [r1.len]; exact e3, h.putLst (us := us) ok hn r1.dropLast rz⟩
      · exact h.elim
    · exact h.elim
  · exact h.elim
def mInsert : DM
  | .obj n, [.int i, d], S => match S[n]? with
    | some (.lst xs) => if xs.length < sizeLine ∧ 0 ≤ i ∧ i < 2 ^ 63 then .ok .non (S.set n (.lst (xs.take i.toNat ++ [d] ++ xs.drop i.toNat))) else .bad
    | _ => .bad
  | _, _, _ => .bad
theorem om_insert : Opm K mg (fun x vs H Q => ∃ (l : Addr) (xs : List V) (i : Int) (y : V), x = .ref l ∧ vs = [.int i, y] ∧ H l = some (.lst xs) ∧ xs.length < sizeLine ∧ 0 ≤ i ∧ i < 2 ^ 63 ∧
    Q .non (upd H l (.lst (xs.take i.toNat ++ [y] ++ xs.drop i.toNat)))) mInsert := by
  intro w x ds v vs Q E ok rx rs h
  unfold mInsert at h
  split at h
  · obtain ⟨u, z, rfl, ru, rz⟩ := rs.two
    obtain ⟨hn, rfl⟩ := rx.obj
    rw [ru.int]
    split at h
    · rename_i e1
      split at h
      · rename_i hl
        obtain ⟨us, h1, r1⟩ := lst_mut ok e1
        exact ⟨_, us, _, z, rfl, rfl, h1, by rw [r1.len]; exact hl.1, hl.2.1, hl.2.2, h.putLst (us := us) ok hn (((r1.take _).append (Rvs.cons rz Rvs.nil)).append (r1.drop _)) mk_non⟩
      · exact h.elim
    · exact h.elim
  · exact h.elim
/-- texts -/
def asStrs : List D → Option (List Str)
  | [] => some []
  | .str i :: ds => (asStrs ds).map fun r => i :: r
  | _ => none
theorem Rvs.strs {w : Wo} : ∀ {ds : List D} {vs : List V} {ns : List Str}, Rvs K mg w ds vs → O.asStrs ds = some ns → vs = ns.map V.str
  | [], vs, ns, r, e => by
    rw [Rvs] at r
    rw [r, ← Option.some.inj e]
    rfl
  | .str i :: ds, vs, ns, r, e => by
    rw [Rvs] at r
    obtain ⟨v, q, e1, r1, r2⟩ := r
    obtain ⟨ms, e2, e3⟩ := Option.map_eq_some_iff.mp e
    rw [e1, r1.str, Rvs.strs r2 e2, ← e3]
    rfl
  | .non :: ds, vs, ns, r, e => by cases e
  | .bl _ :: ds, vs, ns, r, e => by cases e
  | .int _ :: ds, vs, ns, r, e => by cases e
  | .tup _ :: ds, vs, ns, r, e => by cases e
  | .obj _ :: ds, vs, ns, r, e => by cases e
  | .fn _ :: ds, vs, ns, r, e => by cases e
  | .ty _ :: ds, vs, ns, r, e => by cases e
  | .raw _ :: ds, vs, ns, r, e => by cases e
  | .kl _ :: ds, vs, ns, r, e => by cases e
def mJoin (x d : D) (S : Sto) : Res D := match x, (seqOf d S).bind asStrs with
  | .str z, some ys => if (ys.map (·.length)).sum + ys.length * z.length ≤ 16777216 then .ok (.str (Txt.join z ys)) S else .bad
  | _, _ => .bad
def eM11 (f : D → D → Sto → Res D) (da : DE) (ρ : Env) : D → Sto → Res D
  | .str z, S1 => (da ρ S1).bind (f (.str z))
  | _, _ => .bad
def eM1 (f : D → D → Sto → Res D) (do_ da : DE) (ρ : Env) (S : Sto) : Res D := (do_ ρ S).bind (eM11 f da ρ)
theorem l_join {o : Expr} {apos : Pos} {do_ da : DE} (ho : PE X o (LE X.K X.mg W do_)) (he : PE X e (LE X.K X.mg W da)) (hs : starEach [e] X.env = [(false, eval e X.env)] := by rfl) (hbase : attributeBase o "join" X.env (eval o X.env) = eval o X.env := by rfl) (hline : (apos.endLine == pos.line) = true := by rfl) :
    PE X (.Call (.Attribute o "join" apos) [e] [] pos) (LE X.K X.mg W (eM1 mJoin do_ da)) := (pe_join ho he hs hbase hline).imp fun σ H Q h => by
  obtain ⟨w, ok, rfl, ρ, rr, h⟩ := h
  refine ⟨w, ok, rfl, ρ, rr, h.bind fun w1 x v le1 ok1 r1 h1 => ?_⟩
  cases x with
  | str z =>
    refine ⟨⟨z, r1.str⟩, w1, ok1, rfl, ρ, rr.up ok le1, Fin.bind (R' := Rv X.K X.mg) h1 fun w2 y u le2 ok2 r2 h2 => ?_⟩
    unfold mJoin at h2
    split at h2
    · rename_i z2 ys e1 e2
      split at h2
      · rename_i hl
        injection e1 with e1
        subst e1
        obtain ⟨xs, e3, e4⟩ := Option.bind_eq_some_iff.mp e2
        obtain ⟨p, us, rfl, t, r3⟩ := seq_at ok2 r2 e3
        have e5 := r3.strs e4
        subst e5
        exact ⟨_, p, ys, r1.str, rfl, t, hl, Fin.now h2 ok2 mk_str⟩
      · exact h2.elim
    · exact h2.elim
  | _ => exact h1.elim
/-! ## list comprehensions -/
theorem lts_nil : PTs X [] (LT X.K X.mg W fun _ S => .ok true S) := ⟨fun pins s σ H Q I h => by
  obtain ⟨w, ok, rfl, ρ, rr, h⟩ := h
  exact pts_nil.run pins s σ w.H Q I (Fin.now h ok rfl)⟩
theorem lts_one {t : DT} (h : PT X c (LT X.K X.mg W t)) : PTs X [c] (LT X.K X.mg W t) := pts_one h
section
variable {elt tg iter : Expr} {ifs : List Expr} {scope : Scope} {own : List (Str × Nat)} {wi : TI} {g : DG} {t : TG} {us : List Nat} {di : DI} {dt : DT} {de : DE}
theorem l_comp (hc : X.calm = true) (hN : X.N.Nodup) (hi : PI X tg iter wi) (oi : IOk X.K X.mg W di wi) (ok : BlkOk X.N X.env.scope scope own)
    (hg : ∀ (s : Shared) (H : Hp) (C : Addr) (cl : List (Str × Addr)) (fp : List Addr), PG (X.blk s H scope (compEnvC scope cl C X.env) fp) tg t) (og : GOk X.K X.mg us g t) (hu : ∀ i ∈ us, i ∈ own.map (·.2))
    (ht : ∀ (s : Shared) (H : Hp) (C : Addr) (cl : List (Str × Addr)) (fp : List Addr), PTs (X.blk s H scope (compEnvC scope cl C X.env) fp) ifs (LT X.K X.mg W0 dt))
    (he : ∀ (s : Shared) (H : Hp) (C : Addr) (cl : List (Str × Addr)) (fp : List Addr), PE (X.blk s H scope (compEnvC scope cl C X.env) fp) elt (LE X.K X.mg W0 de)) (hs : ∀ x, foldedSetIterable iter X.env x = pure x := by intro _; rfl) :
    PE X (.ListComp elt [⟨tg, iter, ifs, 0⟩] scope pos) (LE X.K X.mg W (dComp di g (own.map (·.2)) dt de)) := (pe_lc hc hN hi ok hg ht he hs).imp fun _ _ _ => i_comp oi og hu
theorem ls_setComp {i : Nat} {y : Str} {py spos : Pos} (hc : X.calm = true) (hN : X.N.Nodup) (hy : X.N[i]? = some y) (hyl : X.env.scope.names.lookup y = some .local)
    (hsw : swapsWith (.ListComp elt [⟨tg, iter, ifs, 0⟩] scope pos) (some (.Name y py)) spos.line X.env = pure true) (hi : PI X tg iter wi) (oi : IOk X.K X.mg W di wi) (ok : BlkOk X.N X.env.scope scope own)
    (hg : ∀ (s : Shared) (H : Hp) (C : Addr) (cl : List (Str × Addr)) (fp : List Addr), PG (X.blk s H scope (compEnvC scope cl C X.env) fp) tg t) (og : GOk X.K X.mg us g t) (hu : ∀ i ∈ us, i ∈ own.map (·.2))
    (ht : ∀ (s : Shared) (H : Hp) (C : Addr) (cl : List (Str × Addr)) (fp : List Addr), PTs (X.blk s H scope (compEnvC scope cl C X.env) fp) ifs (LT X.K X.mg W0 dt))
    (he : ∀ (s : Shared) (H : Hp) (C : Addr) (cl : List (Str × Addr)) (fp : List Addr), PE (X.blk s H scope (compEnvC scope cl C X.env) fp) elt (LE X.K X.mg W0 de)) (hs : ∀ x, foldedSetIterable iter X.env x = pure x := by intro _; rfl) :
    PS X (.Assign [.Name y py] (.ListComp elt [⟨tg, iter, ifs, 0⟩] scope pos) spos) (LS X.K X.mg W (dSet i (dComp di g (own.map (·.2)) dt de))) := (ps_setLc hc hN hy hyl hsw hi ok hg ht he hs).imp fun D' σ H h => by
  obtain ⟨w, ok, rfl, ρ, rr, h⟩ := h
  have h2 : LE X.K X.mg W (dComp di g (own.map (·.2)) dt de) σ w.H (fun x H1 => gName i x σ H1 D'.nx) := i_bind (de := dComp di g (own.map (·.2)) dt de) (D' := D') ⟨w, ok, rfl, ρ, rr, h⟩ fun w d v ρ ok r rr h => h.now ok (rr.set r i)
  exact i_comp oi og hu h2
end
theorem takesW0 : Takes X W0 := takes0
/-! ## raise, try -/
def dRaise (x : Str) (ρ : Env) (S : Sto) : RS := .exc x [] ρ S
theorem ls_raise {C : Addr} {x m : Str} {j : Nat} {p p2 pos2 : Pos} (hc : X.calm = true) (tk : Takes X W) (q : PySem.W.excIn X.K C [.type "ValueError", .type "Exception", .type "BaseException", .type "object"] "ValueError.__new__" = true) (gC : X.mg x = some (.ref C)) (kC : PySem.W.keepIn X.K (.ref C) = true)
    (bC : PySem.W.subIn X.K (.ref C) (.type "BaseException") = some true) (tC : PySem.W.typeIn X.K (.ref C) = some (.type "type")) (hg : Gl X x) (hdb : (x == ("__debug__" : Str)) = false := by decide) :
    PS X (.Raise (some (.Call (.Name x p) [.Constant (.str m) j p2] [] pos2)) none pos) (LS X.K X.mg W (dRaise x)) :=
  (ps_raise hc tk (pmk_own PySem.F.excBase_ValueError q gC kC (raises_own bC tC) hg hdb)).imp fun D' σ H h => by
  obtain ⟨w, ok, rfl, ρ, rr, h⟩ := h
  exact h w σ (Wo.Le.refl w) ok rfl rr C none gC rfl
/-- which classes an except clause takes -/
abbrev Mat := List (Str × Bool)
def matOk (K : PySem.W.Frag) (mg : Str → Option Value) (c : Value) (m : Mat) : Prop := ∀ x b, m.lookup x = some b → ∀ C, mg x = some (.ref C) → PySem.W.exmOne K (.ref C) c = some b
def tryM (suite : DS) (c : Str) (fs : List (Str × D)) (ρ' : Env) (S' : Sto) : Option Bool → RS
  | some true => suite ρ' S'
  | some false => .exc c fs ρ' S'
  | none => .bad
def tryR (m : Mat) (suite : DS) : RS → RS
  | .exc c fs ρ' S' => tryM suite c fs ρ' S' (m.lookup c)
  | .nx ρ' S' => .nx ρ' S'
  | .rt d S' => .rt d S'
  | .bk ρ' S' => .bk ρ' S'
  | .ct ρ' S' => .ct ρ' S'
  | .bad => .bad
def dTry (m : Mat) (body suite : DS) (ρ : Env) (S : Sto) : RS := tryR m suite (body ρ S)
theorem i_try {c : Value} {m : Mat} {body suite : DS} {ts : Addr → Value → Option Addr → TS} (hm : matOk K mg c m) (hts : ∀ a cls d D' σ H, LS K mg W0 suite D' σ H → ts a cls d D' σ H) {D' : Ends} {σ : St} {H : Hp} (hns : ∀ ρ S, ∀ c fs ρ' S', suite ρ S ≠ .exc c fs ρ' S')
    (h : LS K mg W (dTry m body suite) D' σ H) : LS K mg (wOnly K c ts W D') body D' σ H := by
  obtain ⟨w, ok, rfl, ρ, rr, h⟩ := h
  refine ⟨w, ok, rfl, ρ, rr, ?_⟩
  unfold dTry at h
  cases e : body ρ w.S with
  | exc x fs ρ' S' =>
    rw [e] at h
    unfold tryR at h
    dsimp only at h
    intro w' σ' le ok' es rr' C d hC hd
    cases el : m.lookup x with
    | none => rw [el] at h; exact h.elim
    | some b =>
      rw [el] at h
      refine ⟨b, hm x b el C hC, fun hb a ha => ?_, fun hb => ?_⟩
      · subst hb
        refine hts a _ d D' σ' w'.H ⟨w', ok', rfl, ρ', rr', ?_⟩
        have h2 := FinS.up ok' le h
        unfold tryM at h2
        dsimp only at h2
        rw [← es] at h2
        cases e2 : suite ρ' w'.S with
        | exc c2 fs2 ρ2 S2 => exact absurd e2 (hns _ _ _ _ _ _)
        | nx ρ2 S2 => rw [e2] at h2; exact h2
        | rt ρ2 S2 => rw [e2] at h2; exact h2
        | bk ρ2 S2 => rw [e2] at h2; exact h2
        | ct ρ2 S2 => rw [e2] at h2; exact h2
        | bad => rw [e2] at h2; exact h2
      · subst hb
        exact h w' σ' le ok' es rr' C d hC hd
  | nx ρ2 S2 => rw [e] at h; exact h
  | rt ρ2 S2 => rw [e] at h; exact h
  | bk ρ2 S2 => rw [e] at h; exact h
  | ct ρ2 S2 => rw [e] at h; exact h
  | bad => rw [e] at h; exact h
theorem ls_try {x : Str} {cv : Value} {m : Mat} {body suite : List Stmt} {b₀ : Stmt} {np pos' : Pos} {tb ts : DS} (hs : X.stack = X.env :: X.outer) (hf : X.env.frame = some X.env.locals) (hc : Names X x cv) (tk : Takes X W) (hm : matOk X.K X.mg cv m) (hns : ∀ ρ S, ∀ c fs ρ' S', ts ρ S ≠ .exc c fs ρ' S')
    (hb : ∀ (W' : WX) (pn : List (Addr × Obj)) (xe : Value → Shared → Prop), Takes (X.tr pn xe) W' → PassesOwn (model X.prog X.w) X.A X.env xe → PSs (X.tr pn xe) body (LS X.K X.mg W' tb))
    (hsu : ∀ (a : Addr) (oe : Obj) (cls : Value) (d : Option Addr) (pn : List (Addr × Obj)), Zc cls d oe → (∃ vs, oe.data = .fields vs) → PSs (X.suite a ((a, oe) :: pn)) (b₀ :: suite) (LS X.K X.mg W0 ts)) :
    PS X (.Try body [.ExceptHandler (some (.Name x np)) none (b₀ :: suite) pos'] [] [] pos) (LS X.K X.mg W (dTry m tb ts)) :=
  (ps_try_only (tb := fun W' => LS X.K X.mg W' tb) (ts := fun _ _ _ => LS X.K X.mg W0 ts) hs hf hc tk hb hsu).imp fun D' σ H h => i_try (ts := fun _ _ _ => LS X.K X.mg W0 ts) hm (fun _ _ _ _ _ _ h => h) hns h
end

/-! ## math.gcd, bit_length -/
section
variable {K : PySem.W.Frag} {mg : Str → Option Value} {X : Cx} {W : WX}
def dGcd : DF
  | [.int a, .int b], S => .ok (.int ((Nat.gcd a.natAbs b.natAbs : Nat) : Int)) S
  | _, _ => .bad
theorem o_gcd : Opn K mg rGcd dGcd := by
  intro w ds vs Q E ok r h
  unfold dGcd at h
  split at h
  · obtain ⟨v, u, rfl, r1, r2⟩ := r.two
    rw [r1.int, r2.int]
    exact ⟨_, _, rfl, Fin.now h ok mk_int⟩
  · exact h.elim
theorem l_callF {x : Str} {p pos : Pos} {e : Expr} {es : List Expr} {id : String} {r : List V → Hp → VK → Prop} {f : DF} {da : DA} (hc : CallR X (.builtin id) r) (o : Opn X.K X.mg r f) (hg : Gl X x) (hm : X.mg x = some (.builtin id))
    (ha : PA X (e :: es) (LA X.K X.mg W da)) (hdb : (x == ("__debug__" : Str)) = false := by decide) (he : starEach (e :: es) X.env = (false, eval e X.env) :: starEach es X.env := by rfl) (hpl : (backTo pos (starEach es X.env)).any (·.1) = false := by rfl) :
    PE X (.Call (.Name x p) (e :: es) [] pos) (LE X.K X.mg W (eCall f da)) := (pe_callBfun hc hg hm ha hdb he hpl).imp fun _ _ _ => i_callB o
def dBits : D → Sto → Res D
  | .int i, S => .ok (.int (Builtin.Int.intBits i : Nat)) S
  | _, _ => .bad
theorem l_bits {o : Expr} {da : DE} {apos pos : Pos} (ho : PE X o (LE X.K X.mg W da)) (hbase : attributeBase o "bit_length" X.env (eval o X.env) = eval o X.env := by rfl) (hline : (apos.endLine == pos.line) = true := by rfl) :
    PE X (.Call (.Attribute o "bit_length" apos) [] [] pos) (LE X.K X.mg W (eUn dBits da)) := (pe_bits ho hbase hline).imp fun σ H Q h => by
  obtain ⟨w, ok, rfl, ρ, rr, h⟩ := h
  refine ⟨w, ok, rfl, ρ, rr, h.bind fun w1 x v le1 ok1 r1 h1 => ?_⟩
  unfold dBits at h1
  split at h1
  · exact ⟨_, r1.int, Fin.now h1 ok1 mk_int⟩
  · exact h1.elim
theorem mat_nil {c : Value} : matOk K mg c [] := fun _ _ h => nomatch h
theorem mat_cons {c : Value} {x : Str} {b : Bool} {m : Mat} {C : Addr} (g : mg x = some (.ref C)) (h : PySem.W.exmOne K (.ref C) c = some b) (hm : matOk K mg c m) : matOk K mg c ((x, b) :: m) := by
  intro y b2 e C2 g2
  rw [List.lookup_cons] at e
  split at e
  · rename_i e3
    have e3 := eq_of_beq e3
    subst e3
    rw [g] at g2
    cases Option.some.inj g2
    exact (Option.some.inj e) ▸ h
  · exact hm y b2 e C2 g2
end

/-! ## dicts whose keys are numbers and texts -/
section
variable {K : PySem.W.Frag} {mg : Str → Option Value} {X : Cx} {W : WX}
def keyOf : D → Option Key
  | .int i => some (.inl i)
  | .str x => some (.inr x)
  | _ => none
theorem Rv.key {w : Wo} {d : D} {v : V} {k : Key} (h : Rv K mg w d v) (e : keyOf d = some k) : v = kV k := by
  cases d <;> first
    | (rw [← Option.some.inj e]; first | exact h.int | exact h.str)
    | exact absurd e (by intro z; cases z)
/-- what a dict's pairs hold at a key; a pair put in -/
def getD {κ : Type} [DecidableEq κ] (kvs : List (κ × D)) (k : κ) : Option D := (kvs.find? fun p => decide (p.1 = k)).map (·.2)
def putD {κ : Type} [DecidableEq κ] (kvs : List (κ × D)) (k : κ) (d : D) : List (κ × D) :=
  if (kvs.any fun p => decide (p.1 = k)) = true then kvs.map (fun p => if p.1 = k then (p.1, d) else p) else kvs ++ [(k, d)]
theorem getD_pos {κ : Type} [DecidableEq κ] {p : κ × D} {r : List (κ × D)} {k : κ} (e : p.1 = k) : getD (p :: r) k = some p.2 := by simp [getD, List.find?_cons, e]
theorem getD_neg {κ : Type} [DecidableEq κ] {p : κ × D} {r : List (κ × D)} {k : κ} (e : ¬ p.1 = k) : getD (p :: r) k = getD r k := by simp [getD, List.find?_cons, e]
theorem Rkv.get {κ : Type} [DecidableEq κ] {w : Wo} (k : κ) : ∀ {ps : List (κ × D)} {vs : List (κ × V)}, Rkv K mg w ps vs → (∀ d, getD ps k = some d → ∃ v, valV vs k = some v ∧ Rv K mg w d v) ∧ (getD ps k = none → valV vs k = none)
  | [], vs, r => by
    have e : vs = [] := r
    subst e
    exact ⟨fun d h => (by cases h), fun _ => rfl⟩
  | p :: ps, vs, r => by
    obtain ⟨v, q, e, r1, r2⟩ := r
    subst e
    by_cases h : p.1 = k
    · rw [getD_pos h, valV_pos (p := (p.1, v)) h]
      refine ⟨fun d e => ⟨v, rfl, ?_⟩, fun e => by cases e⟩
      rw [← Option.some.inj e]
      exact r1
    · rw [getD_neg h, valV_neg (p := (p.1, v)) h]
      exact Rkv.get k r2
theorem Rkv.any {κ : Type} [DecidableEq κ] {w : Wo} (k : κ) : ∀ {ps : List (κ × D)} {vs : List (κ × V)}, Rkv K mg w ps vs → (vs.any fun p => decide (p.1 = k)) = (ps.any fun p => decide (p.1 = k))
  | [], vs, r => by
    have e : vs = [] := r
    subst e
    rfl
  | p :: ps, vs, r => by
    obtain ⟨v, q, e, r1, r2⟩ := r
    subst e
    rw [List.any_cons, List.any_cons, Rkv.any k r2]
theorem Rkv.mapPut {κ : Type} [DecidableEq κ] {w : Wo} {k : κ} {d : D} {v : V} (h : Rv K mg w d v) : ∀ {ps : List (κ × D)} {vs : List (κ × V)}, Rkv K mg w ps vs → Rkv K mg w (ps.map fun p => if p.1 = k then (p.1, d) else p) (vs.map fun p => if p.1 = k then (p.1, v) else p)
  | [], vs, r => by
    have e : vs = [] := r
    subst e
    exact rfl
  | p :: ps, vs, r => by
    obtain ⟨u, q, e, r1, r2⟩ := r
    subst e
    by_cases hk : p.1 = k
    · refine ⟨v, _, ?_, ?_, Rkv.mapPut h r2⟩
      · simp [hk]
      · simp only [hk, if_true]
        exact h
    · refine ⟨u, _, ?_, ?_, Rkv.mapPut h r2⟩
      · simp [hk]
      · simp only [hk, if_false]
        exact r1
theorem Rkv.snoc {κ : Type} [DecidableEq κ] {w : Wo} {k : κ} {d : D} {v : V} (h : Rv K mg w d v) : ∀ {ps : List (κ × D)} {vs : List (κ × V)}, Rkv K mg w ps vs → Rkv K mg w (ps ++ [(k, d)]) (vs ++ [(k, v)])
  | [], vs, r => by
    have e : vs = [] := r
    subst e
    exact ⟨v, [], rfl, h, rfl⟩
  | p :: ps, vs, r => by
    obtain ⟨u, q, e, r1, r2⟩ := r
    subst e
    exact ⟨u, _, rfl, r1, Rkv.snoc h r2⟩
theorem Rkv.put {κ : Type} [DecidableEq κ] {w : Wo} {k : κ} {d : D} {v : V} (h : Rv K mg w d v) {ps : List (κ × D)} {vs : List (κ × V)} (r : Rkv K mg w ps vs) : Rkv K mg w (putD ps k d) (putK vs k v) := by
  unfold putD putK
  rw [r.any k]
  split
  · exact r.mapPut h
  · exact r.snoc h
def dkOf (S : Sto) (n : Nat) : Option (List (Key × D)) := match S[n]? with
  | some (.dk kvs) => some kvs
  | _ => none
theorem dk_at {w : Wo} (ok : w.Ok K mg) {n : Nat} {kvs : List (Key × D)} (h : dkOf w.S n = some kvs) : w.S[n]? = some (.dk kvs) ∧ ∃ vs, w.H (w.m n) = some (.dK vs) ∧ Rkv K mg w kvs vs := by
  unfold dkOf at h
  split at h
  · rename_i e
    cases Option.some.inj h
    exact ⟨e, ok.has _ _ e⟩
  · cases h
def dtOf (S : Sto) (n : Nat) : Option (List (List Key × D)) := match S[n]? with
  | some (.dt kvs) => some kvs
  | _ => none
theorem dt_at {w : Wo} (ok : w.Ok K mg) {n : Nat} {kvs : List (List Key × D)} (h : dtOf w.S n = some kvs) : w.S[n]? = some (.dt kvs) ∧ ∃ vs, w.H (w.m n) = some (.dT vs) ∧ Rkv K mg w kvs vs := by
  unfold dtOf at h
  split at h
  · rename_i e
    cases Option.some.inj h
    exact ⟨e, ok.has _ _ e⟩
  · cases h
def lookK (n : Nat) (S : Sto) : Option Key → Option (Option D)
  | some q => (dkOf S n).map fun kvs => getD kvs q
  | none => none
/-- the place of a read -/
def look (a k : D) (S : Sto) : Option (Option D) := match a, k with
  | .obj n, .tk ks => (dtOf S n).map fun kvs => getD kvs ks
  | .obj n, k => lookK n S (keyOf k)
  | _, _ => none
theorem look_at {w : Wo} (ok : w.Ok K mg) {a k : D} {u v : V} {o : Option D} (ra : Rv K mg w a u) (rk : Rv K mg w k v) (h : look a k w.S = some o) : ∃ b r, u = .ref b ∧ DGet w.H b v r ∧ (∀ d, o = some d → ∃ z, r = some z ∧ Rv K mg w d z) ∧ (o = none → r = none) := by
  unfold look at h
  split at h
  · rename_i n ks
    obtain ⟨_, rfl⟩ := ra.obj
    obtain ⟨kvs, e2, e3⟩ := Option.map_eq_some_iff.mp h
    obtain ⟨_, vs, hv, r⟩ := dt_at ok e2
    rw [Rv] at rk
    obtain ⟨b, rfl, hb⟩ := rk
    obtain ⟨g1, g2⟩ := r.get ks
    subst e3
    exact ⟨_, _, rfl, DGet.t hv hb, g1, g2⟩
  · rename_i n _
    unfold lookK at h
    split at h
    · rename_i q e
      obtain ⟨_, rfl⟩ := ra.obj
      obtain ⟨kvs, e2, e3⟩ := Option.map_eq_some_iff.mp h
      obtain ⟨_, vs, hv, r⟩ := dk_at ok e2
      rw [rk.key e]
      obtain ⟨g1, g2⟩ := r.get q
      subst e3
      exact ⟨_, _, rfl, DGet.k hv, g1, g2⟩
    · cases h
  · cases h
/-! ### {} -/
def eDNew (_ : Env) (S : Sto) : Res D := .ok (.obj S.length) (S ++ [.dk []])
theorem l_dnew {pos : Pos} : PE X (.Dict [] [] pos) (LE X.K X.mg W eDNew) := pe_dnewK.imp fun σ H Q h => by
  obtain ⟨w, ok, rfl, ρ, rr, h⟩ := h
  exact fun p hp => Fin.add h ok hp fun le => ⟨[], upd_same, rfl⟩
/-- {} for tuples -/
def eDNewT (_ : Env) (S : Sto) : Res D := .ok (.obj S.length) (S ++ [.dt []])
theorem l_dnewT {pos : Pos} : PE X (.Dict [] [] pos) (LE X.K X.mg W eDNewT) := pe_dnewT.imp fun σ H Q h => by
  obtain ⟨w, ok, rfl, ρ, rr, h⟩ := h
  exact fun p hp => Fin.add h ok hp fun le => ⟨[], upd_same, rfl⟩
/-! ### d[k], d.get(k), d.get(k, e), k in d -/
def getR (S : Sto) : Option (Option D) → Res D
  | some (some d) => .ok d S
  | _ => .bad
def dDGet (a k : D) (S : Sto) : Res D := getR S (look a k S)
def eDGet (da dk : DE) : DE := eOp dDGet da dk
variable {o i e f : Expr} {pos pos' apos cpos : Pos} {da dk dx : DE}
theorem l_dget (hu : X.A.units + 1 < cLine) (ho : PE X o (LE X.K X.mg W da)) (hi : PE X i (LE X.K X.mg W dk)) (hs : NoSl i) : PE X (.Subscript o i pos) (LE X.K X.mg W (eDGet da dk)) := (pe_dget hu ho hi hs).imp fun σ H Q h => by
  obtain ⟨w, ok, rfl, ρ, rr, h⟩ := h
  refine ⟨w, ok, rfl, ρ, rr, h.bind fun w1 x v le1 ok1 r1 h1 => ?_⟩
  refine ⟨w1, ok1, rfl, ρ, rr.up ok le1, h1.bind fun w2 y u le2 ok2 r2 h2 => ?_⟩
  unfold dDGet at h2
  cases e : look x y w2.S with
  | none => rw [e] at h2; exact h2.elim
  | some od =>
    rw [e] at h2
    cases od with
    | none => exact h2.elim
    | some d =>
      obtain ⟨b, r, rfl, g, g1, _⟩ := look_at ok2 (r1.up ok1 le2) r2 e
      obtain ⟨z, rfl, rz⟩ := g1 d rfl
      exact ⟨_, z, rfl, g, h2.now ok2 rz⟩
def hasR (neg : Bool) (S : Sto) : Option (Option D) → Res D
  | some o => .ok (.bl (if neg then !o.isSome else o.isSome)) S
  | none => .bad
def dDIn (neg : Bool) (k a : D) (S : Sto) : Res D := hasR neg S (look a k S)
def eDIn (neg : Bool) (dk da : DE) : DE := eOp (dDIn neg) dk da
theorem i_din {neg : Bool} {σ : St} {H : Hp} {Q : VK} (h : LE K mg W (eDIn neg dk da) σ H Q) : LE K mg W dk σ H fun y H1 => LE K mg W da σ H1 fun x H2 => ∃ a o, x = .ref a ∧ DGet H2 a y o ∧ Q (.bl (if neg then !o.isSome else o.isSome)) H2 := by
  obtain ⟨w, ok, rfl, ρ, rr, h⟩ := h
  refine ⟨w, ok, rfl, ρ, rr, h.bind fun w1 y v le1 ok1 r1 h1 => ?_⟩
  refine ⟨w1, ok1, rfl, ρ, rr.up ok le1, h1.bind fun w2 x u le2 ok2 r2 h2 => ?_⟩
  unfold dDIn at h2
  cases e : look x y w2.S with
  | none => rw [e] at h2; exact h2.elim
  | some od =>
    rw [e] at h2
    obtain ⟨b, r, rfl, g, g1, g2⟩ := look_at ok2 r2 (r1.up ok1 le2) e
    have es : od.isSome = r.isSome := by
      cases od with
      | none => rw [g2 rfl]; rfl
      | some d =>
        obtain ⟨z, rfl, _⟩ := g1 d rfl
        rfl
    have h2 : Fin K mg w2 (Rv K mg) (.ok (.bl (if neg then !od.isSome else od.isSome)) w2.S) Q _ := h2
    rw [es] at h2
    exact ⟨_, r, rfl, g, h2.now ok2 mk_bl⟩
theorem l_din (hu : X.A.units + 1 < cLine) (hi : PE X i (LE X.K X.mg W dk)) (ho : PE X o (LE X.K X.mg W da)) (hm : behindInMarks .In o = false := by rfl) : PE X (.Compare i [.In] [o] pos) (LE X.K X.mg W (eDIn false dk da)) := (pe_cmp (pc_din hu hi ho) hm).imp fun σ H Q h => i_din h
theorem l_dnotin (hu : X.A.units + 1 < cLine) (hi : PE X i (LE X.K X.mg W dk)) (ho : PE X o (LE X.K X.mg W da)) (hm : behindInMarks .NotIn o = false := by rfl) : PE X (.Compare i [.NotIn] [o] pos) (LE X.K X.mg W (eDIn true dk da)) := (pe_cmp (pc_dnotin hu hi ho) hm).imp fun σ H Q h => i_din h
theorem lt_din (hu : X.A.units + 1 < cLine) (hi : PE X i (LE X.K X.mg W dk)) (ho : PE X o (LE X.K X.mg W da)) (hm : behindInMarks .In o = false := by rfl) : PT X (.Compare i [.In] [o] pos) (LT X.K X.mg W (eT (eDIn false dk da))) :=
  (pt_cmp (pc_din hu hi ho) hm).imp fun σ H Q h => i_test (t := tDIn (LE X.K X.mg W dk) (LE X.K X.mg W da)) (da := eDIn false dk da) (fun _ _ _ z => i_din (neg := false) z) h
theorem lt_dnotin (hu : X.A.units + 1 < cLine) (hi : PE X i (LE X.K X.mg W dk)) (ho : PE X o (LE X.K X.mg W da)) (hm : behindInMarks .NotIn o = false := by rfl) : PT X (.Compare i [.NotIn] [o] pos) (LT X.K X.mg W (eT (eDIn true dk da))) :=
  (pt_cmp (pc_dnotin hu hi ho) hm).imp fun σ H Q h => i_test (t := tDNotIn (LE X.K X.mg W dk) (LE X.K X.mg W da)) (da := eDIn true dk da) (fun _ _ _ z => i_din (neg := true) z) h
/-- the dict itself, when it is a dict -/
def asDict (a : D) (S : Sto) : Bool := match a with
  | .obj n => (dkOf S n).isSome || (dtOf S n).isSome
  | _ => false
theorem asDict_at {w : Wo} (ok : w.Ok K mg) {a : D} {u : V} (ra : Rv K mg w a u) (h : asDict a w.S = true) : ∃ b, u = .ref b ∧ IsD w.H b := by
  cases a with
  | obj n =>
    rcases Bool.or_eq_true_iff.mp (show ((dkOf w.S n).isSome || (dtOf w.S n).isSome) = true from h) with h | h
    · obtain ⟨kvs, e⟩ := Option.isSome_iff_exists.mp h
      obtain ⟨_, vs, hv, _⟩ := dk_at ok e
      exact ⟨_, ra.obj.2, .inl ⟨vs, .inl hv⟩⟩
    · obtain ⟨kvs, e⟩ := Option.isSome_iff_exists.mp h
      obtain ⟨_, vs, hv, _⟩ := dt_at ok e
      exact ⟨_, ra.obj.2, .inr ⟨vs, .inl hv⟩⟩
  | _ => cases h
def get1R (S : Sto) : Option (Option D) → Res D
  | some (some d) => .ok d S
  | some none => .ok .non S
  | none => .bad
def dDGet1 (a k : D) (S : Sto) : Res D := get1R S (look a k S)
def eDGet1b (dk : DE) (ρ : Env) (a : D) (S1 : Sto) : Res D := if asDict a S1 = true then (dk ρ S1).bind (dDGet1 a) else .bad
def eDGet1 (da dk : DE) (ρ : Env) (S : Sto) : Res D := (da ρ S).bind (eDGet1b dk ρ)
theorem l_dget1 (hu : X.A.units + 1 < cLine) (ho : PE X o (LE X.K X.mg W da)) (he : PE X e (LE X.K X.mg W dk)) (m : M1 X o "get" apos e cpos) : PE X (.Call (.Attribute o "get" apos) [e] [] cpos) (LE X.K X.mg W (eDGet1 da dk)) := (pe_dget1 hu ho he m).imp fun σ H Q h => by
  obtain ⟨w, ok, rfl, ρ, rr, h⟩ := h
  refine ⟨w, ok, rfl, ρ, rr, h.bind fun w1 x v le1 ok1 r1 h1 => ?_⟩
  unfold eDGet1b at h1
  by_cases hd : asDict x w1.S = true
  · rw [if_pos hd] at h1
    obtain ⟨b, rfl, isd⟩ := asDict_at ok1 r1 hd
    refine ⟨b, rfl, isd, w1, ok1, rfl, ρ, rr.up ok le1, h1.bind fun w2 y u le2 ok2 r2 h2 => ?_⟩
    unfold dDGet1 at h2
    cases e : look x y w2.S with
    | none => rw [e] at h2; exact h2.elim
    | some od =>
      rw [e] at h2
      obtain ⟨b2, r, eb, g, g1, g2⟩ := look_at ok2 (r1.up ok1 le2) r2 e
      cases eb
      cases od with
      | none =>
        rw [g2 rfl] at g
        exact ⟨_, g, h2.now ok2 (by rw [Rv]; rfl)⟩
      | some d =>
        obtain ⟨z, rfl, rz⟩ := g1 d rfl
        exact ⟨_, g, h2.now ok2 rz⟩
  · rw [if_neg hd] at h1
    exact h1.elim
def get2R (x : D) (S : Sto) : Option (Option D) → Res D
  | some (some d) => .ok d S
  | some none => .ok x S
  | none => .bad
def dDGet2 (a k x : D) (S : Sto) : Res D := get2R x S (look a k S)
def eDGet2c (dx : DE) (ρ : Env) (a k : D) (S2 : Sto) : Res D := (dx ρ S2).bind (dDGet2 a k)
def eDGet2b (dk dx : DE) (ρ : Env) (a : D) (S1 : Sto) : Res D := if asDict a S1 = true then (dk ρ S1).bind (eDGet2c dx ρ a) else .bad
def eDGet2 (da dk dx : DE) (ρ : Env) (S : Sto) : Res D := (da ρ S).bind (eDGet2b dk dx ρ)
theorem l_dget2 (hu : X.A.units + 1 < cLine) (ho : PE X o (LE X.K X.mg W da)) (he : PE X e (LE X.K X.mg W dk)) (hf : PE X f (LE X.K X.mg W dx)) (m : M2 X o "get" apos e f cpos) : PE X (.Call (.Attribute o "get" apos) [e, f] [] cpos) (LE X.K X.mg W (eDGet2 da dk dx)) := (pe_dget2 hu ho he hf m).imp fun σ H Q h => by
  obtain ⟨w, ok, rfl, ρ, rr, h⟩ := h
  refine ⟨w, ok, rfl, ρ, rr, h.bind fun w1 x v le1 ok1 r1 h1 => ?_⟩
  unfold eDGet2b at h1
  by_cases hd : asDict x w1.S = true
  · rw [if_pos hd] at h1
    obtain ⟨b, rfl, isd⟩ := asDict_at ok1 r1 hd
    have rr1 := rr.up ok le1
    refine ⟨b, rfl, isd, w1, ok1, rfl, ρ, rr1, h1.bind fun w2 y u le2 ok2 r2 h2 => ?_⟩
    refine ⟨w2, ok2, rfl, ρ, rr1.up ok1 le2, h2.bind fun w3 z t le3 ok3 r3 h3 => ?_⟩
    unfold dDGet2 at h3
    cases e : look x y w3.S with
    | none => rw [e] at h3; exact h3.elim
    | some od =>
      rw [e] at h3
      obtain ⟨b2, r, eb, g, g1, g2⟩ := look_at ok3 ((r1.up ok1 le2).up ok2 le3) (r2.up ok2 le3) e
      cases eb
      cases od with
      | none =>
        rw [g2 rfl] at g
        exact ⟨_, g, h3.now ok3 r3⟩
      | some d =>
        obtain ⟨y2, rfl, rz⟩ := g1 d rfl
        exact ⟨_, g, h3.now ok3 rz⟩
  · rw [if_neg hd] at h1
    exact h1.elim
/-! ### d[k] = e -/
def putQ (ρ : Env) (S : Sto) (x : D) : D → D → RS
  | .obj n, k => match dkOf S n, keyOf k with
    | some kvs, some q => if kvs.length < sizeLine then .nx ρ (S.set n (.dk (putD kvs q x))) else .bad
    | _, _ => .bad
  | _, _ => .bad
def putQ3 (x a k : D) (ρ : Env) (S : Sto) : RS := putQ ρ S x a k
def putQ2 (dk : DE) (x a : D) (ρ : Env) (S : Sto) : RS := bindR (putQ3 x a) ρ (dk ρ S)
def putQ1 (da dk : DE) (x : D) (ρ : Env) (S : Sto) : RS := bindR (putQ2 dk x) ρ (da ρ S)
def dPutD (dx da dk : DE) (ρ : Env) (S : Sto) : RS := bindR (putQ1 da dk) ρ (dx ρ S)
theorem ls_putD (hu : X.A.units + 1 < cLine) (hv : PE X e (LE X.K X.mg W dx)) (ho : PE X o (LE X.K X.mg W da)) (hi : PE X i (LE X.K X.mg W dk)) (hs : swapsWith e (some (.Subscript o i pos')) pos.line X.env = pure false) :
    PS X (.Assign [.Subscript o i pos'] e pos) (LS X.K X.mg W (dPutD dx da dk)) := (ps_dput hu ho hi hv hs).imp fun D' σ H h => by
  obtain ⟨w, ok, rfl, ρ, rr, h⟩ := h
  refine ⟨w, ok, rfl, ρ, rr, FinS.ofBind ok rr h fun w1 x v le1 ok1 r1 rr1 h1 => ?_⟩
  refine ⟨w1, ok1, rfl, ρ, rr1, FinS.ofBind ok1 rr1 h1 fun w2 y u le2 ok2 r2 rr2 h2 => ?_⟩
  refine ⟨w2, ok2, rfl, ρ, rr2, FinS.ofBind ok2 rr2 h2 fun w3 z t le3 ok3 r3 rr3 h3 => ?_⟩
  have h3 : FinS X.K X.mg W w3 (putQ ρ w3.S x y z) D' := h3
  cases y with
  | obj n =>
    have h3 : FinS X.K X.mg W w3 (match dkOf w3.S n, keyOf z with | some kvs, some q => if kvs.length < sizeLine then .nx ρ (w3.S.set n (.dk (putD kvs q x))) else .bad | _, _ => .bad) D' := h3
    cases e1 : dkOf w3.S n with
    | none => rw [e1] at h3; exact h3.elim
    | some kvs =>
      cases e2 : keyOf z with
      | none => rw [e1, e2] at h3; exact h3.elim
      | some q =>
        rw [e1, e2] at h3
        have h3 : FinS X.K X.mg W w3 (if kvs.length < sizeLine then .nx ρ (w3.S.set n (.dk (putD kvs q x))) else .bad) D' := h3
        by_cases hl : kvs.length < sizeLine
        · rw [if_pos hl] at h3
          obtain ⟨e3, vs, hv, r⟩ := dk_at ok3 e1
          have r2 := r2.up ok2 le3
          obtain ⟨hn, rfl⟩ := r2.obj
          have r1 := (r1.up ok1 le2).up ok2 le3
          rw [r3.key e2]
          refine ⟨_, _, rfl, DPut.k hv (by rw [Rkv.len r]; exact hl), ?_⟩
          have le4 := Wo.put_le (o := .dk (putD kvs q x)) (u := .dK (putK vs q v)) hn
          exact h3 (w3.put n (.dk (putD kvs q x)) (.dK (putK vs q v))) σ le4 (Wo.put_ok ok3 hn ⟨_, upd_same, (r.put r1).up ok3 le4⟩) rfl (rr3.up ok3 le4)
        · rw [if_neg hl] at h3
          exact h3.elim
  | _ => exact h3.elim
/-! ### .. by a tuple -/
def putTK (ρ : Env) (S : Sto) (n : Nat) (x : D) (ks : List Key) : Option (List (List Key × D)) → RS
  | some kvs => if kvs.length < sizeLine then .nx ρ (S.set n (.dt (putD kvs ks x))) else .bad
  | none => .bad
def putT3 (x a k : D) (ρ : Env) (S : Sto) : RS := match a, k with
  | .obj n, .tk ks => putTK ρ S n x ks (dtOf S n)
  | _, _ => .bad
def putT2 (dk : DE) (x a : D) (ρ : Env) (S : Sto) : RS := bindR (putT3 x a) ρ (dk ρ S)
def putT1 (da dk : DE) (x : D) (ρ : Env) (S : Sto) : RS := bindR (putT2 dk x) ρ (da ρ S)
def dPutT (dx da dk : DE) (ρ : Env) (S : Sto) : RS := bindR (putT1 da dk) ρ (dx ρ S)
theorem ls_putT (hu : X.A.units + 1 < cLine) (hv : PE X e (LE X.K X.mg W dx)) (ho : PE X o (LE X.K X.mg W da)) (hi : PE X i (LE X.K X.mg W dk)) (hs : swapsWith e (some (.Subscript o i pos')) pos.line X.env = pure false) :
    PS X (.Assign [.Subscript o i pos'] e pos) (LS X.K X.mg W (dPutT dx da dk)) := (ps_dput hu ho hi hv hs).imp fun D' σ H h => by
  obtain ⟨w, ok, rfl, ρ, rr, h⟩ := h
  refine ⟨w, ok, rfl, ρ, rr, FinS.ofBind ok rr h fun w1 x v le1 ok1 r1 rr1 h1 => ?_⟩
  refine ⟨w1, ok1, rfl, ρ, rr1, FinS.ofBind ok1 rr1 h1 fun w2 y u le2 ok2 r2 rr2 h2 => ?_⟩
  refine ⟨w2, ok2, rfl, ρ, rr2, FinS.ofBind ok2 rr2 h2 fun w3 z t le3 ok3 r3 rr3 h3 => ?_⟩
  unfold putT3 at h3
  split at h3
  · rename_i n ks
    cases e1 : dtOf w3.S n with
    | none => rw [e1] at h3; exact h3.elim
    | some kvs =>
      rw [e1] at h3
      have h3 : FinS X.K X.mg W w3 (if kvs.length < sizeLine then .nx ρ (w3.S.set n (.dt (putD kvs ks x))) else .bad) D' := h3
      by_cases hl : kvs.length < sizeLine
      · rw [if_pos hl] at h3
        obtain ⟨e3, vs, hv, r⟩ := dt_at ok3 e1
        have r2 := r2.up ok2 le3
        obtain ⟨hn, rfl⟩ := r2.obj
        have r1 := (r1.up ok1 le2).up ok2 le3
        rw [Rv] at r3
        obtain ⟨b, rfl, hb⟩ := r3
        refine ⟨_, _, rfl, DPut.t hv hb (by rw [Rkv.len r]; exact hl), ?_⟩
        have le4 := Wo.put_le (o := .dt (putD kvs ks x)) (u := .dT (putK vs ks v)) hn
        exact h3 (w3.put n (.dt (putD kvs ks x)) (.dT (putK vs ks v))) σ le4 (Wo.put_ok ok3 hn ⟨_, upd_same, (r.put r1).up ok3 le4⟩) rfl (rr3.up ok3 le4)
      · rw [if_neg hl] at h3
        exact h3.elim
  · exact h3.elim
/-! ### tuples that are keys -/
def keyL : List D → Option (List Key)
  | [] => some []
  | d :: r => match keyOf d, keyL r with
    | some k, some ks => some (k :: ks)
    | _, _ => none
theorem Rvs.keys {w : Wo} : ∀ {ds : List D} {vs : List V} {ks : List Key}, Rvs K mg w ds vs → keyL ds = some ks → vs = ks.map kV
  | [], vs, ks, r, e => by
    rw [Rvs] at r
    cases Option.some.inj (show some [] = some ks from e)
    exact r
  | d :: ds, vs, ks, r, e => by
    rw [Rvs] at r
    obtain ⟨v, q, e1, r1, r2⟩ := r
    subst e1
    unfold keyL at e
    split at e
    · rename_i k ks' e2 e3
      cases Option.some.inj e
      rw [List.map_cons, Rvs.keys r2 e3, r1.key e2]
    · cases e
def tkR (S : Sto) : Option (List Key) → Res D
  | some ks => .ok (.tk ks) S
  | none => .bad
def mkTk (xs : List D) (S : Sto) : Res D := if xs.length ≤ sizeLine then tkR S (keyL xs) else .bad
def eTk (da : DA) (ρ : Env) (S : Sto) : Res D := (da ρ S).bind mkTk
theorem l_tk {es : List Expr} {x1} {pos : Pos} {da : DA} (h : PA X es (LA X.K X.mg W da)) : PE X (.Tuple es x1 pos) (LE X.K X.mg W (eTk da)) := (pe_tup h).imp fun σ H Q h => by
  obtain ⟨w, ok, rfl, ρ, rr, h⟩ := h
  refine ⟨w, ok, rfl, ρ, rr, h.bind fun w1 xs vs le1 ok1 r1 h1 => ?_⟩
  unfold mkTk at h1
  by_cases hl : xs.length ≤ sizeLine
  · rw [if_pos hl] at h1
    cases e : keyL xs with
    | none => rw [e] at h1; exact h1.elim
    | some ks =>
      rw [e] at h1
      refine ⟨by rw [r1.len]; exact hl, fun p hp => ?_⟩
      have le2 := Wo.new_le (w := w1) (p := p) (o := .tup vs) hp
      have ok2 := Wo.new_ok (o := .tup vs) ok1 hp
      refine Fin.now (w := w1.heap (upd w1.H p (.tup vs))) (h1.up ok2 le2) ok2 ?_
      rw [Rv]
      exact ⟨p, rfl, by rw [← r1.keys e]; exact upd_same⟩
  · rw [if_neg hl] at h1
    exact h1.elim
def ofKey : Key → D
  | .inl i => .int i
  | .inr x => .str x
/-- a key as a tuple -/
def unTk : D → D
  | .tk ks => .tup (ks.map ofKey)
  | d => d
theorem ofKeys_rvs {w : Wo} : ∀ ks : List Key, Rvs K mg w (ks.map ofKey) (ks.map kV)
  | [] => Rvs.nil
  | .inl i :: ks => Rvs.cons (by rw [ofKey, Rv]; rfl) (ofKeys_rvs ks)
  | .inr i :: ks => Rvs.cons (by rw [ofKey, Rv]; rfl) (ofKeys_rvs ks)
theorem Rv.unTk {w : Wo} {d : D} {v : V} (r : Rv K mg w d v) : Rv K mg w (O.unTk d) v := by
  cases d with
  | tk ks =>
    rw [Rv] at r
    obtain ⟨a, e, h⟩ := r
    unfold O.unTk
    rw [Rv]
    exact ⟨a, _, e, SqT.of h, ofKeys_rvs ks⟩
  | _ => exact r
def dUnTk (d : D) (S : Sto) : Res D := .ok (unTk d) S
def eUnTk (da : DE) : DE := eUn dUnTk da
theorem l_untk {e : Expr} {da : DE} (h : PE X e (LE X.K X.mg W da)) : PE X e (LE X.K X.mg W (eUnTk da)) := h.imp fun σ H Q z => by
  obtain ⟨w, ok, rfl, ρ, rr, z⟩ := z
  refine ⟨w, ok, rfl, ρ, rr, Fin.bind z fun w1 x v le1 ok1 r1 h1 => Fin.now h1 ok1 r1.unTk⟩
end

/-! ## dicts of the module -/
/-- a dict of the module with text keys, at z -/
structure DictT (K : PySem.W.Frag) (pr : Params) (z : Addr) (kvs : List (Str × V)) : Prop where
  ex : ∃ es n, K.lookup z = some ⟨.type "dict", none, .dict es n, #[]⟩ ∧ PySem.W.KeysLit pr es.toList
  low : (z == sysModules) = false
  get : ∀ x : Str, ∃ r, PySem.W.nsIn K z x = some r ∧ ((valV kvs x = none ∧ r = none) ∨ ∃ v u, valV kvs x = some v ∧ r = some u ∧ RelV v u)
def EntT (pr : Params) (e : DictEntry) (p : Str × V) : Prop := (∃ t, e.key = .str p.1 t) ∧ e.hash = PyData.keyHash pr p.1 ∧ RelV p.2 e.val
def EntsT (pr : Params) : List DictEntry → List (Str × V) → Prop
  | [], [] => True
  | e :: es, p :: ps => EntT pr e p ∧ EntsT pr es ps
  | _, _ => False
theorem ents_find {pr : Params} : ∀ {es : List DictEntry} {kvs : List (Str × V)}, EntsT pr es kvs → ∀ x : Str, PySem.W.KeysLit pr es ∧ es.any (·.refKey) = false ∧ ((valV kvs x = none ∧ es.find? (·.key.isStr x) = none) ∨ ∃ v e, valV kvs x = some v ∧ es.find? (·.key.isStr x) = some e ∧ RelV v e.val)
  | [], [], _, x => ⟨trivial, rfl, .inl ⟨rfl, rfl⟩⟩
  | e :: es, p :: ps, ⟨⟨⟨t, hk⟩, hh, hv⟩, h⟩, x => by
    obtain ⟨a, b, c⟩ := ents_find h x
    refine ⟨⟨⟨p.1, t, hk, hh⟩, a⟩, ?_, ?_⟩
    · rw [List.any_cons, b, Bool.or_false]
      unfold DictEntry.refKey
      rw [hk]
    · have e1 : e.key.isStr x = decide (p.1 = x) := by
        rw [hk]
        first | rfl | (unfold Value.isStr; first | rfl | simp)
      by_cases q : p.1 = x
      · right
        refine ⟨p.2, e, valV_pos q, ?_, hv⟩
        rw [List.find?_cons_of_pos]
        rw [e1]
        exact decide_eq_true q
      · rw [valV_neg q, List.find?_cons_of_neg (by rw [e1]; simpa using q)]
        exact c
theorem dictT_mk {K : PySem.W.Frag} {pr : Params} {z : Addr} {kvs : List (Str × V)} {es : List DictEntry} {n : Nat} (l : K.lookup z = some ⟨.type "dict", none, .dict es.toArray n, #[]⟩) (low : (z == sysModules) = false) (h : EntsT pr es kvs) : DictT K pr z kvs := by
  refine ⟨⟨_, n, l, by simpa using (ents_find h Str.empty).1⟩, low, fun x => ?_⟩
  obtain ⟨_, b, c⟩ := ents_find h x
  unfold PySem.W.nsIn
  rw [l]
  dsimp only
  rcases c with ⟨c1, c2⟩ | ⟨v, e, c1, c2, c3⟩
  · rw [c2]
    dsimp only
    rw [b]
    exact ⟨_, rfl, .inl ⟨c1, rfl⟩⟩
  · rw [c2]
    exact ⟨_, rfl, .inr ⟨v, _, c1, rfl, c3⟩⟩
/-! ### rules for a dict of the module -/
section
variable {X : Cx} {z : Addr} {kvs : List (Str × V)}
theorem DictT.mapOf (D : DictT X.K X.w.params z kvs) {pins : List (Addr × Obj)} {σ : St} {H : Hp} {s : Shared} (I : Inv X pins σ H s) :
    ∃ f : Str → Option Value, s.heap.MapOf (PySem.strKind X.prog X.w) z f ∧ (∀ x, (valV kvs x = none ∧ f x = none) ∨ ∃ v u, valV kvs x = some v ∧ f x = some u ∧ RelV v u) ∧ ∃ ob, s.heap.get? z = some ob ∧ ob.dict = none := by
  obtain ⟨es, n, l, k⟩ := D.ex
  refine ⟨_, PySem.W.mapOf_K (prog := X.prog) I.kIn l k, fun x => ?_, _, I.kIn _ _ l, rfl⟩
  obtain ⟨r, e, h⟩ := D.get x
  rw [PySem.W.find_K l e]
  exact h
theorem in_kdT (D : DictT X.K X.w.params z kvs) : OpR X (compareOp .In) (fun x y H Q => ∃ t : Str, x = .str t ∧ y = .ref z ∧ Q (.bl (valV kvs t).isSome) H) := by
  intro pins s σ H x y v u Q I rx ry h
  obtain ⟨t, rfl, rfl, q⟩ := h
  obtain ⟨tk, rfl⟩ := rx
  cases ry
  obtain ⟨f, mo, hf, _⟩ := D.mapOf I
  refine wpAny_in_of (PySem.strKind_is X.prog X.w t tk) D.low mo ?_
  have e : (f t).isSome = (valV kvs t).isSome := by
    rcases hf t with ⟨a, b⟩ | ⟨v, u, a, b, _⟩ <;> rw [a, b] <;> rfl
  rw [e]
  exact ⟨.bl _, H, I.tok _, rfl, q⟩
theorem ix_kdT (D : DictT X.K X.w.params z kvs) : IxR X (fun x y H Q => ∃ (t : Str) (v0 : V), x = .ref z ∧ y = .str t ∧ valV kvs t = some v0 ∧ Q v0 H) := by
  intro value slice pins s σ H x y v u Q I rx ry h hs
  obtain ⟨t, v0, rfl, rfl, e, q⟩ := h
  cases rx
  obtain ⟨tk, rfl⟩ := ry
  obtain ⟨f, mo, hf, _⟩ := D.mapOf I
  rcases hf t with ⟨a, b⟩ | ⟨v1, u1, a, b, r⟩
  · rw [e] at a
    cases a
  · rw [e] at a
    cases a
    exact PyProof.Rows.tail_any mo.typeIs PySem.F.slot_dict_getitem.lookup (wpAny_getItem_of (PySem.strKind_is X.prog X.w t tk) mo b ⟨v0, H, I.tok _, r, q⟩) hs
/-- d.get(y, x) of a dict of the module -/
def tKGet2 (z : Addr) (kvs : List (Str × V)) (td ty tx : TE) : TE := fun σ H Q => td σ H fun x H1 => x = .ref z ∧ ty σ H1 fun y H2 => tx σ H2 fun d H3 => ∃ t : Str, y = .str t ∧ Q ((valV kvs t).getD d) H3
theorem pe_kget2 {o e f : Expr} {apos cpos : Pos} {td ty tx : TE} (D : DictT X.K X.w.params z kvs) (ho : PE X o td) (he : PE X e ty) (hf : PE X f tx) (m : M2 X o "get" apos e f cpos) : PE X (.Call (.Attribute o "get" apos) [e, f] [] cpos) (tKGet2 z kvs td ty tx) := by
  refine ⟨fun pins s σ H Q I h => ?_⟩
  refine wpAny_Call_method m.base m.few m.line PySem.F.plainAttrs_dict PySem.F.slot_dict_get PySem.F.type_dict_get (thn (ho.run pins s σ H _ I h) fun u s1 ⟨x, H1, I1, rx, ex, q1⟩ => ?_)
  subst ex
  obtain rfl : u = Value.ref z := rx
  obtain ⟨f1, mo1, _, ob, eo, hd⟩ := D.mapOf I1
  refine ⟨mo1.typeIs, fun b q => by cases q; exact ⟨ob, eo, hd⟩, ?_⟩
  rw [m.trees]
  refine Calls.callWith_builtin rfl (Calls.evalArgs_plain (Calls.spliced_cons (thn (he.run pins s1 σ H1 _ I1 q1) fun iv s2 ⟨y, H2, I2, ry, q2⟩ =>
    Calls.spliced_cons (thn (hf.run pins s2 σ H2 _ I2 q2) fun fv s3 ⟨d, H3, I3, rd, t, et, q3⟩ => Calls.spliced_nil ?_))))
  subst et
  obtain ⟨tk, rfl⟩ := ry
  obtain ⟨f3, mo3, hf3, _⟩ := D.mapOf I3
  refine call_meetsIn PySem.F.slot_dict_get mo3.typeIs PySem.F.entry_dict_get (PySem.F.args_dict_get_3 _ _ _) (meets_dict_get_default (PySem.strKind X.prog X.w) z (PySem.strKind_is X.prog X.w t tk) D.low fv) ⟨_, mo3, ⟨_, H3, I3.tok _, ?_, q3⟩⟩
  rcases hf3 t with ⟨a, b⟩ | ⟨v, u, a, b, r⟩
  · rw [a, b]
    exact rd
  · rw [a, b]
    exact r
end


/-! ### dicts of the module, as data -/
section
variable {K : PySem.W.Frag} {mg : Str → Option Value} {X : Cx} {W : WX}
/-- the dict of the module at z holds kds -/
def DictF (K : PySem.W.Frag) (mg : Str → Option Value) (pr : Params) (z : Addr) (kds : List (Str × D)) : Prop := ∃ kvs, DictT K pr z kvs ∧ ∀ w, Rfs K mg w kds kvs
def lookS (kds : List (Str × D)) (x : Str) : Option D := (kds.find? fun p => decide (p.1 = x)).map (·.2)
theorem lookS_pos {p : Str × D} {r : List (Str × D)} {k : Str} (e : p.1 = k) : lookS (p :: r) k = some p.2 := by simp [lookS, List.find?_cons, e]
theorem lookS_neg {p : Str × D} {r : List (Str × D)} {k : Str} (e : ¬ p.1 = k) : lookS (p :: r) k = lookS r k := by simp [lookS, List.find?_cons, e]
theorem Rfs.look {w : Wo} (k : Str) : ∀ {ps : List (Str × D)} {vs : List (Str × V)}, Rfs K mg w ps vs → (∀ d, lookS ps k = some d → ∃ v, valV vs k = some v ∧ Rv K mg w d v) ∧ (lookS ps k = none → valV vs k = none)
  | [], vs, r => by
    have e : vs = [] := r
    subst e
    exact ⟨fun d h => (by cases h), fun _ => rfl⟩
  | p :: ps, vs, r => by
    obtain ⟨v, q, e, r1, r2⟩ := r
    subst e
    by_cases h : p.1 = k
    · rw [lookS_pos h, valV_pos (p := (p.1, v)) h]
      refine ⟨fun d e => ⟨v, rfl, ?_⟩, fun e => by cases e⟩
      rw [← Option.some.inj e]
      exact r1
    · rw [lookS_neg h, valV_neg (p := (p.1, v)) h]
      exact Rfs.look k r2
def kdR (S : Sto) : Option D → Res D
  | some d => .ok d S
  | none => .bad
def dKD (kds : List (Str × D)) : D → Sto → Res D
  | .str x, S => kdR S (lookS kds x)
  | _, _ => .bad
def eKD (kds : List (Str × D)) (dk : DE) : DE := eUn (dKD kds) dk
variable {x : Str} {p pos : Pos} {i : Expr} {dk : DE} {z : Addr} {kds : List (Str × D)}
theorem l_kd (D0 : DictF X.K X.mg X.w.params z kds) (hg : Gl X x) (hm : X.mg x = some (.ref z)) (hi : PE X i (LE X.K X.mg W dk)) (hs : NoSl i) (hdb : (x == ("__debug__" : Str)) = false := by decide) : PE X (.Subscript (.Name x p) i pos) (LE X.K X.mg W (eKD kds dk)) := by
  obtain ⟨kvs, DT, rk⟩ := D0
  refine (pe_ix (ix_kdT DT) (pe_glob (v := .ref z) hg hm rfl hdb) hi hs).imp fun σ H Q h => ?_
  obtain ⟨w, ok, rfl, ρ, rr, h⟩ := h
  refine ⟨w, ok, rfl, ρ, rr, h.bind fun w1 y u le1 ok1 r1 h1 => ?_⟩
  unfold dKD at h1
  split at h1
  · rename_i t
    cases e : lookS kds t with
    | none => rw [e] at h1; exact h1.elim
    | some d =>
      rw [e] at h1
      obtain ⟨v, e2, rv⟩ := ((rk w1).look t).1 d e
      rw [r1.str]
      exact ⟨t, v, rfl, rfl, e2, h1.now ok1 rv⟩
  · exact h1.elim
def dKDIn (neg : Bool) (kds : List (Str × D)) : D → Sto → Res D
  | .str x, S => .ok (.bl (if neg then !(lookS kds x).isSome else (lookS kds x).isSome)) S
  | _, _ => .bad
def eKDIn (neg : Bool) (kds : List (Str × D)) (dk : DE) : DE := eUn (dKDIn neg kds) dk
theorem Rfs.isSome {w : Wo} {ps : List (Str × D)} {vs : List (Str × V)} (r : Rfs K mg w ps vs) (t : Str) : (valV vs t).isSome = (lookS ps t).isSome := by
  obtain ⟨g1, g2⟩ := r.look t
  cases e : lookS ps t with
  | none => rw [g2 e]; rfl
  | some d =>
    obtain ⟨v, e2, _⟩ := g1 d e
    rw [e2]
    rfl
theorem notIn_kdT {kvs : List (Str × V)} (DT : DictT X.K X.w.params z kvs) : OpR X (compareOp .NotIn) (fun x y H Q => ∃ t : Str, x = .str t ∧ y = .ref z ∧ Q (.bl (!(valV kvs t).isSome)) H) := by
  intro pins s σ H a b v u Q I rx ry h
  obtain ⟨t, rfl, rfl, q⟩ := h
  obtain ⟨tk, rfl⟩ := rx
  cases ry
  obtain ⟨f, mo, hf, _⟩ := DT.mapOf I
  refine wpAny_notIn_of (PySem.strKind_is X.prog X.w t tk) DT.low mo ?_
  have e : (f t).isSome = (valV kvs t).isSome := by
    rcases hf t with ⟨a, b⟩ | ⟨v, u, a, b, _⟩ <;> rw [a, b] <;> rfl
  rw [e]
  exact ⟨.bl _, H, I.tok _, rfl, q⟩
theorem i_kdin {kvs : List (Str × V)} (rk : ∀ w, Rfs K mg w kds kvs) {neg : Bool} {σ : St} {H : Hp} {Q : VK} (h : LE K mg W (eKDIn neg kds dk) σ H Q) : LE K mg W dk σ H fun y H1 => ∃ t : Str, y = .str t ∧ Q (.bl (if neg then !(valV kvs t).isSome else (valV kvs t).isSome)) H1 := by
  obtain ⟨w, ok, rfl, ρ, rr, h⟩ := h
  refine ⟨w, ok, rfl, ρ, rr, h.bind fun w1 y u le1 ok1 r1 h1 => ?_⟩
  unfold dKDIn at h1
  split at h1
  · rename_i t
    rw [r1.str]
    refine ⟨t, rfl, ?_⟩
    rw [(rk w1).isSome t]
    exact h1.now ok1 mk_bl
  · exact h1.elim
theorem LE.monoQ {de : DE} {σ : St} {H : Hp} {Q Q' : VK} (h : LE K mg W de σ H Q) (k : ∀ v H1, Q v H1 → Q' v H1) : LE K mg W de σ H Q' := by
  obtain ⟨w, ok, rfl, ρ, rr, h⟩ := h
  refine ⟨w, ok, rfl, ρ, rr, ?_⟩
  cases e : de ρ w.S with
  | ok d S =>
    rw [e] at h
    exact fun w2 b l2 o2 e2 r => k _ _ (h w2 b l2 o2 e2 r)
  | exc c fs S => rw [e] at h; exact h
  | bad => rw [e] at h; exact h
theorem i_kdin2 {kvs : List (Str × V)} (rk : ∀ w, Rfs K mg w kds kvs) {σ : St} {H : Hp} {Q : VK} (h : LE K mg W (eKDIn false kds dk) σ H Q) : tOp (fun x y H Q => ∃ t : Str, x = .str t ∧ y = .ref z ∧ Q (.bl (valV kvs t).isSome) H) (LE K mg W dk) (tC (.ref z)) σ H Q :=
  (i_kdin (neg := false) rk h).monoQ fun _ _ ⟨t, e, q⟩ => ⟨t, e, rfl, q⟩
theorem i_kdnin2 {kvs : List (Str × V)} (rk : ∀ w, Rfs K mg w kds kvs) {σ : St} {H : Hp} {Q : VK} (h : LE K mg W (eKDIn true kds dk) σ H Q) : tOp (fun x y H Q => ∃ t : Str, x = .str t ∧ y = .ref z ∧ Q (.bl (!(valV kvs t).isSome)) H) (LE K mg W dk) (tC (.ref z)) σ H Q :=
  (i_kdin (neg := true) rk h).monoQ fun _ _ ⟨t, e, q⟩ => ⟨t, e, rfl, q⟩
theorem l_kdin (D0 : DictF X.K X.mg X.w.params z kds) (hg : Gl X x) (hm : X.mg x = some (.ref z)) (hi : PE X i (LE X.K X.mg W dk)) (hb : behindInMarks .In (.Name x p) = false := by rfl) (hdb : (x == ("__debug__" : Str)) = false := by decide) : PE X (.Compare i [.In] [.Name x p] pos) (LE X.K X.mg W (eKDIn false kds dk)) := by
  obtain ⟨kvs, DT, rk⟩ := D0
  exact (pe_cmpR (in_kdT DT) hi (pe_glob (v := .ref z) hg hm rfl hdb) hb).imp fun σ H Q h => i_kdin2 rk h
theorem l_kdnotin (D0 : DictF X.K X.mg X.w.params z kds) (hg : Gl X x) (hm : X.mg x = some (.ref z)) (hi : PE X i (LE X.K X.mg W dk)) (hb : behindInMarks .NotIn (.Name x p) = false := by rfl) (hdb : (x == ("__debug__" : Str)) = false := by decide) : PE X (.Compare i [.NotIn] [.Name x p] pos) (LE X.K X.mg W (eKDIn true kds dk)) := by
  obtain ⟨kvs, DT, rk⟩ := D0
  exact (pe_cmpR (notIn_kdT DT) hi (pe_glob (v := .ref z) hg hm rfl hdb) hb).imp fun σ H Q h => i_kdnin2 rk h
theorem lt_kdin (D0 : DictF X.K X.mg X.w.params z kds) (hg : Gl X x) (hm : X.mg x = some (.ref z)) (hi : PE X i (LE X.K X.mg W dk)) (hb : behindInMarks .In (.Name x p) = false := by rfl) (hdb : (x == ("__debug__" : Str)) = false := by decide) : PT X (.Compare i [.In] [.Name x p] pos) (LT X.K X.mg W (eT (eKDIn false kds dk))) := by
  obtain ⟨kvs, DT, rk⟩ := D0
  exact (pt_cmpR (in_kdT DT) hi (pe_glob (v := .ref z) hg hm rfl hdb) hb).imp fun σ H Q h => i_test (da := eKDIn false kds dk) (fun _ _ _ q => i_kdin2 rk q) h
theorem lt_kdnotin (D0 : DictF X.K X.mg X.w.params z kds) (hg : Gl X x) (hm : X.mg x = some (.ref z)) (hi : PE X i (LE X.K X.mg W dk)) (hb : behindInMarks .NotIn (.Name x p) = false := by rfl) (hdb : (x == ("__debug__" : Str)) = false := by decide) : PT X (.Compare i [.NotIn] [.Name x p] pos) (LT X.K X.mg W (eT (eKDIn true kds dk))) := by
  obtain ⟨kvs, DT, rk⟩ := D0
  exact (pt_cmpR (notIn_kdT DT) hi (pe_glob (v := .ref z) hg hm rfl hdb) hb).imp fun σ H Q h => i_test (da := eKDIn true kds dk) (fun _ _ _ q => i_kdnin2 rk q) h
/-! ### NAME.get(k, e) -/
def kdR2 (d : D) (S : Sto) : Option D → Res D
  | some e => .ok e S
  | none => .ok d S
def dKGet2 (kds : List (Str × D)) : D → D → Sto → Res D
  | .str x, d, S => kdR2 d S (lookS kds x)
  | _, _, _ => .bad
def eKGet2 (kds : List (Str × D)) (dk dx : DE) : DE := eOp (dKGet2 kds) dk dx
theorem l_kget2 {f : Expr} {apos : Pos} {dx : DE} (D0 : DictF X.K X.mg X.w.params z kds) (hg : Gl X x) (hm : X.mg x = some (.ref z)) (hi : PE X i (LE X.K X.mg W dk)) (hf : PE X f (LE X.K X.mg W dx)) (m : M2 X (.Name x p) "get" apos i f pos) (hdb : (x == ("__debug__" : Str)) = false := by decide) :
    PE X (.Call (.Attribute (.Name x p) "get" apos) [i, f] [] pos) (LE X.K X.mg W (eKGet2 kds dk dx)) := by
  obtain ⟨kvs, DT, rk⟩ := D0
  refine (pe_kget2 DT (pe_glob (v := .ref z) hg hm rfl hdb) hi hf m).imp fun σ H Q h => ⟨rfl, ?_⟩
  obtain ⟨w, ok, rfl, ρ, rr, h⟩ := h
  refine ⟨w, ok, rfl, ρ, rr, h.bind fun w1 y u le1 ok1 r1 h1 => ?_⟩
  refine ⟨w1, ok1, rfl, ρ, rr.up ok le1, h1.bind fun w2 d v le2 ok2 r2 h2 => ?_⟩
  unfold dKGet2 at h2
  split at h2
  · rename_i t
    rw [r1.str]
    refine ⟨t, rfl, ?_⟩
    obtain ⟨g1, g2⟩ := (rk w2).look t
    cases e : lookS kds t with
    | none =>
      rw [e] at h2
      rw [g2 e]
      exact h2.now ok2 r2
    | some d2 =>
      rw [e] at h2
      obtain ⟨v2, e2, rv⟩ := g1 d2 e
      rw [e2]
      exact h2.now ok2 rv
  · exact h2.elim
/-! ### a call of a local that holds a def -/
/-- the defs that a local may hold -/
def HeldF (X : Cx) (k : Nat) : List (Str × DF) → Prop
  | [] => True
  | p :: fs => (∃ f fd ps, X.mg p.1 = some (.ref f) ∧ FnOk X.prog X.w X.K X.mg X.base (L2.CX X.prog X.w) k f fd ps (spD X.K X.mg p.2) ∧ PySem.W.keepIn X.K (.ref f) = true ∧ Binds X.K fd ps []) ∧ HeldF X k fs
theorem HeldF.get {k : Nat} {y : Str} : ∀ {fs : List (Str × DF)} {h : DF}, HeldF X k fs → fs.lookup y = some h → ∃ f fd ps, X.mg y = some (.ref f) ∧ FnOk X.prog X.w X.K X.mg X.base (L2.CX X.prog X.w) k f fd ps (spD X.K X.mg h) ∧ PySem.W.keepIn X.K (.ref f) = true ∧ Binds X.K fd ps []
  | [], h, _, e => by cases e
  | p :: fs, h, hh, e => by
    rw [List.lookup_cons] at e
    split at e
    · rename_i e3
      have e3 := eq_of_beq e3
      cases Option.some.inj e
      rw [e3]
      exact hh.1
    · exact HeldF.get hh.2 e
def callF (fs : List (Str × DF)) (da : DA) (ρ : Env) : D → Sto → Res D
  | .fn y, S => match fs.lookup y with
    | some h => (da ρ S).bind h
    | none => .bad
  | _, _ => .bad
def eCallV (n : Nat) (fs : List (Str × DF)) (da : DA) (ρ : Env) (S : Sto) : Res D := (slotR S ρ[n]?).bind (callF fs da ρ)
theorem l_callV {k n : Nat} {fs : List (Str × DF)} {e : Expr} {es : List Expr} {da : DA} (F : HeldF X k fs) (hr : Room k X.A) (hN : X.N[n]? = some x) (hv : Vis X.env.scope x) (tk : Takes X W) (ha : PA X (e :: es) (LA X.K X.mg W da))
    (hdb : (x == ("__debug__" : Str)) = false := by decide) (hcd : (x == ("__classdict__" : Str)) = false := by decide) (he : starEach (e :: es) X.env = (false, eval e X.env) :: starEach es X.env := by rfl) (hpl : (backTo pos (starEach es X.env)).any (·.1) = false := by rfl) :
    PE X (.Call (.Name x p) (e :: es) [] pos) (LE X.K X.mg W (eCallV n fs da)) := by
  refine ⟨fun pins s σ H Q I h => ?_⟩
  obtain ⟨w, ok, rfl, ρ, rr, h⟩ := h
  unfold eCallV at h
  cases e1 : ρ[n]? with
  | none => rw [e1] at h; exact h.elim
  | some o =>
    rw [e1] at h
    cases o with
    | none => exact h.elim
    | some d =>
      obtain ⟨v, e2, rv⟩ := rr.get e1
      cases d with
      | fn y =>
        have h : Fin X.K X.mg w (Rv X.K X.mg) (callF fs da ρ (.fn y) w.S) Q (XW X.K X.mg W σ) := h
        unfold callF at h
        dsimp only at h
        cases e3 : fs.lookup y with
        | none => rw [e3] at h; exact h.elim
        | some g =>
          rw [e3] at h
          obtain ⟨f, fd, ps, hm, Fk, hk, hb⟩ := F.get e3
          rw [Rv] at rv
          obtain ⟨a, ea, rfl⟩ := rv
          rw [hm] at ea
          cases Option.some.inj ea
          have var := (pe_var (pos := p) hN hv hdb hcd).run pins s σ _ (fun v H1 => v = .ref f ∧ H1 = w.H) I ⟨.ref f, e2, rfl, rfl⟩
          refine wpAny_Call_Name_kw (thn var fun u sv ⟨vv, Hv, Iv, rvv, qv⟩ => ?_)
          obtain ⟨rfl, rfl⟩ := qv
          cases rvv
          have args : LA X.K X.mg W da σ w.H (fun vs H1 => spD X.K X.mg g vs H1 Q (WE W σ)) := ⟨w, ok, rfl, ρ, rr, h.bind fun w1 xs vs le1 ok1 r1 h1 => ⟨w1, xs, ok1, rfl, r1, h1⟩⟩
          exact PySem.W.callWith_K (h₀ := X.base) Iv.ok.mod.kin hk (thn (ha.run pos pins sv σ _ _ Iv args) fun us s2 ⟨vs, H2, I2, r2, q2⟩ => ⟨I2.kIn, run_fnS (E := fun σ => WE W σ) Fk hr hb (passAt tk σ) I2 r2 q2⟩) he hpl
      | _ => exact h.elim
end

/-! ## the truth of a value -/
section
variable {K : PySem.W.Frag} {mg : Str → Option Value} {X : Cx} {W : WX}
theorem Rvs.empty {w : Wo} {ds : List D} {vs : List V} (r : Rvs K mg w ds vs) : vs.isEmpty = ds.isEmpty := by
  cases ds with
  | nil =>
    rw [Rvs] at r
    rw [r]
    rfl
  | cons d ds =>
    rw [Rvs] at r
    obtain ⟨v, q, e, _, _⟩ := r
    rw [e]
    rfl
def truO : Option Ob → Option Bool
  | some (.lst xs) => some (!xs.isEmpty)
  | some (.dk xs) => some (!xs.isEmpty)
  | _ => none
def truthOf (d : D) (S : Sto) : Option Bool := match d with
  | .non => some false
  | .bl b => some b
  | .int i => some (i != 0)
  | .str x => if x.length ≤ sizeLine then some ((x.length : Int) != 0) else none
  | .tup xs => some (!xs.isEmpty)
  | .obj n => truO S[n]?
  | _ => none
theorem truth_at {w : Wo} (ok : w.Ok K mg) {d : D} {v : V} {k : Bool} (r : Rv K mg w d v) (h : truthOf d w.S = some k) : TruV K v w.H k := by
  cases d with
  | non => rw [r.non]; exact (Option.some.inj h).symm
  | bl b => rw [r.bl]; exact (Option.some.inj h).symm
  | int i => rw [r.int]; exact (Option.some.inj h).symm
  | str x =>
    rw [r.str]
    have h : (if x.length ≤ sizeLine then some ((x.length : Int) != 0) else none) = some k := h
    by_cases hl : x.length ≤ sizeLine
    · rw [if_pos hl] at h
      exact ⟨hl, (Option.some.inj h).symm⟩
    · rw [if_neg hl] at h
      cases h
  | tup xs =>
    obtain ⟨a, vs, rfl, t, r2⟩ := r.tup
    refine .inr (.inl ⟨vs, t, ?_⟩)
    rw [r2.empty]
    exact (Option.some.inj h).symm
  | obj n =>
    obtain ⟨_, rfl⟩ := r.obj
    have h : truO w.S[n]? = some k := h
    cases e : w.S[n]? with
    | none => rw [e] at h; cases h
    | some o =>
      rw [e] at h
      have ro := ok.has n o e
      cases o with
      | lst xs =>
        obtain ⟨vs, hv, r2⟩ := ro
        refine .inl ⟨vs, SqL.of hv, ?_⟩
        rw [r2.empty]
        exact (Option.some.inj h).symm
      | dk kvs =>
        obtain ⟨vs, hv, r2⟩ := ro
        refine .inr (.inr ⟨vs, hv, ?_⟩)
        have e2 : vs.isEmpty = kvs.isEmpty := by
          cases kvs with
          | nil => have z : vs = [] := r2; rw [z]; rfl
          | cons p ps => obtain ⟨v, q, z, _⟩ := r2; rw [z]; rfl
        rw [e2]
        exact (Option.some.inj h).symm
      | dt kvs => cases h
      | ins C fs => cases h
      | dn kvs => cases h
      | hk kvs => cases h
  | _ => cases h
def truR (S : Sto) : Option Bool → Res Bool
  | some b => .ok b S
  | none => .bad
def dTru (d : D) (S : Sto) : Res Bool := truR S (truthOf d S)
def eTru (da : DE) (ρ : Env) (S : Sto) : Res Bool := (da ρ S).bind dTru
theorem lt_truth {e : Expr} {da : DE} (h : PE X e (LE X.K X.mg W da)) (he : ∀ whole, isTrue e X.env whole = (do let v ← whole; standAt e.pos; holding [v] (truthy v))) : PT X e (LT X.K X.mg W (eTru da)) := (pt_truth h he).imp fun σ H Q h => by
  obtain ⟨w, ok, rfl, ρ, rr, h⟩ := h
  refine ⟨w, ok, rfl, ρ, rr, Fin.bind (R' := Rb) h fun w1 x v le1 ok1 r1 h1 => ?_⟩
  unfold dTru at h1
  cases e2 : truthOf x w1.S with
  | none => rw [e2] at h1; exact h1.elim
  | some k =>
    rw [e2] at h1
    exact ⟨k, truth_at ok1 r1 e2, Fin.now h1 ok1 rfl⟩
end

/-! ## == of two lists of scalars that are equal -/
section
variable {K : PySem.W.Frag} {mg : Str → Option Value} {X : Cx} {W : WX}
def eqLR (S : Sto) : Option (List V) → Option (List V) → Res D
  | some a, some b => if a = b then .ok (.bl true) S else .bad
  | _, _ => .bad
def sclOf (S : Sto) (n : Nat) : Option (List V) := (lstOf S n).bind scs
def dEqL : D → D → Sto → Res D
  | .obj n, .obj m, S => eqLR S (sclOf S n) (sclOf S m)
  | _, _, _ => .bad
theorem paired_same {E : V → V → Prop} : ∀ {xs : List V}, (∀ x ∈ xs, E x x) → Paired E xs xs
  | [], _ => .nil
  | x :: xs, h => .cons (h x List.mem_cons_self) (paired_same fun y hy => h y (List.mem_cons_of_mem _ hy))
theorem sc_flatB {d : D} {v : V} (e : d.sc = some v) : flatB v = true := by
  cases d <;> first
    | (rw [← Option.some.inj e]; rfl)
    | exact absurd e (by intro z; cases z)
theorem scs_flatB : ∀ {ds : List D} {us : List V}, scs ds = some us → ∀ x ∈ us, flatB x = true
  | [], us, e, x, hx => by
    rw [← Option.some.inj e] at hx
    cases hx
  | d :: ds, us, e, x, hx => by
    unfold scs at e
    cases e2 : d.sc with
    | none => rw [e2] at e; cases e
    | some v =>
      cases e3 : scs ds with
      | none => rw [e2, e3] at e; cases e
      | some vs =>
        rw [e2, e3] at e
        rw [← Option.some.inj e] at hx
        rcases List.mem_cons.mp hx with rfl | hx
        · exact sc_flatB e2
        · exact scs_flatB e3 x hx
theorem o_eqL : Op2 K mg (rEqV K) dEqL := by
  intro w a b v u Q E ok ra rb h
  cases a with
  | obj n =>
    cases b with
    | obj m =>
      have h : Fin K mg w (Rv K mg) (eqLR w.S (sclOf w.S n) (sclOf w.S m)) Q E := h
      cases e1 : sclOf w.S n with
      | none => rw [e1] at h; exact h.elim
      | some xs =>
        cases e2 : sclOf w.S m with
        | none => rw [e1, e2] at h; exact h.elim
        | some ys =>
          rw [e1, e2] at h
          have h5 : Fin K mg w (Rv K mg) (if xs = ys then .ok (.bl true) w.S else .bad) Q E := h
          by_cases he : xs = ys
          · rw [if_pos he] at h5
            subst he
            obtain ⟨l1, g1, g2⟩ := Option.bind_eq_some_iff.mp e1
            obtain ⟨l2, g3, g4⟩ := Option.bind_eq_some_iff.mp e2
            obtain ⟨vs, t1, r1⟩ := lst_at ok g1
            obtain ⟨us, t2, r2⟩ := lst_at ok g3
            have q1 := r1.sc g2
            have q2 := r2.sc g4
            subst q1
            subst q2
            obtain ⟨_, rfl⟩ := ra.obj
            obtain ⟨_, rfl⟩ := rb.obj
            have fl := scs_flatB g2
            refine ⟨1, by decide, .inl ⟨_, _, _, _, rfl, rfl, t1, t2, paired_same fun x hx => .inl ⟨rfl, ?_⟩⟩, h5.now ok mk_bl⟩
            exact fl x hx
          · rw [if_neg he] at h5
            exact h5.elim
    | _ => exact h.elim
  | _ => cases b <;> exact h.elim
end

/-! ## all, any, sorted of a list -/
section
variable {K : PySem.W.Frag} {mg : Str → Option Value} {X : Cx} {W : WX}
def asBools : List D → Option (List Bool)
  | [] => some []
  | .bl b :: ds => (asBools ds).map fun r => b :: r
  | _ => none
theorem Rvs.bools {w : Wo} : ∀ {ds : List D} {vs : List V} {bs : List Bool}, Rvs K mg w ds vs → asBools ds = some bs → vs = bs.map V.bl
  | [], vs, bs, r, e => by
    rw [Rvs] at r
    rw [r, ← Option.some.inj e]
    rfl
  | d :: ds, vs, bs, r, e => by
    rw [Rvs] at r
    obtain ⟨v, q, e1, r1, r2⟩ := r
    cases d with
    | bl b =>
      obtain ⟨cs, e2, e3⟩ := Option.map_eq_some_iff.mp e
      rw [e1, r1.bl, Rvs.bools r2 e2, ← e3]
      rfl
    | _ => cases e
def boolsOf (d : D) (S : Sto) : Option (List Bool) := match d with
  | .obj n => (lstOf S n).bind asBools
  | _ => none
theorem bools_at {w : Wo} (ok : w.Ok K mg) {d : D} {v : V} {bs : List Bool} (r : Rv K mg w d v) (h : boolsOf d w.S = some bs) : ∃ p, v = .ref p ∧ SqL K w.H p (bs.map V.bl) := by
  cases d with
  | obj n =>
    obtain ⟨_, e⟩ := r.obj
    obtain ⟨xs, e1, e2⟩ := Option.bind_eq_some_iff.mp h
    obtain ⟨vs, t, r2⟩ := lst_at ok e1
    rw [r2.bools e2] at t
    exact ⟨_, e, t⟩
  | _ => cases h
def boolR (f : List Bool → Bool) (S : Sto) : Option (List Bool) → Res D
  | some bs => .ok (.bl (f bs)) S
  | none => .bad
def dAll : DF
  | [d], S => boolR (fun bs => bs.all id) S (boolsOf d S)
  | _, _ => .bad
def dAny : DF
  | [d], S => boolR (fun bs => bs.any id) S (boolsOf d S)
  | _, _ => .bad
theorem o_all : Opn K mg (rAll K) dAll := by
  intro w ds vs Q E ok r h
  unfold dAll at h
  split at h
  · obtain ⟨v, rfl, r1⟩ := r.one
    rename_i d
    cases e : boolsOf d w.S with
    | none => rw [e] at h; exact h.elim
    | some bs =>
      rw [e] at h
      obtain ⟨p, rfl, t⟩ := bools_at ok r1 e
      exact ⟨p, bs, rfl, t, h.now ok mk_bl⟩
  · exact h.elim
theorem o_any : Opn K mg (rAny K) dAny := by
  intro w ds vs Q E ok r h
  unfold dAny at h
  split at h
  · obtain ⟨v, rfl, r1⟩ := r.one
    rename_i d
    cases e : boolsOf d w.S with
    | none => rw [e] at h; exact h.elim
    | some bs =>
      rw [e] at h
      obtain ⟨p, rfl, t⟩ := bools_at ok r1 e
      exact ⟨p, bs, rfl, t, h.now ok mk_bl⟩
  · exact h.elim
/-- the numbers in ascending order -/
noncomputable def sortI (ns : List Int) : List Int := ns.mergeSort (fun a b => decide (a ≤ b))
theorem sortI_is (ns ms : List Int) (h : ms.Perm ns) (o : ms.Pairwise (· ≤ ·)) : ms = sortI ns := by
  have p : (sortI ns).Perm ns := List.mergeSort_perm _ _
  have s : (sortI ns).Pairwise (· ≤ ·) := by
    have := List.pairwise_mergeSort (le := fun a b : Int => decide (a ≤ b)) (by intro a b c; simp; omega) (by intro a b; simp; omega) ns
    exact this.imp fun h => by simpa using h
  exact List.Perm.eq_of_pairwise (fun a b _ _ h1 h2 => Int.le_antisymm h1 h2) o s (h.trans p.symm)
noncomputable def sortR (S : Sto) : Option (List Int) → Res D
  | some ns => if ns.length < 64 then mkLst ((sortI ns).map D.int) S else .bad
  | none => .bad
noncomputable def dSorted : DF
  | [.obj n], S => sortR S ((lstOf S n).bind asInts)
  | _, _ => .bad
theorem ints_rvs {w : Wo} : ∀ ns : List Int, Rvs K mg w (ns.map D.int) (ns.map V.int)
  | [] => Rvs.nil
  | n :: ns => Rvs.cons (by rw [Rv]) (ints_rvs ns)
theorem o_sorted : Opn K mg (rSorted K) dSorted := by
  intro w ds vs Q E ok r h
  unfold dSorted at h
  split at h
  · obtain ⟨v, rfl, r1⟩ := r.one
    rename_i n
    cases e : (lstOf w.S n).bind asInts with
    | none => rw [e] at h; exact h.elim
    | some ns =>
      rw [e] at h
      have h : Fin K mg w (Rv K mg) (if ns.length < 64 then mkLst ((sortI ns).map D.int) w.S else .bad) Q E := h
      by_cases hl : ns.length < 64
      · rw [if_pos hl] at h
        obtain ⟨_, rfl⟩ := r1.obj
        obtain ⟨xs, e1, e2⟩ := Option.bind_eq_some_iff.mp e
        obtain ⟨us, t, r2⟩ := lst_at ok e1
        rw [r2.ints e2] at t
        refine ⟨_, ns, rfl, t, hl, fun ms p hp ho hn => ?_⟩
        rw [sortI_is ns ms hp ho]
        exact h.newLst ok hn (ints_rvs _)
      · rw [if_neg hl] at h
        exact h.elim
  · exact h.elim
end

/-! ## {k: v, ..} -/
section
variable {K : PySem.W.Frag} {mg : Str → Option Value} {X : Cx} {W : WX}
def evP3 (a b : D) (l : List (D × D)) (S : Sto) : Res (List (D × D)) := .ok ((a, b) :: l) S
def evP2 (rest : Sto → Res (List (D × D))) (a b : D) (S : Sto) : Res (List (D × D)) := (rest S).bind (evP3 a b)
def evP1 (v : DE) (ρ : Env) (rest : Sto → Res (List (D × D))) (a : D) (S : Sto) : Res (List (D × D)) := (v ρ S).bind (evP2 rest a)
def evP : List (DE × DE) → Env → Sto → Res (List (D × D))
  | [], _, S => .ok [] S
  | q :: r, ρ, S => (q.1 ρ S).bind (evP1 q.2 ρ (evP r ρ))
def Rps (K : PySem.W.Frag) (mg : Str → Option Value) (w : Wo) : List (D × D) → List (V × V) → Prop
  | [], vs => vs = []
  | p :: ps, vs => ∃ v u r, vs = (v, u) :: r ∧ Rv K mg w p.1 v ∧ Rv K mg w p.2 u ∧ Rps K mg w ps r
theorem Rps.up {w w' : Wo} (ok : w.Ok K mg) (h : w.Le w') : ∀ {ps : List (D × D)} {vs : List (V × V)}, Rps K mg w ps vs → Rps K mg w' ps vs
  | [], vs, r => r
  | p :: ps, vs, r => by
    obtain ⟨v, u, q, e, r1, r2, r3⟩ := r
    exact ⟨v, u, q, e, Rv.up ok h _ v r1, Rv.up ok h _ u r2, Rps.up ok h r3⟩
def keysD : List (D × D) → Option (List (Key × D))
  | [] => some []
  | p :: ps => match keyOf p.1, keysD ps with
    | some k, some r => some ((k, p.2) :: r)
    | _, _ => none
theorem keys_at {w : Wo} : ∀ {ps : List (D × D)} {vs : List (V × V)} {kds : List (Key × D)}, Rps K mg w ps vs → keysD ps = some kds → ∃ kvs, vs = kvs.map (fun kv => (kV kv.1, kv.2)) ∧ Rkv K mg w kds kvs
  | [], vs, kds, r, e => by
    have z : vs = [] := r
    rw [← Option.some.inj e, z]
    exact ⟨[], rfl, rfl⟩
  | p :: ps, vs, kds, r, e => by
    obtain ⟨v, u, q, e1, r1, r2, r3⟩ := r
    unfold keysD at e
    cases e2 : keyOf p.1 with
    | none => rw [e2] at e; cases e
    | some k =>
      cases e3 : keysD ps with
      | none => rw [e2, e3] at e; cases e
      | some rest =>
        rw [e2, e3] at e
        obtain ⟨kvs, e4, e5⟩ := keys_at r3 e3
        rw [← Option.some.inj e, e1, r1.key e2, e4]
        exact ⟨(k, u) :: kvs, rfl, u, kvs, rfl, r2, e5⟩
def mergeD (kds more : List (Key × D)) : List (Key × D) := more.foldl (fun acc kv => putD acc kv.1 kv.2) kds
theorem Rkv.merge {w : Wo} : ∀ {more : List (Key × D)} {ms : List (Key × V)} {kds : List (Key × D)} {kvs : List (Key × V)}, Rkv K mg w more ms → Rkv K mg w kds kvs → Rkv K mg w (mergeD kds more) (mergeK kvs ms)
  | [], ms, kds, kvs, r, q => by
    have z : ms = [] := r
    rw [z]
    exact q
  | p :: ps, ms, kds, kvs, r, q => by
    obtain ⟨v, rest, e, r1, r2⟩ := r
    rw [e]
    show Rkv K mg w (mergeD (putD kds p.1 p.2) ps) (mergeK (putK kvs p.1 v) rest)
    exact Rkv.merge r2 (q.put r1)
theorem i_pairs {σ : St} {E : Str → List (Str × D) → Wo → Prop} {ρ : Env} (hE : E = XW K mg W σ) : ∀ (ps : List (DE × DE)) (w : Wo) (Q : List (V × V) → Hp → Prop), w.Ok K mg → Rσ K mg w ρ σ → Fin K mg w (Rps K mg) (evP ps ρ w.S) Q E → tPairs (ps.map fun q => (LE K mg W q.1, LE K mg W q.2)) σ w.H Q
  | [], w, Q, ok, rr, h => h w [] (Wo.Le.refl w) ok rfl rfl
  | q :: ps, w, Q, ok, rr, h => by
    subst hE
    have h : Fin K mg w (Rps K mg) ((q.1 ρ w.S).bind (evP1 q.2 ρ (evP ps ρ))) Q (XW K mg W σ) := h
    refine ⟨w, ok, rfl, ρ, rr, Fin.bind (R' := Rps K mg) h fun w1 a v le1 ok1 r1 h1 => ?_⟩
    have rr1 := rr.up ok le1
    refine ⟨w1, ok1, rfl, ρ, rr1, Fin.bind (R' := Rps K mg) h1 fun w2 b u le2 ok2 r2 h2 => ?_⟩
    have rr2 := rr1.up ok1 le2
    refine i_pairs rfl ps w2 _ ok2 rr2 (Fin.bind (R' := Rps K mg) h2 fun w3 l vs le3 ok3 r3 h3 => ?_)
    exact h3 w3 ((v, u) :: vs) (Wo.Le.refl w3) ok3 rfl ⟨v, u, vs, rfl, (r1.up ok1 le2).up ok2 le3, r2.up ok2 le3, r3⟩
def dispR (n : Nat) (S : Sto) : Option Ob → Option (List (Key × D)) → Res D
  | some (.dk []), some kds => if kds.length ≤ 15 then .ok (.obj n) (S.set n (.dk (mergeD [] kds))) else .bad
  | _, _ => .bad
def dispK (n : Nat) (ps : List (D × D)) (S : Sto) : Res D := dispR n S S[n]? (keysD ps)
def eDisp (ps : List (DE × DE)) (ρ : Env) (S : Sto) : Res D := (evP ps ρ (S ++ [.dk []])).bind (dispK S.length)
theorem l_disp {pos : Pos} {keys : List (Option Expr)} {values : List Expr} {ps : List (DE × DE)} (h : PPs X pos keys values (ps.map fun q => (LE X.K X.mg W q.1, LE X.K X.mg W q.2))) (hall : keys.all (·.isSome) = true) (hl : keys.length = values.length) (h0 : keys ≠ []) (h15 : keys.length ≤ 15) :
    PE X (.Dict keys values pos) (LE X.K X.mg W (eDisp ps)) := (pe_disp h hall hl h0 h15).imp fun σ H Q h => by
  obtain ⟨w, ok, rfl, ρ, rr, h⟩ := h
  intro p hp
  have le := Wo.add_le (o := .dk []) (u := .dK []) hp
  have ok1 : (w.add p (.dk []) (.dK [])).Ok X.K X.mg := Wo.add_ok ok hp ⟨[], upd_same, rfl⟩
  have hn : (w.add p (.dk []) (.dK [])).S.length = w.S.length + 1 := by show (w.S ++ [Ob.dk []]).length = _; rw [List.length_append]; rfl
  have h : Fin X.K X.mg w (Rv X.K X.mg) ((evP ps ρ (w.add p (.dk []) (.dK [])).S).bind (dispK w.S.length)) Q (XW X.K X.mg W σ) := h
  have h : Fin X.K X.mg (w.add p (.dk []) (.dK [])) (Rv X.K X.mg) ((evP ps ρ (w.add p (.dk []) (.dK [])).S).bind (dispK w.S.length)) Q (XW X.K X.mg W σ) := h.up ok1 le
  refine i_pairs rfl ps (w.add p (.dk []) (.dK [])) _ ok1 (rr.up ok le) (Fin.bind (R' := Rv X.K X.mg) h fun w2 l vs le2 ok2 r2 h2 => ?_)
  have hm : w2.m w.S.length = p := by rw [le2.ag _ (by omega)]; exact Wo.add_m
  have hlt : w.S.length < w2.S.length := Nat.lt_of_lt_of_le (by omega) le2.len
  unfold dispK at h2
  cases e1 : w2.S[w.S.length]? with
  | none => rw [e1] at h2; exact h2.elim
  | some o =>
    cases e2 : keysD l with
    | none =>
      rw [e1, e2] at h2
      cases o with
      | dk kvs => cases kvs <;> exact h2.elim
      | _ => exact h2.elim
    | some kds =>
      rw [e1, e2] at h2
      cases o with
      | dk kvs =>
        cases kvs with
        | cons a b => exact h2.elim
        | nil =>
          have h2 : Fin X.K X.mg w2 (Rv X.K X.mg) (if kds.length ≤ 15 then .ok (.obj w.S.length) (w2.S.set w.S.length (.dk (mergeD [] kds))) else .bad) Q (XW X.K X.mg W σ) := h2
          by_cases hk : kds.length ≤ 15
          · rw [if_pos hk] at h2
            obtain ⟨us, hv, r0⟩ := ok2.has _ _ e1
            have z : us = [] := r0
            subst z
            rw [hm] at hv
            obtain ⟨kvs, e3, r3⟩ := keys_at r2 e2
            have ln := Rkv.len r3
            refine ⟨hv, kvs, e3, by omega, ?_⟩
            have le4 := Wo.put_le (w := w2) (o := .dk (mergeD [] kds)) (u := .dK (mergeK [] kvs)) hlt
            have r4 : Rkv X.K X.mg w2 (mergeD [] kds) (mergeK [] kvs) := Rkv.merge r3 rfl
            have ok4 : (w2.put w.S.length (.dk (mergeD [] kds)) (.dK (mergeK [] kvs))).Ok X.K X.mg := Wo.put_ok ok2 hlt ⟨_, upd_same, r4.up ok2 le4⟩
            have fin := h2 (w2.put w.S.length (.dk (mergeD [] kds)) (.dK (mergeK [] kvs))) (.ref p) le4 ok4 rfl (by
              rw [Rv]
              exact ⟨by show _ < (w2.S.set _ _).length; rw [List.length_set]; exact hlt, by rw [← hm]; rfl⟩)
            have eH : (w2.put w.S.length (.dk (mergeD [] kds)) (.dK (mergeK [] kvs))).H = upd w2.H p (.dK (mergeK [] kvs)) := by rw [← hm]; rfl
            rw [eH] at fin
            exact fin
          · rw [if_neg hk] at h2
            exact h2.elim
      | _ => exact h2.elim
end

/-! ## except X as e: what is said of e -/
section
variable {K : PySem.W.Frag} {mg : Str → Option Value} {X : Cx} {W : WX}
def tP (P : St → Prop) (t : TE) : TE := fun σ H Q => P σ ∧ t σ H Q
def sP (P : St → Prop) (t : TS) : TS := fun D' σ H => P σ ∧ t D' σ H
variable {P : St → Prop} {a b e : Expr} {rest : List Expr} {pos p : Pos} {da db : DE}
theorem lp_of {t : TE} (h : PE X e t) : PE X e (tP P t) := h.imp fun _ _ _ z => z.2
theorem lp_one {op} {t : TE} (h : PE X a t) : PE X (.BoolOp op [a] pos) t := pe_one h
theorem lp_and (ha : PE X a (tP P (LE X.K X.mg W da))) (hb : PE X (.BoolOp .And (b :: rest) pos) (tP P (LE X.K X.mg W db))) : PE X (.BoolOp .And (a :: b :: rest) pos) (tP P (LE X.K X.mg W (eAndV da db))) := (pe_and ha hb).imp fun σ H Q z => by
  refine ⟨z.1, (i_andV z.2).monoQ fun v H1 q => ?_⟩
  obtain ⟨c, e1, q⟩ := q
  refine ⟨c, e1, ?_⟩
  cases c with
  | true => exact iteT ⟨z.1, q⟩
  | false => exact iteF q
theorem lp_or (ha : PE X a (tP P (LE X.K X.mg W da))) (hb : PE X (.BoolOp .Or (b :: rest) pos) (tP P (LE X.K X.mg W db))) : PE X (.BoolOp .Or (a :: b :: rest) pos) (tP P (LE X.K X.mg W (eOrV da db))) := (pe_or ha hb).imp fun σ H Q z => by
  refine ⟨z.1, (i_orV z.2).monoQ fun v H1 q => ?_⟩
  obtain ⟨c, e1, q⟩ := q
  refine ⟨c, e1, ?_⟩
  cases c with
  | true => exact iteT q
  | false => exact iteF ⟨z.1, q⟩
theorem lp_not (ha : PE X a (tP P (LE X.K X.mg W da))) : PE X (.UnaryOp .Not a pos) (tP P (LE X.K X.mg W (eNotV da))) := (pe_not ha).imp fun σ H Q z => ⟨z.1, i_notV z.2⟩
theorem lp_ret (he : PE X e (tP P (LE X.K X.mg W da))) : PS X (.Return (some e) pos) (sP P (LS X.K X.mg W (dRet da))) := (ps_ret he).imp fun D' σ H z => ⟨z.1, i_ret z.2⟩
/-- a caught error at slot i -/
def HoldsE (i : Nat) (x : Addr) : St → Prop := fun σ => σ[i]? = some (some (.ref x))
/-- what isinstance says of an error of class c: a table -/
abbrev IsTab := List (Str × Bool)
def isOk (K : PySem.W.Frag) (mg : Str → Option Value) (cv : Value) (m : IsTab) : Prop := ∀ x b, m.lookup x = some b → ∀ C, mg x = some (.ref C) → ExcC K C ∧ PySem.W.kitOne K (.ref C) cv = some b
def eIsE (o : Option Bool) (_ : Env) (S : Sto) : Res D := match o with
  | some b => .ok (.bl b) S
  | none => .bad
theorem lp_isE {x0 : Addr} {oe : Obj} {cls : Value} {d : Option Addr} {pn : List (Addr × Obj)} {i : Nat} {n y c : Str} {C : Addr} {cv : Value} {v0 : V} {m : IsTab} {p1 p2 p3 pos : Pos}
    (hz : Zc cls d oe) (hf : ∃ vs, oe.data = .fields vs) (ec : cls = .ref C) (ed : d = none) (gC : X.mg c = some (.ref C)) (hm : isOk X.K X.mg cv m) (hy : PE (X.suite x0 ((x0, oe) :: pn)) (.Name y p2) (tC v0)) (hv0 : ∀ u, RelV v0 u → u = cv)
    (hN : X.N[i]? = some n) (hv : Vis X.env.scope n) (hg : Gl X "isinstance") (zb : X.mg "isinstance" = none) (hdb : (n == ("__debug__" : Str)) = false := by decide) (hcd : (n == ("__classdict__" : Str)) = false := by decide) (he : starEach [.Name n p1, .Name y p2] X.env = (false, eval (.Name n p1) X.env) :: starEach [.Name y p2] X.env := by rfl) :
    PE (X.suite x0 ((x0, oe) :: pn)) (.Call (.Name "isinstance" p3) [.Name n p1, .Name y p2] [] pos) (tP (HoldsE i x0) (LE X.K X.mg W (eIsE (m.lookup c)))) := by
  subst ec ed
  cases hl : m.lookup c with
  | none =>
    refine ⟨fun pins s σ H Q I h => ?_⟩
    obtain ⟨_, w, ok, e1, ρ, rr, h⟩ := h
    exact h.elim
  | some b0 =>
    obtain ⟨ex, kit⟩ := hm c b0 hl C gC
    refine (pe_callB (call_isE ex hz hf) hg zb PyProof.Rows.boot_isinstance (pa_cons (pe_var hN hv hdb hcd) (pa_cons hy pa_nil)) (by decide) (by decide) he).imp fun σ H Q z => ?_
    obtain ⟨hσ, w, ok, rfl, ρ, rr, h⟩ := z
    exact ⟨.ref x0, hσ, v0, cv, b0, rfl, hv0, kit, h.now ok mk_bl⟩
/-! ### the statement -/
abbrev DSuite := Str → DS
def tryA (suite : DSuite) (i : Nat) (c : Str) (fs : List (Str × D)) (ρ' : Env) (S' : Sto) : Option Bool → RS
  | some true => if i < ρ'.length then suite c (ρ'.set i none) S' else .bad
  | some false => .exc c fs ρ' S'
  | none => .bad
def tryAR (m : Mat) (i : Nat) (suite : DSuite) : RS → RS
  | .exc c [] ρ' S' => tryA suite i c [] ρ' S' (m.lookup c)
  | .exc _ _ _ _ => .bad
  | .nx ρ' S' => .nx ρ' S'
  | .rt d S' => .rt d S'
  | .bk ρ' S' => .bk ρ' S'
  | .ct ρ' S' => .ct ρ' S'
  | .bad => .bad
def dTryAs (m : Mat) (i : Nat) (body : DS) (suite : DSuite) (ρ : Env) (S : Sto) : RS := tryAR m i suite (body ρ S)
/-- the suite's promise: of the class that was caught -/
def sufTS (K : PySem.W.Frag) (mg : Str → Option Value) (i : Nat) (suite : DSuite) (x0 : Addr) (cls : Value) (d : Option Addr) : TS := fun D' σ H => ∃ c C, mg c = some (.ref C) ∧ cls = .ref C ∧ d = none ∧ sP (HoldsE i x0) (LS K mg W0 (suite c)) D' σ H
theorem pss_suf {X' : Cx} {i : Nat} {suite : DSuite} {x0 : Addr} {cls : Value} {d : Option Addr} {sts : List Stmt} (h : ∀ c C, X'.mg c = some (.ref C) → cls = .ref C → d = none → PSs X' sts (sP (HoldsE i x0) (LS X'.K X'.mg W0 (suite c)))) : PSs X' sts (sufTS X'.K X'.mg i suite x0 cls d) := by
  refine ⟨fun pins s σ H D' I z => ?_⟩
  obtain ⟨c, C, g, e1, e2, z⟩ := z
  exact (h c C g e1 e2).run pins s σ H D' I z
/-- a suite that ends by a return -/
def Rets (suite : DSuite) : Prop := ∀ c ρ S, (∃ d S', suite c ρ S = .rt d S') ∨ suite c ρ S = .bad
theorem i_tryAs {cv : Value} {m : Mat} {i : Nat} {body : DS} {suite : DSuite} (hm : matOk K mg cv m) (hs : Rets suite) {D' : Ends} {σ : St} {H : Hp}
    (h : LS K mg W (dTryAs m i body suite) D' σ H) : LS K mg (wAs K cv i (fun a cls d => sufTS K mg i suite a cls d) W D') body D' σ H := by
  obtain ⟨w, ok, rfl, ρ, rr, h⟩ := h
  refine ⟨w, ok, rfl, ρ, rr, ?_⟩
  unfold dTryAs at h
  cases e : body ρ w.S with
  | exc c fs ρ' S' =>
    rw [e] at h
    cases fs with
    | cons a b => exact h.elim
    | nil =>
      have h : FinS K mg W w (tryA suite i c [] ρ' S' (m.lookup c)) D' := h
      intro w' σ' le ok' es rr' C d hC hd
      have hd : d = none := hd
      subst hd
      cases el : m.lookup c with
      | none => rw [el] at h; exact h.elim
      | some b =>
        rw [el] at h
        refine ⟨b, hm c b el C hC, fun hb a ha => ?_, fun hb => ?_⟩
        · subst hb
          have h : FinS K mg W w (if i < ρ'.length then suite c (ρ'.set i none) S' else .bad) D' := h
          by_cases hi : i < ρ'.length
          · rw [if_pos hi] at h
            refine ⟨c, C, hC, rfl, rfl, ?_, ?_⟩
            · show (σ'.set i (some (.ref a)))[i]? = some (some (.ref a))
              exact List.getElem?_set_self (by rw [Rσ.len rr']; exact hi)
            · refine ⟨w', ok', rfl, ρ'.set i none, Rσ.setN i _ rr', ?_⟩
              rw [es]
              have h2 := FinS.up ok' le h
              rcases hs c (ρ'.set i none) S' with ⟨d2, S2, e2⟩ | e2
              · rw [e2] at h2 ⊢
                exact h2
              · rw [e2] at h2
                exact h2.elim
          · rw [if_neg hi] at h
            exact h.elim
        · subst hb
          exact h w' σ' le ok' es rr' C none hC rfl
  | nx ρ2 S2 => rw [e] at h; exact h
  | rt ρ2 S2 => rw [e] at h; exact h
  | bk ρ2 S2 => rw [e] at h; exact h
  | ct ρ2 S2 => rw [e] at h; exact h
  | bad => rw [e] at h; exact h
theorem ls_tryAs {x n : Str} {cv : Value} {m : Mat} {i : Nat} {body suite : List Stmt} {b₀ : Stmt} {np pos' pos : Pos} {tb : DS} {ts : DSuite} (hs : X.stack = X.env :: X.outer) (hf : X.env.frame = some X.env.locals) (hN : X.N.Nodup) (hi : X.N[i]? = some n) (hln : X.env.kindOf n = some .local) (hc : Names X x cv) (tk : Takes X W) (hm : matOk X.K X.mg cv m) (hr : Rets ts)
    (hb : ∀ (W2 : WX) (pn : List (Addr × Obj)) (xe : Value → Shared → Prop), Takes (X.tr pn xe) W2 → PassesOwn (model X.prog X.w) X.A X.env xe → PSs (X.tr pn xe) body (LS X.K X.mg W2 tb))
    (hsu : ∀ (a : Addr) (oe : Obj) (cls : Value) (d : Option Addr) (pn : List (Addr × Obj)), Zc cls d oe → (∃ vs, oe.data = .fields vs) → ∀ c C, X.mg c = some (.ref C) → cls = .ref C → d = none → PSs (X.suite a ((a, oe) :: pn)) (b₀ :: suite) (sP (HoldsE i a) (LS X.K X.mg W0 (ts c)))) :
    PS X (.Try body [.ExceptHandler (some (.Name x np)) (some n) (b₀ :: suite) pos'] [] [] pos) (LS X.K X.mg W (dTryAs m i tb ts)) :=
  (ps_try_as (tb := fun W2 => LS X.K X.mg W2 tb) (ts := fun a cls d => sufTS X.K X.mg i ts a cls d) hs hf hN hi hln hc tk hb (fun a oe cls d pn hz hf2 => pss_suf (X' := X.suite a ((a, oe) :: pn)) (hsu a oe cls d pn hz hf2))).imp fun D' σ H h => i_tryAs hm hr h
def retB : Res D → RS
  | .ok d S => .rt d S
  | _ => .bad
def dRetB (de : DE) (ρ : Env) (S : Sto) : RS := retB (de ρ S)
theorem rets_retB {de : Str → DE} : Rets (fun c => dRetB (de c)) := fun c ρ S => by
  show (∃ d S', retB (de c ρ S) = .rt d S') ∨ retB (de c ρ S) = .bad
  cases de c ρ S with
  | ok d S => exact .inl ⟨d, S, rfl⟩
  | exc c fs S => exact .inr rfl
  | bad => exact .inr rfl
theorem lp_retB (he : PE X e (tP P (LE X.K X.mg W da))) : PS X (.Return (some e) pos) (sP P (LS X.K X.mg W (dRetB da))) := (ps_ret he).imp fun D' σ H z => by
  obtain ⟨hσ, w, ok, rfl, ρ, rr, h⟩ := z
  refine ⟨hσ, w, ok, rfl, ρ, rr, ?_⟩
  have h : FinS X.K X.mg W w (retB (da ρ w.S)) D' := h
  cases e1 : da ρ w.S with
  | ok d S => rw [e1] at h; exact h
  | exc c fs S => rw [e1] at h; exact h.elim
  | bad => rw [e1] at h; exact h
theorem isOk_nil {cv : Value} : isOk K mg cv [] := fun _ _ h => nomatch h
theorem isOk_cons {cv : Value} {x : Str} {b : Bool} {m : IsTab} {C : Addr} (g : mg x = some (.ref C)) (ex : ExcC K C) (h : PySem.W.kitOne K (.ref C) cv = some b) (hm : isOk K mg cv m) : isOk K mg cv ((x, b) :: m) := by
  intro y b2 e C2 g2
  rw [List.lookup_cons] at e
  split at e
  · rename_i e3
    have e3 := eq_of_beq e3
    subst e3
    rw [g] at g2
    cases Option.some.inj g2
    exact ⟨ex, (Option.some.inj e) ▸ h⟩
  · exact hm y b2 e C2 g2
end

/-! ## sorted of a dict -/
section
open PySem PyProof.Rows PySem.Spec
variable {K : PySem.W.Frag} {mg : Str → Option Value}
def keyInts : List (Key × D) → Option (List Int)
  | [] => some []
  | (.inl i, _) :: r => (keyInts r).map (i :: ·)
  | (.inr _, _) :: _ => none
def keyStrs : List (Key × D) → Option (List Str)
  | [] => some []
  | (.inr i, _) :: r => (keyStrs r).map (i :: ·)
  | (.inl _, _) :: _ => none
theorem Rkv.kInts {w : Wo} : ∀ {ps : List (Key × D)} {vs : List (Key × V)} {ks : List Int}, Rkv K mg w ps vs → keyInts ps = some ks → vs.map (·.1) = ks.map Sum.inl
  | [], vs, ks, r, e => by
    have r : vs = [] := r
    have e : ks = [] := (Option.some.inj e).symm
    rw [r, e]
    rfl
  | (.inl i, d) :: ps, vs, ks, r, e => by
    obtain ⟨v, q, rfl, r1, r2⟩ := r
    have e : (keyInts ps).map (i :: ·) = some ks := e
    cases e2 : keyInts ps with
    | none => rw [e2] at e; cases e
    | some ms =>
      rw [e2] at e
      have e : i :: ms = ks := Option.some.inj e
      rw [← e, List.map_cons, List.map_cons, Rkv.kInts r2 e2]
  | (.inr i, d) :: ps, vs, ks, r, e => by cases e
theorem Rkv.kStrs {w : Wo} : ∀ {ps : List (Key × D)} {vs : List (Key × V)} {ks : List Str}, Rkv K mg w ps vs → keyStrs ps = some ks → vs.map (·.1) = ks.map Sum.inr
  | [], vs, ks, r, e => by
    have r : vs = [] := r
    have e : ks = [] := (Option.some.inj e).symm
    rw [r, e]
    rfl
  | (.inr i, d) :: ps, vs, ks, r, e => by
    obtain ⟨v, q, rfl, r1, r2⟩ := r
    have e : (keyStrs ps).map (i :: ·) = some ks := e
    cases e2 : keyStrs ps with
    | none => rw [e2] at e; cases e
    | some ms =>
      rw [e2] at e
      have e : i :: ms = ks := Option.some.inj e
      rw [← e, List.map_cons, List.map_cons, Rkv.kStrs r2 e2]
  | (.inl i, d) :: ps, vs, ks, r, e => by cases e
noncomputable def dSortedDI : DF
  | [.obj n], S => sortR S ((dkOf S n).bind keyInts)
  | _, _ => .bad
abbrev rSortedDI : List V → Hp → VK → Prop := fun xs H Q => ∃ (a : Addr) (kvs : List (Key × V)) (ks : List Int), xs = [.ref a] ∧ Rd H a (.dK kvs) ∧ kvs.map (·.1) = ks.map Sum.inl ∧ ks.length < 64 ∧
    ∀ (ys : List Int) (p : Addr), ys.Perm ks → ys.Pairwise (· ≤ ·) → H p = none → Q (.ref p) (upd H p (.lst (ys.map V.int)))
theorem o_sortedDI : Opn K mg rSortedDI dSortedDI := by
  intro w ds vs Q E ok r h
  unfold dSortedDI at h
  split at h
  · obtain ⟨v, rfl, r1⟩ := r.one
    rename_i n
    cases e : (dkOf w.S n).bind keyInts with
    | none => rw [e] at h; exact h.elim
    | some ns =>
      rw [e] at h
      have h : Fin K mg w (Rv K mg) (if ns.length < 64 then mkLst ((sortI ns).map D.int) w.S else .bad) Q E := h
      by_cases hl : ns.length < 64
      · rw [if_pos hl] at h
        obtain ⟨_, rfl⟩ := r1.obj
        obtain ⟨xs, e1, e2⟩ := Option.bind_eq_some_iff.mp e
        obtain ⟨e3, us, t, r2⟩ := dk_at ok e1
        refine ⟨_, us, ns, rfl, Rd.of t, r2.kInts e2, hl, fun ms p hp ho hn => ?_⟩
        rw [sortI_is ns ms hp ho]
        exact h.newLst ok hn (ints_rvs _)
      · rw [if_neg hl] at h
        exact h.elim
  · exact h.elim
/-- the texts in ascending order -/
def leS (a b : Str) : Bool := !ltCps b.cps.toList a.cps.toList
noncomputable def sortS (xs : List Str) : List Str := xs.mergeSort leS
theorem leS_iff (a b : Str) : leS a b = true ↔ a.cps.toList ≤ b.cps.toList := by
  unfold leS
  rw [ltCps_eq]
  simp
theorem str_cps {a b : Str} (h : a.cps.toList = b.cps.toList) : a = b := by
  cases a; cases b
  congr
  exact Array.toList_inj.mp h
theorem rising_pw : ∀ (p : Str) (l : List Str), risingS p l = true → (p :: l).Pairwise fun a b => leS a b = true
  | p, [], _ => List.pairwise_singleton _ _
  | p, x :: r, h => by
    have h : (leS p x && risingS x r) = true := h
    rw [Bool.and_eq_true] at h
    have ih := rising_pw x r h.2
    refine List.pairwise_cons.mpr ⟨fun y hy => ?_, ih⟩
    rcases List.mem_cons.mp hy with rfl | hy
    · exact h.1
    · have h2 := (List.pairwise_cons.mp ih).1 y hy
      rw [leS_iff] at h2 ⊢
      exact List.le_trans ((leS_iff _ _).mp h.1) h2
theorem sortS_is (xs ys : List Str) (h : ys.Perm xs) (o : sortedS ys = true) : ys = sortS xs := by
  have p : (sortS xs).Perm xs := List.mergeSort_perm _ _
  have s : (sortS xs).Pairwise fun a b => leS a b = true := List.pairwise_mergeSort (le := leS) (by
    intro a b c h1 h2
    rw [leS_iff] at *
    exact List.le_trans h1 h2) (by
    intro a b
    have := List.le_total a.cps.toList b.cps.toList
    rw [Bool.or_eq_true, leS_iff, leS_iff]
    exact this) xs
  have o2 : ys.Pairwise fun a b => leS a b = true := by
    cases ys with
    | nil => exact List.Pairwise.nil
    | cons y r => exact rising_pw y r o
  refine List.Perm.eq_of_pairwise (fun a b _ _ h1 h2 => ?_) o2 s (h.trans p.symm)
  rw [leS_iff] at h1 h2
  exact str_cps (List.le_antisymm h1 h2)
theorem strs_rvs {w : Wo} : ∀ ns : List Str, Rvs K mg w (ns.map D.str) (ns.map V.str)
  | [] => Rvs.nil
  | n :: ns => Rvs.cons (by rw [Rv]) (strs_rvs ns)
noncomputable def sortSR (S : Sto) : Option (List Str) → Res D
  | some ns => if ns.length < 64 then mkLst ((sortS ns).map D.str) S else .bad
  | none => .bad
noncomputable def dSortedDS : DF
  | [.obj n], S => sortSR S ((dkOf S n).bind keyStrs)
  | _, _ => .bad
abbrev rSortedDS : List V → Hp → VK → Prop := fun xs H Q => ∃ (a : Addr) (kvs : List (Key × V)) (ks : List Str), xs = [.ref a] ∧ Rd H a (.dK kvs) ∧ kvs.map (·.1) = ks.map Sum.inr ∧ ks.length < 64 ∧
    ∀ ys p, ys.Perm ks → sortedS ys = true → H p = none → Q (.ref p) (upd H p (.lst (ys.map V.str)))
theorem o_sortedDS : Opn K mg rSortedDS dSortedDS := by
  intro w ds vs Q E ok r h
  unfold dSortedDS at h
  split at h
  · obtain ⟨v, rfl, r1⟩ := r.one
    rename_i n
    cases e : (dkOf w.S n).bind keyStrs with
    | none => rw [e] at h; exact h.elim
    | some ns =>
      rw [e] at h
      have h : Fin K mg w (Rv K mg) (if ns.length < 64 then mkLst ((sortS ns).map D.str) w.S else .bad) Q E := h
      by_cases hl : ns.length < 64
      · rw [if_pos hl] at h
        obtain ⟨_, rfl⟩ := r1.obj
        obtain ⟨xs, e1, e2⟩ := Option.bind_eq_some_iff.mp e
        obtain ⟨e3, us, t, r2⟩ := dk_at ok e1
        refine ⟨_, us, ns, rfl, Rd.of t, r2.kStrs e2, hl, fun ms p hp ho hn => ?_⟩
        rw [sortS_is ns ms hp ho]
        exact h.newLst ok hn (strs_rvs _)
      · rw [if_neg hl] at h
        exact h.elim
  · exact h.elim
end

/-! ## enumerate, zip -/
section
variable {K : PySem.W.Frag} {mg : Str → Option Value} {W : WX}
def enumD (xs : List D) : List D := xs.mapIdx fun i d => .tup [.int ((i : Nat) : Int), d]
def toEnum : List D → Sto → Res Walked
  | [.obj n], S => match lstOf S n with
    | some xs => .ok (enumD xs, sameL n xs) S
    | none => .bad
  | [.kl xs], S => .ok (enumD xs, fun _ => True) S
  | _, _ => .bad
def wE (da : DA) (ρ : Env) (S : Sto) : Res Walked := (da ρ S).bind toEnum
theorem new_tup {w : Wo} (ok : w.Ok K mg) {T : Addr} (hT : w.H T = none) {ds : List D} {vs : List V} (r : Rvs K mg w ds vs) :
    ∃ w3 : Wo, w.Le w3 ∧ w3.Ok K mg ∧ w3.S = w.S ∧ w3.H = upd w.H T (.tup vs) ∧ Rv K mg w3 (.tup ds) (.ref T) := by
  refine ⟨w.heap (upd w.H T (.tup vs)), Wo.new_le hT, Wo.new_ok ok hT, rfl, rfl, ?_⟩
  rw [Rv]
  exact ⟨T, vs, rfl, SqT.of upd_same, Rvs.up ok (Wo.new_le hT) _ _ r⟩
theorem enum_get {xs : List D} {i : Nat} {d : D} (h : (enumD xs)[i]? = some d) : ∃ x, xs[i]? = some x ∧ d = .tup [.int ((i : Nat) : Int), x] := by
  unfold enumD at h
  rw [List.getElem?_mapIdx] at h
  obtain ⟨x, e1, e2⟩ := Option.map_eq_some_iff.mp h
  exact ⟨x, e1, e2.symm⟩
theorem enum_len {xs : List D} : (enumD xs).length = xs.length := by
  unfold enumD
  rw [List.length_mapIdx]
theorem io_enum {da : DA} : IOk K mg W (wE da) (iEnum K (LA K mg W da)) := by
  intro w ρ σ R ok rr h
  refine ⟨w, ok, rfl, ρ, rr, Fin.bind (R' := RI K mg) h fun w1 x v le1 ok1 r1 h1 => ?_⟩
  unfold toEnum at h1
  split at h1
  · rename_i n
    obtain ⟨z, rfl, rz⟩ := r1.one
    obtain ⟨hlt, rfl⟩ := rz.obj
    split at h1
    · rename_i xs e
      obtain ⟨vs, t, rv⟩ := lst_at ok1 e
      refine ⟨_, vs, rfl, t, Fin.now h1 ok1 ⟨e, fun w2 i d le ok2 e2 hi => ?_, fun w2 le ok2 e2 => ?_⟩⟩
      · obtain ⟨us, t2, rv2⟩ := lst_at ok2 (show lstOf w2.S n = some xs from e2)
        rw [le.ag n hlt] at t2
        obtain ⟨x, hx, rfl⟩ := enum_get hi
        obtain ⟨z, ez, rz⟩ := rv2.get hx
        refine ⟨⟨us, z, t2, ez⟩, fun y H' q => ?_⟩
        obtain ⟨T, x', rfl, hT, rfl, hall⟩ := q
        have e3 := (hall us t2).symm.trans ez
        rw [Option.some.inj e3]
        exact new_tup ok2 hT (Rvs.cons (mk_int) (Rvs.cons rz Rvs.nil))
      · obtain ⟨us, t2, rv2⟩ := lst_at ok2 (show lstOf w2.S n = some xs from e2)
        rw [le.ag n hlt] at t2
        exact ⟨us, t2, by rw [rv2.len, enum_len]; exact Nat.le_refl _⟩
    · exact h1.elim
  · rename_i xs
    obtain ⟨z, rfl, rz⟩ := r1.one
    obtain ⟨p, vs, rfl, t, rv⟩ := rz.kl
    refine ⟨_, vs, rfl, t.L, Fin.now h1 ok1 ⟨trivial, fun w2 i d le ok2 e2 hi => ?_, fun w2 le ok2 e2 => ?_⟩⟩
    · have t2 := (le.kl ok1 t).L
      obtain ⟨x, hx, rfl⟩ := enum_get hi
      obtain ⟨z, ez, rz⟩ := (rv.up ok1 le).get hx
      refine ⟨⟨vs, z, t2, ez⟩, fun y H' q => ?_⟩
      obtain ⟨T, x', rfl, hT, rfl, hall⟩ := q
      have e3 := (hall vs t2).symm.trans ez
      rw [Option.some.inj e3]
      exact new_tup ok2 hT (Rvs.cons (mk_int) (Rvs.cons rz Rvs.nil))
    · exact ⟨vs, (le.kl ok1 t).L, by rw [rv.len, enum_len]; exact Nat.le_refl _⟩
  · exact h1.elim
def zipD (xs ys : List D) : List D := List.zipWith (fun x y => .tup [x, y]) xs ys
theorem zip_get {xs ys : List D} {i : Nat} {d : D} (h : (zipD xs ys)[i]? = some d) : ∃ x y, xs[i]? = some x ∧ ys[i]? = some y ∧ d = .tup [x, y] := by
  unfold zipD at h
  rw [List.getElem?_zipWith] at h
  cases e1 : xs[i]? with
  | none => rw [e1] at h; simp at h
  | some x =>
    cases e2 : ys[i]? with
    | none => rw [e1, e2] at h; simp at h
    | some y =>
      rw [e1, e2] at h
      exact ⟨x, y, rfl, rfl, (Option.some.inj h).symm⟩
theorem zip_len {xs ys : List D} {us vs : List V} (h1 : us.length = xs.length) (h2 : vs.length = ys.length) : us.length ≤ (zipD xs ys).length ∨ vs.length ≤ (zipD xs ys).length := by
  unfold zipD
  rw [List.length_zipWith]
  omega
def toZip : List D → Sto → Res Walked
  | [.obj n, .obj m], S => match lstOf S n, lstOf S m with
    | some xs, some ys => .ok (zipD xs ys, fun S => sameL n xs S ∧ sameL m ys S) S
    | _, _ => .bad
  | [.tup xs, .tup ys], S => .ok (zipD xs ys, fun _ => True) S
  | _, _ => .bad
def wZ (da : DA) (ρ : Env) (S : Sto) : Res Walked := (da ρ S).bind toZip
theorem io_zip {da : DA} : IOk K mg W (wZ da) (RZ.iZipA K (LA K mg W da)) := by
  intro w ρ σ R ok rr h
  refine ⟨w, ok, rfl, ρ, rr, Fin.bind (R' := RI K mg) h fun w1 x v le1 ok1 r1 h1 => ?_⟩
  unfold toZip at h1
  split at h1
  · rename_i n m
    obtain ⟨z, z', rfl, rz, rz'⟩ := r1.two
    obtain ⟨hlt, rfl⟩ := rz.obj
    obtain ⟨hlt', rfl⟩ := rz'.obj
    split at h1
    · rename_i xs ys e e'
      obtain ⟨vs, t, rv⟩ := lst_at ok1 e
      obtain ⟨us, t', rv'⟩ := lst_at ok1 e'
      refine ⟨_, _, vs, us, rfl, .inl ⟨t, t', Fin.now h1 ok1 ⟨⟨e, e'⟩, fun w2 i d le ok2 e2 hi => ?_, fun w2 le ok2 e2 => ?_⟩⟩⟩
      · obtain ⟨as, t2, rv2⟩ := lst_at ok2 (show lstOf w2.S n = some xs from e2.1)
        obtain ⟨bs, t3, rv3⟩ := lst_at ok2 (show lstOf w2.S m = some ys from e2.2)
        rw [le.ag n hlt] at t2
        rw [le.ag m hlt'] at t3
        obtain ⟨x, y, hx, hy, rfl⟩ := zip_get hi
        obtain ⟨z, ez, rz⟩ := rv2.get hx
        obtain ⟨z', ez', rz'⟩ := rv3.get hy
        refine ⟨⟨as, bs, z, z', t2, t3, ez, ez'⟩, fun v H' q => ?_⟩
        obtain ⟨T, x', y', rfl, hT, rfl, hall, hall'⟩ := q
        rw [Option.some.inj ((hall as t2).symm.trans ez), Option.some.inj ((hall' bs t3).symm.trans ez')]
        exact new_tup ok2 hT (Rvs.cons rz (Rvs.cons rz' Rvs.nil))
      · obtain ⟨as, t2, rv2⟩ := lst_at ok2 (show lstOf w2.S n = some xs from e2.1)
        obtain ⟨bs, t3, rv3⟩ := lst_at ok2 (show lstOf w2.S m = some ys from e2.2)
        rw [le.ag n hlt] at t2
        rw [le.ag m hlt'] at t3
        exact ⟨as, bs, t2, t3, zip_len rv2.len rv3.len⟩
    · exact h1.elim
  · rename_i xs ys
    obtain ⟨z, z', rfl, rz, rz'⟩ := r1.two
    obtain ⟨p, vs, rfl, t, rv⟩ := rz.tup
    obtain ⟨p', us, rfl, t', rv'⟩ := rz'.tup
    refine ⟨_, _, vs, us, rfl, .inr ⟨t, t', Fin.now h1 ok1 ⟨trivial, fun w2 i d le ok2 e2 hi => ?_, fun w2 le ok2 e2 => ?_⟩⟩⟩
    · have t2 := le.tup ok1 t
      have t3 := le.tup ok1 t'
      obtain ⟨x, y, hx, hy, rfl⟩ := zip_get hi
      obtain ⟨z, ez, rz⟩ := (rv.up ok1 le).get hx
      obtain ⟨z', ez', rz'⟩ := (rv'.up ok1 le).get hy
      refine ⟨⟨vs, us, z, z', t2, t3, ez, ez'⟩, fun v H' q => ?_⟩
      obtain ⟨T, x', y', rfl, hT, rfl, hall, hall'⟩ := q
      rw [Option.some.inj ((hall vs t2).symm.trans ez), Option.some.inj ((hall' us t3).symm.trans ez')]
      exact new_tup ok2 hT (Rvs.cons rz (Rvs.cons rz' Rvs.nil))
    · exact ⟨vs, us, le.tup ok1 t, le.tup ok1 t', zip_len rv.len rv'.len⟩
  · exact h1.elim
end

/-! ## a starred part of a display -/
section
variable {K : PySem.W.Frag} {mg : Str → Option Value} {X : Cx} {W : WX} {e : Expr} {es : List Expr} {p : Pos}
def starA (xs ys : List D) (S2 : Sto) : Res (List D) := .ok (xs ++ ys) S2
def starS (da : DA) (ρ : Env) (S1 : Sto) : Option (List D) → Res (List D)
  | some xs => (da ρ S1).bind (starA xs)
  | none => .bad
def starK (da : DA) (ρ : Env) (d : D) (S1 : Sto) : Res (List D) := starS da ρ S1 (seqOf d S1)
def eStar (de : DE) (da : DA) (ρ : Env) (S : Sto) : Res (List D) := (de ρ S).bind (starK da ρ)
theorem i_star {de : DE} {da : DA} {σ : St} {H : Hp} {Q : List V → Hp → Prop} (h : LA K mg W (eStar de da) σ H Q) : StX.tStar K (LE K mg W de) (LA K mg W da) σ H Q := by
  obtain ⟨w, ok, rfl, ρ, rr, h⟩ := h
  refine ⟨w, ok, rfl, ρ, rr, h.bind fun w1 x v le1 ok1 r1 h1 => ?_⟩
  have h1 : Fin K mg w1 (Rvs K mg) (starS da ρ w1.S (seqOf x w1.S)) Q (XW K mg W σ) := h1
  cases e : seqOf x w1.S with
  | none => rw [e] at h1; exact h1.elim
  | some xs =>
    rw [e] at h1
    obtain ⟨q, vs, rfl, t, rv⟩ := seq_at ok1 r1 e
    refine ⟨q, vs, rfl, t.symm, w1, ok1, rfl, ρ, rr.up ok le1, Fin.bind (R' := Rvs K mg) h1 fun w2 ys us le2 ok2 r2 h2 => ?_⟩
    exact Fin.now h2 ok2 ((rv.up ok1 le2).append r2)
theorem la_star {de : DE} {da : DA} (he : PE X e (LE X.K X.mg W de)) (hr : PA X es (LA X.K X.mg W da)) (hs : starEach (.Starred e p :: es) X.env = (true, eval e X.env) :: starEach es X.env := by rfl) : PA X (.Starred e p :: es) (LA X.K X.mg W (eStar de da)) :=
  (StX.pa_star he hr hs).imp fun _ _ _ => i_star
end

theorem nox_isn {i : Nat} : ∀ (ρ : Env) (S : Sto) (c : Str) (fs : List (Str × D)) (ρ2 : Env) (S2 : Sto), dRet (eUn dIsN (eV i)) ρ S = .exc c fs ρ2 S2 → False := by
  intro ρ S c fs ρ2 S2 h
  have h : bindR retK ρ ((slotR S ρ[i]?).bind dIsN) = .exc c fs ρ2 S2 := h
  cases e : ρ[i]? with
  | none => rw [e] at h; cases h
  | some o =>
    cases o with
    | none => rw [e] at h; cases h
    | some d => rw [e] at h; cases d <;> cases h

/-! ## comparing truth values -/
section
variable {K : PySem.W.Frag} {mg : Str → Option Value} {X : Cx}
theorem op_ltB : OpR X (compareOp .Lt) (fun x y H Q => ∃ i j, x = .bl i ∧ y = .bl j ∧ Q (.bl (!i && j)) H) := by
  intro pins s σ H x y v u Q I rx ry h
  obtain ⟨i, j, rfl, rfl, q⟩ := h
  cases rx
  cases ry
  have g : Gives (Builtin.«int.__lt__» ⟨[.bool i, .bool j], []⟩) (.val (.bool (!i && j))) := by cases i <;> cases j <;> exact .of_eq rfl
  exact compareOp_gives (op := .Lt) (T := "bool") rfl rfl F.slot_bool_lt F.entry_int_lt (F.args_int_lt_2 _ _) g (fun x => nomatch x) (fin_bl I q rfl)
theorem op_leB : OpR X (compareOp .LtE) (fun x y H Q => ∃ i j, x = .bl i ∧ y = .bl j ∧ Q (.bl (!i || j)) H) := by
  intro pins s σ H x y v u Q I rx ry h
  obtain ⟨i, j, rfl, rfl, q⟩ := h
  cases rx
  cases ry
  have g : Gives (Builtin.«int.__le__» ⟨[.bool i, .bool j], []⟩) (.val (.bool (!i || j))) := by cases i <;> cases j <;> exact .of_eq rfl
  exact compareOp_gives (op := .LtE) (T := "bool") rfl rfl F.slot_bool_le F.entry_int_le (F.args_int_le_2 _ _) g (fun x => nomatch x) (fin_bl I q rfl)
def dRelA (p : Int → Int → Bool) (b : Bool → Bool → Bool) : D → D → Sto → Res D
  | .int i, .int j, S => .ok (.bl (p i j)) S
  | .bl i, .bl j, S => .ok (.bl (b i j)) S
  | _, _, _ => .bad
theorem o_relA (p : Int → Int → Bool) (b : Bool → Bool → Bool) : Op2 K mg (fun x y H Q => (rI0 fun i j => .bl (p i j)) x y H Q ∨ ∃ i j, x = .bl i ∧ y = .bl j ∧ Q (.bl (b i j)) H) (dRelA p b) := by
  intro w a b' v u Q E ok ra rb h
  unfold dRelA at h
  split at h
  · rw [ra.int, rb.int]
    exact .inl ⟨_, _, rfl, rfl, Fin.now h ok mk_bl⟩
  · rw [ra.bl, rb.bl]
    exact .inr ⟨_, _, rfl, rfl, Fin.now h ok mk_bl⟩
  · exact h.elim
def dLtA : D → D → Sto → Res D := dRelA (fun i j => decide (i < j)) (fun i j => !i && j)
def dLeA : D → D → Sto → Res D := dRelA (fun i j => decide (i ≤ j)) (fun i j => !i || j)
theorem op_ltA : OpR X (compareOp .Lt) (fun x y H Q => (rI0 fun i j => .bl (decide (i < j))) x y H Q ∨ ∃ i j, x = .bl i ∧ y = .bl j ∧ Q (.bl (!i && j)) H) := op_lt.or op_ltB
theorem op_leA : OpR X (compareOp .LtE) (fun x y H Q => (rI0 fun i j => .bl (decide (i ≤ j))) x y H Q ∨ ∃ i j, x = .bl i ∧ y = .bl j ∧ Q (.bl (!i || j)) H) := op_le.or op_leB
end

/-! ## methods of texts; a statement that is never reached -/
section
variable {K : PySem.W.Frag} {mg : Str → Option Value} {X : Cx} {W : WX}
theorem ls_bad {st : Stmt} : PS X st (LS X.K X.mg W fun _ _ => .bad) := ⟨fun pins s σ H D' I h => by
  obtain ⟨w, ok, e, ρ, rr, h⟩ := h
  exact h.elim⟩
def dNever (_ : Env) (_ : Sto) : RS := .bad
theorem ls_never {st : Stmt} : PS X st (LS X.K X.mg W dNever) := ls_bad
def mFind3 : DM
  | .str a, [.str b, .int i], S => .ok (.int (Txt.find3 a b i)) S
  | _, _, _ => .bad
theorem om_find3 : Opm K mg (fun x xs H Q => ∃ (a b : Str) (i : Int), x = .str a ∧ xs = [.str b, .int i] ∧ Q (.int (Txt.find3 a b i)) H) mFind3 := by
  intro w x ds v vs Q E ok rx rs h
  unfold mFind3 at h
  split at h
  · obtain ⟨u1, u2, rfl, r1, r2⟩ := rs.two
    exact ⟨_, _, _, rx.str, by rw [r1.str, r2.int], Fin.now h ok mk_int⟩
  · exact h.elim
def mStarts : DM
  | .str a, [.str b], S => .ok (.bl (Txt.startswith a b)) S
  | _, _, _ => .bad
theorem om_starts : Opm K mg (fun x xs H Q => ∃ a b, x = .str a ∧ xs = [.str b] ∧ Q (.bl (Txt.startswith a b)) H) mStarts := by
  intro w x ds v vs Q E ok rx rs h
  unfold mStarts at h
  split at h
  · obtain ⟨u, rfl, ru⟩ := rs.one
    exact ⟨_, _, rx.str, by rw [ru.str], Fin.now h ok mk_bl⟩
  · exact h.elim
/-- a text times 0 or 1 -/
theorem op_mulS : OpR X (binaryOp .Mult) (fun x y H Q => ∃ a, x = .str a ∧ ((y = .int 0 ∧ Q (.str Str.empty) H) ∨ (y = .int 1 ∧ Q (.str a) H))) := by
  intro pins s σ H x y v u Q I rx ry h
  obtain ⟨a, rfl, h⟩ := h
  obtain ⟨t, rfl⟩ := rx
  rcases h with ⟨rfl, q⟩ | ⟨rfl, q⟩
  · obtain ⟨t', rfl⟩ := ry
    exact P.mul_str_none (by decide) (by decide) ⟨.str Str.empty, H, I.tok _, ⟨_, rfl⟩, q⟩
  · obtain ⟨t', rfl⟩ := ry
    refine P.mul_str (by decide) (fun _ h2 => by cases h2) (fun _ h2 => by cases h2) ?_
    rw [if_neg (by decide), if_pos (by rfl)]
    exact ⟨.str a, H, I, ⟨_, rfl⟩, q⟩
def dMulS : D → D → Sto → Res D
  | .str a, .int k, S => if k = 0 then .ok (.str Str.empty) S else if k = 1 then .ok (.str a) S else .bad
  | _, _, _ => .bad
theorem o_mulS : Op2 K mg (fun x y H Q => ∃ a, x = .str a ∧ ((y = .int 0 ∧ Q (.str Str.empty) H) ∨ (y = .int 1 ∧ Q (.str a) H))) dMulS := by
  intro w a b v u Q E ok ra rb h
  unfold dMulS at h
  split at h
  · rename_i a k _
    refine ⟨_, ra.str, ?_⟩
    rw [rb.int]
    split at h
    · rename_i hk
      subst hk
      exact .inl ⟨rfl, Fin.now h ok mk_str⟩
    · split at h
      · rename_i hk
        subst hk
        exact .inr ⟨rfl, Fin.now h ok mk_str⟩
      · exact h.elim
  · exact h.elim
end

/-! ## own classes: fields, methods, instances -/
section
variable {X : Cx} {CX : CXT} {k : Nat} {f C : Addr} {fd : FuncData} {ps : List Str} {sp : Sp} {E : St → XK} {x m : Str} {p pos apos : Pos} {e o : Expr} {es : List Expr} {ta : TE} {t : TA}
def tMethS (C : Addr) (m : Str) (sp : Sp) (E : St → XK) (ta : TE) (t : TA) : TE := fun σ H Q => ta σ H fun x H1 => ∃ a dx fs, x = .ref a ∧ H1 a = some (.ins C dx fs) ∧ fs.lookup m = none ∧
  t σ H1 fun vs H2 => sp (x :: vs) H2 Q (E σ)
theorem pe_methS' {pl : Sem Bool} (he : PE X o ta) (c : Cls X.K C) (hm : Meth X.K C m f) (F : FnOk X.prog X.w X.K X.mg X.base CX k f fd ps sp) (hr : Room k X.A) (hb : Binds X.K fd ps []) (hx : ∀ σ, PassesAt CX X σ (E σ)) (ha : PA X (e :: es) t)
    (hst : starEach (e :: es) X.env = (false, eval e X.env) :: starEach es X.env := by rfl) (hpl : (backTo pos (starEach es X.env)).any (·.1) = false := by rfl)
    (ht : eval (.Call (.Attribute o m apos) (e :: es) [] pos) X.env = (do
      let ov ← eval o X.env
      standAt apos.atName
      let (f, first) ← holding [ov] (getMethod ov m pl)
      callWith pos f first (backTo pos (starEach (e :: es) X.env)) (backToKw pos (keywordEach [] X.env))) := by rfl) :
    PE X (.Call (.Attribute o m apos) (e :: es) [] pos) (tMethS C m sp E ta t) := by
  refine ⟨fun pins s σ H Q I h => ?_⟩
  refine PySem.W.methodCall_KW (pl := pl) (thn (he.run pins s σ H _ I h) fun u s1 ⟨x, H1, I1, rx, a, dx, fs, ex, ea, l, q⟩ => ?_) ht
  subst ex
  obtain rfl : u = Value.ref a := rx
  refine getmeth_ok I1 ea c hm l ?_
  refine PySem.W.callWith_K (first := [.ref a]) (h₀ := X.base) I.ok.mod.kin hm.kp (thn (ha.run pos pins s1 σ H1 _ I1 q) fun us s2 ⟨vs, H2, I2, r, q2⟩ => ⟨I2.kIn, ?_⟩) hst hpl
  exact run_fnS (us := .ref a :: us) (vs := .ref a :: vs) F hr hb (hx σ) I2 (.cons rfl r) q2
theorem pe_methS0' {pl : Sem Bool} (he : PE X o ta) (c : Cls X.K C) (hm : Meth X.K C m f) (F : FnOk X.prog X.w X.K X.mg X.base CX k f fd ps sp) (hr : Room k X.A) (hb : Binds X.K fd ps []) (hx : ∀ σ, PassesAt CX X σ (E σ))
    (ht : eval (.Call (.Attribute o m apos) [] [] pos) X.env = (do
      let ov ← eval o X.env
      standAt apos.atName
      let (f, first) ← holding [ov] (getMethod ov m pl)
      callWith pos f first (backTo pos (starEach [] X.env)) (backToKw pos (keywordEach [] X.env))) := by rfl) :
    PE X (.Call (.Attribute o m apos) [] [] pos) (tMethS C m sp E ta tNil) := by
  refine ⟨fun pins s σ H Q I h => ?_⟩
  refine PySem.W.methodCall_KW (pl := pl) (thn (he.run pins s σ H _ I h) fun u s1 ⟨x, H1, I1, rx, a, dx, fs, ex, ea, l, q⟩ => ?_) ht
  subst ex
  obtain rfl : u = Value.ref a := rx
  refine getmeth_ok I1 ea c hm l ?_
  exact PySem.W.callWith_K0 (first := [.ref a]) I1.kIn hm.kp (run_fnS (us := [.ref a]) (vs := [.ref a]) F hr hb (hx σ) I1 (.cons rfl .nil) q)
/-- C(..) -/
def tMakeS (C : Addr) (sp : Sp) (E : St → XK) (t : TA) : TE := fun σ H Q => t σ H fun vs H1 => ∀ x dx, H1 x = none → H1 dx = none → dx ≠ x →
  sp (.ref x :: vs) (upd (upd H1 dx (.own x)) x (.ins C dx [])) (fun v H2 => v = .non ∧ Q (.ref x) H2) (E σ)
theorem run_makeS {pins : List (Addr × Obj)} {σ : St} {H : Hp} {s : Shared} {Q : VK} {us : List Value} {vs : List V} (M : Mk X.K C f) (F : FnOk X.prog X.w X.K X.mg X.base CX k f fd ps sp) (hr : Room (k + 1) X.A) (hb : Binds X.K fd ps [])
    (hx : PassesAt CX X σ (E σ)) (I : Inv X pins σ H s) (r : Vals vs us)
    (h : ∀ x dx, H x = none → H dx = none → dx ≠ x → sp (.ref x :: vs) (upd (upd H dx (.own x)) x (.ins C dx [])) (fun v H2 => v = .non ∧ Q (.ref x) H2) (E σ)) :
    wpAny (model X.prog X.w) X.A (call (.ref C) us) (EP X pins σ Q) X.xe s := by
  have hq := h (s.heap.objs.size + 1) s.heap.objs.size (I.hok.fresh (Nat.le_succ _)) (I.hok.fresh (Nat.le_refl _)) (Nat.ne_of_lt (Nat.lt_succ_self _))
  have I2 := Inv.made (C := C) I
  have r2 : Vals (V.ref (s.heap.objs.size + 1) :: vs) (Value.ref (s.heap.objs.size + 1) :: us) := .cons rfl r
  have hl : (Value.ref (s.heap.objs.size + 1) :: us).length = ps.length := by
    have e := r2.length
    rw [F.len _ _ _ _ hq] at e
    exact e.symm
  have hl2 : ((Value.ref (s.heap.objs.size + 1) :: us) ++ []).length = ps.length := by rw [List.append_nil]; exact hl
  have b := hb _ (Value.ref (s.heap.objs.size + 1) :: us) I2.kIn hl2
  rw [List.append_nil] at b
  refine wpAny_call (make_map (f := f) I.kIn M.makes M.init (beq_iff_eq.mp M.fn) (codeAny_mono (F.run _ X.stack _ _ ⟨Value.ref (s.heap.objs.size + 1) :: us, []⟩ (Value.ref (s.heap.objs.size + 1) :: us) _ _ (E σ) (hr.make C us [])
    (I2.env0.make C us []) b r2 hq) fun r s' hq' => ?_))
  cases r with
  | error e => exact hx pins _ _ e s' I2 hq'
  | ok fl =>
    cases fl with
    | ret u =>
      obtain ⟨v, H', I3, rv, ev, q3⟩ := I2.after hq'
      subst ev
      exact ⟨rv, ⟨V.ref (s.heap.objs.size + 1), H', I3, rfl, q3⟩⟩
    | next => exact False.elim hq'
    | brk => exact False.elim hq'
    | cont => exact False.elim hq'
theorem pe_makeS (M : Mk X.K C f) (F : FnOk X.prog X.w X.K X.mg X.base CX k f fd ps sp) (hr : Room (k + 1) X.A) (hg : Gl X x) (hm : X.mg x = some (.ref C)) (hb : Binds X.K fd ps []) (hx : ∀ σ, PassesAt CX X σ (E σ))
    (ha : PA X (e :: es) t) (hdb : (x == ("__debug__" : Str)) = false := by decide) (he : starEach (e :: es) X.env = (false, eval e X.env) :: starEach es X.env := by rfl) (hpl : (backTo pos (starEach es X.env)).any (·.1) = false := by rfl) :
    PE X (.Call (.Name x p) (e :: es) [] pos) (tMakeS C sp E t) := by
  refine ⟨fun pins s σ H Q I h => ?_⟩
  refine wpAny_Call_Name_kw (ld_glob I hg hm ?_ hdb)
  refine PySem.W.callWith_K (h₀ := X.base) I.ok.mod.kin M.kp (thn (ha.run pos pins s σ H _ I h) fun us s1 ⟨vs, H1, I1, r, q⟩ => ⟨I1.kIn, ?_⟩) he hpl
  exact run_makeS M F hr hb (hx σ) I1 r q
theorem pe_makeS0 (M : Mk X.K C f) (F : FnOk X.prog X.w X.K X.mg X.base CX k f fd ps sp) (hr : Room (k + 1) X.A) (hg : Gl X x) (hm : X.mg x = some (.ref C)) (hb : Binds X.K fd ps []) (hx : ∀ σ, PassesAt CX X σ (E σ))
    (hdb : (x == ("__debug__" : Str)) = false := by decide) : PE X (.Call (.Name x p) [] [] pos) (tMakeS C sp E tNil) := by
  refine ⟨fun pins s σ H Q I h => ?_⟩
  refine wpAny_Call_Name_kw (ld_glob I hg hm ?_ hdb)
  exact PySem.W.callWith_K0 I.kIn M.kp (run_makeS (us := []) M F hr hb (hx σ) I .nil h)
end
section
variable {K : PySem.W.Frag} {mg : Str → Option Value} {X : Cx} {W : WX} {pos pos' apos p : Pos} {e o value : Expr} {es : List Expr} {f m x C : Str} {Ca : Addr} {da dv : DE} {dr : DA}
/-- a class of the text -/
structure ClsT (K : PySem.W.Frag) (mg : Str → Option Value) (C : Str) (Ca : Addr) : Prop where
  g : mg C = some (.ref Ca)
  c : Cls K Ca
/-- an attribute -/
def fldL : List (Str × D) → Str → Option D
  | [], _ => none
  | p :: r, f => if p.1 = f then some p.2 else fldL r f
/-- an attribute is put -/
def putFD (f : Str) (d : D) : List (Str × D) → List (Str × D)
  | [] => [(f, d)]
  | p :: r => if p.1 = f then (p.1, d) :: r else p :: putFD f d r
theorem beq_str {a b : Str} : (a == b) = decide (a = b) := by
  rw [Bool.eq_iff_iff, beq_iff_eq, decide_eq_true_eq]
theorem Rfs.fld {w : Wo} (f : Str) : ∀ {fs : List (Str × D)} {vs : List (Str × V)}, Rfs K mg w fs vs → (∀ d, fldL fs f = some d → ∃ v, vs.lookup f = some v ∧ Rv K mg w d v) ∧ (fldL fs f = none → vs.lookup f = none)
  | [], vs, r => by
    have e : vs = [] := r
    subst e
    exact ⟨fun d h => (nomatch h), fun _ => rfl⟩
  | p :: ps, vs, ⟨v, q, e, r1, r2⟩ => by
    subst e
    have ih := Rfs.fld f r2
    unfold fldL
    rw [List.lookup_cons, beq_str]
    by_cases h : p.1 = f
    · rw [if_pos h, decide_eq_true h.symm]
      exact ⟨fun d e => ⟨v, rfl, by rw [← Option.some.inj e]; exact r1⟩, fun e => (nomatch e)⟩
    · rw [if_neg h, decide_eq_false fun z => h z.symm]
      exact ih
theorem Rfs.len {w : Wo} : ∀ {fs : List (Str × D)} {vs : List (Str × V)}, Rfs K mg w fs vs → vs.length = fs.length
  | [], vs, r => by
    have e : vs = [] := r
    rw [e]
    rfl
  | p :: ps, vs, ⟨v, q, e, r1, r2⟩ => by rw [e, List.length_cons, List.length_cons, Rfs.len r2]
theorem Rfs.putF {w : Wo} (f : Str) {d : D} {v : V} (h : Rv K mg w d v) : ∀ {fs : List (Str × D)} {vs : List (Str × V)}, Rfs K mg w fs vs → Rfs K mg w (putFD f d fs) (L2.putF f v vs)
  | [], vs, r => by
    have e : vs = [] := r
    subst e
    exact ⟨v, [], rfl, h, rfl⟩
  | p :: ps, vs, ⟨u, q, e, r1, r2⟩ => by
    subst e
    unfold putFD
    by_cases hf : p.1 = f
    · rw [if_pos hf]
      have e2 : L2.putF f v ((p.1, u) :: q) = (p.1, v) :: q := by
        unfold L2.putF
        rw [if_pos hf]
        try rw [hf]
      rw [e2]
      exact ⟨v, q, rfl, h, r2⟩
    · rw [if_neg hf]
      have e2 : L2.putF f v ((p.1, u) :: q) = (p.1, u) :: L2.putF f v q := by
        conv => lhs; unfold L2.putF
        rw [if_neg hf]
      rw [e2]
      exact ⟨u, _, rfl, r1, Rfs.putF f h r2⟩
/-! ### o.f -/
def fldR (S : Sto) : Option D → Res D
  | some d => .ok d S
  | none => .bad
def fldO (C f : Str) (S : Sto) : Option Ob → Res D
  | some (.ins C' fs) => if C' = C then fldR S (fldL fs f) else .bad
  | _ => .bad
def dFld (C f : Str) : D → Sto → Res D
  | .obj n, S => fldO C f S S[n]?
  | _, _ => .bad
def eFld (C f : Str) (da : DE) : DE := eUn (dFld C f) da
theorem ins_at {w : Wo} (ok : w.Ok K mg) {n : Nat} {fs : List (Str × D)} (h : w.S[n]? = some (.ins C fs)) (T : ClsT K mg C Ca) : ∃ dx vs, w.H (w.m n) = some (.ins Ca dx vs) ∧ Rfs K mg w fs vs := by
  obtain ⟨Cb, dx, vs, e, h1, r⟩ := ok.has n _ h
  rw [T.g] at e
  cases Option.some.inj e
  exact ⟨dx, vs, h1, r⟩
theorem l_fld (T : ClsT X.K X.mg C Ca) (n : NoAttr X.K Ca f) (he : PE X e (LE X.K X.mg W da)) (hb : attributeBase e f X.env (eval e X.env) = eval e X.env := by rfl) : PE X (.Attribute e f pos) (LE X.K X.mg W (eFld C f da)) :=
  (pe_fld he hb).imp fun σ H Q h => by
    obtain ⟨w, ok, rfl, ρ, rr, h⟩ := h
    refine ⟨w, ok, rfl, ρ, rr, h.bind fun w1 a v le1 ok1 r1 h1 => ?_⟩
    cases a with
    | obj i =>
      obtain ⟨hi, rfl⟩ := r1.obj
      have h3 : Fin X.K X.mg w1 (Rv X.K X.mg) (fldO C f w1.S w1.S[i]?) Q (XW X.K X.mg W σ) := h1
      clear h1 h
      cases e1 : w1.S[i]? with
      | none => rw [e1] at h3; exact h3.elim
      | some ob =>
        rw [e1] at h3
        cases ob with
        | ins C' fs =>
          unfold fldO at h3
          dsimp only at h3
          by_cases hC : C' = C
          · rw [if_pos hC] at h3
            subst hC
            obtain ⟨dx, vs, hH, r⟩ := ins_at ok1 e1 T
            cases e2 : fldL fs f with
            | none => rw [e2] at h3; exact h3.elim
            | some d =>
              rw [e2] at h3
              obtain ⟨v, hv, rv⟩ := (r.fld f).1 d e2
              exact ⟨_, Ca, dx, vs, v, rfl, hH, T.c, n, hv, Fin.now h3 ok1 rv⟩
          · rw [if_neg hC] at h3
            exact h3.elim
        | _ => exact h3.elim
    | _ => exact h1.elim
/-! ### o.f = e -/
theorem Wo.putIns {w : Wo} (ok : w.Ok K mg) {n : Nat} {fs : List (Str × D)} {vs : List (Str × V)} {dx : Addr} (hn : n < w.S.length) (T : ClsT K mg C Ca) (r : Rfs K mg w fs vs) (hh : heldO w.S[n]? = false := by exact heldO_no (by assumption) (by rfl)) : (w.put n (.ins C fs) (.ins Ca dx vs)).Ok K mg :=
  Wo.put_ok ok hn ⟨Ca, dx, vs, T.g, upd_same, r.up ok (Wo.put_le hn hh)⟩ hh
def setFO (C f : Str) (d : D) (ρ : Env) (S : Sto) (n : Nat) : Option Ob → RS
  | some (.ins C' fs) => if C' = C ∧ fs.length < 1000 then .nx ρ (S.set n (.ins C (putFD f d fs))) else .bad
  | _ => .bad
def setF2 (C f : Str) (d : D) : D → Env → Sto → RS
  | .obj n, ρ, S => setFO C f d ρ S n S[n]?
  | _, _, _ => .bad
def setF1 (C f : Str) (da : DE) (d : D) (ρ : Env) (S : Sto) : RS := bindR (setF2 C f d) ρ (da ρ S)
def dSetF (C f : Str) (da dv : DE) (ρ : Env) (S : Sto) : RS := bindR (setF1 C f da) ρ (dv ρ S)
theorem ls_setF (T : ClsT X.K X.mg C Ca) (n : NoAttr X.K Ca f) (ha : PE X o (LE X.K X.mg W da)) (hv : PE X value (LE X.K X.mg W dv)) (hs : swapsWith value (some (.Attribute o f pos')) pos.line X.env = pure false := by rfl) :
    PS X (.Assign [.Attribute o f pos'] value pos) (LS X.K X.mg W (dSetF C f da dv)) := (ps_fld ha hv hs).imp fun D' σ H h => by
  obtain ⟨w, ok, rfl, ρ, rr, h⟩ := h
  refine ⟨w, ok, rfl, ρ, rr, FinS.ofBind ok rr h fun w1 d v le1 ok1 r1 rr1 h1 => ?_⟩
  refine ⟨w1, ok1, rfl, ρ, rr1, FinS.ofBind ok1 rr1 h1 fun w2 d2 v2 le2 ok2 r2 rr2 h2 => ?_⟩
  cases d2 with
  | obj i =>
    obtain ⟨hi, rfl⟩ := r2.obj
    have h2 : FinS X.K X.mg W w2 (setFO C f d ρ w2.S i w2.S[i]?) D' := h2
    cases e1 : w2.S[i]? with
    | none => rw [e1] at h2; exact h2.elim
    | some ob =>
      rw [e1] at h2
      cases ob with
      | ins C' fs =>
        unfold setFO at h2
        dsimp only at h2
        by_cases hC : C' = C ∧ fs.length < 1000
        · rw [if_pos hC] at h2
          obtain ⟨rfl, hl⟩ := hC
          obtain ⟨dx, vs, hH, r⟩ := ins_at ok2 e1 T
          refine ⟨_, Ca, dx, vs, rfl, hH, T.c, n, by rw [r.len]; exact hl, ?_⟩
          exact h2 (w2.put i _ _) σ (Wo.put_le hi) (Wo.putIns ok2 hi T (Rfs.putF f (r1.up ok1 le2) r)) rfl (rr2.up ok2 (Wo.put_le hi))
        · rw [if_neg hC] at h2
          exact h2.elim
      | _ => exact h2.elim
  | _ => exact h2.elim
/-! ### o.m(..) -/
def metO (C m : Str) : Option Ob → Bool
  | some (.ins C' fs) => decide (C' = C) && (fldL fs m).isNone
  | _ => false
def isMet (C m : Str) (d : D) (S : Sto) : Bool := match d with
  | .obj n => metO C m S[n]?
  | _ => false
def metK (h : DF) (d : D) (xs : List D) (S : Sto) : Res D := h (d :: xs) S
def eMet1 (C m : Str) (h : DF) (dr : DA) (ρ : Env) (d : D) (S : Sto) : Res D := if isMet C m d S = true then (dr ρ S).bind (metK h d) else .bad
def eMet (C m : Str) (h : DF) (da : DE) (dr : DA) (ρ : Env) (S : Sto) : Res D := (da ρ S).bind (eMet1 C m h dr ρ)
theorem i_met {h : DF} (T : ClsT K mg C Ca) {σ : St} {H : Hp} {Q : VK} (z : LE K mg W (eMet C m h da dr) σ H Q) : tMethS Ca m (spD K mg h) (WE W) (LE K mg W da) (LA K mg W dr) σ H Q := by
  obtain ⟨w, ok, rfl, ρ, rr, z⟩ := z
  refine ⟨w, ok, rfl, ρ, rr, z.bind fun w1 a v le1 ok1 r1 z1 => ?_⟩
  unfold eMet1 at z1
  by_cases hm : isMet C m a w1.S = true
  · rw [if_pos hm] at z1
    cases a with
    | obj i =>
      obtain ⟨hi, rfl⟩ := r1.obj
      have hm : metO C m w1.S[i]? = true := hm
      cases e1 : w1.S[i]? with
      | none => rw [e1] at hm; cases hm
      | some ob =>
        rw [e1] at hm
        cases ob with
        | ins C' fs =>
          have hm : (decide (C' = C) && (fldL fs m).isNone) = true := hm
          rw [Bool.and_eq_true, decide_eq_true_eq] at hm
          obtain ⟨rfl, hn⟩ := hm
          obtain ⟨dx, vs, hH, r⟩ := ins_at ok1 e1 T
          refine ⟨_, dx, vs, rfl, hH, (r.fld m).2 (Option.isNone_iff_eq_none.mp hn), w1, ok1, rfl, ρ, rr.up ok le1, z1.bind fun w2 xs us le2 ok2 r2 z2 => ?_⟩
          refine ⟨w2, .obj i :: xs, ok2, rfl, Rvs.cons ((show Rv K mg w1 (.obj i) (.ref (w1.m i)) from r1).up ok1 le2) r2, z2⟩
        | _ => cases hm
    | _ => cases hm
  · rw [if_neg hm] at z1
    exact z1.elim
theorem l_met {pl : Sem Bool} {k : Nat} {g : Addr} {fd : FuncData} {ps : List Str} {h : DF} (T : ClsT X.K X.mg C Ca) (hm : Meth X.K Ca m g) (F : FnOk X.prog X.w X.K X.mg X.base (L2.CX X.prog X.w) k g fd ps (spD X.K X.mg h)) (hr : Room k X.A) (hb : Binds X.K fd ps []) (tk : Takes X W)
    (he : PE X o (LE X.K X.mg W da)) (ha : PA X (e :: es) (LA X.K X.mg W dr))
    (hst : starEach (e :: es) X.env = (false, eval e X.env) :: starEach es X.env := by rfl) (hpl : (backTo pos (starEach es X.env)).any (·.1) = false := by rfl)
    (ht : eval (.Call (.Attribute o m apos) (e :: es) [] pos) X.env = (do
      let ov ← eval o X.env
      standAt apos.atName
      let (f, first) ← holding [ov] (getMethod ov m pl)
      callWith pos f first (backTo pos (starEach (e :: es) X.env)) (backToKw pos (keywordEach [] X.env))) := by rfl) :
    PE X (.Call (.Attribute o m apos) (e :: es) [] pos) (LE X.K X.mg W (eMet C m h da dr)) :=
  (pe_methS' (pl := pl) he T.c hm F hr hb (fun σ => passAt tk σ) ha hst hpl ht).imp fun _ _ _ => i_met T
theorem l_met0 {pl : Sem Bool} {k : Nat} {g : Addr} {fd : FuncData} {ps : List Str} {h : DF} (T : ClsT X.K X.mg C Ca) (hm : Meth X.K Ca m g) (F : FnOk X.prog X.w X.K X.mg X.base (L2.CX X.prog X.w) k g fd ps (spD X.K X.mg h)) (hr : Room k X.A) (hb : Binds X.K fd ps []) (tk : Takes X W)
    (he : PE X o (LE X.K X.mg W da))
    (ht : eval (.Call (.Attribute o m apos) [] [] pos) X.env = (do
      let ov ← eval o X.env
      standAt apos.atName
      let (f, first) ← holding [ov] (getMethod ov m pl)
      callWith pos f first (backTo pos (starEach [] X.env)) (backToKw pos (keywordEach [] X.env))) := by rfl) :
    PE X (.Call (.Attribute o m apos) [] [] pos) (LE X.K X.mg W (eMet C m h da eNil)) :=
  (pe_methS0' (pl := pl) he T.c hm F hr hb (fun σ => passAt tk σ) ht).imp fun σ H Q z => by
    obtain ⟨w, ok, rfl, ρ, rr, z⟩ := z
    have z2 := i_met (W := W) T ⟨w, ok, rfl, ρ, rr, z⟩
    refine LE.monoQ z2 fun v H1 ⟨a, dx, fs, e1, e2, e3, e4⟩ => ⟨a, dx, fs, e1, e2, e3, ?_⟩
    exact i_nil e4
/-! ### C(..) -/
def mkEnd (n : Nat) : D → Sto → Res D
  | .non, S => .ok (.obj n) S
  | _, _ => .bad
def eMake1 (C : Str) (h : DF) (xs : List D) (S : Sto) : Res D := (h (.obj S.length :: xs) (S ++ [.ins C []])).bind (mkEnd S.length)
def eMake (C : Str) (h : DF) (dr : DA) (ρ : Env) (S : Sto) : Res D := (dr ρ S).bind (eMake1 C h)
theorem Wo.make {w : Wo} (ok : w.Ok K mg) (T : ClsT K mg C Ca) {x dx : Addr} (hx : w.H x = none) (hd : w.H dx = none) (ne : dx ≠ x) :
    ∃ w' : Wo, w.Le w' ∧ w'.Ok K mg ∧ w'.S = w.S ++ [.ins C []] ∧ w'.H = upd (upd w.H dx (.own x)) x (.ins Ca dx []) ∧ w'.m w.S.length = x := by
  have le1 := Wo.new_le (o := HO.own x) hd
  have ok1 := Wo.new_ok (o := HO.own x) ok hd
  have hx1 : (w.heap (upd w.H dx (.own x))).H x = none := by
    show upd w.H dx (.own x) x = none
    rw [upd_ne ne.symm]
    exact hx
  have le2 := Wo.add_le (o := Ob.ins C []) (u := HO.ins Ca dx []) hx1
  exact ⟨_, Wo.Le.trans ok1 le1 le2, Wo.add_ok ok1 hx1 ⟨Ca, dx, [], T.g, upd_same, rfl⟩, rfl, rfl, Wo.add_m⟩
theorem i_make {h : DF} (T : ClsT K mg C Ca) {σ : St} {H : Hp} {Q : VK} (z : LE K mg W (eMake C h dr) σ H Q) : tMakeS Ca (spD K mg h) (WE W) (LA K mg W dr) σ H Q := by
  obtain ⟨w, ok, rfl, ρ, rr, z⟩ := z
  refine ⟨w, ok, rfl, ρ, rr, z.bind fun w1 xs vs le1 ok1 r1 z1 => fun x dx hx hd ne => ?_⟩
  obtain ⟨w2, le2, ok2, eS, eH, em⟩ := Wo.make ok1 T hx hd ne
  have hlen : w1.S.length < w2.S.length := by rw [eS, List.length_append]; exact Nat.lt_succ_self _
  have ro : Rv K mg w2 (.obj w1.S.length) (.ref x) := by
    rw [Rv]
    exact ⟨hlen, by rw [em]⟩
  refine ⟨w2, .obj w1.S.length :: xs, ok2, eH, Rvs.cons ro (r1.up ok1 le2), ?_⟩
  have z2 : Fin K mg w2 (Rv K mg) ((h (.obj w1.S.length :: xs) w2.S).bind (mkEnd w1.S.length)) Q (XW K mg W σ) := by
    rw [eS]
    exact z1.up ok2 le2
  refine z2.bind fun w3 a v le3 ok3 r3 z3 => ?_
  cases a with
  | non =>
    refine ⟨r3.non, ?_⟩
    exact Fin.now z3 ok3 (ro.up ok2 le3)
  | _ => exact z3.elim
theorem l_make {k : Nat} {g : Addr} {fd : FuncData} {ps : List Str} {h : DF} (T : ClsT X.K X.mg C Ca) (M : Mk X.K Ca g) (F : FnOk X.prog X.w X.K X.mg X.base (L2.CX X.prog X.w) k g fd ps (spD X.K X.mg h)) (hr : Room (k + 1) X.A) (hg : Gl X C) (hb : Binds X.K fd ps []) (tk : Takes X W)
    (ha : PA X (e :: es) (LA X.K X.mg W dr)) (hdb : (C == ("__debug__" : Str)) = false := by decide) (he : starEach (e :: es) X.env = (false, eval e X.env) :: starEach es X.env := by rfl) (hpl : (backTo pos (starEach es X.env)).any (·.1) = false := by rfl) :
    PE X (.Call (.Name C p) (e :: es) [] pos) (LE X.K X.mg W (eMake C h dr)) :=
  (pe_makeS M F hr hg T.g hb (fun σ => passAt tk σ) ha hdb he hpl).imp fun _ _ _ => i_make T
theorem l_make0 {k : Nat} {g : Addr} {fd : FuncData} {ps : List Str} {h : DF} (T : ClsT X.K X.mg C Ca) (M : Mk X.K Ca g) (F : FnOk X.prog X.w X.K X.mg X.base (L2.CX X.prog X.w) k g fd ps (spD X.K X.mg h)) (hr : Room (k + 1) X.A) (hg : Gl X C) (hb : Binds X.K fd ps []) (tk : Takes X W)
    (hdb : (C == ("__debug__" : Str)) = false := by decide) : PE X (.Call (.Name C p) [] [] pos) (LE X.K X.mg W (eMake C h eNil)) :=
  (pe_makeS0 M F hr hg T.g hb (fun σ => passAt tk σ) hdb).imp fun σ H Q z => by
    have z2 := i_make T z
    exact i_nil (K := X.K) (mg := X.mg) (W := W) z2
end

/-! ## ==, != of data at any depth -/
section
variable {K : PySem.W.Frag} {mg : Str → Option Value} {X : Cx} {W : WX}
open PySem (PyData)
def datL (f : D → Option PyData) : List D → Option (List PyData)
  | [] => some []
  | d :: r => match f d, datL f r with
    | some p, some ps => some (p :: ps)
    | _, _ => none
def datK : Key → PyData
  | .inl i => .int i
  | .inr x => .str x
/-- what a value is, as data -/
def dat (S : Sto) : Nat → D → Option PyData
  | _, .non => some .none
  | _, .bl b => some (.bool b)
  | _, .int i => some (.int i)
  | _, .str x => some (.str x)
  | _, .tk ks => some (.tuple (ks.map datK))
  | n + 1, .tup ds => (datL (dat S n) ds).map .tuple
  | n + 1, .obj m => ((lstOf S m).bind (datL (dat S n))).map .list
  | n + 1, .kl ds => (datL (dat S n) ds).map .list
  | _, _ => none
theorem dpAll_of {w : Wo} {H : Hp} {f : D → Option PyData} (hf : ∀ d v p, Rv K mg w d v → f d = some p → Dp K H v p) : ∀ {ds : List D} {vs : List V} {ps : List PyData}, Rvs K mg w ds vs → datL f ds = some ps → DpAll K H vs ps
  | [], vs, ps, r, e => by
    rw [Rvs] at r
    cases Option.some.inj (show some [] = some ps from e)
    rw [r]
    exact .nil
  | d :: ds, vs, ps, r, e => by
    rw [Rvs] at r
    obtain ⟨v, q, e1, r1, r2⟩ := r
    subst e1
    unfold datL at e
    split at e
    · rename_i p ps' e2 e3
      cases Option.some.inj e
      exact .cons (hf _ _ _ r1 e2) (dpAll_of hf r2 e3)
    · cases e
theorem dpAll_keys {H : Hp} : ∀ ks : List Key, DpAll K H (ks.map kV) (ks.map datK)
  | [] => .nil
  | .inl i :: ks => .cons (.int i) (dpAll_keys ks)
  | .inr i :: ks => .cons (.str i) (dpAll_keys ks)
theorem dat_dp {w : Wo} (ok : w.Ok K mg) : ∀ (n : Nat) (d : D) (v : V) (p : PyData), Rv K mg w d v → dat w.S n d = some p → Dp K w.H v p := by
  intro n
  induction n with
  | zero =>
    intro d v p r e
    cases d with
    | non => cases Option.some.inj (show some PyData.none = some p from e); rw [r.non]; exact .non
    | bl b => cases Option.some.inj (show some (PyData.bool b) = some p from e); rw [r.bl]; exact .bl b
    | int b => cases Option.some.inj (show some (PyData.int b) = some p from e); rw [r.int]; exact .int b
    | str b => cases Option.some.inj (show some (PyData.str b) = some p from e); rw [r.str]; exact .str b
    | tk ks =>
      cases Option.some.inj (show some (PyData.tuple (ks.map datK)) = some p from e)
      rw [Rv] at r
      obtain ⟨a, rfl, h⟩ := r
      exact .tup (SqT.of h) (dpAll_keys ks)
    | _ => simp [dat] at e
  | succ n ih =>
    intro d v p r e
    cases d with
    | non => cases Option.some.inj (show some PyData.none = some p from e); rw [r.non]; exact .non
    | bl b => cases Option.some.inj (show some (PyData.bool b) = some p from e); rw [r.bl]; exact .bl b
    | int b => cases Option.some.inj (show some (PyData.int b) = some p from e); rw [r.int]; exact .int b
    | str b => cases Option.some.inj (show some (PyData.str b) = some p from e); rw [r.str]; exact .str b
    | tk ks =>
      cases Option.some.inj (show some (PyData.tuple (ks.map datK)) = some p from e)
      rw [Rv] at r
      obtain ⟨a, rfl, h⟩ := r
      exact .tup (SqT.of h) (dpAll_keys ks)
    | tup ds =>
      obtain ⟨ps, e1, rfl⟩ := Option.map_eq_some_iff.mp (show (datL (dat w.S n) ds).map PyData.tuple = some p from e)
      obtain ⟨a, vs, rfl, t, r2⟩ := r.tup
      exact .tup t (dpAll_of ih r2 e1)
    | kl ds =>
      obtain ⟨ps, e1, rfl⟩ := Option.map_eq_some_iff.mp (show (datL (dat w.S n) ds).map PyData.list = some p from e)
      obtain ⟨a, vs, rfl, t, r2⟩ := r.kl
      exact .lst t.L (dpAll_of ih r2 e1)
    | obj m =>
      obtain ⟨ps, e1, rfl⟩ := Option.map_eq_some_iff.mp (show ((lstOf w.S m).bind (datL (dat w.S n))).map PyData.list = some p from e)
      obtain ⟨ds, e2, e3⟩ := Option.bind_eq_some_iff.mp e1
      obtain ⟨vs, t, r2⟩ := lst_at ok e2
      obtain ⟨_, rfl⟩ := r.obj
      exact .lst t (dpAll_of ih r2 e3)
    | _ => simp [dat] at e
def eqPR (neg : Bool) (S : Sto) : Option PyData → Option PyData → Res D
  | some d, some e => if PySem.SeqAt.shaped d = true ∧ PySem.SeqAt.shaped e = true then .ok (.bl (if neg then !PyData.eqv d e else PyData.eqv d e)) S else .bad
  | _, _ => .bad
def dEqP (neg : Bool) (a b : D) (S : Sto) : Res D := eqPR neg S (dat S 60 a) (dat S 60 b)
theorem o_eqP : Op2 K mg (rEqD K) (dEqP false) := by
  intro w a b v u Q E ok ra rb h
  unfold dEqP at h
  cases e1 : dat w.S 60 a with
  | none => rw [e1] at h; exact h.elim
  | some d =>
    cases e2 : dat w.S 60 b with
    | none => rw [e1, e2] at h; exact h.elim
    | some e =>
      rw [e1, e2] at h
      unfold eqPR at h
      dsimp only at h
      split at h
      · rename_i hs
        exact ⟨d, e, dat_dp ok _ _ _ _ ra e1, dat_dp ok _ _ _ _ rb e2, hs.1, hs.2, Fin.now h ok mk_bl⟩
      · exact h.elim
theorem o_neP : Op2 K mg (rNeD K) (dEqP true) := by
  intro w a b v u Q E ok ra rb h
  unfold dEqP at h
  cases e1 : dat w.S 60 a with
  | none => rw [e1] at h; exact h.elim
  | some d =>
    cases e2 : dat w.S 60 b with
    | none => rw [e1, e2] at h; exact h.elim
    | some e =>
      rw [e1, e2] at h
      unfold eqPR at h
      dsimp only at h
      split at h
      · rename_i hs
        exact ⟨d, e, dat_dp ok _ _ _ _ ra e1, dat_dp ok _ _ _ _ rb e2, hs.1, hs.2, Fin.now h ok mk_bl⟩
      · exact h.elim
/-- lists of numbers -/
theorem datL_ints (S : Sto) (n : Nat) : ∀ ns : List Int, datL (dat S n) (ns.map D.int) = some (ns.map PyData.int)
  | [] => rfl
  | i :: ns => by
    have e : dat S n (.int i) = some (.int i) := by cases n <;> rfl
    rw [List.map_cons, List.map_cons]
    unfold datL
    rw [e, datL_ints S n ns]
theorem shaped_ints : ∀ ns : List Int, PySem.SeqAt.shaped (.list (ns.map PyData.int)) = true := by
  intro ns
  have h1 : ∀ ms : List Int, PyData.canLayAll0 (ms.map PyData.int) = true := fun ms => by
    induction ms with
    | nil => rfl
    | cons i ms ih => rw [List.map_cons, PyData.canLayAll0, ih]; rfl
  have h2 : ∀ ms : List Int, PyData.depthAll (ms.map PyData.int) = 0 := fun ms => by
    induction ms with
    | nil => rfl
    | cons i ms ih => rw [List.map_cons, PyData.depthAll, ih]; rfl
  unfold PySem.SeqAt.shaped
  rw [Bool.and_eq_true]
  refine ⟨by rw [PyData.canLay0]; exact h1 ns, decide_eq_true ?_⟩
  rw [PyData.depth, h2]
  decide
theorem eqvAll_ints : ∀ ns ms : List Int, PyData.eqvAll (ns.map PyData.int) (ms.map PyData.int) = decide (ns = ms)
  | [], [] => rfl
  | [], _ :: _ => rfl
  | _ :: _, [] => rfl
  | i :: ns, j :: ms => by
    rw [List.map_cons, List.map_cons, PyData.eqvAll, eqvAll_ints ns ms, PyData.eqv]
    rw [Bool.eq_iff_iff, Bool.and_eq_true, beq_iff_eq, decide_eq_true_eq, decide_eq_true_eq, List.cons.injEq]
theorem eqP_ints {S : Sto} {n m : Nat} {ns ms : List Int} (neg : Bool) (h1 : lstOf S n = some (ns.map D.int)) (h2 : lstOf S m = some (ms.map D.int)) : dEqP neg (.obj n) (.obj m) S = .ok (.bl (if neg then !decide (ns = ms) else decide (ns = ms))) S := by
  have e : ∀ {n : Nat} {ns : List Int}, lstOf S n = some (ns.map D.int) → dat S 60 (.obj n) = some (.list (ns.map PyData.int)) := fun {n ns} h => by
    show ((lstOf S n).bind (datL (dat S 59))).map PyData.list = _
    rw [h, Option.bind_some, datL_ints]
    rfl
  unfold dEqP
  rw [e h1, e h2]
  unfold eqPR
  dsimp only
  rw [if_pos ⟨shaped_ints ns, shaped_ints ms⟩, PyData.eqv, eqvAll_ints]
/-- lists of truth values -/
theorem datL_bls (S : Sto) (n : Nat) : ∀ ns : List Bool, datL (dat S n) (ns.map D.bl) = some (ns.map PyData.bool)
  | [] => rfl
  | i :: ns => by
    have e : dat S n (.bl i) = some (.bool i) := by cases n <;> rfl
    rw [List.map_cons, List.map_cons]
    unfold datL
    rw [e, datL_bls S n ns]
theorem shaped_bls : ∀ ns : List Bool, PySem.SeqAt.shaped (.list (ns.map PyData.bool)) = true := by
  intro ns
  have h1 : ∀ ms : List Bool, PyData.canLayAll0 (ms.map PyData.bool) = true := fun ms => by
    induction ms with
    | nil => rfl
    | cons i ms ih => rw [List.map_cons, PyData.canLayAll0, ih]; rfl
  have h2 : ∀ ms : List Bool, PyData.depthAll (ms.map PyData.bool) = 0 := fun ms => by
    induction ms with
    | nil => rfl
    | cons i ms ih => rw [List.map_cons, PyData.depthAll, ih]; rfl
  unfold PySem.SeqAt.shaped
  rw [Bool.and_eq_true]
  refine ⟨by rw [PyData.canLay0]; exact h1 ns, decide_eq_true ?_⟩
  rw [PyData.depth, h2]
  decide
theorem eqvAll_bls : ∀ ns ms : List Bool, PyData.eqvAll (ns.map PyData.bool) (ms.map PyData.bool) = decide (ns = ms)
  | [], [] => rfl
  | [], _ :: _ => rfl
  | _ :: _, [] => rfl
  | i :: ns, j :: ms => by
    rw [List.map_cons, List.map_cons, PyData.eqvAll, eqvAll_bls ns ms, PyData.eqv]
    rw [Bool.eq_iff_iff, Bool.and_eq_true, beq_iff_eq, decide_eq_true_eq, decide_eq_true_eq, List.cons.injEq]
theorem eqP_bls {S : Sto} {n m : Nat} {ns ms : List Bool} (neg : Bool) (h1 : lstOf S n = some (ns.map D.bl)) (h2 : lstOf S m = some (ms.map D.bl)) : dEqP neg (.obj n) (.obj m) S = .ok (.bl (if neg then !decide (ns = ms) else decide (ns = ms))) S := by
  have e : ∀ {n : Nat} {ns : List Bool}, lstOf S n = some (ns.map D.bl) → dat S 60 (.obj n) = some (.list (ns.map PyData.bool)) := fun {n ns} h => by
    show ((lstOf S n).bind (datL (dat S 59))).map PyData.list = _
    rw [h, Option.bind_some, datL_bls]
    rfl
  unfold dEqP
  rw [e h1, e h2]
  unfold eqPR
  dsimp only
  rw [if_pos ⟨shaped_bls ns, shaped_bls ms⟩, PyData.eqv, eqvAll_bls]
/-! ## << >> & | -/
def dShl : D → D → Sto → Res D
  | .int i, .int j, S => if 0 ≤ j ∧ j ≤ 1000000 ∧ i.natAbs < 2 ^ 64 then .ok (.int (i * 2 ^ j.toNat)) S else .bad
  | _, _, _ => .bad
theorem o_shl : Op2 K mg (rI CPow fun i j => .int (i * 2 ^ j.toNat)) dShl := by
  intro w a b v u Q E ok ra rb h
  unfold dShl at h
  split at h
  · rw [ra.int, rb.int]
    split at h
    · rename_i hc
      exact ⟨_, _, rfl, rfl, hc, Fin.now h ok mk_int⟩
    · exact h.elim
  · exact h.elim
def dShr : D → D → Sto → Res D
  | .int i, .int j, S => if 0 ≤ j then .ok (.int (i / 2 ^ j.toNat)) S else .bad
  | _, _, _ => .bad
theorem o_shr : Op2 K mg (rI (fun _ j => 0 ≤ j) fun i j => .int (i / 2 ^ j.toNat)) dShr := by
  intro w a b v u Q E ok ra rb h
  unfold dShr at h
  split at h
  · rw [ra.int, rb.int]
    split at h
    · rename_i hc
      exact ⟨_, _, rfl, rfl, hc, Fin.now h ok mk_int⟩
    · exact h.elim
  · exact h.elim
def dAndI : D → D → Sto → Res D
  | .int i, .int j, S => .ok (.int (PySem.Builtin.bitAnd i j)) S
  | _, _, _ => .bad
theorem o_andI : Op2 K mg (rI0 fun i j => .int (PySem.Builtin.bitAnd i j)) dAndI := by
  intro w a b v u Q E ok ra rb h
  unfold dAndI at h
  split at h
  · rw [ra.int, rb.int]
    exact ⟨_, _, rfl, rfl, Fin.now h ok mk_int⟩
  · exact h.elim
def dOrI : D → D → Sto → Res D
  | .int i, .int j, S => .ok (.int (PySem.Builtin.bitOr i j)) S
  | _, _, _ => .bad
theorem o_orI : Op2 K mg (rI0 fun i j => .int (PySem.Builtin.bitOr i j)) dOrI := by
  intro w a b v u Q E ok ra rb h
  unfold dOrI at h
  split at h
  · rw [ra.int, rb.int]
    exact ⟨_, _, rfl, rfl, Fin.now h ok mk_int⟩
  · exact h.elim
end
/-! ## o.f op= e -/
section
variable {X : Cx} {W : WX} {pos tpos : Pos} {o value : Expr} {f C : Str} {Ca : Addr} {da dv : DE}
def augF2 (C f : Str) (g : D → D → Sto → Res D) (dv : DE) (n : Nat) (ρ : Env) (x : D) (S1 : Sto) : RS := bindR (fun y ρ S2 => bindR (fun z ρ S3 => setFO C f z ρ S3 n S3[n]?) ρ (g x y S2)) ρ (dv ρ S1)
def augFO (C f : Str) (g : D → D → Sto → Res D) (dv : DE) (n : Nat) (ρ : Env) (S1 : Sto) : Option Ob → RS
  | some (.ins C' fs) => if C' = C then (match fldL fs f with | some x => augF2 C f g dv n ρ x S1 | none => .bad) else .bad
  | _ => .bad
def augF1 (C f : Str) (g : D → D → Sto → Res D) (dv : DE) : D → Env → Sto → RS
  | .obj n, ρ, S1 => augFO C f g dv n ρ S1 S1[n]?
  | _, _, _ => .bad
def dAugF (C f : Str) (g : D → D → Sto → Res D) (da dv : DE) (ρ : Env) (S : Sto) : RS := bindR (augF1 C f g dv) ρ (da ρ S)
def OpIn (K : PySem.W.Frag) (mg : Str → Option Value) (rd : V → V → Hp → VK → Prop) (g : D → D → Sto → Res D) : Prop := ∀ (w : Wo) (a b : D) (v u : V) (Q : VK) (E : Str → List (Str × D) → Wo → Prop), w.Ok K mg → Rv K mg w a v → Rv K mg w b u → Fin K mg w (Rv K mg) (g a b w.S) Q E → rd v u w.H Q
def dAdd2 : D → D → Sto → Res D
  | .int i, .int j, S => .ok (.int (i + j)) S
  | _, _, _ => .bad
theorem on_add {K : PySem.W.Frag} {mg : Str → Option Value} : OpIn K mg rAdd dAdd2 := by
  intro w a b v u Q E ok ra rb h
  unfold dAdd2 at h
  split at h
  · rw [ra.int, rb.int]
    exact ⟨_, _, rfl, rfl, Fin.now h ok mk_int⟩
  · exact h.elim
theorem ls_augF {op : Operator} {rd : V → V → Hp → VK → Prop} {g : D → D → Sto → Res D} (T : ClsT X.K X.mg C Ca) (n : NoAttr X.K Ca f) (hop : InOp X op rd) (oi : OpIn X.K X.mg rd g) (ha : PE X o (LE X.K X.mg W da)) (hv : PE X value (LE X.K X.mg W dv)) :
    PS X (.AugAssign (.Attribute o f tpos) op value pos) (LS X.K X.mg W (dAugF C f g da dv)) := (ps_fldaug ha hv hop).imp fun D' σ H h => by
  obtain ⟨w, ok, rfl, ρ, rr, h⟩ := h
  refine ⟨w, ok, rfl, ρ, rr, FinS.ofBind ok rr h fun w1 d v le1 ok1 r1 rr1 h1 => ?_⟩
  cases d with
  | obj i =>
    obtain ⟨hi, rfl⟩ := r1.obj
    have h2 : FinS X.K X.mg W w1 (augFO C f g dv i ρ w1.S w1.S[i]?) D' := h1
    clear h1
    cases e1 : w1.S[i]? with
    | none => rw [e1] at h2; exact h2.elim
    | some ob =>
      rw [e1] at h2
      cases ob with
      | ins C' fs =>
        unfold augFO at h2
        dsimp only at h2
        by_cases hC : C' = C
        · rw [if_pos hC] at h2
          subst hC
          obtain ⟨dx, vs, hH, r⟩ := ins_at ok1 e1 T
          cases e2 : fldL fs f with
          | none => rw [e2] at h2; exact h2.elim
          | some x =>
            rw [e2] at h2
            obtain ⟨u, hu, ru⟩ := (r.fld f).1 x e2
            have h2 : FinS X.K X.mg W w1 (augF2 C' f g dv i ρ x w1.S) D' := h2
            refine ⟨_, Ca, dx, vs, u, rfl, hH, T.c, n, hu, w1, ok1, rfl, ρ, rr1, FinS.ofBind ok1 rr1 h2 fun w2 y v2 le2 ok2 r2 rr2 h3 => ?_⟩
            refine oi w2 x y u v2 _ (XW X.K X.mg W σ) ok2 (ru.up ok1 le2) r2 (FinS.ofBind ok2 rr2 h3 fun w3 z v3 le3 ok3 r3 rr3 h4 => ?_)
            have hi3 : i < w3.S.length := Nat.lt_of_lt_of_le (Nat.lt_of_lt_of_le hi le2.len) le3.len
            have em : w3.m i = w1.m i := (le3.ag i (Nat.lt_of_lt_of_le hi le2.len)).trans (le2.ag i hi)
            cases e5 : w3.S[i]? with
            | none => rw [e5] at h4; exact h4.elim
            | some ob3 =>
              rw [e5] at h4
              cases ob3 with
              | ins C3 fs3 =>
                unfold setFO at h4
                dsimp only at h4
                by_cases hc3 : C3 = C' ∧ fs3.length < 1000
                · rw [if_pos hc3] at h4
                  obtain ⟨rfl, hl⟩ := hc3
                  obtain ⟨dx3, vs3, hH3, r5⟩ := ins_at ok3 e5 T
                  rw [em] at hH3
                  refine ⟨dx3, vs3, hH3, by rw [r5.len]; exact hl, ?_⟩
                  have q := h4 (w3.put i _ _) σ (Wo.put_le hi3) (Wo.putIns (vs := L2.putF f v3 vs3) (dx := dx3) ok3 hi3 T (Rfs.putF f r3 r5)) rfl (rr3.up ok3 (Wo.put_le hi3))
                  show D'.nx σ (upd w3.H (w1.m i) _)
                  rw [← em]
                  exact q
                · rw [if_neg hc3] at h4
                  exact h4.elim
              | _ => exact h4.elim
        · rw [if_neg hC] at h2
          exact h2.elim
      | _ => exact h2.elim
  | _ => exact h1.elim
end
/-! ## x, y = a, b without a tuple -/
section
variable {X : Cx} {W : WX}
def par2K (i j : Nat) (ρ : Env) : List D → Sto → RS
  | [a, b], S => .nx ((ρ.set i (some a)).set j (some b)) S
  | _, _ => .bad
def parR (k : List D → Sto → RS) (ρ : Env) : Res (List D) → RS
  | .ok xs S => k xs S
  | .exc c fs S => .exc c fs ρ S
  | .bad => .bad
def dPar2 (i j : Nat) (da : DA) (ρ : Env) (S : Sto) : RS := parR (par2K i j ρ) ρ (da ρ S)
def par3K (i j l : Nat) (ρ : Env) : List D → Sto → RS
  | [a, b, c], S => .nx (((ρ.set i (some a)).set j (some b)).set l (some c)) S
  | _, _ => .bad
def dPar3 (i j l : Nat) (da : DA) (ρ : Env) (S : Sto) : RS := parR (par3K i j l ρ) ρ (da ρ S)
theorem FinS.ofPar {w : Wo} {r : Res (List D)} {k : List D → Sto → RS} {ρ : Env} {σ : St} {D' : Ends} {P : List V → Hp → Prop} (ok : w.Ok X.K X.mg) (rr : Rσ X.K X.mg w ρ σ) (h : FinS X.K X.mg W w (parR k ρ r) D')
    (hk : ∀ (w' : Wo) (xs : List D) (vs : List V), w.Le w' → w'.Ok X.K X.mg → Rvs X.K X.mg w' xs vs → Rσ X.K X.mg w' ρ σ → FinS X.K X.mg W w' (k xs w'.S) D' → P vs w'.H) : Fin X.K X.mg w (Rvs X.K X.mg) r P (XW X.K X.mg W σ) := by
  cases r with
  | ok d S => exact fun w' v le ok' es r => hk w' d v le ok' r (rr.up ok le) (FinS.up ok' le (by rw [es]; exact h))
  | exc c fs S => exact fun w' le ok' es => h w' σ le ok' es (rr.up ok le)
  | bad => exact h
theorem ls_par2 {i j : Nat} {x y : Str} {a b : Expr} {da : DA} {px py pt pos : Pos} {kt k2 pt2} (hc : X.calm = true) (hN : X.N.Nodup) (hi : X.N[i]? = some x) (hj : X.N[j]? = some y) (hij : i ≠ j)
    (hx : X.env.scope.names.lookup x = some .local) (hy : X.env.scope.names.lookup y = some .local) (ha : PA X [a, b] (LA X.K X.mg W da))
    (hw : swappedStores [.Tuple [.Name x px, .Name y py] kt pt] (.Tuple [a, b] k2 pt2) X.env = pure (some [x, y]))
    (hs : swapsWithSole [.Tuple [.Name x px, .Name y py] kt pt] (.Tuple [a, b] k2 pt2) pos.line X.env = pure false := by rfl) :
    PS X (.Assign [.Tuple [.Name x px, .Name y py] kt pt] (.Tuple [a, b] k2 pt2) pos) (LS X.K X.mg W (dPar2 i j da)) := (ps_par hc hN hi hj hij hx hy ha hw hs).imp fun D' σ H h => by
  obtain ⟨w, ok, rfl, ρ, rr, h⟩ := h
  refine ⟨w, ok, rfl, ρ, rr, FinS.ofPar ok rr h fun w1 xs vs le1 ok1 r1 rr1 h1 => ?_⟩
  unfold par2K at h1
  split at h1
  · obtain ⟨v, u, rfl, rv, ru⟩ := r1.two
    exact ⟨v, u, rfl, h1 w1 _ (Wo.Le.refl _) ok1 rfl ((rr1.set rv i).set ru j)⟩
  · exact h1.elim
theorem ls_par3 {i j l : Nat} {x y z : Str} {a b c : Expr} {da : DA} {px py pz pt pos : Pos} {kt k2 pt2} (hc : X.calm = true) (hN : X.N.Nodup) (hi : X.N[i]? = some x) (hj : X.N[j]? = some y) (hl : X.N[l]? = some z) (hij : i ≠ j) (hil : i ≠ l) (hjl : j ≠ l)
    (hx : X.env.scope.names.lookup x = some .local) (hy : X.env.scope.names.lookup y = some .local) (hz : X.env.scope.names.lookup z = some .local) (ha : PA X [a, b, c] (LA X.K X.mg W da))
    (hw : swappedStores [.Tuple [.Name x px, .Name y py, .Name z pz] kt pt] (.Tuple [a, b, c] k2 pt2) X.env = pure (some [x, y, z]))
    (hs : swapsWithSole [.Tuple [.Name x px, .Name y py, .Name z pz] kt pt] (.Tuple [a, b, c] k2 pt2) pos.line X.env = pure false := by rfl) :
    PS X (.Assign [.Tuple [.Name x px, .Name y py, .Name z pz] kt pt] (.Tuple [a, b, c] k2 pt2) pos) (LS X.K X.mg W (dPar3 i j l da)) := (ps_par3 hc hN hi hj hl hij hil hjl hx hy hz ha hw hs).imp fun D' σ H h => by
  obtain ⟨w, ok, rfl, ρ, rr, h⟩ := h
  refine ⟨w, ok, rfl, ρ, rr, FinS.ofPar ok rr h fun w1 xs vs le1 ok1 r1 rr1 h1 => ?_⟩
  unfold par3K at h1
  split at h1
  · rw [Rvs] at r1
    obtain ⟨v, q, rfl, rv, r2⟩ := r1
    obtain ⟨u, z, rfl, ru, rz⟩ := r2.two
    exact ⟨v, u, z, rfl, h1 w1 _ (Wo.Le.refl _) ok1 rfl (((rr1.set rv i).set ru j).set rz l)⟩
  · exact h1.elim
end
/-! ## a list times a number -/
section
variable {K : PySem.W.Frag} {mg : Str → Option Value}
def mulLR (k : Int) (S : Sto) : Option Ob → Res D
  | some (.lst xs) => if 0 ≤ k ∧ k ≤ 1000000 ∧ xs.length * k.toNat ≤ sizeLine then mkLst (List.replicate k.toNat xs).flatten S else .bad
  | _ => .bad
def dMulL : D → D → Sto → Res D
  | .obj n, .int k, S => mulLR k S S[n]?
  | _, _, _ => .bad
theorem o_mulL : Op2 K mg rRep dMulL := by
  intro w a b v u Q E ok ra rb h
  unfold dMulL at h
  split at h
  · rename_i n k
    obtain ⟨hn, rfl⟩ := ra.obj
    rw [rb.int]
    cases e : w.S[n]? with
    | none => rw [e] at h; exact h.elim
    | some o =>
      rw [e] at h
      cases o with
      | lst xs =>
        unfold mulLR at h
        dsimp only at h
        split at h
        · rename_i hz
          obtain ⟨us, h1, r1⟩ := lst_mut ok e
          refine ⟨_, k, us, rfl, rfl, h1, by omega, by omega, by rw [r1.len]; exact hz.2.2, fun p hp => h.newLst ok hp (r1.rep _)⟩
        · exact h.elim
      | _ => exact h.elim
  · exact h.elim
end

/-! ## xs[::-1] -/
section
variable {K : PySem.W.Frag} {mg : Str → Option Value} {W : WX} {X : Cx}
theorem Rvs.reverse {w : Wo} : ∀ {ds : List D} {vs : List V}, Rvs K mg w ds vs → Rvs K mg w ds.reverse vs.reverse
  | [], vs, h => by
    rw [Rvs] at h
    rw [h]
    exact Rvs.nil
  | d :: ds, vs, h => by
    rw [Rvs] at h
    obtain ⟨v, us, rfl, r1, r2⟩ := h
    rw [List.reverse_cons, List.reverse_cons]
    exact (Rvs.reverse r2).append (Rvs.cons r1 Rvs.nil)
def revO (S : Sto) : Option Ob → Res D
  | some (.lst xs) => mkLst xs.reverse S
  | _ => .bad
def dRev : D → Sto → Res D
  | .obj n, S => revO S S[n]?
  | _, _ => .bad
theorem l_rev {e : Expr} {k : Nat} {p1 p2 p3 pos : Pos} {da : DE} (ha : PE X e (LE X.K X.mg W da)) : PE X (.Subscript e (.Slice none none (some (.UnaryOp .USub (.Constant (.int 1) k p1) p2)) p3) pos) (LE X.K X.mg W (eUn dRev da)) := (pe_revL ha).imp fun _ _ _ h => by
  obtain ⟨w, ok, rfl, ρ, rr, h⟩ := h
  refine ⟨w, ok, rfl, ρ, rr, h.bind fun w1 x v le1 ok1 r1 h1 => ?_⟩
  unfold dRev at h1
  split at h1
  · rename_i n
    obtain ⟨hn, rfl⟩ := r1.obj
    cases e : w1.S[n]? with
    | none => rw [e] at h1; exact h1.elim
    | some o =>
      rw [e] at h1
      cases o with
      | lst xs =>
        obtain ⟨us, h2, r2⟩ := lst_mut ok1 e
        exact ⟨_, us, rfl, .inl (.inl h2), fun p hp => h1.newLst ok1 hp r2.reverse⟩
      | _ => exact h1.elim
  · exact h1.elim
/-! ## list(range(n)) -/
def dLrg : D → Sto → Res D
  | .int j, S => if 0 ≤ j ∧ j ≤ 1000000 then mkLst (rng 0 j.toNat) S else .bad
  | _, _ => .bad
theorem l_listRg {a : Expr} {p pos p2 pos2 : Pos} {da : DE} (hc : X.calm = true) (hg : Gl X "list") (hm : X.mg "list" = none) (hg2 : Gl X "range") (hm2 : X.mg "range" = none) (ha : PE X a (LE X.K X.mg W da))
    (n1 : starEach [a] X.env = (false, eval a X.env) :: starEach [] X.env := by rfl) (n2 : starEach [Expr.Call (.Name "range" p2) [a] [] pos2] X.env = (false, eval (Expr.Call (.Name "range" p2) [a] [] pos2) X.env) :: starEach [] X.env := by rfl) :
    PE X (.Call (.Name "list" p) [.Call (.Name "range" p2) [a] [] pos2] [] pos) (LE X.K X.mg W (eUn dLrg da)) := (pe_listRg hc hg hm (prg_1 hg2 hm2 ha n1) n2).imp fun _ _ _ h => by
  obtain ⟨w, ok, rfl, ρ, rr, h⟩ := h
  refine ⟨w, ok, rfl, ρ, rr, h.bind fun w1 x v le1 ok1 r1 h1 => ?_⟩
  unfold dLrg at h1
  split at h1
  · rename_i j
    split at h1
    · rename_i hj
      refine ⟨j, r1.int, RgOk.of_le (by omega) (by omega) (by omega) (by omega), fun q hq => h1.newLst ok1 hq ?_⟩
      have e := ints_rvs (K := X.K) (mg := X.mg) (w := w1) ((List.range j.toNat).map fun i : Nat => (0 : Int) + (i : Int))
      rw [List.map_map, List.map_map] at e
      unfold rgV rng
      rw [Int.sub_zero]
      exact e
    · exact h1.elim
  · exact h1.elim
end

/-! ### suites that raise nothing -/
def NoXE (de : DE) : Prop := ∀ ρ S c fs S', de ρ S = .exc c fs S' → False
def NoXT (t : DT) : Prop := ∀ ρ S c fs S', t ρ S = .exc c fs S' → False
def NoXS (d : DS) : Prop := ∀ ρ S c fs ρ' S', d ρ S = .exc c fs ρ' S' → False
def NoX2 (f : D → D → Sto → Res D) : Prop := ∀ a b S c fs S', f a b S = .exc c fs S' → False
def NoX1 (f : D → Sto → Res D) : Prop := ∀ a S c fs S', f a S = .exc c fs S' → False
theorem nox_bind {α β : Type} {r : Res α} {k : α → Sto → Res β} (h1 : ∀ c fs S', r = .exc c fs S' → False) (h2 : ∀ a S c fs S', k a S = .exc c fs S' → False) (c : Str) (fs : List (Str × D)) (S' : Sto) (h : r.bind k = .exc c fs S') : False := by
  cases r with
  | ok a S => exact h2 _ _ _ _ _ h
  | exc c fs S => exact h1 _ _ _ rfl
  | bad => cases h
theorem nox_v {i : Nat} : NoXE (eV i) := fun ρ S c fs S' h => by
  unfold eV at h
  cases e : ρ[i]? with
  | none => rw [e] at h; cases h
  | some o => cases o <;> (rw [e] at h; cases h)
theorem nox_c {d : D} : NoXE (eC d) := fun ρ S c fs S' h => by cases h
theorem nox_op {f : D → D → Sto → Res D} {a b : DE} (hf : NoX2 f) (ha : NoXE a) (hb : NoXE b) : NoXE (eOp f a b) := fun ρ S c fs S' h =>
  nox_bind (ha ρ S) (fun x S1 c fs S' h => nox_bind (hb ρ S1) (fun y S2 c fs S' h => hf x y S2 c fs S' h) c fs S' h) c fs S' h
theorem nox_un {f : D → Sto → Res D} {a : DE} (hf : NoX1 f) (ha : NoXE a) : NoXE (eUn f a) := fun ρ S c fs S' h => nox_bind (ha ρ S) (fun x S1 c fs S' h => hf x S1 c fs S' h) c fs S' h
theorem nox_t {a : DE} (ha : NoXE a) : NoXT (eT a) := fun ρ S c fs S' h => nox_bind (ha ρ S) (fun x S1 c fs S' h => by cases x <;> cases h) c fs S' h
theorem nox_ret {a : DE} (ha : NoXE a) : NoXS (dRet a) := fun ρ S c fs ρ' S' h => by
  unfold dRet dBind at h
  cases e : a ρ S with
  | ok d S1 => rw [e] at h; cases h
  | exc c fs S1 => exact ha _ _ _ _ _ e
  | bad => rw [e] at h; cases h
theorem nox_next : NoXS dNext := fun ρ S c fs ρ' S' h => by cases h
theorem nox_if {t : DT} {a b : DS} (ht : NoXT t) (ha : NoXS a) (hb : NoXS b) : NoXS (dIfS t a b) := fun ρ S c fs ρ' S' h => by
  unfold dIfS at h
  cases e : t ρ S with
  | ok x S1 =>
    rw [e] at h
    cases x
    · exact hb _ _ _ _ _ _ h
    · exact ha _ _ _ _ _ _ h
  | exc c fs S1 => exact ht _ _ _ _ _ e
  | bad => rw [e] at h; cases h
theorem nox_eq : NoX2 dEq := fun a b S c fs S' h => by
  rcases dEq_sc (a := a) (b := b) (S := S) with e | ⟨x, y, _, _, _, e⟩ <;> (rw [e] at h; cases h)
theorem nox_ne : NoX2 dNe := fun a b S c fs S' h => nox_bind (nox_eq a b S) (fun x S1 c fs S' h => by cases x <;> cases h) c fs S' h
theorem nox_ix : NoX2 dIx := fun a b S c fs S' h => by
  unfold dIx at h
  split at h <;> first | (cases h; done) | (split at h <;> first | (cases h; done) | (split at h <;> cases h))
theorem nox_use {d : DS} (hd : NoXS d) : ∀ ρ S, ∀ c fs ρ' S', d ρ S ≠ .exc c fs ρ' S' := fun ρ S c fs ρ' S' h => hd ρ S c fs ρ' S' h
/-! ### a, b = a list -/
def tgL (n : Nat) (gs : DGs) : DG
  | .obj m, ρ, S => match lstOf S m with
    | some ds => if ds.length = n then gs ds ρ S else none
    | none => none
  | _, _, _ => none
section
variable {K : PySem.W.Frag} {mg : Str → Option Value}
theorem g_unl {vs : List Nat} {n : Nat} {gs : DGs} {u : TGs} (h : GsOk K mg vs gs u) : GOk K mg vs (tgL n gs) (gUnl K n u) := by
  intro w d v ρ ρ' σ Q ok rr r e k
  cases d with
  | obj m =>
    unfold tgL at e
    dsimp only at e
    cases em : lstOf w.S m with
    | none => rw [em] at e; cases e
    | some ds =>
      rw [em] at e
      dsimp only at e
      by_cases hl : ds.length = n
      · rw [if_pos hl] at e
        obtain ⟨xs, t, r2⟩ := lst_at ok em
        have rv : v = .ref (w.m m) := by rw [Rv] at r; exact r.2
        exact ⟨_, xs, rv, t, by rw [r2.len]; exact hl, h w _ xs ρ ρ' σ Q ok rr r2 e k⟩
      · rw [if_neg hl] at e
        cases e
  | _ => cases e
end

/-! ### {e for x in xs} of numbers -/
open PpSet (newSet_ok compLoopS_any codeAny_compStart_set eval_SetComp) in
section
def tSci (w : World) (wi : TI) (g : TG) (tt : TT) (te : TE) (vs : List Nat) : TE := fun σ H Q =>
  wi σ H fun J H1 => ∀ D, H1 D = none →
    ∃ W : Nat → Nat → Hp → Prop, (∃ m, W 0 m (upd H1 D (SetO w D (fun _ => false) 0))) ∧
      ∀ i m H, W i m H → (J.stop i H ∧ Q (.ref D) H) ∨
        (J.go i H ∧ ∃ Nx : Hp → Prop, (∀ H', Nx H' → ∃ m', m' < m ∧ W (i + 1) m' H') ∧
          ∀ x H', J.yld i H x H' → g x (wipe σ vs) H' fun σ2 H2 => wipe σ2 vs = wipe σ vs ∧ tt σ2 H2 fun b H3 =>
            if b = true then te σ2 H3 fun y H4 => ∃ (c : Int) (S : Int → Bool) (n : Nat), y = .int c ∧ H4 D = some (SetO w D S n) ∧ n + 1 < scanBound ∧
              Nx (upd H4 D (SetO w D (fun j => S j || decide (j = c)) (if S c = true then n else n + 1)))
            else Nx H3)
theorem sci_core {X : Cx} {pins : List (Addr × Obj)} {s : Shared} {σ : St} {H : Hp} {Q : VK} {elt tg iter : Expr} {ifs : List Expr} {scope : Scope} {own : List (Str × Nat)} {pos pos' : Pos} {wi : TI} {g : TG} {tt : TT} {te : TE} {use : Option (Value → Sem Unit)} {Qf : Value → Shared → Prop}
    (hc : X.calm = true) (hN : X.N.Nodup) (I : Inv X pins σ H s) (hi : PI X tg iter wi) (ok : BlkOk X.N X.env.scope scope own)
    (hg : ∀ (s : Shared) (H : Hp) (C : Addr) (cl : List (Str × Addr)) (fp : List Addr), PG (X.blk s H scope (compEnvC scope cl C X.env) fp) tg g)
    (ht : ∀ (s : Shared) (H : Hp) (C : Addr) (cl : List (Str × Addr)) (fp : List Addr), PTs (X.blk s H scope (compEnvC scope cl C X.env) fp) ifs tt)
    (he : ∀ (s : Shared) (H : Hp) (C : Addr) (cl : List (Str × Addr)) (fp : List Addr), PE (X.blk s H scope (compEnvC scope cl C X.env) fp) elt te)
    (hs : ∀ x : Value, foldedSetIterable iter X.env x = pure x) (h : tSci X.w wi g tt te (own.map (·.2)) σ H Q)
    (hRR : ∀ (D C : Addr) (s' : Shared) (m : Str → Option Value) (H' : Hp), Inv X pins σ H' s' → Q (.ref D) H' → s'.heap.Ns C m → FpOk X pins H' C → compPost (model X.prog X.w) X.A X.xe use Qf (.ref D) C (.ok .next) s') :
    wpAny (model X.prog X.w) X.A (comprehension (.SetComp elt [⟨tg, iter, ifs, 0⟩] scope pos) scope X.env pos' (newSet (.type "set")) false (eval iter X.env) use) Qf X.xe s := by
  refine wpAny_comprehension_free rfl hs (closure_ok fun y hy e => (ok.free y hy e).elim (fun k => I.ok.has y.1 (Or.inl k)) fun k => I.ok.has y.1 (Or.inr k)) ok.kind (fun y hy e => by rw [ok.uniq y hy, e]) ?_
  refine thn (hi.run pins s σ H _ I h) fun xv s1 hx => thn hx fun itv s2 h2 => ?_
  obtain ⟨it, fp, tn, J, H2, e, I2, T, st2, f2, q⟩ := h2
  subst e
  refine newSet_ok (newEnv_comp ?_)
  have hDn := HOk.fresh I2.hok (Nat.le_refl s2.heap.objs.size)
  obtain ⟨W, ⟨m0, w0⟩, turn⟩ := q s2.heap.objs.size hDn
  have I3 := Inv.laid (t' := s2.toks) I2 (fun b o e => Heap.get?_push_of_some _ e) (Nat.le_refl s2.heap.objs.size) (setO_new (P := X.prog) (H := upd H2 s2.heap.objs.size (SetO X.w s2.heap.objs.size (fun _ => false) 0)) (setR_fresh (h := s2.heap) X.w))
  have sz : ∀ b, b ∈ fp → b < s2.heap.objs.size := fun b hb => by
    obtain ⟨o, e, _⟩ := T.obj 0 s2.heap st2 b hb
    exact Heap.lt_size e
  generalize hS3 : ({ heap := s2.heap.push { cls := Value.type "set", data := Data.set #[] 0 (SetTable.fresh 0 0 !X.w.params.followText "set-order") }, gens := s2.gens, drawn := s2.drawn, toks := s2.toks, os := s2.os } : Shared) = S3 at I3 ⊢
  have h3 : S3.heap = s2.heap.push { cls := Value.type "set", data := Data.set #[] 0 (SetTable.fresh 0 0 !X.w.params.followText "set-order") } := by rw [← hS3]
  have f3 : ∀ b, b ∈ fp → FpOk X pins (upd H2 s2.heap.objs.size (SetO X.w s2.heap.objs.size (fun _ => false) 0)) b ∧ b < S3.heap.objs.size := fun b hb => by
    have hlt := sz b hb
    refine ⟨⟨?_, (f2 b hb).2⟩, ?_⟩
    · rw [upd_ne (Nat.ne_of_lt hlt)]
      exact (f2 b hb).1
    · rw [h3, Heap.size_push]
      exact Nat.lt_succ_of_lt hlt
  have st3 := T.keep 0 s2.heap S3.heap st2 fun b x o e => by
    rw [h3]
    exact Heap.get?_push_of_some _ e
  generalize hH3 : upd H2 s2.heap.objs.size (SetO X.w s2.heap.objs.size (fun _ => false) 0) = H3 at *
  generalize hDD : s2.heap.objs.size = DD at *
  have I4 := block_start I3 ok hN f3
  have pg := hg S3 H3 S3.heap.objs.size (cellsFrom (S3.heap.objs.size + 1) scope.names (cloFrom X.env.cells scope.names [])) fp
  have pt := ht S3 H3 S3.heap.objs.size (cellsFrom (S3.heap.objs.size + 1) scope.names (cloFrom X.env.cells scope.names [])) fp
  have pe := he S3 H3 S3.heap.objs.size (cellsFrom (S3.heap.objs.size + 1) scope.names (cloFrom X.env.cells scope.names [])) fp
  have nfp : ∀ b, b ∈ fp → H3 b = none := fun b hb => (f3 b hb).1.1
  change codeAny (model X.prog X.w) X.A (Code.compStart (.SetComp elt [⟨tg, iter, ifs, 0⟩] scope pos) 0 (.ref it) (.ref DD) (compEnvC scope (cellsFrom (S3.heap.objs.size + 1) scope.names (cloFrom X.env.cells scope.names [])) S3.heap.objs.size X.env)) (compPost (model X.prog X.w) X.A X.xe use Qf (.ref DD) S3.heap.objs.size) { heap := pushCells (S3.heap.push { cls := .type "dict", data := .dict #[] }) scope.names, gens := S3.gens, drawn := S3.drawn, toks := S3.toks, os := S3.os }
  have cL : (compEnvC scope (cellsFrom (S3.heap.objs.size + 1) scope.names (cloFrom X.env.cells scope.names [])) S3.heap.objs.size X.env).locals = S3.heap.objs.size := rfl
  generalize compEnvC scope (cellsFrom (S3.heap.objs.size + 1) scope.names (cloFrom X.env.cells scope.names [])) S3.heap.objs.size X.env = ce at I4 pg pt pe cL ⊢
  generalize hs4 : ({ heap := pushCells (S3.heap.push { cls := .type "dict", data := .dict #[] }) scope.names, gens := S3.gens, drawn := S3.drawn, toks := S3.toks, os := S3.os } : Shared) = s4 at I4 ⊢
  have st4 : tn 0 s4.heap := T.keep 0 S3.heap s4.heap st3 fun b x o e => by
    rw [← hs4]
    exact pushCells_keeps scope.names _ b o (Heap.get?_push_of_some _ e)
  have stat : ∀ {σ' : St} {H' : Hp} {s' : Shared}, Inv (X.blk S3 H3 scope ce fp) [] σ' H' s' → (∀ b, b ∈ fp → H' b = none) → ∀ b, b ∈ fp → FpOk (X.blk S3 H3 scope ce fp) [] H' b := fun I' hn b hb =>
    ⟨hn b hb, (I'.ok.exf b hb).1, I'.ok.exfs b hb, .inl hb, fun x c e => (I'.ok.exf b hb).2 x c e, fun p hp => by
      have hp : p ∈ ([] : List (Addr × Obj)) := hp
      cases hp⟩
  refine (fun loop => codeAny_compStart_set loop (T.self X.A 0 s4 _ _ st4 loop)) (compLoopS_any (fun n s' => ∃ (i : Nat) (H' : Hp), Inv (X.blk S3 H3 scope ce fp) [] (wipe σ (own.map (·.2))) H' s' ∧ tn i s'.heap ∧ (∀ b, b ∈ fp → H' b = none) ∧ W i n H') ?_ m0 ⟨0, H3, I4, st4, nfp, w0⟩)
  rintro n s5 ⟨i, H5, I5, st5, n5, w5⟩
  rcases turn i n H5 w5 with ⟨stop, qq⟩ | ⟨go, Nx, hNx, step⟩
  · have td := T.done (X.blk S3 H3 scope ce fp) rfl rfl rfl hc i [] s5 (wipe σ (own.map (·.2))) H5 (fun _ _ => False) I5 (stat I5 n5) st5 stop
    refine thnF td fun r s6 x => ?_
    obtain ⟨rfl, I6⟩ := x
    have I7 := Inv.call' I3 I6.os I6.base I6.hok I6.bare fun b hb => ⟨(f3 b hb).1.2.2.2.1, (f3 b hb).1.2.1, (f3 b hb).1.2.2.2.2.1, (f3 b hb).1.2.2.2.2.2⟩
    have nC : H5 S3.heap.objs.size = none := by
      have z := I6.free
      have z : H5 ce.locals = none := z
      rw [cL] at z
      exact z
    obtain ⟨m, hn, _⟩ := I6.loc
    have hn : s6.heap.Ns ce.locals m := hn
    rw [cL] at hn
    exact hRR DD S3.heap.objs.size s6 m H5 I7 qq hn (Inv.fpOk I3 (Nat.le_refl _) nC)
  · have ti := T.item (X.blk S3 H3 scope ce fp) rfl rfl rfl hc i [] s5 (wipe σ (own.map (·.2))) H5 (fun _ _ => False) I5 (stat I5 n5) st5 go
    refine thnF ti fun r s6 x => ?_
    obtain ⟨u, rfl, h6⟩ := x
    refine thnF h6 fun x s7 x_1 => ?_
    obtain ⟨x, H7, I7, r7, y7, st7, n7⟩ := x_1
    have I7' := Inv.pinned I7 (stat I7 n7) (T.obj (i + 1) s7.heap st7)
    refine thnF (pg.run ([] ++ pinsAt fp s7.heap) s7 (wipe σ (own.map (·.2))) H7 x u _ I7' r7 (step x H7 y7)) fun x s8 x_2 => ?_
    obtain ⟨σ8, H8, I8, hw8, q8⟩ := x_2
    refine thnF (pt.run ([] ++ pinsAt fp s7.heap) s8 σ8 H8 _ I8 q8) fun b s9 x => ?_
    obtain ⟨H9, I9, q9⟩ := x
    have fin : ∀ {s' : Shared} {H' : Hp}, Inv (X.blk S3 H3 scope ce fp) ([] ++ pinsAt fp s7.heap) σ8 H' s' → Nx H' → ∃ m, m < n ∧ ∃ (i : Nat) (H' : Hp), Inv (X.blk S3 H3 scope ce fp) [] (wipe σ (own.map (·.2))) H' s' ∧ tn i s'.heap ∧ (∀ b, b ∈ fp → H' b = none) ∧ W i m H' := fun {s' H'} I' nx => by
      obtain ⟨m', hm, w'⟩ := hNx _ nx
      have pin' : ∀ b, b ∈ fp → ∀ o, s7.heap.get? b = some o → s'.heap.get? b = some o ∧ H' b = none := fun b hb o e => by
        have z := I'.pin (b, o) (List.mem_append_right _ (List.mem_append_right [] (mem_pinsAt hb e)))
        exact ⟨z.1, z.2.1⟩
      have hl : (wipe σ (own.map (·.2))).length = σ8.length := by rw [← hw8, wipe_length]
      exact ⟨m', hm, i + 1, _, Inv.weak (Inv.unpinned I') hl fun j v e => (wipe_some (by rw [hw8]; exact e)).1, T.keep (i + 1) s7.heap s'.heap st7 fun b hb o e => (pin' b hb o e).1, fun b hb => by
        obtain ⟨o, e, _⟩ := T.obj (i + 1) s7.heap st7 b hb
        exact (pin' b hb o e).2, w'⟩
    cases b with
    | false =>
      rw [if_neg (by decide)] at q9 ⊢
      exact fin I9 q9
    | true =>
      rw [if_pos rfl] at q9 ⊢
      refine thnF (pe.run ([] ++ pinsAt fp s7.heap) s9 σ8 H9 _ I9 q9) fun z s10 x => ?_
      obtain ⟨yv, H10, I10, r10, cb, S0, n0, rfl, hD10, hz10, nx⟩ := x
      refine thnF (mt_sadd (X := X.blk S3 H3 scope ce fp) ([] ++ pinsAt fp s7.heap) s10 σ8 H10 (.ref DD) [.int cb] (.ref DD) [z] (fun _ H => Nx H) I10 rfl (Paired.cons r10 Paired.nil) ⟨DD, cb, S0, n0, rfl, rfl, hD10, hz10, nx⟩) fun v s11 e => ?_
      obtain ⟨_, H11, I11, _, nx⟩ := e
      exact fin I11 nx
theorem pe_sci {X : Cx} {elt tg iter : Expr} {ifs : List Expr} {scope : Scope} {own : List (Str × Nat)} {pos : Pos} {wi : TI} {g : TG} {tt : TT} {te : TE}
    (hc : X.calm = true) (hN : X.N.Nodup) (hi : PI X tg iter wi) (ok : BlkOk X.N X.env.scope scope own)
    (hg : ∀ (s : Shared) (H : Hp) (C : Addr) (cl : List (Str × Addr)) (fp : List Addr), PG (X.blk s H scope (compEnvC scope cl C X.env) fp) tg g)
    (ht : ∀ (s : Shared) (H : Hp) (C : Addr) (cl : List (Str × Addr)) (fp : List Addr), PTs (X.blk s H scope (compEnvC scope cl C X.env) fp) ifs tt)
    (he : ∀ (s : Shared) (H : Hp) (C : Addr) (cl : List (Str × Addr)) (fp : List Addr), PE (X.blk s H scope (compEnvC scope cl C X.env) fp) elt te)
    (hs : ∀ x : Value, foldedSetIterable iter X.env x = pure x := by intro x; rfl) : PE X (.SetComp elt [⟨tg, iter, ifs, 0⟩] scope pos) (tSci X.w wi g tt te (own.map (·.2))) := by
  refine ⟨fun pins s σ H Q I h => ?_⟩
  rw [eval_SetComp]
  refine sci_core hc hN I hi ok hg ht he hs h fun D C s' m H' I' q hn f => ?_
  obtain ⟨f0, f1, f2, f3, f4, f5⟩ := f
  exact ⟨m, hn, fun h'' sb => ⟨.ref D, H', Inv.turned I' (fun b o hb e => (sb.2 b hb).trans e) f0 f1 f3 f4 f5, rfl, q⟩⟩
end
section
variable {K : PySem.W.Frag} {mg : Str → Option Value}
/-- an untracked set changes -/
theorem Wo.hidx_sqt {w : Wo} {p : Addr} {xs ys : Heap → Prop} (hp : w.H p = some (.ext xs)) {a : Addr} {zs : List V} (t : SqT K w.H a zs) : SqT K (upd w.H p (.ext ys)) a zs := by
  rcases t with (t | ⟨o, t⟩) | t
  · exact .inl (.inl (by rw [upd_ne (ne_of t hp (by intro z; cases z))]; exact t))
  · exact .inl (.inr ⟨o, by rw [upd_ne (ne_of t hp (by intro z; cases z))]; exact t⟩)
  · exact .inr t
theorem Wo.hidx_sqf {w : Wo} {p : Addr} {xs ys : Heap → Prop} (hp : w.H p = some (.ext xs)) {a : Addr} {zs : List V} (t : SqF K w.H a zs) : SqF K (upd w.H p (.ext ys)) a zs := by
  rcases t with ⟨o, t⟩ | t
  · exact .inl ⟨o, by rw [upd_ne (ne_of t hp (by intro z; cases z))]; exact t⟩
  · exact .inr t
mutual
theorem Wo.hidx_rv {w : Wo} {p : Addr} {xs ys : Heap → Prop} (hp : w.H p = some (.ext xs)) : ∀ (d : D) (v : V), Rv K mg w d v → Rv K mg (w.heap (upd w.H p (.ext ys))) d v
  | .non, v, r => by rw [Rv] at r ⊢; exact r
  | .bl b, v, r => by rw [Rv] at r ⊢; exact r
  | .int i, v, r => by rw [Rv] at r ⊢; exact r
  | .str x, v, r => by rw [Rv] at r ⊢; exact r
  | .tup ds, v, r => by
    rw [Rv] at r ⊢
    obtain ⟨a, vs, e, t, q⟩ := r
    exact ⟨a, vs, e, Wo.hidx_sqt hp t, Wo.hidx_rvs hp ds vs q⟩
  | .obj n, v, r => by rw [Rv] at r ⊢; exact r
  | .fn x, v, r => by rw [Rv] at r ⊢; exact r
  | .ty n, v, r => by rw [Rv] at r ⊢; exact r
  | .raw n, v, r => by rw [Rv] at r ⊢; exact r
  | .kl ds, v, r => by
    rw [Rv] at r ⊢
    obtain ⟨a, vs, e, t, q⟩ := r
    exact ⟨a, vs, e, Wo.hidx_sqf hp t, Wo.hidx_rvs hp ds vs q⟩
  | .tk ks, v, r => by
    rw [Rv] at r ⊢
    obtain ⟨a, e, t⟩ := r
    refine ⟨a, e, ?_⟩
    show upd w.H p (.ext ys) a = some _
    rw [upd_ne fun z => ?_]
    · exact t
    · rw [z, hp] at t
      cases t
theorem Wo.hidx_rvs {w : Wo} {p : Addr} {xs ys : Heap → Prop} (hp : w.H p = some (.ext xs)) : ∀ (ds : List D) (vs : List V), Rvs K mg w ds vs → Rvs K mg (w.heap (upd w.H p (.ext ys))) ds vs
  | [], vs, r => by rw [Rvs] at r ⊢; exact r
  | d :: ds, vs, r => by
    rw [Rvs] at r ⊢
    obtain ⟨v, q, e, r1, r2⟩ := r
    exact ⟨v, q, e, Wo.hidx_rv hp d v r1, Wo.hidx_rvs hp ds q r2⟩
end
theorem Wo.hidx_rkv {κ : Type} {w : Wo} {p : Addr} {xs ys : Heap → Prop} (hp : w.H p = some (.ext xs)) : ∀ {ps : List (κ × D)} {vs : List (κ × V)}, Rkv K mg w ps vs → Rkv K mg (w.heap (upd w.H p (.ext ys))) ps vs
  | [], vs, r => r
  | q :: ps, vs, r => by
    obtain ⟨v, z, e, r1, r2⟩ := r
    exact ⟨v, z, e, Wo.hidx_rv hp _ v r1, Wo.hidx_rkv hp r2⟩
theorem Wo.hidx_rfs {w : Wo} {p : Addr} {xs ys : Heap → Prop} (hp : w.H p = some (.ext xs)) : ∀ {ps : List (Str × D)} {vs : List (Str × V)}, Rfs K mg w ps vs → Rfs K mg (w.heap (upd w.H p (.ext ys))) ps vs
  | [], vs, r => r
  | q :: ps, vs, r => by
    obtain ⟨v, z, e, r1, r2⟩ := r
    exact ⟨v, z, e, Wo.hidx_rv hp _ v r1, Wo.hidx_rfs hp r2⟩
theorem Wo.hidx_ok {w : Wo} (ok : w.Ok K mg) {p : Addr} {xs ys : Heap → Prop} (hp : w.H p = some (.ext xs)) (hn : ∀ i, i < w.S.length → w.m i ≠ p) : (w.heap (upd w.H p (.ext ys))).Ok K mg := by
  refine ⟨ok.inj, fun i o h => ?_⟩
  have r := ok.has i o h
  have hi := hn i (lt_of_get h)
  have keep : ∀ x, w.H (w.m i) = some x → (upd w.H p (.ext ys)) (w.m i) = some x := fun x e => by rw [upd_ne hi]; exact e
  cases o with
  | lst ds =>
    obtain ⟨vs, h1, h2⟩ := r
    exact ⟨vs, keep _ h1, Wo.hidx_rvs hp _ _ h2⟩
  | dk ds =>
    obtain ⟨vs, h1, h2⟩ := r
    exact ⟨vs, keep _ h1, Wo.hidx_rkv hp h2⟩
  | dt ds =>
    obtain ⟨vs, h1, h2⟩ := r
    exact ⟨vs, keep _ h1, Wo.hidx_rkv hp h2⟩
  | ins C fs =>
    obtain ⟨Ca, dx, vs, h0, h1, h2⟩ := r
    exact ⟨Ca, dx, vs, h0, keep _ h1, Wo.hidx_rfs hp h2⟩
  | dn kvs =>
    obtain ⟨xs, h1, h2, h3, h4, h5⟩ := r
    exact ⟨xs, keep _ h1, h2, h3, h4, h5.mono fun d v r => Wo.hidx_rv hp d v r⟩
  | hk ds =>
    obtain ⟨o, vs, h1, h2⟩ := r
    exact ⟨o, vs, keep _ h1, Wo.hidx_rkv hp h2⟩
theorem Wo.hidx_le {w0 w : Wo} (le : w0.Le w) {p : Addr} {ys : Heap → Prop} (h0 : w0.H p = none) : w0.Le (w.heap (upd w.H p (.ext ys))) := by
  refine ⟨le.len, le.ag, fun a x e n => ?_, le.nw, le.hd⟩
  show upd w.H p (.ext ys) a = some x
  rw [upd_ne (ne_of_none e h0)]
  exact le.fr a x e n
end

/-! ### sorted({e for x in xs}) -/
def addI (ks : List Int) (c : Int) : List Int := if c ∈ ks then ks else ks ++ [c]
def dedI (is : List Int) : List Int := is.foldl addI []
theorem addI_mem {ks : List Int} {c k : Int} : k ∈ addI ks c ↔ k ∈ ks ∨ k = c := by
  unfold addI
  split
  · rename_i h
    exact ⟨.inl, fun z => z.elim id fun e => by rw [e]; exact h⟩
  · rw [List.mem_append, List.mem_singleton]
theorem addI_nodup {ks : List Int} {c : Int} (h : ks.Nodup) : (addI ks c).Nodup := by
  unfold addI
  split
  · exact h
  · rename_i hn
    exact List.nodup_append.mpr ⟨h, by simp, fun a ha b hb => by rw [List.mem_singleton.mp hb]; intro z; exact hn (z ▸ ha)⟩
theorem addI_len {ks : List Int} {c : Int} : (addI ks c).length = if c ∈ ks then ks.length else ks.length + 1 := by
  unfold addI
  split
  · rfl
  · rw [List.length_append]; rfl
theorem dedI_snoc (is : List Int) (c : Int) : dedI (is ++ [c]) = addI (dedI is) c := by unfold dedI; rw [List.foldl_append]; rfl
theorem dedI_len (is : List Int) : (dedI is).length ≤ is.length := by
  have key : ∀ (is ks : List Int), (is.foldl addI ks).length ≤ ks.length + is.length := fun is => by
    induction is with
    | nil => intro ks; exact Nat.le_refl _
    | cons c is ih =>
      intro ks
      have h1 := ih (addI ks c)
      have h2 : (addI ks c).length ≤ ks.length + 1 := by rw [addI_len]; split <;> omega
      rw [List.foldl_cons, List.length_cons]
      omega
  have := key is []
  rw [List.length_nil, Nat.zero_add] at this
  exact this
theorem dedI_mem (is : List Int) {k : Int} : k ∈ dedI is ↔ k ∈ is := by
  have key : ∀ (is ks : List Int), k ∈ is.foldl addI ks ↔ k ∈ ks ∨ k ∈ is := fun is => by
    induction is with
    | nil => intro ks; exact ⟨.inl, fun z => z.elim id nofun⟩
    | cons c is ih =>
      intro ks
      rw [List.foldl_cons, ih, addI_mem, List.mem_cons]
      exact ⟨fun z => by rcases z with (z | z) | z; exact .inl z; exact .inr (.inl z); exact .inr (.inr z), fun z => by rcases z with z | z | z; exact .inl (.inl z); exact .inl (.inr z); exact .inr z⟩
  unfold dedI
  rw [key]
  exact ⟨fun z => z.elim nofun id, .inr⟩
theorem dedI_nodup (is : List Int) : (dedI is).Nodup := by
  have key : ∀ (is ks : List Int), ks.Nodup → (is.foldl addI ks).Nodup := fun is => by
    induction is with
    | nil => intro ks h; exact h
    | cons c is ih => intro ks h; exact ih _ (addI_nodup h)
  exact key is [] List.nodup_nil
theorem sortI_set (ks ms : List Int) (nd : ks.Nodup) (asc : ms.Pairwise (· < ·)) (hm : ∀ k, k ∈ ms ↔ k ∈ ks) : ms = sortI ks := by
  have p : ms.Perm ks := (List.perm_ext_iff_of_nodup (asc.imp fun h => by omega) nd).mpr hm
  exact sortI_is ks ms p (asc.imp fun h => by omega)
noncomputable def dSetS (xs : List D) (S : Sto) : Res D := match asInts xs with
  | some is => if is.length < 1000 ∧ (dedI is).length < 64 then mkLst ((sortI (dedI is)).map D.int) S else .bad
  | none => .bad
noncomputable def sEnd : Res (List D) → Res D
  | .ok xs S2 => dSetS xs S2
  | .exc _ _ _ => .bad
  | .bad => .bad
noncomputable def dSetC1 (g : DG) (t : DT) (e : DE) (ρ : Env) : Walked → Sto → Res D
  | (items, still), S1 => sEnd (cLoop still g t e ρ items S1)
noncomputable def dSetC (di : DI) (g : DG) (vs : List Nat) (t : DT) (e : DE) (ρ : Env) (S : Sto) : Res D := (di ρ S).bind (dSetC1 g t e (wipeE ρ vs))

theorem asInts_app : ∀ {xs ys : List D} {is : List Int}, asInts (xs ++ ys) = some is → ∃ ks js, asInts xs = some ks ∧ asInts ys = some js ∧ is = ks ++ js
  | [], ys, is, h => ⟨[], is, rfl, h, rfl⟩
  | x :: xs, ys, is, h => by
    cases x with
    | int i =>
      have h : (asInts (xs ++ ys)).map (i :: ·) = some is := h
      obtain ⟨ms, h1, rfl⟩ := Option.map_eq_some_iff.mp h
      obtain ⟨ks, js, e1, e2, rfl⟩ := asInts_app h1
      refine ⟨i :: ks, js, ?_, e2, rfl⟩
      show (asInts xs).map (i :: ·) = _
      rw [e1]; rfl
    | _ => cases h
theorem asInts_ints : ∀ is : List Int, asInts (is.map D.int) = some is
  | [] => rfl
  | i :: is => by
    show (asInts (is.map D.int)).map (i :: ·) = _
    rw [asInts_ints is]; rfl
section
variable {K : PySem.W.Frag} {mg : Str → Option Value} {W : WX}
theorem i_setc {ww : World} {di : DI} {wi : TI} {g : DG} {tg : TG} {us vs : List Nat} {t : DT} {de : DE} (hi : IOk K mg W di wi) (hg : GOk K mg us g tg) (hu : ∀ i ∈ us, i ∈ vs) {σ : St} {H : Hp} {Q : VK} (h : LE K mg W (dSetC di g vs t de) σ H Q) :
    tCB (rSortedSet ww) (tCons (tSci ww wi tg (LT K mg W0 t) (LE K mg W0 de) vs) tNil) σ H Q := by
  obtain ⟨w, ok, rfl, ρ, rr, h⟩ := h
  show tSci ww wi tg (LT K mg W0 t) (LE K mg W0 de) vs σ w.H (fun x H1 => rSortedSet ww [x] H1 Q)
  refine hi w ρ σ _ ok rr (h.bind fun w1 p J le1 ok1 ri h1 => ?_)
  obtain ⟨items, still⟩ := p
  intro q hq
  have rr1 := (rr.up ok le1).wipe vs
  have base : w1.Le (w1.heap (upd w1.H q (SetO ww q (fun _ => false) 0))) := Wo.new_le hq
  have okb : (w1.heap (upd w1.H q (SetO ww q (fun _ => false) 0))).Ok K mg := Wo.new_ok ok1 hq
  refine ⟨fun i m H => m = items.length - i ∧ i ≤ items.length ∧ ∃ (w2 : Wo) (is : List Int) (xs : List D) (S' : Sto), w1.Le w2 ∧ w2.Ok K mg ∧ w2.H = H ∧ still w2.S ∧ w2.H q = some (SetO ww q (fun j => decide (j ∈ dedI is)) (dedI is).length) ∧ (∀ j, j < w2.S.length → w2.m j ≠ q) ∧
      cLoop still g t de (wipeE ρ vs) (items.drop i) w2.S = .ok xs S' ∧ Fin K mg w1 (Rv K mg) (dSetS (is.map D.int ++ xs) S') Q (XW K mg W σ), ?_, ?_⟩
  · cases e : cLoop still g t de (wipeE ρ vs) items w1.S with
    | bad =>
      unfold dSetC1 at h1
      dsimp only at h1
      rw [e] at h1
      exact h1.elim
    | exc c fs S =>
      unfold dSetC1 at h1
      dsimp only at h1
      rw [e] at h1
      exact h1.elim
    | ok xs S' =>
      unfold dSetC1 at h1
      dsimp only at h1
      rw [e] at h1
      refine ⟨items.length, rfl, Nat.zero_le _, w1.heap (upd w1.H q (SetO ww q (fun _ => false) 0)), [], xs, S', base, okb, rfl, ri.now, ?_, fun j hj z => ?_, e, h1⟩
      · show upd w1.H q (SetO ww q (fun _ => false) 0) q = _
        rw [upd_same]
        rfl
      · obtain ⟨o, h2, _⟩ := ok1.at (show j < w1.S.length from hj)
        have z : w1.m j = q := z
        rw [z, hq] at h2
        cases h2
  · rintro i m H2 ⟨rfl, hil, w2, is, xs, S', le2, ok2, rfl, st2, hl2, hn2, ec, hf⟩
    by_cases hlt : i < items.length
    · have ei := List.getElem?_eq_getElem hlt
      rw [List.drop_eq_getElem_cons hlt] at ec
      generalize items[i] = d at ei ec
      obtain ⟨go, yl⟩ := ri.step w2 i d le2 ok2 st2 ei
      refine .inr ⟨go, fun H' => ∃ (w2 : Wo) (is : List Int) (xs : List D) (S' : Sto), w1.Le w2 ∧ w2.Ok K mg ∧ w2.H = H' ∧ still w2.S ∧ w2.H q = some (SetO ww q (fun j => decide (j ∈ dedI is)) (dedI is).length) ∧ (∀ j, j < w2.S.length → w2.m j ≠ q) ∧
        cLoop still g t de (wipeE ρ vs) (items.drop (i + 1)) w2.S = .ok xs S' ∧ Fin K mg w1 (Rv K mg) (dSetS (is.map D.int ++ xs) S') Q (XW K mg W σ), fun H' n => ⟨items.length - (i + 1), by omega, rfl, hlt, n⟩, fun x H' y => ?_⟩
      obtain ⟨w3, le3, ok3, es3, rfl, r3⟩ := yl x H' y
      -- the hidden set is still there, and still hidden
      have hid : ∀ {wa wb : Wo} {o : HO}, wa.Ok K mg → wa.Le wb → wa.H q = some o → (∀ j, j < wa.S.length → wa.m j ≠ q) → wb.H q = some o ∧ ∀ j, j < wb.S.length → wb.m j ≠ q := fun {wa wb o} oka le hq2 hn => by
        refine ⟨le.fr' _ _ hq2 hn, fun j hj z => ?_⟩
        by_cases hja : j < wa.S.length
        · rw [le.ag j hja] at z
          exact hn j hja z
        · have := le.nw j (Nat.le_of_not_lt hja) hj
          rw [z, hq2] at this
          cases this
      obtain ⟨hl3, hn3⟩ := hid ok2 le3 hl2 hn2
      have le13 := le2.trans ok2 le3
      have rr3 := (rr.up ok (le1.trans ok1 le13)).wipe vs
      unfold cLoop at ec
      rw [← es3] at ec
      cases eg : g d (wipeE ρ vs) w3.S with
      | none => rw [eg] at ec; cases ec
      | some ρ3 =>
        rw [eg] at ec
        refine hg w3 d x _ ρ3 _ _ ok3 rr3 r3 eg fun σ3 rr4 hw => ⟨?_, w3, ok3, rfl, ρ3, rr4, ?_⟩
        · rw [hw vs hu]
          have wip : ∀ us : List Nat, (∀ i ∈ us, i ∈ vs) → L2.wipe (L2.wipe σ us) vs = L2.wipe σ vs := by
            intro us
            induction us with
            | nil => intro _; rfl
            | cons u us ih =>
              intro hus
              show L2.wipe ((L2.wipe σ us).set u none) vs = _
              rw [wipe_set (hus u List.mem_cons_self), ih fun i hi => hus i (List.mem_cons_of_mem _ hi)]
          exact wip vs fun _ hi => hi
        · unfold cTg at ec
          dsimp only at ec
          cases et : t ρ3 w3.S with
          | bad => rw [et] at ec; cases ec
          | exc c fs S => rw [et] at ec; cases ec
          | ok k S4 =>
            rw [et] at ec
            intro w4 v4 le4 ok4 es4 r4
            have r4 : k = v4 := r4
            subst r4
            subst es4
            obtain ⟨hl4, hn4⟩ := hid ok3 le4 hl3 hn3
            have le14 := le13.trans ok3 le4
            have rr5 := rr4.up ok3 le4
            cases k with
            | false =>
              refine iteF ?_
              unfold cTest cSkip at ec
              dsimp only at ec
              by_cases hs : still w4.S
              · rw [if_pos hs] at ec
                exact ⟨w4, is, xs, S', le14, ok4, rfl, hs, hl4, hn4, ec, hf⟩
              · rw [if_neg hs] at ec
                cases ec
            | true =>
              refine iteT ⟨w4, ok4, rfl, ρ3, rr5, ?_⟩
              unfold cTest at ec
              dsimp only at ec
              cases ee : de ρ3 w4.S with
              | bad => rw [ee] at ec; cases ec
              | exc c fs S => rw [ee] at ec; cases ec
              | ok z S5 =>
                rw [ee] at ec
                intro w5 v5 le5 ok5 es5 r5
                subst es5
                obtain ⟨hl5, hn5⟩ := hid ok4 le5 hl4 hn4
                have le15 := le14.trans ok4 le5
                unfold cElt cSkip at ec
                dsimp only at ec
                by_cases hs : still w5.S
                · rw [if_pos hs] at ec
                  cases er : cLoop still g t de (wipeE ρ vs) (items.drop (i + 1)) w5.S with
                  | bad => rw [er] at ec; cases ec
                  | exc c fs S => rw [er] at ec; cases ec
                  | ok ys S6 =>
                    rw [er] at ec
                    unfold cHead at ec
                    injection ec with ec1 ec2
                    subst ec1 ec2
                    -- what the end asks for
                    unfold dSetS at hf
                    cases ea : asInts (is.map D.int ++ z :: ys) with
                    | none => rw [ea] at hf; exact hf.elim
                    | some all =>
                      rw [ea] at hf
                      dsimp only at hf
                      by_cases hb : all.length < 1000 ∧ (dedI all).length < 64
                      · rw [if_pos hb] at hf
                        obtain ⟨ks, js, e1, e2, e3⟩ := asInts_app ea
                        rw [asInts_ints] at e1
                        cases Option.some.inj e1
                        cases z with
                        | int c =>
                          have rv5 : v5 = V.int c := by rw [Rv] at r5; exact r5
                          have len : is.length < 1000 := by
                            have := hb.1
                            rw [e3, List.length_append] at this
                            omega
                          have le0 := dedI_len is
                          have eS : (fun j => decide (j ∈ dedI is) || decide (j = c)) = fun j => decide (j ∈ dedI (is ++ [c])) := by
                            funext j
                            rw [dedI_snoc, Bool.eq_iff_iff, Bool.or_eq_true, decide_eq_true_eq, decide_eq_true_eq, decide_eq_true_eq, addI_mem]
                          have eN : (if decide (c ∈ dedI is) = true then (dedI is).length else (dedI is).length + 1) = (dedI (is ++ [c])).length := by
                            rw [dedI_snoc, addI_len]
                            by_cases hm : c ∈ dedI is
                            · rw [if_pos hm, if_pos (decide_eq_true hm)]
                            · rw [if_neg hm, if_neg (by rw [decide_eq_false hm]; decide)]
                          refine ⟨c, _, _, rv5, hl5, by unfold scanBound; omega, ?_⟩
                          dsimp only
                          rw [eS, eN]
                          refine ⟨w5.heap (upd w5.H q (SetO ww q (fun j => decide (j ∈ dedI (is ++ [c]))) (dedI (is ++ [c])).length)), is ++ [c], ys, S6, Wo.hidx_le le15 hq, Wo.hidx_ok ok5 hl5 hn5, rfl, hs, upd_same, hn5, er, ?_⟩
                          unfold dSetS
                          rw [List.map_append, List.append_assoc]
                          show Fin K mg w1 (Rv K mg) (match asInts (is.map D.int ++ D.int c :: ys) with | some is => if is.length < 1000 ∧ (dedI is).length < 64 then mkLst ((sortI (dedI is)).map D.int) S6 else .bad | none => .bad) Q (XW K mg W σ)
                          rw [ea]
                          dsimp only
                          rw [if_pos hb]
                          exact hf
                        | _ => cases e2
                      · rw [if_neg hb] at hf
                        exact hf.elim
                · rw [if_neg hs] at ec
                  cases ec
    · have e1 : i = items.length := by omega
      subst e1
      rw [List.drop_length] at ec
      unfold cLoop at ec
      injection ec with ec1 ec2
      subst ec1 ec2
      refine .inl ⟨ri.stop w2 le2 ok2 st2, ?_⟩
      rw [List.append_nil] at hf
      unfold dSetS at hf
      rw [asInts_ints] at hf
      dsimp only at hf
      by_cases hb : is.length < 1000 ∧ (dedI is).length < 64
      · rw [if_pos hb] at hf
        refine ⟨q, _, _, rfl, hl2, hb.2, fun ns p asc hm hln hp => ?_⟩
        rw [sortI_set (dedI is) ns (dedI_nodup is) asc fun k => by rw [hm, decide_eq_true_eq]]
        exact (Fin.up ok2 le2 hf).newLst ok2 hp (ints_rvs _)
      · rw [if_neg hb] at hf
        exact hf.elim
end
section
variable {X : Cx} {W : WX} {pos p : Pos}
theorem l_setc {cpos : Pos} {elt tg iter : Expr} {ifs : List Expr} {scope : Scope} {own : List (Str × Nat)} {wi : TI} {g : DG} {t : TG} {us : List Nat} {di : DI} {dt : DT} {de : DE} (hgl : Gl X "sorted") (hm : X.mg "sorted" = none) (hv : bootBuiltins "sorted" = some (.builtin "sorted")) (hc : X.calm = true) (hN : X.N.Nodup) (hi : PI X tg iter wi) (oi : IOk X.K X.mg W di wi) (ok : BlkOk X.N X.env.scope scope own)
    (hg : ∀ (s : Shared) (H : Hp) (C : Addr) (cl : List (Str × Addr)) (fp : List Addr), PG (X.blk s H scope (compEnvC scope cl C X.env) fp) tg t) (og : GOk X.K X.mg us g t) (hu : ∀ i ∈ us, i ∈ own.map (·.2))
    (ht : ∀ (s : Shared) (H : Hp) (C : Addr) (cl : List (Str × Addr)) (fp : List Addr), PTs (X.blk s H scope (compEnvC scope cl C X.env) fp) ifs (LT X.K X.mg W0 dt))
    (he : ∀ (s : Shared) (H : Hp) (C : Addr) (cl : List (Str × Addr)) (fp : List Addr), PE (X.blk s H scope (compEnvC scope cl C X.env) fp) elt (LE X.K X.mg W0 de)) (hs : ∀ x, foldedSetIterable iter X.env x = pure x := by intro _; rfl) :
    PE X (.Call (.Name "sorted" p) [.SetComp elt [⟨tg, iter, ifs, 0⟩] scope cpos] [] pos) (LE X.K X.mg W (dSetC di g (own.map (·.2)) dt de)) :=
  (pe_callB (cr_sortedSet hc) hgl hm hv (pa_cons (pe_sci hc hN hi ok hg ht he hs) pa_nil (by rfl)) (by decide) (by decide) (by rfl) (by rfl)).imp fun _ _ _ => i_setc oi og hu
end
/-! ### xs.pop(i) -/
def mPopAt : DM
  | .obj n, [.int i], S => match S[n]? with
    | some (.lst xs) => if 0 ≤ i ∧ i < 2 ^ 63 then (match xs[i.toNat]? with
      | some d => .ok d (S.set n (.lst (xs.eraseIdx i.toNat)))
      | none => .bad) else .bad
    | _ => .bad
  | _, _, _ => .bad
section
variable {K : PySem.W.Frag} {mg : Str → Option Value}
theorem om_popAt : Opm K mg rPopAt mPopAt := by
  intro w x ds v vs Q E ok rx rs h
  unfold mPopAt at h
  split at h
  · rename_i n i
    obtain ⟨u, rfl, ru⟩ := rs.one
    obtain ⟨hn, rfl⟩ := rx.obj
    split at h
    · rename_i e1
      split at h
      · rename_i hi
        split at h
        · rename_i e2
          obtain ⟨us, h1, r1⟩ := lst_mut ok e1
          obtain ⟨z, e3, rz⟩ := r1.get e2
          have hl := lt_of_get e3
          refine ⟨_, us, i, i.toNat, z, rfl, by rw [ru.int], h1, by omega, hi.2, ?_, e3, ?_⟩
          · unfold seqIndex?
            simp only [if_neg (show ¬ i < 0 by omega)]
            rw [if_pos (by rw [Bool.and_eq_true, decide_eq_true_eq, decide_eq_true_eq]; omega)]
          · refine h.putLst (us := us.eraseIdx i.toNat) ok hn ?_ rz
            rw [List.eraseIdx_eq_take_drop_succ, List.eraseIdx_eq_take_drop_succ]
            exact (r1.take _).append (r1.drop _)
        · exact h.elim
      · exact h.elim
    · exact h.elim
  · exact h.elim
end

/-! ### sorted(d) of a dict of numbers, as many as there are -/
abbrev rSortedDB : List V → Hp → VK → Prop := fun xs H Q => ∃ (d : Addr) (kv : List (Key × V)) (ms : List Int), xs = [.ref d] ∧ Rd H d (.dK kv) ∧ kv.map (·.1) = ms.map Sum.inl ∧ ms.length ≤ sizeLine ∧
    ∀ (zs : List Int) (p : Addr), zs.Perm ms → zs.Pairwise (· ≤ ·) → H p = none → Q (.ref p) (upd H p (.lst (zs.map V.int)))
theorem keyed_ints {kvs : List (Key × Value)} {acc : List Value} {ms : List Int} (hm : kvs.map (·.1) = ms.map Sum.inl) (ha : acc.length = ms.length)
    (hi : ∀ (j : Nat) (v : Value), acc[j]? = some v → ∃ (k : Key) (x : Value), kvs[j]? = some (k, x) ∧ keyIs k v = true) : PyProof.Rows.IntsAre acc ms := by
  refine ints_each ha fun j v ev => ?_
  obtain ⟨k, x, g1, g2⟩ := hi j v ev
  have g3 : (ms.map (Sum.inl : Int → Key))[j]? = some k := by
    rw [← hm, List.getElem?_map, g1]; rfl
  rw [List.getElem?_map] at g3
  obtain ⟨y, g4, g5⟩ := Option.map_eq_some_iff.mp g3
  rcases keyIs_shape g2 with ⟨i, t, g6, g7⟩ | ⟨z, t, g6, g7⟩
  · rw [g6] at g5
    rw [Sum.inl.inj g5] at g4
    exact ⟨i, t, g4, g7⟩
  · rw [g6] at g5
    cases g5
theorem call_sortedDB {X : Cx} (calm : X.calm = true) : CallR X (.builtin "sorted") rSortedDB := by
  rintro pins s σ H xs us Q I r ⟨d, kv, ms, rfl, rd, km, lim, go⟩
  obtain ⟨u, rfl, ru⟩ := vals1 r
  cases ru
  obtain ⟨z, lo, kvs, rel, dd⟩ := dk_rd I.hok rd
  obtain ⟨ep, hd⟩ := dd.dictAt
  have hm : kvs.map (·.1) = ms.map Sum.inl := by rw [← rel.keys]; exact km
  have hl : kvs.length = ms.length := by
    have := congrArg List.length hm
    simpa only [List.length_map] using this
  refine Calls.call_function_entry PyProof.Rows.kind_sorted PyProof.Rows.plain_sorted PyProof.Rows.entry_sorted (PyProof.Rows.args_sorted1 _) ?step1
  case step1 =>
  unfold Builtin.«sorted»
  refine wpAny_bind (m := checkCount "sorted" 1 1 _) (wpAny_pure ?step2)
  case step2 =>
  refine wpAny_bind ?step3
  case step3 =>
  refine PySem.W.kdu_collect (A := X.A.in1) (PySem.W.kdl_dict (knd := mixKind X.prog X.w) (kvs := kvs) (ep := ep) lo) (I.ok.hd calm) hd (by rw [hl]; exact lim) ?_
  intro h1 tk acc keep items
  have ha : acc.toList.length = ms.length := Array.length_toList.trans (items.1.trans hl)
  have hI : PyProof.Rows.IntsAre acc.toList ms := keyed_ints hm ha fun j v ev => items.2 j v (by rw [Array.getElem?_toList] at ev; exact ev)
  have I1 : Inv X pins σ H { s with heap := h1, toks := tk } := I.kept keep
  apply wpAny_bind
  refine wpAny_newList ?_ (by rw [ha]; exact lim)
  have hN : (h1.push (PyProof.Rows.seqObj "list" acc.toList.toArray 0)).get? h1.objs.size = some (PyProof.Rows.seqObj "list" acc.toList.toArray 0) := Heap.get?_push_size _ rfl
  show wpAny _ _ _ _ _ (Shared.mk (h1.push (PyProof.Rows.seqObj "list" acc.toList.toArray 0)) s.gens s.drawn tk s.os)
  apply wpAny_bind
  apply wpAny_holding
  refine wpAny_call_entry PyProof.Rows.slot_list_sort ⟨_, hN, rfl⟩ PyProof.Rows.entry_list_sort ?_ (PyProof.Rows.args_list_sort _)
  refine SrtO.list_sort_ord SrtO.swo_int hN (by rw [ha]; exact lim) (fun two => SrtO.ints_sortable hI two) fun out o1 o2 => ⟨.none, rfl, ?_⟩
  obtain ⟨k1, k2, k3⟩ := SrtO.ints_out hI o1 o2
  obtain ⟨e2, at2⟩ := PyProof.Rows.sortedHeap_at (vs := acc.toList) (out := out.toArray) hN
  have len : ((out.map SrtO.iv).map V.int).length ≤ sizeLine := by
    rw [List.length_map, k2.length_eq]; exact lim
  refine wpAny_pure ⟨_, rfl, .ref h1.objs.size, upd H h1.objs.size (.lst ((out.map SrtO.iv).map V.int)), I1.laid (t' := tk) (fun b o e => ?_) (Nat.le_refl _)
    (show ObjOk X.prog X.w _ _ _ (.lst ((out.map SrtO.iv).map V.int)) from ⟨len, out, e2, vals_of_ints k1, at2⟩), rfl, go _ _ k2 k3 (I1.hok.fresh (Nat.le_refl _))⟩
  have lt : b < h1.objs.size := Heap.lt_size e
  rw [PyProof.Rows.sortedHeap_old (Nat.ne_of_lt lt) (by rw [PyProof.Rows.size_push']; exact Nat.lt_succ_of_lt lt)]
  apply Heap.get?_push_of_some
  exact e
noncomputable def sortBR (S : Sto) : Option (List Int) → Res D
  | some ns => if ns.length ≤ sizeLine then mkLst ((sortI ns).map D.int) S else .bad
  | none => .bad
noncomputable def dSortedDB : DF
  | [.obj n], S => sortBR S ((dkOf S n).bind keyInts)
  | _, _ => .bad
section
variable {K : PySem.W.Frag} {mg : Str → Option Value}
theorem o_sortedDB : Opn K mg rSortedDB dSortedDB := by
  intro w ds vs Q E ok r h
  unfold dSortedDB at h
  split at h
  · obtain ⟨v, rfl, r1⟩ := r.one
    rename_i n
    cases hk : (dkOf w.S n).bind keyInts with
    | none => rw [hk] at h; exact h.elim
    | some ms =>
      rw [hk] at h
      have h : Fin K mg w (Rv K mg) (if ms.length ≤ sizeLine then mkLst ((sortI ms).map D.int) w.S else .bad) Q E := h
      by_cases hl : ms.length ≤ sizeLine
      · rw [if_pos hl] at h
        obtain ⟨_, rfl⟩ := r1.obj
        obtain ⟨xs, e1, e2⟩ := Option.bind_eq_some_iff.mp hk
        obtain ⟨_, us, t, r2⟩ := dk_at ok e1
        refine ⟨_, us, ms, rfl, Rd.of t, r2.kInts e2, hl, fun zs p hp ho hn => ?_⟩
        rw [sortI_is ms zs hp ho]
        exact h.newLst ok hn (ints_rvs _)
      · rw [if_neg hl] at h
        exact h.elim
  · exact h.elim
end

/-! ### xs[::2], xs[1::2] -/
def picks {α : Type} (xs : List α) (ks : List Nat) : List α := ks.filterMap (xs[·]?)
def evens (a n : Nat) : List Nat := (List.range ((n - a + 1) / 2)).map fun k => a + 2 * k
/-- every second one, from a on -/
def stp {α : Type} (a : Nat) (xs : List α) : List α := picks xs (evens a xs.length)
theorem picks_nil {α : Type} {xs : List α} : picks xs [] = [] := rfl
theorem picks_cons {α : Type} {xs : List α} {k : Nat} {ks : List Nat} : picks xs (k :: ks) = match xs[k]? with | some x => x :: picks xs ks | none => picks xs ks := by
  unfold picks
  rw [List.filterMap_cons]
  cases xs[k]? <;> rfl
theorem vals_picks {xs : List V} {us : List Value} (r : Vals xs us) : ∀ ks : List Nat, Vals (picks xs ks) (picks us ks)
  | [] => .nil
  | k :: ks => by
    rw [picks_cons, picks_cons]
    cases h : xs[k]? with
    | none => rw [Vals.none_of r h]; exact vals_picks r ks
    | some x =>
      obtain ⟨u, h1, h2⟩ := r.get h
      rw [h1]
      exact .cons h2 (vals_picks r ks)
theorem stp_len {α : Type} (a : Nat) (xs : List α) : (stp a xs).length ≤ xs.length := by
  have h1 : (stp a xs).length ≤ (evens a xs.length).length := List.length_filterMap_le _ _
  have h2 : (evens a xs.length).length = (xs.length - a + 1) / 2 := by unfold evens; rw [List.length_map, List.length_range]
  by_cases h : xs.length = 0
  · have : xs = [] := List.eq_nil_of_length_eq_zero h
    subst this
    have : stp a ([] : List α) = [] := by
      unfold stp picks
      exact List.filterMap_eq_nil_iff.mpr fun _ _ => rfl
    rw [this]
    exact Nat.le_refl _
  · omega
theorem vals_stp {xs : List V} {us : List Value} (r : Vals xs us) (a : Nat) : Vals (stp a xs) (stp a us) := by
  unfold stp
  rw [← r.length]
  exact vals_picks r _
theorem range_step {start n : Int} {a m : Nat} (hs : start = (a : Int)) (hn : n = (m : Int)) (h : a ≤ m) : sliceRange start n 2 = evens a m := by
  subst hs hn
  unfold sliceRange evens
  dsimp only
  rw [if_pos (show (2 : Int) > 0 by decide)]
  have e : (if (a : Int) < (m : Int) then ((m : Int) - (a : Int) + 2 - 1) / 2 else 0).toNat = (m - a + 1) / 2 := by
    split
    · omega
    · have : m - a = 0 := by omega
      rw [this]; rfl
  rw [e]
  exact List.map_congr_left fun k _ => by omega
theorem pick_even (its : List Value) : slicePick its.toArray none none (some 2) = (stp 0 its).toArray := by
  unfold slicePick stp picks
  have e := range_step (start := (sliceBounds none none (some 2) its.toArray.size).1) (n := (sliceBounds none none (some 2) its.toArray.size).2.1) (a := 0) (m := its.length) rfl (by rw [← List.size_toArray]; rfl) (Nat.zero_le _)
  have e2 : (sliceBounds none none (some 2) its.toArray.size).2.2 = 2 := rfl
  rw [e2, e]
  rw [show (fun i : Nat => its.toArray[i]?) = fun i : Nat => its[i]? from funext fun i => by simp]
theorem pick_odd (its : List Value) : slicePick its.toArray (some 1) none (some 2) = (stp 1 its).toArray := by
  unfold slicePick stp picks
  have e2 : (sliceBounds (some 1) none (some 2) its.toArray.size).2.2 = 2 := rfl
  have e3 : (sliceBounds (some 1) none (some 2) its.toArray.size).2.1 = (its.length : Int) := by rw [← List.size_toArray]; rfl
  have e4 : (sliceBounds (some 1) none (some 2) its.toArray.size).1 = max 0 (min 1 (its.length : Int)) := by rw [← List.size_toArray]; rfl
  rw [e2, e3, e4]
  by_cases h : its.length = 0
  · have : its = [] := List.eq_nil_of_length_eq_zero h
    subst this
    rfl
  · rw [range_step (a := 1) (m := its.length) (by omega) rfl (by omega)]
    rw [show (fun i : Nat => its.toArray[i]?) = fun i : Nat => its[i]? from funext fun i => by simp]
def tStp (K : PySem.W.Frag) (n : Nat) (te : TE) : TE := fun σ H Q => te σ H fun x H1 => ∃ a xs, x = .ref a ∧ SqL K H1 a xs ∧ ∀ p, H1 p = none → Q (.ref p) (upd H1 p (.lst (stp n xs)))
theorem pe_stp {X : Cx} {e : Expr} {te : TE} {lo : Option Expr} {n k : Nat} {i : Option Int} {p1 p3 pos : Pos} (he : PE X e te)
    (hlo : ∀ (pins : List (Addr × Obj)) (s : Shared) (σ : St) (H : Hp), Inv X pins σ H s → wpAny (model X.prog X.w) X.A (evalPart lo X.env) (fun u s' => ∃ H', Inv X pins σ H' s' ∧ IsPart u i ∧ H' = H) X.xe s)
    (hp : ∀ its : List Value, slicePick its.toArray i none (some 2) = (stp n its).toArray)
    (hshape : ∀ (l sl : Addr), subscripted (.Slice lo none (some (.Constant (.int 2) k p1)) p3) false (.ref l) (.ref sl) = operate [.ref l, .ref sl] (getItem (.ref l) (.ref sl))) :
    PE X (.Subscript e (.Slice lo none (some (.Constant (.int 2) k p1)) p3) pos) (tStp X.K n te) := by
  refine ⟨fun pins s σ H Q I h => ?_⟩
  refine PyProof.Rows.Subscript_ (thn (he.run pins s σ H _ I h) fun v s1 g => ?_)
  obtain ⟨x, H1, I1, r1, a, xs, rfl, hx, q⟩ := g
  cases r1
  have two : PO X (some (.Constant (.int 2) k p1)) (tPart (tC (.int 2))) := po_some pe_int
  refine wpAny_Slice (thn (hlo pins s1 σ H1 I1) fun vl s2 g2 => ?_)
  obtain ⟨_, I2, pl, rfl⟩ := g2
  refine thn (po_none.run pins s2 σ _ (fun o G => o = none ∧ G = _) I2 ⟨rfl, rfl⟩) fun vu s3 g3 => ?_
  obtain ⟨_, _, I3, pu, rfl, rfl⟩ := g3
  refine thn (two.run pins s3 σ _ (fun o G => o = some 2 ∧ G = _) I3 ⟨2, rfl, rfl, rfl⟩) fun vs s4 g4 => ?_
  obtain ⟨_, _, I4, ps, rfl, rfl⟩ := g4
  have I5 : Inv X pins σ _ { s4 with heap := s4.heap.push { cls := .type "slice", data := .fields #[vl, vu, vs] } } := I4.kept (t' := s4.toks) fun b ob q => Heap.get?_push_of_some _ q
  obtain ⟨its, r, ht, hz⟩ := I5.list hx
  have hlen := r.length
  show wpAny (model X.prog X.w) X.A (PyProof.Rows.subscriptTail e (.Slice lo none (some (.Constant (.int 2) k p1)) p3) (.ref a) (.ref s4.heap.objs.size)) (EP X pins σ Q) X.xe (Shared.mk (s4.heap.push { cls := .type "slice", data := .fields #[vl, vu, vs] }) s4.gens s4.drawn s4.toks s4.os)
  refine PyProof.Rows.tail_any (ops := [.ref a, .ref s4.heap.objs.size]) ht.isList.typeIs (PySem.slot_list_getitem.lookup) ?_ (by with_unfolding_all exact hshape _ _)
  refine wpAny_getItem_list_slice ht.isList (Heap.IsSliceOf.new _ vl vu vs) pl pu ps (by decide) ?_ (by rw [List.size_toArray]; omega)
  rw [hp]
  refine ⟨.ref _, _, I5.laid (t' := s4.toks) (o := .lst (stp n xs)) (fun b ob q => Heap.get?_push_of_some _ q) (Nat.le_refl _) ?_, rfl, q _ (I5.hok.fresh (Nat.le_refl _))⟩
  exact ⟨Nat.le_trans (stp_len n xs) hz, _, 0, vals_stp r n, Heap.get?_push_size _ rfl⟩
section
variable {K : PySem.W.Frag} {mg : Str → Option Value} {W : WX} {X : Cx}
theorem rvs_picks {w : Wo} {ds : List D} {vs : List V} (r : Rvs K mg w ds vs) : ∀ ks : List Nat, Rvs K mg w (picks ds ks) (picks vs ks)
  | [] => Rvs.nil
  | k :: ks => by
    rw [picks_cons, picks_cons]
    cases h : ds[k]? with
    | none =>
      have : vs[k]? = none := List.getElem?_eq_none_iff.mpr (by rw [r.len]; exact List.getElem?_eq_none_iff.mp h)
      rw [this]
      exact rvs_picks r ks
    | some d =>
      obtain ⟨v, h1, h2⟩ := r.get h
      rw [h1]
      exact Rvs.cons h2 (rvs_picks r ks)
theorem rvs_stp {w : Wo} {ds : List D} {vs : List V} (r : Rvs K mg w ds vs) (a : Nat) : Rvs K mg w (stp a ds) (stp a vs) := by
  unfold stp
  rw [r.len]
  exact rvs_picks r _
def stpO (a : Nat) (S : Sto) : Option Ob → Res D
  | some (.lst xs) => mkLst (stp a xs) S
  | _ => .bad
def dStp (a : Nat) : D → Sto → Res D
  | .obj n, S => stpO a S S[n]?
  | _, _ => .bad
theorem l_stp {e : Expr} {lo : Option Expr} {a k : Nat} {p1 p3 pos : Pos} {da : DE} (hp : PE X (.Subscript e (.Slice lo none (some (.Constant (.int 2) k p1)) p3) pos) (tStp X.K a (LE X.K X.mg W da))) :
    PE X (.Subscript e (.Slice lo none (some (.Constant (.int 2) k p1)) p3) pos) (LE X.K X.mg W (eUn (dStp a) da)) := hp.imp fun _ _ _ h => by
  obtain ⟨w, ok, rfl, ρ, rr, h⟩ := h
  refine ⟨w, ok, rfl, ρ, rr, h.bind fun w1 x v le1 ok1 r1 h1 => ?_⟩
  unfold dStp at h1
  split at h1
  · rename_i n
    obtain ⟨hn, rfl⟩ := r1.obj
    cases e : w1.S[n]? with
    | none => rw [e] at h1; exact h1.elim
    | some o =>
      rw [e] at h1
      cases o with
      | lst xs =>
        obtain ⟨us, h2, r2⟩ := lst_mut ok1 e
        exact ⟨_, us, rfl, .inl (.inl h2), fun p hp => h1.newLst ok1 hp (rvs_stp r2 a)⟩
      | _ => exact h1.elim
  · exact h1.elim
theorem l_evens {e : Expr} {k : Nat} {p1 p3 pos : Pos} {da : DE} (ha : PE X e (LE X.K X.mg W da)) :
    PE X (.Subscript e (.Slice none none (some (.Constant (.int 2) k p1)) p3) pos) (LE X.K X.mg W (eUn (dStp 0) da)) :=
  l_stp (pe_stp (i := none) ha (fun pins s σ H I => thn (po_none.run pins s σ H (fun o G => o = none ∧ G = H) I ⟨rfl, rfl⟩) fun u s' g => by
    obtain ⟨_, G, I', pu, rfl, e⟩ := g
    exact ⟨G, I', pu, e⟩) pick_even fun _ _ => by with_unfolding_all rfl)
theorem l_odds {e : Expr} {k j : Nat} {p0 p1 p3 pos : Pos} {da : DE} (ha : PE X e (LE X.K X.mg W da)) :
    PE X (.Subscript e (.Slice (some (.Constant (.int 1) j p0)) none (some (.Constant (.int 2) k p1)) p3) pos) (LE X.K X.mg W (eUn (dStp 1) da)) :=
  l_stp (pe_stp (i := some 1) ha (fun pins s σ H I => thn ((po_some pe_int : PO X (some (.Constant (.int 1) j p0)) (tPart (tC (.int 1)))).run pins s σ H (fun o G => o = some 1 ∧ G = H) I ⟨1, rfl, rfl, rfl⟩) fun u s' g => by
    obtain ⟨_, G, I', pu, rfl, e⟩ := g
    exact ⟨G, I', pu, e⟩) pick_odd fun _ _ => by with_unfolding_all rfl)
end

/-! ### x not in xs, whole lists -/
theorem hu65 {k : Nat} {A : Around} (r : Room k A) : A.units + 65 < cLine := by have := r.un; omega
section
variable {K : PySem.W.Frag} {mg : Str → Option Value}
def inPR (neg : Bool) (S : Sto) : Option PyData → Option PyData → Res D
  | some d, some (.list ds) => if PySem.SeqAt.shaped d = true ∧ PySem.SeqAt.shaped (.list ds) = true then .ok (.bl (if neg then !(ds.any fun z => PyData.eqv z d) else ds.any fun z => PyData.eqv z d)) S else .bad
  | _, _ => .bad
def dInP (neg : Bool) (a b : D) (S : Sto) : Res D := inPR neg S (dat S 60 a) (dat S 60 b)
theorem inP_use {w : Wo} {neg : Bool} {a b : D} {Q : D → Wo → Prop} {R : Res D} {E : Prop} (h : R = inPR neg w.S (dat w.S 60 a) (dat w.S 60 b)) (bad : R ≠ .bad) :
    ∃ d ds, dat w.S 60 a = some d ∧ dat w.S 60 b = some (.list ds) ∧ PySem.SeqAt.shaped d = true ∧ PySem.SeqAt.shaped (.list ds) = true ∧ R = .ok (.bl (if neg then !(ds.any fun z => PyData.eqv z d) else ds.any fun z => PyData.eqv z d)) w.S := by
  cases e1 : dat w.S 60 a with
  | none => rw [e1] at h; exact absurd h bad
  | some d =>
    cases e2 : dat w.S 60 b with
    | none => rw [e1, e2] at h; exact absurd h bad
    | some e =>
      rw [e1, e2] at h
      cases e with
      | list ds =>
        unfold inPR at h
        dsimp only at h
        split at h
        · rename_i hs
          exact ⟨d, ds, rfl, rfl, hs.1, hs.2, h⟩
        · exact absurd h bad
      | _ => exact absurd h bad
theorem o_notInP : Op2 K mg (rNotInD K) (dInP true) := by
  intro w a b v u Q E ok ra rb h
  unfold dInP at h
  by_cases bad : inPR true w.S (dat w.S 60 a) (dat w.S 60 b) = .bad
  · rw [bad] at h; exact h.elim
  · obtain ⟨d, ds, e1, e2, s1, s2, e3⟩ := inP_use (Q := fun _ _ => True) (E := True) rfl bad
    rw [e3] at h
    exact ⟨d, ds, dat_dp ok _ _ _ _ ra e1, dat_dp ok _ _ _ _ rb e2, s1, s2, Fin.now h ok mk_bl⟩
theorem o_inP : Op2 K mg (rInD K) (dInP false) := by
  intro w a b v u Q E ok ra rb h
  unfold dInP at h
  by_cases bad : inPR false w.S (dat w.S 60 a) (dat w.S 60 b) = .bad
  · rw [bad] at h; exact h.elim
  · obtain ⟨d, ds, e1, e2, s1, s2, e3⟩ := inP_use (Q := fun _ _ => True) (E := True) rfl bad
    rw [e3] at h
    exact ⟨d, ds, dat_dp ok _ _ _ _ ra e1, dat_dp ok _ _ _ _ rb e2, s1, s2, Fin.now h ok mk_bl⟩
end

/-! ### d[k] += e, numbers -/
def augI (a k v y : D) (ρ : Env) (S : Sto) : RS := match v, y with
  | .int i, .int j => putQ3 (.int (i + j)) a k ρ S
  | _, _ => .bad
def augV (dx : DE) (a k v : D) (ρ : Env) (S : Sto) : RS := bindR (augI a k v) ρ (dx ρ S)
def augG (dx : DE) (a k : D) (ρ : Env) (S : Sto) : RS := bindR (augV dx a k) ρ (dDGet a k S)
def augK (dk dx : DE) (a : D) (ρ : Env) (S : Sto) : RS := bindR (augG dx a) ρ (dk ρ S)
def dAugD (da dk dx : DE) (ρ : Env) (S : Sto) : RS := bindR (augK dk dx) ρ (da ρ S)
section
variable {W : WX} {X : Cx} {o i e : Expr} {pos tpos : Pos} {da dk dx : DE}
theorem ls_augD (hu : X.A.units + 1 < cLine) (ho : PE X o (LE X.K X.mg W da)) (hi : PE X i (LE X.K X.mg W dk)) (hv : PE X e (LE X.K X.mg W dx))
    (ha : ∀ ov iv new, augStore i ov iv new = (do holding [new, ov, iv] (setItem ov iv new); release [new, ov, iv] []; pure .next)) :
    PS X (.AugAssign (.Subscript o i tpos) .Add e pos) (LS X.K X.mg W (dAugD da dk dx)) := (ps_daug hu ho hi hv in_add ha).imp fun D' σ H h => by
  obtain ⟨w, ok, rfl, ρ, rr, h⟩ := h
  refine ⟨w, ok, rfl, ρ, rr, FinS.ofBind ok rr h fun w1 x v le1 ok1 r1 rr1 h1 => ?_⟩
  refine ⟨w1, ok1, rfl, ρ, rr1, FinS.ofBind ok1 rr1 h1 fun w2 y u le2 ok2 r2 rr2 h2 => ?_⟩
  have h2 : FinS X.K X.mg W w2 (bindR (augV dx x y) ρ (getR w2.S (look x y w2.S))) D' := h2
  cases el : look x y w2.S with
  | none => rw [el] at h2; exact h2.elim
  | some od =>
    cases od with
    | none => rw [el] at h2; exact h2.elim
    | some d =>
      rw [el] at h2
      obtain ⟨b, r, rfl, g, g1, _⟩ := look_at ok2 (r1.up ok1 le2) r2 el
      obtain ⟨z, rfl, rz⟩ := g1 d rfl
      have h2 : FinS X.K X.mg W w2 (augV dx x y d ρ w2.S) D' := h2
      refine ⟨b, z, rfl, g, w2, ok2, rfl, ρ, rr2, FinS.ofBind ok2 rr2 h2 fun w3 t c le3 ok3 r3 rr3 h3 => ?_⟩
      have rz3 := rz.up ok2 le3
      cases d with
      | int i =>
        cases t with
        | int j =>
          refine ⟨i, j, rz3.int, r3.int, ?_⟩
          have ry := r2.up ok2 le3
          have rx := (r1.up ok1 le2).up ok2 le3
          have h3 : FinS X.K X.mg W w3 (putQ ρ w3.S (.int (i + j)) x y) D' := h3
          cases x with
          | obj n =>
            obtain ⟨hn, eb⟩ := rx.obj
            have h3 : FinS X.K X.mg W w3 (match dkOf w3.S n, keyOf y with | some kvs, some q => if kvs.length < sizeLine then .nx ρ (w3.S.set n (.dk (putD kvs q (.int (i + j))))) else .bad | _, _ => .bad) D' := h3
            cases e1 : dkOf w3.S n with
            | none => rw [e1] at h3; exact h3.elim
            | some kvs =>
              cases e2 : keyOf y with
              | none => rw [e1, e2] at h3; exact h3.elim
              | some q =>
                rw [e1, e2] at h3
                have h3 : FinS X.K X.mg W w3 (if kvs.length < sizeLine then .nx ρ (w3.S.set n (.dk (putD kvs q (.int (i + j))))) else .bad) D' := h3
                obtain ⟨e3, vs, hv, rk⟩ := dk_at ok3 e1
                by_cases hl : kvs.length < sizeLine
                · rw [if_pos hl] at h3
                  rw [ry.key e2]
                  have eb : b = w3.m n := V.ref.inj eb
                  subst eb
                  refine ⟨_, DPut.k hv (by rw [Rkv.len rk]; exact hl), ?_⟩
                  have le4 := Wo.put_le (o := .dk (putD kvs q (.int (i + j)))) (u := .dK (putK vs q (.int (i + j)))) hn
                  exact h3 (w3.put n (.dk (putD kvs q (.int (i + j)))) (.dK (putK vs q (.int (i + j))))) σ le4 (Wo.put_ok ok3 hn ⟨_, upd_same, (rk.put mk_int).up ok3 le4⟩) rfl (rr3.up ok3 le4)
                · rw [if_neg hl] at h3
                  exact h3.elim
          | _ => exact h3.elim
        | _ => exact h3.elim
      | _ => exact h3.elim
end

/-! ### shifts of great numbers -/
def CShB (i j : Int) : Prop := 0 ≤ j ∧ j ≤ 1000000 ∧ i.natAbs.log2 < 1000000
theorem bits_of_log {i : Int} (h : i.natAbs.log2 < 1000000) : Builtin.Int.intBits i ≤ 1000000 := by
  unfold Builtin.Int.intBits
  split
  · omega
  · omega
theorem op_shlB {X : Cx} : OpR X (binaryOp .LShift) (rI CShB fun i j => .int (i * 2 ^ j.toNat)) := opI fun _ _ _ _ _ _ _ hc q => PyProof.Rows.lshift_int hc.1 (by have h1 := bits_of_log hc.2.2; have h2 := hc.2.1; omega) q
def dShlB : D → D → Sto → Res D
  | .int i, .int j, S => if 0 ≤ j ∧ j ≤ 1000000 ∧ i.natAbs.log2 < 1000000 then .ok (.int (i * 2 ^ j.toNat)) S else .bad
  | _, _, _ => .bad
section
variable {K : PySem.W.Frag} {mg : Str → Option Value}
theorem o_shlB : Op2 K mg (rI CShB fun i j => .int (i * 2 ^ j.toNat)) dShlB := by
  intro w a b v u Q E ok ra rb h
  unfold dShlB at h
  split at h
  · rw [ra.int, rb.int]
    split at h
    · rename_i hz
      exact ⟨_, _, rfl, rfl, hz, Fin.now h ok mk_int⟩
    · exact h.elim
  · exact h.elim
end

/-! ## list comprehensions of two clauses -/
def cAppd (xs : List D) : Res (List D) → Res (List D)
  | .ok ys S => .ok (xs ++ ys) S
  | .exc _ _ _ => .bad
  | .bad => .bad
noncomputable def cOut (still : Sto → Prop) (k : Sto → Res (List D)) : Res (List D) → Res (List D)
  | .ok xs S2 => cAppd xs (cSkip still k S2)
  | .exc _ _ _ => .bad
  | .bad => .bad
noncomputable def cTest2 (still : Sto → Prop) (inn : Env → Sto → Res (List D)) (k : Sto → Res (List D)) (ρ1 : Env) : Res Bool → Res (List D)
  | .ok true S1 => cOut still k (inn ρ1 S1)
  | .ok false S1 => cSkip still k S1
  | .exc _ _ _ => .bad
  | .bad => .bad
noncomputable def cTg2 (still : Sto → Prop) (t : DT) (inn : Env → Sto → Res (List D)) (k : Sto → Res (List D)) (S : Sto) : Option Env → Res (List D)
  | none => .bad
  | some ρ1 => cTest2 still inn k ρ1 (t ρ1 S)
noncomputable def cLoop2 (still : Sto → Prop) (g : DG) (t : DT) (inn : Env → Sto → Res (List D)) (ρ : Env) : List D → Sto → Res (List D)
  | [], S => .ok [] S
  | d :: r, S => cTg2 still t inn (cLoop2 still g t inn ρ r) S (g d ρ S)
noncomputable def inC (g1 : DG) (t1 : DT) (e : DE) (ρ1 : Env) : Walked → Sto → Res (List D)
  | (items, still), S => cLoop still g1 t1 e ρ1 items S
noncomputable def cInn (di1 : DI) (g1 : DG) (vs1 : List Nat) (t1 : DT) (e : DE) (ρ1 : Env) (S : Sto) : Res (List D) := (di1 ρ1 S).bind (inC g1 t1 e (wipeE ρ1 vs1))
noncomputable def dComp21 (g : DG) (t : DT) (inn : Env → Sto → Res (List D)) (ρ : Env) : Walked → Sto → Res D
  | (items, still), S1 => cEnd (cLoop2 still g t inn ρ items S1)
noncomputable def dComp2 (di : DI) (g : DG) (vs : List Nat) (t : DT) (di1 : DI) (g1 : DG) (vs1 : List Nat) (t1 : DT) (e : DE) (ρ : Env) (S : Sto) : Res D := (di ρ S).bind (dComp21 g t (cInn di1 g1 vs1 t1 e) (wipeE ρ vs))
section
variable {K : PySem.W.Frag} {mg : Str → Option Value} {X : Cx} {W : WX} {pos : Pos}
/-- the world with the hidden list as it was -/
abbrev Wo.as (w : Wo) (q : Addr) (av : List V) : Wo := w.heap (upd w.H q (.lst av))
theorem Wo.as_as {w : Wo} {q : Addr} {av bv : List V} : (w.as q av).as q bv = w.as q bv := by
  show Wo.mk w.m w.S (upd (upd w.H q _) q _) = Wo.mk w.m w.S _
  rw [upd_upd]
theorem Wo.as_self {w : Wo} {q : Addr} {av : List V} (h : w.H q = some (.lst av)) : w.as q av = w := by
  show Wo.mk w.m w.S (upd w.H q _) = w
  have : upd w.H q (.lst av) = w.H := by
    funext b
    unfold upd
    split
    · rename_i e; rw [e, h]
    · rfl
  rw [this]
theorem Wo.as_le {wa wb : Wo} {q : Addr} {av : List V} (le : wa.Le wb) (hb : ∀ j, j < wb.S.length → wb.m j ≠ q) : (wa.as q av).Le (wb.as q av) := by
  refine ⟨le.len, le.ag, fun a o e n => ?_, fun i h1 h2 => ?_, le.hd⟩
  · have e : upd wa.H q (.lst av) a = some o := e
    show upd wb.H q (.lst av) a = some o
    by_cases h : a = q
    · subst h
      rw [upd_same] at e ⊢
      exact e
    · rw [upd_ne h] at e ⊢
      exact le.fr a o e n
  · show upd wa.H q (.lst av) (wb.m i) = none
    rw [upd_ne (hb i h2)]
    exact le.nw i h1 h2
theorem Rσ.hid {w : Wo} {p : Addr} {xs ys : List V} (hp : w.H p = some (.lst xs)) : ∀ {ρ : Env} {σ : St}, Rσ K mg w ρ σ → Rσ K mg (w.heap (upd w.H p (.lst ys))) ρ σ
  | [], σ, r => r
  | x :: ρ, σ, r => by
    obtain ⟨y, τ, e, r1, r2⟩ := r
    refine ⟨y, τ, e, ?_, Rσ.hid hp r2⟩
    cases x with
    | none => trivial
    | some d =>
      obtain ⟨v, e2, r3⟩ := r1
      exact ⟨v, e2, Wo.hid_rv hp _ _ r3⟩
structure RIq (K : PySem.W.Frag) (mg : Str → Option Value) (q : Addr) (av : List V) (w : Wo) (p : Walked) (J : It) : Prop where
  now : p.2 w.S
  step : ∀ (w' : Wo) (i : Nat) (d : D) (bv : List V), w.Le (w'.as q av) → (w'.as q av).Ok K mg → w'.Ok K mg → w'.H q = some (.lst bv) → p.2 w'.S → p.1[i]? = some d → J.go i w'.H ∧ ∀ x H', J.yld i w'.H x H' → ∃ w3 : Wo, w'.Le w3 ∧ w3.Ok K mg ∧ w3.S = w'.S ∧ w3.H = H' ∧ Rv K mg w3 d x
  stop : ∀ (w' : Wo) (bv : List V), w.Le (w'.as q av) → (w'.as q av).Ok K mg → w'.Ok K mg → w'.H q = some (.lst bv) → p.2 w'.S → J.stop p.1.length w'.H
def IOkq (K : PySem.W.Frag) (mg : Str → Option Value) (di : DI) (wi : TI) : Prop := ∀ (w : Wo) (q : Addr) (av : List V) (ρ : Env) (σ : St) (R : It → Hp → Prop), w.Ok K mg → w.H q = some (.lst av) → (∀ j, j < w.S.length → w.m j ≠ q) → Rσ K mg w ρ σ →
  (∃ p S', di ρ w.S = .ok p S' ∧ ∀ (w' : Wo) (J : It), w.Le w' → w'.Ok K mg → w'.S = S' → RIq K mg q av w' p J → R J w'.H) → wi σ w.H R
theorem iq_list {de : DE} : IOkq K mg (wL de) (iList K (LE K mg W0 de)) := by
  intro w q av ρ σ R ok hq hn rr ⟨p, S', e0, h0⟩
  refine ⟨w, ok, rfl, ρ, rr, ?_⟩
  unfold wL at e0
  cases e1 : de ρ w.S with
  | bad => rw [e1] at e0; cases e0
  | exc c fs S => rw [e1] at e0; cases e0
  | ok x S1 =>
  rw [e1] at e0
  intro w1 v le1 ok1 es r1
  subst es
  replace e0 : toWalk x w1.S = .ok p S' := e0
  have hq1 : w1.H q = some (.lst av) := le1.fr' _ _ hq hn
  unfold toWalk at e0
  split at e0
  · split at e0
    · rename_i n _ xs e
      injection e0 with a1 a2
      subst a1 a2
      obtain ⟨_, rfl⟩ := r1.obj
      obtain ⟨vs, t, rv⟩ := lst_at ok1 e
      refine ⟨_, rfl, ⟨vs, t⟩, h0 w1 _ le1 ok1 rfl ⟨e, fun w2 i d bv le oka ok2 hb e2 hi => ?_, fun w2 bv le oka ok2 hb e2 => ?_⟩⟩
      · obtain ⟨us, t2, rv2⟩ := lst_at ok2 (show lstOf w2.S n = some xs from e2)
        rw [show w2.m n = w1.m n from le.ag n r1.obj.1] at t2
        obtain ⟨z, ez, rz⟩ := rv2.get hi
        refine ⟨⟨us, z, t2, ez⟩, fun x H' y => ⟨w2, Wo.Le.refl _, ok2, rfl, y.1.symm, ?_⟩⟩
        have e3 := (y.2 us t2).symm.trans ez
        rw [Option.some.inj e3]
        exact rz
      · obtain ⟨us, t2, rv2⟩ := lst_at ok2 (show lstOf w2.S n = some xs from e2)
        rw [show w2.m n = w1.m n from le.ag n r1.obj.1] at t2
        exact ⟨us, t2, by rw [rv2.len]; exact Nat.le_refl _⟩
    · cases e0
  · rename_i xs
    injection e0 with a1 a2
    subst a1 a2
    obtain ⟨p, vs, rfl, t, rv⟩ := r1.kl
    have back : ∀ {w2 : Wo} {bv : List V}, w1.Le (w2.as q av) → w2.H q = some (.lst bv) → SqF K w2.H p vs ∧ Rvs K mg w2 xs vs := fun {w2 bv} le hb => by
      have t2 := Wo.hid_sqf (w := w2.as q av) (p := q) (ys := bv) upd_same (le.kl ok1 t)
      have r2 := Wo.hid_rvs (w := w2.as q av) (p := q) (ys := bv) upd_same _ _ (rv.up ok1 le)
      have e : (w2.as q av).as q bv = w2 := by rw [Wo.as_as, Wo.as_self hb]
      have e' : upd (w2.as q av).H q (.lst bv) = w2.H := congrArg Wo.H e
      exact ⟨by rw [← e']; exact t2, by have r2 : Rvs K mg ((w2.as q av).as q bv) xs vs := r2; rw [e] at r2; exact r2⟩
    refine ⟨_, rfl, ⟨vs, t.L⟩, h0 w1 _ le1 ok1 rfl ⟨trivial, fun w2 i d bv le oka ok2 hb e2 hi => ?_, fun w2 bv le oka ok2 hb e2 => ?_⟩⟩
    · obtain ⟨t2, r2⟩ := back le hb
      have t2 := t2.L
      obtain ⟨z, ez, rz⟩ := r2.get hi
      refine ⟨⟨vs, z, t2, ez⟩, fun x H' y => ⟨w2, Wo.Le.refl _, ok2, rfl, y.1.symm, ?_⟩⟩
      have e3 := (y.2 vs t2).symm.trans ez
      rw [Option.some.inj e3]
      exact rz
    · obtain ⟨t2, r2⟩ := back le hb
      exact ⟨vs, t2.L, by rw [rv.len]; exact Nat.le_refl _⟩
  · cases e0
theorem iq_tup {de : DE} : IOkq K mg (wT de) (iTup K (LE K mg W0 de)) := by
  intro w q av ρ σ R ok hq hn rr ⟨p, S', e0, h0⟩
  refine ⟨w, ok, rfl, ρ, rr, ?_⟩
  unfold wT at e0
  cases e1 : de ρ w.S with
  | bad => rw [e1] at e0; cases e0
  | exc c fs S => rw [e1] at e0; cases e0
  | ok x S1 =>
  rw [e1] at e0
  intro w1 v le1 ok1 es r1
  subst es
  replace e0 : toWalkT x w1.S = .ok p S' := e0
  unfold toWalkT at e0
  split at e0
  · rename_i xs
    injection e0 with a1 a2
    subst a1 a2
    obtain ⟨p, vs, rfl, t, rv⟩ := r1.tup
    have back : ∀ {w2 : Wo} {bv : List V}, w1.Le (w2.as q av) → w2.H q = some (.lst bv) → SqT K w2.H p vs ∧ Rvs K mg w2 xs vs := fun {w2 bv} le hb => by
      have t2 := Wo.hid_sqt (w := w2.as q av) (p := q) (ys := bv) upd_same (le.tup ok1 t)
      have r2 := Wo.hid_rvs (w := w2.as q av) (p := q) (ys := bv) upd_same _ _ (rv.up ok1 le)
      have e : (w2.as q av).as q bv = w2 := by rw [Wo.as_as, Wo.as_self hb]
      have e' : upd (w2.as q av).H q (.lst bv) = w2.H := congrArg Wo.H e
      exact ⟨by rw [← e']; exact t2, by have r2 : Rvs K mg ((w2.as q av).as q bv) xs vs := r2; rw [e] at r2; exact r2⟩
    refine ⟨_, rfl, ⟨vs, t⟩, h0 w1 _ le1 ok1 rfl ⟨trivial, fun w2 i d bv le oka ok2 hb e2 hi => ?_, fun w2 bv le oka ok2 hb e2 => ?_⟩⟩
    · obtain ⟨t2, r2⟩ := back le hb
      obtain ⟨z, ez, rz⟩ := r2.get hi
      refine ⟨⟨vs, z, t2, ez⟩, fun x H' y => ⟨w2, Wo.Le.refl _, ok2, rfl, y.1.symm, ?_⟩⟩
      have e3 := (y.2 vs t2).symm.trans ez
      rw [Option.some.inj e3]
      exact rz
    · obtain ⟨t2, r2⟩ := back le hb
      exact ⟨vs, t2, by rw [rv.len]; exact Nat.le_refl _⟩
  · cases e0
theorem i_comp2 {di di1 : DI} {wi wi1 : TI} {g g1 : DG} {tg tg1 : TG} {us us1 vs vs1 : List Nat} {t t1 : DT} {de : DE} (hi : IOk K mg W di wi) (hg : GOk K mg us g tg) (hu : ∀ i ∈ us, i ∈ vs) (hi1 : IOkq K mg di1 wi1) (hg1 : GOk K mg us1 g1 tg1) (hu1 : ∀ i ∈ us1, i ∈ vs1) {σ : St} {H : Hp} {Q : VK} (h : LE K mg W (dComp2 di g vs t di1 g1 vs1 t1 de) σ H Q) :
    tLc2 wi tg (LT K mg W0 t) wi1 tg1 (LT K mg W0 t1) (LE K mg W0 de) vs vs1 σ H Q := by
  obtain ⟨w, ok, rfl, ρ, rr, h⟩ := h
  refine hi w ρ σ _ ok rr (h.bind fun w1 p J le1 ok1 ri h1 => ?_)
  obtain ⟨items, still⟩ := p
  intro q hq
  have ww : ∀ (vs us : List Nat) (σ : St), (∀ i ∈ us, i ∈ vs) → L2.wipe (L2.wipe σ us) vs = L2.wipe σ vs := by
    intro vs us σ
    induction us with
    | nil => intro _; rfl
    | cons u us ih =>
      intro hus
      show L2.wipe ((L2.wipe σ us).set u none) vs = _
      rw [wipe_set (hus u List.mem_cons_self), ih fun i hi => hus i (List.mem_cons_of_mem _ hi)]
  -- the hidden list is still there, and still hidden
  have hid : ∀ {wa wb : Wo} {bv : List V}, wa.Ok K mg → wa.Le wb → wa.H q = some (.lst bv) → (∀ j, j < wa.S.length → wa.m j ≠ q) → wb.H q = some (.lst bv) ∧ ∀ j, j < wb.S.length → wb.m j ≠ q := fun {wa wb bv} oka le hq2 hn => by
    refine ⟨le.fr' _ _ hq2 hn, fun j hj z => ?_⟩
    by_cases hja : j < wa.S.length
    · rw [le.ag j hja] at z
      exact hn j hja z
    · have := le.nw j (Nat.le_of_not_lt hja) hj
      rw [z, hq2] at this
      cases this
  generalize hinn : cInn di1 g1 vs1 t1 de = inn at h1
  have rr1 := (rr.up ok le1).wipe vs
  have len1 : (upd w1.H q (.lst [])) q = some (.lst []) := upd_same
  have base : w1.Le (w1.heap (upd w1.H q (.lst []))) := Wo.new_le hq
  have okb : (w1.heap (upd w1.H q (.lst []))).Ok K mg := Wo.new_ok ok1 hq
  refine ⟨fun i m H => m = items.length - i ∧ i ≤ items.length ∧ ∃ (w2 : Wo) (acc : List D) (av : List V) (xs : List D) (S' : Sto), w1.Le w2 ∧ w2.Ok K mg ∧ w2.H = H ∧ still w2.S ∧ w2.H q = some (.lst av) ∧ (∀ j, j < w2.S.length → w2.m j ≠ q) ∧ Rvs K mg w2 acc av ∧
      cLoop2 still g t inn (wipeE ρ vs) (items.drop i) w2.S = .ok xs S' ∧ Fin K mg w1 (Rv K mg) (mkLst (acc ++ xs) S') Q (XW K mg W σ), ?_, ?_⟩
  · cases e : cLoop2 still g t inn (wipeE ρ vs) items w1.S with
    | bad =>
      unfold dComp21 at h1
      dsimp only at h1
      rw [e] at h1
      exact h1.elim
    | exc c fs S =>
      unfold dComp21 at h1
      dsimp only at h1
      rw [e] at h1
      exact h1.elim
    | ok xs S' =>
      unfold dComp21 at h1
      dsimp only at h1
      rw [e] at h1
      refine ⟨items.length, rfl, Nat.zero_le _, w1.heap (upd w1.H q (.lst [])), [], [], xs, S', base, okb, rfl, ri.now, upd_same, fun j hj z => ?_, Rvs.nil, e, h1⟩
      obtain ⟨o, h2, _⟩ := ok1.at (show j < w1.S.length from hj)
      have z : w1.m j = q := z
      rw [z, hq] at h2
      cases h2
  · rintro i m H2 ⟨rfl, hil, w2, acc, av, xs, S', le2, ok2, rfl, st2, hl2, hn2, ra, ec, hf⟩
    by_cases hlt : i < items.length
    · have ei := List.getElem?_eq_getElem hlt
      rw [List.drop_eq_getElem_cons hlt] at ec
      generalize items[i] = d at ei ec
      obtain ⟨go, yl⟩ := ri.step w2 i d le2 ok2 st2 ei
      refine .inr ⟨go, fun H' => ∃ (w2 : Wo) (acc : List D) (av : List V) (xs : List D) (S' : Sto), w1.Le w2 ∧ w2.Ok K mg ∧ w2.H = H' ∧ still w2.S ∧ w2.H q = some (.lst av) ∧ (∀ j, j < w2.S.length → w2.m j ≠ q) ∧ Rvs K mg w2 acc av ∧
        cLoop2 still g t inn (wipeE ρ vs) (items.drop (i + 1)) w2.S = .ok xs S' ∧ Fin K mg w1 (Rv K mg) (mkLst (acc ++ xs) S') Q (XW K mg W σ), fun H' n => ⟨items.length - (i + 1), by omega, rfl, hlt, n⟩, fun x H' y => ?_⟩
      obtain ⟨w3, le3, ok3, es3, rfl, r3⟩ := yl x H' y
      obtain ⟨hl3, hn3⟩ := hid ok2 le3 hl2 hn2
      have le13 := le2.trans ok2 le3
      have rr3 := (rr.up ok (le1.trans ok1 le13)).wipe vs
      unfold cLoop2 at ec
      rw [← es3] at ec
      cases eg : g d (wipeE ρ vs) w3.S with
      | none => rw [eg] at ec; cases ec
      | some ρ3 =>
        rw [eg] at ec
        refine hg w3 d x _ ρ3 _ _ ok3 rr3 r3 eg fun σ3 rr4 hw => ⟨?_, w3, ok3, rfl, ρ3, rr4, ?_⟩
        · rw [hw vs hu]
          exact ww vs vs σ fun _ hi => hi
        · unfold cTg2 at ec
          dsimp only at ec
          cases et : t ρ3 w3.S with
          | bad => rw [et] at ec; cases ec
          | exc c fs S => rw [et] at ec; cases ec
          | ok k S4 =>
            rw [et] at ec
            intro w4 v4 le4 ok4 es4 r4
            have r4 : k = v4 := r4
            subst r4
            subst es4
            obtain ⟨hl4, hn4⟩ := hid ok3 le4 hl3 hn3
            have le14 := le13.trans ok3 le4
            have ra4 := ((ra.up ok2 le3).up ok3 le4)
            have rr5 := rr4.up ok3 le4
            cases k with
            | false =>
              refine iteF ?_
              unfold cTest2 cSkip at ec
              dsimp only at ec
              by_cases hs : still w4.S
              · rw [if_pos hs] at ec
                exact ⟨w4, acc, av, xs, S', le14, ok4, rfl, hs, hl4, hn4, ra4, ec, hf⟩
              · rw [if_neg hs] at ec
                cases ec
            | true =>
              refine iteT ?_
              unfold cTest2 at ec
              dsimp only at ec
              have hin : inn ρ3 w4.S = (di1 ρ3 w4.S).bind (inC g1 t1 de (wipeE ρ3 vs1)) := by rw [← hinn]; rfl
              rw [hin] at ec
              cases e1 : di1 ρ3 w4.S with
              | bad => rw [e1] at ec; cases ec
              | exc c fs S => rw [e1] at ec; cases ec
              | ok p1 S5 =>
              rw [e1] at ec
              obtain ⟨items1, still1⟩ := p1
              have ec : cOut still (cLoop2 still g t inn (wipeE ρ vs) (items.drop (i + 1))) (cLoop still1 g1 t1 de (wipeE ρ3 vs1) items1 S5) = .ok xs S' := ec
              refine hi1 w4 q av ρ3 σ3 _ ok4 hl4 hn4 rr5 ⟨_, _, e1, fun w5 J1 le5 ok5 es5 ri1 => ?_⟩
              subst es5
              obtain ⟨hl5, hn5⟩ := hid ok4 le5 hl4 hn4
              have le15 := le14.trans ok4 le5
              have ra5 := ra4.up ok4 le5
              have rr6 := rr5.up ok4 le5
              have self5 : w5.Le (w5.as q av) := by rw [Wo.as_self hl5]; exact Wo.Le.refl _
              refine ⟨fun j k H => k = items1.length - j ∧ j ≤ items1.length ∧ ∃ (wa : Wo) (acc2 : List D) (bv : List V) (xs1 ys : List D) (S6 S7 : Sto), w1.Le wa ∧ w5.Le (wa.as q av) ∧ wa.Ok K mg ∧ wa.H = H ∧ still1 wa.S ∧ wa.H q = some (.lst bv) ∧ (∀ j, j < wa.S.length → wa.m j ≠ q) ∧ Rvs K mg wa acc2 bv ∧ Rσ K mg wa ρ3 σ3 ∧
                cLoop still1 g1 t1 de (wipeE ρ3 vs1) (items1.drop j) wa.S = .ok xs1 S6 ∧ cSkip still (cLoop2 still g t inn (wipeE ρ vs) (items.drop (i + 1))) S6 = .ok ys S7 ∧ Fin K mg w1 (Rv K mg) (mkLst (acc2 ++ (xs1 ++ ys)) S7) Q (XW K mg W σ), ?_, ?_⟩
              · cases e6 : cLoop still1 g1 t1 de (wipeE ρ3 vs1) items1 w5.S with
                | bad => rw [e6] at ec; cases ec
                | exc c fs S => rw [e6] at ec; cases ec
                | ok xs1 S6 =>
                  rw [e6] at ec
                  unfold cOut at ec
                  dsimp only at ec
                  cases e7 : cSkip still (cLoop2 still g t inn (wipeE ρ vs) (items.drop (i + 1))) S6 with
                  | bad => rw [e7] at ec; cases ec
                  | exc c fs S => rw [e7] at ec; cases ec
                  | ok ys S7 =>
                    rw [e7] at ec
                    have ec : Res.ok (xs1 ++ ys) S7 = .ok xs S' := ec
                    injection ec with a1 a2
                    subst a1 a2
                    exact ⟨items1.length, rfl, Nat.zero_le _, w5, acc, av, xs1, ys, S6, S7, le15, self5, ok5, rfl, ri1.now, hl5, hn5, ra5, rr6, e6, e7, hf⟩
              · rintro j k Hj ⟨rfl, hjl, wa, acc2, bv, xs1, ys, S6, S7, le1a, lea, oka, rfl, sta, hla, hna, raa, rra, eca, esk, hfa⟩
                have oks : (wa.as q av).Ok K mg := Wo.hid_ok oka hla hna
                by_cases hlt1 : j < items1.length
                · have ei1 := List.getElem?_eq_getElem hlt1
                  rw [List.drop_eq_getElem_cons hlt1] at eca
                  generalize items1[j] = d1 at ei1 eca
                  obtain ⟨go1, yl1⟩ := ri1.step wa j d1 bv lea oks oka hla sta ei1
                  refine .inr ⟨go1, fun H' => ∃ (wa : Wo) (acc2 : List D) (bv : List V) (xs1 ys : List D) (S6 S7 : Sto), w1.Le wa ∧ w5.Le (wa.as q av) ∧ wa.Ok K mg ∧ wa.H = H' ∧ still1 wa.S ∧ wa.H q = some (.lst bv) ∧ (∀ j, j < wa.S.length → wa.m j ≠ q) ∧ Rvs K mg wa acc2 bv ∧ Rσ K mg wa ρ3 σ3 ∧
                    cLoop still1 g1 t1 de (wipeE ρ3 vs1) (items1.drop (j + 1)) wa.S = .ok xs1 S6 ∧ cSkip still (cLoop2 still g t inn (wipeE ρ vs) (items.drop (i + 1))) S6 = .ok ys S7 ∧ Fin K mg w1 (Rv K mg) (mkLst (acc2 ++ (xs1 ++ ys)) S7) Q (XW K mg W σ), fun H' n => ⟨items1.length - (j + 1), by omega, rfl, hlt1, n⟩, fun x1 H' y1 => ?_⟩
                  obtain ⟨wb, leb, okb2, esb, rfl, rb⟩ := yl1 x1 H' y1
                  obtain ⟨hlb, hnb⟩ := hid oka leb hla hna
                  have le1b := le1a.trans oka leb
                  have le5b := lea.trans oks (Wo.as_le leb hnb)
                  have rrb := rra.up oka leb
                  unfold cLoop at eca
                  rw [← esb] at eca
                  cases eg1 : g1 d1 (wipeE ρ3 vs1) wb.S with
                  | none => rw [eg1] at eca; cases eca
                  | some ρ7 =>
                    rw [eg1] at eca
                    refine hg1 wb d1 x1 _ ρ7 _ _ okb2 (rrb.wipe vs1) rb eg1 fun σ7 rr7 hw7 => ⟨?_, wb, okb2, rfl, ρ7, rr7, ?_⟩
                    · rw [hw7 vs1 hu1]
                      exact ww vs1 vs1 σ3 fun _ hi => hi
                    · unfold cTg at eca
                      dsimp only at eca
                      cases et1 : t1 ρ7 wb.S with
                      | bad => rw [et1] at eca; cases eca
                      | exc c fs S => rw [et1] at eca; cases eca
                      | ok k1 S8 =>
                        rw [et1] at eca
                        intro wc vc lec okc esc rc
                        have rc : k1 = vc := rc
                        subst rc
                        subst esc
                        obtain ⟨hlc, hnc⟩ := hid okb2 lec hlb hnb
                        have le1c := le1b.trans okb2 lec
                        have okbs : (wb.as q av).Ok K mg := Wo.hid_ok okb2 hlb hnb
                        have le5c := le5b.trans okbs (Wo.as_le lec hnc)
                        have rac := ((raa.up oka leb).up okb2 lec)
                        have rrc := rrb.up okb2 lec
                        have rr8 := rr7.up okb2 lec
                        cases k1 with
                        | false =>
                          refine iteF ?_
                          unfold cTest cSkip at eca
                          dsimp only at eca
                          by_cases hs : still1 wc.S
                          · rw [if_pos hs] at eca
                            exact ⟨wc, acc2, bv, xs1, ys, S6, S7, le1c, le5c, okc, rfl, hs, hlc, hnc, rac, rrc, eca, esk, hfa⟩
                          · rw [if_neg hs] at eca
                            cases eca
                        | true =>
                          refine iteT ⟨wc, okc, rfl, ρ7, rr8, ?_⟩
                          unfold cTest at eca
                          dsimp only at eca
                          cases ee : de ρ7 wc.S with
                          | bad => rw [ee] at eca; cases eca
                          | exc c fs S => rw [ee] at eca; cases eca
                          | ok z S9 =>
                            rw [ee] at eca
                            intro wd vd led okd esd rd
                            subst esd
                            obtain ⟨hld, hnd⟩ := hid okc led hlc hnc
                            have le1d := le1c.trans okc led
                            have okcs : (wc.as q av).Ok K mg := Wo.hid_ok okc hlc hnc
                            have le5d := le5c.trans okcs (Wo.as_le led hnd)
                            have rad := rac.up okc led
                            have rrd := rrc.up okc led
                            unfold cElt cSkip at eca
                            dsimp only at eca
                            by_cases hs : still1 wd.S
                            · rw [if_pos hs] at eca
                              cases er : cLoop still1 g1 t1 de (wipeE ρ3 vs1) (items1.drop (j + 1)) wd.S with
                              | bad => rw [er] at eca; cases eca
                              | exc c fs S => rw [er] at eca; cases eca
                              | ok zs S10 =>
                                rw [er] at eca
                                unfold cHead at eca
                                injection eca with a1 a2
                                subst a1 a2
                                have hlen := hfa.lstLen
                                rw [List.length_append, List.length_append, List.length_cons] at hlen
                                refine ⟨bv, hld, by rw [rad.len]; omega, wd.heap (upd wd.H q (.lst (bv ++ [vd]))), acc2 ++ [z], bv ++ [vd], zs, ys, S10, S7, Wo.hid_le le1d hq, ?_, Wo.hid_ok okd hld hnd, rfl, hs, upd_same, hnd, Wo.hid_rvs hld _ _ (rad.append (Rvs.cons rd Rvs.nil)), Rσ.hid hld rrd, er, esk, ?_⟩
                                · show w5.Le ((wd.as q (bv ++ [vd])).as q av)
                                  rw [Wo.as_as]
                                  exact le5d
                                · rw [List.append_assoc]
                                  exact hfa
                            · rw [if_neg hs] at eca
                              cases eca
                · have e1 : j = items1.length := by omega
                  subst e1
                  rw [List.drop_length] at eca
                  unfold cLoop at eca
                  injection eca with a1 a2
                  subst a1 a2
                  refine .inl ⟨ri1.stop wa bv lea oks oka hla sta, ?_⟩
                  unfold cSkip at esk
                  by_cases hs : still wa.S
                  · rw [if_pos hs] at esk
                    exact ⟨wa, acc2, bv, ys, S7, le1a, oka, rfl, hs, hla, hna, raa, esk, hfa⟩
                  · rw [if_neg hs] at esk
                    cases esk
    · have e1 : i = items.length := by omega
      subst e1
      rw [List.drop_length] at ec
      unfold cLoop2 at ec
      injection ec with ec1 ec2
      subst ec1 ec2
      refine .inl ⟨ri.stop w2 le2 ok2 st2, ?_⟩
      rw [List.append_nil] at hf
      unfold mkLst at hf
      by_cases hl : acc.length ≤ sizeLine
      · rw [if_pos hl] at hf
        have ad := Wo.adopt ok2 hl2 hn2 ra
        have le : w1.Le (Wo.mk (fun i => if i = w2.S.length then q else w2.m i) (w2.S ++ [Ob.lst acc]) w2.H) := by
          refine ⟨?_, fun i hi => ?_, le2.fr, fun i hi hi2 => ?_, fun i hi z => (List.getElem?_append_left (Nat.lt_of_lt_of_le hi le2.len)).trans (le2.hd i hi z)⟩
          · show w1.S.length ≤ (w2.S ++ [Ob.lst acc]).length
            rw [List.length_append]
            have := le2.len
            omega
          · show (if i = w2.S.length then q else w2.m i) = w1.m i
            rw [if_neg (Nat.ne_of_lt (Nat.lt_of_lt_of_le hi le2.len))]
            exact le2.ag i hi
          · show w1.H (if i = w2.S.length then q else w2.m i) = none
            by_cases h1 : i = w2.S.length
            · rw [if_pos h1]
              exact hq
            · rw [if_neg h1]
              have hi2 : i < (w2.S ++ [Ob.lst acc]).length := hi2
              rw [List.length_append] at hi2
              have hi2 : i < w2.S.length + 1 := hi2
              exact le2.nw i hi (by omega)
        refine hf (Wo.mk (fun i => if i = w2.S.length then q else w2.m i) (w2.S ++ [Ob.lst acc]) w2.H) (.ref q) le ad rfl ?_
        rw [Rv]
        exact ⟨by show w2.S.length < (w2.S ++ [Ob.lst acc]).length; rw [List.length_append]; exact Nat.lt_succ_self _, by show V.ref q = V.ref (if w2.S.length = w2.S.length then q else w2.m w2.S.length); rw [if_pos rfl]⟩
      · rw [if_neg hl] at hf
        exact hf.elim
section
variable {elt tg iter tg1 iter1 : Expr} {ifs ifs1 : List Expr} {scope : Scope} {own : List (Str × Nat)} {wi wi1 : TI} {g g1 : DG} {t t1 : TG} {us us1 vs1 : List Nat} {di di1 : DI} {dt dt1 : DT} {de : DE}
theorem l_comp2 (hc : X.calm = true) (hN : X.N.Nodup) (hi : PI X tg iter wi) (oi : IOk X.K X.mg W di wi) (ok : BlkOk X.N X.env.scope scope own) (hv : ∀ i ∈ vs1, i ∈ own.map (·.2))
    (hg : ∀ (s : Shared) (H : Hp) (C : Addr) (cl : List (Str × Addr)) (fp : List Addr), PG (X.blk s H scope (compEnvC scope cl C X.env) fp) tg t) (og : GOk X.K X.mg us g t) (hu : ∀ i ∈ us, i ∈ own.map (·.2))
    (ht : ∀ (s : Shared) (H : Hp) (C : Addr) (cl : List (Str × Addr)) (fp : List Addr), PTs (X.blk s H scope (compEnvC scope cl C X.env) fp) ifs (LT X.K X.mg W0 dt))
    (hi1 : ∀ (s : Shared) (H : Hp) (C : Addr) (cl : List (Str × Addr)) (fp : List Addr), PI (X.blk s H scope (compEnvC scope cl C X.env) fp) tg1 iter1 wi1) (oi1 : IOkq X.K X.mg di1 wi1)
    (hg1 : ∀ (s : Shared) (H : Hp) (C : Addr) (cl : List (Str × Addr)) (fp : List Addr), PG (X.blk s H scope (compEnvC scope cl C X.env) fp) tg1 t1) (og1 : GOk X.K X.mg us1 g1 t1) (hu1 : ∀ i ∈ us1, i ∈ vs1)
    (ht1 : ∀ (s : Shared) (H : Hp) (C : Addr) (cl : List (Str × Addr)) (fp : List Addr), PTs (X.blk s H scope (compEnvC scope cl C X.env) fp) ifs1 (LT X.K X.mg W0 dt1))
    (he : ∀ (s : Shared) (H : Hp) (C : Addr) (cl : List (Str × Addr)) (fp : List Addr), PE (X.blk s H scope (compEnvC scope cl C X.env) fp) elt (LE X.K X.mg W0 de)) (hs : ∀ x, foldedSetIterable iter X.env x = pure x := by intro _; rfl) (hs1 : ∀ env x, foldedSetIterable iter1 env x = pure x := by intro _ _; rfl) :
    PE X (.ListComp elt [⟨tg, iter, ifs, 0⟩, ⟨tg1, iter1, ifs1, 0⟩] scope pos) (LE X.K X.mg W (dComp2 di g (own.map (·.2)) dt di1 g1 vs1 dt1 de)) := (pe_lc2 hc hN hi ok hv hg ht hi1 hg1 ht1 he hs hs1).imp fun _ _ _ => i_comp2 oi og hu oi1 og1 hu1
theorem ls_setComp2 {i : Nat} {y : Str} {py spos : Pos} (hc : X.calm = true) (hN : X.N.Nodup) (hy : X.N[i]? = some y) (hyl : X.env.scope.names.lookup y = some .local)
    (hsw : swapsWith (.ListComp elt [⟨tg, iter, ifs, 0⟩, ⟨tg1, iter1, ifs1, 0⟩] scope pos) (some (.Name y py)) spos.line X.env = pure true) (hi : PI X tg iter wi) (oi : IOk X.K X.mg W di wi) (ok : BlkOk X.N X.env.scope scope own) (hv : ∀ i ∈ vs1, i ∈ own.map (·.2))
    (hg : ∀ (s : Shared) (H : Hp) (C : Addr) (cl : List (Str × Addr)) (fp : List Addr), PG (X.blk s H scope (compEnvC scope cl C X.env) fp) tg t) (og : GOk X.K X.mg us g t) (hu : ∀ i ∈ us, i ∈ own.map (·.2))
    (ht : ∀ (s : Shared) (H : Hp) (C : Addr) (cl : List (Str × Addr)) (fp : List Addr), PTs (X.blk s H scope (compEnvC scope cl C X.env) fp) ifs (LT X.K X.mg W0 dt))
    (hi1 : ∀ (s : Shared) (H : Hp) (C : Addr) (cl : List (Str × Addr)) (fp : List Addr), PI (X.blk s H scope (compEnvC scope cl C X.env) fp) tg1 iter1 wi1) (oi1 : IOkq X.K X.mg di1 wi1)
    (hg1 : ∀ (s : Shared) (H : Hp) (C : Addr) (cl : List (Str × Addr)) (fp : List Addr), PG (X.blk s H scope (compEnvC scope cl C X.env) fp) tg1 t1) (og1 : GOk X.K X.mg us1 g1 t1) (hu1 : ∀ i ∈ us1, i ∈ vs1)
    (ht1 : ∀ (s : Shared) (H : Hp) (C : Addr) (cl : List (Str × Addr)) (fp : List Addr), PTs (X.blk s H scope (compEnvC scope cl C X.env) fp) ifs1 (LT X.K X.mg W0 dt1))
    (he : ∀ (s : Shared) (H : Hp) (C : Addr) (cl : List (Str × Addr)) (fp : List Addr), PE (X.blk s H scope (compEnvC scope cl C X.env) fp) elt (LE X.K X.mg W0 de)) (hs : ∀ x, foldedSetIterable iter X.env x = pure x := by intro _; rfl) (hs1 : ∀ env x, foldedSetIterable iter1 env x = pure x := by intro _ _; rfl) :
    PS X (.Assign [.Name y py] (.ListComp elt [⟨tg, iter, ifs, 0⟩, ⟨tg1, iter1, ifs1, 0⟩] scope pos) spos) (LS X.K X.mg W (dSet i (dComp2 di g (own.map (·.2)) dt di1 g1 vs1 dt1 de))) := (ps_setLc2 hc hN hy hyl hsw hi ok hv hg ht hi1 hg1 ht1 he hs hs1).imp fun D' σ H h => by
  obtain ⟨w, ok, rfl, ρ, rr, h⟩ := h
  have h2 : LE X.K X.mg W (dComp2 di g (own.map (·.2)) dt di1 g1 vs1 dt1 de) σ w.H (fun x H1 => gName i x σ H1 D'.nx) := i_bind (de := dComp2 di g (own.map (·.2)) dt di1 g1 vs1 dt1 de) (D' := D') ⟨w, ok, rfl, ρ, rr, h⟩ fun w d v ρ ok r rr h => h.now ok (rr.set r i)
  exact i_comp2 oi og hu oi1 og1 hu1 h2
end
end

/-! ## chains of three comparisons -/
section
variable {K : PySem.W.Frag} {mg : Str → Option Value} {W : WX} {X : Cx} {pos : Pos} {a b c d : Expr} {ta tb tc td : TE}
def tChainQ (r r' r'' : R2) (ta tb tc td : TE) : TE := fun σ H Q => ta σ H fun x H1 => tb σ H1 fun y H2 => r x y H2 fun z H3 => ∃ k, z = .bl k ∧
  (if k = true then tc σ H3 fun w' H4 => r' y w' H4 fun z2 H5 => ∃ k2, z2 = .bl k2 ∧ (if k2 = true then td σ H5 fun u' H6 => r'' w' u' H6 Q else Q (.bl false) H5) else Q (.bl false) H3)
theorem pt_chainQ {op op' op'' : CmpOp} {r r' r'' : R2} (ho : OpR X (compareOp op) r) (ho' : OpR X (compareOp op') r') (ho'' : OpR X (compareOp op'') r'') (ha : PE X a ta) (hb : PE X b tb) (hc : PE X c tc) (hd : PE X d td)
    (hm : lastMarks [op, op', op''] [b, c, d] = false := by with_unfolding_all rfl) : PT X (.Compare a [op, op', op''] [b, c, d] pos) (tTest (tChainQ r r' r'' ta tb tc td)) := by
  refine ⟨fun pins s σ H Q I h => ?_⟩
  refine PyProof.Rows.isTrue_chain (thn (ha.run pins s σ H _ I h) fun v s1 ⟨x, H1, I1, r1, q1⟩ => PyProof.Rows.test_link (thn (hb.run pins s1 σ H1 _ I1 q1) fun u s2 ⟨y, H2, I2, r2, q2⟩ =>
    thn (ho pins s2 σ H2 x y v u _ I2 r1 r2 q2) fun d s3 ⟨z, H3, I3, r3, k, e, q3⟩ => ?_)) hm
  subst e
  cases r3
  refine wpAny_truthy_bool ?_
  cases k with
  | false =>
    obtain ⟨k', e', q'⟩ := q3
    cases e'
    exact iteF ⟨H3, I3, q'⟩
  | true =>
    refine iteT (PyProof.Rows.test_link (thn (hc.run pins s3 σ H3 _ I3 q3) fun w' s4 ⟨z', H4, I4, r4, q4⟩ => thn (ho' pins s4 σ H4 y z' u w' _ I4 r2 r4 q4) fun d' s5 ⟨z2, H5, I5, r5, k2, e2, q5⟩ => ?_))
    subst e2
    cases r5
    refine wpAny_truthy_bool ?_
    cases k2 with
    | false =>
      obtain ⟨k', e', q'⟩ := q5
      cases e'
      exact iteF ⟨H5, I5, q'⟩
    | true =>
      refine iteT (PyProof.Rows.test_last (thn (hd.run pins s5 σ H5 _ I5 q5) fun w2 s6 ⟨z3, H6, I6, r6, q6⟩ => thn (ho'' pins s6 σ H6 z' z3 w' w2 _ I6 r4 r6 q6) fun d2 s7 ⟨z4, H7, I7, r7, k3, e3, q7⟩ => ?_))
      subst e3
      cases r7
      exact wpAny_truthy_bool ⟨H7, I7, q7⟩
def eQ4 (g h : D → D → Sto → Res D) (dd : DE) (ρ : Env) (y z : D) (S : Sto) : Res D := (g y z S).bind (eChain3 h dd ρ z)
def eQ3 (g h : D → D → Sto → Res D) (dc dd : DE) (ρ : Env) (y : D) : D → Sto → Res D
  | .bl true, S3 => (dc ρ S3).bind (eQ4 g h dd ρ y)
  | .bl false, S3 => .ok (.bl false) S3
  | _, _ => .bad
def eQ2 (f g h : D → D → Sto → Res D) (dc dd : DE) (ρ : Env) (x y : D) (S2 : Sto) : Res D := (f x y S2).bind (eQ3 g h dc dd ρ y)
def eQ1 (f g h : D → D → Sto → Res D) (db dc dd : DE) (ρ : Env) (x : D) (S1 : Sto) : Res D := (db ρ S1).bind (eQ2 f g h dc dd ρ x)
def eChainQ (f g h : D → D → Sto → Res D) (da db dc dd : DE) (ρ : Env) (S : Sto) : Res D := (da ρ S).bind (eQ1 f g h db dc dd ρ)
theorem i_chainQ {r r' r'' : R2} {f g h : D → D → Sto → Res D} {da db dc dd : DE} (o : Op2 K mg r f) (o' : Op2 K mg r' g) (o'' : Op2 K mg r'' h) {σ : St} {H : Hp} {Q : VK} (hh : LE K mg W (eChainQ f g h da db dc dd) σ H Q) :
    tChainQ r r' r'' (LE K mg W da) (LE K mg W db) (LE K mg W dc) (LE K mg W dd) σ H Q := by
  obtain ⟨w, ok, rfl, ρ, rr, hh⟩ := hh
  refine ⟨w, ok, rfl, ρ, rr, hh.bind fun w1 x v le1 ok1 r1 h1 => ?_⟩
  have rr1 := rr.up ok le1
  refine ⟨w1, ok1, rfl, ρ, rr1, h1.bind fun w2 y u le2 ok2 r2 h2 => ?_⟩
  have rr2 := rr1.up ok1 le2
  refine o w2 x y v u _ _ ok2 (r1.up ok1 le2) r2 (h2.bind fun w3 z t le3 ok3 r3 h3 => ?_)
  have rr3 := rr2.up ok2 le3
  cases z with
  | bl k =>
    rw [Rv] at r3
    refine ⟨k, r3, ?_⟩
    cases k with
    | true =>
      refine iteT ⟨w3, ok3, rfl, ρ, rr3, h3.bind fun w4 z2 t2 le4 ok4 r4 h4 => ?_⟩
      refine o' w4 y z2 u t2 _ _ ok4 ((r2.up ok2 le3).up ok3 le4) r4 (h4.bind fun w5 z3 t3 le5 ok5 r5 h5 => ?_)
      have rr5 := (rr3.up ok3 le4).up ok4 le5
      cases z3 with
      | bl k2 =>
        rw [Rv] at r5
        refine ⟨k2, r5, ?_⟩
        cases k2 with
        | true =>
          refine iteT ⟨w5, ok5, rfl, ρ, rr5, h5.bind fun w6 z4 t4 le6 ok6 r6 h6 => ?_⟩
          exact o'' w6 z2 z4 t2 t4 Q _ ok6 ((r4.up ok4 le5).up ok5 le6) r6 h6
        | false => exact iteF (Fin.now h5 ok5 (by rw [Rv]))
      | _ => exact h5.elim
    | false => exact iteF (Fin.now h3 ok3 (by rw [Rv]))
  | _ => exact h3.elim
theorem lt_chainQ {op op' op'' : CmpOp} {r r' r'' : R2} {f g h : D → D → Sto → Res D} {da db dc dd : DE} (ho : OpR X (compareOp op) r) (o : Op2 X.K X.mg r f) (ho' : OpR X (compareOp op') r') (o' : Op2 X.K X.mg r' g) (ho'' : OpR X (compareOp op'') r'') (o'' : Op2 X.K X.mg r'' h) (ha : PE X a (LE X.K X.mg W da)) (hb : PE X b (LE X.K X.mg W db)) (hc : PE X c (LE X.K X.mg W dc)) (hd : PE X d (LE X.K X.mg W dd))
    (hm : lastMarks [op, op', op''] [b, c, d] = false := by with_unfolding_all rfl) : PT X (.Compare a [op, op', op''] [b, c, d] pos) (LT X.K X.mg W (eT (eChainQ f g h da db dc dd))) := (pt_chainQ ho ho' ho'' ha hb hc hd hm).imp fun _ _ _ hh => i_test (fun _ _ _ => i_chainQ o o' o'') hh
/-! ## list(range(a, b)) -/
structure OkR2 (i j : Int) : Prop where
  lo : OkR i
  hi : OkR j
  sz : (j - i).toNat ≤ 1000000
noncomputable instance (i j : Int) : Decidable (OkR2 i j) := Classical.propDecidable _
noncomputable def dLrg2 : D → D → Sto → Res D
  | .int i, .int j, S => if OkR2 i j then mkLst (rng i (j - i).toNat) S else .bad
  | _, _, _ => .bad
theorem l_listRg2 {a b : Expr} {p pos p2 pos2 : Pos} {da db : DE} (hc : X.calm = true) (hg : Gl X "list") (hm : X.mg "list" = none) (hg2 : Gl X "range") (hm2 : X.mg "range" = none) (ha : PE X a (LE X.K X.mg W da)) (hb : PE X b (LE X.K X.mg W db))
    (n1 : starEach [a, b] X.env = (false, eval a X.env) :: starEach [b] X.env := by rfl) (n3 : starEach [b] X.env = (false, eval b X.env) :: starEach [] X.env := by rfl) (hp : (backTo pos2 (starEach [b] X.env)).any (·.1) = false := by rfl) (n2 : starEach [Expr.Call (.Name "range" p2) [a, b] [] pos2] X.env = (false, eval (Expr.Call (.Name "range" p2) [a, b] [] pos2) X.env) :: starEach [] X.env := by rfl) :
    PE X (.Call (.Name "list" p) [.Call (.Name "range" p2) [a, b] [] pos2] [] pos) (LE X.K X.mg W (eOp dLrg2 da db)) := (pe_listRg hc hg hm (prg_2 hg2 hm2 ha hb n1 n3 hp) n2).imp fun _ _ _ h => by
  obtain ⟨w, ok, rfl, ρ, rr, h⟩ := h
  refine ⟨w, ok, rfl, ρ, rr, h.bind fun w1 x v le1 ok1 r1 h1 => ?_⟩
  refine ⟨w1, ok1, rfl, ρ, rr.up ok le1, h1.bind fun w2 y u le2 ok2 r2 h2 => ?_⟩
  unfold dLrg2 at h2
  split at h2
  · rename_i i j
    split at h2
    · rename_i hj
      refine ⟨i, j, (r1.up ok1 le2).int, r2.int, ⟨hj.lo.lo, hj.lo.hi, hj.hi.lo, hj.hi.hi, Nat.le_trans hj.sz (by decide)⟩, fun q hq => h2.newLst ok2 hq ?_⟩
      have e := ints_rvs (K := X.K) (mg := X.mg) (w := w2) ((List.range (j - i).toNat).map fun k : Nat => i + (k : Int))
      rw [List.map_map, List.map_map] at e
      unfold rgV rng
      exact e
    · exact h2.elim
  · exact h2.elim
end

/-! ## max and min of four numbers -/
section
open PyProof.Rows PySem
variable {prog : Program} {w : World} {A : Around} {E : Value → Shared → Prop} {s : Shared}
theorem args_max4 (a b c d : Value) : argsOk "max" ⟨[a, b, c, d], []⟩ := by unfold argsOk; kernel_rfl
theorem args_min4 (a b c d : Value) : argsOk "min" ⟨[a, b, c, d], []⟩ := by unfold argsOk; kernel_rfl
theorem call_max_four {a b c d : Value} {Q : Value → Shared → Prop}
    (h : wpAny (model prog w) A.in1 (pyIter (.ref s.heap.objs.size)) (fun it s₂ => ∃ I fp wr G n P St bt, it = .ref I ∧ WalksS prog w A.in1 I fp wr G n P St ∧ St 0 s₂ ∧ (∀ b ∈ fp, b < s₂.heap.objs.size) ∧ 0 < n ∧ CmpOf prog w A.in1 .Gt P bt ∧
      ∀ v s', P (argBest bt (n - 1)) v → Moved wr G s₂ s' → Q v s') E { s with heap := s.heap.push { cls := .type "tuple", data := .seq #[a, b, c, d] } }) :
    wpAny (model prog w) A (call (.builtin "max") [a, b, c, d]) Q E s := by
  have hname : (toString "max" ++ toString ".loop" : String) = "max.loop" := by decide
  refine call_function_tree F.kind_max F.plain_max F.entry_max (args_max4 _ _ _ _) ?_
  show wpAny _ A.in1 (Builtin.Builtins.bindParams "max" ["key", "default"] 0 ⟨[], []⟩ >>= _) _ _ s
  refine wpAny_bind (wpAny_of_eq (show Builtin.Builtins.bindParams "max" ["key", "default"] 0 ⟨[], []⟩ = pure [none, none] from rfl) ?_)
  show wpAny _ A.in1 (newTuple [a, b, c, d] >>= _) _ _ s
  refine wpAny_bind (wpAny_newObj_type ?_)
  refine wpAny_bind (wpAny_mono h (fun it s₂ h₂ => ?_) fun _ _ e => e)
  obtain ⟨I, fp, wr, G, n, P, St, bt, rfl, W, hst, hfp, hn, hcmp, hQ⟩ := h₂
  refine wpAny_bind (wpAny_newObj_type ?_)
  have hSf : s₂.heap.objs.size ∉ fp := fun hm => Nat.lt_irrefl _ (hfp _ hm)
  rw [hname]
  refine wpAny_pure ⟨plainId_quiet F.plain_max_loop _, codeAny_max_loop_firstS W bt hcmp s₂.heap.objs.size hSf hn (W.frame 0 s₂ _ s₂.toks hst (Nat.le_refl _) fun b _ o e => Heap.get?_push_of_some _ e) (Heap.get?_push_size _ rfl) fun v s' hP hm => ?_⟩
  exact hQ v s' hP (Moved.drop_new (tk := s₂.toks) hm (Nat.le_refl _))
theorem call_min_four {a b c d : Value} {Q : Value → Shared → Prop}
    (h : wpAny (model prog w) A.in1 (pyIter (.ref s.heap.objs.size)) (fun it s₂ => ∃ I fp wr G n P St bt, it = .ref I ∧ WalksS prog w A.in1 I fp wr G n P St ∧ St 0 s₂ ∧ (∀ b ∈ fp, b < s₂.heap.objs.size) ∧ 0 < n ∧ CmpOf prog w A.in1 .Lt P bt ∧
      ∀ v s', P (argBest bt (n - 1)) v → Moved wr G s₂ s' → Q v s') E { s with heap := s.heap.push { cls := .type "tuple", data := .seq #[a, b, c, d] } }) :
    wpAny (model prog w) A (call (.builtin "min") [a, b, c, d]) Q E s := by
  have hname : (toString "min" ++ toString ".loop" : String) = "min.loop" := by decide
  refine call_function_tree F.kind_min F.plain_min F.entry_min (args_min4 _ _ _ _) ?_
  show wpAny _ A.in1 (Builtin.Builtins.bindParams "min" ["key", "default"] 0 ⟨[], []⟩ >>= _) _ _ s
  refine wpAny_bind (wpAny_of_eq (show Builtin.Builtins.bindParams "min" ["key", "default"] 0 ⟨[], []⟩ = pure [none, none] from rfl) ?_)
  show wpAny _ A.in1 (newTuple [a, b, c, d] >>= _) _ _ s
  refine wpAny_bind (wpAny_newObj_type ?_)
  refine wpAny_bind (wpAny_mono h (fun it s₂ h₂ => ?_) fun _ _ e => e)
  obtain ⟨I, fp, wr, G, n, P, St, bt, rfl, W, hst, hfp, hn, hcmp, hQ⟩ := h₂
  refine wpAny_bind (wpAny_newObj_type ?_)
  have hSf : s₂.heap.objs.size ∉ fp := fun hm => Nat.lt_irrefl _ (hfp _ hm)
  rw [hname]
  refine wpAny_pure ⟨plainId_quiet F.plain_min_loop _, codeAny_min_loop_firstS W bt hcmp s₂.heap.objs.size hSf hn (W.frame 0 s₂ _ s₂.toks hst (Nat.le_refl _) fun b _ o e => Heap.get?_push_of_some _ e) (Heap.get?_push_size _ rfl) fun v s' hP hm => ?_⟩
  exact hQ v s' hP (Moved.drop_new (tk := s₂.toks) hm (Nat.le_refl _))
theorem max4_raw {a b c d : Value} {ns : List Int} {Q : Value → Shared → Prop} (hh : A.handled = none) (hi : IntsAre [a, b, c, d] ns) (hne : 0 < ns.length)
    (h : ∀ hp tk m tt, (∀ b o, s.heap.get? b = some o → hp.get? b = some o) → m ∈ ns → (∀ a ∈ ns, a ≤ m) → Q (.int m tt) { s with heap := hp, toks := tk }) :
    wpAny (model prog w) A (call (.builtin "max") [a, b, c, d]) Q E s := by
  have hl : (s.heap.push { cls := .type "tuple", data := .seq #[a, b, c, d] }).IsTuple s.heap.objs.size [a, b, c, d].toArray := ⟨_, Heap.get?_push_size _ rfl, rfl, 0, rfl⟩
  obtain ⟨xs, e⟩ := hi.allInts.items
  have hn : numsOf (intItems xs).toList = ns := (congrArg (fun z => numsOf z.toList) e.symm).trans hi.numsOf
  rw [nums_intItems] at hn
  subst hn
  have hl2 : (s.heap.push { cls := .type "tuple", data := .seq #[a, b, c, d] }).IsTuple s.heap.objs.size (intItems xs) := by rw [← e]; exact hl
  have hz : 0 < xs.size := by simpa using hne
  have e5 : (intItems xs).size = xs.size := by simp [intItems]
  refine call_max_four (PySem.W.iter_tupleW (A := A.in1) hh hl2 fun s2 es W st fp hw hk => ?_)
  refine ⟨_, _, _, _, _, _, _, _, rfl, W, st, fp, by rw [e5]; exact hz, CmpOf.ints_gt (numAt xs) (fun _ _ => intItems_at), fun v s9 hv m => ?_⟩
  obtain ⟨hp, tk, rfl, old⟩ := PySem.W.moved_old es rfl m
  rw [e5] at hv
  obtain ⟨t, rfl⟩ := intItems_at hv
  obtain ⟨g1, g2⟩ := argBest_gt (numAt xs) (xs.size - 1)
  refine h hp tk _ t (fun b o e => old b o (Heap.get?_push_of_some _ e)) ?_ fun a ha => ?_
  · rw [numAt_eq]
    exact PySem.getD_mem (by rw [List.length_map, Array.length_toList]; omega)
  · obtain ⟨j, hj, rfl⟩ := mem_getD ha
    rw [List.length_map, Array.length_toList] at hj
    rw [← numAt_eq]
    exact g2 j (by omega)
theorem min4_raw {a b c d : Value} {ns : List Int} {Q : Value → Shared → Prop} (hh : A.handled = none) (hi : IntsAre [a, b, c, d] ns) (hne : 0 < ns.length)
    (h : ∀ hp tk m tt, (∀ b o, s.heap.get? b = some o → hp.get? b = some o) → m ∈ ns → (∀ a ∈ ns, m ≤ a) → Q (.int m tt) { s with heap := hp, toks := tk }) :
    wpAny (model prog w) A (call (.builtin "min") [a, b, c, d]) Q E s := by
  have hl : (s.heap.push { cls := .type "tuple", data := .seq #[a, b, c, d] }).IsTuple s.heap.objs.size [a, b, c, d].toArray := ⟨_, Heap.get?_push_size _ rfl, rfl, 0, rfl⟩
  obtain ⟨xs, e⟩ := hi.allInts.items
  have hn : numsOf (intItems xs).toList = ns := (congrArg (fun z => numsOf z.toList) e.symm).trans hi.numsOf
  rw [nums_intItems] at hn
  subst hn
  have hl2 : (s.heap.push { cls := .type "tuple", data := .seq #[a, b, c, d] }).IsTuple s.heap.objs.size (intItems xs) := by rw [← e]; exact hl
  have hz : 0 < xs.size := by simpa using hne
  have e5 : (intItems xs).size = xs.size := by simp [intItems]
  refine call_min_four (PySem.W.iter_tupleW (A := A.in1) hh hl2 fun s2 es W st fp hw hk => ?_)
  refine ⟨_, _, _, _, _, _, _, _, rfl, W, st, fp, by rw [e5]; exact hz, CmpOf.ints_lt (numAt xs) (fun _ _ => intItems_at), fun v s9 hv m => ?_⟩
  obtain ⟨hp, tk, rfl, old⟩ := PySem.W.moved_old es rfl m
  rw [e5] at hv
  obtain ⟨t, rfl⟩ := intItems_at hv
  obtain ⟨g1, g2⟩ := argBest_lt (numAt xs) (xs.size - 1)
  refine h hp tk _ t (fun b o e => old b o (Heap.get?_push_of_some _ e)) ?_ fun a ha => ?_
  · rw [numAt_eq]
    exact PySem.getD_mem (by rw [List.length_map, Array.length_toList]; omega)
  · obtain ⟨j, hj, rfl⟩ := mem_getD ha
    rw [List.length_map, Array.length_toList] at hj
    rw [← numAt_eq]
    exact g2 j (by omega)
end
section
variable {K : PySem.W.Frag} {mg : Str → Option Value} {X : Cx} {W : WX}
theorem vals4 {x y z t : V} {us : List Value} (r : Vals [x, y, z, t] us) : ∃ a b c d, us = [a, b, c, d] ∧ RelV x a ∧ RelV y b ∧ RelV z c ∧ RelV t d := by
  cases r with
  | cons r1 r2 => cases r2 with
    | cons r2 r3 => cases r3 with
      | cons r3 r4 => cases r4 with
        | cons r4 r5 => cases r5; exact ⟨_, _, _, _, rfl, r1, r2, r3, r4⟩
theorem cr_max4 (hc : X.calm = true) : CallR X (.builtin "max") (fun xs H Q => ∃ i j k l, xs = [.int i, .int j, .int k, .int l] ∧ Q (.int (greatest [i, j, k, l])) H) := by
  intro pins s σ H xs us Q I r h
  obtain ⟨i, j, k, l, rfl, q⟩ := h
  have rv : Vals ([i, j, k, l].map V.int) us := r
  obtain ⟨a, b, c, d, rfl, _⟩ := vals4 r
  refine max4_raw (I.ok.hd hc) rv.ints (Nat.zero_lt_succ _) fun hp tk m tt old g1 g2 => ⟨.int m, H, I.kept old, ⟨_, rfl⟩, ?_⟩
  rw [greatest_is _ m g1 g2]
  exact q
theorem cr_min4 (hc : X.calm = true) : CallR X (.builtin "min") (fun xs H Q => ∃ i j k l, xs = [.int i, .int j, .int k, .int l] ∧ Q (.int (least [i, j, k, l])) H) := by
  intro pins s σ H xs us Q I r h
  obtain ⟨i, j, k, l, rfl, q⟩ := h
  have rv : Vals ([i, j, k, l].map V.int) us := r
  obtain ⟨a, b, c, d, rfl, _⟩ := vals4 r
  refine min4_raw (I.ok.hd hc) rv.ints (Nat.zero_lt_succ _) fun hp tk m tt old g1 g2 => ⟨.int m, H, I.kept old, ⟨_, rfl⟩, ?_⟩
  rw [least_is _ m g1 g2]
  exact q
theorem Rvs.four {w : Wo} {d1 d2 d3 d4 : D} {vs : List V} (h : Rvs K mg w [d1, d2, d3, d4] vs) : ∃ a b c d, vs = [a, b, c, d] ∧ Rv K mg w d1 a ∧ Rv K mg w d2 b ∧ Rv K mg w d3 c ∧ Rv K mg w d4 d := by
  rw [Rvs] at h
  obtain ⟨a, r, rfl, r1, h⟩ := h
  rw [Rvs] at h
  obtain ⟨b, r, rfl, r2, h⟩ := h
  obtain ⟨c, d, rfl, r3, r4⟩ := h.two
  exact ⟨a, b, c, d, rfl, r1, r2, r3, r4⟩
def dMax4 : DF
  | [.int i, .int j, .int k, .int l], S => .ok (.int (greatest [i, j, k, l])) S
  | _, _ => .bad
def dMin4 : DF
  | [.int i, .int j, .int k, .int l], S => .ok (.int (least [i, j, k, l])) S
  | _, _ => .bad
theorem o_max4 : Opn K mg (fun xs H Q => ∃ i j k l, xs = [.int i, .int j, .int k, .int l] ∧ Q (.int (greatest [i, j, k, l])) H) dMax4 := by
  intro w ds vs Q E ok r h
  unfold dMax4 at h
  split at h
  · obtain ⟨a, b, c, d, rfl, r1, r2, r3, r4⟩ := r.four
    rw [r1.int, r2.int, r3.int, r4.int]
    exact ⟨_, _, _, _, rfl, Fin.now h ok mk_int⟩
  · exact h.elim
theorem o_min4 : Opn K mg (fun xs H Q => ∃ i j k l, xs = [.int i, .int j, .int k, .int l] ∧ Q (.int (least [i, j, k, l])) H) dMin4 := by
  intro w ds vs Q E ok r h
  unfold dMin4 at h
  split at h
  · obtain ⟨a, b, c, d, rfl, r1, r2, r3, r4⟩ := r.four
    rw [r1.int, r2.int, r3.int, r4.int]
    exact ⟨_, _, _, _, rfl, Fin.now h ok mk_int⟩
  · exact h.elim
end

/-! ### x in (a, b, ..), whole tuples -/
section
variable {X : Cx}
open PySem PySem.Spec PyProof.Rows
def rInDT (K : PySem.W.Frag) : R2 := fun x y H Q => ∃ d ds, Dp K H x d ∧ Dp K H y (.tuple ds) ∧ SeqAt.shaped d = true ∧ SeqAt.shaped (.tuple ds) = true ∧ Q (.bl (ds.any fun z => PyData.eqv z d)) H
def rNotInDT (K : PySem.W.Frag) : R2 := fun x y H Q => ∃ d ds, Dp K H x d ∧ Dp K H y (.tuple ds) ∧ SeqAt.shaped d = true ∧ SeqAt.shaped (.tuple ds) = true ∧ Q (.bl (!ds.any fun z => PyData.eqv z d)) H
theorem op_inDT (hu : X.A.units + 65 < cLine) : OpR X (compareOp .In) (rInDT X.K) := by
  intro pins s σ H x y v u Q I rx ry h
  obtain ⟨d, ds, hd, he, sd, se, q⟩ := h
  obtain ⟨as, r1⟩ := Dp.reads I d x v hd rx
  obtain ⟨bs, r2⟩ := Dp.reads I (.tuple ds) y u he ry
  exact SeqAt.in_tuple_reads r2 r1 (SeqAt.canLay_of_shaped se) (SeqAt.canLay_of_shaped sd) (room_in_shaped sd hu) ⟨.bl _, H, I, rfl, q⟩
theorem op_notInDT (hu : X.A.units + 65 < cLine) : OpR X (compareOp .NotIn) (rNotInDT X.K) := by
  intro pins s σ H x y v u Q I rx ry h
  obtain ⟨d, ds, hd, he, sd, se, q⟩ := h
  obtain ⟨as, r1⟩ := Dp.reads I d x v hd rx
  obtain ⟨bs, r2⟩ := Dp.reads I (.tuple ds) y u he ry
  exact SeqAt.notIn_tuple_reads r2 r1 (SeqAt.canLay_of_shaped se) (SeqAt.canLay_of_shaped sd) (room_in_shaped sd hu) ⟨.bl _, H, I, rfl, q⟩
end
section
variable {K : PySem.W.Frag} {mg : Str → Option Value}
def inTR (neg : Bool) (S : Sto) : Option PyData → Option PyData → Res D
  | some d, some (.tuple ds) => if PySem.SeqAt.shaped d = true ∧ PySem.SeqAt.shaped (.tuple ds) = true then .ok (.bl (if neg then !(ds.any fun z => PyData.eqv z d) else ds.any fun z => PyData.eqv z d)) S else .bad
  | _, _ => .bad
def dInT (neg : Bool) (a b : D) (S : Sto) : Res D := inTR neg S (dat S 60 a) (dat S 60 b)
theorem inT_use {w : Wo} {neg : Bool} {a b : D} {R : Res D} (h : R = inTR neg w.S (dat w.S 60 a) (dat w.S 60 b)) (bad : R ≠ .bad) :
    ∃ d ds, dat w.S 60 a = some d ∧ dat w.S 60 b = some (.tuple ds) ∧ PySem.SeqAt.shaped d = true ∧ PySem.SeqAt.shaped (.tuple ds) = true ∧ R = .ok (.bl (if neg then !(ds.any fun z => PyData.eqv z d) else ds.any fun z => PyData.eqv z d)) w.S := by
  cases e1 : dat w.S 60 a with
  | none => rw [e1] at h; exact absurd h bad
  | some d =>
    cases e2 : dat w.S 60 b with
    | none => rw [e1, e2] at h; exact absurd h bad
    | some e =>
      rw [e1, e2] at h
      cases e with
      | tuple ds =>
        unfold inTR at h
        dsimp only at h
        split at h
        · rename_i hs
          exact ⟨d, ds, rfl, rfl, hs.1, hs.2, h⟩
        · exact absurd h bad
      | _ => exact absurd h bad
theorem o_notInT : Op2 K mg (rNotInDT K) (dInT true) := by
  intro w a b v u Q E ok ra rb h
  unfold dInT at h
  by_cases bad : inTR true w.S (dat w.S 60 a) (dat w.S 60 b) = .bad
  · rw [bad] at h; exact h.elim
  · obtain ⟨d, ds, e1, e2, s1, s2, e3⟩ := inT_use rfl bad
    rw [e3] at h
    exact ⟨d, ds, dat_dp ok _ _ _ _ ra e1, dat_dp ok _ _ _ _ rb e2, s1, s2, Fin.now h ok mk_bl⟩
theorem o_inT : Op2 K mg (rInDT K) (dInT false) := by
  intro w a b v u Q E ok ra rb h
  unfold dInT at h
  by_cases bad : inTR false w.S (dat w.S 60 a) (dat w.S 60 b) = .bad
  · rw [bad] at h; exact h.elim
  · obtain ⟨d, ds, e1, e2, s1, s2, e3⟩ := inT_use rfl bad
    rw [e3] at h
    exact ⟨d, ds, dat_dp ok _ _ _ _ ra e1, dat_dp ok _ _ _ _ rb e2, s1, s2, Fin.now h ok mk_bl⟩
end

/-! ### a list or a tuple is walked -/
section
variable {X : Cx} {tg : Expr}
open PySem PySem.Spec PyProof.Rows
def iSeq (K : PySem.W.Frag) (tl : TE) : TI := fun σ H R => tl σ H fun x H1 => (∃ a, x = .ref a ∧ (∃ xs, SqL K H1 a xs) ∧ R (Itl K a) H1) ∨ (∃ a, x = .ref a ∧ (∃ xs, SqT K H1 a xs) ∧ R (Itt K a) H1)
theorem pi_seq {l : Expr} {tl : TE} (hl : PE X l tl) : PI X tg l (iSeq X.K tl) := by
  refine ⟨fun pins s σ H R I h => ?_⟩
  refine thn (hl.run pins s σ H _ I h) fun v s1 ⟨x, H1, I1, r1, q1⟩ => ?_
  rcases q1 with ⟨a, e, ⟨xs, hq⟩, q⟩ | ⟨a, e, ⟨xs, hq⟩, q⟩
  · subst e
    cases r1
    obtain ⟨its, rv, p, hz⟩ := I1.list hq
    refine wpAny_pyIter_list p.isList ?_
    refine ⟨s1.heap.objs.size, [s1.heap.objs.size], _, _, H1, rfl, I1.kept (t' := s1.toks) fun b o e => Heap.get?_push_of_some _ e, turn_list a _, ⟨_, Heap.get?_push_size _ rfl, rfl, rfl⟩, fun b hb => ?_, q⟩
    have e : b = s1.heap.objs.size := by simpa using hb
    subst e
    exact I1.fpOk (Nat.le_refl _) (I1.hok.fresh (Nat.le_refl _))
  · subst e
    cases r1
    obtain ⟨its, rv, p, hz⟩ := I1.tuple hq
    refine wpAny_pyIter_tuple (show s1.heap.IsTuple a its.toArray from p) ?_
    refine ⟨s1.heap.objs.size, [s1.heap.objs.size], _, _, H1, rfl, I1.kept (t' := s1.toks) fun b o e => Heap.get?_push_of_some _ e, turn_tuple a _, ⟨_, Heap.get?_push_size _ rfl, rfl, rfl⟩, fun b hb => ?_, q⟩
    have e : b = s1.heap.objs.size := by simpa using hb
    subst e
    exact I1.fpOk (Nat.le_refl _) (I1.hok.fresh (Nat.le_refl _))
end
section
variable {K : PySem.W.Frag} {mg : Str → Option Value} {W : WX}
def toWalkQ : D → Sto → Res Walked
  | .obj n, S => match lstOf S n with
    | some xs => .ok (xs, sameL n xs) S
    | none => .bad
  | .tup xs, S => .ok (xs, fun _ => True) S
  | _, _ => .bad
def wQ (de : DE) (ρ : Env) (S : Sto) : Res Walked := (de ρ S).bind toWalkQ
theorem io_seq {de : DE} : IOk K mg W (wQ de) (iSeq K (LE K mg W de)) := by
  intro w ρ σ R ok rr h
  refine ⟨w, ok, rfl, ρ, rr, Fin.bind (R' := RI K mg) h fun w1 x v le1 ok1 r1 h1 => ?_⟩
  unfold toWalkQ at h1
  split at h1
  · split at h1
    · rename_i n _ xs e
      obtain ⟨_, rfl⟩ := r1.obj
      obtain ⟨vs, t, rv⟩ := lst_at ok1 e
      refine .inl ⟨_, rfl, ⟨vs, t⟩, Fin.now h1 ok1 ⟨e, fun w2 i d le ok2 e2 hi => ?_, fun w2 le ok2 e2 => ?_⟩⟩
      · obtain ⟨us, t2, rv2⟩ := lst_at ok2 (show lstOf w2.S n = some xs from e2)
        rw [le.ag n r1.obj.1] at t2
        obtain ⟨z, ez, rz⟩ := rv2.get hi
        refine ⟨⟨us, z, t2, ez⟩, fun x H' y => ⟨w2, Wo.Le.refl _, ok2, rfl, y.1.symm, ?_⟩⟩
        have e3 := (y.2 us t2).symm.trans ez
        rw [Option.some.inj e3]
        exact rz
      · obtain ⟨us, t2, rv2⟩ := lst_at ok2 (show lstOf w2.S n = some xs from e2)
        rw [le.ag n r1.obj.1] at t2
        exact ⟨us, t2, by rw [rv2.len]; exact Nat.le_refl _⟩
    · exact h1.elim
  · rename_i xs
    obtain ⟨p, vs, rfl, t, rv⟩ := r1.tup
    refine .inr ⟨_, rfl, ⟨vs, t⟩, Fin.now h1 ok1 ⟨trivial, fun w2 i d le ok2 e2 hi => ?_, fun w2 le ok2 e2 => ?_⟩⟩
    · have t2 := le.tup ok1 t
      obtain ⟨z, ez, rz⟩ := (rv.up ok1 le).get hi
      refine ⟨⟨vs, z, t2, ez⟩, fun x H' y => ⟨w2, Wo.Le.refl _, ok2, rfl, y.1.symm, ?_⟩⟩
      have e3 := (y.2 vs t2).symm.trans ez
      rw [Option.some.inj e3]
      exact rz
    · exact ⟨vs, le.tup ok1 t, by rw [rv.len]; exact Nat.le_refl _⟩
  · exact h1.elim
end

/-! ## dicts whose keys are tuples of numbers and truth values -/
theorem nkI_num {d : D} {k : NestedKey} (h : nkI d = some k) : ∃ i, k = .num i := by
  cases d <;> first
    | (cases h; done)
    | exact ⟨_, (Option.some.inj h).symm⟩
theorem nkL_cons {d : D} {ds : List D} {ks : List NestedKey} (h : nkL (d :: ds) = some ks) : ∃ k r, ks = k :: r ∧ nkI d = some k ∧ nkL ds = some r := by
  unfold nkL at h
  split at h
  · rename_i k r e1 e2
    exact ⟨k, r, (Option.some.inj h).symm, e1, e2⟩
  · cases h
theorem nkL_nil {ks : List NestedKey} (h : nkL [] = some ks) : ks = [] := (Option.some.inj (show some [] = some ks from h)).symm
theorem nkL_hash (w1 w2 : World) : ∀ {ds : List D} {ks : List NestedKey}, nkL ds = some ks → NestedKey.hashes w1 ks = NestedKey.hashes w2 ks
  | [], ks, h => by
    rw [nkL_nil h, NestedKey.hashes, NestedKey.hashes]
  | d :: ds, ks, h => by
    obtain ⟨k, r, rfl, e1, e2⟩ := nkL_cons h
    obtain ⟨i, rfl⟩ := nkI_num e1
    rw [NestedKey.hashes, NestedKey.hashes, nkL_hash w1 w2 e2, NestedKey.hash, NestedKey.hash]
theorem nkL_depth : ∀ {ds : List D} {ks : List NestedKey}, nkL ds = some ks → NestedKey.depthAll ks = 0
  | [], ks, h => by rw [nkL_nil h, NestedKey.depthAll]
  | d :: ds, ks, h => by
    obtain ⟨k, r, rfl, e1, e2⟩ := nkL_cons h
    obtain ⟨i, rfl⟩ := nkI_num e1
    rw [NestedKey.depthAll, nkL_depth e2, NestedKey.depth]
    rfl
theorem nkT_tup {d : D} {k : NestedKey} (h : nkT d = some k) : ∃ ds ks, d = .tup ds ∧ nkL ds = some ks ∧ k = .tup ks := by
  cases d with
  | tup ds =>
    obtain ⟨ks, e1, e2⟩ := Option.map_eq_some_iff.mp (show (nkL ds).map NestedKey.tup = some k from h)
    exact ⟨ds, ks, rfl, e1, e2.symm⟩
  | _ => cases h
/-- a tracked tuple that is a key -/
def nkV : V → Option NestedKey
  | .bl b => some (.num (if b = true then 1 else 0))
  | .int i => some (.num i)
  | _ => none
def NVs : List NestedKey → List V → Prop
  | [], vs => vs = []
  | k :: ks, vs => ∃ v r, vs = v :: r ∧ nkV v = some k ∧ NVs ks r
/-- at b stands the key k -/
def NKey (K : PySem.W.Frag) (H : Hp) (k : NestedKey) (b : Addr) : Prop := ∃ vs ks, SqT K H b vs ∧ k = .tup ks ∧ NVs ks vs ∧ NestedKey.depthAll ks = 0 ∧ ∀ w1 w2 : World, NestedKey.hashes w1 ks = NestedKey.hashes w2 ks
theorem nvs_of {K : PySem.W.Frag} {mg : Str → Option Value} {w : Wo} : ∀ {ds : List D} {ks : List NestedKey} {vs : List V}, nkL ds = some ks → Rvs K mg w ds vs → NVs ks vs
  | [], ks, vs, h, r => by
    rw [nkL_nil h]
    rw [Rvs] at r
    exact r
  | d :: ds, ks, vs, h, r => by
    obtain ⟨k, q, rfl, e1, e2⟩ := nkL_cons h
    rw [Rvs] at r
    obtain ⟨v, q2, e, r1, r2⟩ := r
    refine ⟨v, q2, e, ?_, nvs_of e2 r2⟩
    cases d <;> first
      | (cases e1; done)
      | (first | rw [r1.bl] | rw [r1.int]
         exact e1)
theorem Rv.nkey {K : PySem.W.Frag} {mg : Str → Option Value} {w : Wo} {d : D} {v : V} {k : NestedKey} (r : Rv K mg w d v) (h : nkT d = some k) : ∃ b, v = .ref b ∧ NKey K w.H k b := by
  obtain ⟨ds, ks, rfl, e1, rfl⟩ := nkT_tup h
  obtain ⟨a, vs, rfl, t, r2⟩ := r.tup
  exact ⟨a, rfl, vs, ks, t, rfl, nvs_of e1 r2, nkL_depth e1, fun w1 w2 => nkL_hash w1 w2 e1⟩
theorem nvs_all {h : Heap} : ∀ {ks : List NestedKey} {vs : List V} {us : List Value}, NVs ks vs → Vals vs us → NestedAll h ks us
  | [], vs, us, n, r => by
    have n : vs = [] := n
    subst n
    cases r
    exact .nil
  | k :: ks, vs, us, n, r => by
    obtain ⟨v, q, rfl, e, n2⟩ := n
    cases r with
    | @cons _ u _ us r1 r2 =>
      refine .cons ?_ (nvs_all n2 r2)
      cases v <;> first
        | (cases e; done)
        | (cases Option.some.inj e
           first
            | (have r1 : u = _ := r1; subst r1; exact .bool rfl)
            | (obtain ⟨t, rfl⟩ := r1; exact .int _ _))
/-- at a stands the dict of the entries xs -/
def NDict (K : PySem.W.Frag) (H : Hp) (a : Addr) (xs : List (NestedKey × Addr × Value)) : Prop := H a = some (.ext (DNφ a xs)) ∧ (a == sysModules) = false ∧ xs.length ≤ sizeLine ∧ (xs.map (·.1)).Nodup ∧ ∀ x ∈ xs, NKey K H x.1 x.2.1
section
variable {X : Cx} {pins : List (Addr × Obj)} {σ : St} {H : Hp} {s : Shared}
theorem nkey_is (I : Inv X pins σ H s) {k : NestedKey} {b : Addr} (h : NKey X.K H k b) : (nestedKind X.prog X.w).is s.heap k b := by
  obtain ⟨vs, ks, t, rfl, n, d, _⟩ := h
  obtain ⟨its, r, ⟨o, g1, g2, m, g3⟩, _⟩ := I.tuple t
  refine ⟨.tup g1 g2 g3 (by simpa using nvs_all n r), ?_⟩
  rw [NestedKey.depth, d]
  decide
theorem ndict_raw (I : Inv X pins σ H s) {a : Addr} {xs : List (NestedKey × Addr × Value)} (h : NDict X.K H a xs) : ∃ o es ep, s.heap.get? a = some o ∧ o.ExactDict ∧ o.data = .dict es ep ∧ es.toList = xs.map (entryOfKey (nestedKind X.prog X.w)) := by
  obtain ⟨h1, _⟩ := h
  obtain ⟨⟨o, es, ep, g1, g2, g3, g4⟩, _⟩ := (show ObjOk X.prog X.w H s.heap a (.ext (DNφ a xs)) from I.hok a _ h1)
  exact ⟨o, es, ep, g1, g2, g3, g4 X.w⟩
theorem ndict_of (I : Inv X pins σ H s) {a : Addr} {xs : List (NestedKey × Addr × Value)} (h : NDict X.K H a xs) : s.heap.DictOfH (nestedKind X.prog X.w) a xs := by
  obtain ⟨o, es, ep, g1, g2, g3, g4⟩ := ndict_raw I h
  exact ⟨o, es, ep, g1, g2, g3, g4, fun x hx => nkey_is I (h.2.2.2.2 x hx), h.2.2.2.1⟩
theorem dnφ_ok {P : Program} {w : World} {H : Hp} {h : Heap} {a : Addr} {xs : List (NestedKey × Addr × Value)} (φ : DNφ a xs h) : ObjOk P w H h a (.ext (DNφ a xs)) := by
  have φ2 := φ
  obtain ⟨o, es, ep, g1, _⟩ := φ2
  exact ⟨φ, ⟨o, g1⟩, fun h1 h2 ⟨o, es, ep, g1, g⟩ k => ⟨o, es, ep, k _ g1, g⟩⟩
theorem nroom {A : Around} (hu : A.units + 65 < cLine) : (nestedKind X.prog X.w).room A.in1 := by
  show A.in1.units + 8 < cLine
  rw [Around.in1_units]
  omega
end
/-! ### {} -/
def tDNewN : TE := fun _ H Q => ∀ p, H p = none → (p == sysModules) = false → Q (.ref p) (upd H p (.ext (DNφ p [])))
theorem pe_dnewN {X : Cx} {pos : Pos} : PE X (.Dict [] [] pos) tDNewN := ⟨fun pins s σ H Q I h =>
  wpAny_Dict_empty ⟨.ref s.heap.objs.size, _, I.laid (a := s.heap.objs.size) (o := .ext (DNφ s.heap.objs.size [])) (t' := s.toks) (fun _ _ q => Heap.get?_push_of_some _ q) (Nat.le_refl _)
    (dnφ_ok ⟨_, #[], 0, Heap.get?_push_size _ rfl, ⟨rfl, rfl, rfl⟩, rfl, fun _ => rfl⟩), rfl, h _ (I.hok.fresh (Nat.le_refl _)) (beq_eq_false_iff_ne.mpr (Ne.symm (Nat.ne_of_lt I.big)))⟩⟩
/-! ### d[k], k in d, d.get(k, e), d[k] = e -/
def rNGet (K : PySem.W.Frag) : R2 := fun x y H Q => ∃ a b k xs p, x = .ref a ∧ y = .ref b ∧ NDict K H a xs ∧ NKey K H k b ∧ atKey xs k = some p ∧ ∃ v, RelV v p.2 ∧ Q v H
def rNIn (K : PySem.W.Frag) (neg : Bool) : R2 := fun y x H Q => ∃ a b k xs, x = .ref a ∧ y = .ref b ∧ NDict K H a xs ∧ NKey K H k b ∧ Q (.bl (if neg then !(atKey xs k).isSome else (atKey xs k).isSome)) H
def rNGet2 (K : PySem.W.Frag) (x y z : V) (H : Hp) (Q : VK) : Prop := ∃ a b k xs, x = .ref a ∧ y = .ref b ∧ NDict K H a xs ∧ NKey K H k b ∧ (∀ p, atKey xs k = some p → ∃ v, RelV v p.2 ∧ Q v H) ∧ (atKey xs k = none → Q z H)
def tNGet2 (K : PySem.W.Frag) (td ty tx : TE) : TE := fun σ H Q => td σ H fun x H1 => ∃ a xs, x = .ref a ∧ NDict K H1 a xs ∧ ty σ H1 fun y H2 => tx σ H2 fun z H3 => rNGet2 K x y z H3 Q
def rNPut (K : PySem.W.Frag) (x y z : V) (H : Hp) (Q : Hp → Prop) : Prop := ∃ a b k xs, x = .ref a ∧ y = .ref b ∧ NDict K H a xs ∧ NKey K H k b ∧ xs.length < sizeLine ∧ ∀ u, RelV z u → Q (upd H a (.ext (DNφ a (storedH xs k b u))))
section
variable {X : Cx} {o i e f value : Expr} {td ty tx tv : TE} {pos pos' apos cpos : Pos}
theorem pe_nget (hu : X.A.units + 65 < cLine) (ho : PE X o td) (hi : PE X i ty) (hs : NoSl i) : PE X (.Subscript o i pos) (tOp (rNGet X.K) td ty) := by
  refine ⟨fun pins s σ H Q I h => ?_⟩
  refine subD_of PySem.F.slot_dict_getitem.lookup hs (thn (ho.run pins s σ H _ I h) fun u s1 ⟨x, H1, I1, rx, q1⟩ => thn (hi.run pins s1 σ H1 _ I1 q1) fun iv s2 ⟨y, H2, I2, ry, a, b, k, xs, p, ex, ey, nd, nk, at', v, rv, q2⟩ => ?_)
  subst ex ey
  obtain rfl : u = Value.ref a := rx
  obtain rfl : iv = Value.ref b := ry
  have dd := ndict_of I2 nd
  exact ⟨dd.typeIs, wpAny_getItem_heap (nroom (X := X) hu) (nkey_is I2 nk) dd at' ⟨v, H2, I2.tok _, rv, q2⟩⟩
theorem or_nin (hu : X.A.units + 65 < cLine) : OpR X (compareOp .In) (rNIn X.K false) := by
  intro pins s σ H x y v u Q I rx ry h
  obtain ⟨a, b, k, xs, rfl, rfl, nd, nk, q⟩ := h
  cases rx
  cases ry
  exact wpAny_in_heap (nroom (X := X) hu) (nkey_is I nk) nd.2.1 (ndict_of I nd) ⟨.bl _, H, I.tok _, rfl, q⟩
theorem or_nnotin (hu : X.A.units + 65 < cLine) : OpR X (compareOp .NotIn) (rNIn X.K true) := by
  intro pins s σ H x y v u Q I rx ry h
  obtain ⟨a, b, k, xs, rfl, rfl, nd, nk, q⟩ := h
  cases rx
  cases ry
  exact notIn_keyed (nroom (X := X) hu) (nkey_is I nk) nd.2.1 ⟨xs, ndict_of I nd, rfl⟩ (by
    rw [valueAt_pairsH, Option.isSome_map]
    exact ⟨.bl _, H, I.tok _, rfl, q⟩)
theorem pe_nget2 (hu : X.A.units + 65 < cLine) (ho : PE X o td) (he : PE X e ty) (hf : PE X f tx) (m : M2 X o "get" apos e f cpos) : PE X (.Call (.Attribute o "get" apos) [e, f] [] cpos) (tNGet2 X.K td ty tx) := by
  refine ⟨fun pins s σ H Q I h => ?_⟩
  refine wpAny_Call_method m.base m.few m.line PySem.F.plainAttrs_dict PySem.F.slot_dict_get PySem.F.type_dict_get (thn (ho.run pins s σ H _ I h) fun u s1 ⟨x, H1, I1, rx, a, xs, ex, d, q1⟩ => ?_)
  subst ex
  obtain rfl : u = Value.ref a := rx
  have dd := ndict_of I1 d
  have t1 := dd.typeIs
  refine ⟨t1, ?_, ?_⟩
  · intro b q
    cases q
    obtain ⟨ob, es, ep, g1, g2, _⟩ := ndict_raw I1 d
    exact ⟨ob, g1, g2.2.1⟩
  · rw [m.trees]
    refine Calls.callWith_builtin rfl (Calls.evalArgs_plain (Calls.spliced_cons (thn (he.run pins s1 σ H1 _ I1 q1) fun iv s2 ⟨y, H2, I2, ry, q2⟩ =>
      Calls.spliced_cons (thn (hf.run pins s2 σ H2 _ I2 q2) fun fv s3 ⟨z, H3, I3, rz, a2, b, k, xs, ex, ey, nd, nk, g1, g2⟩ => Calls.spliced_nil ?_))))
    cases ex
    subst ey
    obtain rfl : iv = Value.ref b := ry
    have dd3 := ndict_of I3 nd
    refine call_meetsIn PySem.F.slot_dict_get dd3.typeIs PySem.F.entry_dict_get (PySem.F.args_dict_get_3 _ _ _) (meetsH_dict_get_default (nestedKind X.prog X.w) a b nd.2.1 fv) ⟨nroom (X := X) hu, k, xs, nkey_is I3 nk, dd3, ?_⟩
    cases e1 : atKey xs k with
    | some p =>
      obtain ⟨v, rv, q⟩ := g1 p e1
      exact ⟨v, H3, I3.tok _, rv, q⟩
    | none => exact ⟨z, H3, I3.tok _, rz, g2 e1⟩
end
/-- d[k] = e -/
def sDPutN (K : PySem.W.Frag) (td ty tv : TE) : TS := fun D σ H => tv σ H fun v H1 => td σ H1 fun x H2 => ty σ H2 fun y H3 => rNPut K x y v H3 fun H4 => D.nx σ H4
section
variable {X : Cx} {o i value : Expr} {td ty tv : TE} {pos pos' : Pos}
theorem ps_nput (hu : X.A.units + 65 < cLine) (ho : PE X o td) (hi : PE X i ty) (hv : PE X value tv) (hs : swapsWith value (some (.Subscript o i pos')) pos.line X.env = pure false) :
    PS X (.Assign [.Subscript o i pos'] value pos) (sDPutN X.K td ty tv) := by
  refine ⟨fun pins s σ H D I h => ?_⟩
  refine wpAny_Assign_Subscript (thn (hv.run pins s σ H _ I h) fun r s1 ⟨v, H1, I1, rv, q1⟩ => thn (ho.run pins s1 σ H1 _ I1 q1) fun u s2 ⟨x, H2, I2, rx, q2⟩ => thn (hi.run pins s2 σ H2 _ I2 q2) fun iv s3 ⟨y, H3, I3, ry, a, b, k, xs, ex, ey, nd, nk, hl, q3⟩ => ?_) hs
  subst ex ey
  obtain rfl : u = Value.ref a := rx
  obtain rfl : iv = Value.ref b := ry
  refine wpAny_setItem_heap (hsz := Nat.le_of_lt hl) (nroom (X := X) hu) (nkey_is I3 nk) (ndict_of I3 nd) fun h' dd' hs' => ?_
  obtain ⟨q, es, ep, hq, h2, h3, h4, _, h5⟩ := dd'
  refine ⟨σ, _, d_write I3 (by rw [nd.1]; exact True.intro) hs' ⟨q, hq⟩ (dnφ_ok ⟨q, es, ep, hq, h2, h3, fun wd => ?_⟩), q3 r rv⟩
  have hh : ∀ x ∈ storedH xs k b r, x.1.hash X.w = x.1.hash wd := by
    have h0 : ∀ x ∈ xs, x.1.hash X.w = x.1.hash wd := fun x hx => by
      obtain ⟨vs, ks, _, e, _, _, hw⟩ := nd.2.2.2.2 x hx
      rw [e, NestedKey.hash, NestedKey.hash, hw X.w wd]
    have h1 : k.hash X.w = k.hash wd := by
      obtain ⟨vs, ks, _, e, _, _, hw⟩ := nk
      rw [e, NestedKey.hash, NestedKey.hash, hw X.w wd]
    intro x hx
    unfold storedH at hx
    split at hx
    · obtain ⟨y, hy, rfl⟩ := List.mem_map.mp hx
      have := h0 y hy
      unfold putAt
      split
      · exact this
      · exact this
    · rcases List.mem_append.mp hx with hx | hx
      · exact h0 x hx
      · rw [List.mem_singleton.mp hx]
        exact h1
  rw [h4]
  refine List.map_congr_left fun x hx => ?_
  show DictEntry.mk (x.1.hash X.w) _ _ = _
  rw [hh x hx]
end
/-! ### the lifted forms -/
section
variable {K : PySem.W.Frag} {mg : Str → Option Value} {X : Cx} {W : WX}
def getN (kvs : List (D × D)) (q : NestedKey) : Option D := (kvs.find? fun p => decide (nkT p.1 = some q)).map (·.2)
def putN (kvs : List (D × D)) (k : D) (q : NestedKey) (d : D) : List (D × D) :=
  if (kvs.any fun p => decide (nkT p.1 = some q)) = true then kvs.map (fun p => if nkT p.1 = some q then (p.1, d) else p) else kvs ++ [(k, d)]
theorem getN_pos {p : D × D} {r : List (D × D)} {q : NestedKey} (e : nkT p.1 = some q) : getN (p :: r) q = some p.2 := by simp [getN, List.find?_cons, e]
theorem getN_neg {p : D × D} {r : List (D × D)} {q : NestedKey} (e : ¬ nkT p.1 = some q) : getN (p :: r) q = getN r q := by simp [getN, List.find?_cons, e]
theorem atKey_pos {α : Type} [DecidableEq α] {x : α × Addr × Value} {r : List (α × Addr × Value)} {k : α} (e : x.1 = k) : atKey (x :: r) k = some x.2 := by simp [atKey, List.find?_cons, e]
theorem atKey_neg {α : Type} [DecidableEq α] {x : α × Addr × Value} {r : List (α × Addr × Value)} {k : α} (e : ¬ x.1 = k) : atKey (x :: r) k = atKey r k := by simp [atKey, List.find?_cons, e]
theorem Rdn.get {w : Wo} (q : NestedKey) : ∀ {ps : List (D × D)} {xs : List (NestedKey × Addr × Value)}, Rdn K mg w ps xs → (∀ d, getN ps q = some d → ∃ p, atKey xs q = some p ∧ ∃ v, Rv K mg w d v ∧ RelV v p.2) ∧ (getN ps q = none → atKey xs q = none)
  | [], xs, r => by
    have e : xs = [] := r
    subst e
    exact ⟨fun d h => (by cases h), fun _ => rfl⟩
  | p :: ps, xs, r => by
    obtain ⟨k, b, u, r', e, e2, r1, r2, r4⟩ := r
    subst e
    by_cases h : k = q
    · have h' : nkT p.1 = some q := by rw [e2, h]
      rw [getN_pos h', atKey_pos (x := (k, b, u)) h]
      refine ⟨fun d e => ⟨_, rfl, ?_⟩, fun e => by cases e⟩
      rw [← Option.some.inj e]
      exact r2
    · have h' : ¬ nkT p.1 = some q := by
        rw [e2]
        exact fun z => h (Option.some.inj z)
      rw [getN_neg h', atKey_neg (x := (k, b, u)) h]
      exact Rdn.get q r4
theorem Rdn.any {w : Wo} (q : NestedKey) : ∀ {ps : List (D × D)} {xs : List (NestedKey × Addr × Value)}, Rdn K mg w ps xs → (ps.any fun p => decide (nkT p.1 = some q)) = (atKey xs q).isSome
  | [], xs, r => by
    have e : xs = [] := r
    subst e
    rfl
  | p :: ps, xs, r => by
    obtain ⟨k, b, u, r', e, e2, r1, r2, r4⟩ := r
    subst e
    rw [List.any_cons, Rdn.any q r4]
    by_cases h : k = q
    · have h' : nkT p.1 = some q := by rw [e2, h]
      rw [atKey_pos (x := (k, b, u)) h, decide_eq_true h']
      rfl
    · have h' : ¬ nkT p.1 = some q := by
        rw [e2]
        exact fun z => h (Option.some.inj z)
      rw [atKey_neg (x := (k, b, u)) h, decide_eq_false h', Bool.false_or]
theorem Rdn.mapPut {w : Wo} {q : NestedKey} {d : D} {v : V} {u : Value} (h : Rv K mg w d v) (hu : RelV v u) : ∀ {ps : List (D × D)} {xs : List (NestedKey × Addr × Value)}, Rdn K mg w ps xs → Rdn K mg w (ps.map fun p => if nkT p.1 = some q then (p.1, d) else p) (xs.map (putAt q u))
  | [], xs, r => by
    have e : xs = [] := r
    subst e
    exact rfl
  | p :: ps, xs, r => by
    obtain ⟨k, b, u', r', e, e2, r1, r2, r4⟩ := r
    subst e
    have ih := Rdn.mapPut (q := q) h hu r4
    by_cases hk : k = q
    · have h' : nkT p.1 = some q := by rw [e2, hk]
      refine ⟨k, b, u, r'.map (putAt q u), ?_, ?_, ?_, ?_, ih⟩
      · simp [putAt, hk]
      · dsimp only; rw [if_pos h']; exact e2
      · dsimp only; rw [if_pos h']; exact r1
      · dsimp only; rw [if_pos h']; exact ⟨v, h, hu⟩
    · have h' : ¬ nkT p.1 = some q := by
        rw [e2]
        exact fun z => hk (Option.some.inj z)
      refine ⟨k, b, u', r'.map (putAt q u), ?_, ?_, ?_, ?_, ih⟩
      · simp [putAt, hk]
      · dsimp only; rw [if_neg h']; exact e2
      · dsimp only; rw [if_neg h']; exact r1
      · dsimp only; rw [if_neg h']; exact r2
theorem Rdn.snoc {w : Wo} {kd : D} {q : NestedKey} {b : Addr} {d : D} {v : V} {u : Value} (hk : nkT kd = some q) (hb : Rv K mg w kd (.ref b)) (h : Rv K mg w d v) (hu : RelV v u) : ∀ {ps : List (D × D)} {xs : List (NestedKey × Addr × Value)}, Rdn K mg w ps xs → Rdn K mg w (ps ++ [(kd, d)]) (xs ++ [(q, b, u)])
  | [], xs, r => by
    have e : xs = [] := r
    subst e
    exact ⟨q, b, u, [], rfl, hk, hb, ⟨v, h, hu⟩, rfl⟩
  | p :: ps, xs, r => by
    obtain ⟨k, b', u', r', e, e2, r1, r2, r4⟩ := r
    subst e
    exact ⟨k, b', u', _, rfl, e2, r1, r2, Rdn.snoc hk hb h hu r4⟩
theorem Rdn.put {w : Wo} {kd : D} {q : NestedKey} {b : Addr} {d : D} {v : V} {u : Value} (hk : nkT kd = some q) (hb : Rv K mg w kd (.ref b)) (h : Rv K mg w d v) (hu : RelV v u) {ps : List (D × D)} {xs : List (NestedKey × Addr × Value)} (r : Rdn K mg w ps xs) : Rdn K mg w (putN ps kd q d) (storedH xs q b u) := by
  unfold putN storedH
  rw [r.any q]
  split
  · exact r.mapPut h hu
  · exact Rdn.snoc hk hb h hu r
theorem Rdn.len {w : Wo} : ∀ {ps : List (D × D)} {xs : List (NestedKey × Addr × Value)}, Rdn K mg w ps xs → xs.length = ps.length
  | [], xs, r => by
    have e : xs = [] := r
    subst e
    rfl
  | p :: ps, xs, r => by
    obtain ⟨k, b, u, r', e, e2, r1, r2, r4⟩ := r
    rw [e, List.length_cons, List.length_cons, Rdn.len r4]
theorem Rdn.keys {w : Wo} : ∀ {ps : List (D × D)} {xs : List (NestedKey × Addr × Value)}, Rdn K mg w ps xs → ∀ x ∈ xs, NKey K w.H x.1 x.2.1
  | [], xs, r, x, hx => by
    have e : xs = [] := r
    rw [e] at hx
    cases hx
  | p :: ps, xs, r, x, hx => by
    obtain ⟨k, b, u, r', e, e2, r1, r2, r4⟩ := r
    rw [e] at hx
    rcases List.mem_cons.mp hx with hx | hx
    · obtain ⟨b', eb, nk⟩ := r1.nkey e2
      cases eb
      rw [hx]
      exact nk
    · exact Rdn.keys r4 x hx
def dnOf (S : Sto) (n : Nat) : Option (List (D × D)) := match S[n]? with
  | some (.dn kvs) => some kvs
  | _ => none
theorem dn_at {w : Wo} (ok : w.Ok K mg) {n : Nat} {kvs : List (D × D)} (h : dnOf w.S n = some kvs) : w.S[n]? = some (.dn kvs) ∧ ∃ xs, NDict K w.H (w.m n) xs ∧ Rdn K mg w kvs xs := by
  unfold dnOf at h
  split at h
  · rename_i e
    cases Option.some.inj h
    obtain ⟨xs, h1, h2, h3, h4, h5⟩ := ok.has _ _ e
    exact ⟨e, xs, ⟨h1, h2, h3, h4, h5.keys⟩, h5⟩
  · cases h
def eDNewN (_ : Env) (S : Sto) : Res D := .ok (.obj S.length) (S ++ [.dn []])
theorem l_dnewN {pos : Pos} : PE X (.Dict [] [] pos) (LE X.K X.mg W eDNewN) := pe_dnewN.imp fun σ H Q h => by
  obtain ⟨w, ok, rfl, ρ, rr, h⟩ := h
  exact fun p hp hs => Fin.add h ok hp fun le => ⟨[], upd_same, hs, Nat.zero_le _, List.nodup_nil, rfl⟩
def lookNK (q : Option NestedKey) : Option (List (D × D)) → Option (Option D)
  | some kvs => q.map (getN kvs)
  | none => none
def lookN (a k : D) (S : Sto) : Option (Option D) := match a with
  | .obj n => lookNK (nkT k) (dnOf S n)
  | _ => none
theorem lookN_at {w : Wo} (ok : w.Ok K mg) {a k : D} {u v : V} {o : Option D} (ra : Rv K mg w a u) (rk : Rv K mg w k v) (h : lookN a k w.S = some o) :
    ∃ c b q xs, u = .ref c ∧ v = .ref b ∧ NDict K w.H c xs ∧ NKey K w.H q b ∧ (∀ d, o = some d → ∃ p, atKey xs q = some p ∧ ∃ z, Rv K mg w d z ∧ RelV z p.2) ∧ (o = none → atKey xs q = none) := by
  unfold lookN at h
  split at h
  · rename_i n
    obtain ⟨_, rfl⟩ := ra.obj
    cases e1 : dnOf w.S n with
    | none => rw [e1] at h; cases h
    | some kvs =>
      rw [e1] at h
      obtain ⟨q, e2, e3⟩ := Option.map_eq_some_iff.mp (show (nkT k).map (getN kvs) = some o from h)
      obtain ⟨_, xs, nd, rd⟩ := dn_at ok e1
      obtain ⟨b, rfl, nk⟩ := rk.nkey e2
      obtain ⟨g1, g2⟩ := rd.get q
      subst e3
      exact ⟨_, b, q, xs, rfl, rfl, nd, nk, g1, g2⟩
  · cases h
def dNGet (a k : D) (S : Sto) : Res D := getR S (lookN a k S)
theorem o_nget : Op2 K mg (rNGet K) dNGet := by
  intro w a k u v Q E ok ra rk h
  unfold dNGet at h
  cases e : lookN a k w.S with
  | none => rw [e] at h; exact h.elim
  | some o =>
    rw [e] at h
    cases o with
    | none => exact h.elim
    | some d =>
      obtain ⟨c, b, q, xs, rfl, rfl, nd, nk, g1, _⟩ := lookN_at ok ra rk e
      obtain ⟨p, hp, z, rz, rel⟩ := g1 d rfl
      exact ⟨c, b, q, xs, p, rfl, rfl, nd, nk, hp, z, rel, Fin.now h ok rz⟩
variable {o i e f value : Expr} {pos pos' apos cpos : Pos} {da dk dx : DE}
theorem l_nget (hu : X.A.units + 65 < cLine) (ho : PE X o (LE X.K X.mg W da)) (hi : PE X i (LE X.K X.mg W dk)) (hs : NoSl i) : PE X (.Subscript o i pos) (LE X.K X.mg W (eOp dNGet da dk)) := (pe_nget hu ho hi hs).imp fun _ _ _ => i_op o_nget
def dNIn (neg : Bool) (k a : D) (S : Sto) : Res D := hasR neg S (lookN a k S)
theorem o_nin (neg : Bool) : Op2 K mg (rNIn K neg) (dNIn neg) := by
  intro w k a v u Q E ok rk ra h
  unfold dNIn at h
  cases e : lookN a k w.S with
  | none => rw [e] at h; exact h.elim
  | some o =>
    rw [e] at h
    obtain ⟨c, b, q, xs, rfl, rfl, nd, nk, g1, g2⟩ := lookN_at ok ra rk e
    have es : o.isSome = (atKey xs q).isSome := by
      cases o with
      | none => rw [g2 rfl]; rfl
      | some d =>
        obtain ⟨p, hp, _⟩ := g1 d rfl
        rw [hp]
        rfl
    have h : Fin K mg w (Rv K mg) (.ok (.bl (if neg then !o.isSome else o.isSome)) w.S) Q E := h
    rw [es] at h
    exact ⟨c, b, q, xs, rfl, rfl, nd, nk, Fin.now h ok mk_bl⟩
def isDn (a : D) (S : Sto) : Bool := match a with
  | .obj n => (dnOf S n).isSome
  | _ => false
def dNGet2 (a k x : D) (S : Sto) : Res D := get2R x S (lookN a k S)
def eNGet2c (dx : DE) (ρ : Env) (a k : D) (S2 : Sto) : Res D := (dx ρ S2).bind (dNGet2 a k)
def eNGet2b (dk dx : DE) (ρ : Env) (a : D) (S1 : Sto) : Res D := if isDn a S1 = true then (dk ρ S1).bind (eNGet2c dx ρ a) else .bad
def eNGet2 (da dk dx : DE) (ρ : Env) (S : Sto) : Res D := (da ρ S).bind (eNGet2b dk dx ρ)
theorem l_nget2 (hu : X.A.units + 65 < cLine) (ho : PE X o (LE X.K X.mg W da)) (he : PE X e (LE X.K X.mg W dk)) (hf : PE X f (LE X.K X.mg W dx)) (m : M2 X o "get" apos e f cpos) : PE X (.Call (.Attribute o "get" apos) [e, f] [] cpos) (LE X.K X.mg W (eNGet2 da dk dx)) := (pe_nget2 hu ho he hf m).imp fun σ H Q h => by
  obtain ⟨w, ok, rfl, ρ, rr, h⟩ := h
  refine ⟨w, ok, rfl, ρ, rr, h.bind fun w1 x v le1 ok1 r1 h1 => ?_⟩
  unfold eNGet2b at h1
  by_cases hd : isDn x w1.S = true
  · rw [if_pos hd] at h1
    cases x with
    | obj n =>
      obtain ⟨kvs, e1⟩ := Option.isSome_iff_exists.mp (show (dnOf w1.S n).isSome = true from hd)
      obtain ⟨_, xs, nd, _⟩ := dn_at ok1 e1
      have rr1 := rr.up ok le1
      refine ⟨w1.m n, xs, r1.obj.2, nd, w1, ok1, rfl, ρ, rr1, h1.bind fun w2 y u le2 ok2 r2 h2 => ?_⟩
      refine ⟨w2, ok2, rfl, ρ, rr1.up ok1 le2, h2.bind fun w3 z t le3 ok3 r3 h3 => ?_⟩
      unfold dNGet2 at h3
      cases e2 : lookN (.obj n) y w3.S with
      | none => rw [e2] at h3; exact h3.elim
      | some od =>
        rw [e2] at h3
        obtain ⟨c, b, q, xs, e3, e4, nd, nk, g1, g2⟩ := lookN_at ok3 ((r1.up ok1 le2).up ok2 le3) (r2.up ok2 le3) e2
        refine ⟨c, b, q, xs, e3, e4, nd, nk, fun p hp => ?_, fun hn => ?_⟩
        · cases od with
          | none => rw [g2 rfl] at hp; cases hp
          | some d =>
            obtain ⟨p', hp', z', rz, rel⟩ := g1 d rfl
            rw [hp] at hp'
            cases hp'
            exact ⟨z', rel, h3.now ok3 rz⟩
        · cases od with
          | none => exact h3.now ok3 r3
          | some d =>
            obtain ⟨p', hp', _⟩ := g1 d rfl
            rw [hn] at hp'
            cases hp'
    | _ => cases hd
  · rw [if_neg hd] at h1
    exact h1.elim
def putNQ (ρ : Env) (S : Sto) (n : Nat) (x k : D) : Option (List (D × D)) → Option NestedKey → RS
  | some kvs, some q => if kvs.length < sizeLine then .nx ρ (S.set n (.dn (putN kvs k q x))) else .bad
  | _, _ => .bad
def putN3 (x a k : D) (ρ : Env) (S : Sto) : RS := match a with
  | .obj n => putNQ ρ S n x k (dnOf S n) (nkT k)
  | _ => .bad
def putN2 (dk : DE) (x a : D) (ρ : Env) (S : Sto) : RS := bindR (putN3 x a) ρ (dk ρ S)
def putN1 (da dk : DE) (x : D) (ρ : Env) (S : Sto) : RS := bindR (putN2 dk x) ρ (da ρ S)
def dPutN (dx da dk : DE) (ρ : Env) (S : Sto) : RS := bindR (putN1 da dk) ρ (dx ρ S)
theorem storedH_nodup {xs : List (NestedKey × Addr × Value)} (q : NestedKey) (b : Addr) (u : Value) (h : (xs.map (·.1)).Nodup) : ((storedH xs q b u).map (·.1)).Nodup := by
  unfold storedH
  split
  · have e : (xs.map (putAt q u)).map (·.1) = xs.map (·.1) := by
      rw [List.map_map]
      refine List.map_congr_left fun x _ => ?_
      show (putAt q u x).1 = x.1
      unfold putAt
      split <;> rfl
    rw [e]
    exact h
  · rename_i hn
    rw [List.map_append, List.map_cons, List.map_nil]
    refine List.nodup_append.mpr ⟨h, by simp, fun a ha b' hb e => hn ?_⟩
    rw [List.mem_singleton.mp hb] at e
    obtain ⟨x, hx, rfl⟩ := List.mem_map.mp ha
    unfold atKey
    rw [Option.isSome_map, List.find?_isSome]
    exact ⟨x, hx, decide_eq_true e⟩
theorem storedH_len {xs : List (NestedKey × Addr × Value)} (q : NestedKey) (b : Addr) (u : Value) : (storedH xs q b u).length ≤ xs.length + 1 := by
  unfold storedH
  split
  · rw [List.length_map]; exact Nat.le_succ _
  · rw [List.length_append]; exact Nat.le_refl _
theorem ls_putN (hu : X.A.units + 65 < cLine) (hv : PE X e (LE X.K X.mg W dx)) (ho : PE X o (LE X.K X.mg W da)) (hi : PE X i (LE X.K X.mg W dk)) (hs : swapsWith e (some (.Subscript o i pos')) pos.line X.env = pure false) :
    PS X (.Assign [.Subscript o i pos'] e pos) (LS X.K X.mg W (dPutN dx da dk)) := (ps_nput hu ho hi hv hs).imp fun D' σ H h => by
  obtain ⟨w, ok, rfl, ρ, rr, h⟩ := h
  refine ⟨w, ok, rfl, ρ, rr, FinS.ofBind ok rr h fun w1 x v le1 ok1 r1 rr1 h1 => ?_⟩
  refine ⟨w1, ok1, rfl, ρ, rr1, FinS.ofBind ok1 rr1 h1 fun w2 y u le2 ok2 r2 rr2 h2 => ?_⟩
  refine ⟨w2, ok2, rfl, ρ, rr2, FinS.ofBind ok2 rr2 h2 fun w3 z t le3 ok3 r3 rr3 h3 => ?_⟩
  unfold putN3 at h3
  split at h3
  · rename_i n
    cases e1 : dnOf w3.S n with
    | none => rw [e1] at h3; exact h3.elim
    | some kvs =>
      cases e2 : nkT z with
      | none => rw [e1, e2] at h3; exact h3.elim
      | some q =>
        rw [e1, e2] at h3
        have h3 : FinS X.K X.mg W w3 (if kvs.length < sizeLine then .nx ρ (w3.S.set n (.dn (putN kvs z q x))) else .bad) D' := h3
        by_cases hl : kvs.length < sizeLine
        · rw [if_pos hl] at h3
          obtain ⟨e3, xs, nd, rd⟩ := dn_at ok3 e1
          have r2 := r2.up ok2 le3
          obtain ⟨hn, rfl⟩ := r2.obj
          have r1 := (r1.up ok1 le2).up ok2 le3
          obtain ⟨b, rfl, nk⟩ := r3.nkey e2
          refine ⟨_, b, q, xs, rfl, rfl, nd, nk, by rw [rd.len]; exact hl, fun uv ruv => ?_⟩
          have le4 := Wo.put_le (o := .dn (putN kvs z q x)) (u := .ext (DNφ (w3.m n) (storedH xs q b uv))) hn
          refine h3 (w3.put n (.dn (putN kvs z q x)) (.ext (DNφ (w3.m n) (storedH xs q b uv)))) σ le4 (Wo.put_ok ok3 hn ⟨_, upd_same, nd.2.1, ?_, storedH_nodup q b uv nd.2.2.2.1, (rd.put e2 r3 r1 ruv).mono fun d v r => r.up ok3 le4 d v⟩) rfl (rr3.up ok3 le4)
          have := storedH_len (xs := xs) q b uv
          rw [rd.len] at this
          omega
        · rw [if_neg hl] at h3
          exact h3.elim
  · exact h3.elim
end
/-! ### sorted(d) -/
open PySem.W in
/-- list.sort of values that read as data -/
theorem sort_core {P : Program} {w : World} {A : Around} {E : Value → Shared → Prop} {s : Shared} {h0 : Heap} {a : Addr} {vs : List Value} {zs : List (PyData × Addr)} {R : PySem.Fin → Shared → Prop}
    (ho : s.heap.get? a = some (PyProof.Rows.seqObj "list" vs.toArray 0)) (ev : vs = zs.map fun z => Value.ref z.2) (hk : ∀ b o, h0.get? b = some o → b ≠ a ∧ s.heap.get? b = some o) (hr : ∀ z ∈ zs, ∃ as, Reads h0 (.ref z.2) z.1 as)
    (hal : AllAlike (zs.map (·.1))) (hs : zs.length < 2 ∨ Sortable (zs.map (·.1))) (hd : ∀ z ∈ zs, A.units + z.1.depth < cLine) (hz : vs.length ≤ sizeLine)
    (h : ∀ out : List Value, out = (zs.mergeSort (dataLe false (·.1))).map (fun z => Value.ref z.2) → R (.done (.ret .none)) { s with heap := PyProof.Rows.sortedHeap s.heap a vs out.toArray }) :
    wpAny (model P w) A (Builtin.«list.sort» ⟨[.ref a], []⟩) R E s := by
  have hl : vs.length = zs.length := by rw [ev, List.length_map]
  by_cases h2 : zs.length < 2
  · refine SrtO.list_sort_ord (ltv := fun _ _ => false) ⟨fun _ _ _ => rfl, fun _ _ _ _ _ => rfl⟩ ho hz (fun hh => absurd hh (by omega)) fun out o1 o2 => h out ?_
    have p := o2.perm
    have e1 : zs.mergeSort (dataLe false (·.1)) = zs := by
      match zs, h2 with
      | [], _ => exact List.mergeSort_nil
      | [z], _ => exact List.mergeSort_singleton z
      | _ :: _ :: _, h => exact absurd h (by simp)
    rw [e1, ← ev]
    match vs, hl, h2, p with
    | [], _, _, p => exact p.eq_nil
    | [v], _, _, p => exact p.eq_singleton
    | _ :: _ :: _, hl, h2, _ =>
      rw [← hl] at h2
      exact absurd h2 (by simp)
  · have hk2 : Sortable (zs.map (·.1)) := hs.resolve_left h2
    have er : ∀ (l : List (PyData × Addr)), (∀ z ∈ l, z ∈ zs) → EachIs (fun v d => ∃ as, Reads (sortingHeap s.heap a vs) v d as) (l.map fun z => Value.ref z.2) (l.map (·.1)) := by
      intro l
      induction l with
      | nil => exact fun _ => .nil
      | cons z l ih =>
        intro hm
        obtain ⟨as, r⟩ := hr z (hm z List.mem_cons_self)
        refine .cons ⟨as, PyProof.Rows.Reads.keeps (fun b o e => ?_) r⟩ (ih fun y hy => hm y (List.mem_cons_of_mem _ hy))
        obtain ⟨n1, n2⟩ := hk b o e
        exact sortingHeap_old n1 n2
    have er0 := er zs fun _ h => h
    rw [← ev] at er0
    have e3 : ∀ (l : List (PyData × Addr)), EachIs (fun v z => v = Value.ref z.2) (l.map fun z : PyData × Addr => Value.ref z.2) l := by
      intro l
      induction l with
      | nil => exact .nil
      | cons z l ih => exact .cons rfl ih
    have er2 : ∀ (l : List (PyData × Addr)), (∀ z ∈ l, z ∈ zs) → EachIs (fun v z => ∃ as, Reads (sortingHeap s.heap a vs) v z.1 as) (l.map fun z => Value.ref z.2) l := by
      intro l
      induction l with
      | nil => exact fun _ => .nil
      | cons z l ih =>
        intro hm
        obtain ⟨as, r⟩ := hr z (hm z List.mem_cons_self)
        refine .cons ⟨as, PyProof.Rows.Reads.keeps (fun b o e => ?_) r⟩ (ih fun y hy => hm y (List.mem_cons_of_mem _ hy))
        obtain ⟨n1, n2⟩ := hk b o e
        exact sortingHeap_old n1 n2
    have er20 := er2 zs fun _ h => h
    rw [← ev] at er20
    have e30 := e3 zs
    rw [← ev] at e30
    refine list_sort_vals (κ := dataKind (sortingHeap s.heap a vs) (zs.map (·.1))) ho (SortsAt.data (s := { s with heap := sortingHeap s.heap a vs }) er0 hal hk2 fun d hd' => ?_) hz (h _ ?_)
    · obtain ⟨z, hz', rfl⟩ := List.mem_map.mp hd'
      exact hd z hz'
    · have e4 := sortVals_data (enc := fun z : PyData × Addr => z.1) false e30 er20 hal
      have e5 : ∀ {us : List Value} {l : List (PyData × Addr)}, EachIs (fun v z => v = Value.ref z.2) us l → us = l.map fun z => Value.ref z.2 := by
        intro us l e
        induction e with
        | nil => rfl
        | cons h _ ih => rw [h, ih, List.map_cons]
      exact e5 e4
def rSortedN (K : PySem.W.Frag) : List V → Hp → VK → Prop := fun vs H Q => ∃ (d : Addr) (xs : List (NestedKey × Addr × Value)) (zs : List (PyData × Addr)), vs = [.ref d] ∧ NDict K H d xs ∧ zs.map (·.2) = xs.map (fun x => x.2.1) ∧ (∀ z ∈ zs, Dp K H (.ref z.2) z.1) ∧
  PySem.W.AllAlike (zs.map (·.1)) ∧ (zs.length < 2 ∨ PySem.W.Sortable (zs.map (·.1))) ∧ (∀ z ∈ zs, z.1.depth ≤ 60) ∧ ∀ p, H p = none → Q (.ref p) (upd H p (.lst ((zs.mergeSort (PySem.W.dataLe false (·.1))).map fun z => V.ref z.2)))
theorem call_sortedN {X : Cx} (calm : X.calm = true) (hu : X.A.units + 65 < cLine) : CallR X (.builtin "sorted") (rSortedN X.K) := by
  rintro pins s σ H xs us Q I r ⟨d, kv, zs, rfl, nd, ez, dp, hal, hs, hd, go⟩
  obtain ⟨u, rfl, ru⟩ := vals1 r
  cases ru
  obtain ⟨o, es, ep, ho, hx, hdt, he⟩ := ndict_raw I nd
  have l1 : es.size = kv.length := size_of_entries he
  have l2 : zs.length = kv.length := by
    have := congrArg List.length ez
    simpa only [List.length_map] using this
  refine Calls.call_function_entry PyProof.Rows.kind_sorted PyProof.Rows.plain_sorted PyProof.Rows.entry_sorted (PyProof.Rows.args_sorted1 _) ?_
  unfold Builtin.«sorted»
  refine wpAny_bind (m := checkCount "sorted" 1 1 _) (wpAny_pure ?_)
  refine wpAny_bind ?_
  refine PySem.W.kdu_collect (A := X.A.in1) (kdl_raw nd.2.1 hx hdt) (I.ok.hd calm) ho (by rw [l1]; exact nd.2.2.1) ?_
  intro h1 tk acc keep items
  have ea : acc.toList = zs.map fun z => Value.ref z.2 := by
    have e0 : (zs.map fun z => Value.ref z.2) = kv.map fun x => Value.ref x.2.1 := by
      have := congrArg (List.map Value.ref) ez
      rw [List.map_map, List.map_map] at this
      exact this
    rw [e0]
    have hl : acc.toList.length = kv.length := by rw [Array.length_toList, items.1]; exact l1
    apply List.ext_getElem?
    intro j
    rw [List.getElem?_map]
    cases hj : acc.toList[j]? with
    | none =>
      have h1 := List.getElem?_eq_none_iff.mp hj
      rw [List.getElem?_eq_none (by omega)]
      all_goals rfl
    | some v =>
      obtain ⟨en, hen, hv⟩ := items.2 j v (by rw [← Array.getElem?_toList]; exact hj)
      have qe := entry_at he j
      rw [hen] at qe
      cases hb : kv[j]? with
      | none =>
        rw [hb] at qe
        exact nomatch (show some en = none from qe)
      | some b =>
        rw [hb] at qe
        have e2 : en = entryOfKey (nestedKind X.prog X.w) b := Option.some.inj qe
        rw [hv, e2]
        all_goals rfl
  have lim : acc.toList.length ≤ sizeLine := by rw [ea, List.length_map, l2]; exact nd.2.2.1
  have I1 : Inv X pins σ H { s with heap := h1, toks := tk } := I.kept keep
  apply wpAny_bind
  refine wpAny_newList ?_ lim
  have hN : (h1.push (PyProof.Rows.seqObj "list" acc.toList.toArray 0)).get? h1.objs.size = some (PyProof.Rows.seqObj "list" acc.toList.toArray 0) := Heap.get?_push_size _ rfl
  show wpAny _ _ _ _ _ (Shared.mk (h1.push (PyProof.Rows.seqObj "list" acc.toList.toArray 0)) s.gens s.drawn tk s.os)
  apply wpAny_bind
  apply wpAny_holding
  refine wpAny_call_entry PyProof.Rows.slot_list_sort ⟨_, hN, rfl⟩ PyProof.Rows.entry_list_sort ?_ (PyProof.Rows.args_list_sort _)
  refine sort_core (h0 := h1) hN ea (fun b o e => ⟨Nat.ne_of_lt (Heap.lt_size e), Heap.get?_push_of_some _ e⟩) (fun z hz => (dp z hz).reads I1 _ _ _ rfl) hal hs (fun z hz => ?_) lim fun out eo => ⟨.none, rfl, ?_⟩
  · have := hd z hz
    simp only [Around.in1_units]
    omega
  obtain ⟨e2, at2⟩ := PyProof.Rows.sortedHeap_at (vs := acc.toList) (out := out.toArray) hN
  have len : ((zs.mergeSort (PySem.W.dataLe false (·.1))).map fun z => V.ref z.2).length ≤ sizeLine := by
    rw [List.length_map, List.length_mergeSort, l2]; exact nd.2.2.1
  have rv : Vals ((zs.mergeSort (PySem.W.dataLe false (·.1))).map fun z => V.ref z.2) out := by
    rw [eo]
    generalize zs.mergeSort (PySem.W.dataLe false (·.1)) = l
    induction l with
    | nil => exact .nil
    | cons z l ih => exact .cons rfl ih
  refine wpAny_pure ⟨_, rfl, .ref h1.objs.size, upd H h1.objs.size (.lst ((zs.mergeSort (PySem.W.dataLe false (·.1))).map fun z => V.ref z.2)), I1.laid (t' := tk) (fun b o e => ?_) (Nat.le_refl _)
    (show ObjOk X.prog X.w _ _ _ (.lst _) from ⟨len, out, e2, rv, at2⟩), rfl, go _ (I1.hok.fresh (Nat.le_refl _))⟩
  have lt : b < h1.objs.size := Heap.lt_size e
  rw [PyProof.Rows.sortedHeap_old (Nat.ne_of_lt lt) (by rw [PyProof.Rows.size_push']; exact Nat.lt_succ_of_lt lt)]
  apply Heap.get?_push_of_some
  exact e
/-- plain data -/
def encD (d : D) : PyData := (dat [] 8 d).getD .none
theorem datL_depth {f : D → Option PyData} {n : Nat} (hf : ∀ d p, f d = some p → p.depth ≤ n) : ∀ {ds : List D} {ps : List PyData}, datL f ds = some ps → PyData.depthAll ps ≤ n
  | [], ps, e => by
    cases Option.some.inj (show some [] = some ps from e)
    rw [PyData.depthAll]
    exact Nat.zero_le _
  | d :: ds, ps, e => by
    unfold datL at e
    split at e
    · rename_i p ps' e2 e3
      cases Option.some.inj e
      rw [PyData.depthAll]
      exact Nat.max_le.mpr ⟨hf _ _ e2, datL_depth hf e3⟩
    · cases e
theorem datL_pure {f g : D → Option PyData} (hf : ∀ d p, f d = some p → g d = some p) : ∀ {ds : List D} {ps : List PyData}, datL f ds = some ps → datL g ds = some ps
  | [], ps, e => e
  | d :: ds, ps, e => by
    unfold datL at e ⊢
    split at e
    · rename_i p ps' e2 e3
      rw [hf _ _ e2, datL_pure hf e3]
      exact e
    · cases e
theorem dat_keys_depth : ∀ ks : List Key, PyData.depthAll (ks.map datK) = 0
  | [] => by rw [List.map_nil, PyData.depthAll]
  | .inl i :: ks => by rw [List.map_cons, PyData.depthAll, dat_keys_depth ks, datK, PyData.depth]; rfl
  | .inr i :: ks => by rw [List.map_cons, PyData.depthAll, dat_keys_depth ks, datK, PyData.depth]; rfl
theorem dat_pure (S : Sto) : ∀ (n : Nat) (d : D) (p : PyData), dat [] n d = some p → dat S n d = some p ∧ p.depth ≤ n + 1 := by
  intro n
  induction n with
  | zero =>
    intro d p e
    cases d <;> first
      | (simp [dat] at e; done)
      | (simp only [dat, Option.some.injEq] at e ⊢
         subst e
         refine ⟨by first | rfl | trivial, ?_⟩
         simp only [PyData.depth, dat_keys_depth]
         omega)
  | succ n ih =>
    intro d p e
    cases d with
    | tup ds =>
      obtain ⟨ps, e1, rfl⟩ := Option.map_eq_some_iff.mp (show (datL (dat [] n) ds).map PyData.tuple = some p from e)
      refine ⟨?_, ?_⟩
      · show (datL (dat S n) ds).map PyData.tuple = _
        rw [datL_pure (fun d p h => (ih d p h).1) e1]
        rfl
      · rw [PyData.depth]
        exact Nat.succ_le_succ (datL_depth (fun d p h => (ih d p h).2) e1)
    | kl ds =>
      obtain ⟨ps, e1, rfl⟩ := Option.map_eq_some_iff.mp (show (datL (dat [] n) ds).map PyData.list = some p from e)
      refine ⟨?_, ?_⟩
      · show (datL (dat S n) ds).map PyData.list = _
        rw [datL_pure (fun d p h => (ih d p h).1) e1]
        rfl
      · rw [PyData.depth]
        exact Nat.succ_le_succ (datL_depth (fun d p h => (ih d p h).2) e1)
    | obj m => cases e
    | _ => first
      | (simp [dat] at e; done)
      | (simp only [dat, Option.some.injEq] at e ⊢
         subst e
         refine ⟨by first | rfl | trivial, ?_⟩
         simp only [PyData.depth, dat_keys_depth]
         omega)
/-- what can be sorted -/
structure SortOk (ds : List D) : Prop where
  len : ds.length ≤ sizeLine
  dat : ∀ d ∈ ds, ∃ p, O.dat [] 8 d = some p
  alike : PySem.W.AllAlike (ds.map encD)
  sort : ds.length < 2 ∨ PySem.W.Sortable (ds.map encD)
noncomputable instance {ds : List D} : Decidable (SortOk ds) := Classical.propDecidable _
def leD : D → D → Bool := PySem.W.dataLe false encD
noncomputable def sortN1 (S : Sto) : Option (List (D × D)) → Res D
  | some kvs => if SortOk (kvs.map (·.1)) then mkLst ((kvs.map (·.1)).mergeSort leD) S else .bad
  | none => .bad
noncomputable def dSortedN : DF
  | [.obj n], S => sortN1 S (dnOf S n)
  | _, _ => .bad
section
variable {K : PySem.W.Frag} {mg : Str → Option Value}
theorem Rdn.pairs {w : Wo} : ∀ {ps : List (D × D)} {xs : List (NestedKey × Addr × Value)}, Rdn K mg w ps xs → ∃ ts : List (D × Addr), ts.map (·.1) = ps.map (·.1) ∧ ts.map (·.2) = xs.map (fun x => x.2.1) ∧ ∀ t ∈ ts, Rv K mg w t.1 (.ref t.2)
  | [], xs, r => by
    have e : xs = [] := r
    subst e
    exact ⟨[], rfl, rfl, fun _ h => by cases h⟩
  | p :: ps, xs, r => by
    obtain ⟨k, b, u, r', e, e2, r1, r2, r4⟩ := r
    subst e
    obtain ⟨ts, g1, g2, g3⟩ := Rdn.pairs r4
    refine ⟨(p.1, b) :: ts, by rw [List.map_cons, List.map_cons, g1], by rw [List.map_cons, List.map_cons, g2], fun t ht => ?_⟩
    rcases List.mem_cons.mp ht with e | ht
    · rw [e]; exact r1
    · exact g3 t ht
theorem o_sortedN : Opn K mg (rSortedN K) dSortedN := by
  intro w ds vs Q E ok r h
  unfold dSortedN at h
  split at h
  · rename_i n
    obtain ⟨v, rfl, r1⟩ := r.one
    obtain ⟨_, rfl⟩ := r1.obj
    cases e1 : dnOf w.S n with
    | none => rw [e1] at h; exact h.elim
    | some kvs =>
      rw [e1] at h
      unfold sortN1 at h
      dsimp only at h
      by_cases so : SortOk (kvs.map (·.1))
      · rw [if_pos so] at h
        obtain ⟨_, xs, nd, rd⟩ := dn_at ok e1
        obtain ⟨ts, g1, g2, g3⟩ := rd.pairs
        have hts : ∀ t ∈ ts, dat [] 8 t.1 = some (encD t.1) := fun t ht => by
          have : t.1 ∈ kvs.map (·.1) := by rw [← g1]; exact List.mem_map.mpr ⟨t, ht, rfl⟩
          obtain ⟨p, hp⟩ := so.dat t.1 this
          unfold encD
          rw [hp]
          rfl
        have em : (ts.map fun t => (encD t.1, t.2)).map (·.1) = (kvs.map (·.1)).map encD := by
          rw [← g1, List.map_map, List.map_map]
          rfl
        refine ⟨_, xs, ts.map fun t => (encD t.1, t.2), rfl, nd, ?_, ?_, ?_, ?_, ?_, fun p hp => ?_⟩
        · rw [List.map_map, ← g2]
          rfl
        · intro z hz
          obtain ⟨t, ht, rfl⟩ := List.mem_map.mp hz
          exact dat_dp ok 8 t.1 _ _ (g3 t ht) (dat_pure w.S 8 _ _ (hts t ht)).1
        · rw [em]
          exact so.alike
        · rw [em]
          rcases so.sort with s1 | s1
          · refine .inl ?_
            rw [List.length_map]
            have := congrArg List.length g1
            rw [List.length_map] at this
            rw [this]
            exact s1
          · exact .inr s1
        · intro z hz
          obtain ⟨t, ht, rfl⟩ := List.mem_map.mp hz
          have := (dat_pure w.S 8 _ _ (hts t ht)).2
          show (encD t.1).depth ≤ 60
          omega
        · have e4 : (ts.map fun t => (encD t.1, t.2)).mergeSort (PySem.W.dataLe false (·.1)) = (ts.mergeSort (PySem.W.dataLe false fun t => encD t.1)).map fun t => (encD t.1, t.2) :=
            (List.map_mergeSort (f := fun t : D × Addr => (encD t.1, t.2)) (r := PySem.W.dataLe false fun t : D × Addr => encD t.1) (s := PySem.W.dataLe false (·.1)) (fun a _ b _ => rfl)).symm
          have e5 : (kvs.map (·.1)).mergeSort leD = (ts.mergeSort (PySem.W.dataLe false fun t => encD t.1)).map (·.1) := by
            rw [← g1]
            exact (List.map_mergeSort (f := fun t : D × Addr => t.1) (r := PySem.W.dataLe false fun t : D × Addr => encD t.1) (s := leD) (fun a _ b _ => rfl)).symm
          rw [e4, List.map_map]
          rw [e5] at h
          refine h.newLst ok hp ?_
          have hm : ∀ t ∈ ts.mergeSort (PySem.W.dataLe false fun t => encD t.1), Rv K mg w t.1 (.ref t.2) := fun t ht => g3 t ((List.mergeSort_perm _ _).mem_iff.mp ht)
          generalize ts.mergeSort (PySem.W.dataLe false fun t => encD t.1) = l at hm
          induction l with
          | nil => exact Rvs.nil
          | cons t l ih => exact Rvs.cons (hm t List.mem_cons_self) (ih fun y hy => hm y (List.mem_cons_of_mem _ hy))
      · rw [if_neg so] at h
        exact h.elim
  · exact h.elim
end
/-! ### more suites that raise nothing -/
theorem nox_andV {a b : DE} (ha : NoXE a) (hb : NoXE b) : NoXE (eAndV a b) := fun ρ S c fs S' h =>
  nox_bind (ha ρ S) (fun x S1 c fs S' h => by
    cases x with
    | bl k =>
      cases k with
      | true => exact hb ρ S1 c fs S' h
      | false => cases h
    | _ => cases h) c fs S' h
theorem nox_rel {p : Int → Int → Bool} : NoX2 (dRel p) := fun a b S c fs S' h => by
  unfold dRel at h
  split at h <;> cases h
theorem nox_len {a : DE} (ha : NoXE a) : NoXE (eCall dLen (eCons a eNil)) := fun ρ S c fs S' h =>
  nox_bind (fun c fs S' h => nox_bind (ha ρ S) (fun x S1 c fs S' h => by cases h) c fs S' h) (fun xs S1 c fs S' h => by
    unfold dLen at h
    split at h <;> first | (cases h; done) | (split at h <;> first | (cases h; done) | (split at h <;> cases h))) c fs S' h

/-! ### try with two except clauses -/
section
variable {X : Cx} {W : WX}
theorem ls_try2 {x1 x2 : Str} {c1 c2 : Value} {m1 m2 : Mat} {body su1 su2 : List Stmt} {b1 b2 : Stmt} {np1 np2 p1 p2 pos : Pos} {tb t1 t2 : DS} (hs : X.stack = X.env :: X.outer) (hf : X.env.frame = some X.env.locals) (hc1 : Names X x1 c1) (hc2 : Names X x2 c2) (tk : Takes X W)
    (hm1 : matOk X.K X.mg c1 m1) (hm2 : matOk X.K X.mg c2 m2) (hn1 : ∀ ρ S, ∀ c fs ρ' S', t1 ρ S ≠ .exc c fs ρ' S') (hn2 : ∀ ρ S, ∀ c fs ρ' S', t2 ρ S ≠ .exc c fs ρ' S')
    (hb : ∀ (W' : WX) (pn : List (Addr × Obj)) (xe : Value → Shared → Prop), Takes (X.tr pn xe) W' → PassesOwn (model X.prog X.w) X.A X.env xe → PSs (X.tr pn xe) body (LS X.K X.mg W' tb))
    (h1 : ∀ (a : Addr) (oe : Obj) (cls : Value) (d : Option Addr) (pn : List (Addr × Obj)), Zc cls d oe → (∃ vs, oe.data = .fields vs) → PSs (X.suite a ((a, oe) :: pn)) (b1 :: su1) (LS X.K X.mg W0 t1))
    (h2 : ∀ (a : Addr) (oe : Obj) (cls : Value) (d : Option Addr) (pn : List (Addr × Obj)), Zc cls d oe → (∃ vs, oe.data = .fields vs) → PSs (X.suite a ((a, oe) :: pn)) (b2 :: su2) (LS X.K X.mg W0 t2)) :
    PS X (.Try body [.ExceptHandler (some (.Name x1 np1)) none (b1 :: su1) p1, .ExceptHandler (some (.Name x2 np2)) none (b2 :: su2) p2] [] [] pos) (LS X.K X.mg W (dTry m2 (dTry m1 tb t1) t2)) :=
  (ps_try_many (tb := fun W' => LS X.K X.mg W' tb) (l := [(c1, fun _ _ _ => LS X.K X.mg W0 t1), (c2, fun _ _ _ => LS X.K X.mg W0 t2)]) hs hf tk hb (.cons hc1 h1 (.cons hc2 h2 .nil))).imp fun D' σ H h =>
    i_try (ts := fun _ _ _ => LS X.K X.mg W0 t1) hm1 (fun _ _ _ _ _ _ h => h) hn1 (i_try (ts := fun _ _ _ => LS X.K X.mg W0 t2) hm2 (fun _ _ _ _ _ _ h => h) hn2 h)
end
/-! ### dicts keyed by tuples: their length -/
section
variable {X : Cx}
def rLenN (K : PySem.W.Frag) : List V → Hp → VK → Prop := fun vs H Q => ∃ (d : Addr) (xs : List (NestedKey × Addr × Value)), vs = [.ref d] ∧ NDict K H d xs ∧ Q (.int ((xs.length : Nat) : Int)) H
theorem call_lenN : CallR X (.builtin "len") (rLenN X.K) := by
  intro pins s σ H vs us Q I r h
  obtain ⟨d, xs, rfl, nd, q⟩ := h
  obtain ⟨u, rfl, rx⟩ := vals1 r
  obtain rfl : u = .ref d := rx
  have hl := nd.2.2.1
  refine call_len_dictH nd.2.1 (ndict_of I nd) (by rw [sizeLine_eq] at hl; omega) ?_
  exact ⟨.int ((xs.length : Nat) : Int), H, I.tok _, ⟨_, rfl⟩, q⟩
end
section
variable {K : PySem.W.Frag} {mg : Str → Option Value} {X : Cx} {W : WX}
def lenN1 (S : Sto) : Option (List (D × D)) → Res D
  | some kvs => .ok (.int ((kvs.length : Nat) : Int)) S
  | none => .bad
def dLenN (ds : List D) (S : Sto) : Res D := match ds with
  | [.obj n] => lenN1 S (dnOf S n)
  | _ => .bad
theorem o_lenN : Opn K mg (rLenN K) dLenN := by
  intro w ds vs Q E ok r h
  unfold dLenN at h
  split at h
  · rename_i n
    obtain ⟨v, rfl, r1⟩ := r.one
    obtain ⟨_, rfl⟩ := r1.obj
    cases e1 : dnOf w.S n with
    | none => rw [e1] at h; exact h.elim
    | some kvs =>
      rw [e1] at h
      obtain ⟨_, xs, nd, rd⟩ := dn_at ok e1
      refine ⟨_, xs, rfl, nd, ?_⟩
      rw [rd.len]
      exact Fin.now h ok mk_int
  · exact h.elim
end
/-! ### [d[k] for k in d] -/
def FzP (a : Addr) (o : Obj) : Heap → Prop := fun h => h.get? a = some o
/-- the dict at a, held still -/
structure NFz (K : PySem.W.Frag) (H : Hp) (a : Addr) (o : Obj) (es : Array DictEntry) (ep : Nat) (xs : List (NestedKey × Addr × Value)) : Prop where
  at' : H a = some (.ext (FzP a o))
  sys : (a == sysModules) = false
  len : xs.length ≤ sizeLine
  nd : (xs.map (·.1)).Nodup
  key : ∀ x ∈ xs, NKey K H x.1 x.2.1
  ex : o.ExactDict
  dt : o.data = .dict es ep
  tl : ∀ wd : World, es.toList = xs.map fun x => ⟨NestedKey.hash wd x.1, .ref x.2.1, x.2.2⟩
theorem atKey_get {α : Type} [DecidableEq α] : ∀ {xs : List (α × Addr × Value)} {j : Nat} {x : α × Addr × Value}, (xs.map (·.1)).Nodup → xs[j]? = some x → atKey xs x.1 = some x.2
  | [], _, _, _, h => by cases h
  | y :: ys, 0, x, _, h => by
    obtain rfl := Option.some.inj h
    exact atKey_pos rfl
  | y :: ys, j + 1, x, hn, h => by
    have hn2 := List.nodup_cons.mp hn
    have h2 : ys[j]? = some x := h
    rw [atKey_neg (fun e => hn2.1 (by show y.1 ∈ _; rw [e]; exact List.mem_map.mpr ⟨x, List.mem_of_getElem? h2, rfl⟩))]
    exact atKey_get hn2.2 h2
section
variable {X : Cx} {pins : List (Addr × Obj)} {σ : St} {H : Hp} {s : Shared} {a : Addr} {o : Obj} {es : Array DictEntry} {ep : Nat} {xs : List (NestedKey × Addr × Value)}
theorem NKey.upd {K : PySem.W.Frag} {H : Hp} {a : Addr} {ob : HO} {k : NestedKey} {b : Addr} (h : NKey K H k b) (ha : ∀ ts, ¬ Rd H a (.tup ts)) : NKey K (upd H a ob) k b := by
  obtain ⟨vs, ks, t, e⟩ := h
  refine ⟨vs, ks, ?_, e⟩
  rcases t with t | t
  · refine .inl ?_
    have hb : b ≠ a := fun z => ha vs (by rw [← z]; exact t)
    unfold Rd L2.upd
    rw [if_neg hb]
    exact t
  · exact .inr t
theorem NFz.get (I : Inv X pins σ H s) (f : NFz X.K H a o es ep xs) : s.heap.get? a = some o := by
  obtain ⟨g, _⟩ := (show ObjOk X.prog X.w H s.heap a (.ext (FzP a o)) from I.hok a _ f.at')
  exact g
theorem NFz.of (I : Inv X pins σ H s) (f : NFz X.K H a o es ep xs) : s.heap.DictOfH (nestedKind X.prog X.w) a xs :=
  ⟨o, es, ep, f.get I, f.ex, f.dt, f.tl X.w, fun x hx => nkey_is I (f.key x hx), f.nd⟩
theorem not_tup_ext {φ : Heap → Prop} (h : H a = some (.ext φ)) : ∀ ts, ¬ Rd H a (.tup ts) := fun ts r => by
  rcases r with r | ⟨o, r⟩
  · rw [h] at r; cases r
  · rw [h] at r; cases r
theorem freeze (I : Inv X pins σ H s) (nd : NDict X.K H a xs) : ∃ o es ep, Inv X pins σ (upd H a (.ext (FzP a o))) s ∧ NFz X.K (upd H a (.ext (FzP a o))) a o es ep xs := by
  have φ := (show ObjOk X.prog X.w H s.heap a (.ext (DNφ a xs)) from I.hok a _ nd.1).1
  obtain ⟨o, es, ep, g1, g2, g3, g4⟩ := φ
  have I2 : Inv X pins σ (upd H a (.ext (FzP a o))) s := d_write (t' := s.toks) I (by rw [nd.1]; exact True.intro) ⟨rfl, fun _ _ => rfl⟩ ⟨o, g1⟩ ⟨g1, ⟨o, g1⟩, fun h1 h2 e k => k _ e⟩
  exact ⟨o, es, ep, I2, upd_same, nd.2.1, nd.2.2.1, nd.2.2.2.1, fun x hx => (nd.2.2.2.2 x hx).upd (not_tup_ext nd.1), g2, g3, g4⟩
end
/-- the keys of the dict at a, held still -/
def ItN (a : Addr) (o : Obj) (xs : List (NestedKey × Addr × Value)) : It :=
  ⟨fun i H => H a = some (.ext (FzP a o)) ∧ i < xs.length, fun i H x H' => H' = H ∧ ∃ e, xs[i]? = some e ∧ x = .ref e.2.1, fun i H => H a = some (.ext (FzP a o)) ∧ xs.length ≤ i⟩
theorem turn_N {P : Program} {w : World} {K : PySem.W.Frag} {tg : Expr} {a : Addr} {o : Obj} {es : Array DictEntry} {ep : Nat} {xs : List (NestedKey × Addr × Value)} (it : Addr) (hdt : o.data = .dict es ep) (tl : ∀ wd : World, es.toList = xs.map fun x => ⟨NestedKey.hash wd x.1, .ref x.2.1, x.2.2⟩) :
    Turn P w K tg (ItN a o xs) [it] it (fun i h => h.IsKeyIter it a i xs.length ep) where
  mem := by simp
  obj := fun i h st b hb => by
    have e : b = it := by simpa using hb
    subst e
    obtain ⟨oi, e, c, dd⟩ := st
    exact ⟨oi, e, fun v z => by rw [dd] at z; cases z⟩
  keep := fun i h h' st k => by
    obtain ⟨oi, e, c, dd⟩ := st
    exact ⟨oi, k it (by simp) oi e, c, dd⟩
  item := by
    intro X hP hw hK hc i pins s σ H E I hf st hg
    subst hP hw hK
    obtain ⟨hd, hi⟩ := hg
    obtain ⟨f0, f1, f2, f3, f4, f5⟩ := hf it (by simp)
    have hgd : s.heap.get? a = some o := (show ObjOk X.prog X.w H s.heap a (.ext (FzP a o)) from I.hok a _ hd).1
    have hsz : es.size = xs.length := by rw [← Array.length_toList, tl X.w, List.length_map]
    obtain ⟨x, hx⟩ : ∃ x, xs[i]? = some x := ⟨xs[i], List.getElem?_eq_getElem hi⟩
    have hen : es[i]? = some ⟨NestedKey.hash X.w x.1, .ref x.2.1, x.2.2⟩ := by
      rw [← Array.getElem?_toList, tl X.w, List.getElem?_map, hx]
      rfl
    refine next_key_item st hgd hdt hsz hen fun h' st' sb => ?_
    have I1 : Inv X pins σ H { s with heap := h' } := I.turned (t' := s.toks) (fun b ob hb e => (sb.2 b hb).trans e) f0 f1 f3 f4 f5
    obtain ⟨oi, e, c, dd⟩ := id st'
    exact ⟨.ref x.2.1, rfl, go_of (s := { s with heap := h' }) e c dd (by decide) ⟨.ref x.2.1, H, I1, rfl, ⟨rfl, x, hx, rfl⟩, st', fun b hb => (hf b hb).1⟩⟩
  done := by
    intro X hP hw hK hc i pins s σ H E I hf st hg
    subst hP hw hK
    obtain ⟨hd, hi⟩ := hg
    obtain ⟨f0, f1, f2, f3, f4, f5⟩ := hf it (by simp)
    have hgd : s.heap.get? a = some o := (show ObjOk X.prog X.w H s.heap a (.ext (FzP a o)) from I.hok a _ hd).1
    have hsz : es.size = xs.length := by rw [← Array.length_toList, tl X.w, List.length_map]
    exact next_key_end (I.ok.hd hc) st hgd hdt hsz hi fun h' eb => ⟨rfl, I.turned (t' := s.toks) (fun b ob hb e => eb b ob hb e) f0 f1 f3 f4 f5⟩
  self := fun A i s Q E st h => wpAny_pyIter_keyiter st h
section
variable {X : Cx} {tg e ob ix elt : Expr} {i j : Nat} {scope : Scope} {x : Str} {pos pos' : Pos}
def iKeysN (K : PySem.W.Frag) (td : TE) : TI := fun σ H R => td σ H fun v H1 => ∃ a o es ep xs, v = .ref a ∧ NFz K H1 a o es ep xs ∧ R (ItN a o xs) H1
theorem pi_keysN {td : TE} (he : PE X e td) : PI X tg e (iKeysN X.K td) := by
  refine ⟨fun pins s σ H R I h => ?_⟩
  refine thn (he.run pins s σ H _ I h) fun u s1 ⟨v, H1, I1, rv, a, o, es, ep, xs, ev, f, q⟩ => ?_
  subst ev
  obtain rfl : u = Value.ref a := rv
  have hsz : es.size = xs.length := by rw [← Array.length_toList, f.tl X.w, List.length_map]
  refine iter_keys f.sys (f.get I1) f.ex f.dt (pi_one (tk := s1.toks) I1 _ (turn_N _ f.dt f.tl) ⟨_, Heap.get?_push_size _ rfl, rfl, ?_⟩ q)
  rw [hsz] <;> rfl
/-- d[k] of a dict held still -/
def rNGetF (K : PySem.W.Frag) : R2 := fun x y H Q => ∃ a b k o es ep xs p, x = .ref a ∧ y = .ref b ∧ NFz K H a o es ep xs ∧ NKey K H k b ∧ atKey xs k = some p ∧ ∃ v, RelV v p.2 ∧ Q v H
theorem pe_ngetF {td ty : TE} (hu : X.A.units + 65 < cLine) (ho : PE X ob td) (hi : PE X ix ty) (hs : NoSl ix) : PE X (.Subscript ob ix pos) (tOp (rNGetF X.K) td ty) := by
  refine ⟨fun pins s σ H Q I h => ?_⟩
  refine subD_of PySem.F.slot_dict_getitem.lookup hs (thn (ho.run pins s σ H _ I h) fun u s1 ⟨x, H1, I1, rx, q1⟩ => thn (hi.run pins s1 σ H1 _ I1 q1) fun iv s2 ⟨y, H2, I2, ry, a, b, k, o, es, ep, xs, p, ex, ey, nd, nk, at', v, rv, q2⟩ => ?_)
  subst ex ey
  obtain rfl : u = Value.ref a := rx
  obtain rfl : iv = Value.ref b := ry
  have dd := nd.of I2
  exact ⟨dd.typeIs, wpAny_getItem_heap (nroom (X := X) hu) (nkey_is I2 nk) dd at' ⟨v, H2, I2.tok _, rv, q2⟩⟩
def tValsN (K : PySem.W.Frag) (i : Nat) : TE := fun σ H Q => ∃ (a : Addr) (xs : List (NestedKey × Addr × Value)) (vs : List V), σ[i]? = some (some (.ref a)) ∧ NDict K H a xs ∧ vs.length = xs.length ∧ (∀ (j : Nat) (v : V) (x : NestedKey × Addr × Value), vs[j]? = some v → xs[j]? = some x → RelV v x.2.2) ∧ ∀ p, H p = none → Q (.ref p) (upd H p (.lst vs))
theorem wipe_one (σ : St) (j : Nat) (v : Option V) : wipe ((wipe σ [j]).set j v) [j] = wipe σ [j] := by
  show ((σ.set j none).set j v).set j none = σ.set j none
  rw [List.set_set, List.set_set]
theorem pe_valsN (hc : X.calm = true) (hN : X.N.Nodup) (hj : j < X.N.length) (hij : i ≠ j) (hd : PE X e (tVar i)) (ok : BlkOk X.N X.env.scope scope [(x, j)])
    (hg : ∀ (s : Shared) (H : Hp) (C : Addr) (cl : List (Str × Addr)) (fp : List Addr), PG (X.blk s H scope (compEnvC scope cl C X.env) fp) tg (gName j))
    (ho : ∀ (s : Shared) (H : Hp) (C : Addr) (cl : List (Str × Addr)) (fp : List Addr), PE (X.blk s H scope (compEnvC scope cl C X.env) fp) elt (tOp (rNGetF X.K) (tVar i) (tVar j)))
    (hs : ∀ x, foldedSetIterable e X.env x = pure x := by intro _; rfl) :
    PE X (.ListComp elt [⟨tg, e, [], 0⟩] scope pos) (tValsN X.K i) := by
  refine ⟨fun pins s σ H Q I h => ?_⟩
  obtain ⟨a, xs, vs, hσ, nd, hl, hv, hq⟩ := h
  have na := not_tup_ext nd.1
  obtain ⟨o, es, ep, I2, f⟩ := freeze I nd
  have hlen : σ.length = X.N.length := I.len
  have base := pe_lc (pos := pos) (te := tOp (rNGetF X.K) (tVar i) (tVar j)) hc hN (pi_keysN hd) ok hg (fun _ _ _ _ _ => pts_nil) ho hs
  refine thn (base.run pins s σ (upd H a (.ext (FzP a o))) (fun v H' => ∃ p, v = .ref p ∧ upd H a (.ext (FzP a o)) p = none ∧ H' = upd (upd H a (.ext (FzP a o))) p (.lst vs)) I2 ?_) fun u s1 ⟨v, H', I1, rv, p, ev, hp, eH⟩ => ?_
  · refine ⟨_, hσ, a, o, es, ep, xs, rfl, f, fun p hp => ?_⟩
    refine ⟨fun n m H' => n ≤ xs.length ∧ m = xs.length - n ∧ H' = upd (upd H a (.ext (FzP a o))) p (.lst (vs.take n)), ⟨xs.length, Nat.zero_le _, rfl, rfl⟩, ?_⟩
    rintro n m H' ⟨hn, rfl, rfl⟩
    have pa : a ≠ p := fun z => by rw [← z, upd_same] at hp; cases hp
    have at1 : upd (upd H a (.ext (FzP a o))) p (.lst (vs.take n)) a = some (.ext (FzP a o)) := by
      rw [upd_ne pa, upd_same]
    by_cases hn2 : n = xs.length
    · refine .inl ⟨⟨at1, by omega⟩, p, rfl, hp, ?_⟩
      rw [List.take_of_length_le (by omega)]
    · refine .inr ⟨⟨at1, by omega⟩, fun H' => H' = upd (upd H a (.ext (FzP a o))) p (.lst (vs.take (n + 1))), ?_, ?_⟩
      · rintro H' rfl
        exact ⟨xs.length - (n + 1), by omega, by omega, rfl, rfl⟩
      · rintro v H' ⟨rfl, y, hy, rfl⟩
        refine ⟨wipe_one σ j _, ?_⟩
        unfold tYes
        dsimp only
        rw [if_pos rfl]
        obtain ⟨z, hz⟩ : ∃ z, vs[n]? = some z := ⟨vs[n]'(by omega), List.getElem?_eq_getElem (by omega)⟩
        have nl : ∀ ts, ¬ Rd (upd H a (.ext (FzP a o))) p (.tup ts) := fun ts r => by
          rcases r with r | ⟨o, r⟩
          · rw [hp] at r; cases r
          · rw [hp] at r; cases r
        refine ⟨.ref a, ?_, .ref y.2.1, ?_, a, y.2.1, y.1, o, es, ep, xs, y.2, rfl, rfl, ⟨at1, f.sys, f.len, f.nd, fun x hx => (f.key x hx).upd nl, f.ex, f.dt, f.tl⟩, (f.key y (List.mem_of_getElem? hy)).upd nl, atKey_get f.nd hy, z, hv n z y hz hy, vs.take n, upd_same, ?_, ?_⟩
        · rw [List.getElem?_set_ne (Ne.symm hij), wipe_out (by simpa using hij)]
          exact hσ
        · rw [List.getElem?_set_self (by rw [wipe_length, hlen]; exact hj)]
        · have := f.len
          rw [List.length_take]
          omega
        · show upd (upd (upd H a (.ext (FzP a o))) p _) p _ = _
          rw [upd_upd, List.take_succ, hz]
          rfl
  · subst ev eH
    have pa : p ≠ a := fun z => by rw [z, upd_same] at hp; cases hp
    have hp2 : H p = none := by rw [upd_ne pa] at hp; exact hp
    have at1 : upd (upd H a (.ext (FzP a o))) p (.lst vs) a = some (.ext (FzP a o)) := by
      rw [upd_ne (Ne.symm pa), upd_same]
    have g : s1.heap.get? a = some o := (show ObjOk X.prog X.w _ s1.heap a (.ext (FzP a o)) from I1.hok a _ at1).1
    have I3 := d_write (t' := s1.toks) (h' := s1.heap) I1 (a := a) (ob := .ext (DNφ a xs)) (by rw [at1]; exact True.intro) ⟨rfl, fun _ _ => rfl⟩ ⟨o, g⟩ (dnφ_ok ⟨o, es, ep, g, f.ex, f.dt, f.tl⟩)
    have eH : upd (upd (upd H a (.ext (FzP a o))) p (.lst vs)) a (.ext (DNφ a xs)) = upd H p (.lst vs) := by
      funext b
      by_cases hb : b = a
      · subst hb
        rw [upd_same, upd_ne (Ne.symm pa), nd.1]
      · rw [upd_ne hb]
        by_cases hb2 : b = p
        · subst hb2
          rw [upd_same, upd_same]
        · rw [upd_ne hb2, upd_ne hb2, upd_ne hb]
    rw [eH] at I3
    exact ⟨.ref p, _, I3, rv, hq p hp2⟩
end
/-! the lifted form -/
section
variable {K : PySem.W.Frag} {mg : Str → Option Value} {X : Cx} {W : WX} {tg e elt : Expr} {i j : Nat} {scope : Scope} {x : Str} {pos : Pos}
def valsN1 (S : Sto) : Option (List (D × D)) → Res D
  | some kvs => mkLst (kvs.map (·.2)) S
  | none => .bad
def valsN2 (S : Sto) : Option (Option D) → Res D
  | some (some (.obj n)) => valsN1 S (dnOf S n)
  | _ => .bad
def eValsN (i : Nat) (ρ : Env) (S : Sto) : Res D := valsN2 S ρ[i]?
theorem Rdn.vals {w : Wo} : ∀ {ps : List (D × D)} {xs : List (NestedKey × Addr × Value)}, Rdn K mg w ps xs → ∃ vs : List V, Rvs K mg w (ps.map (·.2)) vs ∧ vs.length = xs.length ∧ ∀ (j : Nat) (v : V) (x : NestedKey × Addr × Value), vs[j]? = some v → xs[j]? = some x → RelV v x.2.2
  | [], xs, r => by
    have e : xs = [] := r
    subst e
    exact ⟨[], Rvs.nil, rfl, fun j v x h => by cases h⟩
  | p :: ps, xs, r => by
    obtain ⟨k, b, u, r', e, e2, r1, ⟨v, r2, r3⟩, r4⟩ := r
    subst e
    obtain ⟨vs, g1, g2, g3⟩ := Rdn.vals r4
    refine ⟨v :: vs, Rvs.cons r2 g1, by rw [List.length_cons, List.length_cons, g2], fun j v' x h1 h2 => ?_⟩
    cases j with
    | zero =>
      obtain rfl := Option.some.inj h1
      obtain rfl := Option.some.inj h2
      exact r3
    | succ j => exact g3 j v' x h1 h2
theorem l_valsN (hc : X.calm = true) (hN : X.N.Nodup) (hj : j < X.N.length) (hij : i ≠ j) (hd : PE X e (tVar i)) (ok : BlkOk X.N X.env.scope scope [(x, j)])
    (hg : ∀ (s : Shared) (H : Hp) (C : Addr) (cl : List (Str × Addr)) (fp : List Addr), PG (X.blk s H scope (compEnvC scope cl C X.env) fp) tg (gName j))
    (ho : ∀ (s : Shared) (H : Hp) (C : Addr) (cl : List (Str × Addr)) (fp : List Addr), PE (X.blk s H scope (compEnvC scope cl C X.env) fp) elt (tOp (rNGetF X.K) (tVar i) (tVar j)))
    (hs : ∀ x, foldedSetIterable e X.env x = pure x := by intro _; rfl) :
    PE X (.ListComp elt [⟨tg, e, [], 0⟩] scope pos) (LE X.K X.mg W (eValsN i)) := (pe_valsN hc hN hj hij hd ok hg ho hs).imp fun σ H Q h => by
  obtain ⟨w, ok, rfl, ρ, rr, h⟩ := h
  unfold eValsN at h
  cases e0 : ρ[i]? with
  | none => rw [e0] at h; exact h.elim
  | some q =>
    rw [e0] at h
    cases q with
    | none => exact h.elim
    | some d =>
      cases d with
      | obj n =>
        cases e1 : dnOf w.S n with
        | none => unfold valsN2 at h; dsimp only at h; rw [e1] at h; exact h.elim
        | some kvs =>
          unfold valsN2 at h
          dsimp only at h
          rw [e1] at h
          obtain ⟨_, xs, nd, rd⟩ := dn_at ok e1
          obtain ⟨vs, g1, g2, g3⟩ := rd.vals
          obtain ⟨v, e2, r2⟩ := rr.get e0
          obtain ⟨_, rfl⟩ := r2.obj
          exact ⟨_, xs, vs, e2, nd, g2, g3, fun p hp => h.newLst ok hp g1⟩
      | _ => exact h.elim
end

/-! ### sets of texts -/
section
open PySem.Froz (SD sObj TxOk addTx tailTx is_str add_x)
variable {P : Program} {w : World} {A : Around} {E : Value → Shared → Prop} {s : Shared} {h h' : Heap} {a : Addr} {l : List Str}
/-- the set at a holds the texts l; its table can be walked -/
def SetTx (P : Program) (w : World) (a : Addr) (l : List Str) (h : Heap) : Prop :=
  ∃ D : SD, h.get? a = some (sObj "set" D) ∧ TxOk P w D l ∧ Ris D.2.2.place.toList ∧ (w.params.followText "set-order" = true ∨ D.2.2.led = true)
theorem SetTx.at (R : SetTx P w a l h) (k : ∀ o, h.get? a = some o → h'.get? a = some o) : SetTx P w a l h' := by
  obtain ⟨D, ho, r⟩ := R
  exact ⟨D, k _ ho, r⟩
theorem setTx_fresh {h : Heap} : SetTx P w h.objs.size [] (h.push { cls := .type "set", dict := none, data := .set #[] 0 (.fresh 0 0 (!w.params.followText "set-order")) }) := by
  refine ⟨(#[], 0, .fresh 0 0 (!w.params.followText "set-order")), Heap.get?_push_size _ rfl, TxOk.nil (by rfl), List.Pairwise.nil, ?_⟩
  show _ ∨ (!w.params.followText "set-order") = true
  cases w.params.followText "set-order"
  · exact .inr rfl
  · exact .inl rfl
def addT (l : List Str) (k : Str) : List Str := if k ∈ l then l else k :: l
theorem addTx_keep {D : SD} {hh : Int} {v : Value} (r : Ris D.2.2.place.toList) (hl : w.params.followText "set-order" = true ∨ D.2.2.led = true) :
    Ris (addTx hh v D).2.2.place.toList ∧ (w.params.followText "set-order" = true ∨ (addTx hh v D).2.2.led = true) := by
  have r1 := layNew_ris D.2.2 D.1 hh v r
  have l1 := layNew_led D.2.2 D.1 hh v
  have hl1 : w.params.followText "set-order" = true ∨ (layNew D.2.2 D.1 hh v).2.1.led = true := hl.imp id fun z => by rw [l1]; exact z
  have key : ∀ (t2 : SetTable) (es1 : Array (Int × Value)) (ep : Nat) (b : Bool), Ris t2.place.toList → (w.params.followText "set-order" = true ∨ t2.led = true) →
      Ris (tailTx ep es1 t2 b).2.2.place.toList ∧ (w.params.followText "set-order" = true ∨ (tailTx ep es1 t2 b).2.2.led = true) := fun t2 es1 ep b ra la => by
    unfold tailTx
    split
    · exact ⟨relayAll_ris t2 es1 _, la.imp id fun z => by rw [relayAll_led t2 es1 _]; exact z⟩
    · exact ⟨ra, la⟩
  unfold addTx
  refine key _ _ _ _ ?_ ?_
  · split
    · exact r1
    · exact r1
  · split
    · exact hl1
    · exact hl1
theorem add_old {D : SD} {k : Str} {u : Tok} {Q : Bool → Shared → Prop} (ho : s.heap.get? a = some (sObj "set" D)) (F : TxOk P w D l) (hk : k ∈ l) (hb : l.length < scanBound)
    (hq : Q false s) : wpAny (model P w) A (setAddHashed a (.str k u) (hashStr w k)) Q E s := by
  obtain ⟨es, ep, t⟩ := D
  have hd : (sObj "set" (es, ep, t)).data = .set es ep t := rfl
  have hel : ElemsOf (strKind P w) es.toList := F.el
  have hsz : es.size = l.length := F.sz
  have hb0 : es.size < scanBound := by omega
  unfold setAddHashed setAddHashedIn
  refine wpAny_holding (wpAny_bind (wpAny_setState_of ho hd F.fit ?_))
  dsimp only
  rw [byScan_of rfl hb0 hel]
  simp only [↓reduceIte]
  unfold setAddByScan
  refine wpAny_bind (wpAny_bind (wpAny_rule (wpAny_bind (wpAny_setScan_of (knd := strKind P w) (k := k) (is_str k u) ho hd F.fit hel ?_))))
  cases hf : List.findIdx? (fun e => (strKind P w).is k e.2) es.toList with
  | some j => exact wpAny_pure (wpAny_pure hq)
  | none =>
    obtain ⟨e, he, q⟩ := (F.mem k).mp hk
    have c := List.findIdx?_eq_none_iff.mp hf e he
    rw [q] at c
    cases c
theorem setTx_add {k : Str} {u : Tok} {Q : Value → Shared → Prop} (R : SetTx P w a l s.heap) (room : l.length + 1 < scanBound)
    (hQ : ∀ h', Heap.SameBut a s.heap h' → SetTx P w a (addT l k) h' → Q .none { s with heap := h', toks := s.toks + 1 }) :
    wpAny (model P w) A (call (.builtin "set.add") [.ref a, .str k u]) Q E s := by
  obtain ⟨D, ho, FF, r, hl⟩ := R
  refine wpAny_call_entry PySem.F.slot_set_add ⟨_, ho, rfl⟩ PySem.F.entry_set_add ?_ (PySem.F.args_set_add_2 _ _)
  unfold Builtin.«set.add» Builtin.Frozenset.oneOther
  simp only [List.isEmpty_nil, bind_assoc]
  unfold Builtin.Frozenset.addrOf setAdd
  refine wpAny_bind (wpAny_pure ?_)
  try dsimp only
  refine wpAny_bind (wpAny_pure ?_)
  try dsimp only
  refine wpAny_bind (wpAny_holding (wpAny_bind ((strKind P w).pyHash (is_str k u) ?_)))
  by_cases hk : k ∈ l
  · refine add_old (s := { s with toks := s.toks + 1 }) ho FF hk (by omega) ?_
    show wpAny _ _ (ret Value.none) _ _ _
    exact wpAny_pure ⟨_, rfl, hQ s.heap (Heap.SameBut.refl a s.heap) (by unfold addT; rw [if_pos hk]; exact ⟨D, ho, FF, r, hl⟩)⟩
  · refine add_x (s := { s with toks := s.toks + 1 }) ho FF hk room ?_
    show wpAny _ _ (ret Value.none) _ _ _
    obtain ⟨r2, hl2⟩ := addTx_keep (hh := hashStr w k) (v := .str k u) r hl
    exact wpAny_pure ⟨_, rfl, hQ _ (Heap.SameBut.update s.heap a _) (by unfold addT; rw [if_neg hk]; exact ⟨_, PySem.Froz.get_upd _ ho rfl, PySem.Froz.add_ok u FF, r2, hl2⟩)⟩
end
theorem perm_of_sub : ∀ {l m : List Str}, l.Nodup → (∀ k ∈ l, k ∈ m) → l.length = m.length → l.Perm m
  | [], m, _, _, e => by
    have : m = [] := List.eq_nil_of_length_eq_zero e.symm
    rw [this]
  | x :: l, m, nd, h, e => by
    obtain ⟨n1, n2⟩ := List.nodup_cons.mp nd
    have hx := h x List.mem_cons_self
    refine ((perm_of_sub (m := m.erase x) n2 (fun k hk => ?_) ?_).cons x).trans (List.perm_cons_erase hx).symm
    · exact (List.mem_erase_of_ne fun z => n1 (by rw [← z]; exact hk)).mpr (h k (List.mem_cons_of_mem _ hk))
    · rw [List.length_erase_of_mem hx, ← e, List.length_cons]
      rfl
section
open PySem PySem.Spec PyProof.Rows
def txtOf : Value → Str
  | .str x _ => x
  | _ => Str.empty
theorem strs_txt : ∀ {vs : List Value}, (∀ v ∈ vs, ∃ x t, v = Value.str x t) → StrsAre vs (vs.map txtOf)
  | [], _ => .nil
  | v :: vs, h => by
    obtain ⟨x, t, rfl⟩ := h v List.mem_cons_self
    exact .cons _ _ (strs_txt fun u hu => h u (List.mem_cons_of_mem _ hu))
def SetT (P : Program) (w : World) (a : Addr) (l : List Str) : HO := .ext (SetTx P w a l)
def rSortedT (P : Program) (w : World) : List V → Hp → VK → Prop := fun vs H Q => ∃ (a : Addr) (l : List Str), vs = [.ref a] ∧ H a = some (SetT P w a l) ∧ l.Nodup ∧ l.length < 64 ∧
  ∀ ys p, ys.Perm l → sortedS ys = true → H p = none → Q (.ref p) (upd H p (.lst (ys.map V.str)))
theorem setT_ok {P : Program} {w : World} {H : Hp} {h : Heap} {a : Addr} {l : List Str} (R : SetTx P w a l h) : ObjOk P w H h a (SetT P w a l) := by
  have R2 := R
  obtain ⟨D, ho, _⟩ := R2
  exact ⟨R, ⟨_, ho⟩, fun h1 h2 p k => SetTx.at p k⟩
theorem call_sortedT {X : Cx} (hcalm : X.calm = true) : CallR X (.builtin "sorted") (rSortedT X.prog X.w) := by
  intro pins s σ H xs us Q I r q
  obtain ⟨a, l, rfl, ha, nd, h64, q⟩ := q
  obtain ⟨u, rfl, rx⟩ := vals1 r
  obtain rfl : u = .ref a := rx
  obtain ⟨⟨D, ho, FF, hr, hl⟩, _⟩ := (show ObjOk X.prog X.w H s.heap a (.ext (SetTx X.prog X.w a l)) from I.hok a _ ha)
  obtain ⟨es, ep, t⟩ := D
  have hsz : es.size = l.length := FF.sz
  refine Calls.call_function_entry PyProof.Rows.kind_sorted PyProof.Rows.plain_sorted PyProof.Rows.entry_sorted (PyProof.Rows.args_sorted1 _) ?_
  unfold Builtin.«sorted»
  refine wpAny_bind (m := checkCount "sorted" 1 1 _) (wpAny_pure ?_)
  refine wpAny_bind (collect_set (A := X.A.in1) (I.ok.hd hcalm) ⟨_, ho, rfl, rfl⟩ FF.fit (show es.size < 4096 by omega) hr hl fun s1 vs k1 hz g1 o1 pm => ?_)
  have hvl : vs.length = l.length := by rw [pm.length_eq, List.length_map, Array.length_toList]; exact hsz
  have hv : ∀ v ∈ vs, ∃ x t, v = Value.str x t := fun v hv => by
    obtain ⟨e, he, e1⟩ := List.mem_map.mp (pm.mem_iff.mp hv)
    obtain ⟨⟨k, hk, _⟩, _⟩ := FF.el e he
    obtain ⟨t, ev⟩ := Value.isStrOf_shape (x := k) (v := e.2) hk
    exact ⟨k, t, by rw [← e1, ev]⟩
  have hS := strs_txt hv
  have pk : (vs.map txtOf).Perm l := by
    refine (perm_of_sub nd (fun k hk => ?_) (by rw [List.length_map, hvl])).symm
    obtain ⟨e, he, q⟩ := (FF.mem k).mp hk
    obtain ⟨t, ev⟩ := Value.isStrOf_shape (x := k) (v := e.2) q
    exact List.mem_map.mpr ⟨e.2, pm.mem_iff.mpr (List.mem_map.mpr ⟨e, he, rfl⟩), by rw [ev]; rfl⟩
  have I1 : Inv X pins σ H s1 := by
    have J : Inv X pins σ H { s with heap := s1.heap, gens := s1.gens, drawn := s1.drawn, toks := s1.toks } :=
      I.call (ch := []) (Un.kept k1) (I.hok.kept k1) (by rw [g1]; exact I.bare) (fun _ z => nomatch z)
    have e : s1 = { s with heap := s1.heap, gens := s1.gens, drawn := s1.drawn, toks := s1.toks } := by
      cases s1
      cases s
      cases o1
      rfl
    rw [e]
    exact J
  refine wpAny_bind (wpAny_newList ?_ (by rw [hvl, sizeLine_eq]; omega))
  have hoL : (s1.heap.push (seqObj "list" vs.toArray 0)).get? s1.heap.objs.size = some (seqObj "list" vs.toArray 0) := Heap.get?_push_size _ rfl
  refine wpAny_bind (wpAny_holding (wpAny_call_entry PyProof.Rows.slot_list_sort ⟨_, hoL, rfl⟩ PyProof.Rows.entry_list_sort
    (list_sort_treeK strKind_oneLt (s := { s1 with heap := s1.heap.push (seqObj "list" vs.toArray 0) }) hoL hS.keysOf (fun v₁ v₂ rest e => keyKind_strs (by rw [← e]; exact hS)) (by rw [hvl]; exact h64) fun st' hp hs => ⟨_, rfl, ?_⟩)
    (PyProof.Rows.args_list_sort _)))
  obtain ⟨ys, y1, y2, y3⟩ := sorted_out_str hS hp hs
  obtain ⟨e', he'⟩ := PyProof.Rows.sortedHeap_at (vs := vs) (out := (arrOf st').map (·.2)) hoL
  have hlen : (ys.map V.str).length ≤ sizeLine := by
    rw [List.length_map, y2.length_eq, List.length_map, hvl, sizeLine_eq]
    omega
  refine wpAny_pure ⟨_, rfl, .ref s1.heap.objs.size, upd H s1.heap.objs.size (.lst (ys.map V.str)), I1.laid (t' := s1.toks) (fun b u e => ?_) (Nat.le_refl _)
    (show ObjOk X.prog X.w _ _ _ (.lst (ys.map V.str)) from ⟨hlen, ((arrOf st').map (·.2)).toList, e', vals_of_strs y1, by rw [Array.toArray_toList]; exact he'⟩), rfl, q ys _ (y2.trans pk) y3 (I1.hok.fresh (Nat.le_refl _))⟩
  have hb : b < s1.heap.objs.size := Heap.lt_size e
  rw [PyProof.Rows.sortedHeap_old (Nat.ne_of_lt hb) (by rw [size_push']; exact Nat.lt_succ_of_lt hb)]
  exact Heap.get?_push_of_some _ e
end
/-- found.add(x) of texts -/
def rSAddT (P : Program) (w : World) (x : V) (vs : List V) (H : Hp) (Q : VK) : Prop := ∃ (a : Addr) (c : Str) (l : List Str), x = .ref a ∧ vs = [.str c] ∧ H a = some (SetT P w a l) ∧ l.length + 1 < scanBound ∧ Q .non (upd H a (SetT P w a (addT l c)))
theorem mt_saddT {X : Cx} : MtR X "set.add" (rSAddT X.prog X.w) := by
  intro pins s σ H x vs v us Q I rx rs h
  obtain ⟨a, c, l, rfl, rfl, ha, hb, q⟩ := h
  obtain rfl : v = .ref a := rx
  obtain ⟨u, rfl, t, rfl⟩ := vals1 rs
  have R := (show ObjOk X.prog X.w H s.heap a (.ext (SetTx X.prog X.w a l)) from I.hok a _ ha).1
  refine setTx_add R hb fun h' sb R' => ?_
  obtain ⟨D, ho, _⟩ := id R'
  exact ⟨.non, _, d_write I (by rw [ha]; exact True.intro) sb ⟨_, ho⟩ (setT_ok R'), rfl, q⟩
/-! ### {e for x in xs} of texts -/
open PpSet (newSet_ok compLoopS_any codeAny_compStart_set eval_SetComp) in
section
def tSciT (P : Program) (w : World) (wi : TI) (g : TG) (tt : TT) (te : TE) (vs : List Nat) : TE := fun σ H Q =>
  wi σ H fun J H1 => ∀ D, H1 D = none →
    ∃ W : Nat → Nat → Hp → Prop, (∃ m, W 0 m (upd H1 D (SetT P w D []))) ∧
      ∀ i m H, W i m H → (J.stop i H ∧ Q (.ref D) H) ∨
        (J.go i H ∧ ∃ Nx : Hp → Prop, (∀ H', Nx H' → ∃ m', m' < m ∧ W (i + 1) m' H') ∧
          ∀ x H', J.yld i H x H' → g x (wipe σ vs) H' fun σ2 H2 => wipe σ2 vs = wipe σ vs ∧ tt σ2 H2 fun b H3 =>
            if b = true then te σ2 H3 fun y H4 => ∃ (c : Str) (l : List Str), y = .str c ∧ H4 D = some (SetT P w D l) ∧ l.length + 1 < scanBound ∧
              Nx (upd H4 D (SetT P w D (addT l c)))
            else Nx H3)
theorem sciT_core {X : Cx} {pins : List (Addr × Obj)} {s : Shared} {σ : St} {H : Hp} {Q : VK} {elt tg iter : Expr} {ifs : List Expr} {scope : Scope} {own : List (Str × Nat)} {pos pos' : Pos} {wi : TI} {g : TG} {tt : TT} {te : TE} {use : Option (Value → Sem Unit)} {Qf : Value → Shared → Prop}
    (hc : X.calm = true) (hN : X.N.Nodup) (I : Inv X pins σ H s) (hi : PI X tg iter wi) (ok : BlkOk X.N X.env.scope scope own)
    (hg : ∀ (s : Shared) (H : Hp) (C : Addr) (cl : List (Str × Addr)) (fp : List Addr), PG (X.blk s H scope (compEnvC scope cl C X.env) fp) tg g)
    (ht : ∀ (s : Shared) (H : Hp) (C : Addr) (cl : List (Str × Addr)) (fp : List Addr), PTs (X.blk s H scope (compEnvC scope cl C X.env) fp) ifs tt)
    (he : ∀ (s : Shared) (H : Hp) (C : Addr) (cl : List (Str × Addr)) (fp : List Addr), PE (X.blk s H scope (compEnvC scope cl C X.env) fp) elt te)
    (hs : ∀ x : Value, foldedSetIterable iter X.env x = pure x) (h : tSciT X.prog X.w wi g tt te (own.map (·.2)) σ H Q)
    (hRR : ∀ (D C : Addr) (s' : Shared) (m : Str → Option Value) (H' : Hp), Inv X pins σ H' s' → Q (.ref D) H' → s'.heap.Ns C m → FpOk X pins H' C → compPost (model X.prog X.w) X.A X.xe use Qf (.ref D) C (.ok .next) s') :
    wpAny (model X.prog X.w) X.A (comprehension (.SetComp elt [⟨tg, iter, ifs, 0⟩] scope pos) scope X.env pos' (newSet (.type "set")) false (eval iter X.env) use) Qf X.xe s := by
  refine wpAny_comprehension_free rfl hs (closure_ok fun y hy e => (ok.free y hy e).elim (fun k => I.ok.has y.1 (Or.inl k)) fun k => I.ok.has y.1 (Or.inr k)) ok.kind (fun y hy e => by rw [ok.uniq y hy, e]) ?_
  refine thn (hi.run pins s σ H _ I h) fun xv s1 hx => thn hx fun itv s2 h2 => ?_
  obtain ⟨it, fp, tn, J, H2, e, I2, T, st2, f2, q⟩ := h2
  subst e
  refine newSet_ok (newEnv_comp ?_)
  have hDn := HOk.fresh I2.hok (Nat.le_refl s2.heap.objs.size)
  obtain ⟨W, ⟨m0, w0⟩, turn⟩ := q s2.heap.objs.size hDn
  have I3 := Inv.laid (t' := s2.toks) I2 (fun b o e => Heap.get?_push_of_some _ e) (Nat.le_refl s2.heap.objs.size) (setT_ok (P := X.prog) (w := X.w) (H := upd H2 s2.heap.objs.size (SetT X.prog X.w s2.heap.objs.size [])) (setTx_fresh (h := s2.heap)))
  have sz : ∀ b, b ∈ fp → b < s2.heap.objs.size := fun b hb => by
    obtain ⟨o, e, _⟩ := T.obj 0 s2.heap st2 b hb
    exact Heap.lt_size e
  generalize hS3 : ({ heap := s2.heap.push { cls := Value.type "set", data := Data.set #[] 0 (SetTable.fresh 0 0 !X.w.params.followText "set-order") }, gens := s2.gens, drawn := s2.drawn, toks := s2.toks, os := s2.os } : Shared) = S3 at I3 ⊢
  have h3 : S3.heap = s2.heap.push { cls := Value.type "set", data := Data.set #[] 0 (SetTable.fresh 0 0 !X.w.params.followText "set-order") } := by rw [← hS3]
  have f3 : ∀ b, b ∈ fp → FpOk X pins (upd H2 s2.heap.objs.size (SetT X.prog X.w s2.heap.objs.size [])) b ∧ b < S3.heap.objs.size := fun b hb => by
    have hlt := sz b hb
    refine ⟨⟨?_, (f2 b hb).2⟩, ?_⟩
    · rw [upd_ne (Nat.ne_of_lt hlt)]
      exact (f2 b hb).1
    · rw [h3, Heap.size_push]
      exact Nat.lt_succ_of_lt hlt
  have st3 := T.keep 0 s2.heap S3.heap st2 fun b x o e => by
    rw [h3]
    exact Heap.get?_push_of_some _ e
  generalize hH3 : upd H2 s2.heap.objs.size (SetT X.prog X.w s2.heap.objs.size []) = H3 at *
  generalize hDD : s2.heap.objs.size = DD at *
  have I4 := block_start I3 ok hN f3
  have pg := hg S3 H3 S3.heap.objs.size (cellsFrom (S3.heap.objs.size + 1) scope.names (cloFrom X.env.cells scope.names [])) fp
  have pt := ht S3 H3 S3.heap.objs.size (cellsFrom (S3.heap.objs.size + 1) scope.names (cloFrom X.env.cells scope.names [])) fp
  have pe := he S3 H3 S3.heap.objs.size (cellsFrom (S3.heap.objs.size + 1) scope.names (cloFrom X.env.cells scope.names [])) fp
  have nfp : ∀ b, b ∈ fp → H3 b = none := fun b hb => (f3 b hb).1.1
  change codeAny (model X.prog X.w) X.A (Code.compStart (.SetComp elt [⟨tg, iter, ifs, 0⟩] scope pos) 0 (.ref it) (.ref DD) (compEnvC scope (cellsFrom (S3.heap.objs.size + 1) scope.names (cloFrom X.env.cells scope.names [])) S3.heap.objs.size X.env)) (compPost (model X.prog X.w) X.A X.xe use Qf (.ref DD) S3.heap.objs.size) { heap := pushCells (S3.heap.push { cls := .type "dict", data := .dict #[] }) scope.names, gens := S3.gens, drawn := S3.drawn, toks := S3.toks, os := S3.os }
  have cL : (compEnvC scope (cellsFrom (S3.heap.objs.size + 1) scope.names (cloFrom X.env.cells scope.names [])) S3.heap.objs.size X.env).locals = S3.heap.objs.size := rfl
  generalize compEnvC scope (cellsFrom (S3.heap.objs.size + 1) scope.names (cloFrom X.env.cells scope.names [])) S3.heap.objs.size X.env = ce at I4 pg pt pe cL ⊢
  generalize hs4 : ({ heap := pushCells (S3.heap.push { cls := .type "dict", data := .dict #[] }) scope.names, gens := S3.gens, drawn := S3.drawn, toks := S3.toks, os := S3.os } : Shared) = s4 at I4 ⊢
  have st4 : tn 0 s4.heap := T.keep 0 S3.heap s4.heap st3 fun b x o e => by
    rw [← hs4]
    exact pushCells_keeps scope.names _ b o (Heap.get?_push_of_some _ e)
  have stat : ∀ {σ' : St} {H' : Hp} {s' : Shared}, Inv (X.blk S3 H3 scope ce fp) [] σ' H' s' → (∀ b, b ∈ fp → H' b = none) → ∀ b, b ∈ fp → FpOk (X.blk S3 H3 scope ce fp) [] H' b := fun I' hn b hb =>
    ⟨hn b hb, (I'.ok.exf b hb).1, I'.ok.exfs b hb, .inl hb, fun x c e => (I'.ok.exf b hb).2 x c e, fun p hp => by
      have hp : p ∈ ([] : List (Addr × Obj)) := hp
      cases hp⟩
  refine (fun loop => codeAny_compStart_set loop (T.self X.A 0 s4 _ _ st4 loop)) (compLoopS_any (fun n s' => ∃ (i : Nat) (H' : Hp), Inv (X.blk S3 H3 scope ce fp) [] (wipe σ (own.map (·.2))) H' s' ∧ tn i s'.heap ∧ (∀ b, b ∈ fp → H' b = none) ∧ W i n H') ?_ m0 ⟨0, H3, I4, st4, nfp, w0⟩)
  rintro n s5 ⟨i, H5, I5, st5, n5, w5⟩
  rcases turn i n H5 w5 with ⟨stop, qq⟩ | ⟨go, Nx, hNx, step⟩
  · have td := T.done (X.blk S3 H3 scope ce fp) rfl rfl rfl hc i [] s5 (wipe σ (own.map (·.2))) H5 (fun _ _ => False) I5 (stat I5 n5) st5 stop
    refine thnF td fun r s6 x => ?_
    obtain ⟨rfl, I6⟩ := x
    have I7 := Inv.call' I3 I6.os I6.base I6.hok I6.bare fun b hb => ⟨(f3 b hb).1.2.2.2.1, (f3 b hb).1.2.1, (f3 b hb).1.2.2.2.2.1, (f3 b hb).1.2.2.2.2.2⟩
    have nC : H5 S3.heap.objs.size = none := by
      have z := I6.free
      have z : H5 ce.locals = none := z
      rw [cL] at z
      exact z
    obtain ⟨m, hn, _⟩ := I6.loc
    have hn : s6.heap.Ns ce.locals m := hn
    rw [cL] at hn
    exact hRR DD S3.heap.objs.size s6 m H5 I7 qq hn (Inv.fpOk I3 (Nat.le_refl _) nC)
  · have ti := T.item (X.blk S3 H3 scope ce fp) rfl rfl rfl hc i [] s5 (wipe σ (own.map (·.2))) H5 (fun _ _ => False) I5 (stat I5 n5) st5 go
    refine thnF ti fun r s6 x => ?_
    obtain ⟨u, rfl, h6⟩ := x
    refine thnF h6 fun x s7 x_1 => ?_
    obtain ⟨x, H7, I7, r7, y7, st7, n7⟩ := x_1
    have I7' := Inv.pinned I7 (stat I7 n7) (T.obj (i + 1) s7.heap st7)
    refine thnF (pg.run ([] ++ pinsAt fp s7.heap) s7 (wipe σ (own.map (·.2))) H7 x u _ I7' r7 (step x H7 y7)) fun x s8 x_2 => ?_
    obtain ⟨σ8, H8, I8, hw8, q8⟩ := x_2
    refine thnF (pt.run ([] ++ pinsAt fp s7.heap) s8 σ8 H8 _ I8 q8) fun b s9 x => ?_
    obtain ⟨H9, I9, q9⟩ := x
    have fin : ∀ {s' : Shared} {H' : Hp}, Inv (X.blk S3 H3 scope ce fp) ([] ++ pinsAt fp s7.heap) σ8 H' s' → Nx H' → ∃ m, m < n ∧ ∃ (i : Nat) (H' : Hp), Inv (X.blk S3 H3 scope ce fp) [] (wipe σ (own.map (·.2))) H' s' ∧ tn i s'.heap ∧ (∀ b, b ∈ fp → H' b = none) ∧ W i m H' := fun {s' H'} I' nx => by
      obtain ⟨m', hm, w'⟩ := hNx _ nx
      have pin' : ∀ b, b ∈ fp → ∀ o, s7.heap.get? b = some o → s'.heap.get? b = some o ∧ H' b = none := fun b hb o e => by
        have z := I'.pin (b, o) (List.mem_append_right _ (List.mem_append_right [] (mem_pinsAt hb e)))
        exact ⟨z.1, z.2.1⟩
      have hl : (wipe σ (own.map (·.2))).length = σ8.length := by rw [← hw8, wipe_length]
      exact ⟨m', hm, i + 1, _, Inv.weak (Inv.unpinned I') hl fun j v e => (wipe_some (by rw [hw8]; exact e)).1, T.keep (i + 1) s7.heap s'.heap st7 fun b hb o e => (pin' b hb o e).1, fun b hb => by
        obtain ⟨o, e, _⟩ := T.obj (i + 1) s7.heap st7 b hb
        exact (pin' b hb o e).2, w'⟩
    cases b with
    | false =>
      rw [if_neg (by decide)] at q9 ⊢
      exact fin I9 q9
    | true =>
      rw [if_pos rfl] at q9 ⊢
      refine thnF (pe.run ([] ++ pinsAt fp s7.heap) s9 σ8 H9 _ I9 q9) fun z s10 x => ?_
      obtain ⟨yv, H10, I10, r10, cb, l0, rfl, hD10, hz10, nx⟩ := x
      refine thnF (mt_saddT (X := X.blk S3 H3 scope ce fp) ([] ++ pinsAt fp s7.heap) s10 σ8 H10 (.ref DD) [.str cb] (.ref DD) [z] (fun _ H => Nx H) I10 rfl (Paired.cons r10 Paired.nil) ⟨DD, cb, l0, rfl, rfl, hD10, hz10, nx⟩) fun v s11 e => ?_
      obtain ⟨_, H11, I11, _, nx⟩ := e
      exact fin I11 nx
theorem pe_sciT {X : Cx} {elt tg iter : Expr} {ifs : List Expr} {scope : Scope} {own : List (Str × Nat)} {pos : Pos} {wi : TI} {g : TG} {tt : TT} {te : TE}
    (hc : X.calm = true) (hN : X.N.Nodup) (hi : PI X tg iter wi) (ok : BlkOk X.N X.env.scope scope own)
    (hg : ∀ (s : Shared) (H : Hp) (C : Addr) (cl : List (Str × Addr)) (fp : List Addr), PG (X.blk s H scope (compEnvC scope cl C X.env) fp) tg g)
    (ht : ∀ (s : Shared) (H : Hp) (C : Addr) (cl : List (Str × Addr)) (fp : List Addr), PTs (X.blk s H scope (compEnvC scope cl C X.env) fp) ifs tt)
    (he : ∀ (s : Shared) (H : Hp) (C : Addr) (cl : List (Str × Addr)) (fp : List Addr), PE (X.blk s H scope (compEnvC scope cl C X.env) fp) elt te)
    (hs : ∀ x : Value, foldedSetIterable iter X.env x = pure x := by intro x; rfl) : PE X (.SetComp elt [⟨tg, iter, ifs, 0⟩] scope pos) (tSciT X.prog X.w wi g tt te (own.map (·.2))) := by
  refine ⟨fun pins s σ H Q I h => ?_⟩
  rw [eval_SetComp]
  refine sciT_core hc hN I hi ok hg ht he hs h fun D C s' m H' I' q hn f => ?_
  obtain ⟨f0, f1, f2, f3, f4, f5⟩ := f
  exact ⟨m, hn, fun h'' sb => ⟨.ref D, H', Inv.turned I' (fun b o hb e => (sb.2 b hb).trans e) f0 f1 f3 f4 f5, rfl, q⟩⟩
end
/-! ### sorted({e for x in xs}) of texts -/
def dedT (is : List Str) : List Str := is.foldl addT []
theorem addT_mem {ks : List Str} {c k : Str} : k ∈ addT ks c ↔ k ∈ ks ∨ k = c := by
  unfold addT
  split
  · rename_i h
    exact ⟨.inl, fun z => z.elim id fun e => by rw [e]; exact h⟩
  · rw [List.mem_cons]
    exact Or.comm
theorem addT_nodup {ks : List Str} {c : Str} (h : ks.Nodup) : (addT ks c).Nodup := by
  unfold addT
  split
  · exact h
  · rename_i hn
    exact List.nodup_cons.mpr ⟨hn, h⟩
theorem dedT_snoc (is : List Str) (c : Str) : dedT (is ++ [c]) = addT (dedT is) c := by unfold dedT; rw [List.foldl_append]; rfl
theorem dedT_len (is : List Str) : (dedT is).length ≤ is.length := by
  have key : ∀ (is ks : List Str), (is.foldl addT ks).length ≤ ks.length + is.length := fun is => by
    induction is with
    | nil => intro ks; exact Nat.le_refl _
    | cons c is ih =>
      intro ks
      have h1 := ih (addT ks c)
      have h2 : (addT ks c).length ≤ ks.length + 1 := by unfold addT; split <;> simp
      rw [List.foldl_cons, List.length_cons]
      omega
  have := key is []
  rw [List.length_nil, Nat.zero_add] at this
  exact this
theorem dedT_mem (is : List Str) {k : Str} : k ∈ dedT is ↔ k ∈ is := by
  have key : ∀ (is ks : List Str), k ∈ is.foldl addT ks ↔ k ∈ ks ∨ k ∈ is := fun is => by
    induction is with
    | nil => intro ks; exact ⟨.inl, fun z => z.elim id nofun⟩
    | cons c is ih =>
      intro ks
      rw [List.foldl_cons, ih, addT_mem, List.mem_cons]
      exact ⟨fun z => by rcases z with (z | z) | z; exact .inl z; exact .inr (.inl z); exact .inr (.inr z), fun z => by rcases z with z | z | z; exact .inl (.inl z); exact .inl (.inr z); exact .inr z⟩
  unfold dedT
  rw [key]
  exact ⟨fun z => z.elim nofun id, .inr⟩
theorem dedT_nodup (is : List Str) : (dedT is).Nodup := by
  have key : ∀ (is ks : List Str), ks.Nodup → (is.foldl addT ks).Nodup := fun is => by
    induction is with
    | nil => intro ks h; exact h
    | cons c is ih => intro ks h; exact ih _ (addT_nodup h)
  exact key is [] List.nodup_nil
theorem asStrs_app : ∀ {xs ys : List D} {is : List Str}, O.asStrs (xs ++ ys) = some is → ∃ ks js, O.asStrs xs = some ks ∧ O.asStrs ys = some js ∧ is = ks ++ js
  | [], ys, is, h => ⟨[], is, rfl, h, rfl⟩
  | x :: xs, ys, is, h => by
    cases x with
    | str i =>
      have h : (O.asStrs (xs ++ ys)).map (i :: ·) = some is := h
      obtain ⟨ms, h1, rfl⟩ := Option.map_eq_some_iff.mp h
      obtain ⟨ks, js, e1, e2, rfl⟩ := asStrs_app h1
      refine ⟨i :: ks, js, ?_, e2, rfl⟩
      show (O.asStrs xs).map (i :: ·) = _
      rw [e1]; rfl
    | _ => cases h
theorem asStrs_strs : ∀ is : List Str, O.asStrs (is.map D.str) = some is
  | [] => rfl
  | i :: is => by
    show (O.asStrs (is.map D.str)).map (i :: ·) = _
    rw [asStrs_strs is]; rfl
noncomputable def dSetST (xs : List D) (S : Sto) : Res D := match O.asStrs xs with
  | some is => if is.length < 1000 ∧ (dedT is).length < 64 then mkLst ((sortS (dedT is)).map D.str) S else .bad
  | none => .bad
noncomputable def sEndT : Res (List D) → Res D
  | .ok xs S2 => dSetST xs S2
  | .exc _ _ _ => .bad
  | .bad => .bad
noncomputable def dSetC1T (g : DG) (t : DT) (e : DE) (ρ : Env) : Walked → Sto → Res D
  | (items, still), S1 => sEndT (cLoop still g t e ρ items S1)
noncomputable def dSetCT (di : DI) (g : DG) (vs : List Nat) (t : DT) (e : DE) (ρ : Env) (S : Sto) : Res D := (di ρ S).bind (dSetC1T g t e (wipeE ρ vs))

section
variable {K : PySem.W.Frag} {mg : Str → Option Value} {W : WX}
theorem i_setcT {pp : Program} {ww : World} {di : DI} {wi : TI} {g : DG} {tg : TG} {us vs : List Nat} {t : DT} {de : DE} (hi : IOk K mg W di wi) (hg : GOk K mg us g tg) (hu : ∀ i ∈ us, i ∈ vs) {σ : St} {H : Hp} {Q : VK} (h : LE K mg W (dSetCT di g vs t de) σ H Q) :
    tCB (rSortedT pp ww) (tCons (tSciT pp ww wi tg (LT K mg W0 t) (LE K mg W0 de) vs) tNil) σ H Q := by
  obtain ⟨w, ok, rfl, ρ, rr, h⟩ := h
  show tSciT pp ww wi tg (LT K mg W0 t) (LE K mg W0 de) vs σ w.H (fun x H1 => rSortedT pp ww [x] H1 Q)
  refine hi w ρ σ _ ok rr (h.bind fun w1 p J le1 ok1 ri h1 => ?_)
  obtain ⟨items, still⟩ := p
  intro q hq
  have rr1 := (rr.up ok le1).wipe vs
  have base : w1.Le (w1.heap (upd w1.H q (SetT pp ww q []))) := Wo.new_le hq
  have okb : (w1.heap (upd w1.H q (SetT pp ww q []))).Ok K mg := Wo.new_ok ok1 hq
  refine ⟨fun i m H => m = items.length - i ∧ i ≤ items.length ∧ ∃ (w2 : Wo) (is : List Str) (xs : List D) (S' : Sto), w1.Le w2 ∧ w2.Ok K mg ∧ w2.H = H ∧ still w2.S ∧ w2.H q = some (SetT pp ww q (dedT is)) ∧ (∀ j, j < w2.S.length → w2.m j ≠ q) ∧
      cLoop still g t de (wipeE ρ vs) (items.drop i) w2.S = .ok xs S' ∧ Fin K mg w1 (Rv K mg) (dSetST (is.map D.str ++ xs) S') Q (XW K mg W σ), ?_, ?_⟩
  · cases e : cLoop still g t de (wipeE ρ vs) items w1.S with
    | bad =>
      unfold dSetC1T at h1
      dsimp only at h1
      rw [e] at h1
      exact h1.elim
    | exc c fs S =>
      unfold dSetC1T at h1
      dsimp only at h1
      rw [e] at h1
      exact h1.elim
    | ok xs S' =>
      unfold dSetC1T at h1
      dsimp only at h1
      rw [e] at h1
      refine ⟨items.length, rfl, Nat.zero_le _, w1.heap (upd w1.H q (SetT pp ww q [])), [], xs, S', base, okb, rfl, ri.now, ?_, fun j hj z => ?_, e, h1⟩
      · show upd w1.H q (SetT pp ww q []) q = _
        rw [upd_same]
        rfl
      · obtain ⟨o, h2, _⟩ := ok1.at (show j < w1.S.length from hj)
        have z : w1.m j = q := z
        rw [z, hq] at h2
        cases h2
  · rintro i m H2 ⟨rfl, hil, w2, is, xs, S', le2, ok2, rfl, st2, hl2, hn2, ec, hf⟩
    by_cases hlt : i < items.length
    · have ei := List.getElem?_eq_getElem hlt
      rw [List.drop_eq_getElem_cons hlt] at ec
      generalize items[i] = d at ei ec
      obtain ⟨go, yl⟩ := ri.step w2 i d le2 ok2 st2 ei
      refine .inr ⟨go, fun H' => ∃ (w2 : Wo) (is : List Str) (xs : List D) (S' : Sto), w1.Le w2 ∧ w2.Ok K mg ∧ w2.H = H' ∧ still w2.S ∧ w2.H q = some (SetT pp ww q (dedT is)) ∧ (∀ j, j < w2.S.length → w2.m j ≠ q) ∧
        cLoop still g t de (wipeE ρ vs) (items.drop (i + 1)) w2.S = .ok xs S' ∧ Fin K mg w1 (Rv K mg) (dSetST (is.map D.str ++ xs) S') Q (XW K mg W σ), fun H' n => ⟨items.length - (i + 1), by omega, rfl, hlt, n⟩, fun x H' y => ?_⟩
      obtain ⟨w3, le3, ok3, es3, rfl, r3⟩ := yl x H' y
      -- the hidden set is still there, and still hidden
      have hid : ∀ {wa wb : Wo} {o : HO}, wa.Ok K mg → wa.Le wb → wa.H q = some o → (∀ j, j < wa.S.length → wa.m j ≠ q) → wb.H q = some o ∧ ∀ j, j < wb.S.length → wb.m j ≠ q := fun {wa wb o} oka le hq2 hn => by
        refine ⟨le.fr' _ _ hq2 hn, fun j hj z => ?_⟩
        by_cases hja : j < wa.S.length
        · rw [le.ag j hja] at z
          exact hn j hja z
        · have := le.nw j (Nat.le_of_not_lt hja) hj
          rw [z, hq2] at this
          cases this
      obtain ⟨hl3, hn3⟩ := hid ok2 le3 hl2 hn2
      have le13 := le2.trans ok2 le3
      have rr3 := (rr.up ok (le1.trans ok1 le13)).wipe vs
      unfold cLoop at ec
      rw [← es3] at ec
      cases eg : g d (wipeE ρ vs) w3.S with
      | none => rw [eg] at ec; cases ec
      | some ρ3 =>
        rw [eg] at ec
        refine hg w3 d x _ ρ3 _ _ ok3 rr3 r3 eg fun σ3 rr4 hw => ⟨?_, w3, ok3, rfl, ρ3, rr4, ?_⟩
        · rw [hw vs hu]
          have wip : ∀ us : List Nat, (∀ i ∈ us, i ∈ vs) → L2.wipe (L2.wipe σ us) vs = L2.wipe σ vs := by
            intro us
            induction us with
            | nil => intro _; rfl
            | cons u us ih =>
              intro hus
              show L2.wipe ((L2.wipe σ us).set u none) vs = _
              rw [wipe_set (hus u List.mem_cons_self), ih fun i hi => hus i (List.mem_cons_of_mem _ hi)]
          exact wip vs fun _ hi => hi
        · unfold cTg at ec
          dsimp only at ec
          cases et : t ρ3 w3.S with
          | bad => rw [et] at ec; cases ec
          | exc c fs S => rw [et] at ec; cases ec
          | ok k S4 =>
            rw [et] at ec
            intro w4 v4 le4 ok4 es4 r4
            have r4 : k = v4 := r4
            subst r4
            subst es4
            obtain ⟨hl4, hn4⟩ := hid ok3 le4 hl3 hn3
            have le14 := le13.trans ok3 le4
            have rr5 := rr4.up ok3 le4
            cases k with
            | false =>
              refine iteF ?_
              unfold cTest cSkip at ec
              dsimp only at ec
              by_cases hs : still w4.S
              · rw [if_pos hs] at ec
                exact ⟨w4, is, xs, S', le14, ok4, rfl, hs, hl4, hn4, ec, hf⟩
              · rw [if_neg hs] at ec
                cases ec
            | true =>
              refine iteT ⟨w4, ok4, rfl, ρ3, rr5, ?_⟩
              unfold cTest at ec
              dsimp only at ec
              cases ee : de ρ3 w4.S with
              | bad => rw [ee] at ec; cases ec
              | exc c fs S => rw [ee] at ec; cases ec
              | ok z S5 =>
                rw [ee] at ec
                intro w5 v5 le5 ok5 es5 r5
                subst es5
                obtain ⟨hl5, hn5⟩ := hid ok4 le5 hl4 hn4
                have le15 := le14.trans ok4 le5
                unfold cElt cSkip at ec
                dsimp only at ec
                by_cases hs : still w5.S
                · rw [if_pos hs] at ec
                  cases er : cLoop still g t de (wipeE ρ vs) (items.drop (i + 1)) w5.S with
                  | bad => rw [er] at ec; cases ec
                  | exc c fs S => rw [er] at ec; cases ec
                  | ok ys S6 =>
                    rw [er] at ec
                    unfold cHead at ec
                    injection ec with ec1 ec2
                    subst ec1 ec2
                    -- what the end asks for
                    unfold dSetST at hf
                    cases ea : O.asStrs (is.map D.str ++ z :: ys) with
                    | none => rw [ea] at hf; exact hf.elim
                    | some all =>
                      rw [ea] at hf
                      dsimp only at hf
                      by_cases hb : all.length < 1000 ∧ (dedT all).length < 64
                      · rw [if_pos hb] at hf
                        obtain ⟨ks, js, e1, e2, e3⟩ := asStrs_app ea
                        rw [asStrs_strs] at e1
                        cases Option.some.inj e1
                        cases z with
                        | str c =>
                          have rv5 : v5 = V.str c := by rw [Rv] at r5; exact r5
                          have len : is.length < 1000 := by
                            have := hb.1
                            rw [e3, List.length_append] at this
                            omega
                          have le0 := dedT_len is
                          have eS : addT (dedT is) c = dedT (is ++ [c]) := (dedT_snoc is c).symm
                          refine ⟨c, _, rv5, hl5, by unfold scanBound; omega, ?_⟩
                          dsimp only
                          rw [eS]
                          refine ⟨w5.heap (upd w5.H q (SetT pp ww q (dedT (is ++ [c])))), is ++ [c], ys, S6, Wo.hidx_le le15 hq, Wo.hidx_ok ok5 hl5 hn5, rfl, hs, upd_same, hn5, er, ?_⟩
                          unfold dSetST
                          rw [List.map_append, List.append_assoc]
                          show Fin K mg w1 (Rv K mg) (match O.asStrs (is.map D.str ++ D.str c :: ys) with | some is => if is.length < 1000 ∧ (dedT is).length < 64 then mkLst ((sortS (dedT is)).map D.str) S6 else .bad | none => .bad) Q (XW K mg W σ)
                          rw [ea]
                          dsimp only
                          rw [if_pos hb]
                          exact hf
                        | _ => cases e2
                      · rw [if_neg hb] at hf
                        exact hf.elim
                · rw [if_neg hs] at ec
                  cases ec
    · have e1 : i = items.length := by omega
      subst e1
      rw [List.drop_length] at ec
      unfold cLoop at ec
      injection ec with ec1 ec2
      subst ec1 ec2
      refine .inl ⟨ri.stop w2 le2 ok2 st2, ?_⟩
      rw [List.append_nil] at hf
      unfold dSetST at hf
      rw [asStrs_strs] at hf
      dsimp only at hf
      by_cases hb : is.length < 1000 ∧ (dedT is).length < 64
      · rw [if_pos hb] at hf
        refine ⟨q, _, rfl, hl2, dedT_nodup is, hb.2, fun ns p hp2 ho hp => ?_⟩
        rw [sortS_is (dedT is) ns hp2 ho]
        exact (Fin.up ok2 le2 hf).newLst ok2 hp (strs_rvs _)
      · rw [if_neg hb] at hf
        exact hf.elim
end
section
variable {X : Cx} {W : WX} {pos p : Pos}
theorem l_setcT {cpos : Pos} {elt tg iter : Expr} {ifs : List Expr} {scope : Scope} {own : List (Str × Nat)} {wi : TI} {g : DG} {t : TG} {us : List Nat} {di : DI} {dt : DT} {de : DE} (hgl : Gl X "sorted") (hm : X.mg "sorted" = none) (hv : bootBuiltins "sorted" = some (.builtin "sorted")) (hc : X.calm = true) (hN : X.N.Nodup) (hi : PI X tg iter wi) (oi : IOk X.K X.mg W di wi) (ok : BlkOk X.N X.env.scope scope own)
    (hg : ∀ (s : Shared) (H : Hp) (C : Addr) (cl : List (Str × Addr)) (fp : List Addr), PG (X.blk s H scope (compEnvC scope cl C X.env) fp) tg t) (og : GOk X.K X.mg us g t) (hu : ∀ i ∈ us, i ∈ own.map (·.2))
    (ht : ∀ (s : Shared) (H : Hp) (C : Addr) (cl : List (Str × Addr)) (fp : List Addr), PTs (X.blk s H scope (compEnvC scope cl C X.env) fp) ifs (LT X.K X.mg W0 dt))
    (he : ∀ (s : Shared) (H : Hp) (C : Addr) (cl : List (Str × Addr)) (fp : List Addr), PE (X.blk s H scope (compEnvC scope cl C X.env) fp) elt (LE X.K X.mg W0 de)) (hs : ∀ x, foldedSetIterable iter X.env x = pure x := by intro _; rfl) :
    PE X (.Call (.Name "sorted" p) [.SetComp elt [⟨tg, iter, ifs, 0⟩] scope cpos] [] pos) (LE X.K X.mg W (dSetCT di g (own.map (·.2)) dt de)) :=
  (pe_callB (call_sortedT hc) hgl hm hv (pa_cons (pe_sciT hc hN hi ok hg ht he hs) pa_nil (by rfl)) (by decide) (by decide) (by rfl) (by rfl)).imp fun _ _ _ => i_setcT oi og hu
end
/-! ### sorted(a list of texts) -/
section
variable {K : PySem.W.Frag} {mg : Str → Option Value}
noncomputable def dSortedLS : DF
  | [.obj n], S => sortSR S ((lstOf S n).bind O.asStrs)
  | _, _ => .bad
theorem o_sortedLS : Opn K mg (rSortedS K) dSortedLS := by
  intro w ds vs Q E ok r h
  unfold dSortedLS at h
  split at h
  · obtain ⟨v, rfl, r1⟩ := r.one
    rename_i n
    cases e : (lstOf w.S n).bind O.asStrs with
    | none => rw [e] at h; exact h.elim
    | some ns =>
      rw [e] at h
      have h : Fin K mg w (Rv K mg) (if ns.length < 64 then mkLst ((sortS ns).map D.str) w.S else .bad) Q E := h
      by_cases hl : ns.length < 64
      · rw [if_pos hl] at h
        obtain ⟨_, rfl⟩ := r1.obj
        obtain ⟨xs, e1, e2⟩ := Option.bind_eq_some_iff.mp e
        obtain ⟨us, t, r2⟩ := lst_at ok e1
        rw [r2.strs e2] at t
        refine ⟨_, ns, rfl, t, hl, fun ms p hp ho hn => ?_⟩
        rw [sortS_is ns ms hp ho]
        exact h.newLst ok hn (strs_rvs _)
      · rw [if_neg hl] at h
        exact h.elim
  · exact h.elim
end

/-! ### a dict is walked: it is held still meanwhile -/
section
open PySem PySem.Spec PyProof.Rows
/-- as tLock, what stands there afterwards is told anew -/
def tLockA (t : TS) : TS := fun D σ H => ∃ d u, H d = some u ∧ Mut (some u) ∧ ∀ od, t ⟨fun σ' H' => ∃ o2 u2, H' d = some (.frz o2 u2) ∧ D.nx σ' (upd H' d u2), fun v H' => ∃ o2 u2, H' d = some (.frz o2 u2) ∧ D.rt v (upd H' d u2), fun σ' H' => ∃ o2 u2, H' d = some (.frz o2 u2) ∧ D.bk σ' (upd H' d u2), fun σ' H' => ∃ o2 u2, H' d = some (.frz o2 u2) ∧ D.ct σ' (upd H' d u2)⟩ σ (upd H d (.frz od u))
theorem ps_lockA {X : Cx} {st : Stmt} {t : TS} (h : PS X st t) : PS X st (tLockA t) := by
  refine ⟨fun pins s σ H D I hw => ?_⟩
  obtain ⟨d, u, hd, mu, hw⟩ := hw
  obtain ⟨od, I1⟩ := I.lock hd mu
  refine thn (h.run pins s σ _ _ I1 (hw od)) fun f s1 q => ?_
  cases f with
  | next => obtain ⟨σ', H', I2, o2, u2, e, q⟩ := q; exact ⟨σ', _, I2.unlock e (I.nofrz hd mu), q⟩
  | brk => obtain ⟨σ', H', I2, o2, u2, e, q⟩ := q; exact ⟨σ', _, I2.unlock e (I.nofrz hd mu), q⟩
  | cont => obtain ⟨σ', H', I2, o2, u2, e, q⟩ := q; exact ⟨σ', _, I2.unlock e (I.nofrz hd mu), q⟩
  | ret v => obtain ⟨x, σ', H', I2, r, o2, u2, e, q⟩ := q; exact ⟨x, σ', _, I2.unlock e (I.nofrz hd mu), r, q⟩
end
section
variable {K : PySem.W.Frag} {mg : Str → Option Value} {X : Cx} {W : WX}
def hkOf (S : Sto) (n : Nat) : Option (List (Key × D)) := match S[n]? with
  | some (.hk kvs) => some kvs
  | _ => none
def keyD : Key → D
  | .inl i => .int i
  | .inr x => .str x
def toWalkK : D → Sto → Res Walked
  | .obj n, S => match hkOf S n with
    | some kvs => .ok (kvs.map fun p => keyD p.1, fun S => hkOf S n = some kvs) S
    | none => .bad
  | _, _ => .bad
def wK (de : DE) (ρ : Env) (S : Sto) : Res Walked := (de ρ S).bind toWalkK
theorem hk_at {w : Wo} (ok : w.Ok K mg) {n : Nat} {kvs : List (Key × D)} (h : hkOf w.S n = some kvs) : w.S[n]? = some (.hk kvs) ∧ ∃ o vs, w.H (w.m n) = some (.frz o (.dK vs)) ∧ Rkv K mg w kvs vs := by
  unfold hkOf at h
  split at h
  · rename_i kv e
    obtain rfl := Option.some.inj h
    exact ⟨e, ok.has n _ e⟩
  · cases h
theorem Rkv.keys {w : Wo} : ∀ {kvs : List (Key × D)} {vs : List (Key × V)}, Rkv K mg w kvs vs → vs.map (·.1) = kvs.map (·.1)
  | [], vs, r => by have e : vs = [] := r; rw [e]; rfl
  | p :: ps, vs, r => by
    obtain ⟨v, q, e, _, r2⟩ := r
    rw [e, List.map_cons, List.map_cons, Rkv.keys r2]
theorem keyD_kV {w : Wo} (k : Key) : Rv K mg w (keyD k) (kV k) := by
  cases k with
  | inl i => unfold keyD; rw [Rv]; rfl
  | inr x => unfold keyD; rw [Rv]; rfl
theorem io_keys {de : DE} : IOk K mg W (wK de) (iKeys (LE K mg W de)) := by
  intro w ρ σ R ok rr h
  refine ⟨w, ok, rfl, ρ, rr, Fin.bind (R' := RI K mg) h fun w1 x v le1 ok1 r1 h1 => ?_⟩
  unfold toWalkK at h1
  split at h1
  · split at h1
    · rename_i n _ kvs e
      obtain ⟨hn, rfl⟩ := r1.obj
      obtain ⟨eS, o, vs, eH, rk⟩ := hk_at ok1 e
      refine ⟨_, o, rfl, .inl ⟨vs, eH, Fin.now h1 ok1 ?_⟩⟩
      have lenE : vs.length = kvs.length := by
        have := congrArg List.length rk.keys
        rw [List.length_map, List.length_map] at this
        exact this
      have keep : ∀ w2 : Wo, w1.Le w2 → w2.H (w1.m n) = some (.frz o (.dK vs)) := fun w2 le => le.fr _ _ eH fun i hi z => by
        have := ok1.inj i n hi hn z
        rw [this, eS]
        rfl
      refine ⟨e, fun w2 i d le ok2 e2 hi => ⟨⟨keep w2 le, ?_⟩, fun x H' y => ?_⟩, fun w2 le ok2 e2 => ⟨keep w2 le, ?_⟩⟩
      · have := lt_of_get hi
        rw [List.length_map] at this
        omega
      · obtain ⟨eH', k, v, ev, ex⟩ := y
        refine ⟨w2, Wo.Le.refl _, ok2, rfl, eH'.symm, ?_⟩
        rw [List.getElem?_map] at hi
        obtain ⟨p, hp, rfl⟩ := Option.map_eq_some_iff.mp hi
        have e3 : (vs.map (·.1))[i]? = some k := by rw [List.getElem?_map, ev]; rfl
        rw [rk.keys, List.getElem?_map, hp] at e3
        have e4 : p.1 = k := Option.some.inj e3
        rw [ex, e4]
        exact keyD_kV k
      · rw [lenE, List.length_map]
        exact Nat.le_refl _
    · exact h1.elim
  · exact h1.elim
open Classical in
noncomputable def unholdR (n : Nat) (kvs : List (Key × D)) : RS → RS
  | .nx ρ S => if hkOf S n = some kvs then .nx ρ (S.set n (.dk kvs)) else .bad
  | .rt d S => if hkOf S n = some kvs then .rt d (S.set n (.dk kvs)) else .bad
  | _ => .bad
noncomputable def forKO (de : DE) (g : DG) (body : DS) (ρ : Env) (S : Sto) (n : Nat) : Option Ob → RS
  | some (.dk kvs) => unholdR n kvs (dFor (wK de) g body ρ (S.set n (.hk kvs)))
  | _ => .bad
noncomputable def forKR (de : DE) (g : DG) (body : DS) (ρ : Env) (S : Sto) : Res D → RS
  | .ok (.obj n) _ => forKO de g body ρ S n S[n]?
  | _ => .bad
noncomputable def dForK (de : DE) (g : DG) (body : DS) (ρ : Env) (S : Sto) : RS := forKR de g body ρ S (de ρ S)
theorem i_forK {de : DE} {g : DG} {tg : TG} {vs : List Nat} {body : DS} (hg : GOk K mg vs g tg) {D' : Ends} {σ : St} {H : Hp} (h : LS K mg W (dForK de g body) D' σ H) :
    tLockA (tFor (iKeys (LE K mg W de)) tg (LS K mg W body)) D' σ H := by
  obtain ⟨w, ok, rfl, ρ, rr, h⟩ := h
  unfold dForK at h
  cases e : de ρ w.S with
  | bad => rw [e] at h; exact h.elim
  | exc c fs S => rw [e] at h; exact h.elim
  | ok x S =>
    rw [e] at h
    cases x with
    | obj n =>
      unfold forKR at h
      dsimp only at h
      cases e2 : w.S[n]? with
      | none => rw [e2] at h; exact h.elim
      | some o =>
        rw [e2] at h
        cases o with
        | dk kvs =>
          unfold forKO at h
          dsimp only at h
          have hn := lt_of_get e2
          obtain ⟨us, eH, rk⟩ := ok.has n _ e2
          refine ⟨w.m n, .dK us, eH, trivial, fun od => ?_⟩
          have le0 := Wo.put_le (o := .hk kvs) (u := .frz od (.dK us)) hn
          have ok0 : (w.put n (.hk kvs) (.frz od (.dK us))).Ok K mg := Wo.put_ok ok hn ⟨od, us, upd_same, rk.up ok le0⟩
          have key : ∀ w2 : Wo, (w.put n (.hk kvs) (.frz od (.dK us))).Le w2 → w2.Ok K mg → hkOf w2.S n = some kvs → ∃ o2 u2, w2.H (w.m n) = some (.frz o2 u2) ∧ w.Le (Wo.mk w2.m (w2.S.set n (.dk kvs)) (upd w2.H (w.m n) u2)) ∧ (Wo.mk w2.m (w2.S.set n (.dk kvs)) (upd w2.H (w.m n) u2)).Ok K mg ∧
              (∀ (d : D) (v : V), Rv K mg w2 d v → Rv K mg (Wo.mk w2.m (w2.S.set n (.dk kvs)) (upd w2.H (w.m n) u2)) d v) ∧ (∀ (ρ : Env) (σ : St), Rσ K mg w2 ρ σ → Rσ K mg (Wo.mk w2.m (w2.S.set n (.dk kvs)) (upd w2.H (w.m n) u2)) ρ σ) := by
            intro w2 le2 ok2 hk2
            obtain ⟨eS2, o2, us2, eH2, rk2⟩ := hk_at ok2 hk2
            have em : w2.m n = w.m n := le2.ag n (by show n < (w.S.set n (.hk kvs)).length; rw [List.length_set]; exact hn)
            rw [em] at eH2
            have hn2 := lt_of_get eS2
            have upT : ∀ {a : Addr} {xs : List V}, SqT K w2.H a xs → SqT K (upd w2.H (w.m n) (.dK us2)) a xs := fun {a xs} t => by
              rcases t with (t | ⟨o, t⟩) | t
              · refine .inl (.inl ?_)
                rw [upd_ne fun z => by rw [z, eH2] at t; cases t]
                exact t
              · refine .inl (.inr ⟨o, ?_⟩)
                rw [upd_ne fun z => by rw [z, eH2] at t; cases t]
                exact t
              · exact .inr t
            have upF : ∀ {a : Addr} {xs : List V}, SqF K w2.H a xs → SqF K (upd w2.H (w.m n) (.dK us2)) a xs := fun {a xs} t => by
              rcases t with ⟨o, t⟩ | t
              · refine .inl ⟨o, ?_⟩
                rw [upd_ne fun z => by rw [z, eH2] at t; cases t]
                exact t
              · exact .inr t
            have upV : (∀ (d : D) (v : V), Rv K mg w2 d v → Rv K mg (Wo.mk w2.m (w2.S.set n (.dk kvs)) (upd w2.H (w.m n) (.dK us2))) d v) := by
              intro d
              refine D.rec (motive_1 := fun d => ∀ v, Rv K mg w2 d v → Rv K mg (Wo.mk w2.m (w2.S.set n (.dk kvs)) (upd w2.H (w.m n) (.dK us2))) d v) (motive_2 := fun ds => ∀ vs, Rvs K mg w2 ds vs → Rvs K mg (Wo.mk w2.m (w2.S.set n (.dk kvs)) (upd w2.H (w.m n) (.dK us2))) ds vs) ?_ ?_ ?_ ?_ ?_ ?_ ?_ ?_ ?_ ?_ ?_ ?_ ?_ d
              · intro v r; rw [Rv] at r ⊢; exact r
              · intro b v r; rw [Rv] at r ⊢; exact r
              · intro b v r; rw [Rv] at r ⊢; exact r
              · intro b v r; rw [Rv] at r ⊢; exact r
              · intro xs ih v r
                rw [Rv] at r ⊢
                obtain ⟨a, vs, e, t, q⟩ := r
                exact ⟨a, vs, e, upT t, ih vs q⟩
              · intro b v r
                rw [Rv] at r ⊢
                exact ⟨by show b < (w2.S.set n (.dk kvs)).length; rw [List.length_set]; exact r.1, r.2⟩
              · intro b v r; rw [Rv] at r ⊢; exact r
              · intro b v r; rw [Rv] at r ⊢; exact r
              · intro b v r; rw [Rv] at r ⊢; exact r
              · intro xs ih v r
                rw [Rv] at r ⊢
                obtain ⟨a, vs, e, t, q⟩ := r
                exact ⟨a, vs, e, upF t, ih vs q⟩
              · intro ks v r
                rw [Rv] at r ⊢
                obtain ⟨a, e, t⟩ := r
                refine ⟨a, e, ?_⟩
                show upd w2.H (w.m n) (.dK us2) a = _
                rw [upd_ne fun z => by rw [z, eH2] at t; cases t]
                exact t
              · intro vs r; rw [Rvs] at r ⊢; exact r
              · intro x xs i1 i2 vs r
                rw [Rvs] at r ⊢
                obtain ⟨v, q, e, r1, r2⟩ := r
                exact ⟨v, q, e, i1 v r1, i2 q r2⟩
            have upVs : ∀ (ds : List D) (vs : List V), Rvs K mg w2 ds vs → Rvs K mg (Wo.mk w2.m (w2.S.set n (.dk kvs)) (upd w2.H (w.m n) (.dK us2))) ds vs := by
              intro ds
              induction ds with
              | nil => intro vs r; rw [Rvs] at r ⊢; exact r
              | cons d ds ih =>
                intro vs r
                rw [Rvs] at r ⊢
                obtain ⟨v, q, e, r1, r2⟩ := r
                exact ⟨v, q, e, upV d v r1, ih q r2⟩
            have upK : ∀ {κ : Type} (ps : List (κ × D)) (vs : List (κ × V)), Rkv K mg w2 ps vs → Rkv K mg (Wo.mk w2.m (w2.S.set n (.dk kvs)) (upd w2.H (w.m n) (.dK us2))) ps vs := by
              intro κ ps
              induction ps with
              | nil => intro vs r; exact r
              | cons d ds ih =>
                intro vs r
                obtain ⟨v, q, e, r1, r2⟩ := r
                exact ⟨v, q, e, upV _ v r1, ih q r2⟩
            have upFs : ∀ (ps : List (Str × D)) (vs : List (Str × V)), Rfs K mg w2 ps vs → Rfs K mg (Wo.mk w2.m (w2.S.set n (.dk kvs)) (upd w2.H (w.m n) (.dK us2))) ps vs := by
              intro ps
              induction ps with
              | nil => intro vs r; exact r
              | cons d ds ih =>
                intro vs r
                obtain ⟨v, q, e, r1, r2⟩ := r
                exact ⟨v, q, e, upV _ v r1, ih q r2⟩
            refine ⟨o2, .dK us2, eH2, ⟨?_, fun i hi => ?_, fun a x ea k => ?_, fun i h1 h2 => ?_, fun i hi z => ?_⟩, ⟨fun i j hi hj e => ?_, fun i o' h => ?_⟩, upV, ?_⟩
            · show w.S.length ≤ (w2.S.set n (.dk kvs)).length
              rw [List.length_set]
              have := le2.len
              have h0 : (w.put n (.hk kvs) (.frz od (.dK us))).S.length = w.S.length := List.length_set
              omega
            · exact le2.ag i (by show i < (w.S.set n (.hk kvs)).length; rw [List.length_set]; exact hi)
            · have na : a ≠ w.m n := fun z => by
                have := k n hn z.symm
                rw [e2] at this
                cases this
              show upd w2.H (w.m n) (.dK us2) a = some x
              rw [upd_ne na]
              refine le2.fr a x (by show upd w.H (w.m n) _ a = some x; rw [upd_ne na]; exact ea) fun i hi z => ?_
              have hi2 : i < w.S.length := by
                have h0 : (w.put n (.hk kvs) (.frz od (.dK us))).S.length = w.S.length := List.length_set
                omega
              have hne : n ≠ i := fun q => na (by rw [q]; exact z.symm)
              show heldO (w.S.set n (.hk kvs))[i]? = true
              rw [List.getElem?_set_ne hne]
              exact k i hi2 z
            · have h0 : (w.put n (.hk kvs) (.frz od (.dK us))).S.length = w.S.length := List.length_set
              have h2 : i < (w2.S.set n (.dk kvs)).length := h2
              rw [List.length_set] at h2
              have q : upd w.H (w.m n) (.frz od (.dK us)) (w2.m i) = none := le2.nw i (by rw [h0]; exact h1) h2
              show w.H (w2.m i) = none
              by_cases hz : w2.m i = w.m n
              · rw [hz, upd_same] at q
                cases q
              · rw [upd_ne hz] at q
                exact q
            · have hne : n ≠ i := fun q => by
                rw [← q, e2] at z
                cases z
              show (w2.S.set n (.dk kvs))[i]? = w.S[i]?
              rw [List.getElem?_set_ne hne]
              have := le2.hd i (by show i < (w.S.set n (.hk kvs)).length; rw [List.length_set]; exact hi) (by show heldO (w.S.set n (.hk kvs))[i]? = true; rw [List.getElem?_set_ne hne]; exact z)
              rw [this]
              show (w.S.set n (.hk kvs))[i]? = _
              rw [List.getElem?_set_ne hne]
            · have hi : i < (w2.S.set n (.dk kvs)).length := hi
              have hj : j < (w2.S.set n (.dk kvs)).length := hj
              rw [List.length_set] at hi hj
              exact ok2.inj i j hi hj e
            · have h : (w2.S.set n (.dk kvs))[i]? = some o' := h
              by_cases hi : n = i
              · subst hi
                rw [List.getElem?_set_self hn2] at h
                obtain rfl := Option.some.inj h
                refine ⟨us2, ?_, upK _ _ rk2⟩
                show upd w2.H (w.m n) (.dK us2) (w2.m n) = _
                rw [em, upd_same]
              · rw [List.getElem?_set_ne hi] at h
                have hil := lt_of_get h
                have hne : w2.m i ≠ w.m n := fun z => hi (ok2.inj i n hil hn2 (z.trans em.symm)).symm
                have keep : ∀ x, w2.H (w2.m i) = some x → (upd w2.H (w.m n) (.dK us2)) (w2.m i) = some x := fun x e => by rw [upd_ne hne]; exact e
                have r := ok2.has i o' h
                cases o' with
                | lst ds =>
                  obtain ⟨vs, h1, h2⟩ := r
                  exact ⟨vs, keep _ h1, upVs _ _ h2⟩
                | dk ds =>
                  obtain ⟨vs, h1, h2⟩ := r
                  exact ⟨vs, keep _ h1, upK _ _ h2⟩
                | dt ds =>
                  obtain ⟨vs, h1, h2⟩ := r
                  exact ⟨vs, keep _ h1, upK _ _ h2⟩
                | ins C fs =>
                  obtain ⟨Ca, dx, vs, h0, h1, h2⟩ := r
                  exact ⟨Ca, dx, vs, h0, keep _ h1, upFs _ _ h2⟩
                | dn kvs =>
                  obtain ⟨xs, h1, h2, h3, h4, h5⟩ := r
                  exact ⟨xs, keep _ h1, h2, h3, h4, h5.mono fun d v r => upV d v r⟩
                | hk ds =>
                  obtain ⟨o, vs, h1, h2⟩ := r
                  exact ⟨o, vs, keep _ h1, upK _ _ h2⟩
            · intro ρ
              induction ρ with
              | nil => intro σ r; exact r
              | cons x ρ ih =>
                intro σ r
                obtain ⟨y, τ, e1, r1, r2⟩ := r
                refine ⟨y, τ, e1, ?_, ih τ r2⟩
                cases x with
                | none => trivial
                | some d =>
                  obtain ⟨v, ev, rv⟩ := r1
                  exact ⟨v, ev, upV d v rv⟩
          refine i_for io_keys hg ⟨_, ok0, rfl, ρ, rr.up ok le0, ?_⟩
          have h : FinS K mg W w (unholdR n kvs (dFor (wK de) g body ρ (w.S.set n (.hk kvs)))) D' := h
          show FinS K mg W _ (dFor (wK de) g body ρ (w.S.set n (.hk kvs))) _
          cases er : dFor (wK de) g body ρ (w.S.set n (.hk kvs)) with
          | nx ρ2 S2 =>
            rw [er] at h
            unfold unholdR at h
            dsimp only at h
            by_cases hk : hkOf S2 n = some kvs
            · rw [if_pos hk] at h
              intro w2 σ2 le2 ok2 es r2
              obtain ⟨o2, u2, eH2, le3, ok3, _, up3⟩ := key w2 le2 ok2 (by rw [es]; exact hk)
              exact ⟨o2, u2, eH2, h _ σ2 le3 ok3 (by show w2.S.set n _ = _; rw [es]) (up3 _ _ r2)⟩
            · rw [if_neg hk] at h
              exact h.elim
          | rt d2 S2 =>
            rw [er] at h
            unfold unholdR at h
            dsimp only at h
            by_cases hk : hkOf S2 n = some kvs
            · rw [if_pos hk] at h
              intro w2 v2 le2 ok2 es r2
              obtain ⟨o2, u2, eH2, le3, ok3, up3, _⟩ := key w2 le2 ok2 (by rw [es]; exact hk)
              exact ⟨o2, u2, eH2, h _ v2 le3 ok3 (by show w2.S.set n _ = _; rw [es]) (up3 _ _ r2)⟩
            · rw [if_neg hk] at h
              exact h.elim
          | bk ρ2 S2 => rw [er] at h; exact h.elim
          | ct ρ2 S2 => rw [er] at h; exact h.elim
          | exc c fs ρ2 S2 => rw [er] at h; exact h.elim
          | bad => rw [er] at h; exact h.elim
        | _ => exact h.elim
    | _ => exact h.elim
theorem ls_forK {tg iter : Expr} {body : List Stmt} {de : DE} {g : DG} {t : TG} {vs : List Nat} {bd : DS} {pos : Pos} (hp : PassesOwn (model X.prog X.w) X.A X.env X.xe) (hc : X.calm = true) (he : PE X iter (LE X.K X.mg W de)) (hg : PG X tg t) (og : GOk X.K X.mg vs g t) (hb : PSs X body (LS X.K X.mg W bd))
    (hs : ∀ x, foldedSetIterable iter X.env x = pure x := by intro _; rfl) : PS X (.For tg iter body [] pos) (LS X.K X.mg W (dForK de g bd)) := (ps_lockA (ps_for hp hc (pi_keys he) hg hb hs)).imp fun _ _ _ h => i_forK og h
end

/-! ## working out what a denotation gives -/
namespace Ev
def numR (f : List Int → D) (S : Sto) : Option (List Int) → Res D
  | some ns => .ok (f ns) S
  | none => .bad
def numR1 (f : List Int → D) (S : Sto) : Option (List Int) → Res D
  | some ns => if 0 < ns.length then .ok (f ns) S else .bad
  | none => .bad
def dkOO : Option Ob → Option (List (Key × D))
  | some (.dk kvs) => some kvs
  | _ => none
def putR (ρ : Env) (S : Sto) (n : Nat) (x : D) (q : Key) : Option (List (Key × D)) → RS
  | some kvs => if kvs.length < sizeLine then .nx ρ (S.set n (.dk (putD kvs q x))) else .bad
  | none => .bad
def dtOO : Option Ob → Option (List (List Key × D))
  | some (.dt kvs) => some kvs
  | _ => none
def keyC (k : Key) : Option (List Key) → Option (List Key)
  | some ks => some (k :: ks)
  | none => none
def augFL (C f : Str) (g : D → D → Sto → Res D) (dv : DE) (n : Nat) (ρ : Env) (S1 : Sto) : Option D → RS
  | some x => augF2 C f g dv n ρ x S1
  | none => .bad
def callR (da : DA) (ρ : Env) (S : Sto) : Option DF → Res D
  | some h => (da ρ S).bind h
  | none => .bad
def keysR (k : Key) (d : D) : Option (List (Key × D)) → Option (List (Key × D))
  | some r => some ((k, d) :: r)
  | none => none
def ixA (S : Sto) : Option D → Res D
  | some d => .ok d S
  | none => .bad
def ixO (i : Int) (S : Sto) : Option Ob → Res D
  | some (.lst xs) => ixA S (atI xs i)
  | _ => .bad
def lenO (S : Sto) : Option Ob → Res D
  | some (.lst xs) => .ok (.int xs.length) S
  | some (.dk xs) => .ok (.int xs.length) S
  | some (.dt xs) => .ok (.int xs.length) S
  | _ => .bad
def lstOO : Option Ob → Option (List D)
  | some (.lst xs) => some xs
  | _ => none
def isiR (S : Sto) : Option Bool → Res D
  | some b => .ok (.bl b) S
  | none => .bad
def tyO : Option (List D) → Option String
  | some _ => some "list"
  | none => none
def lstR (S : Sto) : Option (List D) → Res D
  | some xs => mkLst xs S
  | none => .bad
def tupR (S : Sto) : Option (List D) → Res D
  | some xs => .ok (.tup xs) S
  | none => .bad
def slR (lo hi : Option Int) (S : Sto) : Option (List D) → Res D
  | some xs => mkLst (cutL xs lo hi) S
  | none => .bad
def appO (n : Nat) (d : D) (S : Sto) : Option Ob → Res D
  | some (.lst xs) => if xs.length < sizeLine then .ok .non (S.set n (.lst (xs ++ [d]))) else .bad
  | _ => .bad
def tymO (T : String) : Option Ob → Bool
  | some (.lst _) => T == "list"
  | some (.dk _) => T == "dict"
  | _ => false
def inR (neg : Bool) (S : Sto) : Option V → Option (List V) → Res D
  | some v, some vs => .ok (.bl (if neg then !inV v vs else inV v vs)) S
  | _, _ => .bad
def walkR (n : Nat) (S : Sto) : Option (List D) → Res Walked
  | some xs => .ok (xs, sameL n xs) S
  | none => .bad
theorem in_strs (x : Str) : ∀ ss : List Str, inV (.str x) (ss.map V.str) = decide (x ∈ ss)
  | [] => by simp [inV]
  | y :: ss => by
    have ih := in_strs x ss
    show (eqV (.str y) (.str x) || inV (.str x) (ss.map V.str)) = _
    rw [ih]
    show ((y == x) || decide (x ∈ ss)) = _
    rw [Bool.eq_iff_iff, Bool.or_eq_true, beq_iff_eq, decide_eq_true_eq, decide_eq_true_eq, List.mem_cons]
    constructor
    · rintro (h | h)
      · exact .inl h.symm
      · exact .inr h
    · rintro (h | h)
      · exact .inl h.symm
      · exact .inr h
def enumR (n : Nat) (S : Sto) : Option (List D) → Res Walked
  | some xs => .ok (enumD xs, sameL n xs) S
  | none => .bad
def zipR (n m : Nat) (S : Sto) : Option (List D) → Option (List D) → Res Walked
  | some xs, some ys => .ok (zipD xs ys, fun S => sameL n xs S ∧ sameL m ys S) S
  | _, _ => .bad
def ixS (S : Sto) : Option Nat → Res D
  | some c => .ok (.str ⟨#[c]⟩) S
  | none => .bad
def joinR (z : Str) (S : Sto) : Option (List Str) → Res D
  | some ys => if (ys.map (·.length)).sum + ys.length * z.length ≤ 16777216 then .ok (.str (Txt.join z ys)) S else .bad
  | none => .bad
def tgLR (n : Nat) (gs : DGs) (ρ : Env) (S : Sto) : Option (List D) → Option Env
  | some ds => if ds.length = n then gs ds ρ S else none
  | none => none
def catR (S : Sto) : Option Ob → Option Ob → Res D
  | some (.lst xs), some (.lst ys) => mkLst (xs ++ ys) S
  | _, _ => .bad
def insO (n : Nat) (i : Int) (d : D) (S : Sto) : Option Ob → Res D
  | some (.lst xs) => if xs.length < sizeLine ∧ 0 ≤ i ∧ i < 2 ^ 63 then .ok .non (S.set n (.lst (xs.take i.toNat ++ [d] ++ xs.drop i.toNat))) else .bad
  | _ => .bad
def dnOO : Option Ob → Option (List (D × D))
  | some (.dn k) => some k
  | _ => none
theorem seq1 {t : DS} {ρ : Env} {S : Sto} : (seqR t (.nx ρ S)) = (t ρ S) := id rfl
theorem seq2 {t : DS} {d : D} {S : Sto} : (seqR t (.rt d S)) = (.rt d S) := id rfl
theorem seq3 {t : DS} {ρ : Env} {S : Sto} : (seqR t (.bk ρ S)) = (.bk ρ S) := id rfl
theorem seq4 {t : DS} {ρ : Env} {S : Sto} : (seqR t (.ct ρ S)) = (.ct ρ S) := id rfl
theorem seq5 {t : DS} {c : Str} {fs : List (Str × D)} {ρ : Env} {S : Sto} : (seqR t (.exc c fs ρ S)) = (.exc c fs ρ S) := id rfl
theorem bnd1 {k : D → Env → Sto → RS} {d : D} {ρ : Env} {S : Sto} : (bindR k ρ (.ok d S)) = (k d ρ S) := id rfl
theorem bnd2 {k : D → Env → Sto → RS} {c : Str} {fs : List (Str × D)} {ρ : Env} {S : Sto} : (bindR k ρ (.exc c fs S)) = (.exc c fs ρ S) := id rfl
theorem if1 {s u : DS} {ρ : Env} {S : Sto} : (ifR s u ρ (.ok true S)) = (s ρ S) := id rfl
theorem if2 {s u : DS} {ρ : Env} {S : Sto} : (ifR s u ρ (.ok false S)) = (u ρ S) := id rfl
theorem if3 {s u : DS} {c : Str} {fs : List (Str × D)} {ρ : Env} {S : Sto} : (ifR s u ρ (.exc c fs S)) = (.exc c fs ρ S) := id rfl
theorem asg1 {ρ : Env} {S : Sto} : (asgR S (some ρ)) = (.nx ρ S) := rfl
theorem putK31 {x : D} {n : Nat} {k : Int} {ρ : Env} {S : Sto} : (putK3 x (.obj n) (.int k) ρ S) = (putO ρ S n k x S[n]?) := rfl
theorem putO1 {x : D} {n : Nat} {k : Int} {xs : List D} {ρ : Env} {S : Sto} : (putO ρ S n k x (some (.lst xs))) = (putJ ρ S n xs x (ixN xs.length k)) := rfl
theorem putJ1 {x : D} {n j : Nat} {xs : List D} {ρ : Env} {S : Sto} : (putJ ρ S n xs x (some j)) = (.nx ρ (S.set n (.lst (xs.set j x)))) := rfl
theorem aug1 {i : Nat} {f : D → D → Sto → Res D} {de : DE} {x : D} {ρ : Env} {S : Sto} : (augR i f de ρ S (some (some x))) = (bindR (setK i) ρ ((de ρ S).bind (f x))) := rfl
theorem slot1 {d : D} {S : Sto} : (slotR S (some (some d))) = (.ok d S) := rfl
theorem and1 {tb : DT} {ρ : Env} {S : Sto} : (eAnd1 tb ρ true S) = (tb ρ S) := rfl
theorem and2 {tb : DT} {ρ : Env} {S : Sto} : (eAnd1 tb ρ false S) = (.ok false S) := rfl
theorem or1 {tb : DT} {ρ : Env} {S : Sto} : (eOr1 tb ρ true S) = (.ok true S) := rfl
theorem or2 {tb : DT} {ρ : Env} {S : Sto} : (eOr1 tb ρ false S) = (tb ρ S) := rfl
theorem andV1 {db : DE} {ρ : Env} {S : Sto} : (eAndV1 db ρ (.bl true) S) = (db ρ S) := rfl
theorem andV2 {db : DE} {ρ : Env} {S : Sto} : (eAndV1 db ρ (.bl false) S) = (.ok (.bl false) S) := rfl
theorem orV1 {db : DE} {ρ : Env} {S : Sto} : (eOrV1 db ρ (.bl true) S) = (.ok (.bl true) S) := rfl
theorem orV2 {db : DE} {ρ : Env} {S : Sto} : (eOrV1 db ρ (.bl false) S) = (db ρ S) := rfl
theorem notV1 {k : Bool} {S : Sto} : (eNotV1 (.bl k) S) = (.ok (.bl (!k)) S) := rfl
theorem ifx1 {da db : DE} {ρ : Env} {S : Sto} : (eIf1 da db ρ true S) = (da ρ S) := rfl
theorem ifx2 {da db : DE} {ρ : Env} {S : Sto} : (eIf1 da db ρ false S) = (db ρ S) := rfl
theorem ch1 {g : D → D → Sto → Res D} {dc : DE} {y : D} {ρ : Env} {S : Sto} : (eChain3 g dc ρ y (.bl true) S) = ((dc ρ S).bind (g y)) := rfl
theorem ch2 {g : D → D → Sto → Res D} {dc : DE} {y : D} {ρ : Env} {S : Sto} : (eChain3 g dc ρ y (.bl false) S) = (.ok (.bl false) S) := rfl
theorem toB1 {b : Bool} {S : Sto} : (toB (.bl b) S) = (.ok b S) := rfl
theorem rb1 {α β : Type} {a : α} {S : Sto} {k : α → Sto → Res β} : ((Res.ok a S).bind k) = (k a S) := rfl
theorem rb2 {α β : Type} {c : Str} {fs : List (Str × D)} {S : Sto} {k : α → Sto → Res β} : ((Res.exc c fs S).bind k) = (.exc c fs S) := rfl
theorem end1 {ρ : Env} {S : Sto} : (endR (.nx ρ S)) = (.ok .non S) := id rfl
theorem end2 {d : D} {S : Sto} : (endR (.rt d S)) = (.ok d S) := id rfl
theorem end3 {c : Str} {fs : List (Str × D)} {ρ : Env} {S : Sto} : (endR (.exc c fs ρ S)) = (.exc c fs S) := id rfl
theorem add1 {i j : Int} {S : Sto} : (dAdd (.int i) (.int j) S) = (.ok (.int (i + j)) S) := rfl
theorem add2 {x y : Str} {S : Sto} : (dAdd (.str x) (.str y) S) = ((if x.length + y.length ≤ sizeLine then .ok (.str (x ++ y)) S else .bad)) := id rfl
theorem add3 {xs ys : List D} {S : Sto} : (dAdd (.tup xs) (.tup ys) S) = ((if xs.length + ys.length ≤ sizeLine then .ok (.tup (xs ++ ys)) S else .bad)) := id rfl
theorem sub1 {i j : Int} {S : Sto} : (dSub (.int i) (.int j) S) = (.ok (.int (i - j)) S) := rfl
theorem mul1 {i j : Int} {S : Sto} : (dMul (.int i) (.int j) S) = ((if MulOk i j then .ok (.int (i * j)) S else .bad)) := id rfl
theorem mul2 {xs : List D} {k : Int} {S : Sto} : (dMul (.tup xs) (.int k) S) = ((if k = 1 then .ok (.tup xs) S else if xs ≠ [] ∧ 2 ≤ k ∧ k ≤ 1000 ∧ xs.length ≤ 1000 then .ok (.tup (List.replicate k.toNat xs).flatten) S else .bad)) := id rfl
theorem sum1 {d : D} {S : Sto} : (dSum [d] S) = (numR (fun ns => .int ns.sum) S (intsOf d S)) := by show (match intsOf d S with | some ns => Res.ok (D.int ns.sum) S | none => .bad) = _; cases intsOf d S <;> rfl
theorem minl1 {d : D} {S : Sto} : (dMinL [d] S) = (numR1 (fun ns => .int (least ns)) S (intsOf d S)) := by show (match intsOf d S with | some ns => if 0 < ns.length then Res.ok (D.int (least ns)) S else .bad | none => .bad) = _; cases intsOf d S <;> rfl
theorem maxl1 {d : D} {S : Sto} : (dMaxL [d] S) = (numR1 (fun ns => .int (greatest ns)) S (intsOf d S)) := by show (match intsOf d S with | some ns => if 0 < ns.length then Res.ok (D.int (greatest ns)) S else .bad | none => .bad) = _; cases intsOf d S <;> rfl
theorem numR1a {f : List Int → D} {ns : List Int} {S : Sto} : (numR f S (some ns)) = (.ok (f ns) S) := rfl
theorem numR1b {f : List Int → D} {ns : List Int} {S : Sto} : (numR1 f S (some ns)) = ((if 0 < ns.length then .ok (f ns) S else .bad)) := id rfl
theorem intsOf1 {xs : List D} {S : Sto} : (intsOf (.tup xs) S) = (asInts xs) := rfl
theorem intsOf2 {n : Nat} {S : Sto} : (intsOf (.obj n) S) = ((lstOf S n).bind asInts) := rfl
theorem pow1 {i j : Int} {S : Sto} : (dPow (.int i) (.int j) S) = ((if 0 ≤ j ∧ j ≤ 1000000 ∧ i.natAbs < 2 ^ 64 then .ok (.int (i ^ j.toNat)) S else .bad)) := id rfl
theorem dkOf1 {n : Nat} {S : Sto} : (dkOf S n) = (dkOO S[n]?) := by unfold dkOf; cases S[n]? with | none => rfl | some o => cases o <;> rfl
theorem dkOO1 {kvs : List (Key × D)} : (dkOO (some (.dk kvs))) = (some kvs) := rfl
theorem look1 {n : Nat} {x : Str} {S : Sto} : (look (.obj n) (.str x) S) = ((dkOf S n).map fun kvs => getD kvs (.inr x)) := rfl
theorem look2 {n : Nat} {x : Int} {S : Sto} : (look (.obj n) (.int x) S) = ((dkOf S n).map fun kvs => getD kvs (.inl x)) := rfl
theorem mapSome2 {kvs : List (Key × D)} {f : List (Key × D) → Option D} : ((some kvs).map f) = (some (f kvs)) := rfl
theorem dget1 {a k : D} {S : Sto} : (dDGet a k S) = (getR S (look a k S)) := rfl
theorem getR1 {d : D} {S : Sto} : (getR S (some (some d))) = (.ok d S) := rfl
theorem ddin1 {b : Bool} {a k : D} {S : Sto} : (dDIn b k a S) = (hasR b S (look a k S)) := rfl
theorem hasR1 {o : Option D} {S : Sto} : (hasR false S (some o)) = (.ok (.bl o.isSome) S) := rfl
theorem hasR2 {o : Option D} {S : Sto} : (hasR true S (some o)) = (.ok (.bl (!o.isSome)) S) := rfl
theorem asd1 {n : Nat} {S : Sto} : (asDict (.obj n) S) = ((dkOf S n).isSome || (dtOf S n).isSome) := rfl
theorem dtOf1 {n : Nat} {S : Sto} : (dtOf S n) = (dtOO S[n]?) := by unfold dtOf; cases S[n]? with | none => rfl | some o => cases o <;> rfl
theorem dtOO1 {kvs : List (List Key × D)} : (dtOO (some (.dt kvs))) = (some kvs) := rfl
theorem dtOO2 {kvs : List (Key × D)} : (dtOO (some (.dk kvs))) = (none) := rfl
theorem dkOO2 {kvs : List (List Key × D)} : (dkOO (some (.dt kvs))) = (none) := rfl
theorem look3 {n : Nat} {x : List Key} {S : Sto} : (look (.obj n) (.tk x) S) = ((dtOf S n).map fun kvs => getD kvs x) := rfl
theorem mapSome3 {kvs : List (List Key × D)} {f : List (List Key × D) → Option D} : ((some kvs).map f) = (some (f kvs)) := rfl
theorem keyL0  : (keyL []) = (some []) := rfl
theorem keyL1 {i : Int} {r : List D} : (keyL (.int i :: r)) = (keyC (.inl i) (keyL r)) := by rw [keyL]; cases keyL r <;> rfl
theorem keyL2 {i : Str} {r : List D} : (keyL (.str i :: r)) = (keyC (.inr i) (keyL r)) := by rw [keyL]; cases keyL r <;> rfl
theorem keyC1 {k : Key} {ks : List Key} : (keyC k (some ks)) = (some (k :: ks)) := rfl
theorem mkTk1 {xs : List D} {S : Sto} : (mkTk xs S) = ((if xs.length ≤ sizeLine then tkR S (keyL xs) else .bad)) := id rfl
theorem tkR1 {ks : List Key} {S : Sto} : (tkR S (some ks)) = (.ok (.tk ks) S) := rfl
theorem putT31 {n : Nat} {x : D} {ks : List Key} {ρ : Env} {S : Sto} : (putT3 x (.obj n) (.tk ks) ρ S) = (putTK ρ S n x ks (dtOf S n)) := rfl
theorem putTK1 {n : Nat} {x : D} {ks : List Key} {kvs : List (List Key × D)} {ρ : Env} {S : Sto} : (putTK ρ S n x ks (some kvs)) = ((if kvs.length < sizeLine then .nx ρ (S.set n (.dt (putD kvs ks x))) else .bad)) := id rfl
theorem unTk1 {ks : List Key} : (unTk (.tk ks)) = (.tup (ks.map ofKey)) := rfl
theorem unTk2 {xs : List D} : (unTk (.tup xs)) = (.tup xs) := rfl
theorem ofKey1 {i : Int} : (ofKey (.inl i)) = (.int i) := rfl
theorem ofKey2 {i : Str} : (ofKey (.inr i)) = (.str i) := rfl
theorem fld1 {C f : Str} {n : Nat} {S : Sto} : (dFld C f (.obj n) S) = (fldO C f S S[n]?) := rfl
theorem fldO1 {C f : Str} {fs : List (Str × D)} {S : Sto} : (fldO C f S (some (.ins C fs))) = (fldR S (fldL fs f)) := if_pos rfl
theorem fldR1 {d : D} {S : Sto} : (fldR S (some d)) = (.ok d S) := rfl
theorem fldL1 {f : Str} {d : D} {r : List (Str × D)} : (fldL ((f, d) :: r) f) = (some d) := if_pos rfl
theorem setF21 {C f : Str} {d : D} {n : Nat} {ρ : Env} {S : Sto} : (setF2 C f d (.obj n) ρ S) = (setFO C f d ρ S n S[n]?) := rfl
theorem setFO1 {C f : Str} {d : D} {n : Nat} {fs : List (Str × D)} {ρ : Env} {S : Sto} (h : fs.length < 1000) : (setFO C f d ρ S n (some (.ins C fs))) = (.nx ρ (S.set n (.ins C (putFD f d fs)))) := if_pos ⟨rfl, h⟩
theorem isMet1 {C m : Str} {n : Nat} {S : Sto} : (isMet C m (.obj n) S) = (metO C m S[n]?) := rfl
theorem metO1 {C m : Str} {fs : List (Str × D)} : (metO C m (some (.ins C fs))) = ((fldL fs m).isNone) := by show (decide (C = C) && _) = _; rw [decide_eq_true rfl, Bool.true_and]
theorem shl1 {i j : Int} {S : Sto} : (dShl (.int i) (.int j) S) = ((if 0 ≤ j ∧ j ≤ 1000000 ∧ i.natAbs < 2 ^ 64 then .ok (.int (i * 2 ^ j.toNat)) S else .bad)) := id rfl
theorem shr1 {i j : Int} {S : Sto} : (dShr (.int i) (.int j) S) = ((if 0 ≤ j then .ok (.int (i / 2 ^ j.toNat)) S else .bad)) := id rfl
theorem andI1 {i j : Int} {S : Sto} : (dAndI (.int i) (.int j) S) = (.ok (.int (PySem.Builtin.bitAnd i j)) S) := rfl
theorem orI1 {i j : Int} {S : Sto} : (dOrI (.int i) (.int j) S) = (.ok (.int (PySem.Builtin.bitOr i j)) S) := rfl
theorem add21 {i j : Int} {S : Sto} : (dAdd2 (.int i) (.int j) S) = (.ok (.int (i + j)) S) := rfl
theorem augF11 {C f : Str} {g : D → D → Sto → Res D} {dv : DE} {n : Nat} {ρ : Env} {S : Sto} : (augF1 C f g dv (.obj n) ρ S) = (augFO C f g dv n ρ S S[n]?) := rfl
theorem augFO1 {C f : Str} {g : D → D → Sto → Res D} {dv : DE} {n : Nat} {fs : List (Str × D)} {ρ : Env} {S : Sto} : (augFO C f g dv n ρ S (some (.ins C fs))) = (augFL C f g dv n ρ S (fldL fs f)) := by show (if C = C then _ else _) = _; rw [if_pos rfl]; cases fldL fs f <;> rfl
theorem augFL1 {C f : Str} {g : D → D → Sto → Res D} {dv : DE} {n : Nat} {x : D} {ρ : Env} {S : Sto} : (augFL C f g dv n ρ S (some x)) = (augF2 C f g dv n ρ x S) := rfl
theorem mulL1 {n : Nat} {k : Int} {S : Sto} : (dMulL (.obj n) (.int k) S) = (mulLR k S S[n]?) := rfl
theorem mulLR1 {k : Int} {xs : List D} {S : Sto} : (mulLR k S (some (.lst xs))) = ((if 0 ≤ k ∧ k ≤ 1000000 ∧ xs.length * k.toNat ≤ sizeLine then mkLst (List.replicate k.toNat xs).flatten S else .bad)) := id rfl
theorem rev1 {n : Nat} {S : Sto} : (dRev (.obj n) S) = (revO S S[n]?) := rfl
theorem revO1 {xs : List D} {S : Sto} : (revO S (some (.lst xs))) = (mkLst xs.reverse S) := rfl
theorem lrg1 {j : Int} {S : Sto} : (dLrg (.int j) S) = ((if 0 ≤ j ∧ j ≤ 1000000 then mkLst (rng 0 j.toNat) S else .bad)) := id rfl
theorem parR1 {k : List D → Sto → RS} {ρ : Env} {xs : List D} {S : Sto} : (parR k ρ (.ok xs S)) = (k xs S) := rfl
theorem par2K1 {i j : Nat} {a b : D} {ρ : Env} {S : Sto} : (par2K i j ρ [a, b] S) = (.nx ((ρ.set i (some a)).set j (some b)) S) := rfl
theorem par3K1 {i j l : Nat} {a b c : D} {ρ : Env} {S : Sto} : (par3K i j l ρ [a, b, c] S) = (.nx (((ρ.set i (some a)).set j (some b)).set l (some c)) S) := rfl
theorem mkEnd1 {n : Nat} {S : Sto} : (mkEnd n .non S) = (.ok (.obj n) S) := rfl
theorem isS1 {kvs : List (Key × D)} : ((some kvs).isSome) = (true) := rfl
theorem isS2 {d : D} : ((some d).isSome) = (true) := rfl
theorem isS3  : ((none : Option D).isSome) = (false) := rfl
theorem dg1 {a k : D} {S : Sto} : (dDGet1 a k S) = (get1R S (look a k S)) := rfl
theorem dg1a {d : D} {S : Sto} : (get1R S (some (some d))) = (.ok d S) := rfl
theorem dg1b {S : Sto} : (get1R S (some none)) = (.ok .non S) := rfl
theorem dg2 {a k x : D} {S : Sto} : (dDGet2 a k x S) = (get2R x S (look a k S)) := rfl
theorem dg2a {d x : D} {S : Sto} : (get2R x S (some (some d))) = (.ok d S) := rfl
theorem dg2b {x : D} {S : Sto} : (get2R x S (some none)) = (.ok x S) := rfl
theorem putQ1 {n : Nat} {x : D} {k : Str} {ρ : Env} {S : Sto} : (putQ3 x (.obj n) (.str k) ρ S) = (putR ρ S n x (.inr k) (dkOf S n)) := by show (match dkOf S n, keyOf (.str k) with | some kvs, some q => if kvs.length < sizeLine then RS.nx ρ (S.set n (.dk (putD kvs q x))) else .bad | _, _ => .bad) = _; cases dkOf S n <;> rfl
theorem putQi {n : Nat} {x : D} {k : Int} {ρ : Env} {S : Sto} : (putQ3 x (.obj n) (.int k) ρ S) = (putR ρ S n x (.inl k) (dkOf S n)) := by show (match dkOf S n, keyOf (.int k) with | some kvs, some q => if kvs.length < sizeLine then RS.nx ρ (S.set n (.dk (putD kvs q x))) else .bad | _, _ => .bad) = _; cases dkOf S n <;> rfl
theorem putR1 {n : Nat} {x : D} {q : Key} {kvs : List (Key × D)} {ρ : Env} {S : Sto} : (putR ρ S n x q (some kvs)) = ((if kvs.length < sizeLine then .nx ρ (S.set n (.dk (putD kvs q x))) else .bad)) := id rfl
theorem kd1 {kds : List (Str × D)} {x : Str} {S : Sto} : (dKD kds (.str x) S) = (kdR S (lookS kds x)) := rfl
theorem kdR1 {d : D} {S : Sto} : (kdR S (some d)) = (.ok d S) := rfl
theorem kdi1 {kds : List (Str × D)} {x : Str} {S : Sto} : (dKDIn false kds (.str x) S) = (.ok (.bl (lookS kds x).isSome) S) := rfl
theorem kdi2 {kds : List (Str × D)} {x : Str} {S : Sto} : (dKDIn true kds (.str x) S) = (.ok (.bl (!(lookS kds x).isSome)) S) := rfl
theorem kg1 {kds : List (Str × D)} {x : Str} {d : D} {S : Sto} : (dKGet2 kds (.str x) d S) = (kdR2 d S (lookS kds x)) := rfl
theorem kg2 {e d : D} {S : Sto} : (kdR2 d S (some e)) = (.ok e S) := rfl
theorem kg3 {d : D} {S : Sto} : (kdR2 d S none) = (.ok d S) := rfl
theorem callF1 {fs : List (Str × DF)} {da : DA} {y : Str} {ρ : Env} {S : Sto} : (callF fs da ρ (.fn y) S) = (callR da ρ S (fs.lookup y)) := by show (match fs.lookup y with | some h => (da ρ S).bind h | none => .bad) = _; cases fs.lookup y <;> rfl
theorem callR1 {da : DA} {ρ : Env} {S : Sto} {h : DF} : (callR da ρ S (some h)) = ((da ρ S).bind h) := rfl
theorem tru_bl {x : Bool} {S : Sto} : (truthOf (.bl x) S) = (some x) := rfl
theorem tru_int {x : Int} {S : Sto} : (truthOf (.int x) S) = (some (x != 0)) := rfl
theorem tru_tup {x : List D} {S : Sto} : (truthOf (.tup x) S) = (some (!x.isEmpty)) := rfl
theorem tru_obj {x : Nat} {S : Sto} : (truthOf (.obj x) S) = (truO S[x]?) := rfl
theorem tru_non {S : Sto} : (truthOf .non S) = (some false) := rfl
theorem tru_str {x : Str} {S : Sto} : (truthOf (.str x) S) = ((if x.length ≤ sizeLine then some ((x.length : Int) != 0) else none)) := id rfl
theorem truO1 {xs : List D} : (truO (some (.lst xs))) = (some (!xs.isEmpty)) := rfl
theorem truO2 {xs : List (Key × D)} : (truO (some (.dk xs))) = (some (!xs.isEmpty)) := rfl
theorem dtru1 {d : D} {S : Sto} : (dTru d S) = (truR S (truthOf d S)) := rfl
theorem truR1 {b : Bool} {S : Sto} : (truR S (some b)) = (.ok b S) := rfl
theorem isE1 {d : D} {xs : List D} : ((d :: xs).isEmpty) = (false) := rfl
theorem isE2  : (([] : List D).isEmpty) = (true) := rfl
theorem eqL1 {n m : Nat} {S : Sto} : (dEqL (.obj n) (.obj m) S) = (eqLR S (sclOf S n) (sclOf S m)) := rfl
theorem sclOf1 {n : Nat} {S : Sto} : (sclOf S n) = ((lstOf S n).bind scs) := rfl
theorem eqLR1 {xs : List V} {S : Sto} : (eqLR S (some xs) (some xs)) = (.ok (.bl true) S) := by exact if_pos rfl
theorem all1 {d : D} {S : Sto} : (dAll [d] S) = (boolR (fun bs => bs.all id) S (boolsOf d S)) := rfl
theorem any1 {d : D} {S : Sto} : (dAny [d] S) = (boolR (fun bs => bs.any id) S (boolsOf d S)) := rfl
theorem boolsOf1 {n : Nat} {S : Sto} : (boolsOf (.obj n) S) = ((lstOf S n).bind asBools) := rfl
theorem boolR1 {f : List Bool → Bool} {bs : List Bool} {S : Sto} : (boolR f S (some bs)) = (.ok (.bl (f bs)) S) := rfl
theorem sorted1 {n : Nat} {S : Sto} : (dSorted [.obj n] S) = (sortR S ((lstOf S n).bind asInts)) := rfl
theorem sortedDI1 {n : Nat} {S : Sto} : (dSortedDI [.obj n] S) = (sortR S ((dkOf S n).bind keyInts)) := rfl
theorem augI1 {i j : Int} {a k : D} {ρ : Env} {S : Sto} : (augI a k (.int i) (.int j) ρ S) = (putQ3 (.int (i + j)) a k ρ S) := rfl
theorem shlB1 {i j : Int} {S : Sto} : (dShlB (.int i) (.int j) S) = ((if 0 ≤ j ∧ j ≤ 1000000 ∧ i.natAbs.log2 < 1000000 then .ok (.int (i * 2 ^ j.toNat)) S else .bad)) := by unfold dShlB; rfl
theorem stp1 {a n : Nat} {S : Sto} : (dStp a (.obj n) S) = (stpO a S S[n]?) := rfl
theorem stpO1 {a : Nat} {xs : List D} {S : Sto} : (stpO a S (some (.lst xs))) = (mkLst (stp a xs) S) := rfl
theorem sortedDB1 {n : Nat} {S : Sto} : (dSortedDB [.obj n] S) = (sortBR S ((dkOf S n).bind keyInts)) := rfl
theorem sortBR1 {ns : List Int} {S : Sto} : (sortBR S (some ns)) = ((if ns.length ≤ sizeLine then mkLst ((sortI ns).map D.int) S else .bad)) := id rfl
theorem sortedDS1 {n : Nat} {S : Sto} : (dSortedDS [.obj n] S) = (sortSR S ((dkOf S n).bind keyStrs)) := rfl
theorem sortR1 {ns : List Int} {S : Sto} : (sortR S (some ns)) = ((if ns.length < 64 then mkLst ((sortI ns).map D.int) S else .bad)) := id rfl
theorem evPn {ρ : Env} {S : Sto} : (evP [] ρ S) = (.ok [] S) := rfl
theorem evPc {a b : DE} {r : List (DE × DE)} {ρ : Env} {S : Sto} : (evP ((a, b) :: r) ρ S) = ((a ρ S).bind (evP1 b ρ (evP r ρ))) := rfl
theorem dispR1 {n : Nat} {kds : List (Key × D)} {S : Sto} : (dispR n S (some (.dk [])) (some kds)) = ((if kds.length ≤ 15 then .ok (.obj n) (S.set n (.dk (mergeD [] kds))) else .bad)) := id rfl
theorem keysD0  : (keysD []) = (some []) := rfl
theorem keysD1 {x : Str} {d : D} {ps : List (D × D)} : (keysD ((.str x, d) :: ps)) = (keysR (.inr x) d (keysD ps)) := by show (match keyOf (.str x), keysD ps with | some k, some r => some ((k, d) :: r) | _, _ => none) = _; cases keysD ps <;> rfl
theorem keysD2 {x : Int} {d : D} {ps : List (D × D)} : (keysD ((.int x, d) :: ps)) = (keysR (.inl x) d (keysD ps)) := by show (match keyOf (.int x), keysD ps with | some k, some r => some ((k, d) :: r) | _, _ => none) = _; cases keysD ps <;> rfl
theorem keysR1 {k : Key} {d : D} {r : List (Key × D)} : (keysR k d (some r)) = (some ((k, d) :: r)) := rfl
theorem tas1 {m : Mat} {i : Nat} {s : DSuite} {c : Str} {ρ : Env} {S : Sto} : (tryAR m i s (.exc c [] ρ S)) = (tryA s i c [] ρ S (m.lookup c)) := rfl
theorem tas2 {m : Mat} {i : Nat} {s : DSuite} {ρ : Env} {S : Sto} : (tryAR m i s (.nx ρ S)) = (.nx ρ S) := rfl
theorem tas3 {m : Mat} {i : Nat} {s : DSuite} {d : D} {S : Sto} : (tryAR m i s (.rt d S)) = (.rt d S) := rfl
theorem tas4 {i : Nat} {s : DSuite} {c : Str} {fs : List (Str × D)} {ρ : Env} {S : Sto} : (tryA s i c fs ρ S (some true)) = ((if i < ρ.length then s c (ρ.set i none) S else .bad)) := id rfl
theorem tas5 {i : Nat} {s : DSuite} {c : Str} {fs : List (Str × D)} {ρ : Env} {S : Sto} : (tryA s i c fs ρ S (some false)) = (.exc c fs ρ S) := rfl
theorem eis1 {b : Bool} {ρ : Env} {S : Sto} : (eIsE (some b) ρ S) = (.ok (.bl b) S) := rfl
theorem retB1 {d : D} {S : Sto} : (retB (.ok d S)) = (.rt d S) := rfl
theorem lkHit {β : Type} {a : Str} {b : β} {l : List (Str × β)} : (List.lookup a ((a, b) :: l)) = (some b) := by simp [List.lookup_cons]
theorem lkMiss {β : Type} {a k : Str} {b : β} {l : List (Str × β)} (h : (a == k) = false) : (List.lookup a ((k, b) :: l)) = (List.lookup a l) := by rw [List.lookup_cons, h]
theorem gcd1 {i j : Int} {S : Sto} : (dGcd [.int i, .int j] S) = (.ok (.int ((Nat.gcd i.natAbs j.natAbs : Nat) : Int)) S) := rfl
theorem bits1 {i : Int} {S : Sto} : (dBits (.int i) S) = (.ok (.int (Builtin.Int.intBits i : Nat)) S) := rfl
theorem div1 {i j : Int} {S : Sto} : (dDiv (.int i) (.int j) S) = ((if j ≠ 0 ∧ j.natAbs.log2 < 9000 then .ok (.int (i.fdiv j)) S else .bad)) := id rfl
theorem mod1 {i j : Int} {S : Sto} : (dMod (.int i) (.int j) S) = ((if j ≠ 0 then .ok (.int (i.fmod j)) S else .bad)) := id rfl
theorem rel1 {p : Int → Int → Bool} {i j : Int} {S : Sto} : (dRel p (.int i) (.int j) S) = (.ok (.bl (p i j)) S) := rfl
theorem eq1 {i j : Int} {S : Sto} : (dEq (.int i) (.int j) S) = (.ok (.bl (decide (i = j))) S) := rfl
theorem eq2 {i j : Str} {S : Sto} : (dEq (.str i) (.str j) S) = (.ok (.bl (decide (i = j))) S) := rfl
theorem eq3 {i j : Bool} {S : Sto} : (dEq (.bl i) (.bl j) S) = (.ok (.bl (decide (i = j))) S) := rfl
theorem ix1 {xs : List D} {i : Int} {S : Sto} : (dIx (.tup xs) (.int i) S) = (ixA S (atI xs i)) := by show (match atI xs i with | some d => Res.ok d S | none => .bad) = _; cases atI xs i <;> rfl
theorem ixA1 {d : D} {S : Sto} : (ixA S (some d)) = (.ok d S) := rfl
theorem ix2 {n : Nat} {i : Int} {S : Sto} : (dIx (.obj n) (.int i) S) = (ixO i S S[n]?) := by
  show (match (lstOf S n).bind fun xs => atI xs i with | some d => Res.ok d S | none => .bad) = _
  unfold lstOf
  cases S[n]? with
  | none => rfl
  | some o => cases o with
    | lst xs => show (match atI xs i with | some d => Res.ok d S | none => .bad) = ixA S (atI xs i); cases atI xs i <;> rfl
    | _ => rfl
theorem ixO1 {xs : List D} {i : Int} {S : Sto} : (ixO i S (some (.lst xs))) = (ixA S (atI xs i)) := rfl
theorem lstOf1 {n : Nat} {S : Sto} : (lstOf S n) = (lstOO S[n]?) := by unfold lstOf; cases S[n]? with | none => rfl | some o => cases o <;> rfl
theorem lstOO1 {xs : List D} : (lstOO (some (.lst xs))) = (some xs) := rfl
theorem len3 {n : Nat} {S : Sto} : (dLen [.obj n] S) = (lenO S S[n]?) := by show (match S[n]? with | some (.lst xs) => Res.ok (D.int xs.length) S | some (.dk xs) => .ok (D.int xs.length) S | some (.dt xs) => .ok (D.int xs.length) S | _ => .bad) = _; cases S[n]? with | none => rfl | some o => cases o <;> rfl
theorem lenO4 {xs : List (List Key × D)} {S : Sto} : (lenO S (some (.dt xs))) = (.ok (.int xs.length) S) := rfl
theorem lenO1 {xs : List D} {S : Sto} : (lenO S (some (.lst xs))) = (.ok (.int xs.length) S) := rfl
theorem lenO3 {xs : List (Key × D)} {S : Sto} : (lenO S (some (.dk xs))) = (.ok (.int xs.length) S) := rfl
theorem isi1 {d : D} {T : String} {S : Sto} : (dIsi [d, .ty T] S) = (isiR S ((tyOf d S).bind fun t => kitB t T)) := by show (match (tyOf d S).bind fun t => kitB t T with | some b => Res.ok (D.bl b) S | none => .bad) = _; cases (tyOf d S).bind fun t => kitB t T <;> rfl
theorem isiR1 {b : Bool} {S : Sto} : (isiR S (some b)) = (.ok (.bl b) S) := rfl
theorem ty_bl {x : Bool} {S : Sto} : (tyOf (.bl x) S) = (some "bool") := rfl
theorem ty_int {x : Int} {S : Sto} : (tyOf (.int x) S) = (some "int") := rfl
theorem ty_str {x : Str} {S : Sto} : (tyOf (.str x) S) = (some "str") := rfl
theorem ty_tup {x : List D} {S : Sto} : (tyOf (.tup x) S) = (some "tuple") := rfl
theorem ty_non {S : Sto} : (tyOf .non S) = (some "NoneType") := rfl
theorem ty_obj {n : Nat} {S : Sto} : (tyOf (.obj n) S) = (tyO (lstOf S n)) := by show (match lstOf S n with | some _ => some "list" | none => none) = _; cases lstOf S n <;> rfl
theorem tyO1 {xs : List D} : (tyO (some xs)) = (some "list") := rfl
theorem kit_NoneType_bool  : (kitB "NoneType" "bool") = (some false) := by decide +kernel
theorem kit_NoneType_int  : (kitB "NoneType" "int") = (some false) := by decide +kernel
theorem kit_NoneType_str  : (kitB "NoneType" "str") = (some false) := by decide +kernel
theorem kit_NoneType_tuple  : (kitB "NoneType" "tuple") = (some false) := by decide +kernel
theorem kit_NoneType_list  : (kitB "NoneType" "list") = (some false) := by decide +kernel
theorem kit_bool_bool  : (kitB "bool" "bool") = (some true) := by decide +kernel
theorem kit_bool_int  : (kitB "bool" "int") = (some true) := by decide +kernel
theorem kit_bool_str  : (kitB "bool" "str") = (some false) := by decide +kernel
theorem kit_bool_tuple  : (kitB "bool" "tuple") = (some false) := by decide +kernel
theorem kit_bool_list  : (kitB "bool" "list") = (some false) := by decide +kernel
theorem kit_int_bool  : (kitB "int" "bool") = (some false) := by decide +kernel
theorem kit_int_int  : (kitB "int" "int") = (some true) := by decide +kernel
theorem kit_int_str  : (kitB "int" "str") = (some false) := by decide +kernel
theorem kit_int_tuple  : (kitB "int" "tuple") = (some false) := by decide +kernel
theorem kit_int_list  : (kitB "int" "list") = (some false) := by decide +kernel
theorem kit_str_bool  : (kitB "str" "bool") = (some false) := by decide +kernel
theorem kit_str_int  : (kitB "str" "int") = (some false) := by decide +kernel
theorem kit_str_str  : (kitB "str" "str") = (some true) := by decide +kernel
theorem kit_str_tuple  : (kitB "str" "tuple") = (some false) := by decide +kernel
theorem kit_str_list  : (kitB "str" "list") = (some false) := by decide +kernel
theorem kit_tuple_bool  : (kitB "tuple" "bool") = (some false) := by decide +kernel
theorem kit_tuple_int  : (kitB "tuple" "int") = (some false) := by decide +kernel
theorem kit_tuple_str  : (kitB "tuple" "str") = (some false) := by decide +kernel
theorem kit_tuple_tuple  : (kitB "tuple" "tuple") = (some true) := by decide +kernel
theorem kit_tuple_list  : (kitB "tuple" "list") = (some false) := by decide +kernel
theorem kit_list_bool  : (kitB "list" "bool") = (some false) := by decide +kernel
theorem kit_list_int  : (kitB "list" "int") = (some false) := by decide +kernel
theorem kit_list_str  : (kitB "list" "str") = (some false) := by decide +kernel
theorem kit_list_tuple  : (kitB "list" "tuple") = (some false) := by decide +kernel
theorem kit_list_list  : (kitB "list" "list") = (some true) := by decide +kernel
theorem list1 {d : D} {S : Sto} : (dList [d] S) = (lstR S (seqOf d S)) := by show (match seqOf d S with | some xs => mkLst xs S | none => .bad) = _; cases seqOf d S <;> rfl
theorem lstR1 {xs : List D} {S : Sto} : (lstR S (some xs)) = (mkLst xs S) := rfl
theorem sq1 {xs : List D} {S : Sto} : (seqOf (.tup xs) S) = (some xs) := rfl
theorem sq3 {xs : List D} {S : Sto} : (seqOf (.kl xs) S) = (some xs) := rfl
theorem sl4 {xs : List D} {l h : Option Int} {S : Sto} : (dSl (.kl xs) l h S) = (mkLst (cutL xs l h) S) := rfl
theorem wk4 {xs : List D} {S : Sto} : (toWalk (.kl xs) S) = (.ok (xs, fun _ => True) S) := rfl
theorem sq2 {n : Nat} {S : Sto} : (seqOf (.obj n) S) = (lstOf S n) := rfl
theorem tup2 {n : Nat} {S : Sto} : (dTuple [.obj n] S) = (tupR S (lstOf S n)) := by show (match lstOf S n with | some xs => Res.ok (D.tup xs) S | none => .bad) = _; cases lstOf S n <;> rfl
theorem tupR1 {xs : List D} {S : Sto} : (tupR S (some xs)) = (.ok (.tup xs) S) := rfl
theorem sl2 {n : Nat} {l h : Option Int} {S : Sto} : (dSl (.obj n) l h S) = (slR l h S (lstOf S n)) := by show (match lstOf S n with | some xs => mkLst (cutL xs l h) S | none => .bad) = _; cases lstOf S n <;> rfl
theorem slR1 {xs : List D} {l h : Option Int} {S : Sto} : (slR l h S (some xs)) = (mkLst (cutL xs l h) S) := rfl
theorem app1 {n : Nat} {d : D} {S : Sto} : (mAppend (.obj n) [d] S) = (appO n d S S[n]?) := by show (match S[n]? with | some (.lst xs) => if xs.length < sizeLine then Res.ok D.non (S.set n (.lst (xs ++ [d]))) else .bad | _ => .bad) = _; cases S[n]? with | none => rfl | some o => cases o <;> rfl
theorem appO1 {n : Nat} {d : D} {xs : List D} {S : Sto} : (appO n d S (some (.lst xs))) = ((if xs.length < sizeLine then .ok .non (S.set n (.lst (xs ++ [d]))) else .bad)) := id rfl
theorem tym1 {T : String} {n : Nat} {S : Sto} : (tyM T (.obj n) S) = (tymO T S[n]?) := by show (match S[n]? with | some (.lst _) => T == "list" | some (.dk _) => T == "dict" | _ => false) = _; cases S[n]? with | none => rfl | some o => cases o <;> rfl
theorem tymO1 {T : String} {xs : List D} : (tymO T (some (.lst xs))) = ((T == "list")) := rfl
theorem tymO3 {T : String} {xs : List (Key × D)} : (tymO T (some (.dk xs))) = ((T == "dict")) := rfl
theorem tym2 {T : String} {z : Str} {S : Sto} : (tyM T (.str z) S) = ((T == "str")) := rfl
theorem scsS0  : (scs []) = (some []) := rfl
theorem scsS1 {y0 : Str} : (scs [D.str y0]) = (some [V.str y0]) := rfl
theorem scsS2 {y0 y1 : Str} : (scs [D.str y0, D.str y1]) = (some [V.str y0, V.str y1]) := rfl
theorem scsS3 {y0 y1 y2 : Str} : (scs [D.str y0, D.str y1, D.str y2]) = (some [V.str y0, V.str y1, V.str y2]) := rfl
theorem scsS4 {y0 y1 y2 y3 : Str} : (scs [D.str y0, D.str y1, D.str y2, D.str y3]) = (some [V.str y0, V.str y1, V.str y2, V.str y3]) := rfl
theorem scsS5 {y0 y1 y2 y3 y4 : Str} : (scs [D.str y0, D.str y1, D.str y2, D.str y3, D.str y4]) = (some [V.str y0, V.str y1, V.str y2, V.str y3, V.str y4]) := rfl
theorem scsS6 {y0 y1 y2 y3 y4 y5 : Str} : (scs [D.str y0, D.str y1, D.str y2, D.str y3, D.str y4, D.str y5]) = (some [V.str y0, V.str y1, V.str y2, V.str y3, V.str y4, V.str y5]) := rfl
theorem scsS7 {y0 y1 y2 y3 y4 y5 y6 : Str} : (scs [D.str y0, D.str y1, D.str y2, D.str y3, D.str y4, D.str y5, D.str y6]) = (some [V.str y0, V.str y1, V.str y2, V.str y3, V.str y4, V.str y5, V.str y6]) := rfl
theorem scsS8 {y0 y1 y2 y3 y4 y5 y6 y7 : Str} : (scs [D.str y0, D.str y1, D.str y2, D.str y3, D.str y4, D.str y5, D.str y6, D.str y7]) = (some [V.str y0, V.str y1, V.str y2, V.str y3, V.str y4, V.str y5, V.str y6, V.str y7]) := rfl
theorem scsS9 {y0 y1 y2 y3 y4 y5 y6 y7 y8 : Str} : (scs [D.str y0, D.str y1, D.str y2, D.str y3, D.str y4, D.str y5, D.str y6, D.str y7, D.str y8]) = (some [V.str y0, V.str y1, V.str y2, V.str y3, V.str y4, V.str y5, V.str y6, V.str y7, V.str y8]) := rfl
theorem inVS1 {t y0 : Str} : (inV (V.str t) [V.str y0]) = (decide (t ∈ [y0])) := in_strs t [y0]
theorem inVS2 {t y0 y1 : Str} : (inV (V.str t) [V.str y0, V.str y1]) = (decide (t ∈ [y0, y1])) := in_strs t [y0, y1]
theorem inVS3 {t y0 y1 y2 : Str} : (inV (V.str t) [V.str y0, V.str y1, V.str y2]) = (decide (t ∈ [y0, y1, y2])) := in_strs t [y0, y1, y2]
theorem inVS4 {t y0 y1 y2 y3 : Str} : (inV (V.str t) [V.str y0, V.str y1, V.str y2, V.str y3]) = (decide (t ∈ [y0, y1, y2, y3])) := in_strs t [y0, y1, y2, y3]
theorem inVS5 {t y0 y1 y2 y3 y4 : Str} : (inV (V.str t) [V.str y0, V.str y1, V.str y2, V.str y3, V.str y4]) = (decide (t ∈ [y0, y1, y2, y3, y4])) := in_strs t [y0, y1, y2, y3, y4]
theorem inVS6 {t y0 y1 y2 y3 y4 y5 : Str} : (inV (V.str t) [V.str y0, V.str y1, V.str y2, V.str y3, V.str y4, V.str y5]) = (decide (t ∈ [y0, y1, y2, y3, y4, y5])) := in_strs t [y0, y1, y2, y3, y4, y5]
theorem inVS7 {t y0 y1 y2 y3 y4 y5 y6 : Str} : (inV (V.str t) [V.str y0, V.str y1, V.str y2, V.str y3, V.str y4, V.str y5, V.str y6]) = (decide (t ∈ [y0, y1, y2, y3, y4, y5, y6])) := in_strs t [y0, y1, y2, y3, y4, y5, y6]
theorem inVS8 {t y0 y1 y2 y3 y4 y5 y6 y7 : Str} : (inV (V.str t) [V.str y0, V.str y1, V.str y2, V.str y3, V.str y4, V.str y5, V.str y6, V.str y7]) = (decide (t ∈ [y0, y1, y2, y3, y4, y5, y6, y7])) := in_strs t [y0, y1, y2, y3, y4, y5, y6, y7]
theorem inVS9 {t y0 y1 y2 y3 y4 y5 y6 y7 y8 : Str} : (inV (V.str t) [V.str y0, V.str y1, V.str y2, V.str y3, V.str y4, V.str y5, V.str y6, V.str y7, V.str y8]) = (decide (t ∈ [y0, y1, y2, y3, y4, y5, y6, y7, y8])) := in_strs t [y0, y1, y2, y3, y4, y5, y6, y7, y8]
theorem in1 {k : Bool} {x : D} {ys : List D} {S : Sto} : (dIn k x (.tup ys) S) = (inR k S x.sc (scs ys)) := by cases h : scs ys <;> cases x <;> simp only [dIn, D.sc, h, inR]
theorem in2 {k : Bool} {x : D} {n : Nat} {S : Sto} : (dIn k x (.obj n) S) = (inR k S x.sc ((lstOf S n).bind scs)) := by cases h : (lstOf S n).bind scs <;> cases x <;> simp only [dIn, D.sc, h, inR]
theorem inR1 {k : Bool} {v : V} {vs : List V} {S : Sto} : (inR k S (some v) (some vs)) = (.ok (.bl (if k then !inV v vs else inV v vs)) S) := rfl
theorem sc1 {x : Str} : ((D.str x).sc) = (some (.str x)) := rfl
theorem sc2 {x : Int} : ((D.int x).sc) = (some (.int x)) := rfl
theorem wkL {n : Nat} {S : Sto} : (toWalk (.obj n) S) = (walkR n S (lstOf S n)) := by show (match lstOf S n with | some xs => Res.ok (xs, sameL n xs) S | none => .bad) = _; cases lstOf S n <;> rfl
theorem walkR1 {n : Nat} {xs : List D} {S : Sto} : (walkR n S (some xs)) = (.ok (xs, sameL n xs) S) := rfl
theorem setSelf {S : Sto} {n : Nat} {o : Ob} : ((S.set n o)[n]?) = (S[n]?.map fun _ => o) := by rw [List.getElem?_set_self']; rfl
theorem mapSome {o o' : Ob} : ((some o').map fun (_ : Ob) => o) = (some o) := rfl
theorem setNe {S : Sto} {n m : Nat} {o : Ob} (h : n ≠ m) : ((S.set n o)[m]?) = (S[m]?) := List.getElem?_set_ne h
theorem setSet {S : Sto} {n : Nat} {o o' : Ob} : ((S.set n o).set n o') = (S.set n o') := List.set_set ..
theorem appNew {S : Sto} {o : Ob} : ((S ++ [o])[S.length]?) = (some o) := List.getElem?_concat_length
theorem appOld {S : Sto} {o : Ob} {n : Nat} (h : n < S.length) : ((S ++ [o])[n]?) = (S[n]?) := List.getElem?_append_left h
theorem mkLst1 {xs : List D} {S : Sto} : (mkLst xs S) = ((if xs.length ≤ sizeLine then .ok (.obj S.length) (S ++ [.lst xs]) else .bad)) := id rfl
theorem mkTup1 {xs : List D} {S : Sto} : (mkTup xs S) = ((if xs.length ≤ sizeLine then .ok (.tup xs) S else .bad)) := id rfl
theorem ixN5_0  : (ixN 5 (0 : Int)) = (some 0) := rfl
theorem ixN5_1  : (ixN 5 (1 : Int)) = (some 1) := rfl
theorem ixN5_2  : (ixN 5 (2 : Int)) = (some 2) := rfl
theorem ixN5_3  : (ixN 5 (3 : Int)) = (some 3) := rfl
theorem ixN5_4  : (ixN 5 (4 : Int)) = (some 4) := rfl
theorem int1 {i : Int} {S : Sto} : (dInt [.int i] S) = (.ok (.int i) S) := rfl
theorem int2 {k : Bool} {S : Sto} : (dInt [.bl k] S) = (.ok (.int (if k then 1 else 0)) S) := rfl
theorem len1 {xs : List D} {S : Sto} : (dLen [.tup xs] S) = (.ok (.int xs.length) S) := rfl
theorem len2 {z : Str} {S : Sto} : (dLen [.str z] S) = ((if z.length ≤ sizeLine then .ok (.int z.length) S else .bad)) := id rfl
theorem ix3 {z : Str} {i : Int} {S : Sto} : (dIx (.str z) (.int i) S) = ((if z.length ≤ sizeLine then ixS S (atI z.cps.toList i) else .bad)) := by show (if z.length ≤ sizeLine then (match atI z.cps.toList i with | some c => Res.ok (D.str ⟨#[c]⟩) S | none => .bad) else .bad) = _; cases atI z.cps.toList i <;> rfl
theorem ixS1 {c : Nat} {S : Sto} : (ixS S (some c)) = (.ok (.str ⟨#[c]⟩) S) := rfl
theorem find3a {a b : Str} {i : Int} {S : Sto} : (mFind3 (.str a) [.str b, .int i] S) = (.ok (.int (Txt.find3 a b i)) S) := rfl
theorem starts1 {a b : Str} {S : Sto} : (mStarts (.str a) [.str b] S) = (.ok (.bl (Txt.startswith a b)) S) := rfl
theorem mulS1 {a : Str} {k : Int} {S : Sto} : (dMulS (.str a) (.int k) S) = ((if k = 0 then .ok (.str Str.empty) S else if k = 1 then .ok (.str a) S else .bad)) := id rfl
theorem join1 {z : Str} {d : D} {S : Sto} : (mJoin (.str z) d S) = (joinR z S ((seqOf d S).bind asStrs)) := by unfold mJoin; cases (seqOf d S).bind asStrs <;> rfl
theorem joinR1 {z : Str} {ys : List Str} {S : Sto} : (joinR z S (some ys)) = ((if (ys.map (·.length)).sum + ys.length * z.length ≤ 16777216 then .ok (.str (Txt.join z ys)) S else .bad)) := id rfl
theorem neg1 {i : Int} {S : Sto} : (dNeg (.int i) S) = (.ok (.int (-i)) S) := rfl
theorem so1 {i : Int} {S : Sto} : (eSo1 (.int i) S) = (.ok (some i) S) := rfl
theorem sl1 {xs : List D} {l h : Option Int} {S : Sto} : (dSl (.tup xs) l h S) = (.ok (.tup (cutL xs l h)) S) := rfl
theorem sl3 {z : Str} {l h : Option Int} {S : Sto} : (dSl (.str z) l h S) = ((if z.length ≤ sizeLine then .ok (.str (cutS z l h)) S else .bad)) := id rfl
theorem abs1 {i : Int} {S : Sto} : (dAbs [.int i] S) = (.ok (.int (if i < 0 then -i else i)) S) := rfl
theorem max1 {i j : Int} {S : Sto} : (dMax2 [.int i, .int j] S) = (.ok (.int (if j > i then j else i)) S) := rfl
theorem min1 {i j : Int} {S : Sto} : (dMin2 [.int i, .int j] S) = (.ok (.int (if j < i then j else i)) S) := rfl
theorem str1 {i : Int} {S : Sto} : (dStr [.int i] S) = ((if i.natAbs.log2 < 1920 then .ok (.str (toString i)) S else .bad)) := id rfl
theorem ipI1 {g : Int → Int → Int} {i j : Int} {S : Sto} : (dIpI g (.int i) (.int j) S) = (.ok (.int (g i j)) S) := rfl
theorem for1 {g : DG} {body : DS} {items : List D} {still : Sto → Prop} {ρ : Env} {S : Sto} : (forR g body ρ (.ok (items, still) S)) = (dLoop still g body items ρ S) := rfl
theorem tgc1 {g : DG} {gs : DGs} {d : D} {r : List D} {ρ : Env} {S : Sto} : (tgCons g gs (d :: r) ρ S) = ((g d ρ S).bind (tgCons1 gs r S)) := rfl
theorem tgn1 {ρ : Env} {S : Sto} : (tgNil [] ρ S) = (some ρ) := rfl
theorem tgt1 {n : Nat} {gs : DGs} {ds : List D} {ρ : Env} {S : Sto} : (tgT n gs (.tup ds) ρ S) = ((if ds.length = n then gs ds ρ S else none)) := id rfl
theorem setc1 {g : DG} {t : DT} {e : DE} {ρ : Env} {items : List D} {still : Sto → Prop} {S : Sto} : (dSetC1 g t e ρ (items, still) S) = (sEnd (cLoop still g t e ρ items S)) := rfl
theorem send1 {xs : List D} {S : Sto} : (sEnd (.ok xs S)) = (dSetS xs S) := rfl
theorem setcT1 {g : DG} {t : DT} {e : DE} {ρ : Env} {items : List D} {still : Sto → Prop} {S : Sto} : (dSetC1T g t e ρ (items, still) S) = (sEndT (cLoop still g t e ρ items S)) := rfl
theorem sendT1 {xs : List D} {S : Sto} : (sEndT (.ok xs S)) = (dSetST xs S) := rfl
theorem tgl1 {n m : Nat} {gs : DGs} {ρ : Env} {S : Sto} : (tgL n gs (.obj m) ρ S) = (tgLR n gs ρ S (lstOf S m)) := by show (match lstOf S m with | some ds => if ds.length = n then gs ds ρ S else none | none => none) = _; cases lstOf S m <;> rfl
theorem tgl2 {n : Nat} {gs : DGs} {ds : List D} {ρ : Env} {S : Sto} : (tgLR n gs ρ S (some ds)) = ((if ds.length = n then gs ds ρ S else none)) := id rfl
theorem rng1 {j : Int} {S : Sto} : (toRng1 [.int j] S) = ((if OkR j then .ok (rng 0 j.toNat, fun _ => True) S else .bad)) := id rfl
theorem rng2 {i j : Int} {S : Sto} : (toRng2 [.int i, .int j] S) = ((if OkR i ∧ OkR j then .ok (rng i (j - i).toNat, fun _ => True) S else .bad)) := id rfl
theorem okr_0  : (OkR 0) = (True) := by exact eq_true ⟨by decide, by decide⟩
theorem okr_1  : (OkR 1) = (True) := by exact eq_true ⟨by decide, by decide⟩
theorem okr_2  : (OkR 2) = (True) := by exact eq_true ⟨by decide, by decide⟩
theorem okr_3  : (OkR 3) = (True) := by exact eq_true ⟨by decide, by decide⟩
theorem okr_4  : (OkR 4) = (True) := by exact eq_true ⟨by decide, by decide⟩
theorem okr_5  : (OkR 5) = (True) := by exact eq_true ⟨by decide, by decide⟩
theorem okr_6  : (OkR 6) = (True) := by exact eq_true ⟨by decide, by decide⟩
theorem okr_7  : (OkR 7) = (True) := by exact eq_true ⟨by decide, by decide⟩
theorem okr_8  : (OkR 8) = (True) := by exact eq_true ⟨by decide, by decide⟩
theorem okr_9  : (OkR 9) = (True) := by exact eq_true ⟨by decide, by decide⟩
theorem okr_10  : (OkR 10) = (True) := by exact eq_true ⟨by decide, by decide⟩
theorem okr_11  : (OkR 11) = (True) := by exact eq_true ⟨by decide, by decide⟩
theorem okr_12  : (OkR 12) = (True) := by exact eq_true ⟨by decide, by decide⟩
theorem okr_13  : (OkR 13) = (True) := by exact eq_true ⟨by decide, by decide⟩
theorem okr_14  : (OkR 14) = (True) := by exact eq_true ⟨by decide, by decide⟩
theorem okr_15  : (OkR 15) = (True) := by exact eq_true ⟨by decide, by decide⟩
theorem okr_16  : (OkR 16) = (True) := by exact eq_true ⟨by decide, by decide⟩
theorem okr_17  : (OkR 17) = (True) := by exact eq_true ⟨by decide, by decide⟩
theorem okr_18  : (OkR 18) = (True) := by exact eq_true ⟨by decide, by decide⟩
theorem okr_19  : (OkR 19) = (True) := by exact eq_true ⟨by decide, by decide⟩
theorem okr_20  : (OkR 20) = (True) := by exact eq_true ⟨by decide, by decide⟩
theorem okr_21  : (OkR 21) = (True) := by exact eq_true ⟨by decide, by decide⟩
theorem okr_22  : (OkR 22) = (True) := by exact eq_true ⟨by decide, by decide⟩
theorem okr_23  : (OkR 23) = (True) := by exact eq_true ⟨by decide, by decide⟩
theorem okr_24  : (OkR 24) = (True) := by exact eq_true ⟨by decide, by decide⟩
theorem okr_25  : (OkR 25) = (True) := by exact eq_true ⟨by decide, by decide⟩
theorem okr_26  : (OkR 26) = (True) := by exact eq_true ⟨by decide, by decide⟩
theorem okr_27  : (OkR 27) = (True) := by exact eq_true ⟨by decide, by decide⟩
theorem okr_28  : (OkR 28) = (True) := by exact eq_true ⟨by decide, by decide⟩
theorem okr_29  : (OkR 29) = (True) := by exact eq_true ⟨by decide, by decide⟩
theorem okr_30  : (OkR 30) = (True) := by exact eq_true ⟨by decide, by decide⟩
theorem okr_31  : (OkR 31) = (True) := by exact eq_true ⟨by decide, by decide⟩
theorem okr_32  : (OkR 32) = (True) := by exact eq_true ⟨by decide, by decide⟩
theorem okr_33  : (OkR 33) = (True) := by exact eq_true ⟨by decide, by decide⟩
theorem okr_34  : (OkR 34) = (True) := by exact eq_true ⟨by decide, by decide⟩
theorem okr_35  : (OkR 35) = (True) := by exact eq_true ⟨by decide, by decide⟩
theorem okr_36  : (OkR 36) = (True) := by exact eq_true ⟨by decide, by decide⟩
theorem okr_37  : (OkR 37) = (True) := by exact eq_true ⟨by decide, by decide⟩
theorem okr_38  : (OkR 38) = (True) := by exact eq_true ⟨by decide, by decide⟩
theorem okr_39  : (OkR 39) = (True) := by exact eq_true ⟨by decide, by decide⟩
theorem okr_40  : (OkR 40) = (True) := by exact eq_true ⟨by decide, by decide⟩
theorem okr_41  : (OkR 41) = (True) := by exact eq_true ⟨by decide, by decide⟩
theorem okr_42  : (OkR 42) = (True) := by exact eq_true ⟨by decide, by decide⟩
theorem okr_43  : (OkR 43) = (True) := by exact eq_true ⟨by decide, by decide⟩
theorem okr_44  : (OkR 44) = (True) := by exact eq_true ⟨by decide, by decide⟩
theorem okr_45  : (OkR 45) = (True) := by exact eq_true ⟨by decide, by decide⟩
theorem okr_46  : (OkR 46) = (True) := by exact eq_true ⟨by decide, by decide⟩
theorem okr_47  : (OkR 47) = (True) := by exact eq_true ⟨by decide, by decide⟩
theorem okr_48  : (OkR 48) = (True) := by exact eq_true ⟨by decide, by decide⟩
theorem okr_49  : (OkR 49) = (True) := by exact eq_true ⟨by decide, by decide⟩
theorem okr_50  : (OkR 50) = (True) := by exact eq_true ⟨by decide, by decide⟩
theorem okr_51  : (OkR 51) = (True) := by exact eq_true ⟨by decide, by decide⟩
theorem okr_52  : (OkR 52) = (True) := by exact eq_true ⟨by decide, by decide⟩
theorem okr_53  : (OkR 53) = (True) := by exact eq_true ⟨by decide, by decide⟩
theorem okr_54  : (OkR 54) = (True) := by exact eq_true ⟨by decide, by decide⟩
theorem okr_55  : (OkR 55) = (True) := by exact eq_true ⟨by decide, by decide⟩
theorem okr_56  : (OkR 56) = (True) := by exact eq_true ⟨by decide, by decide⟩
theorem okr_57  : (OkR 57) = (True) := by exact eq_true ⟨by decide, by decide⟩
theorem okr_58  : (OkR 58) = (True) := by exact eq_true ⟨by decide, by decide⟩
theorem okr_59  : (OkR 59) = (True) := by exact eq_true ⟨by decide, by decide⟩
theorem okr_60  : (OkR 60) = (True) := by exact eq_true ⟨by decide, by decide⟩
theorem okr_61  : (OkR 61) = (True) := by exact eq_true ⟨by decide, by decide⟩
theorem okr_62  : (OkR 62) = (True) := by exact eq_true ⟨by decide, by decide⟩
theorem okr_63  : (OkR 63) = (True) := by exact eq_true ⟨by decide, by decide⟩
theorem okr_64  : (OkR 64) = (True) := by exact eq_true ⟨by decide, by decide⟩
theorem okr_65  : (OkR 65) = (True) := by exact eq_true ⟨by decide, by decide⟩
theorem okr_66  : (OkR 66) = (True) := by exact eq_true ⟨by decide, by decide⟩
theorem okr_67  : (OkR 67) = (True) := by exact eq_true ⟨by decide, by decide⟩
theorem okr_68  : (OkR 68) = (True) := by exact eq_true ⟨by decide, by decide⟩
theorem okr_69  : (OkR 69) = (True) := by exact eq_true ⟨by decide, by decide⟩
theorem okr_70  : (OkR 70) = (True) := by exact eq_true ⟨by decide, by decide⟩
theorem okr_71  : (OkR 71) = (True) := by exact eq_true ⟨by decide, by decide⟩
theorem okr_72  : (OkR 72) = (True) := by exact eq_true ⟨by decide, by decide⟩
theorem okr_73  : (OkR 73) = (True) := by exact eq_true ⟨by decide, by decide⟩
theorem okr_74  : (OkR 74) = (True) := by exact eq_true ⟨by decide, by decide⟩
theorem okr_75  : (OkR 75) = (True) := by exact eq_true ⟨by decide, by decide⟩
theorem okr_76  : (OkR 76) = (True) := by exact eq_true ⟨by decide, by decide⟩
theorem okr_77  : (OkR 77) = (True) := by exact eq_true ⟨by decide, by decide⟩
theorem okr_78  : (OkR 78) = (True) := by exact eq_true ⟨by decide, by decide⟩
theorem okr_79  : (OkR 79) = (True) := by exact eq_true ⟨by decide, by decide⟩
theorem okr_80  : (OkR 80) = (True) := by exact eq_true ⟨by decide, by decide⟩
theorem okr_81  : (OkR 81) = (True) := by exact eq_true ⟨by decide, by decide⟩
theorem okr_82  : (OkR 82) = (True) := by exact eq_true ⟨by decide, by decide⟩
theorem okr_83  : (OkR 83) = (True) := by exact eq_true ⟨by decide, by decide⟩
theorem okr_84  : (OkR 84) = (True) := by exact eq_true ⟨by decide, by decide⟩
theorem okr_85  : (OkR 85) = (True) := by exact eq_true ⟨by decide, by decide⟩
theorem okr_86  : (OkR 86) = (True) := by exact eq_true ⟨by decide, by decide⟩
theorem okr_87  : (OkR 87) = (True) := by exact eq_true ⟨by decide, by decide⟩
theorem okr_88  : (OkR 88) = (True) := by exact eq_true ⟨by decide, by decide⟩
theorem okr_89  : (OkR 89) = (True) := by exact eq_true ⟨by decide, by decide⟩
theorem okr_90  : (OkR 90) = (True) := by exact eq_true ⟨by decide, by decide⟩
theorem okr_91  : (OkR 91) = (True) := by exact eq_true ⟨by decide, by decide⟩
theorem okr_92  : (OkR 92) = (True) := by exact eq_true ⟨by decide, by decide⟩
theorem okr_93  : (OkR 93) = (True) := by exact eq_true ⟨by decide, by decide⟩
theorem okr_94  : (OkR 94) = (True) := by exact eq_true ⟨by decide, by decide⟩
theorem okr_95  : (OkR 95) = (True) := by exact eq_true ⟨by decide, by decide⟩
theorem okr_96  : (OkR 96) = (True) := by exact eq_true ⟨by decide, by decide⟩
theorem okr_97  : (OkR 97) = (True) := by exact eq_true ⟨by decide, by decide⟩
theorem okr_98  : (OkR 98) = (True) := by exact eq_true ⟨by decide, by decide⟩
theorem okr_99  : (OkR 99) = (True) := by exact eq_true ⟨by decide, by decide⟩
theorem okr_100  : (OkR 100) = (True) := by exact eq_true ⟨by decide, by decide⟩
theorem okr_101  : (OkR 101) = (True) := by exact eq_true ⟨by decide, by decide⟩
theorem okr_102  : (OkR 102) = (True) := by exact eq_true ⟨by decide, by decide⟩
theorem okr_103  : (OkR 103) = (True) := by exact eq_true ⟨by decide, by decide⟩
theorem okr_104  : (OkR 104) = (True) := by exact eq_true ⟨by decide, by decide⟩
theorem okr_105  : (OkR 105) = (True) := by exact eq_true ⟨by decide, by decide⟩
theorem okr_106  : (OkR 106) = (True) := by exact eq_true ⟨by decide, by decide⟩
theorem okr_107  : (OkR 107) = (True) := by exact eq_true ⟨by decide, by decide⟩
theorem okr_108  : (OkR 108) = (True) := by exact eq_true ⟨by decide, by decide⟩
theorem okr_109  : (OkR 109) = (True) := by exact eq_true ⟨by decide, by decide⟩
theorem okr_110  : (OkR 110) = (True) := by exact eq_true ⟨by decide, by decide⟩
theorem okr_111  : (OkR 111) = (True) := by exact eq_true ⟨by decide, by decide⟩
theorem okr_112  : (OkR 112) = (True) := by exact eq_true ⟨by decide, by decide⟩
theorem okr_113  : (OkR 113) = (True) := by exact eq_true ⟨by decide, by decide⟩
theorem okr_114  : (OkR 114) = (True) := by exact eq_true ⟨by decide, by decide⟩
theorem okr_115  : (OkR 115) = (True) := by exact eq_true ⟨by decide, by decide⟩
theorem okr_116  : (OkR 116) = (True) := by exact eq_true ⟨by decide, by decide⟩
theorem okr_117  : (OkR 117) = (True) := by exact eq_true ⟨by decide, by decide⟩
theorem okr_118  : (OkR 118) = (True) := by exact eq_true ⟨by decide, by decide⟩
theorem okr_119  : (OkR 119) = (True) := by exact eq_true ⟨by decide, by decide⟩
theorem okr_120  : (OkR 120) = (True) := by exact eq_true ⟨by decide, by decide⟩
theorem okr_121  : (OkR 121) = (True) := by exact eq_true ⟨by decide, by decide⟩
theorem okr_122  : (OkR 122) = (True) := by exact eq_true ⟨by decide, by decide⟩
theorem okr_123  : (OkR 123) = (True) := by exact eq_true ⟨by decide, by decide⟩
theorem okr_124  : (OkR 124) = (True) := by exact eq_true ⟨by decide, by decide⟩
theorem okr_125  : (OkR 125) = (True) := by exact eq_true ⟨by decide, by decide⟩
theorem okr_126  : (OkR 126) = (True) := by exact eq_true ⟨by decide, by decide⟩
theorem okr_127  : (OkR 127) = (True) := by exact eq_true ⟨by decide, by decide⟩
theorem okr_128  : (OkR 128) = (True) := by exact eq_true ⟨by decide, by decide⟩
theorem okr_129  : (OkR 129) = (True) := by exact eq_true ⟨by decide, by decide⟩
theorem okr_150  : (OkR 150) = (True) := by exact eq_true ⟨by decide, by decide⟩
theorem okr_200  : (OkR 200) = (True) := by exact eq_true ⟨by decide, by decide⟩
theorem okr_250  : (OkR 250) = (True) := by exact eq_true ⟨by decide, by decide⟩
theorem okr_256  : (OkR 256) = (True) := by exact eq_true ⟨by decide, by decide⟩
theorem okr_300  : (OkR 300) = (True) := by exact eq_true ⟨by decide, by decide⟩
theorem okr_400  : (OkR 400) = (True) := by exact eq_true ⟨by decide, by decide⟩
theorem okr_500  : (OkR 500) = (True) := by exact eq_true ⟨by decide, by decide⟩
theorem okr_1000  : (OkR 1000) = (True) := by exact eq_true ⟨by decide, by decide⟩
theorem okr2 {n : Nat} (h : n ≤ sizeLine) : (OkR ((n : Nat) : Int)) = (True) := by rw [sizeLine_eq] at h; exact eq_true ⟨by omega, by omega⟩
theorem wkQ1 {n : Nat} {S : Sto} : (toWalkQ (.obj n) S) = (walkR n S (lstOf S n)) := by show (match lstOf S n with | some xs => Res.ok (xs, sameL n xs) S | none => .bad) = _; cases lstOf S n <;> rfl
theorem wkQ2 {xs : List D} {S : Sto} : (toWalkQ (.tup xs) S) = (.ok (xs, fun _ => True) S) := rfl
theorem wkT {xs : List D} {S : Sto} : (toWalkT (.tup xs) S) = (.ok (xs, fun _ => True) S) := rfl
theorem enum1 {n : Nat} {S : Sto} : (toEnum [.obj n] S) = (enumR n S (lstOf S n)) := by show (match lstOf S n with | some xs => Res.ok (enumD xs, sameL n xs) S | none => .bad) = _; cases lstOf S n <;> rfl
theorem enum2 {xs : List D} {S : Sto} : (toEnum [.kl xs] S) = (.ok (enumD xs, fun _ => True) S) := rfl
theorem enumR1 {n : Nat} {xs : List D} {S : Sto} : (enumR n S (some xs)) = (.ok (enumD xs, sameL n xs) S) := rfl
theorem zip1 {xs ys : List D} {S : Sto} : (toZip [.tup xs, .tup ys] S) = (.ok (zipD xs ys, fun _ => True) S) := rfl
theorem zip2 {n m : Nat} {S : Sto} : (toZip [.obj n, .obj m] S) = (zipR n m S (lstOf S n) (lstOf S m)) := by show (match lstOf S n, lstOf S m with | some xs, some ys => Res.ok (zipD xs ys, fun S => sameL n xs S ∧ sameL m ys S) S | _, _ => .bad) = _; cases lstOf S n <;> cases lstOf S m <;> rfl
theorem zipR1 {n m : Nat} {xs ys : List D} {S : Sto} : (zipR n m S (some xs) (some ys)) = (.ok (zipD xs ys, fun S => sameL n xs S ∧ sameL m ys S) S) := rfl
theorem starS1 {da : DA} {xs : List D} {ρ : Env} {S : Sto} : (starS da ρ S (some xs)) = ((da ρ S).bind (starA xs)) := rfl
theorem starA1 {xs ys : List D} {S : Sto} : (starA xs ys S) = (.ok (xs ++ ys) S) := rfl
theorem ltA1 {i j : Int} {S : Sto} : (dLtA (.int i) (.int j) S) = (.ok (.bl (decide (i < j))) S) := rfl
theorem leA1 {i j : Int} {S : Sto} : (dLeA (.int i) (.int j) S) = (.ok (.bl (decide (i ≤ j))) S) := rfl
theorem ltA2 {i j : Bool} {S : Sto} : (dLtA (.bl i) (.bl j) S) = (.ok (.bl (!i && j)) S) := rfl
theorem leA2 {i j : Bool} {S : Sto} : (dLeA (.bl i) (.bl j) S) = (.ok (.bl (!i || j)) S) := rfl
theorem wkS {z : Str} {S : Sto} : (toWalkS (.str z) S) = (.ok (signs z, fun _ => True) S) := rfl
theorem wh1 {k : DS} {ρ : Env} {S : Sto} : (whR k (.nx ρ S)) = (k ρ S) := id rfl
theorem wh2 {k : DS} {ρ : Env} {S : Sto} : (whR k (.ct ρ S)) = (k ρ S) := id rfl
theorem wh3 {k : DS} {ρ : Env} {S : Sto} : (whR k (.bk ρ S)) = (.nx ρ S) := id rfl
theorem wh4 {k : DS} {d : D} {S : Sto} : (whR k (.rt d S)) = (.rt d S) := id rfl
theorem wt1 {b k : DS} {ρ : Env} {S : Sto} : (whT b k ρ (.ok true S)) = (whR k (b ρ S)) := id rfl
theorem wt2 {b k : DS} {ρ : Env} {S : Sto} : (whT b k ρ (.ok false S)) = (.nx ρ S) := id rfl
theorem tr1 {m : Mat} {s : DS} {c : Str} {fs : List (Str × D)} {ρ : Env} {S : Sto} : (tryR m s (.exc c fs ρ S)) = (tryM s c fs ρ S (m.lookup c)) := id rfl
theorem tr2 {m : Mat} {s : DS} {ρ : Env} {S : Sto} : (tryR m s (.nx ρ S)) = (.nx ρ S) := id rfl
theorem tr3 {m : Mat} {s : DS} {d : D} {S : Sto} : (tryR m s (.rt d S)) = (.rt d S) := id rfl
theorem tm1 {s : DS} {c : Str} {fs : List (Str × D)} {ρ : Env} {S : Sto} : (tryM s c fs ρ S (some true)) = (s ρ S) := id rfl
theorem tm2 {s : DS} {c : Str} {fs : List (Str × D)} {ρ : Env} {S : Sto} : (tryM s c fs ρ S (some false)) = (.exc c fs ρ S) := id rfl
theorem cend1 {xs : List D} {S : Sto} : (cEnd (.ok xs S)) = (mkLst xs S) := rfl
theorem ccmp1 {g : DG} {t : DT} {e : DE} {ρ : Env} {items : List D} {still : Sto → Prop} {S : Sto} : (dComp1 g t e ρ (items, still) S) = (cEnd (cLoop still g t e ρ items S)) := rfl
theorem chd1 {x : D} {xs : List D} {S : Sto} : (cHead x (.ok xs S)) = (.ok (x :: xs) S) := rfl
theorem cel1 {still : Sto → Prop} {k : Sto → Res (List D)} {x : D} {S : Sto} : (cElt still k (.ok x S)) = (cHead x (cSkip still k S)) := rfl
theorem cts1 {still : Sto → Prop} {e : DE} {k : Sto → Res (List D)} {ρ : Env} {S : Sto} : (cTest still e k ρ (.ok true S)) = (cElt still k (e ρ S)) := rfl
theorem cts2 {still : Sto → Prop} {e : DE} {k : Sto → Res (List D)} {ρ : Env} {S : Sto} : (cTest still e k ρ (.ok false S)) = (cSkip still k S) := rfl
theorem ctg1 {still : Sto → Prop} {t : DT} {e : DE} {k : Sto → Res (List D)} {ρ : Env} {S : Sto} : (cTg still t e k S (some ρ)) = (cTest still e k ρ (t ρ S)) := rfl
theorem m11 {f : D → D → Sto → Res D} {da : DE} {z : Str} {ρ : Env} {S : Sto} : (eM11 f da ρ (.str z) S) = ((da ρ S).bind (f (.str z))) := rfl
theorem mulr {i j : Int} (h : j.natAbs < 2 ^ 64) : (MulOk i j) = (True) := by exact eq_true (.inr (.inl h))
theorem mull {i j : Int} (h : i.natAbs < 2 ^ 64) : (MulOk i j) = (True) := by exact eq_true (.inl h)
theorem get0 {α : Type} {x : α} {l : List α} : ((x :: l)[0]?) = (some x) := rfl
theorem at0 {x0 : D} {l : List D} : (atI (x0 :: l) 0) = (some x0) := atI_nat (j := 0) rfl
theorem get1 {α : Type} {x0 x1 : α} {l : List α} : ((x0 :: x1 :: l)[1]?) = (some x1) := rfl
theorem at1 {x0 x1 : D} {l : List D} : (atI (x0 :: x1 :: l) 1) = (some x1) := atI_nat (j := 1) rfl
theorem get2 {α : Type} {x0 x1 x2 : α} {l : List α} : ((x0 :: x1 :: x2 :: l)[2]?) = (some x2) := rfl
theorem at2 {x0 x1 x2 : D} {l : List D} : (atI (x0 :: x1 :: x2 :: l) 2) = (some x2) := atI_nat (j := 2) rfl
theorem get3 {α : Type} {x0 x1 x2 x3 : α} {l : List α} : ((x0 :: x1 :: x2 :: x3 :: l)[3]?) = (some x3) := rfl
theorem at3 {x0 x1 x2 x3 : D} {l : List D} : (atI (x0 :: x1 :: x2 :: x3 :: l) 3) = (some x3) := atI_nat (j := 3) rfl
theorem get4 {α : Type} {x0 x1 x2 x3 x4 : α} {l : List α} : ((x0 :: x1 :: x2 :: x3 :: x4 :: l)[4]?) = (some x4) := rfl
theorem at4 {x0 x1 x2 x3 x4 : D} {l : List D} : (atI (x0 :: x1 :: x2 :: x3 :: x4 :: l) 4) = (some x4) := atI_nat (j := 4) rfl
theorem get5 {α : Type} {x0 x1 x2 x3 x4 x5 : α} {l : List α} : ((x0 :: x1 :: x2 :: x3 :: x4 :: x5 :: l)[5]?) = (some x5) := rfl
theorem at5 {x0 x1 x2 x3 x4 x5 : D} {l : List D} : (atI (x0 :: x1 :: x2 :: x3 :: x4 :: x5 :: l) 5) = (some x5) := atI_nat (j := 5) rfl
theorem get6 {α : Type} {x0 x1 x2 x3 x4 x5 x6 : α} {l : List α} : ((x0 :: x1 :: x2 :: x3 :: x4 :: x5 :: x6 :: l)[6]?) = (some x6) := rfl
theorem at6 {x0 x1 x2 x3 x4 x5 x6 : D} {l : List D} : (atI (x0 :: x1 :: x2 :: x3 :: x4 :: x5 :: x6 :: l) 6) = (some x6) := atI_nat (j := 6) rfl
theorem get7 {α : Type} {x0 x1 x2 x3 x4 x5 x6 x7 : α} {l : List α} : ((x0 :: x1 :: x2 :: x3 :: x4 :: x5 :: x6 :: x7 :: l)[7]?) = (some x7) := rfl
theorem at7 {x0 x1 x2 x3 x4 x5 x6 x7 : D} {l : List D} : (atI (x0 :: x1 :: x2 :: x3 :: x4 :: x5 :: x6 :: x7 :: l) 7) = (some x7) := atI_nat (j := 7) rfl
theorem get8 {α : Type} {x0 x1 x2 x3 x4 x5 x6 x7 x8 : α} {l : List α} : ((x0 :: x1 :: x2 :: x3 :: x4 :: x5 :: x6 :: x7 :: x8 :: l)[8]?) = (some x8) := rfl
theorem at8 {x0 x1 x2 x3 x4 x5 x6 x7 x8 : D} {l : List D} : (atI (x0 :: x1 :: x2 :: x3 :: x4 :: x5 :: x6 :: x7 :: x8 :: l) 8) = (some x8) := atI_nat (j := 8) rfl
theorem get9 {α : Type} {x0 x1 x2 x3 x4 x5 x6 x7 x8 x9 : α} {l : List α} : ((x0 :: x1 :: x2 :: x3 :: x4 :: x5 :: x6 :: x7 :: x8 :: x9 :: l)[9]?) = (some x9) := rfl
theorem at9 {x0 x1 x2 x3 x4 x5 x6 x7 x8 x9 : D} {l : List D} : (atI (x0 :: x1 :: x2 :: x3 :: x4 :: x5 :: x6 :: x7 :: x8 :: x9 :: l) 9) = (some x9) := atI_nat (j := 9) rfl
theorem get10 {α : Type} {x0 x1 x2 x3 x4 x5 x6 x7 x8 x9 x10 : α} {l : List α} : ((x0 :: x1 :: x2 :: x3 :: x4 :: x5 :: x6 :: x7 :: x8 :: x9 :: x10 :: l)[10]?) = (some x10) := rfl
theorem at10 {x0 x1 x2 x3 x4 x5 x6 x7 x8 x9 x10 : D} {l : List D} : (atI (x0 :: x1 :: x2 :: x3 :: x4 :: x5 :: x6 :: x7 :: x8 :: x9 :: x10 :: l) 10) = (some x10) := atI_nat (j := 10) rfl
theorem get11 {α : Type} {x0 x1 x2 x3 x4 x5 x6 x7 x8 x9 x10 x11 : α} {l : List α} : ((x0 :: x1 :: x2 :: x3 :: x4 :: x5 :: x6 :: x7 :: x8 :: x9 :: x10 :: x11 :: l)[11]?) = (some x11) := rfl
theorem at11 {x0 x1 x2 x3 x4 x5 x6 x7 x8 x9 x10 x11 : D} {l : List D} : (atI (x0 :: x1 :: x2 :: x3 :: x4 :: x5 :: x6 :: x7 :: x8 :: x9 :: x10 :: x11 :: l) 11) = (some x11) := atI_nat (j := 11) rfl
theorem get12 {α : Type} {x0 x1 x2 x3 x4 x5 x6 x7 x8 x9 x10 x11 x12 : α} {l : List α} : ((x0 :: x1 :: x2 :: x3 :: x4 :: x5 :: x6 :: x7 :: x8 :: x9 :: x10 :: x11 :: x12 :: l)[12]?) = (some x12) := rfl
theorem at12 {x0 x1 x2 x3 x4 x5 x6 x7 x8 x9 x10 x11 x12 : D} {l : List D} : (atI (x0 :: x1 :: x2 :: x3 :: x4 :: x5 :: x6 :: x7 :: x8 :: x9 :: x10 :: x11 :: x12 :: l) 12) = (some x12) := atI_nat (j := 12) rfl
theorem get13 {α : Type} {x0 x1 x2 x3 x4 x5 x6 x7 x8 x9 x10 x11 x12 x13 : α} {l : List α} : ((x0 :: x1 :: x2 :: x3 :: x4 :: x5 :: x6 :: x7 :: x8 :: x9 :: x10 :: x11 :: x12 :: x13 :: l)[13]?) = (some x13) := rfl
theorem at13 {x0 x1 x2 x3 x4 x5 x6 x7 x8 x9 x10 x11 x12 x13 : D} {l : List D} : (atI (x0 :: x1 :: x2 :: x3 :: x4 :: x5 :: x6 :: x7 :: x8 :: x9 :: x10 :: x11 :: x12 :: x13 :: l) 13) = (some x13) := atI_nat (j := 13) rfl
theorem get14 {α : Type} {x0 x1 x2 x3 x4 x5 x6 x7 x8 x9 x10 x11 x12 x13 x14 : α} {l : List α} : ((x0 :: x1 :: x2 :: x3 :: x4 :: x5 :: x6 :: x7 :: x8 :: x9 :: x10 :: x11 :: x12 :: x13 :: x14 :: l)[14]?) = (some x14) := rfl
theorem at14 {x0 x1 x2 x3 x4 x5 x6 x7 x8 x9 x10 x11 x12 x13 x14 : D} {l : List D} : (atI (x0 :: x1 :: x2 :: x3 :: x4 :: x5 :: x6 :: x7 :: x8 :: x9 :: x10 :: x11 :: x12 :: x13 :: x14 :: l) 14) = (some x14) := atI_nat (j := 14) rfl
theorem get15 {α : Type} {x0 x1 x2 x3 x4 x5 x6 x7 x8 x9 x10 x11 x12 x13 x14 x15 : α} {l : List α} : ((x0 :: x1 :: x2 :: x3 :: x4 :: x5 :: x6 :: x7 :: x8 :: x9 :: x10 :: x11 :: x12 :: x13 :: x14 :: x15 :: l)[15]?) = (some x15) := rfl
theorem at15 {x0 x1 x2 x3 x4 x5 x6 x7 x8 x9 x10 x11 x12 x13 x14 x15 : D} {l : List D} : (atI (x0 :: x1 :: x2 :: x3 :: x4 :: x5 :: x6 :: x7 :: x8 :: x9 :: x10 :: x11 :: x12 :: x13 :: x14 :: x15 :: l) 15) = (some x15) := atI_nat (j := 15) rfl
theorem get16 {α : Type} {x0 x1 x2 x3 x4 x5 x6 x7 x8 x9 x10 x11 x12 x13 x14 x15 x16 : α} {l : List α} : ((x0 :: x1 :: x2 :: x3 :: x4 :: x5 :: x6 :: x7 :: x8 :: x9 :: x10 :: x11 :: x12 :: x13 :: x14 :: x15 :: x16 :: l)[16]?) = (some x16) := rfl
theorem at16 {x0 x1 x2 x3 x4 x5 x6 x7 x8 x9 x10 x11 x12 x13 x14 x15 x16 : D} {l : List D} : (atI (x0 :: x1 :: x2 :: x3 :: x4 :: x5 :: x6 :: x7 :: x8 :: x9 :: x10 :: x11 :: x12 :: x13 :: x14 :: x15 :: x16 :: l) 16) = (some x16) := atI_nat (j := 16) rfl
theorem get17 {α : Type} {x0 x1 x2 x3 x4 x5 x6 x7 x8 x9 x10 x11 x12 x13 x14 x15 x16 x17 : α} {l : List α} : ((x0 :: x1 :: x2 :: x3 :: x4 :: x5 :: x6 :: x7 :: x8 :: x9 :: x10 :: x11 :: x12 :: x13 :: x14 :: x15 :: x16 :: x17 :: l)[17]?) = (some x17) := rfl
theorem at17 {x0 x1 x2 x3 x4 x5 x6 x7 x8 x9 x10 x11 x12 x13 x14 x15 x16 x17 : D} {l : List D} : (atI (x0 :: x1 :: x2 :: x3 :: x4 :: x5 :: x6 :: x7 :: x8 :: x9 :: x10 :: x11 :: x12 :: x13 :: x14 :: x15 :: x16 :: x17 :: l) 17) = (some x17) := atI_nat (j := 17) rfl
theorem get18 {α : Type} {x0 x1 x2 x3 x4 x5 x6 x7 x8 x9 x10 x11 x12 x13 x14 x15 x16 x17 x18 : α} {l : List α} : ((x0 :: x1 :: x2 :: x3 :: x4 :: x5 :: x6 :: x7 :: x8 :: x9 :: x10 :: x11 :: x12 :: x13 :: x14 :: x15 :: x16 :: x17 :: x18 :: l)[18]?) = (some x18) := rfl
theorem at18 {x0 x1 x2 x3 x4 x5 x6 x7 x8 x9 x10 x11 x12 x13 x14 x15 x16 x17 x18 : D} {l : List D} : (atI (x0 :: x1 :: x2 :: x3 :: x4 :: x5 :: x6 :: x7 :: x8 :: x9 :: x10 :: x11 :: x12 :: x13 :: x14 :: x15 :: x16 :: x17 :: x18 :: l) 18) = (some x18) := atI_nat (j := 18) rfl
theorem get19 {α : Type} {x0 x1 x2 x3 x4 x5 x6 x7 x8 x9 x10 x11 x12 x13 x14 x15 x16 x17 x18 x19 : α} {l : List α} : ((x0 :: x1 :: x2 :: x3 :: x4 :: x5 :: x6 :: x7 :: x8 :: x9 :: x10 :: x11 :: x12 :: x13 :: x14 :: x15 :: x16 :: x17 :: x18 :: x19 :: l)[19]?) = (some x19) := rfl
theorem at19 {x0 x1 x2 x3 x4 x5 x6 x7 x8 x9 x10 x11 x12 x13 x14 x15 x16 x17 x18 x19 : D} {l : List D} : (atI (x0 :: x1 :: x2 :: x3 :: x4 :: x5 :: x6 :: x7 :: x8 :: x9 :: x10 :: x11 :: x12 :: x13 :: x14 :: x15 :: x16 :: x17 :: x18 :: x19 :: l) 19) = (some x19) := atI_nat (j := 19) rfl
theorem get20 {α : Type} {x0 x1 x2 x3 x4 x5 x6 x7 x8 x9 x10 x11 x12 x13 x14 x15 x16 x17 x18 x19 x20 : α} {l : List α} : ((x0 :: x1 :: x2 :: x3 :: x4 :: x5 :: x6 :: x7 :: x8 :: x9 :: x10 :: x11 :: x12 :: x13 :: x14 :: x15 :: x16 :: x17 :: x18 :: x19 :: x20 :: l)[20]?) = (some x20) := rfl
theorem at20 {x0 x1 x2 x3 x4 x5 x6 x7 x8 x9 x10 x11 x12 x13 x14 x15 x16 x17 x18 x19 x20 : D} {l : List D} : (atI (x0 :: x1 :: x2 :: x3 :: x4 :: x5 :: x6 :: x7 :: x8 :: x9 :: x10 :: x11 :: x12 :: x13 :: x14 :: x15 :: x16 :: x17 :: x18 :: x19 :: x20 :: l) 20) = (some x20) := atI_nat (j := 20) rfl
theorem get21 {α : Type} {x0 x1 x2 x3 x4 x5 x6 x7 x8 x9 x10 x11 x12 x13 x14 x15 x16 x17 x18 x19 x20 x21 : α} {l : List α} : ((x0 :: x1 :: x2 :: x3 :: x4 :: x5 :: x6 :: x7 :: x8 :: x9 :: x10 :: x11 :: x12 :: x13 :: x14 :: x15 :: x16 :: x17 :: x18 :: x19 :: x20 :: x21 :: l)[21]?) = (some x21) := rfl
theorem at21 {x0 x1 x2 x3 x4 x5 x6 x7 x8 x9 x10 x11 x12 x13 x14 x15 x16 x17 x18 x19 x20 x21 : D} {l : List D} : (atI (x0 :: x1 :: x2 :: x3 :: x4 :: x5 :: x6 :: x7 :: x8 :: x9 :: x10 :: x11 :: x12 :: x13 :: x14 :: x15 :: x16 :: x17 :: x18 :: x19 :: x20 :: x21 :: l) 21) = (some x21) := atI_nat (j := 21) rfl
theorem get22 {α : Type} {x0 x1 x2 x3 x4 x5 x6 x7 x8 x9 x10 x11 x12 x13 x14 x15 x16 x17 x18 x19 x20 x21 x22 : α} {l : List α} : ((x0 :: x1 :: x2 :: x3 :: x4 :: x5 :: x6 :: x7 :: x8 :: x9 :: x10 :: x11 :: x12 :: x13 :: x14 :: x15 :: x16 :: x17 :: x18 :: x19 :: x20 :: x21 :: x22 :: l)[22]?) = (some x22) := rfl
theorem at22 {x0 x1 x2 x3 x4 x5 x6 x7 x8 x9 x10 x11 x12 x13 x14 x15 x16 x17 x18 x19 x20 x21 x22 : D} {l : List D} : (atI (x0 :: x1 :: x2 :: x3 :: x4 :: x5 :: x6 :: x7 :: x8 :: x9 :: x10 :: x11 :: x12 :: x13 :: x14 :: x15 :: x16 :: x17 :: x18 :: x19 :: x20 :: x21 :: x22 :: l) 22) = (some x22) := atI_nat (j := 22) rfl
theorem get23 {α : Type} {x0 x1 x2 x3 x4 x5 x6 x7 x8 x9 x10 x11 x12 x13 x14 x15 x16 x17 x18 x19 x20 x21 x22 x23 : α} {l : List α} : ((x0 :: x1 :: x2 :: x3 :: x4 :: x5 :: x6 :: x7 :: x8 :: x9 :: x10 :: x11 :: x12 :: x13 :: x14 :: x15 :: x16 :: x17 :: x18 :: x19 :: x20 :: x21 :: x22 :: x23 :: l)[23]?) = (some x23) := rfl
theorem at23 {x0 x1 x2 x3 x4 x5 x6 x7 x8 x9 x10 x11 x12 x13 x14 x15 x16 x17 x18 x19 x20 x21 x22 x23 : D} {l : List D} : (atI (x0 :: x1 :: x2 :: x3 :: x4 :: x5 :: x6 :: x7 :: x8 :: x9 :: x10 :: x11 :: x12 :: x13 :: x14 :: x15 :: x16 :: x17 :: x18 :: x19 :: x20 :: x21 :: x22 :: x23 :: l) 23) = (some x23) := atI_nat (j := 23) rfl
theorem isn1 {S : Sto} : (dIsN .non S) = (.ok (.bl true) S) := rfl
theorem isn_bl {x : Bool} {S : Sto} : (dIsN (.bl x) S) = (.ok (.bl false) S) := rfl
theorem ntn_bl {x : Bool} {S : Sto} : (dNotN (.bl x) S) = (.ok (.bl true) S) := rfl
theorem isn_int {x : Int} {S : Sto} : (dIsN (.int x) S) = (.ok (.bl false) S) := rfl
theorem ntn_int {x : Int} {S : Sto} : (dNotN (.int x) S) = (.ok (.bl true) S) := rfl
theorem isn_str {x : Str} {S : Sto} : (dIsN (.str x) S) = (.ok (.bl false) S) := rfl
theorem ntn_str {x : Str} {S : Sto} : (dNotN (.str x) S) = (.ok (.bl true) S) := rfl
theorem isn_tup {x : List D} {S : Sto} : (dIsN (.tup x) S) = (.ok (.bl false) S) := rfl
theorem ntn_tup {x : List D} {S : Sto} : (dNotN (.tup x) S) = (.ok (.bl true) S) := rfl
theorem isn_obj {x : Nat} {S : Sto} : (dIsN (.obj x) S) = (.ok (.bl false) S) := rfl
theorem ntn_obj {x : Nat} {S : Sto} : (dNotN (.obj x) S) = (.ok (.bl true) S) := rfl
theorem ntn1 {S : Sto} : (dNotN .non S) = (.ok (.bl false) S) := rfl
theorem tup1 {xs : List D} {S : Sto} : (dTuple [.tup xs] S) = (.ok (.tup xs) S) := rfl
theorem ccmp2 {g : DG} {t : DT} {inn : Env → Sto → Res (List D)} {ρ : Env} {items : List D} {still : Sto → Prop} {S : Sto} : (dComp21 g t inn ρ (items, still) S) = (cEnd (cLoop2 still g t inn ρ items S)) := rfl
theorem inc1 {g : DG} {t : DT} {e : DE} {ρ : Env} {items : List D} {still : Sto → Prop} {S : Sto} : (inC g t e ρ (items, still) S) = (cLoop still g t e ρ items S) := rfl
theorem capp1 {xs ys : List D} {S : Sto} : (cAppd xs (.ok ys S)) = (.ok (xs ++ ys) S) := rfl
theorem cout1 {still : Sto → Prop} {k : Sto → Res (List D)} {xs : List D} {S : Sto} : (cOut still k (.ok xs S)) = (cAppd xs (cSkip still k S)) := rfl
theorem ct21 {still : Sto → Prop} {inn : Env → Sto → Res (List D)} {k : Sto → Res (List D)} {ρ : Env} {S : Sto} : (cTest2 still inn k ρ (.ok true S)) = (cOut still k (inn ρ S)) := rfl
theorem ct22 {still : Sto → Prop} {inn : Env → Sto → Res (List D)} {k : Sto → Res (List D)} {ρ : Env} {S : Sto} : (cTest2 still inn k ρ (.ok false S)) = (cSkip still k S) := rfl
theorem ctg21 {still : Sto → Prop} {t : DT} {inn : Env → Sto → Res (List D)} {k : Sto → Res (List D)} {ρ : Env} {S : Sto} : (cTg2 still t inn k S (some ρ)) = (cTest2 still inn k ρ (t ρ S)) := rfl
theorem q31 {g h : D → D → Sto → Res D} {dc dd : DE} {y : D} {ρ : Env} {S : Sto} : (eQ3 g h dc dd ρ y (.bl true) S) = ((dc ρ S).bind (eQ4 g h dd ρ y)) := rfl
theorem q32 {g h : D → D → Sto → Res D} {dc dd : DE} {y : D} {ρ : Env} {S : Sto} : (eQ3 g h dc dd ρ y (.bl false) S) = (.ok (.bl false) S) := rfl
theorem lrg2 {i j : Int} {S : Sto} : (dLrg2 (.int i) (.int j) S) = ((if OkR2 i j then mkLst (rng i (j - i).toNat) S else .bad)) := id rfl
theorem max4 {i j k l : Int} {S : Sto} : (dMax4 [.int i, .int j, .int k, .int l] S) = (.ok (.int (greatest [i, j, k, l])) S) := rfl
theorem min4 {i j k l : Int} {S : Sto} : (dMin4 [.int i, .int j, .int k, .int l] S) = (.ok (.int (least [i, j, k, l])) S) := rfl
theorem add4 {n m : Nat} {S : Sto} : (dAdd (.obj n) (.obj m) S) = (catR S S[n]? S[m]?) := by show (match S[n]?, S[m]? with | some (.lst xs), some (.lst ys) => mkLst (xs ++ ys) S | _, _ => .bad) = _; cases S[n]? with | none => rfl | some o => cases o with | lst xs => (cases S[m]? with | none => rfl | some o => cases o <;> rfl) | _ => rfl
theorem catR1 {xs ys : List D} {S : Sto} : (catR S (some (.lst xs)) (some (.lst ys))) = (mkLst (xs ++ ys) S) := rfl
theorem dnOf1 {n : Nat} {S : Sto} : (dnOf S n) = (dnOO S[n]?) := by unfold dnOf; cases S[n]? with | none => rfl | some o => cases o <;> rfl
theorem dnOO1 {kvs : List (D × D)} : (dnOO (some (.dn kvs))) = (some kvs) := rfl
theorem lookN1 {n : Nat} {k : D} {S : Sto} : (lookN (.obj n) k S) = (lookNK (nkT k) (dnOf S n)) := rfl
theorem lookNK1 {q : Option NestedKey} {kvs : List (D × D)} : (lookNK q (some kvs)) = (q.map (getN kvs)) := rfl
theorem mapSomeN {q : NestedKey} {kvs : List (D × D)} : ((some q).map (getN kvs)) = (some (getN kvs q)) := rfl
theorem nget1 {a k : D} {S : Sto} : (dNGet a k S) = (getR S (lookN a k S)) := rfl
theorem nin1 {b : Bool} {a k : D} {S : Sto} : (dNIn b k a S) = (hasR b S (lookN a k S)) := rfl
theorem nget2 {a k x : D} {S : Sto} : (dNGet2 a k x S) = (get2R x S (lookN a k S)) := rfl
theorem isdn1 {n : Nat} {S : Sto} : (isDn (.obj n) S) = ((dnOf S n).isSome) := rfl
theorem putN31 {n : Nat} {x k : D} {ρ : Env} {S : Sto} : (putN3 x (.obj n) k ρ S) = (putNQ ρ S n x k (dnOf S n) (nkT k)) := rfl
theorem putNQ1 {n : Nat} {x k : D} {kvs : List (D × D)} {q : NestedKey} {ρ : Env} {S : Sto} : (putNQ ρ S n x k (some kvs) (some q)) = ((if kvs.length < sizeLine then .nx ρ (S.set n (.dn (putN kvs k q x))) else .bad)) := id rfl
theorem srtN {n : Nat} {S : Sto} : (dSortedN [.obj n] S) = (sortN1 S (dnOf S n)) := rfl
theorem srtN1 {kvs : List (D × D)} {S : Sto} : (sortN1 S (some kvs)) = ((if SortOk (kvs.map (·.1)) then mkLst ((kvs.map (·.1)).mergeSort leD) S else .bad)) := id rfl
theorem srtLS {n : Nat} {S : Sto} : (dSortedLS [.obj n] S) = (sortSR S ((lstOf S n).bind O.asStrs)) := rfl
theorem lenNn1 {n : Nat} {S : Sto} : (dLenN [.obj n] S) = (lenN1 S (dnOf S n)) := rfl
theorem lenNn2 {kvs : List (D × D)} {S : Sto} : (lenN1 S (some kvs)) = (.ok (.int ((kvs.length : Nat) : Int)) S) := rfl
theorem valsN11 {kvs : List (D × D)} {S : Sto} : (valsN1 S (some kvs)) = (mkLst (kvs.map (·.2)) S) := rfl
theorem valsN21 {n : Nat} {S : Sto} : (valsN2 S (some (some (.obj n)))) = (valsN1 S (dnOf S n)) := rfl
end Ev
theorem get_put {S : Sto} {p : Nat} {o o' : Ob} (h : S[p]? = some o) : (S.set p o')[p]? = some o' := List.getElem?_set_self (lt_of_get h)
theorem get_put_ne {S : Sto} {p q : Nat} {o' : Ob} (h : p ≠ q) : (S.set p o')[q]? = S[q]? := List.getElem?_set_ne h
theorem put_put {S : Sto} {p : Nat} {o o' : Ob} : (S.set p o).set p o' = S.set p o' := List.set_set ..
theorem lstOf_lst {S : Sto} {n : Nat} {xs : List D} (h : S[n]? = some (.lst xs)) : lstOf S n = some xs := by unfold lstOf; rw [h]
theorem ixN_nat {n j : Nat} (h : j < n) : ixN n (j : Int) = some j := by
  unfold ixN
  rw [if_pos (by omega), if_pos (by omega), Int.toNat_natCast]
theorem ix_lst {S : Sto} {n : Nat} {i : Int} {xs : List D} (h : S[n]? = some (.lst xs)) : dIx (.obj n) (.int i) S = Ev.ixA S (atI xs i) := by
  rw [Ev.ix2, h]; rfl
theorem len_lst {S : Sto} {n : Nat} {xs : List D} (h : S[n]? = some (.lst xs)) : dLen [.obj n] S = .ok (.int xs.length) S := by
  show (match S[n]? with | some (.lst xs) => Res.ok (D.int xs.length) S | some (.dk xs) => .ok (D.int xs.length) S | some (.dt xs) => .ok (D.int xs.length) S | _ => .bad) = _
  rw [h]
theorem ixN_lit (n i : Nat) : ixN n (i : Int) = if i < n then some i else none := by
  unfold ixN
  rw [if_pos (by omega)]
  by_cases h : i < n
  · rw [if_pos (by omega), if_pos h, Int.toNat_natCast]
  · rw [if_neg (by omega), if_neg h]

theorem run0 {m : Nat} {body : DS} {S : Sto} : runD 0 m body [] S = endR (body ([] ++ List.replicate (m - 0) none) S) := if_pos rfl
theorem run1 {m : Nat} {body : DS} {a0 : D} {S : Sto} : runD 1 m body [a0] S = endR (body ([some a0] ++ List.replicate (m - 1) none) S) := if_pos rfl
theorem run2 {m : Nat} {body : DS} {a0 a1 : D} {S : Sto} : runD 2 m body [a0, a1] S = endR (body ([some a0, some a1] ++ List.replicate (m - 2) none) S) := if_pos rfl
theorem run3 {m : Nat} {body : DS} {a0 a1 a2 : D} {S : Sto} : runD 3 m body [a0, a1, a2] S = endR (body ([some a0, some a1, some a2] ++ List.replicate (m - 3) none) S) := if_pos rfl
theorem run4 {m : Nat} {body : DS} {a0 a1 a2 a3 : D} {S : Sto} : runD 4 m body [a0, a1, a2, a3] S = endR (body ([some a0, some a1, some a2, some a3] ++ List.replicate (m - 4) none) S) := if_pos rfl
theorem run5 {m : Nat} {body : DS} {a0 a1 a2 a3 a4 : D} {S : Sto} : runD 5 m body [a0, a1, a2, a3, a4] S = endR (body ([some a0, some a1, some a2, some a3, some a4] ++ List.replicate (m - 5) none) S) := if_pos rfl
theorem seq_cut {s t : DS} {ρ : Env} {S : Sto} (G : RS → Prop) (P : Env → Sto → Prop) (h1 : ∃ ρ' S', s ρ S = .nx ρ' S' ∧ P ρ' S') (h2 : ∀ ρ' S', P ρ' S' → G (t ρ' S')) : G (dSeq s t ρ S) := by
  obtain ⟨ρ', S', e, p⟩ := h1
  unfold dSeq
  rw [e]
  exact h2 ρ' S' p
theorem seqR_cut {r : RS} {t : DS} (G : RS → Prop) (P : Env → Sto → Prop) (h1 : ∃ ρ' S', r = .nx ρ' S' ∧ P ρ' S') (h2 : ∀ ρ' S', P ρ' S' → G (t ρ' S')) : G (seqR t r) := by
  obtain ⟨ρ', S', e, p⟩ := h1
  rw [e]
  exact h2 ρ' S' p
/-- a loop that goes to its end -/
theorem loop_nx {still : Sto → Prop} {g : DG} {body : DS} (P : List D → Env → Sto → Prop)
    (turn : ∀ d r ρ S, P (d :: r) ρ S → ∃ ρ1, g d ρ S = some ρ1 ∧ ∃ ρ2 S2, (body ρ1 S = .nx ρ2 S2 ∨ body ρ1 S = .ct ρ2 S2) ∧ still S2 ∧ P r ρ2 S2) :
    ∀ (items : List D) (ρ : Env) (S : Sto), P items ρ S → ∃ ρ' S', dLoop still g body items ρ S = .nx ρ' S' ∧ P [] ρ' S'
  | [], ρ, S, h => ⟨ρ, S, rfl, h⟩
  | d :: r, ρ, S, h => by
    obtain ⟨ρ1, e1, ρ2, S2, e2, hs, p⟩ := turn d r ρ S h
    obtain ⟨ρ', S', e3, p3⟩ := loop_nx P turn r ρ2 S2 p
    refine ⟨ρ', S', ?_, p3⟩
    unfold dLoop
    rw [e1]
    unfold turnG
    dsimp only
    rcases e2 with e2 | e2
    · rw [e2]
      unfold turnR
      dsimp only
      rw [if_pos hs]
      exact e3
    · rw [e2]
      unfold turnR
      dsimp only
      rw [if_pos hs]
      exact e3
/-- a loop that may be left by a return or a break -/
theorem loop_out {still : Sto → Prop} {g : DG} {body : DS} (P : List D → Env → Sto → Prop) (R : RS → Prop)
    (turn : ∀ d r ρ S, P (d :: r) ρ S → ∃ ρ1, g d ρ S = some ρ1 ∧ ((∃ ρ2 S2, (body ρ1 S = .nx ρ2 S2 ∨ body ρ1 S = .ct ρ2 S2) ∧ still S2 ∧ P r ρ2 S2) ∨ (∃ ρ2 S2, body ρ1 S = .bk ρ2 S2 ∧ R (.nx ρ2 S2)) ∨ (∃ d2 S2, body ρ1 S = .rt d2 S2 ∧ R (.rt d2 S2)) ∨ ∃ c fs ρ2 S2, body ρ1 S = .exc c fs ρ2 S2 ∧ R (.exc c fs ρ2 S2)))
    (fin : ∀ ρ S, P [] ρ S → R (.nx ρ S)) :
    ∀ (items : List D) (ρ : Env) (S : Sto), P items ρ S → R (dLoop still g body items ρ S)
  | [], ρ, S, h => fin ρ S h
  | d :: r, ρ, S, h => by
    obtain ⟨ρ1, e1, h2⟩ := turn d r ρ S h
    unfold dLoop
    rw [e1]
    unfold turnG
    dsimp only
    rcases h2 with ⟨ρ2, S2, e2, hs, p⟩ | ⟨ρ2, S2, e2, p⟩ | ⟨d2, S2, e2, p⟩ | ⟨c, fs, ρ2, S2, e2, p⟩
    · rcases e2 with e2 | e2
      · rw [e2]
        unfold turnR
        dsimp only
        rw [if_pos hs]
        exact loop_out P R turn fin r ρ2 S2 p
      · rw [e2]
        unfold turnR
        dsimp only
        rw [if_pos hs]
        exact loop_out P R turn fin r ρ2 S2 p
    · rw [e2]; exact p
    · rw [e2]; exact p
    · rw [e2]; exact p
/-- a comprehension's turns -/
theorem cLoop_ok {still : Sto → Prop} {g : DG} {t : DT} {e : DE} {ρ : Env} (P : List D → List D → Sto → Prop)
    (turn : ∀ d r acc S, P (d :: r) acc S → ∃ ρ1, g d ρ S = some ρ1 ∧ ((∃ S1 x S2, t ρ1 S = .ok true S1 ∧ e ρ1 S1 = .ok x S2 ∧ still S2 ∧ P r (acc ++ [x]) S2) ∨ ∃ S1, t ρ1 S = .ok false S1 ∧ still S1 ∧ P r acc S1)) :
    ∀ (items acc : List D) (S : Sto), P items acc S → ∃ xs S', cLoop still g t e ρ items S = .ok xs S' ∧ P [] (acc ++ xs) S'
  | [], acc, S, h => ⟨[], S, rfl, by rw [List.append_nil]; exact h⟩
  | d :: r, acc, S, h => by
    obtain ⟨ρ1, e1, h2⟩ := turn d r acc S h
    unfold cLoop
    rw [e1]
    rcases h2 with ⟨S1, x, S2, h3, h4, hs, p⟩ | ⟨S1, h3, hs, p⟩
    · obtain ⟨xs, S', e5, p5⟩ := cLoop_ok P turn r (acc ++ [x]) S2 p
      refine ⟨x :: xs, S', ?_, by rw [List.append_assoc] at p5; exact p5⟩
      show cTest still e _ ρ1 (t ρ1 S) = _
      rw [h3]
      show cElt still _ (e ρ1 S1) = _
      rw [h4]
      show cHead x (cSkip still _ S2) = _
      unfold cSkip
      rw [if_pos hs, e5]
      rfl
    · obtain ⟨xs, S', e5, p5⟩ := cLoop_ok P turn r acc S1 p
      refine ⟨xs, S', ?_, p5⟩
      show cTest still e _ ρ1 (t ρ1 S) = _
      rw [h3]
      show cSkip still _ S1 = _
      unfold cSkip
      rw [if_pos hs]
      exact e5
/-- a while by a measure -/
theorem while_nx {t : DT} {body : DS} (P : Env → Sto → Prop) (μ : Env → Sto → Nat)
    (turn : ∀ ρ S, P ρ S → (∃ S1, t ρ S = .ok false S1 ∧ True) ∨ ∃ S1 ρ2 S2, t ρ S = .ok true S1 ∧ (body ρ S1 = .nx ρ2 S2 ∨ body ρ S1 = .ct ρ2 S2) ∧ μ ρ2 S2 < μ ρ S ∧ P ρ2 S2) :
    ∀ (n : Nat) (ρ : Env) (S : Sto), μ ρ S < n → P ρ S → ∃ ρ0 S0 S', dWhile n t body ρ S = .nx ρ0 S' ∧ P ρ0 S0 ∧ t ρ0 S0 = .ok false S'
  | 0, ρ, S, h, _ => absurd h (Nat.not_lt_zero _)
  | n + 1, ρ, S, h, p => by
    rcases turn ρ S p with ⟨S1, e, _⟩ | ⟨S1, ρ2, S2, e, e2, hm, p2⟩
    · refine ⟨ρ, S, S1, ?_, p, e⟩
      unfold dWhile
      rw [e]
      rfl
    · obtain ⟨ρ0, S0, S', e3, p3, e4⟩ := while_nx P μ turn n ρ2 S2 (by omega) p2
      refine ⟨ρ0, S0, S', ?_, p3, e4⟩
      unfold dWhile
      rw [e]
      show whR _ (body ρ S1) = _
      rcases e2 with e2 | e2
      · rw [e2]; exact e3
      · rw [e2]; exact e3
/-- a turn of a comprehension -/
def cTurn (still : Sto → Prop) (e : DE) (ρ1 : Env) (N : List D → Sto → Prop) (acc : List D) : Res Bool → Prop
  | .ok true S1 => ∃ x S2, e ρ1 S1 = .ok x S2 ∧ still S2 ∧ N (acc ++ [x]) S2
  | .ok false S1 => still S1 ∧ N acc S1
  | _ => False
theorem cTurn1 {still : Sto → Prop} {e : DE} {ρ1 : Env} {N : List D → Sto → Prop} {acc : List D} {S1 : Sto} : cTurn still e ρ1 N acc (.ok true S1) = (∃ x S2, e ρ1 S1 = .ok x S2 ∧ still S2 ∧ N (acc ++ [x]) S2) := rfl
theorem cTurn2 {still : Sto → Prop} {e : DE} {ρ1 : Env} {N : List D → Sto → Prop} {acc : List D} {S1 : Sto} : cTurn still e ρ1 N acc (.ok false S1) = (still S1 ∧ N acc S1) := rfl
theorem cLoop_use {still : Sto → Prop} {g : DG} {t : DT} {e : DE} {ρ : Env} {items : List D} {S : Sto} {r : Res (List D)} (h : cLoop still g t e ρ items S = r) (P : List D → List D → Sto → Prop) (h0 : P items [] S)
    (turn : ∀ d r acc S, P (d :: r) acc S → ∃ ρ1, g d ρ S = some ρ1 ∧ cTurn still e ρ1 (P r) acc (t ρ1 S)) :
    ∃ xs S', r = .ok xs S' ∧ P [] xs S' := by
  obtain ⟨xs, S', e1, p⟩ := cLoop_ok (still := still) (g := g) (t := t) (e := e) (ρ := ρ) P (fun d r acc S hp => by
    obtain ⟨ρ1, e1, h1⟩ := turn d r acc S hp
    refine ⟨ρ1, e1, ?_⟩
    generalize e2 : t ρ1 S = y at h1
    cases y with
    | ok b S1 =>
      cases b with
      | true =>
        obtain ⟨x, S2, e3, h3, h4⟩ := h1
        exact .inl ⟨S1, x, S2, rfl, e3, h3, h4⟩
      | false => exact .inr ⟨S1, rfl, h1.1, h1.2⟩
    | exc c fs S => exact h1.elim
    | bad => exact h1.elim) items [] S h0
  exact ⟨xs, S', h.symm.trans e1, p⟩
/-- a turn of a loop -/
def bTurn (still : Sto → Prop) (N : Env → Sto → Prop) (R : RS → Prop) : RS → Prop
  | .nx ρ2 S2 => still S2 ∧ N ρ2 S2
  | .ct ρ2 S2 => still S2 ∧ N ρ2 S2
  | .bk ρ2 S2 => R (.nx ρ2 S2)
  | .rt d S2 => R (.rt d S2)
  | .exc c fs ρ2 S2 => R (.exc c fs ρ2 S2)
  | .bad => False
section
variable {still : Sto → Prop} {N : Env → Sto → Prop} {R : RS → Prop} {ρ2 : Env} {S2 : Sto}
theorem bTurn1 : bTurn still N R (.nx ρ2 S2) = (still S2 ∧ N ρ2 S2) := rfl
theorem bTurn2 : bTurn still N R (.ct ρ2 S2) = (still S2 ∧ N ρ2 S2) := rfl
theorem bTurn3 : bTurn still N R (.bk ρ2 S2) = R (.nx ρ2 S2) := rfl
theorem bTurn4 {d : D} : bTurn still N R (.rt d S2) = R (.rt d S2) := rfl
theorem bTurn5 {c : Str} {fs : List (Str × D)} : bTurn still N R (.exc c fs ρ2 S2) = R (.exc c fs ρ2 S2) := rfl
end
theorem loop_use2 {still : Sto → Prop} {g : DG} {body : DS} {items : List D} {ρ : Env} {S : Sto} {r : RS} (h : dLoop still g body items ρ S = r) (P : List D → Env → Sto → Prop) (R : RS → Prop) (h0 : P items ρ S)
    (turn : ∀ d r ρ S, P (d :: r) ρ S → ∃ ρ1, g d ρ S = some ρ1 ∧ bTurn still (P r) R (body ρ1 S))
    (fin : ∀ ρ S, P [] ρ S → R (.nx ρ S)) : R r := by
  rw [← h]
  refine loop_out P R (fun d r ρ S hp => ?_) fin items ρ S h0
  obtain ⟨ρ1, e1, h1⟩ := turn d r ρ S hp
  refine ⟨ρ1, e1, ?_⟩
  generalize body ρ1 S = y at h1
  cases y with
  | nx ρ2 S2 => exact .inl ⟨ρ2, S2, .inl rfl, h1.1, h1.2⟩
  | ct ρ2 S2 => exact .inl ⟨ρ2, S2, .inr rfl, h1.1, h1.2⟩
  | bk ρ2 S2 => exact .inr (.inl ⟨ρ2, S2, rfl, h1⟩)
  | rt d S2 => exact .inr (.inr (.inl ⟨d, S2, rfl, h1⟩))
  | exc c fs ρ2 S2 => exact .inr (.inr (.inr ⟨c, fs, ρ2, S2, rfl, h1⟩))
  | bad => exact h1.elim
theorem loop_use {still : Sto → Prop} {g : DG} {body : DS} {items : List D} {ρ : Env} {S : Sto} {r : RS} (h : dLoop still g body items ρ S = r) (P : List D → Env → Sto → Prop) (h0 : P items ρ S)
    (turn : ∀ d r ρ S, P (d :: r) ρ S → ∃ ρ1, g d ρ S = some ρ1 ∧ bTurn still (P r) (fun q => ∃ ρ' S', q = .nx ρ' S' ∧ P [] ρ' S') (body ρ1 S)) :
    ∃ ρ' S', r = .nx ρ' S' ∧ P [] ρ' S' :=
  loop_use2 h P (fun q => ∃ ρ' S', q = .nx ρ' S' ∧ P [] ρ' S') h0 turn fun ρ S hp => ⟨ρ, S, rfl, hp⟩
theorem at_in {α : Type} {xs : List α} {i : Int} (h0 : 0 ≤ i) (h1 : i < xs.length) : ∃ d, atI xs i = some d ∧ d ∈ xs := by
  obtain ⟨j, rfl⟩ := Int.eq_ofNat_of_zero_le h0
  have hj : j < xs.length := by omega
  exact ⟨xs[j], atI_nat (List.getElem?_eq_getElem hj), List.getElem_mem hj⟩
theorem rng_ints {lo : Int} {n : Nat} {d : D} (h : d ∈ rng lo n) : ∃ i, d = .int i := by
  unfold rng at h
  obtain ⟨i, _, e⟩ := List.mem_map.mp h
  exact ⟨_, e.symm⟩
theorem rng_len {lo : Int} {n : Nat} : (rng lo n).length = n := by unfold rng; rw [List.length_map, List.length_range]
/-- what a range still holds -/
def rngF (lo : Int) : Nat → List D
  | 0 => []
  | n + 1 => .int lo :: rngF (lo + 1) n
theorem rng_eq (n : Nat) : ∀ lo : Int, rng lo n = rngF lo n := by
  induction n with
  | zero => intro lo; rfl
  | succ n ih =>
    intro lo
    unfold rngF
    rw [← ih (lo + 1)]
    unfold rng
    rw [List.range_succ_eq_map, List.map_cons, List.map_map]
    congr 1
    · show D.int (lo + ((0 : Nat) : Int)) = _
      simp
    · refine List.map_congr_left fun i _ => ?_
      show D.int (lo + ((i + 1 : Nat) : Int)) = D.int (lo + 1 + (i : Int))
      congr 1
      omega
/-! ### loops by place -/
theorem drop_step {α : Type} {xs : List α} {i : Nat} {d : α} {r : List α} (h : d :: r = xs.drop i) : xs[i]? = some d ∧ r = xs.drop (i + 1) := by
  have e : (xs.drop i)[0]? = some d := by rw [← h]; rfl
  rw [List.getElem?_drop] at e
  refine ⟨e, ?_⟩
  have e2 : (xs.drop i).drop 1 = r := by rw [← h]; rfl
  rw [List.drop_drop] at e2
  exact e2.symm
theorem drop_end {α : Type} {xs : List α} {i : Nat} (h : [] = xs.drop i) (hi : i ≤ xs.length) : i = xs.length := by
  have e := congrArg List.length h
  rw [List.length_drop, List.length_nil] at e
  omega
theorem loop_idx {still : Sto → Prop} {g : DG} {body : DS} {items : List D} {ρ : Env} {S : Sto} {r : RS} (h : dLoop still g body items ρ S = r) (P : Nat → Env → Sto → Prop) (R : RS → Prop) (h0 : P 0 ρ S)
    (turn : ∀ i d ρ S, items[i]? = some d → P i ρ S → ∃ ρ1, g d ρ S = some ρ1 ∧ bTurn still (P (i + 1)) R (body ρ1 S))
    (fin : ∀ ρ S, P items.length ρ S → R (.nx ρ S)) : R r := by
  refine loop_use2 h (fun xs ρ S => ∃ i, xs = items.drop i ∧ i ≤ items.length ∧ P i ρ S) R ⟨0, rfl, Nat.zero_le _, h0⟩ ?_ ?_
  · rintro d r ρ S ⟨i, e, hi, hp⟩
    obtain ⟨e1, e2⟩ := drop_step e
    obtain ⟨ρ1, e3, h2⟩ := turn i d ρ S e1 hp
    refine ⟨ρ1, e3, ?_⟩
    have hi2 := lt_of_get e1
    generalize body ρ1 S = y at h2
    cases y with
    | nx ρ2 S2 => exact ⟨h2.1, i + 1, e2, hi2, h2.2⟩
    | ct ρ2 S2 => exact ⟨h2.1, i + 1, e2, hi2, h2.2⟩
    | bk ρ2 S2 => exact h2
    | rt d S2 => exact h2
    | exc c fs ρ2 S2 => exact h2
    | bad => exact h2
  · rintro ρ S ⟨i, e, hi, hp⟩
    have := drop_end e hi
    subst this
    exact fin ρ S hp
theorem loop_idx_nx {still : Sto → Prop} {g : DG} {body : DS} {items : List D} {ρ : Env} {S : Sto} {r : RS} (h : dLoop still g body items ρ S = r) (P : Nat → Env → Sto → Prop) (h0 : P 0 ρ S)
    (turn : ∀ i d ρ S, items[i]? = some d → P i ρ S → ∃ ρ1, g d ρ S = some ρ1 ∧ bTurn still (P (i + 1)) (fun q => ∃ ρ' S', q = .nx ρ' S' ∧ P items.length ρ' S') (body ρ1 S)) :
    ∃ ρ' S', r = .nx ρ' S' ∧ P items.length ρ' S' :=
  loop_idx h P (fun q => ∃ ρ' S', q = .nx ρ' S' ∧ P items.length ρ' S') h0 turn fun ρ S hp => ⟨ρ, S, rfl, hp⟩
theorem cLoop_idx {still : Sto → Prop} {g : DG} {t : DT} {e : DE} {ρ : Env} {items : List D} {S : Sto} {r : Res (List D)} (h : cLoop still g t e ρ items S = r) (P : Nat → List D → Sto → Prop) (h0 : P 0 [] S)
    (turn : ∀ i d acc S, items[i]? = some d → P i acc S → ∃ ρ1, g d ρ S = some ρ1 ∧ cTurn still e ρ1 (P (i + 1)) acc (t ρ1 S)) :
    ∃ xs S', r = .ok xs S' ∧ P items.length xs S' := by
  obtain ⟨xs, S', e1, i, e2, hi, hp⟩ := cLoop_use h (fun xs acc S => ∃ i, xs = items.drop i ∧ i ≤ items.length ∧ P i acc S) ⟨0, rfl, Nat.zero_le _, h0⟩ (by
    rintro d r acc S ⟨i, e, hi, hp⟩
    obtain ⟨e1, e2⟩ := drop_step e
    obtain ⟨ρ1, e3, h2⟩ := turn i d acc S e1 hp
    refine ⟨ρ1, e3, ?_⟩
    have hi2 := lt_of_get e1
    generalize t ρ1 S = y at h2
    cases y with
    | ok b S1 =>
      cases b with
      | true =>
        obtain ⟨x, S2, e4, h4, h5⟩ := h2
        exact ⟨x, S2, e4, h4, i + 1, e2, hi2, h5⟩
      | false => exact ⟨h2.1, i + 1, e2, hi2, h2.2⟩
    | exc c fs S => exact h2.elim
    | bad => exact h2.elim)
  have := drop_end e2 hi
  subst this
  exact ⟨xs, S', e1, hp⟩
/-- a statement that goes on or ends the whole -/
def oR (P : Env → Sto → Prop) (G : RS → Prop) : RS → Prop
  | .nx ρ S => P ρ S
  | .rt d S => G (.rt d S)
  | .bk ρ S => G (.bk ρ S)
  | .ct ρ S => G (.ct ρ S)
  | .exc c fs ρ S => G (.exc c fs ρ S)
  | .bad => False
section
variable {P : Env → Sto → Prop} {G : RS → Prop} {ρ : Env} {S : Sto}
theorem oR1 : oR P G (.nx ρ S) = P ρ S := rfl
theorem oR2 {d : D} : oR P G (.rt d S) = G (.rt d S) := rfl
theorem oR3 : oR P G (.bk ρ S) = G (.bk ρ S) := rfl
theorem oR4 : oR P G (.ct ρ S) = G (.ct ρ S) := rfl
theorem oR5 {c : Str} {fs : List (Str × D)} : oR P G (.exc c fs ρ S) = G (.exc c fs ρ S) := rfl
end
theorem seqR_or {r : RS} {t : DS} (G : RS → Prop) (P : Env → Sto → Prop) (h1 : oR P G r) (h2 : ∀ ρ' S', P ρ' S' → G (t ρ' S')) : G (seqR t r) := by
  cases r with
  | nx ρ S => exact h2 _ _ h1
  | rt d S => exact h1
  | bk ρ S => exact h1
  | ct ρ S => exact h1
  | exc c fs ρ S => exact h1
  | bad => exact h1.elim
theorem seq_or {s t : DS} {ρ : Env} {S : Sto} (G : RS → Prop) (P : Env → Sto → Prop) (h1 : oR P G (s ρ S)) (h2 : ∀ ρ' S', P ρ' S' → G (t ρ' S')) : G (dSeq s t ρ S) := seqR_or G P h1 h2
theorem hkOf_hk {S : Sto} {n : Nat} {kvs : List (Key × D)} (h : S[n]? = some (.hk kvs)) : hkOf S n = some kvs := by unfold hkOf; rw [h]
theorem forK_eq {de : DE} {g : DG} {body : DS} {ρ : Env} {S S1 : Sto} {n : Nat} {kvs : List (Key × D)} (h1 : de ρ S = .ok (.obj n) S1) (h2 : S[n]? = some (.dk kvs)) (h3 : de ρ (S.set n (.hk kvs)) = .ok (.obj n) (S.set n (.hk kvs))) :
    dForK de g body ρ S = unholdR n kvs (dLoop (fun S => hkOf S n = some kvs) g body (kvs.map fun p => keyD p.1) ρ (S.set n (.hk kvs))) := by
  unfold dForK
  rw [h1]
  show forKO de g body ρ S n S[n]? = _
  rw [h2]
  show unholdR n kvs (forR g body ρ (wK de ρ (S.set n (.hk kvs)))) = _
  unfold wK
  rw [h3]
  show unholdR n kvs (forR g body ρ (toWalkK (.obj n) (S.set n (.hk kvs)))) = _
  unfold toWalkK
  dsimp only
  rw [hkOf_hk (List.getElem?_set_self (lt_of_get h2))]
  rfl


def topS (i : Nat) : Stmt := PySem.Challenge.pw_odds_k16_parts_of_statements.main.body.getD i (.Pass ⟨0, 0, 0, 0⟩)
abbrev s_expressions_of : Stmt := topS 4
theorem sc_expressions_of : FnScope ["statement", "tag", "place", "pair", "tree"] ["statement"] (defScope s_expressions_of) := ⟨rfl, rfl, rfl, by decide +kernel, rfl, by decide +kernel, by decide +kernel⟩
abbrev s_blocks_of : Stmt := topS 5
theorem sc_blocks_of : FnScope ["statement", "place"] ["statement"] (defScope s_blocks_of) := ⟨rfl, rfl, rfl, by decide +kernel, rfl, by decide +kernel, by decide +kernel⟩
abbrev s_has_target : Stmt := topS 6
theorem sc_has_target : FnScope ["statement"] ["statement"] (defScope s_has_target) := ⟨rfl, rfl, rfl, by decide +kernel, rfl, by decide +kernel, by decide +kernel⟩
abbrev s_target_of : Stmt := topS 7
theorem sc_target_of : FnScope ["statement"] ["statement"] (defScope s_target_of) := ⟨rfl, rfl, rfl, by decide +kernel, rfl, by decide +kernel, by decide +kernel⟩
abbrev s_statements_in : Stmt := topS 8
theorem sc_statements_in : FnScope ["block", "statements", "statement", "inner"] ["block"] (defScope s_statements_in) := ⟨rfl, rfl, rfl, by decide +kernel, rfl, by decide +kernel, by decide +kernel⟩
abbrev s_targets_of : Stmt := topS 9
theorem sc_targets_of : FnScope ["block", "each"] ["block"] (defScope s_targets_of) := ⟨rfl, rfl, rfl, by decide +kernel, rfl, by decide +kernel, by decide +kernel⟩
abbrev s_law_same : Stmt := topS 11
theorem sc_law_same : FnScope ["actual", "due", "k"] ["actual", "due"] (defScope s_law_same) := ⟨rfl, rfl, rfl, by decide +kernel, rfl, by decide +kernel, by decide +kernel⟩
abbrev s_law_pool : Stmt := topS 12
theorem sc_law_pool : FnScope ["script", "salt", "cell"] ["script"] (defScope s_law_pool) := ⟨rfl, rfl, rfl, by decide +kernel, rfl, by decide +kernel, by decide +kernel⟩
abbrev s_law_spread : Stmt := topS 13
theorem sc_law_spread : FnScope ["cell", "mixed", "total", "k"] ["cell"] (defScope s_law_spread) := ⟨rfl, rfl, rfl, by decide +kernel, rfl, by decide +kernel, by decide +kernel⟩
abbrev s_law_draw : Stmt := topS 14
theorem sc_law_draw : FnScope ["pool", "many", "cell", "mixed", "value"] ["pool", "many"] (defScope s_law_draw) := ⟨rfl, rfl, rfl, by decide +kernel, rfl, by decide +kernel, by decide +kernel⟩
abbrev s_law_name : Stmt := topS 15
theorem sc_law_name : FnScope ["pool", "taken", "chars", "k", "name", "cut"] ["pool", "taken"] (defScope s_law_name) := ⟨rfl, rfl, rfl, by decide +kernel, rfl, by decide +kernel, by decide +kernel⟩
abbrev s_law_names : Stmt := topS 16
theorem sc_law_names : FnScope ["pool", "taken", "names", "k", "kind"] ["pool"] (defScope s_law_names) := ⟨rfl, rfl, rfl, by decide +kernel, rfl, by decide +kernel, by decide +kernel⟩
abbrev s_law_leaf : Stmt := topS 17
theorem sc_law_leaf : FnScope ["pool", "kind", "names", "fit", "size", "row"] ["pool", "kind", "names"] (defScope s_law_leaf) := ⟨rfl, rfl, rfl, by decide +kernel, rfl, by decide +kernel, by decide +kernel⟩
abbrev s_law_expr : Stmt := topS 18
theorem sc_law_expr : FnScope ["pool", "kind", "names", "depth", "turn", "low", "test", "first", "row", "rows", "place", "tag", "inner"] ["pool", "kind", "names", "depth"] (defScope s_law_expr) := ⟨rfl, rfl, rfl, by decide +kernel, rfl, by decide +kernel, by decide +kernel⟩
abbrev s_law_amounts : Stmt := topS 19
theorem sc_law_amounts : FnScope ["pool", "names", "bottom", "first"] ["pool", "names"] (defScope s_law_amounts) := ⟨rfl, rfl, rfl, by decide +kernel, rfl, by decide +kernel, by decide +kernel⟩
abbrev s_law_drawing : Stmt := topS 20
theorem sc_law_drawing : FnScope ["pool", "names", "row", "pair", "low", "pairs", "k", "value", "weight"] ["pool", "names", "row"] (defScope s_law_drawing) := ⟨rfl, rfl, rfl, by decide +kernel, rfl, by decide +kernel, by decide +kernel⟩
abbrev s_law_calling : Stmt := topS 21
theorem sc_law_calling : FnScope ["pool", "names", "procs", "targets", "proc", "fit", "arguments", "kind", "row"] ["pool", "names", "procs", "targets"] (defScope s_law_calling) := ⟨rfl, rfl, rfl, by decide +kernel, rfl, by decide +kernel, by decide +kernel⟩
abbrev s_law_simple : Stmt := topS 22
theorem sc_law_simple : FnScope ["pool", "names", "targets", "turn", "row", "one", "rows", "pair", "place"] ["pool", "names", "targets", "turn"] (defScope s_law_simple) := ⟨rfl, rfl, rfl, by decide +kernel, rfl, by decide +kernel, by decide +kernel⟩
abbrev s_law_block : Stmt := topS 23
theorem sc_law_block : FnScope ["pool", "names", "procs", "depth", "most", "targets", "block", "k", "turn", "inner", "test", "ints", "low", "name", "row"] ["pool", "names", "procs", "depth", "most"] (defScope s_law_block) := ⟨rfl, rfl, rfl, by decide +kernel, rfl, by decide +kernel, by decide +kernel⟩
abbrev s_law_inner : Stmt := topS 24
theorem sc_law_inner : FnScope ["row"] ["row"] (defScope s_law_inner) := ⟨rfl, rfl, rfl, by decide +kernel, rfl, by decide +kernel, by decide +kernel⟩
abbrev s_law_trees : Stmt := topS 25
theorem sc_law_trees : FnScope ["row", "tag", "trees", "pair", "one"] ["row"] (defScope s_law_trees) := ⟨rfl, rfl, rfl, by decide +kernel, rfl, by decide +kernel, by decide +kernel⟩
abbrev s_law_targets : Stmt := topS 26
theorem sc_law_targets : FnScope ["block", "names", "row", "inner", "own", "name"] ["block", "names"] (defScope s_law_targets) := ⟨rfl, rfl, rfl, by decide +kernel, rfl, by decide +kernel, by decide +kernel⟩
abbrev s_law : Stmt := topS 27
theorem sc_law : FnScope ["script", "pool", "names", "procs", "block", "own"] ["script"] (defScope s_law) := ⟨rfl, rfl, rfl, by decide +kernel, rfl, by decide +kernel, by decide +kernel⟩
/-- a def of the text as it stands behind the top -/
structure DefT (K : PySem.W.Frag) (mg : Str → Option Value) (x : Str) (st : Stmt) (ps : List Str) (f : Addr) (fd : FuncData) : Prop where
  F : Fun K x x st f fd
  g : mg x = some (.ref f)
  b : Binds K fd ps []
/-- a method of the text -/
structure MetT (K : PySem.W.Frag) (C : Addr) (m q : Str) (st : Stmt) (ps : List Str) (f : Addr) (fd : FuncData) : Prop where
  F : Fun K m q st f fd
  m : Meth K C m f
  b : Binds K fd ps []
/-- an error class of the text -/
structure ErrT (K : PySem.W.Frag) (mg : Str → Option Value) (x : Str) (C : Addr) : Prop where
  g : mg x = some (.ref C)
  ex : PySem.W.excIn K C [.type "ValueError", .type "Exception", .type "BaseException", .type "object"] "ValueError.__new__" = true
  k : PySem.W.keepIn K (.ref C) = true
  b : PySem.W.subIn K (.ref C) (.type "BaseException") = some true
  t : PySem.W.typeIn K (.ref C) = some (.type "type")
  s : PySem.W.subIn K (.ref C) (.ref C) = some true
  e : ExcC K C
structure At where
  a_expressions_of : Addr
  d_expressions_of : FuncData
  a_blocks_of : Addr
  d_blocks_of : FuncData
  a_has_target : Addr
  d_has_target : FuncData
  a_target_of : Addr
  d_target_of : FuncData
  a_statements_in : Addr
  d_statements_in : FuncData
  a_targets_of : Addr
  d_targets_of : FuncData
  a_law_same : Addr
  d_law_same : FuncData
  a_law_pool : Addr
  d_law_pool : FuncData
  a_law_spread : Addr
  d_law_spread : FuncData
  a_law_draw : Addr
  d_law_draw : FuncData
  a_law_name : Addr
  d_law_name : FuncData
  a_law_names : Addr
  d_law_names : FuncData
  a_law_leaf : Addr
  d_law_leaf : FuncData
  a_law_expr : Addr
  d_law_expr : FuncData
  a_law_amounts : Addr
  d_law_amounts : FuncData
  a_law_drawing : Addr
  d_law_drawing : FuncData
  a_law_calling : Addr
  d_law_calling : FuncData
  a_law_simple : Addr
  d_law_simple : FuncData
  a_law_block : Addr
  d_law_block : FuncData
  a_law_inner : Addr
  d_law_inner : FuncData
  a_law_trees : Addr
  d_law_trees : FuncData
  a_law_targets : Addr
  d_law_targets : FuncData
  a_law : Addr
  d_law : FuncData
structure Txt (K : PySem.W.Frag) (mg : Str → Option Value) (A : At) : Prop where
  t_expressions_of : DefT K mg "expressions_of" s_expressions_of ["statement"] A.a_expressions_of A.d_expressions_of
  t_blocks_of : DefT K mg "blocks_of" s_blocks_of ["statement"] A.a_blocks_of A.d_blocks_of
  t_has_target : DefT K mg "has_target" s_has_target ["statement"] A.a_has_target A.d_has_target
  t_target_of : DefT K mg "target_of" s_target_of ["statement"] A.a_target_of A.d_target_of
  t_statements_in : DefT K mg "statements_in" s_statements_in ["block"] A.a_statements_in A.d_statements_in
  t_targets_of : DefT K mg "targets_of" s_targets_of ["block"] A.a_targets_of A.d_targets_of
  t_law_same : DefT K mg "_law_same" s_law_same ["actual", "due"] A.a_law_same A.d_law_same
  t_law_pool : DefT K mg "_law_pool" s_law_pool ["script"] A.a_law_pool A.d_law_pool
  t_law_spread : DefT K mg "_law_spread" s_law_spread ["cell"] A.a_law_spread A.d_law_spread
  t_law_draw : DefT K mg "_law_draw" s_law_draw ["pool", "many"] A.a_law_draw A.d_law_draw
  t_law_name : DefT K mg "_law_name" s_law_name ["pool", "taken"] A.a_law_name A.d_law_name
  t_law_names : DefT K mg "_law_names" s_law_names ["pool"] A.a_law_names A.d_law_names
  t_law_leaf : DefT K mg "_law_leaf" s_law_leaf ["pool", "kind", "names"] A.a_law_leaf A.d_law_leaf
  t_law_expr : DefT K mg "_law_expr" s_law_expr ["pool", "kind", "names", "depth"] A.a_law_expr A.d_law_expr
  t_law_amounts : DefT K mg "_law_amounts" s_law_amounts ["pool", "names"] A.a_law_amounts A.d_law_amounts
  t_law_drawing : DefT K mg "_law_drawing" s_law_drawing ["pool", "names", "row"] A.a_law_drawing A.d_law_drawing
  t_law_calling : DefT K mg "_law_calling" s_law_calling ["pool", "names", "procs", "targets"] A.a_law_calling A.d_law_calling
  t_law_simple : DefT K mg "_law_simple" s_law_simple ["pool", "names", "targets", "turn"] A.a_law_simple A.d_law_simple
  t_law_block : DefT K mg "_law_block" s_law_block ["pool", "names", "procs", "depth", "most"] A.a_law_block A.d_law_block
  t_law_inner : DefT K mg "_law_inner" s_law_inner ["row"] A.a_law_inner A.d_law_inner
  t_law_trees : DefT K mg "_law_trees" s_law_trees ["row"] A.a_law_trees A.d_law_trees
  t_law_targets : DefT K mg "_law_targets" s_law_targets ["block", "names"] A.a_law_targets A.d_law_targets
  t_law : DefT K mg "law" s_law ["script"] A.a_law A.d_law
  z_list : mg "list" = none
  z_sorted : mg "sorted" = none
  z_isinstance : mg "isinstance" = none
  z_tuple : mg "tuple" = none
  z_len : mg "len" = none
  z_range : mg "range" = none
  z_bool : mg "bool" = none
  z_int : mg "int" = none
  z_str : mg "str" = none
  z_min : mg "min" = none
def kd_EXPRESSION_PLACES : List (Str × D) := [(Str.ofString "set", .tup [.int 2]), (Str.ofString "store", .tup [.int 2, .int 3]), (Str.ofString "flip", .tup [.int 2, .int 3]), (Str.ofString "uniform", .tup [.int 2, .int 3]), (Str.ofString "observe", .tup [.int 1]), (Str.ofString "weigh", .tup [.int 1, .int 2]), (Str.ofString "assert", .tup [.int 1]), (Str.ofString "if", .tup [.int 1]), (Str.ofString "while", .tup [.int 1])]
def kd_BLOCK_PLACES : List (Str × D) := [(Str.ofString "if", .tup [.int 2, .int 3]), (Str.ofString "repeat", .tup [.int 2]), (Str.ofString "while", .tup [.int 3]), (Str.ofString "for", .tup [.int 4])]
def kd_TARGET_PLACES : List (Str × D) := [(Str.ofString "set", .int 1), (Str.ofString "store", .int 1), (Str.ofString "flip", .int 1), (Str.ofString "uniform", .int 1), (Str.ofString "pick", .int 1), (Str.ofString "for", .int 1), (Str.ofString "call", .int 3)]
structure Dic (K : PySem.W.Frag) (mg : Str → Option Value) (pr : Params) : Prop where
  d_EXPRESSION_PLACES : ∃ z, mg "EXPRESSION_PLACES" = some (.ref z) ∧ DictF K mg pr z kd_EXPRESSION_PLACES
  d_BLOCK_PLACES : ∃ z, mg "BLOCK_PLACES" = some (.ref z) ∧ DictF K mg pr z kd_BLOCK_PLACES
  d_TARGET_PLACES : ∃ z, mg "TARGET_PLACES" = some (.ref z) ∧ DictF K mg pr z kd_TARGET_PLACES

local macro_rules | `(tactic| walk_at "env") => `(tactic| simp only [run0, run1, run2, run3, run4, run5, List.cons_append, List.nil_append, List.replicate, Nat.reduceSub, Nat.reduceAdd])
local macro_rules | `(tactic| walk_at "ev") => `(tactic| simp +decide only [dAugD, augK, augG, augV, dSeq, dNext, dBind, setK, exprK, retK, dSet, dExpr, dRet, dRetN, dIfS, dBreak, dCont, dAsg, asgK, dPutL, putK1, putK2, dAug, eV, eC, eOp, eOp1, eCall, eCons, eCons1, eCons2, eNil, eTup, eLst, eT, eAnd, eOr, eNot, eNot1, eAndV, eOrV, eNotV, eIf, eUn, eChain, eChain1, eChain2, eSl, eSl1, eSl2, eNo, eSo, eMeth, eMeth1, eM1, dFor, wL, wT, wQ, wR1, wR2, wS, wE, wZ, eStar, starK, tgN, tgCons1, dTry, dRaise, dNe, dComp, eDNew, eDGet, eDIn, eDGet1, eDGet1b, eDGet2, eDGet2b, eDGet2c, dPutD, putQ1, putQ2, eKD, eKDIn, eKGet2, eCallV, eTru, evP1, evP2, evP3, eDisp, dispK, dTryAs, dRetB, eDNewT, eTk, dPutT, putT1, putT2, eUnTk, dUnTk, eFld, dSetF, setF1, eMet, eMet1, metK, eMake, eMake1, dAugF, augF2, dPar2, dPar3, dSetC, dSetCT, dComp2, cInn, eNGet2, eNGet2b, eNGet2c, dPutN, putN1, putN2, eDNewN, eValsN, eChainQ, eQ1, eQ2, eQ4, oR1, oR2, oR3, oR4, oR5, cTurn1, cTurn2, bTurn1, bTurn2, bTurn3, bTurn4, bTurn5, Ev.seq1, Ev.seq2, Ev.seq3, Ev.seq4, Ev.seq5, Ev.bnd1, Ev.bnd2, Ev.if1, Ev.if2, Ev.if3, Ev.asg1, Ev.putK31, Ev.putO1, Ev.putJ1, Ev.aug1, Ev.slot1, Ev.and1, Ev.and2, Ev.or1, Ev.or2, Ev.andV1, Ev.andV2, Ev.orV1, Ev.orV2, Ev.notV1, Ev.ifx1, Ev.ifx2, Ev.ch1, Ev.ch2, Ev.toB1, Ev.rb1, Ev.rb2, Ev.end1, Ev.end2, Ev.end3, Ev.add1, Ev.add2, Ev.add3, Ev.sub1, Ev.mul1, Ev.sum1, Ev.minl1, Ev.maxl1, Ev.numR1a, Ev.numR1b, Ev.intsOf1, Ev.intsOf2, Ev.pow1, Ev.dkOf1, Ev.dkOO1, Ev.look1, Ev.look2, Ev.mapSome2, Ev.dget1, Ev.getR1, Ev.ddin1, Ev.hasR1, Ev.hasR2, Ev.asd1, Ev.dtOf1, Ev.dtOO1, Ev.dtOO2, Ev.dkOO2, Ev.look3, Ev.mapSome3, Ev.keyL0, Ev.keyL1, Ev.keyL2, Ev.keyC1, Ev.mkTk1, Ev.tkR1, Ev.putT31, Ev.putTK1, Ev.unTk1, Ev.unTk2, Ev.ofKey1, Ev.ofKey2, Ev.fld1, Ev.fldO1, Ev.fldR1, Ev.fldL1, Ev.setF21, Ev.setFO1, Ev.isMet1, Ev.metO1, Ev.shl1, Ev.shr1, Ev.andI1, Ev.orI1, Ev.add21, Ev.augF11, Ev.augFO1, Ev.augFL1, Ev.mulL1, Ev.mulLR1, Ev.rev1, Ev.revO1, Ev.lrg1, Ev.parR1, Ev.par2K1, Ev.par3K1, Ev.mkEnd1, Ev.isS1, Ev.isS2, Ev.isS3, Ev.dg1, Ev.dg1a, Ev.dg1b, Ev.dg2, Ev.dg2a, Ev.dg2b, Ev.putQ1, Ev.putQi, Ev.putR1, Ev.kd1, Ev.kdR1, Ev.kdi1, Ev.kdi2, Ev.kg1, Ev.kg2, Ev.kg3, Ev.callF1, Ev.callR1, Ev.tru_bl, Ev.tru_int, Ev.tru_tup, Ev.tru_obj, Ev.tru_non, Ev.tru_str, Ev.truO1, Ev.truO2, Ev.dtru1, Ev.truR1, Ev.isE1, Ev.isE2, Ev.eqL1, Ev.sclOf1, Ev.eqLR1, Ev.all1, Ev.any1, Ev.boolsOf1, Ev.boolR1, Ev.sorted1, Ev.sortedDI1, Ev.augI1, Ev.shlB1, Ev.stp1, Ev.stpO1, Ev.sortedDB1, Ev.sortBR1, Ev.sortedDS1, Ev.sortR1, Ev.evPn, Ev.evPc, Ev.dispR1, Ev.keysD0, Ev.keysD1, Ev.keysD2, Ev.keysR1, Ev.tas1, Ev.tas2, Ev.tas3, Ev.tas4, Ev.tas5, Ev.eis1, Ev.retB1, Ev.lkHit, Ev.lkMiss, Ev.gcd1, Ev.bits1, Ev.div1, Ev.mod1, Ev.rel1, Ev.eq1, Ev.eq2, Ev.eq3, Ev.ix1, Ev.ixA1, Ev.ix2, Ev.ixO1, Ev.lstOf1, Ev.lstOO1, Ev.len3, Ev.lenO4, Ev.lenO1, Ev.lenO3, Ev.isi1, Ev.isiR1, Ev.ty_bl, Ev.ty_int, Ev.ty_str, Ev.ty_tup, Ev.ty_non, Ev.ty_obj, Ev.tyO1, Ev.kit_NoneType_bool, Ev.kit_NoneType_int, Ev.kit_NoneType_str, Ev.kit_NoneType_tuple, Ev.kit_NoneType_list, Ev.kit_bool_bool, Ev.kit_bool_int, Ev.kit_bool_str, Ev.kit_bool_tuple, Ev.kit_bool_list, Ev.kit_int_bool, Ev.kit_int_int, Ev.kit_int_str, Ev.kit_int_tuple, Ev.kit_int_list, Ev.kit_str_bool, Ev.kit_str_int, Ev.kit_str_str, Ev.kit_str_tuple, Ev.kit_str_list, Ev.kit_tuple_bool, Ev.kit_tuple_int, Ev.kit_tuple_str, Ev.kit_tuple_tuple, Ev.kit_tuple_list, Ev.kit_list_bool, Ev.kit_list_int, Ev.kit_list_str, Ev.kit_list_tuple, Ev.kit_list_list, Ev.list1, Ev.lstR1, Ev.sq1, Ev.sq3, Ev.sl4, Ev.wk4, Ev.sq2, Ev.tup2, Ev.tupR1, Ev.sl2, Ev.slR1, Ev.app1, Ev.appO1, Ev.tym1, Ev.tymO1, Ev.tymO3, Ev.tym2, Ev.scsS0, Ev.scsS1, Ev.scsS2, Ev.scsS3, Ev.scsS4, Ev.scsS5, Ev.scsS6, Ev.scsS7, Ev.scsS8, Ev.scsS9, Ev.inVS1, Ev.inVS2, Ev.inVS3, Ev.inVS4, Ev.inVS5, Ev.inVS6, Ev.inVS7, Ev.inVS8, Ev.inVS9, Ev.in1, Ev.in2, Ev.inR1, Ev.sc1, Ev.sc2, Ev.wkL, Ev.walkR1, Ev.setSelf, Ev.mapSome, Ev.setNe, Ev.setSet, Ev.appNew, Ev.appOld, Ev.mkLst1, Ev.mkTup1, Ev.ixN5_0, Ev.ixN5_1, Ev.ixN5_2, Ev.ixN5_3, Ev.ixN5_4, Ev.int1, Ev.int2, Ev.len1, Ev.len2, Ev.ix3, Ev.ixS1, Ev.find3a, Ev.starts1, Ev.mulS1, Ev.join1, Ev.joinR1, Ev.neg1, Ev.so1, Ev.sl1, Ev.sl3, Ev.abs1, Ev.max1, Ev.min1, Ev.str1, Ev.ipI1, Ev.for1, Ev.tgc1, Ev.tgn1, Ev.tgt1, Ev.setc1, Ev.send1, Ev.setcT1, Ev.sendT1, Ev.tgl1, Ev.tgl2, Ev.rng1, Ev.rng2, Ev.okr_0, Ev.okr_1, Ev.okr_2, Ev.okr_3, Ev.okr_4, Ev.okr_5, Ev.okr_6, Ev.okr_7, Ev.okr_8, Ev.okr_9, Ev.okr_10, Ev.okr_11, Ev.okr_12, Ev.okr_13, Ev.okr_14, Ev.okr_15, Ev.okr_16, Ev.okr_17, Ev.okr_18, Ev.okr_19, Ev.okr_20, Ev.okr_21, Ev.okr_22, Ev.okr_23, Ev.okr_24, Ev.okr_25, Ev.okr_26, Ev.okr_27, Ev.okr_28, Ev.okr_29, Ev.okr_30, Ev.okr_31, Ev.okr_32, Ev.okr_33, Ev.okr_34, Ev.okr_35, Ev.okr_36, Ev.okr_37, Ev.okr_38, Ev.okr_39, Ev.okr_40, Ev.okr_41, Ev.okr_42, Ev.okr_43, Ev.okr_44, Ev.okr_45, Ev.okr_46, Ev.okr_47, Ev.okr_48, Ev.okr_49, Ev.okr_50, Ev.okr_51, Ev.okr_52, Ev.okr_53, Ev.okr_54, Ev.okr_55, Ev.okr_56, Ev.okr_57, Ev.okr_58, Ev.okr_59, Ev.okr_60, Ev.okr_61, Ev.okr_62, Ev.okr_63, Ev.okr_64, Ev.okr_65, Ev.okr_66, Ev.okr_67, Ev.okr_68, Ev.okr_69, Ev.okr_70, Ev.okr_71, Ev.okr_72, Ev.okr_73, Ev.okr_74, Ev.okr_75, Ev.okr_76, Ev.okr_77, Ev.okr_78, Ev.okr_79, Ev.okr_80, Ev.okr_81, Ev.okr_82, Ev.okr_83, Ev.okr_84, Ev.okr_85, Ev.okr_86, Ev.okr_87, Ev.okr_88, Ev.okr_89, Ev.okr_90, Ev.okr_91, Ev.okr_92, Ev.okr_93, Ev.okr_94, Ev.okr_95, Ev.okr_96, Ev.okr_97, Ev.okr_98, Ev.okr_99, Ev.okr_100, Ev.okr_101, Ev.okr_102, Ev.okr_103, Ev.okr_104, Ev.okr_105, Ev.okr_106, Ev.okr_107, Ev.okr_108, Ev.okr_109, Ev.okr_110, Ev.okr_111, Ev.okr_112, Ev.okr_113, Ev.okr_114, Ev.okr_115, Ev.okr_116, Ev.okr_117, Ev.okr_118, Ev.okr_119, Ev.okr_120, Ev.okr_121, Ev.okr_122, Ev.okr_123, Ev.okr_124, Ev.okr_125, Ev.okr_126, Ev.okr_127, Ev.okr_128, Ev.okr_129, Ev.okr_150, Ev.okr_200, Ev.okr_250, Ev.okr_256, Ev.okr_300, Ev.okr_400, Ev.okr_500, Ev.okr_1000, Ev.okr2, Ev.wkQ1, Ev.wkQ2, Ev.wkT, Ev.enum1, Ev.enum2, Ev.enumR1, Ev.zip1, Ev.zip2, Ev.zipR1, Ev.starS1, Ev.starA1, Ev.ltA1, Ev.leA1, Ev.ltA2, Ev.leA2, Ev.wkS, Ev.wh1, Ev.wh2, Ev.wh3, Ev.wh4, Ev.wt1, Ev.wt2, Ev.tr1, Ev.tr2, Ev.tr3, Ev.tm1, Ev.tm2, Ev.cend1, Ev.ccmp1, Ev.chd1, Ev.cel1, Ev.cts1, Ev.cts2, Ev.ctg1, Ev.m11, Ev.mulr, Ev.mull, Ev.get0, Ev.at0, Ev.get1, Ev.at1, Ev.get2, Ev.at2, Ev.get3, Ev.at3, Ev.get4, Ev.at4, Ev.get5, Ev.at5, Ev.get6, Ev.at6, Ev.get7, Ev.at7, Ev.get8, Ev.at8, Ev.get9, Ev.at9, Ev.get10, Ev.at10, Ev.get11, Ev.at11, Ev.get12, Ev.at12, Ev.get13, Ev.at13, Ev.get14, Ev.at14, Ev.get15, Ev.at15, Ev.get16, Ev.at16, Ev.get17, Ev.at17, Ev.get18, Ev.at18, Ev.get19, Ev.at19, Ev.get20, Ev.at20, Ev.get21, Ev.at21, Ev.get22, Ev.at22, Ev.get23, Ev.at23, Ev.isn1, Ev.isn_bl, Ev.ntn_bl, Ev.isn_int, Ev.ntn_int, Ev.isn_str, Ev.ntn_str, Ev.isn_tup, Ev.ntn_tup, Ev.isn_obj, Ev.ntn_obj, Ev.ntn1, Ev.tup1, Ev.ccmp2, Ev.inc1, Ev.capp1, Ev.cout1, Ev.ct21, Ev.ct22, Ev.ctg21, Ev.q31, Ev.q32, Ev.lrg2, Ev.max4, Ev.min4, Ev.add4, Ev.catR1, Ev.dnOf1, Ev.dnOO1, Ev.lookN1, Ev.lookNK1, Ev.mapSomeN, Ev.nget1, Ev.nin1, Ev.nget2, Ev.isdn1, Ev.putN31, Ev.putNQ1, Ev.srtN, Ev.srtN1, Ev.srtLS, Ev.lenNn1, Ev.lenNn2, Ev.valsN11, Ev.valsN21, Option.map_some, Ev.mulr, Ev.mull, ne_eq, not_false_eq_true, and_self, and_true, true_and, Bool.not_true, Bool.not_false, decide_true, decide_false, List.set, List.map, List.append, List.replicate, List.length_map, List.length_append, List.length_cons, List.length_nil, List.cons_append, List.nil_append, Nat.reduceAdd, Nat.reduceSub, Nat.reduceEqDiff, ↓reduceIte, Option.bind_some, Option.bind_none, wipeE, Option.isSome_some, Option.isSome_none, Bool.or_true, Bool.true_or, Bool.or_false, Bool.false_or, *])
local macro_rules | `(tactic| walk_at "ev0") => `(tactic| simp +decide only [dAugD, augK, augG, augV, dSeq, dNext, dBind, setK, exprK, retK, dSet, dExpr, dRet, dRetN, dIfS, dBreak, dCont, dAsg, asgK, dPutL, putK1, putK2, dAug, eV, eC, eOp, eOp1, eCall, eCons, eCons1, eCons2, eNil, eTup, eLst, eT, eAnd, eOr, eNot, eNot1, eAndV, eOrV, eNotV, eIf, eUn, eChain, eChain1, eChain2, eSl, eSl1, eSl2, eNo, eSo, eMeth, eMeth1, eM1, dFor, wL, wT, wQ, wR1, wR2, wS, wE, wZ, eStar, starK, tgN, tgCons1, dTry, dRaise, dNe, dComp, eDNew, eDGet, eDIn, eDGet1, eDGet1b, eDGet2, eDGet2b, eDGet2c, dPutD, putQ1, putQ2, eKD, eKDIn, eKGet2, eCallV, eTru, evP1, evP2, evP3, eDisp, dispK, dTryAs, dRetB, eDNewT, eTk, dPutT, putT1, putT2, eUnTk, dUnTk, eFld, dSetF, setF1, eMet, eMet1, metK, eMake, eMake1, dAugF, augF2, dPar2, dPar3, dSetC, dSetCT, dComp2, cInn, eNGet2, eNGet2b, eNGet2c, dPutN, putN1, putN2, eDNewN, eValsN, eChainQ, eQ1, eQ2, eQ4, oR1, oR2, oR3, oR4, oR5, cTurn1, cTurn2, bTurn1, bTurn2, bTurn3, bTurn4, bTurn5, Ev.seq1, Ev.seq2, Ev.seq3, Ev.seq4, Ev.seq5, Ev.bnd1, Ev.bnd2, Ev.if1, Ev.if2, Ev.if3, Ev.asg1, Ev.putK31, Ev.putO1, Ev.putJ1, Ev.aug1, Ev.slot1, Ev.and1, Ev.and2, Ev.or1, Ev.or2, Ev.andV1, Ev.andV2, Ev.orV1, Ev.orV2, Ev.notV1, Ev.ifx1, Ev.ifx2, Ev.ch1, Ev.ch2, Ev.toB1, Ev.rb1, Ev.rb2, Ev.end1, Ev.end2, Ev.end3, Ev.add1, Ev.add2, Ev.add3, Ev.sub1, Ev.mul1, Ev.sum1, Ev.minl1, Ev.maxl1, Ev.numR1a, Ev.numR1b, Ev.intsOf1, Ev.intsOf2, Ev.pow1, Ev.dkOf1, Ev.dkOO1, Ev.look1, Ev.look2, Ev.mapSome2, Ev.dget1, Ev.getR1, Ev.ddin1, Ev.hasR1, Ev.hasR2, Ev.asd1, Ev.dtOf1, Ev.dtOO1, Ev.dtOO2, Ev.dkOO2, Ev.look3, Ev.mapSome3, Ev.keyL0, Ev.keyL1, Ev.keyL2, Ev.keyC1, Ev.mkTk1, Ev.tkR1, Ev.putT31, Ev.putTK1, Ev.unTk1, Ev.unTk2, Ev.ofKey1, Ev.ofKey2, Ev.fld1, Ev.fldO1, Ev.fldR1, Ev.fldL1, Ev.setF21, Ev.setFO1, Ev.isMet1, Ev.metO1, Ev.shl1, Ev.shr1, Ev.andI1, Ev.orI1, Ev.add21, Ev.augF11, Ev.augFO1, Ev.augFL1, Ev.mulL1, Ev.mulLR1, Ev.rev1, Ev.revO1, Ev.lrg1, Ev.parR1, Ev.par2K1, Ev.par3K1, Ev.mkEnd1, Ev.isS1, Ev.isS2, Ev.isS3, Ev.dg1, Ev.dg1a, Ev.dg1b, Ev.dg2, Ev.dg2a, Ev.dg2b, Ev.putQ1, Ev.putQi, Ev.putR1, Ev.kd1, Ev.kdR1, Ev.kdi1, Ev.kdi2, Ev.kg1, Ev.kg2, Ev.kg3, Ev.callF1, Ev.callR1, Ev.tru_bl, Ev.tru_int, Ev.tru_tup, Ev.tru_obj, Ev.tru_non, Ev.tru_str, Ev.truO1, Ev.truO2, Ev.dtru1, Ev.truR1, Ev.isE1, Ev.isE2, Ev.eqL1, Ev.sclOf1, Ev.eqLR1, Ev.all1, Ev.any1, Ev.boolsOf1, Ev.boolR1, Ev.sorted1, Ev.sortedDI1, Ev.augI1, Ev.shlB1, Ev.stp1, Ev.stpO1, Ev.sortedDB1, Ev.sortBR1, Ev.sortedDS1, Ev.sortR1, Ev.evPn, Ev.evPc, Ev.dispR1, Ev.keysD0, Ev.keysD1, Ev.keysD2, Ev.keysR1, Ev.tas1, Ev.tas2, Ev.tas3, Ev.tas4, Ev.tas5, Ev.eis1, Ev.retB1, Ev.lkHit, Ev.lkMiss, Ev.gcd1, Ev.bits1, Ev.div1, Ev.mod1, Ev.rel1, Ev.eq1, Ev.eq2, Ev.eq3, Ev.ix1, Ev.ixA1, Ev.ix2, Ev.ixO1, Ev.lstOf1, Ev.lstOO1, Ev.len3, Ev.lenO4, Ev.lenO1, Ev.lenO3, Ev.isi1, Ev.isiR1, Ev.ty_bl, Ev.ty_int, Ev.ty_str, Ev.ty_tup, Ev.ty_non, Ev.ty_obj, Ev.tyO1, Ev.kit_NoneType_bool, Ev.kit_NoneType_int, Ev.kit_NoneType_str, Ev.kit_NoneType_tuple, Ev.kit_NoneType_list, Ev.kit_bool_bool, Ev.kit_bool_int, Ev.kit_bool_str, Ev.kit_bool_tuple, Ev.kit_bool_list, Ev.kit_int_bool, Ev.kit_int_int, Ev.kit_int_str, Ev.kit_int_tuple, Ev.kit_int_list, Ev.kit_str_bool, Ev.kit_str_int, Ev.kit_str_str, Ev.kit_str_tuple, Ev.kit_str_list, Ev.kit_tuple_bool, Ev.kit_tuple_int, Ev.kit_tuple_str, Ev.kit_tuple_tuple, Ev.kit_tuple_list, Ev.kit_list_bool, Ev.kit_list_int, Ev.kit_list_str, Ev.kit_list_tuple, Ev.kit_list_list, Ev.list1, Ev.lstR1, Ev.sq1, Ev.sq3, Ev.sl4, Ev.wk4, Ev.sq2, Ev.tup2, Ev.tupR1, Ev.sl2, Ev.slR1, Ev.app1, Ev.appO1, Ev.tym1, Ev.tymO1, Ev.tymO3, Ev.tym2, Ev.scsS0, Ev.scsS1, Ev.scsS2, Ev.scsS3, Ev.scsS4, Ev.scsS5, Ev.scsS6, Ev.scsS7, Ev.scsS8, Ev.scsS9, Ev.inVS1, Ev.inVS2, Ev.inVS3, Ev.inVS4, Ev.inVS5, Ev.inVS6, Ev.inVS7, Ev.inVS8, Ev.inVS9, Ev.in1, Ev.in2, Ev.inR1, Ev.sc1, Ev.sc2, Ev.wkL, Ev.walkR1, Ev.setSelf, Ev.mapSome, Ev.setNe, Ev.setSet, Ev.appNew, Ev.appOld, Ev.mkLst1, Ev.mkTup1, Ev.ixN5_0, Ev.ixN5_1, Ev.ixN5_2, Ev.ixN5_3, Ev.ixN5_4, Ev.int1, Ev.int2, Ev.len1, Ev.len2, Ev.ix3, Ev.ixS1, Ev.find3a, Ev.starts1, Ev.mulS1, Ev.join1, Ev.joinR1, Ev.neg1, Ev.so1, Ev.sl1, Ev.sl3, Ev.abs1, Ev.max1, Ev.min1, Ev.str1, Ev.ipI1, Ev.for1, Ev.tgc1, Ev.tgn1, Ev.tgt1, Ev.setc1, Ev.send1, Ev.setcT1, Ev.sendT1, Ev.tgl1, Ev.tgl2, Ev.rng1, Ev.rng2, Ev.okr_0, Ev.okr_1, Ev.okr_2, Ev.okr_3, Ev.okr_4, Ev.okr_5, Ev.okr_6, Ev.okr_7, Ev.okr_8, Ev.okr_9, Ev.okr_10, Ev.okr_11, Ev.okr_12, Ev.okr_13, Ev.okr_14, Ev.okr_15, Ev.okr_16, Ev.okr_17, Ev.okr_18, Ev.okr_19, Ev.okr_20, Ev.okr_21, Ev.okr_22, Ev.okr_23, Ev.okr_24, Ev.okr_25, Ev.okr_26, Ev.okr_27, Ev.okr_28, Ev.okr_29, Ev.okr_30, Ev.okr_31, Ev.okr_32, Ev.okr_33, Ev.okr_34, Ev.okr_35, Ev.okr_36, Ev.okr_37, Ev.okr_38, Ev.okr_39, Ev.okr_40, Ev.okr_41, Ev.okr_42, Ev.okr_43, Ev.okr_44, Ev.okr_45, Ev.okr_46, Ev.okr_47, Ev.okr_48, Ev.okr_49, Ev.okr_50, Ev.okr_51, Ev.okr_52, Ev.okr_53, Ev.okr_54, Ev.okr_55, Ev.okr_56, Ev.okr_57, Ev.okr_58, Ev.okr_59, Ev.okr_60, Ev.okr_61, Ev.okr_62, Ev.okr_63, Ev.okr_64, Ev.okr_65, Ev.okr_66, Ev.okr_67, Ev.okr_68, Ev.okr_69, Ev.okr_70, Ev.okr_71, Ev.okr_72, Ev.okr_73, Ev.okr_74, Ev.okr_75, Ev.okr_76, Ev.okr_77, Ev.okr_78, Ev.okr_79, Ev.okr_80, Ev.okr_81, Ev.okr_82, Ev.okr_83, Ev.okr_84, Ev.okr_85, Ev.okr_86, Ev.okr_87, Ev.okr_88, Ev.okr_89, Ev.okr_90, Ev.okr_91, Ev.okr_92, Ev.okr_93, Ev.okr_94, Ev.okr_95, Ev.okr_96, Ev.okr_97, Ev.okr_98, Ev.okr_99, Ev.okr_100, Ev.okr_101, Ev.okr_102, Ev.okr_103, Ev.okr_104, Ev.okr_105, Ev.okr_106, Ev.okr_107, Ev.okr_108, Ev.okr_109, Ev.okr_110, Ev.okr_111, Ev.okr_112, Ev.okr_113, Ev.okr_114, Ev.okr_115, Ev.okr_116, Ev.okr_117, Ev.okr_118, Ev.okr_119, Ev.okr_120, Ev.okr_121, Ev.okr_122, Ev.okr_123, Ev.okr_124, Ev.okr_125, Ev.okr_126, Ev.okr_127, Ev.okr_128, Ev.okr_129, Ev.okr_150, Ev.okr_200, Ev.okr_250, Ev.okr_256, Ev.okr_300, Ev.okr_400, Ev.okr_500, Ev.okr_1000, Ev.okr2, Ev.wkQ1, Ev.wkQ2, Ev.wkT, Ev.enum1, Ev.enum2, Ev.enumR1, Ev.zip1, Ev.zip2, Ev.zipR1, Ev.starS1, Ev.starA1, Ev.ltA1, Ev.leA1, Ev.ltA2, Ev.leA2, Ev.wkS, Ev.wh1, Ev.wh2, Ev.wh3, Ev.wh4, Ev.wt1, Ev.wt2, Ev.tr1, Ev.tr2, Ev.tr3, Ev.tm1, Ev.tm2, Ev.cend1, Ev.ccmp1, Ev.chd1, Ev.cel1, Ev.cts1, Ev.cts2, Ev.ctg1, Ev.m11, Ev.mulr, Ev.mull, Ev.get0, Ev.at0, Ev.get1, Ev.at1, Ev.get2, Ev.at2, Ev.get3, Ev.at3, Ev.get4, Ev.at4, Ev.get5, Ev.at5, Ev.get6, Ev.at6, Ev.get7, Ev.at7, Ev.get8, Ev.at8, Ev.get9, Ev.at9, Ev.get10, Ev.at10, Ev.get11, Ev.at11, Ev.get12, Ev.at12, Ev.get13, Ev.at13, Ev.get14, Ev.at14, Ev.get15, Ev.at15, Ev.get16, Ev.at16, Ev.get17, Ev.at17, Ev.get18, Ev.at18, Ev.get19, Ev.at19, Ev.get20, Ev.at20, Ev.get21, Ev.at21, Ev.get22, Ev.at22, Ev.get23, Ev.at23, Ev.isn1, Ev.isn_bl, Ev.ntn_bl, Ev.isn_int, Ev.ntn_int, Ev.isn_str, Ev.ntn_str, Ev.isn_tup, Ev.ntn_tup, Ev.isn_obj, Ev.ntn_obj, Ev.ntn1, Ev.tup1, Ev.ccmp2, Ev.inc1, Ev.capp1, Ev.cout1, Ev.ct21, Ev.ct22, Ev.ctg21, Ev.q31, Ev.q32, Ev.lrg2, Ev.max4, Ev.min4, Ev.add4, Ev.catR1, Ev.dnOf1, Ev.dnOO1, Ev.lookN1, Ev.lookNK1, Ev.mapSomeN, Ev.nget1, Ev.nin1, Ev.nget2, Ev.isdn1, Ev.putN31, Ev.putNQ1, Ev.srtN, Ev.srtN1, Ev.srtLS, Ev.lenNn1, Ev.lenNn2, Ev.valsN11, Ev.valsN21, Option.map_some, Ev.mulr, Ev.mull, ne_eq, not_false_eq_true, and_self, and_true, true_and, Bool.not_true, Bool.not_false, decide_true, decide_false, List.set, List.map, List.append, List.replicate, List.length_map, List.length_append, List.length_cons, List.length_nil, List.cons_append, List.nil_append, Nat.reduceAdd, Nat.reduceSub, Nat.reduceEqDiff, ↓reduceIte, Option.bind_some, Option.bind_none, wipeE, Option.isSome_some, Option.isSome_none, Bool.or_true, Bool.true_or, Bool.or_false, Bool.false_or])

section
variable {P : Program} {wd : World} {K : PySem.W.Frag} {mg : Str → Option Value} {base : Heap} {A : At}
noncomputable def b_expressions_of : DS := (dSeq (dSet 1 (eOp dIx (eV 0) (eC (D.int 0))))
    (dSeq (dIfS (eT (eOp dEq (eV 1) (eC (D.str (Str.ofString "pick"))))) (dRet (dComp2 (wT (eOp dIx (eV 0) (eC (D.int 2)))) (tgN 3) [3, 4] (fun _ S => .ok true S) (wT (eV 3)) (tgN 4) [4] (fun _ S => .ok true S) (eV 4))) dNext)
    (dSeq (dIfS (eT (eOp dEq (eV 1) (eC (D.str (Str.ofString "call"))))) (dRet (eCall dList (eCons (eOp dIx (eV 0) (eC (D.int 2))) eNil))) dNext)
    (dRet (dComp (wT (eKGet2 kd_EXPRESSION_PLACES (eV 1) (eTup eNil))) (tgN 2) [2] (fun _ S => .ok true S) (eOp dIx (eV 0) (eV 2)))))))
noncomputable def h_expressions_of : DF := runD 1 5 (b_expressions_of)
theorem ok_expressions_of (T : Txt K mg A) (Dd : Dic K mg wd.params) : FnOk P wd K mg base (L2.CX P wd) (1) A.a_expressions_of A.d_expressions_of ["statement"] (spD K mg h_expressions_of) := by
  obtain ⟨z_EXPRESSION_PLACES, g_EXPRESSION_PLACES, D_EXPRESSION_PLACES⟩ := Dd.d_EXPRESSION_PLACES
  refine d_ok T.t_expressions_of.F sc_expressions_of (fun cdv AA outer s H E hr tk po => ?_)
  exact (lss_cons (ls_set (i := 1) sc_expressions_of.nd rfl (Or.inl rfl) (l_ix ixX o_ix (lv 0) l_int (fun _ _ => rfl)))
      (lss_cons (ls_if (lt_cmp op_eq o_eq (lv 1) l_str (nomark _)) (lss_one (ls_ret (l_comp2 (own := [("pair", 3), ("tree", 4)]) (vs1 := [4]) (by rfl) sc_expressions_of.nd (pi_tup (l_ix ixX o_ix (lv 0) l_int (fun _ _ => rfl))) io_tup (blkOk_by (own := [("pair", 3), ("tree", 4)]) (N := ["statement", "tag", "place", "pair", "tree"]) (sc := defScope s_expressions_of) (by decide +kernel)) (by decide) (fun _ _ _ _ _ => (pg_name (i := 3) sc_expressions_of.nd rfl ((by first | exact Or.inl rfl | exact Or.inr rfl)))) (g_name 3) (by decide) (fun _ _ _ _ _ => lts_nil) (fun _ _ _ _ _ => (pi_tup (lv 3))) iq_tup (fun _ _ _ _ _ => (pg_name (i := 4) sc_expressions_of.nd rfl ((by first | exact Or.inl rfl | exact Or.inr rfl)))) (g_name 4) (by decide) (fun _ _ _ _ _ => lts_nil) (fun _ _ _ _ _ => (lv 4))))) lss_nil)
      (lss_cons (ls_if (lt_cmp op_eq o_eq (lv 1) l_str (nomark _)) (lss_one (ls_ret (l_callTy call_list_of o_list (by rfl) T.z_list PyProof.Rows.boot_list (la_cons (l_ix ixX o_ix (lv 0) l_int (fun _ _ => rfl)) la_nil)))) lss_nil)
      (lss_one (ls_ret (l_comp (own := [("place", 2)]) (by rfl) sc_expressions_of.nd (pi_tup (l_kget2 D_EXPRESSION_PLACES (by rfl) g_EXPRESSION_PLACES (lv 1) (l_tup la_nil) ⟨rfl, rfl, rfl, rfl⟩)) io_tup (blkOk_by (own := [("place", 2)]) (N := ["statement", "tag", "place", "pair", "tree"]) (sc := defScope s_expressions_of) (by decide +kernel)) (fun _ _ _ _ _ => (pg_name (i := 2) sc_expressions_of.nd rfl ((by first | exact Or.inl rfl | exact Or.inr rfl)))) (g_name 2) (by decide) (fun _ _ _ _ _ => lts_nil) (fun _ _ _ _ _ => (l_ix ixX o_ix (lv 0) (lv 2) (fun _ _ => rfl)))))))))

noncomputable def b_blocks_of : DS := (dRet (dComp (wT (eKGet2 kd_BLOCK_PLACES (eOp dIx (eV 0) (eC (D.int 0))) (eTup eNil))) (tgN 1) [1] (fun _ S => .ok true S) (eOp dIx (eV 0) (eV 1))))
noncomputable def h_blocks_of : DF := runD 1 2 (b_blocks_of)
theorem ok_blocks_of (T : Txt K mg A) (Dd : Dic K mg wd.params) : FnOk P wd K mg base (L2.CX P wd) (1) A.a_blocks_of A.d_blocks_of ["statement"] (spD K mg h_blocks_of) := by
  obtain ⟨z_BLOCK_PLACES, g_BLOCK_PLACES, D_BLOCK_PLACES⟩ := Dd.d_BLOCK_PLACES
  refine d_ok T.t_blocks_of.F sc_blocks_of (fun cdv AA outer s H E hr tk po => ?_)
  exact (lss_one (ls_ret (l_comp (own := [("place", 1)]) (by rfl) sc_blocks_of.nd (pi_tup (l_kget2 D_BLOCK_PLACES (by rfl) g_BLOCK_PLACES (l_ix ixX o_ix (lv 0) l_int (fun _ _ => rfl)) (l_tup la_nil) ⟨rfl, rfl, rfl, rfl⟩)) io_tup (blkOk_by (own := [("place", 1)]) (N := ["statement", "place"]) (sc := defScope s_blocks_of) (by decide +kernel)) (fun _ _ _ _ _ => (pg_name (i := 1) sc_blocks_of.nd rfl ((by first | exact Or.inl rfl | exact Or.inr rfl)))) (g_name 1) (by decide) (fun _ _ _ _ _ => lts_nil) (fun _ _ _ _ _ => (l_ix ixX o_ix (lv 0) (lv 1) (fun _ _ => rfl))))))

noncomputable def b_has_target : DS := (dRet (eKDIn false kd_TARGET_PLACES (eOp dIx (eV 0) (eC (D.int 0)))))
noncomputable def h_has_target : DF := runD 1 1 (b_has_target)
theorem ok_has_target (T : Txt K mg A) (Dd : Dic K mg wd.params) : FnOk P wd K mg base (L2.CX P wd) (1) A.a_has_target A.d_has_target ["statement"] (spD K mg h_has_target) := by
  obtain ⟨z_TARGET_PLACES, g_TARGET_PLACES, D_TARGET_PLACES⟩ := Dd.d_TARGET_PLACES
  refine d_ok T.t_has_target.F sc_has_target (fun cdv AA outer s H E hr tk po => ?_)
  exact (lss_one (ls_ret (l_kdin D_TARGET_PLACES (by rfl) g_TARGET_PLACES (l_ix ixX o_ix (lv 0) l_int (fun _ _ => rfl)))))

noncomputable def b_target_of : DS := (dRet (eOp dIx (eV 0) (eKD kd_TARGET_PLACES (eOp dIx (eV 0) (eC (D.int 0))))))
noncomputable def h_target_of : DF := runD 1 1 (b_target_of)
theorem ok_target_of (T : Txt K mg A) (Dd : Dic K mg wd.params) : FnOk P wd K mg base (L2.CX P wd) (1) A.a_target_of A.d_target_of ["statement"] (spD K mg h_target_of) := by
  obtain ⟨z_TARGET_PLACES, g_TARGET_PLACES, D_TARGET_PLACES⟩ := Dd.d_TARGET_PLACES
  refine d_ok T.t_target_of.F sc_target_of (fun cdv AA outer s H E hr tk po => ?_)
  exact (lss_one (ls_ret (l_ix ixX o_ix (lv 0) (l_kd D_TARGET_PLACES (by rfl) g_TARGET_PLACES (l_ix ixX o_ix (lv 0) l_int (fun _ _ => rfl)) (fun _ _ => rfl)) (fun _ _ => rfl))))

noncomputable def b_statements_in (rec : DF) : DS := (dSeq (dSet 1 (eLst eNil))
    (dSeq (dFor (wT (eV 0)) (tgN 2) (dSeq (dExpr (eMeth "list" mAppend (eV 1) (eCons (eV 2) eNil)))
    (dFor (wL (eCall h_blocks_of (eCons (eV 2) eNil))) (tgN 3) (dExpr (eMeth "list" mExtend (eV 1) (eCons (eCall rec (eCons (eV 3) eNil)) eNil))))))
    (dRet (eV 1))))
noncomputable def h_statements_in : Nat → DF
  | 0 => badF
  | n + 1 => runD 1 4 (b_statements_in (h_statements_in n))
theorem ok_statements_in (T : Txt K mg A) (Dd : Dic K mg wd.params) : ∀ n : Nat, FnOk P wd K mg base (L2.CX P wd) (1 + 1 * n) A.a_statements_in A.d_statements_in ["block"] (spD K mg (h_statements_in n))
  | 0 => bad_ok
  | n + 1 => by
    have Frec : FnOk P wd K mg base (L2.CX P wd) (1 + 1 * n) A.a_statements_in A.d_statements_in ["block"] (spD K mg (h_statements_in n)) := ok_statements_in T Dd n
    have G_blocks_of : FnOk P wd K mg base (L2.CX P wd) (1) A.a_blocks_of A.d_blocks_of ["statement"] (spD K mg h_blocks_of) := ok_blocks_of T Dd
    refine d_ok (k := 1 + 1 * n + 0) T.t_statements_in.F sc_statements_in (fun cdv AA outer s H E hr tk po => ?_)
    exact (lss_cons (ls_set (i := 1) sc_statements_in.nd rfl (Or.inl rfl) (l_lst la_nil))
        (lss_cons (ls_for po rfl (pi_tup (lv 0)) io_tup (pg_name (i := 2) sc_statements_in.nd rfl (Or.inl rfl)) (g_name 2) (lss_cons (ls_expr (l_bm PySem.F.plainAttrs_list PySem.F.slot_list_append PySem.F.type_list_append mt_append om_append (lv 1) (la_cons (lv 2) la_nil)))
        (lss_one (ls_for po rfl (pi_list (l_call G_blocks_of (hr.mono (by omega)) (by rfl) T.t_blocks_of.g T.t_blocks_of.F.kp T.t_blocks_of.b tk (la_cons (lv 2) la_nil))) io_list (pg_name (i := 3) sc_statements_in.nd rfl (Or.inl rfl)) (g_name 3) (lss_one (ls_expr (l_bm PySem.F.plainAttrs_list PySem.F.slot_list_extend PySem.F.type_list_extend mt_extend om_extend (lv 1) (la_cons (l_call Frec (hr.mono (by omega)) (by rfl) T.t_statements_in.g T.t_statements_in.F.kp T.t_statements_in.b tk (la_cons (lv 3) la_nil)) la_nil))))))))
        (lss_one (ls_ret (lv 1)))))

noncomputable def b_targets_of : DS := (dRet (dSetCT (wL (eCall (h_statements_in 6) (eCons (eV 0) eNil))) (tgN 1) [1] (eT (eCall h_has_target (eCons (eV 1) eNil))) (eCall h_target_of (eCons (eV 1) eNil))))
noncomputable def h_targets_of : DF := runD 1 2 (b_targets_of)
theorem ok_targets_of (T : Txt K mg A) (Dd : Dic K mg wd.params) : FnOk P wd K mg base (L2.CX P wd) (8) A.a_targets_of A.d_targets_of ["block"] (spD K mg h_targets_of) := by
  have G_has_target : FnOk P wd K mg base (L2.CX P wd) (1) A.a_has_target A.d_has_target ["statement"] (spD K mg h_has_target) := ok_has_target T Dd
  have G_target_of : FnOk P wd K mg base (L2.CX P wd) (1) A.a_target_of A.d_target_of ["statement"] (spD K mg h_target_of) := ok_target_of T Dd
  have G_statements_in : FnOk P wd K mg base (L2.CX P wd) (7) A.a_statements_in A.d_statements_in ["block"] (spD K mg (h_statements_in 6)) := ok_statements_in T Dd 6
  refine d_ok T.t_targets_of.F sc_targets_of (fun cdv AA outer s H E hr tk po => ?_)
  exact (lss_one (ls_ret (l_setcT (own := [("each", 1)]) (by rfl) T.z_sorted (by decide +kernel) (by rfl) sc_targets_of.nd (pi_list (l_call G_statements_in (hr.mono (by omega)) (by rfl) T.t_statements_in.g T.t_statements_in.F.kp T.t_statements_in.b tk (la_cons (lv 0) la_nil))) io_list (blkOk_by (own := [("each", 1)]) (N := ["block", "each"]) (sc := defScope s_targets_of) (by decide +kernel)) (fun _ _ _ _ _ => (pg_name (i := 1) sc_targets_of.nd rfl ((by first | exact Or.inl rfl | exact Or.inr rfl)))) (g_name 1) (by decide) (fun _ _ _ _ _ => (lts_one (lt_val (l_call G_has_target (hr.mono (by omega)) (by rfl) T.t_has_target.g T.t_has_target.F.kp T.t_has_target.b takesW0 (la_cons (lv 1) la_nil))))) (fun _ _ _ _ _ => (l_call G_target_of (hr.mono (by omega)) (by rfl) T.t_target_of.g T.t_target_of.F.kp T.t_target_of.b takesW0 (la_cons (lv 1) la_nil))))))

noncomputable def b_law_same (rec : DF) : DS := (dSeq (dIfS (eOr (eT (eCall dIsi (eCons (eV 1) (eCons (eC (.ty "tuple")) eNil)))) (eT (eCall dIsi (eCons (eV 1) (eCons (eC (.ty "list")) eNil))))) (dSeq (dIfS (eOr (eT (eOp dNe (eCall dIsi (eCons (eV 1) (eCons (eC (.ty "tuple")) eNil))) (eCall dIsi (eCons (eV 0) (eCons (eC (.ty "tuple")) eNil))))) (eT (eOp dNe (eCall dIsi (eCons (eV 1) (eCons (eC (.ty "list")) eNil))) (eCall dIsi (eCons (eV 0) (eCons (eC (.ty "list")) eNil)))))) (dRet (eC (D.bl false))) dNext)
    (dSeq (dIfS (eT (eOp dNe (eCall dLen (eCons (eV 0) eNil)) (eCall dLen (eCons (eV 1) eNil)))) (dRet (eC (D.bl false))) dNext)
    (dSeq (dFor (wR1 (eCons (eCall dLen (eCons (eV 1) eNil)) eNil)) (tgN 2) (dIfS (eNot (eT (eCall rec (eCons (eOp dIx (eV 0) (eV 2)) (eCons (eOp dIx (eV 1) (eV 2)) eNil))))) (dRet (eC (D.bl false))) dNext))
    (dRet (eC (D.bl true)))))) dNext)
    (dSeq (dIfS (eT (eUn dIsN (eV 1))) (dRet (eUn dIsN (eV 0))) dNext)
    (dSeq (dIfS (eT (eCall dIsi (eCons (eV 1) (eCons (eC (.ty "bool")) eNil)))) (dRet (eAndV (eCall dIsi (eCons (eV 0) (eCons (eC (.ty "bool")) eNil))) (eOp dEq (eV 0) (eV 1)))) dNext)
    (dSeq (dIfS (eT (eCall dIsi (eCons (eV 1) (eCons (eC (.ty "int")) eNil)))) (dRet (eAndV (eCall dIsi (eCons (eV 0) (eCons (eC (.ty "int")) eNil))) (eAndV (eNotV (eCall dIsi (eCons (eV 0) (eCons (eC (.ty "bool")) eNil)))) (eOp dEq (eV 0) (eV 1))))) dNext)
    (dRet (eAndV (eCall dIsi (eCons (eV 0) (eCons (eC (.ty "str")) eNil))) (eOp dEq (eV 0) (eV 1))))))))
noncomputable def h_law_same : Nat → DF
  | 0 => badF
  | n + 1 => runD 2 3 (b_law_same (h_law_same n))
theorem ok_law_same (T : Txt K mg A) (Dd : Dic K mg wd.params) : ∀ n : Nat, FnOk P wd K mg base (L2.CX P wd) (0 + 1 * n) A.a_law_same A.d_law_same ["actual", "due"] (spD K mg (h_law_same n))
  | 0 => bad_ok
  | n + 1 => by
    have Frec : FnOk P wd K mg base (L2.CX P wd) (0 + 1 * n) A.a_law_same A.d_law_same ["actual", "due"] (spD K mg (h_law_same n)) := ok_law_same T Dd n
    refine d_ok (k := 0 + 1 * n + 0) T.t_law_same.F sc_law_same (fun cdv AA outer s H E hr tk po => ?_)
    exact (lss_cons (ls_if (PW.pt (lw_or (lt_val (l_callB call_isi o_isi (by rfl) T.z_isinstance PyProof.Rows.boot_isinstance (la_cons (lv 1) (la_cons (l_ty (by rfl) T.z_tuple PyProof.Rows.boot_tuple) la_nil)))) (lw_or1 (lt_val (l_callB call_isi o_isi (by rfl) T.z_isinstance PyProof.Rows.boot_isinstance (la_cons (lv 1) (la_cons (l_ty (by rfl) T.z_list PyProof.Rows.boot_list) la_nil))))))) (lss_cons (ls_if (PW.pt (lw_or (lt_cmp op_ne o_ne (l_callB call_isi o_isi (by rfl) T.z_isinstance PyProof.Rows.boot_isinstance (la_cons (lv 1) (la_cons (l_ty (by rfl) T.z_tuple PyProof.Rows.boot_tuple) la_nil))) (l_callB call_isi o_isi (by rfl) T.z_isinstance PyProof.Rows.boot_isinstance (la_cons (lv 0) (la_cons (l_ty (by rfl) T.z_tuple PyProof.Rows.boot_tuple) la_nil))) (nomark _)) (lw_or1 (lt_cmp op_ne o_ne (l_callB call_isi o_isi (by rfl) T.z_isinstance PyProof.Rows.boot_isinstance (la_cons (lv 1) (la_cons (l_ty (by rfl) T.z_list PyProof.Rows.boot_list) la_nil))) (l_callB call_isi o_isi (by rfl) T.z_isinstance PyProof.Rows.boot_isinstance (la_cons (lv 0) (la_cons (l_ty (by rfl) T.z_list PyProof.Rows.boot_list) la_nil))) (nomark _))))) (lss_one (ls_ret l_bl)) lss_nil)
        (lss_cons (ls_if (lt_cmp op_ne o_ne (l_callB call_lenA o_len (by rfl) T.z_len PySem.boot_len (la_cons (lv 0) la_nil)) (l_callB call_lenA o_len (by rfl) T.z_len PySem.boot_len (la_cons (lv 1) la_nil)) (nomark _)) (lss_one (ls_ret l_bl)) lss_nil)
        (lss_cons (ls_for po rfl (pi_range1 (by rfl) T.z_range (la_cons (l_callB call_lenA o_len (by rfl) T.z_len PySem.boot_len (la_cons (lv 1) la_nil)) la_nil)) io_rng1 (pg_name (i := 2) sc_law_same.nd rfl (Or.inl rfl)) (g_name 2) (lss_one (ls_if (lt_not (lt_val (l_call Frec (hr.mono (by omega)) (by rfl) T.t_law_same.g T.t_law_same.F.kp T.t_law_same.b tk (la_cons (l_ix ixX o_ix (lv 0) (lv 2) (fun _ _ => rfl)) (la_cons (l_ix ixX o_ix (lv 1) (lv 2) (fun _ _ => rfl)) la_nil))))) (lss_one (ls_ret l_bl)) lss_nil)))
        (lss_one (ls_ret l_bl))))) lss_nil)
        (lss_cons (ls_if (lt_isN (lv 1)) (lss_one (ls_ret (l_isN (lv 0)))) lss_nil)
        (lss_cons (ls_if (lt_val (l_callB call_isi o_isi (by rfl) T.z_isinstance PyProof.Rows.boot_isinstance (la_cons (lv 1) (la_cons (l_ty (by rfl) T.z_bool PyProof.Rows.boot_bool) la_nil)))) (lss_one (ls_ret (l_and (l_callB call_isi o_isi (by rfl) T.z_isinstance PyProof.Rows.boot_isinstance (la_cons (lv 0) (la_cons (l_ty (by rfl) T.z_bool PyProof.Rows.boot_bool) la_nil))) (l_one (l_cmp op_eq o_eq (lv 0) (lv 1) (nomark _)))))) lss_nil)
        (lss_cons (ls_if (lt_val (l_callB call_isi o_isi (by rfl) T.z_isinstance PyProof.Rows.boot_isinstance (la_cons (lv 1) (la_cons (l_ty (by rfl) T.z_int PyProof.Rows.boot_int) la_nil)))) (lss_one (ls_ret (l_and (l_callB call_isi o_isi (by rfl) T.z_isinstance PyProof.Rows.boot_isinstance (la_cons (lv 0) (la_cons (l_ty (by rfl) T.z_int PyProof.Rows.boot_int) la_nil))) (l_and (l_not (l_callB call_isi o_isi (by rfl) T.z_isinstance PyProof.Rows.boot_isinstance (la_cons (lv 0) (la_cons (l_ty (by rfl) T.z_bool PyProof.Rows.boot_bool) la_nil)))) (l_one (l_cmp op_eq o_eq (lv 0) (lv 1) (nomark _))))))) lss_nil)
        (lss_one (ls_ret (l_and (l_callB call_isi o_isi (by rfl) T.z_isinstance PyProof.Rows.boot_isinstance (la_cons (lv 0) (la_cons (l_ty (by rfl) T.z_str PyProof.Rows.boot_str) la_nil))) (l_one (l_cmp op_eq o_eq (lv 0) (lv 1) (nomark _))))))))))

noncomputable def b_law_pool : DS := (dSeq (dSet 1 (eC (D.int 7)))
    (dSeq (dFor (wL (eSl (eV 0) eNo (eSo (eC (D.int 63))))) (tgN 2) (dSet 1 (eOp dMod (eCall dInt (eCons (eOp dAdd (eOp dMul (eV 1) (eC (D.int 31))) (eV 2)) eNil)) (eC (D.int 1000003)))))
    (dRet (eLst (eCons (eCall dList (eCons (eV 0) eNil)) (eCons (eC (D.int 0)) (eCons (eC (D.int 0)) (eCons (eC (D.int 0)) (eCons (eV 1) eNil)))))))))
noncomputable def h_law_pool : DF := runD 1 3 (b_law_pool)
theorem ok_law_pool (T : Txt K mg A) (Dd : Dic K mg wd.params) : FnOk P wd K mg base (L2.CX P wd) (1) A.a_law_pool A.d_law_pool ["script"] (spD K mg h_law_pool) := by
  refine d_ok T.t_law_pool.F sc_law_pool (fun cdv AA outer s H E hr tk po => ?_)
  exact (lss_cons (ls_set (i := 1) sc_law_pool.nd rfl (Or.inl rfl) l_int)
      (lss_cons (ls_for po rfl (pi_list (l_slice slX (lv 0) lo_none (lo_some l_int))) io_list (pg_name (i := 2) sc_law_pool.nd rfl (Or.inl rfl)) (g_name 2) (lss_one (ls_set (i := 1) sc_law_pool.nd rfl (Or.inl rfl) (l_op op_modN o_mod (l_callTy call_int1 o_int (by rfl) T.z_int PyProof.Rows.boot_int (la_cons (l_op op_addA o_add (l_op op_mulA o_mul (lv 1) l_int) (lv 2)) la_nil)) l_int))))
      (lss_one (ls_ret (l_lst (la_cons (l_callTy call_list_of o_list (by rfl) T.z_list PyProof.Rows.boot_list (la_cons (lv 0) la_nil)) (la_cons l_int (la_cons l_int (la_cons l_int (la_cons (lv 1) la_nil))))))))))

noncomputable def b_law_spread : DS := (dSeq (dSet 1 (eOp dMod (eCall dInt (eCons (eV 0) eNil)) (eC (D.int 2147483647))))
    (dSeq (dSet 2 (eC (D.int 1)))
    (dSeq (dFor (wR1 (eCons (eC (D.int 4)) eNil)) (tgN 3) (dSeq (dSet 1 (eOp dMod (eCall dInt (eCons (eOp dAdd (eOp dAdd (eOp dMul (eV 1) (eC (D.int 48271))) (eC (D.int 12345))) (eV 3)) eNil)) (eC (D.int 2147483647))))
    (dSet 2 (eOp dAdd (eOp dMul (eV 2) (eC (D.int 2147483647))) (eV 1)))))
    (dRet (eV 2)))))
noncomputable def h_law_spread : DF := runD 1 4 (b_law_spread)
theorem ok_law_spread (T : Txt K mg A) (Dd : Dic K mg wd.params) : FnOk P wd K mg base (L2.CX P wd) (1) A.a_law_spread A.d_law_spread ["cell"] (spD K mg h_law_spread) := by
  refine d_ok T.t_law_spread.F sc_law_spread (fun cdv AA outer s H E hr tk po => ?_)
  exact (lss_cons (ls_set (i := 1) sc_law_spread.nd rfl (Or.inl rfl) (l_op op_modN o_mod (l_callTy call_int1 o_int (by rfl) T.z_int PyProof.Rows.boot_int (la_cons (lv 0) la_nil)) l_int))
      (lss_cons (ls_set (i := 2) sc_law_spread.nd rfl (Or.inl rfl) l_int)
      (lss_cons (ls_for po rfl (pi_range1 (by rfl) T.z_range (la_cons l_int la_nil)) io_rng1 (pg_name (i := 3) sc_law_spread.nd rfl (Or.inl rfl)) (g_name 3) (lss_cons (ls_set (i := 1) sc_law_spread.nd rfl (Or.inl rfl) (l_op op_modN o_mod (l_callTy call_int1 o_int (by rfl) T.z_int PyProof.Rows.boot_int (la_cons (l_op op_addA o_add (l_op op_addA o_add (l_op op_mulA o_mul (lv 1) l_int) l_int) (lv 3)) la_nil)) l_int))
      (lss_one (ls_set (i := 2) sc_law_spread.nd rfl (Or.inl rfl) (l_op op_addA o_add (l_op op_mulA o_mul (lv 2) l_int) (lv 1))))))
      (lss_one (ls_ret (lv 2))))))

noncomputable def b_law_draw : DS := (dSeq (dIfS (eAnd (eT (eOp dLe (eOp dIx (eV 0) (eC (D.int 2))) (eC (D.int 0)))) (eT (eOp dLt (eOp dIx (eV 0) (eC (D.int 1))) (eCall dLen (eCons (eOp dIx (eV 0) (eC (D.int 0))) eNil))))) (dSeq (dSet 2 (eOp dIx (eOp dIx (eV 0) (eC (D.int 0))) (eOp dIx (eV 0) (eC (D.int 1)))))
    (dSeq (dPutL (eOp dAdd (eOp dIx (eV 0) (eC (D.int 1))) (eC (D.int 1))) (eV 0) (eC (D.int 1)))
    (dSeq (dPutL (eV 2) (eV 0) (eC (D.int 2)))
    (dIfS (eT (eOp dLt (eV 2) (eC (D.int 1000000000000000000)))) (dPutL (eCall h_law_spread (eCons (eV 2) eNil)) (eV 0) (eC (D.int 2))) dNext)))) dNext)
    (dSeq (dPutL (eOp dAdd (eOp dIx (eV 0) (eC (D.int 3))) (eC (D.int 1))) (eV 0) (eC (D.int 3)))
    (dSeq (dIfS (eT (eOp dLe (eOp dIx (eV 0) (eC (D.int 2))) (eC (D.int 0)))) (dSeq (dSet 3 (eOp dMod (eCall dInt (eCons (eOp dAdd (eOp dAdd (eOp dMul (eOp dIx (eV 0) (eC (D.int 4))) (eC (D.int 48271))) (eOp dMul (eOp dIx (eV 0) (eC (D.int 3))) (eC (D.int 69621)))) (eC (D.int 1))) eNil)) (eC (D.int 2147483647))))
    (dSeq (dSet 3 (eOp dMod (eCall dInt (eCons (eOp dAdd (eOp dMul (eV 3) (eC (D.int 16807))) (eOp dIx (eV 0) (eC (D.int 3)))) eNil)) (eC (D.int 2147483629))))
    (dRet (eOp dMod (eOp dDiv (eV 3) (eC (D.int 5))) (eV 1))))) dNext)
    (dSeq (dSet 4 (eOp dMod (eCall dInt (eCons (eOp dIx (eV 0) (eC (D.int 2))) eNil)) (eV 1)))
    (dSeq (dPutL (eOp dDiv (eOp dIx (eV 0) (eC (D.int 2))) (eV 1)) (eV 0) (eC (D.int 2)))
    (dRet (eV 4)))))))
noncomputable def h_law_draw : DF := runD 2 5 (b_law_draw)
theorem ok_law_draw (T : Txt K mg A) (Dd : Dic K mg wd.params) : FnOk P wd K mg base (L2.CX P wd) (2) A.a_law_draw A.d_law_draw ["pool", "many"] (spD K mg h_law_draw) := by
  have G_law_spread : FnOk P wd K mg base (L2.CX P wd) (1) A.a_law_spread A.d_law_spread ["cell"] (spD K mg h_law_spread) := ok_law_spread T Dd
  refine d_ok T.t_law_draw.F sc_law_draw (fun cdv AA outer s H E hr tk po => ?_)
  exact (lss_cons (ls_if (PW.pt (lw_and (lt_cmp op_le (o_rel _) (l_ix ixX o_ix (lv 0) l_int (fun _ _ => rfl)) l_int (nomark _)) (lw_and1 (lt_cmp op_lt (o_rel _) (l_ix ixX o_ix (lv 0) l_int (fun _ _ => rfl)) (l_callB call_lenA o_len (by rfl) T.z_len PySem.boot_len (la_cons (l_ix ixX o_ix (lv 0) l_int (fun _ _ => rfl)) la_nil)) (nomark _))))) (lss_cons (ls_set (i := 2) sc_law_draw.nd rfl (Or.inl rfl) (l_ix ixX o_ix (l_ix ixX o_ix (lv 0) l_int (fun _ _ => rfl)) (l_ix ixX o_ix (lv 0) l_int (fun _ _ => rfl)) (fun _ _ => rfl)))
      (lss_cons (ls_putL (l_op op_addA o_add (l_ix ixX o_ix (lv 0) l_int (fun _ _ => rfl)) l_int) (lv 0) l_int (pg_sub (lv 0) l_int set_list))
      (lss_cons (ls_putL (lv 2) (lv 0) l_int (pg_sub (lv 0) l_int set_list))
      (lss_one (ls_if (lt_cmp op_lt (o_rel _) (lv 2) l_int (nomark _)) (lss_one (ls_putL (l_call G_law_spread (hr.mono (by omega)) (by rfl) T.t_law_spread.g T.t_law_spread.F.kp T.t_law_spread.b tk (la_cons (lv 2) la_nil)) (lv 0) l_int (pg_sub (lv 0) l_int set_list))) lss_nil))))) lss_nil)
      (lss_cons (ls_putL (l_op op_addA o_add (l_ix ixX o_ix (lv 0) l_int (fun _ _ => rfl)) l_int) (lv 0) l_int (pg_sub (lv 0) l_int set_list))
      (lss_cons (ls_if (lt_cmp op_le (o_rel _) (l_ix ixX o_ix (lv 0) l_int (fun _ _ => rfl)) l_int (nomark _)) (lss_cons (ls_set (i := 3) sc_law_draw.nd rfl (Or.inl rfl) (l_op op_modN o_mod (l_callTy call_int1 o_int (by rfl) T.z_int PyProof.Rows.boot_int (la_cons (l_op op_addA o_add (l_op op_addA o_add (l_op op_mulA o_mul (l_ix ixX o_ix (lv 0) l_int (fun _ _ => rfl)) l_int) (l_op op_mulA o_mul (l_ix ixX o_ix (lv 0) l_int (fun _ _ => rfl)) l_int)) l_int) la_nil)) l_int))
      (lss_cons (ls_set (i := 3) sc_law_draw.nd rfl (Or.inl rfl) (l_op op_modN o_mod (l_callTy call_int1 o_int (by rfl) T.z_int PyProof.Rows.boot_int (la_cons (l_op op_addA o_add (l_op op_mulA o_mul (lv 3) l_int) (l_ix ixX o_ix (lv 0) l_int (fun _ _ => rfl))) la_nil)) l_int))
      (lss_one (ls_ret (l_op op_modN o_mod (l_op op_fdivG o_div (lv 3) l_int) (lv 1)))))) lss_nil)
      (lss_cons (ls_set (i := 4) sc_law_draw.nd rfl (Or.inl rfl) (l_op op_modN o_mod (l_callTy call_int1 o_int (by rfl) T.z_int PyProof.Rows.boot_int (la_cons (l_ix ixX o_ix (lv 0) l_int (fun _ _ => rfl)) la_nil)) (lv 1)))
      (lss_cons (ls_putL (l_op op_fdivG o_div (l_ix ixX o_ix (lv 0) l_int (fun _ _ => rfl)) (lv 1)) (lv 0) l_int (pg_sub (lv 0) l_int set_list))
      (lss_one (ls_ret (lv 4))))))))

noncomputable def b_law_name : DS := (dSeq (dSet 2 (eC (D.str (Str.ofString "abcdefghijklmnopqrstuvwxyz0123456789_"))))
    (dSeq (dSet 4 (eOp dAdd (eOp dIx (eV 2) (eCall h_law_draw (eCons (eV 0) (eCons (eC (D.int 26)) eNil)))) (eM1 mJoin (eC (D.str (Str.ofString ""))) (dComp (wR1 (eCons (eCall h_law_draw (eCons (eV 0) (eCons (eC (D.int 4)) eNil))) eNil)) (tgN 3) [3] (fun _ S => .ok true S) (eOp dIx (eV 2) (eCall h_law_draw (eCons (eV 0) (eCons (eC (D.int 37)) eNil))))))))
    (dSeq (dSet 5 (eOp dAdd (eC (D.int 1)) (eCall h_law_draw (eCons (eV 0) (eCons (eCall dLen (eCons (eV 4) eNil)) eNil)))))
    (dSeq (dSet 4 (eOp dAdd (eOp dAdd (eSl (eV 4) eNo (eSo (eV 5))) (eC (D.str (Str.ofString "_")))) (eSl (eV 4) (eSo (eV 5)) eNo)))
    (dSeq (dFor (wR1 (eCons (eC (D.int 40)) eNil)) (tgN 3) (dSeq (dIfS (eT (eOp (dIn true) (eV 4) (eV 1))) dBreak dNext)
    (dSet 4 (eOp dAdd (eV 4) (eOp dIx (eV 2) (eOp dMod (eV 3) (eC (D.int 26))))))))
    (dSeq (dExpr (eMeth "list" mAppend (eV 1) (eCons (eV 4) eNil)))
    (dRet (eV 4))))))))
noncomputable def h_law_name : DF := runD 2 6 (b_law_name)
theorem ok_law_name (T : Txt K mg A) (Dd : Dic K mg wd.params) : FnOk P wd K mg base (L2.CX P wd) (3) A.a_law_name A.d_law_name ["pool", "taken"] (spD K mg h_law_name) := by
  have G_law_draw : FnOk P wd K mg base (L2.CX P wd) (2) A.a_law_draw A.d_law_draw ["pool", "many"] (spD K mg h_law_draw) := ok_law_draw T Dd
  refine d_ok T.t_law_name.F sc_law_name (fun cdv AA outer s H E hr tk po => ?_)
  exact (lss_cons (ls_set (i := 2) sc_law_name.nd rfl (Or.inr rfl) l_str)
      (lss_cons (ls_set (i := 4) sc_law_name.nd rfl (Or.inl rfl) (l_op op_addA o_add (l_ix ixX o_ix (lv 2) (l_call G_law_draw (hr.mono (by omega)) (by rfl) T.t_law_draw.g T.t_law_draw.F.kp T.t_law_draw.b tk (la_cons (lv 0) (la_cons l_int la_nil))) (fun _ _ => rfl)) (l_join l_str (l_comp (own := [("k", 3)]) (by rfl) sc_law_name.nd (pi_range1 (by rfl) T.z_range (la_cons (l_call G_law_draw (hr.mono (by omega)) (by rfl) T.t_law_draw.g T.t_law_draw.F.kp T.t_law_draw.b tk (la_cons (lv 0) (la_cons l_int la_nil))) la_nil)) io_rng1 (blkOk_by (own := [("k", 3)]) (N := ["pool", "taken", "chars", "k", "name", "cut"]) (sc := defScope s_law_name) (by decide +kernel)) (fun _ _ _ _ _ => (pg_name (i := 3) sc_law_name.nd rfl ((by first | exact Or.inl rfl | exact Or.inr rfl)))) (g_name 3) (by decide) (fun _ _ _ _ _ => lts_nil) (fun _ _ _ _ _ => (l_ix ixX o_ix (lv 2) (l_call G_law_draw (hr.mono (by omega)) (by rfl) T.t_law_draw.g T.t_law_draw.F.kp T.t_law_draw.b takesW0 (la_cons (lv 0) (la_cons l_int la_nil))) (fun _ _ => rfl)))))))
      (lss_cons (ls_set (i := 5) sc_law_name.nd rfl (Or.inl rfl) (l_op op_addA o_add l_int (l_call G_law_draw (hr.mono (by omega)) (by rfl) T.t_law_draw.g T.t_law_draw.F.kp T.t_law_draw.b tk (la_cons (lv 0) (la_cons (l_callB call_lenA o_len (by rfl) T.z_len PySem.boot_len (la_cons (lv 4) la_nil)) la_nil)))))
      (lss_cons (ls_set (i := 4) sc_law_name.nd rfl (Or.inl rfl) (l_op op_addA o_add (l_op op_addA o_add (l_slice slX (lv 4) lo_none (lo_some (lv 5))) l_str) (l_slice slX (lv 4) (lo_some (lv 5)) lo_none)))
      (lss_cons (ls_for po rfl (pi_range1 (by rfl) T.z_range (la_cons l_int la_nil)) io_rng1 (pg_name (i := 3) sc_law_name.nd rfl (Or.inl rfl)) (g_name 3) (lss_cons (ls_if (lt_cmp op_notInA (o_in true) (lv 4) (lv 1) (by rfl)) (lss_one ls_break) lss_nil)
      (lss_one (ls_set (i := 4) sc_law_name.nd rfl (Or.inl rfl) (l_op op_addA o_add (lv 4) (l_ix ixX o_ix (lv 2) (l_op op_modN o_mod (lv 3) l_int) (fun _ _ => rfl)))))))
      (lss_cons (ls_expr (l_bm PySem.F.plainAttrs_list PySem.F.slot_list_append PySem.F.type_list_append mt_append om_append (lv 1) (la_cons (lv 4) la_nil)))
      (lss_one (ls_ret (lv 4)))))))))

noncomputable def b_law_names : DS := (dSeq (dSet 1 (eLst eNil))
    (dSeq (dSet 2 (eLst (eCons (eTup (eCons (eC (D.str (Str.ofString "int"))) (eCons (eCall h_law_name (eCons (eV 0) (eCons (eV 1) eNil))) (eCons (eC (D.int 0)) eNil)))) (eCons (eTup (eCons (eC (D.str (Str.ofString "bool"))) (eCons (eCall h_law_name (eCons (eV 0) (eCons (eV 1) eNil))) (eCons (eC (D.int 0)) eNil)))) eNil))))
    (dSeq (dFor (wR1 (eCons (eCall h_law_draw (eCons (eV 0) (eCons (eC (D.int 4)) eNil))) eNil)) (tgN 3) (dSeq (dSet 4 (eOp dIx (eTup (eCons (eC (D.str (Str.ofString "int"))) (eCons (eC (D.str (Str.ofString "bool"))) (eCons (eC (D.str (Str.ofString "array"))) eNil)))) (eCall h_law_draw (eCons (eV 0) (eCons (eC (D.int 3)) eNil)))))
    (dExpr (eMeth "list" mAppend (eV 2) (eCons (eTup (eCons (eV 4) (eCons (eCall h_law_name (eCons (eV 0) (eCons (eV 1) eNil))) (eCons (eOp dMul (eOp dAdd (eC (D.int 1)) (eCall h_law_draw (eCons (eV 0) (eCons (eC (D.int 3)) eNil)))) (eCall dInt (eCons (eOp dEq (eV 4) (eC (D.str (Str.ofString "array")))) eNil))) eNil)))) eNil)))))
    (dRet (eV 2)))))
noncomputable def h_law_names : DF := runD 1 5 (b_law_names)
theorem ok_law_names (T : Txt K mg A) (Dd : Dic K mg wd.params) : FnOk P wd K mg base (L2.CX P wd) (4) A.a_law_names A.d_law_names ["pool"] (spD K mg h_law_names) := by
  have G_law_draw : FnOk P wd K mg base (L2.CX P wd) (2) A.a_law_draw A.d_law_draw ["pool", "many"] (spD K mg h_law_draw) := ok_law_draw T Dd
  have G_law_name : FnOk P wd K mg base (L2.CX P wd) (3) A.a_law_name A.d_law_name ["pool", "taken"] (spD K mg h_law_name) := ok_law_name T Dd
  refine d_ok T.t_law_names.F sc_law_names (fun cdv AA outer s H E hr tk po => ?_)
  exact (lss_cons (ls_set (i := 1) sc_law_names.nd rfl (Or.inl rfl) (l_lst la_nil))
      (lss_cons (ls_set (i := 2) sc_law_names.nd rfl (Or.inl rfl) (l_lst (la_cons (l_tup (la_cons l_str (la_cons (l_call G_law_name (hr.mono (by omega)) (by rfl) T.t_law_name.g T.t_law_name.F.kp T.t_law_name.b tk (la_cons (lv 0) (la_cons (lv 1) la_nil))) (la_cons l_int la_nil)))) (la_cons (l_tup (la_cons l_str (la_cons (l_call G_law_name (hr.mono (by omega)) (by rfl) T.t_law_name.g T.t_law_name.F.kp T.t_law_name.b tk (la_cons (lv 0) (la_cons (lv 1) la_nil))) (la_cons l_int la_nil)))) la_nil))))
      (lss_cons (ls_for po rfl (pi_range1 (by rfl) T.z_range (la_cons (l_call G_law_draw (hr.mono (by omega)) (by rfl) T.t_law_draw.g T.t_law_draw.F.kp T.t_law_draw.b tk (la_cons (lv 0) (la_cons l_int la_nil))) la_nil)) io_rng1 (pg_name (i := 3) sc_law_names.nd rfl (Or.inl rfl)) (g_name 3) (lss_cons (ls_set (i := 4) sc_law_names.nd rfl (Or.inl rfl) (l_ix ixX o_ix (l_tup (la_cons l_str (la_cons l_str (la_cons l_str la_nil)))) (l_call G_law_draw (hr.mono (by omega)) (by rfl) T.t_law_draw.g T.t_law_draw.F.kp T.t_law_draw.b tk (la_cons (lv 0) (la_cons l_int la_nil))) (fun _ _ => rfl)))
      (lss_one (ls_expr (l_bm PySem.F.plainAttrs_list PySem.F.slot_list_append PySem.F.type_list_append mt_append om_append (lv 2) (la_cons (l_tup (la_cons (lv 4) (la_cons (l_call G_law_name (hr.mono (by omega)) (by rfl) T.t_law_name.g T.t_law_name.F.kp T.t_law_name.b tk (la_cons (lv 0) (la_cons (lv 1) la_nil))) (la_cons (l_op op_mulA o_mul (l_op op_addA o_add l_int (l_call G_law_draw (hr.mono (by omega)) (by rfl) T.t_law_draw.g T.t_law_draw.F.kp T.t_law_draw.b tk (la_cons (lv 0) (la_cons l_int la_nil)))) (l_callTy call_int1 o_int (by rfl) T.z_int PyProof.Rows.boot_int (la_cons (l_cmp op_eq o_eq (lv 4) l_str (nomark _)) la_nil))) la_nil)))) la_nil))))))
      (lss_one (ls_ret (lv 2))))))

noncomputable def b_law_leaf : DS := (dSeq (dSet 3 (dComp (wL (eV 2)) (tgN 5) [5] (eT (eOp dEq (eOp dIx (eV 5) (eC (D.int 0))) (eV 1))) (eV 5)))
    (dSeq (dIfS (eAnd (eT (eOp dGt (eCall dLen (eCons (eV 3) eNil)) (eC (D.int 0)))) (eT (eOp dGt (eCall h_law_draw (eCons (eV 0) (eCons (eC (D.int 3)) eNil))) (eC (D.int 0))))) (dRet (eTup (eCons (eC (D.str (Str.ofString "var"))) (eCons (eOp dIx (eOp dIx (eV 3) (eCall h_law_draw (eCons (eV 0) (eCons (eCall dLen (eCons (eV 3) eNil)) eNil)))) (eC (D.int 1))) eNil)))) dNext)
    (dSeq (dIfS (eT (eOp dEq (eV 1) (eC (D.str (Str.ofString "bool"))))) (dRet (eIf (eT (eOp dEq (eCall h_law_draw (eCons (eV 0) (eCons (eC (D.int 2)) eNil))) (eC (D.int 0)))) (eTup (eCons (eC (D.str (Str.ofString "true"))) eNil)) (eTup (eCons (eC (D.str (Str.ofString "false"))) eNil)))) dNext)
    (dSeq (dSet 4 (eCall h_law_draw (eCons (eV 0) (eCons (eC (D.int 16)) eNil))))
    (dSeq (dIfS (eT (eOp dEq (eV 4) (eC (D.int 15)))) (dRet (eTup (eCons (eC (D.str (Str.ofString "num"))) (eCons (eCall h_law_draw (eCons (eV 0) (eCons (eC (D.int 1000000000)) eNil))) eNil)))) dNext)
    (dRet (eTup (eCons (eC (D.str (Str.ofString "num"))) (eCons (eOp dMod (eV 4) (eC (D.int 5))) eNil)))))))))
noncomputable def h_law_leaf : DF := runD 3 6 (b_law_leaf)
theorem ok_law_leaf (T : Txt K mg A) (Dd : Dic K mg wd.params) : FnOk P wd K mg base (L2.CX P wd) (3) A.a_law_leaf A.d_law_leaf ["pool", "kind", "names"] (spD K mg h_law_leaf) := by
  have G_law_draw : FnOk P wd K mg base (L2.CX P wd) (2) A.a_law_draw A.d_law_draw ["pool", "many"] (spD K mg h_law_draw) := ok_law_draw T Dd
  refine d_ok T.t_law_leaf.F sc_law_leaf (fun cdv AA outer s H E hr tk po => ?_)
  exact (lss_cons (ls_setComp (i := 3) (own := [("row", 5)]) (by rfl) sc_law_leaf.nd (by rfl) (by rfl) (sw_true rfl rfl rfl (by decide +kernel)) (pi_list (lv 2)) io_list (blkOk_by (own := [("row", 5)]) (N := ["pool", "kind", "names", "fit", "size", "row"]) (sc := defScope s_law_leaf) (by decide +kernel)) (fun _ _ _ _ _ => (pg_name (i := 5) sc_law_leaf.nd rfl ((by first | exact Or.inl rfl | exact Or.inr rfl)))) (g_name 5) (by decide) (fun _ _ _ _ _ => (lts_one (lt_cmp op_eq o_eq (l_ix ixX o_ix (lv 5) l_int (fun _ _ => rfl)) (lv 1) (nomark _)))) (fun _ _ _ _ _ => (lv 5)))
      (lss_cons (ls_if (PW.pt (lw_and (lt_cmp op_gt (o_rel _) (l_callB call_lenA o_len (by rfl) T.z_len PySem.boot_len (la_cons (lv 3) la_nil)) l_int (nomark _)) (lw_and1 (lt_cmp op_gt (o_rel _) (l_call G_law_draw (hr.mono (by omega)) (by rfl) T.t_law_draw.g T.t_law_draw.F.kp T.t_law_draw.b tk (la_cons (lv 0) (la_cons l_int la_nil))) l_int (nomark _))))) (lss_one (ls_ret (l_tup (la_cons l_str (la_cons (l_ix ixX o_ix (l_ix ixX o_ix (lv 3) (l_call G_law_draw (hr.mono (by omega)) (by rfl) T.t_law_draw.g T.t_law_draw.F.kp T.t_law_draw.b tk (la_cons (lv 0) (la_cons (l_callB call_lenA o_len (by rfl) T.z_len PySem.boot_len (la_cons (lv 3) la_nil)) la_nil))) (fun _ _ => rfl)) l_int (fun _ _ => rfl)) la_nil))))) lss_nil)
      (lss_cons (ls_if (lt_cmp op_eq o_eq (lv 1) l_str (nomark _)) (lss_one (ls_ret (l_ifx (lt_cmp op_eq o_eq (l_call G_law_draw (hr.mono (by omega)) (by rfl) T.t_law_draw.g T.t_law_draw.F.kp T.t_law_draw.b tk (la_cons (lv 0) (la_cons l_int la_nil))) l_int (nomark _)) (l_tup (la_cons l_str la_nil)) (l_tup (la_cons l_str la_nil))))) lss_nil)
      (lss_cons (ls_set (i := 4) sc_law_leaf.nd rfl (Or.inl rfl) (l_call G_law_draw (hr.mono (by omega)) (by rfl) T.t_law_draw.g T.t_law_draw.F.kp T.t_law_draw.b tk (la_cons (lv 0) (la_cons l_int la_nil))))
      (lss_cons (ls_if (lt_cmp op_eq o_eq (lv 4) l_int (nomark _)) (lss_one (ls_ret (l_tup (la_cons l_str (la_cons (l_call G_law_draw (hr.mono (by omega)) (by rfl) T.t_law_draw.g T.t_law_draw.F.kp T.t_law_draw.b tk (la_cons (lv 0) (la_cons l_int la_nil))) la_nil))))) lss_nil)
      (lss_one (ls_ret (l_tup (la_cons l_str (la_cons (l_op op_modN o_mod (lv 4) l_int) la_nil))))))))))

noncomputable def b_law_expr (rec : DF) : DS := (dSeq (dIfS (eT (eOp dLe (eV 3) (eC (D.int 0)))) (dRet (eCall h_law_leaf (eCons (eV 0) (eCons (eV 1) (eCons (eV 2) eNil))))) dNext)
    (dSeq (dSet 4 (eCall h_law_draw (eCons (eV 0) (eCons (eC (D.int 14)) eNil))))
    (dSeq (dSet 5 (eOp dSub (eV 3) (eC (D.int 1))))
    (dSeq (dIfS (eT (eOp dEq (eV 4) (eC (D.int 0)))) (dSeq (dSet 6 (eCall rec (eCons (eV 0) (eCons (eC (D.str (Str.ofString "bool"))) (eCons (eV 2) (eCons (eV 5) eNil))))))
    (dSeq (dSet 7 (eCall rec (eCons (eV 0) (eCons (eV 1) (eCons (eV 2) (eCons (eV 5) eNil))))))
    (dRet (eTup (eCons (eC (D.str (Str.ofString "cond"))) (eCons (eV 6) (eCons (eV 7) (eCons (eCall rec (eCons (eV 0) (eCons (eV 1) (eCons (eV 2) (eCons (eV 5) eNil))))) eNil)))))))) dNext)
    (dSeq (dIfS (eT (eOp dGt (eV 4) (eC (D.int 10)))) (dRet (eCall h_law_leaf (eCons (eV 0) (eCons (eV 1) (eCons (eV 2) eNil))))) dNext)
    (dSeq (dIfS (eT (eOp dEq (eV 1) (eC (D.str (Str.ofString "int"))))) (dSeq (dIfS (eT (eOp dEq (eV 4) (eC (D.int 1)))) (dRet (eTup (eCons (eC (D.str (Str.ofString "neg"))) (eCons (eCall rec (eCons (eV 0) (eCons (eC (D.str (Str.ofString "int"))) (eCons (eV 2) (eCons (eV 5) eNil))))) eNil)))) dNext)
    (dSeq (dSet 9 (dComp (wL (eV 2)) (tgN 8) [8] (eT (eOp dEq (eOp dIx (eV 8) (eC (D.int 0))) (eC (D.str (Str.ofString "array"))))) (eV 8)))
    (dSeq (dIfS (eAnd (eT (eOp dEq (eV 4) (eC (D.int 2)))) (eT (eOp dGt (eCall dLen (eCons (eV 9) eNil)) (eC (D.int 0))))) (dSeq (dSet 8 (eOp dIx (eV 9) (eCall h_law_draw (eCons (eV 0) (eCons (eCall dLen (eCons (eV 9) eNil)) eNil)))))
    (dSeq (dSet 10 (eIf (eT (eOp dGt (eCall h_law_draw (eCons (eV 0) (eCons (eC (D.int 3)) eNil))) (eC (D.int 0)))) (eTup (eCons (eC (D.str (Str.ofString "num"))) (eCons (eCall h_law_draw (eCons (eV 0) (eCons (eOp dIx (eV 8) (eC (D.int 2))) eNil))) eNil))) (eCall rec (eCons (eV 0) (eCons (eC (D.str (Str.ofString "int"))) (eCons (eV 2) (eCons (eV 5) eNil)))))))
    (dRet (eTup (eCons (eC (D.str (Str.ofString "item"))) (eCons (eOp dIx (eV 8) (eC (D.int 1))) (eCons (eV 10) eNil))))))) dNext)
    (dSeq (dSet 11 (eOp dIx (eTup (eCons (eC (D.str (Str.ofString "add"))) (eCons (eC (D.str (Str.ofString "sub"))) (eCons (eC (D.str (Str.ofString "mul"))) (eCons (eC (D.str (Str.ofString "div"))) (eCons (eC (D.str (Str.ofString "mod"))) (eCons (eC (D.str (Str.ofString "min"))) (eCons (eC (D.str (Str.ofString "max"))) (eCons (eC (D.str (Str.ofString "add"))) (eCons (eC (D.str (Str.ofString "sub"))) (eCons (eC (D.str (Str.ofString "add"))) (eCons (eC (D.str (Str.ofString "sub"))) eNil)))))))))))) (eV 4)))
    (dSeq (dSet 7 (eCall rec (eCons (eV 0) (eCons (eC (D.str (Str.ofString "int"))) (eCons (eV 2) (eCons (eV 5) eNil))))))
    (dRet (eTup (eCons (eV 11) (eCons (eV 7) (eCons (eCall rec (eCons (eV 0) (eCons (eC (D.str (Str.ofString "int"))) (eCons (eV 2) (eCons (eV 5) eNil))))) eNil)))))))))) dNext)
    (dSeq (dIfS (eT (eOp dEq (eV 4) (eC (D.int 1)))) (dRet (eTup (eCons (eC (D.str (Str.ofString "not"))) (eCons (eCall rec (eCons (eV 0) (eCons (eC (D.str (Str.ofString "bool"))) (eCons (eV 2) (eCons (eV 5) eNil))))) eNil)))) dNext)
    (dSeq (dSet 12 (eC (D.str (Str.ofString "int"))))
    (dSeq (dIfS (eT (eOp dGt (eV 4) (eC (D.int 6)))) (dSet 12 (eC (D.str (Str.ofString "bool")))) dNext)
    (dSeq (dSet 11 (eOp dIx (eTup (eCons (eC (D.str (Str.ofString "lt"))) (eCons (eC (D.str (Str.ofString "le"))) (eCons (eC (D.str (Str.ofString "lt"))) (eCons (eC (D.str (Str.ofString "le"))) (eCons (eC (D.str (Str.ofString "eq"))) (eCons (eC (D.str (Str.ofString "ne"))) (eCons (eC (D.str (Str.ofString "lt"))) (eCons (eC (D.str (Str.ofString "eq"))) (eCons (eC (D.str (Str.ofString "ne"))) (eCons (eC (D.str (Str.ofString "and"))) (eCons (eC (D.str (Str.ofString "or"))) eNil)))))))))))) (eV 4)))
    (dSeq (dSet 7 (eCall rec (eCons (eV 0) (eCons (eV 12) (eCons (eV 2) (eCons (eV 5) eNil))))))
    (dRet (eTup (eCons (eV 11) (eCons (eV 7) (eCons (eCall rec (eCons (eV 0) (eCons (eV 12) (eCons (eV 2) (eCons (eV 5) eNil))))) eNil))))))))))))))))
noncomputable def h_law_expr : Nat → DF
  | 0 => badF
  | n + 1 => runD 4 13 (b_law_expr (h_law_expr n))
theorem ok_law_expr (T : Txt K mg A) (Dd : Dic K mg wd.params) : ∀ n : Nat, FnOk P wd K mg base (L2.CX P wd) (3 + 1 * n) A.a_law_expr A.d_law_expr ["pool", "kind", "names", "depth"] (spD K mg (h_law_expr n))
  | 0 => bad_ok
  | n + 1 => by
    have Frec : FnOk P wd K mg base (L2.CX P wd) (3 + 1 * n) A.a_law_expr A.d_law_expr ["pool", "kind", "names", "depth"] (spD K mg (h_law_expr n)) := ok_law_expr T Dd n
    have G_law_draw : FnOk P wd K mg base (L2.CX P wd) (2) A.a_law_draw A.d_law_draw ["pool", "many"] (spD K mg h_law_draw) := ok_law_draw T Dd
    have G_law_leaf : FnOk P wd K mg base (L2.CX P wd) (3) A.a_law_leaf A.d_law_leaf ["pool", "kind", "names"] (spD K mg h_law_leaf) := ok_law_leaf T Dd
    refine d_ok (k := 3 + 1 * n + 0) T.t_law_expr.F sc_law_expr (fun cdv AA outer s H E hr tk po => ?_)
    exact (lss_cons (ls_if (lt_cmp op_le (o_rel _) (lv 3) l_int (nomark _)) (lss_one (ls_ret (l_call G_law_leaf (hr.mono (by omega)) (by rfl) T.t_law_leaf.g T.t_law_leaf.F.kp T.t_law_leaf.b tk (la_cons (lv 0) (la_cons (lv 1) (la_cons (lv 2) la_nil)))))) lss_nil)
        (lss_cons (ls_set (i := 4) sc_law_expr.nd rfl (Or.inl rfl) (l_call G_law_draw (hr.mono (by omega)) (by rfl) T.t_law_draw.g T.t_law_draw.F.kp T.t_law_draw.b tk (la_cons (lv 0) (la_cons l_int la_nil))))
        (lss_cons (ls_set (i := 5) sc_law_expr.nd rfl (Or.inl rfl) (l_op op_sub o_sub (lv 3) l_int))
        (lss_cons (ls_if (lt_cmp op_eq o_eq (lv 4) l_int (nomark _)) (lss_cons (ls_set (i := 6) sc_law_expr.nd rfl (Or.inl rfl) (l_call Frec (hr.mono (by omega)) (by rfl) T.t_law_expr.g T.t_law_expr.F.kp T.t_law_expr.b tk (la_cons (lv 0) (la_cons l_str (la_cons (lv 2) (la_cons (lv 5) la_nil))))))
        (lss_cons (ls_set (i := 7) sc_law_expr.nd rfl (Or.inl rfl) (l_call Frec (hr.mono (by omega)) (by rfl) T.t_law_expr.g T.t_law_expr.F.kp T.t_law_expr.b tk (la_cons (lv 0) (la_cons (lv 1) (la_cons (lv 2) (la_cons (lv 5) la_nil))))))
        (lss_one (ls_ret (l_tup (la_cons l_str (la_cons (lv 6) (la_cons (lv 7) (la_cons (l_call Frec (hr.mono (by omega)) (by rfl) T.t_law_expr.g T.t_law_expr.F.kp T.t_law_expr.b tk (la_cons (lv 0) (la_cons (lv 1) (la_cons (lv 2) (la_cons (lv 5) la_nil))))) la_nil))))))))) lss_nil)
        (lss_cons (ls_if (lt_cmp op_gt (o_rel _) (lv 4) l_int (nomark _)) (lss_one (ls_ret (l_call G_law_leaf (hr.mono (by omega)) (by rfl) T.t_law_leaf.g T.t_law_leaf.F.kp T.t_law_leaf.b tk (la_cons (lv 0) (la_cons (lv 1) (la_cons (lv 2) la_nil)))))) lss_nil)
        (lss_cons (ls_if (lt_cmp op_eq o_eq (lv 1) l_str (nomark _)) (lss_cons (ls_if (lt_cmp op_eq o_eq (lv 4) l_int (nomark _)) (lss_one (ls_ret (l_tup (la_cons l_str (la_cons (l_call Frec (hr.mono (by omega)) (by rfl) T.t_law_expr.g T.t_law_expr.F.kp T.t_law_expr.b tk (la_cons (lv 0) (la_cons l_str (la_cons (lv 2) (la_cons (lv 5) la_nil))))) la_nil))))) lss_nil)
        (lss_cons (ls_setComp (i := 9) (own := [("row", 8)]) (by rfl) sc_law_expr.nd (by rfl) (by rfl) (sw_true rfl rfl rfl (by decide +kernel)) (pi_list (lv 2)) io_list (blkOk_by (own := [("row", 8)]) (N := ["pool", "kind", "names", "depth", "turn", "low", "test", "first", "row", "rows", "place", "tag", "inner"]) (sc := defScope s_law_expr) (by decide +kernel)) (fun _ _ _ _ _ => (pg_name (i := 8) sc_law_expr.nd rfl ((by first | exact Or.inl rfl | exact Or.inr rfl)))) (g_name 8) (by decide) (fun _ _ _ _ _ => (lts_one (lt_cmp op_eq o_eq (l_ix ixX o_ix (lv 8) l_int (fun _ _ => rfl)) l_str (nomark _)))) (fun _ _ _ _ _ => (lv 8)))
        (lss_cons (ls_if (PW.pt (lw_and (lt_cmp op_eq o_eq (lv 4) l_int (nomark _)) (lw_and1 (lt_cmp op_gt (o_rel _) (l_callB call_lenA o_len (by rfl) T.z_len PySem.boot_len (la_cons (lv 9) la_nil)) l_int (nomark _))))) (lss_cons (ls_set (i := 8) sc_law_expr.nd rfl (Or.inl rfl) (l_ix ixX o_ix (lv 9) (l_call G_law_draw (hr.mono (by omega)) (by rfl) T.t_law_draw.g T.t_law_draw.F.kp T.t_law_draw.b tk (la_cons (lv 0) (la_cons (l_callB call_lenA o_len (by rfl) T.z_len PySem.boot_len (la_cons (lv 9) la_nil)) la_nil))) (fun _ _ => rfl)))
        (lss_cons (ls_set (i := 10) sc_law_expr.nd rfl (Or.inl rfl) (l_ifx (lt_cmp op_gt (o_rel _) (l_call G_law_draw (hr.mono (by omega)) (by rfl) T.t_law_draw.g T.t_law_draw.F.kp T.t_law_draw.b tk (la_cons (lv 0) (la_cons l_int la_nil))) l_int (nomark _)) (l_tup (la_cons l_str (la_cons (l_call G_law_draw (hr.mono (by omega)) (by rfl) T.t_law_draw.g T.t_law_draw.F.kp T.t_law_draw.b tk (la_cons (lv 0) (la_cons (l_ix ixX o_ix (lv 8) l_int (fun _ _ => rfl)) la_nil))) la_nil))) (l_call Frec (hr.mono (by omega)) (by rfl) T.t_law_expr.g T.t_law_expr.F.kp T.t_law_expr.b tk (la_cons (lv 0) (la_cons l_str (la_cons (lv 2) (la_cons (lv 5) la_nil)))))))
        (lss_one (ls_ret (l_tup (la_cons l_str (la_cons (l_ix ixX o_ix (lv 8) l_int (fun _ _ => rfl)) (la_cons (lv 10) la_nil)))))))) lss_nil)
        (lss_cons (ls_set (i := 11) sc_law_expr.nd rfl (Or.inl rfl) (l_ix ixX o_ix (l_tup (la_cons l_str (la_cons l_str (la_cons l_str (la_cons l_str (la_cons l_str (la_cons l_str (la_cons l_str (la_cons l_str (la_cons l_str (la_cons l_str (la_cons l_str la_nil)))))))))))) (lv 4) (fun _ _ => rfl)))
        (lss_cons (ls_set (i := 7) sc_law_expr.nd rfl (Or.inl rfl) (l_call Frec (hr.mono (by omega)) (by rfl) T.t_law_expr.g T.t_law_expr.F.kp T.t_law_expr.b tk (la_cons (lv 0) (la_cons l_str (la_cons (lv 2) (la_cons (lv 5) la_nil))))))
        (lss_one (ls_ret (l_tup (la_cons (lv 11) (la_cons (lv 7) (la_cons (l_call Frec (hr.mono (by omega)) (by rfl) T.t_law_expr.g T.t_law_expr.F.kp T.t_law_expr.b tk (la_cons (lv 0) (la_cons l_str (la_cons (lv 2) (la_cons (lv 5) la_nil))))) la_nil))))))))))) lss_nil)
        (lss_cons (ls_if (lt_cmp op_eq o_eq (lv 4) l_int (nomark _)) (lss_one (ls_ret (l_tup (la_cons l_str (la_cons (l_call Frec (hr.mono (by omega)) (by rfl) T.t_law_expr.g T.t_law_expr.F.kp T.t_law_expr.b tk (la_cons (lv 0) (la_cons l_str (la_cons (lv 2) (la_cons (lv 5) la_nil))))) la_nil))))) lss_nil)
        (lss_cons (ls_set (i := 12) sc_law_expr.nd rfl (Or.inl rfl) l_str)
        (lss_cons (ls_if (lt_cmp op_gt (o_rel _) (lv 4) l_int (nomark _)) (lss_one (ls_set (i := 12) sc_law_expr.nd rfl (Or.inl rfl) l_str)) lss_nil)
        (lss_cons (ls_set (i := 11) sc_law_expr.nd rfl (Or.inl rfl) (l_ix ixX o_ix (l_tup (la_cons l_str (la_cons l_str (la_cons l_str (la_cons l_str (la_cons l_str (la_cons l_str (la_cons l_str (la_cons l_str (la_cons l_str (la_cons l_str (la_cons l_str la_nil)))))))))))) (lv 4) (fun _ _ => rfl)))
        (lss_cons (ls_set (i := 7) sc_law_expr.nd rfl (Or.inl rfl) (l_call Frec (hr.mono (by omega)) (by rfl) T.t_law_expr.g T.t_law_expr.F.kp T.t_law_expr.b tk (la_cons (lv 0) (la_cons (lv 12) (la_cons (lv 2) (la_cons (lv 5) la_nil))))))
        (lss_one (ls_ret (l_tup (la_cons (lv 11) (la_cons (lv 7) (la_cons (l_call Frec (hr.mono (by omega)) (by rfl) T.t_law_expr.g T.t_law_expr.F.kp T.t_law_expr.b tk (la_cons (lv 0) (la_cons (lv 12) (la_cons (lv 2) (la_cons (lv 5) la_nil))))) la_nil)))))))))))))))))

noncomputable def b_law_amounts : DS := (dSeq (dIfS (eT (eOp dGt (eCall h_law_draw (eCons (eV 0) (eCons (eC (D.int 4)) eNil))) (eC (D.int 0)))) (dSeq (dSet 2 (eOp dAdd (eC (D.int 1)) (eCall h_law_draw (eCons (eV 0) (eCons (eC (D.int 5)) eNil)))))
    (dRet (eTup (eCons (eTup (eCons (eC (D.str (Str.ofString "num"))) (eCons (eCall dMin2 (eCons (eV 2) (eCons (eOp dAdd (eCall h_law_draw (eCons (eV 0) (eCons (eV 2) eNil))) (eCall h_law_draw (eCons (eV 0) (eCons (eC (D.int 2)) eNil)))) eNil))) eNil))) (eCons (eTup (eCons (eC (D.str (Str.ofString "num"))) (eCons (eV 2) eNil))) eNil))))) dNext)
    (dSeq (dSet 3 (eCall (h_law_expr 3) (eCons (eV 0) (eCons (eC (D.str (Str.ofString "int"))) (eCons (eV 1) (eCons (eC (D.int 1)) eNil))))))
    (dRet (eTup (eCons (eV 3) (eCons (eTup (eCons (eC (D.str (Str.ofString "add"))) (eCons (eV 3) (eCons (eCall (h_law_expr 3) (eCons (eV 0) (eCons (eC (D.str (Str.ofString "int"))) (eCons (eV 1) (eCons (eC (D.int 1)) eNil))))) eNil)))) eNil))))))
noncomputable def h_law_amounts : DF := runD 2 4 (b_law_amounts)
theorem ok_law_amounts (T : Txt K mg A) (Dd : Dic K mg wd.params) : FnOk P wd K mg base (L2.CX P wd) (7) A.a_law_amounts A.d_law_amounts ["pool", "names"] (spD K mg h_law_amounts) := by
  have G_law_draw : FnOk P wd K mg base (L2.CX P wd) (2) A.a_law_draw A.d_law_draw ["pool", "many"] (spD K mg h_law_draw) := ok_law_draw T Dd
  have G_law_expr : FnOk P wd K mg base (L2.CX P wd) (6) A.a_law_expr A.d_law_expr ["pool", "kind", "names", "depth"] (spD K mg (h_law_expr 3)) := ok_law_expr T Dd 3
  refine d_ok T.t_law_amounts.F sc_law_amounts (fun cdv AA outer s H E hr tk po => ?_)
  exact (lss_cons (ls_if (lt_cmp op_gt (o_rel _) (l_call G_law_draw (hr.mono (by omega)) (by rfl) T.t_law_draw.g T.t_law_draw.F.kp T.t_law_draw.b tk (la_cons (lv 0) (la_cons l_int la_nil))) l_int (nomark _)) (lss_cons (ls_set (i := 2) sc_law_amounts.nd rfl (Or.inl rfl) (l_op op_addA o_add l_int (l_call G_law_draw (hr.mono (by omega)) (by rfl) T.t_law_draw.g T.t_law_draw.F.kp T.t_law_draw.b tk (la_cons (lv 0) (la_cons l_int la_nil)))))
      (lss_one (ls_ret (l_tup (la_cons (l_tup (la_cons l_str (la_cons (l_callB (call_min2 rfl) o_min2 (by rfl) T.z_min (by decide +kernel) (la_cons (lv 2) (la_cons (l_op op_addA o_add (l_call G_law_draw (hr.mono (by omega)) (by rfl) T.t_law_draw.g T.t_law_draw.F.kp T.t_law_draw.b tk (la_cons (lv 0) (la_cons (lv 2) la_nil))) (l_call G_law_draw (hr.mono (by omega)) (by rfl) T.t_law_draw.g T.t_law_draw.F.kp T.t_law_draw.b tk (la_cons (lv 0) (la_cons l_int la_nil)))) la_nil))) la_nil))) (la_cons (l_tup (la_cons l_str (la_cons (lv 2) la_nil))) la_nil)))))) lss_nil)
      (lss_cons (ls_set (i := 3) sc_law_amounts.nd rfl (Or.inl rfl) (l_call G_law_expr (hr.mono (by omega)) (by rfl) T.t_law_expr.g T.t_law_expr.F.kp T.t_law_expr.b tk (la_cons (lv 0) (la_cons l_str (la_cons (lv 1) (la_cons l_int la_nil))))))
      (lss_one (ls_ret (l_tup (la_cons (lv 3) (la_cons (l_tup (la_cons l_str (la_cons (lv 3) (la_cons (l_call G_law_expr (hr.mono (by omega)) (by rfl) T.t_law_expr.g T.t_law_expr.F.kp T.t_law_expr.b tk (la_cons (lv 0) (la_cons l_str (la_cons (lv 1) (la_cons l_int la_nil))))) la_nil)))) la_nil)))))))

noncomputable def b_law_drawing : DS := (dSeq (dIfS (eAnd (eT (eOp dEq (eOp dIx (eV 2) (eC (D.int 0))) (eC (D.str (Str.ofString "bool"))))) (eT (eOp dGt (eCall h_law_draw (eCons (eV 0) (eCons (eC (D.int 3)) eNil))) (eC (D.int 0))))) (dSeq (dSet 3 (eCall h_law_amounts (eCons (eV 0) (eCons (eV 1) eNil))))
    (dRet (eTup (eCons (eC (D.str (Str.ofString "flip"))) (eCons (eOp dIx (eV 2) (eC (D.int 1))) (eCons (eOp dIx (eV 3) (eC (D.int 0))) (eCons (eOp dIx (eV 3) (eC (D.int 1))) eNil))))))) dNext)
    (dSeq (dIfS (eAnd (eT (eOp dEq (eOp dIx (eV 2) (eC (D.int 0))) (eC (D.str (Str.ofString "int"))))) (eT (eOp dEq (eCall h_law_draw (eCons (eV 0) (eCons (eC (D.int 2)) eNil))) (eC (D.int 0))))) (dSeq (dSet 4 (eCall (h_law_expr 3) (eCons (eV 0) (eCons (eC (D.str (Str.ofString "int"))) (eCons (eV 1) (eCons (eCall h_law_draw (eCons (eV 0) (eCons (eC (D.int 2)) eNil))) eNil))))))
    (dRet (eTup (eCons (eC (D.str (Str.ofString "uniform"))) (eCons (eOp dIx (eV 2) (eC (D.int 1))) (eCons (eV 4) (eCons (eTup (eCons (eC (D.str (Str.ofString "add"))) (eCons (eV 4) (eCons (eTup (eCons (eC (D.str (Str.ofString "num"))) (eCons (eOp dIx (eTup (eCons (eC (D.int 0)) (eCons (eC (D.int 1)) (eCons (eC (D.int 1)) (eCons (eC (D.int 2)) (eCons (eC (D.int 2)) (eCons (eC (D.int 3)) eNil))))))) (eCall h_law_draw (eCons (eV 0) (eCons (eC (D.int 6)) eNil)))) eNil))) eNil)))) eNil))))))) dNext)
    (dSeq (dSet 5 (eLst eNil))
    (dSeq (dFor (wR1 (eCons (eOp dIx (eTup (eCons (eC (D.int 1)) (eCons (eC (D.int 2)) (eCons (eC (D.int 2)) (eCons (eC (D.int 2)) (eCons (eC (D.int 3)) eNil)))))) (eCall h_law_draw (eCons (eV 0) (eCons (eC (D.int 5)) eNil)))) eNil)) (tgN 6) (dSeq (dSet 7 (eCall (h_law_expr 3) (eCons (eV 0) (eCons (eOp dIx (eV 2) (eC (D.int 0))) (eCons (eV 1) (eCons (eC (D.int 1)) eNil))))))
    (dSeq (dSet 8 (eTup (eCons (eC (D.str (Str.ofString "num"))) (eCons (eOp dAdd (eCall dInt (eCons (eOp dEq (eV 6) (eC (D.int 0))) eNil)) (eCall h_law_draw (eCons (eV 0) (eCons (eC (D.int 4)) eNil)))) eNil))))
    (dSeq (dIfS (eT (eOp dEq (eCall h_law_draw (eCons (eV 0) (eCons (eC (D.int 7)) eNil))) (eC (D.int 0)))) (dSet 8 (eCall (h_law_expr 3) (eCons (eV 0) (eCons (eC (D.str (Str.ofString "int"))) (eCons (eV 1) (eCons (eC (D.int 1)) eNil)))))) dNext)
    (dExpr (eMeth "list" mAppend (eV 5) (eCons (eTup (eCons (eV 7) (eCons (eV 8) eNil))) eNil)))))))
    (dRet (eTup (eCons (eC (D.str (Str.ofString "pick"))) (eCons (eOp dIx (eV 2) (eC (D.int 1))) (eCons (eCall dTuple (eCons (eV 5) eNil)) eNil)))))))))
noncomputable def h_law_drawing : DF := runD 3 9 (b_law_drawing)
theorem ok_law_drawing (T : Txt K mg A) (Dd : Dic K mg wd.params) : FnOk P wd K mg base (L2.CX P wd) (8) A.a_law_drawing A.d_law_drawing ["pool", "names", "row"] (spD K mg h_law_drawing) := by
  have G_law_draw : FnOk P wd K mg base (L2.CX P wd) (2) A.a_law_draw A.d_law_draw ["pool", "many"] (spD K mg h_law_draw) := ok_law_draw T Dd
  have G_law_expr : FnOk P wd K mg base (L2.CX P wd) (6) A.a_law_expr A.d_law_expr ["pool", "kind", "names", "depth"] (spD K mg (h_law_expr 3)) := ok_law_expr T Dd 3
  have G_law_amounts : FnOk P wd K mg base (L2.CX P wd) (7) A.a_law_amounts A.d_law_amounts ["pool", "names"] (spD K mg h_law_amounts) := ok_law_amounts T Dd
  refine d_ok T.t_law_drawing.F sc_law_drawing (fun cdv AA outer s H E hr tk po => ?_)
  exact (lss_cons (ls_if (PW.pt (lw_and (lt_cmp op_eq o_eq (l_ix ixX o_ix (lv 2) l_int (fun _ _ => rfl)) l_str (nomark _)) (lw_and1 (lt_cmp op_gt (o_rel _) (l_call G_law_draw (hr.mono (by omega)) (by rfl) T.t_law_draw.g T.t_law_draw.F.kp T.t_law_draw.b tk (la_cons (lv 0) (la_cons l_int la_nil))) l_int (nomark _))))) (lss_cons (ls_set (i := 3) sc_law_drawing.nd rfl (Or.inl rfl) (l_call G_law_amounts (hr.mono (by omega)) (by rfl) T.t_law_amounts.g T.t_law_amounts.F.kp T.t_law_amounts.b tk (la_cons (lv 0) (la_cons (lv 1) la_nil))))
      (lss_one (ls_ret (l_tup (la_cons l_str (la_cons (l_ix ixX o_ix (lv 2) l_int (fun _ _ => rfl)) (la_cons (l_ix ixX o_ix (lv 3) l_int (fun _ _ => rfl)) (la_cons (l_ix ixX o_ix (lv 3) l_int (fun _ _ => rfl)) la_nil)))))))) lss_nil)
      (lss_cons (ls_if (PW.pt (lw_and (lt_cmp op_eq o_eq (l_ix ixX o_ix (lv 2) l_int (fun _ _ => rfl)) l_str (nomark _)) (lw_and1 (lt_cmp op_eq o_eq (l_call G_law_draw (hr.mono (by omega)) (by rfl) T.t_law_draw.g T.t_law_draw.F.kp T.t_law_draw.b tk (la_cons (lv 0) (la_cons l_int la_nil))) l_int (nomark _))))) (lss_cons (ls_set (i := 4) sc_law_drawing.nd rfl (Or.inl rfl) (l_call G_law_expr (hr.mono (by omega)) (by rfl) T.t_law_expr.g T.t_law_expr.F.kp T.t_law_expr.b tk (la_cons (lv 0) (la_cons l_str (la_cons (lv 1) (la_cons (l_call G_law_draw (hr.mono (by omega)) (by rfl) T.t_law_draw.g T.t_law_draw.F.kp T.t_law_draw.b tk (la_cons (lv 0) (la_cons l_int la_nil))) la_nil))))))
      (lss_one (ls_ret (l_tup (la_cons l_str (la_cons (l_ix ixX o_ix (lv 2) l_int (fun _ _ => rfl)) (la_cons (lv 4) (la_cons (l_tup (la_cons l_str (la_cons (lv 4) (la_cons (l_tup (la_cons l_str (la_cons (l_ix ixX o_ix (l_tup (la_cons l_int (la_cons l_int (la_cons l_int (la_cons l_int (la_cons l_int (la_cons l_int la_nil))))))) (l_call G_law_draw (hr.mono (by omega)) (by rfl) T.t_law_draw.g T.t_law_draw.F.kp T.t_law_draw.b tk (la_cons (lv 0) (la_cons l_int la_nil))) (fun _ _ => rfl)) la_nil))) la_nil)))) la_nil)))))))) lss_nil)
      (lss_cons (ls_set (i := 5) sc_law_drawing.nd rfl (Or.inl rfl) (l_lst la_nil))
      (lss_cons (ls_for po rfl (pi_range1 (by rfl) T.z_range (la_cons (l_ix ixX o_ix (l_tup (la_cons l_int (la_cons l_int (la_cons l_int (la_cons l_int (la_cons l_int la_nil)))))) (l_call G_law_draw (hr.mono (by omega)) (by rfl) T.t_law_draw.g T.t_law_draw.F.kp T.t_law_draw.b tk (la_cons (lv 0) (la_cons l_int la_nil))) (fun _ _ => rfl)) la_nil)) io_rng1 (pg_name (i := 6) sc_law_drawing.nd rfl (Or.inl rfl)) (g_name 6) (lss_cons (ls_set (i := 7) sc_law_drawing.nd rfl (Or.inl rfl) (l_call G_law_expr (hr.mono (by omega)) (by rfl) T.t_law_expr.g T.t_law_expr.F.kp T.t_law_expr.b tk (la_cons (lv 0) (la_cons (l_ix ixX o_ix (lv 2) l_int (fun _ _ => rfl)) (la_cons (lv 1) (la_cons l_int la_nil))))))
      (lss_cons (ls_set (i := 8) sc_law_drawing.nd rfl (Or.inl rfl) (l_tup (la_cons l_str (la_cons (l_op op_addA o_add (l_callTy call_int1 o_int (by rfl) T.z_int PyProof.Rows.boot_int (la_cons (l_cmp op_eq o_eq (lv 6) l_int (nomark _)) la_nil)) (l_call G_law_draw (hr.mono (by omega)) (by rfl) T.t_law_draw.g T.t_law_draw.F.kp T.t_law_draw.b tk (la_cons (lv 0) (la_cons l_int la_nil)))) la_nil))))
      (lss_cons (ls_if (lt_cmp op_eq o_eq (l_call G_law_draw (hr.mono (by omega)) (by rfl) T.t_law_draw.g T.t_law_draw.F.kp T.t_law_draw.b tk (la_cons (lv 0) (la_cons l_int la_nil))) l_int (nomark _)) (lss_one (ls_set (i := 8) sc_law_drawing.nd rfl (Or.inl rfl) (l_call G_law_expr (hr.mono (by omega)) (by rfl) T.t_law_expr.g T.t_law_expr.F.kp T.t_law_expr.b tk (la_cons (lv 0) (la_cons l_str (la_cons (lv 1) (la_cons l_int la_nil))))))) lss_nil)
      (lss_one (ls_expr (l_bm PySem.F.plainAttrs_list PySem.F.slot_list_append PySem.F.type_list_append mt_append om_append (lv 5) (la_cons (l_tup (la_cons (lv 7) (la_cons (lv 8) la_nil))) la_nil))))))))
      (lss_one (ls_ret (l_tup (la_cons l_str (la_cons (l_ix ixX o_ix (lv 2) l_int (fun _ _ => rfl)) (la_cons (l_callTy call_tuple_of o_tuple (by rfl) T.z_tuple PyProof.Rows.boot_tuple (la_cons (lv 5) la_nil)) la_nil))))))))))

noncomputable def b_law_calling : DS := (dSeq (dSet 4 (eOp dIx (eV 2) (eCall h_law_draw (eCons (eV 0) (eCons (eCall dLen (eCons (eV 2) eNil)) eNil)))))
    (dSeq (dSet 5 (dComp (wL (eV 3)) (tgN 8) [8] (eT (eOp dEq (eOp dIx (eV 8) (eC (D.int 0))) (eOp dIx (eV 4) (eC (D.int 1))))) (eV 8)))
    (dSeq (dIfS (eT (eOp dEq (eCall dLen (eCons (eV 5) eNil)) (eC (D.int 0)))) (dRet (eTup (eCons (eC (D.str (Str.ofString "skip"))) eNil))) dNext)
    (dSeq (dSet 6 (eLst eNil))
    (dSeq (dFor (wT (eOp dIx (eV 4) (eC (D.int 2)))) (tgN 7) (dExpr (eMeth "list" mAppend (eV 6) (eCons (eCall (h_law_expr 3) (eCons (eV 0) (eCons (eV 7) (eCons (eV 1) (eCons (eC (D.int 1)) eNil))))) eNil))))
    (dRet (eTup (eCons (eC (D.str (Str.ofString "call"))) (eCons (eOp dIx (eV 4) (eC (D.int 0))) (eCons (eCall dTuple (eCons (eV 6) eNil)) (eCons (eOp dIx (eOp dIx (eV 5) (eCall h_law_draw (eCons (eV 0) (eCons (eCall dLen (eCons (eV 5) eNil)) eNil)))) (eC (D.int 1))) eNil)))))))))))
noncomputable def h_law_calling : DF := runD 4 9 (b_law_calling)
theorem ok_law_calling (T : Txt K mg A) (Dd : Dic K mg wd.params) : FnOk P wd K mg base (L2.CX P wd) (7) A.a_law_calling A.d_law_calling ["pool", "names", "procs", "targets"] (spD K mg h_law_calling) := by
  have G_law_draw : FnOk P wd K mg base (L2.CX P wd) (2) A.a_law_draw A.d_law_draw ["pool", "many"] (spD K mg h_law_draw) := ok_law_draw T Dd
  have G_law_expr : FnOk P wd K mg base (L2.CX P wd) (6) A.a_law_expr A.d_law_expr ["pool", "kind", "names", "depth"] (spD K mg (h_law_expr 3)) := ok_law_expr T Dd 3
  refine d_ok T.t_law_calling.F sc_law_calling (fun cdv AA outer s H E hr tk po => ?_)
  exact (lss_cons (ls_set (i := 4) sc_law_calling.nd rfl (Or.inr rfl) (l_ix ixX o_ix (lv 2) (l_call G_law_draw (hr.mono (by omega)) (by rfl) T.t_law_draw.g T.t_law_draw.F.kp T.t_law_draw.b tk (la_cons (lv 0) (la_cons (l_callB call_lenA o_len (by rfl) T.z_len PySem.boot_len (la_cons (lv 2) la_nil)) la_nil))) (fun _ _ => rfl)))
      (lss_cons (ls_setComp (i := 5) (own := [("row", 8)]) (by rfl) sc_law_calling.nd (by rfl) (by rfl) (sw_true rfl rfl rfl (by decide +kernel)) (pi_list (lv 3)) io_list (blkOk_by (own := [("row", 8)]) (N := ["pool", "names", "procs", "targets", "proc", "fit", "arguments", "kind", "row"]) (sc := defScope s_law_calling) (by decide +kernel)) (fun _ _ _ _ _ => (pg_name (i := 8) sc_law_calling.nd rfl ((by first | exact Or.inl rfl | exact Or.inr rfl)))) (g_name 8) (by decide) (fun _ _ _ _ _ => (lts_one (lt_cmp op_eq o_eq (l_ix ixX o_ix (lv 8) l_int (fun _ _ => rfl)) (l_ix ixX o_ix (lv 4) l_int (fun _ _ => rfl)) (nomark _)))) (fun _ _ _ _ _ => (lv 8)))
      (lss_cons (ls_if (lt_cmp op_eq o_eq (l_callB call_lenA o_len (by rfl) T.z_len PySem.boot_len (la_cons (lv 5) la_nil)) l_int (nomark _)) (lss_one (ls_ret (l_tup (la_cons l_str la_nil)))) lss_nil)
      (lss_cons (ls_set (i := 6) sc_law_calling.nd rfl (Or.inl rfl) (l_lst la_nil))
      (lss_cons (ls_for po rfl (pi_tup (l_ix ixX o_ix (lv 4) l_int (fun _ _ => rfl))) io_tup (pg_name (i := 7) sc_law_calling.nd rfl (Or.inl rfl)) (g_name 7) (lss_one (ls_expr (l_bm PySem.F.plainAttrs_list PySem.F.slot_list_append PySem.F.type_list_append mt_append om_append (lv 6) (la_cons (l_call G_law_expr (hr.mono (by omega)) (by rfl) T.t_law_expr.g T.t_law_expr.F.kp T.t_law_expr.b tk (la_cons (lv 0) (la_cons (lv 7) (la_cons (lv 1) (la_cons l_int la_nil))))) la_nil)))))
      (lss_one (ls_ret (l_tup (la_cons l_str (la_cons (l_ix ixX o_ix (lv 4) l_int (fun _ _ => rfl)) (la_cons (l_callTy call_tuple_of o_tuple (by rfl) T.z_tuple PyProof.Rows.boot_tuple (la_cons (lv 6) la_nil)) (la_cons (l_ix ixX o_ix (l_ix ixX o_ix (lv 5) (l_call G_law_draw (hr.mono (by omega)) (by rfl) T.t_law_draw.g T.t_law_draw.F.kp T.t_law_draw.b tk (la_cons (lv 0) (la_cons (l_callB call_lenA o_len (by rfl) T.z_len PySem.boot_len (la_cons (lv 5) la_nil)) la_nil))) (fun _ _ => rfl)) l_int (fun _ _ => rfl)) la_nil))))))))))))

noncomputable def b_law_simple : DS := (dSeq (dSet 4 (eOp dIx (eV 2) (eCall h_law_draw (eCons (eV 0) (eCons (eCall dLen (eCons (eV 2) eNil)) eNil)))))
    (dSeq (dSet 6 (dComp (wL (eV 1)) (tgN 5) [5] (eT (eOp dEq (eOp dIx (eV 5) (eC (D.int 0))) (eC (D.str (Str.ofString "array"))))) (eV 5)))
    (dSeq (dIfS (eT (eOp dEq (eV 3) (eC (D.int 0)))) (dRet (eTup (eCons (eC (D.str (Str.ofString "observe"))) (eCons (eTup (eCons (eC (D.str (Str.ofString "or"))) (eCons (eCall (h_law_expr 3) (eCons (eV 0) (eCons (eC (D.str (Str.ofString "bool"))) (eCons (eV 1) (eCons (eC (D.int 1)) eNil))))) (eCons (eTup (eCons (eC (D.str (Str.ofString "le"))) (eCons (eCall (h_law_expr 3) (eCons (eV 0) (eCons (eC (D.str (Str.ofString "int"))) (eCons (eV 1) (eCons (eC (D.int 1)) eNil))))) (eCons (eTup (eCons (eC (D.str (Str.ofString "num"))) (eCons (eOp dAdd (eC (D.int 1)) (eCall h_law_draw (eCons (eV 0) (eCons (eC (D.int 2)) eNil)))) eNil))) eNil)))) eNil)))) eNil)))) dNext)
    (dSeq (dIfS (eT (eOp dEq (eV 3) (eC (D.int 1)))) (dRet (eTup (eCons (eC (D.str (Str.ofString "assert"))) (eCons (eTup (eCons (eC (D.str (Str.ofString "or"))) (eCons (eCall (h_law_expr 3) (eCons (eV 0) (eCons (eC (D.str (Str.ofString "bool"))) (eCons (eV 1) (eCons (eC (D.int 1)) eNil))))) (eCons (eTup (eCons (eC (D.str (Str.ofString "le"))) (eCons (eTup (eCons (eC (D.str (Str.ofString "num"))) (eCons (eC (D.int 0)) eNil))) (eCons (eCall (h_law_expr 3) (eCons (eV 0) (eCons (eC (D.str (Str.ofString "int"))) (eCons (eV 1) (eCons (eC (D.int 1)) eNil))))) eNil)))) eNil)))) eNil)))) dNext)
    (dSeq (dIfS (eT (eOp dEq (eV 3) (eC (D.int 2)))) (dSeq (dSet 7 (eCall h_law_amounts (eCons (eV 0) (eCons (eV 1) eNil))))
    (dRet (eTup (eCons (eC (D.str (Str.ofString "weigh"))) (eCons (eOp dIx (eV 7) (eC (D.int 0))) (eCons (eOp dIx (eV 7) (eC (D.int 1))) eNil)))))) dNext)
    (dSeq (dIfS (eAnd (eT (eOp dEq (eV 3) (eC (D.int 3)))) (eT (eOp dGt (eCall dLen (eCons (eV 6) eNil)) (eC (D.int 0))))) (dSeq (dSet 5 (eOp dIx (eV 6) (eCall h_law_draw (eCons (eV 0) (eCons (eCall dLen (eCons (eV 6) eNil)) eNil)))))
    (dSeq (dSet 8 (eIf (eT (eOp dGt (eCall h_law_draw (eCons (eV 0) (eCons (eC (D.int 3)) eNil))) (eC (D.int 0)))) (eTup (eCons (eC (D.str (Str.ofString "num"))) (eCons (eCall h_law_draw (eCons (eV 0) (eCons (eOp dIx (eV 5) (eC (D.int 2))) eNil))) eNil))) (eCall (h_law_expr 3) (eCons (eV 0) (eCons (eC (D.str (Str.ofString "int"))) (eCons (eV 1) (eCons (eC (D.int 1)) eNil)))))))
    (dRet (eTup (eCons (eC (D.str (Str.ofString "store"))) (eCons (eOp dIx (eV 5) (eC (D.int 1))) (eCons (eV 8) (eCons (eCall (h_law_expr 3) (eCons (eV 0) (eCons (eC (D.str (Str.ofString "int"))) (eCons (eV 1) (eCons (eC (D.int 1)) eNil))))) eNil)))))))) dNext)
    (dSeq (dIfS (eAnd (eT (eOp dEq (eV 3) (eC (D.int 4)))) (eT (eOp dEq (eCall h_law_draw (eCons (eV 0) (eCons (eC (D.int 6)) eNil))) (eC (D.int 0))))) (dRet (eTup (eCons (eC (D.str (Str.ofString "fail"))) eNil))) dNext)
    (dSeq (dIfS (eT (eOp dLt (eV 3) (eC (D.int 7)))) (dRet (eTup (eCons (eC (D.str (Str.ofString "set"))) (eCons (eOp dIx (eV 4) (eC (D.int 1))) (eCons (eCall (h_law_expr 3) (eCons (eV 0) (eCons (eOp dIx (eV 4) (eC (D.int 0))) (eCons (eV 1) (eCons (eOp dAdd (eC (D.int 1)) (eCall h_law_draw (eCons (eV 0) (eCons (eC (D.int 2)) eNil)))) eNil))))) eNil))))) dNext)
    (dRet (eCall h_law_drawing (eCons (eV 0) (eCons (eV 1) (eCons (eV 4) eNil)))))))))))))
noncomputable def h_law_simple : DF := runD 4 9 (b_law_simple)
theorem ok_law_simple (T : Txt K mg A) (Dd : Dic K mg wd.params) : FnOk P wd K mg base (L2.CX P wd) (9) A.a_law_simple A.d_law_simple ["pool", "names", "targets", "turn"] (spD K mg h_law_simple) := by
  have G_law_draw : FnOk P wd K mg base (L2.CX P wd) (2) A.a_law_draw A.d_law_draw ["pool", "many"] (spD K mg h_law_draw) := ok_law_draw T Dd
  have G_law_expr : FnOk P wd K mg base (L2.CX P wd) (6) A.a_law_expr A.d_law_expr ["pool", "kind", "names", "depth"] (spD K mg (h_law_expr 3)) := ok_law_expr T Dd 3
  have G_law_amounts : FnOk P wd K mg base (L2.CX P wd) (7) A.a_law_amounts A.d_law_amounts ["pool", "names"] (spD K mg h_law_amounts) := ok_law_amounts T Dd
  have G_law_drawing : FnOk P wd K mg base (L2.CX P wd) (8) A.a_law_drawing A.d_law_drawing ["pool", "names", "row"] (spD K mg h_law_drawing) := ok_law_drawing T Dd
  refine d_ok T.t_law_simple.F sc_law_simple (fun cdv AA outer s H E hr tk po => ?_)
  exact (lss_cons (ls_set (i := 4) sc_law_simple.nd rfl (Or.inl rfl) (l_ix ixX o_ix (lv 2) (l_call G_law_draw (hr.mono (by omega)) (by rfl) T.t_law_draw.g T.t_law_draw.F.kp T.t_law_draw.b tk (la_cons (lv 0) (la_cons (l_callB call_lenA o_len (by rfl) T.z_len PySem.boot_len (la_cons (lv 2) la_nil)) la_nil))) (fun _ _ => rfl)))
      (lss_cons (ls_setComp (i := 6) (own := [("one", 5)]) (by rfl) sc_law_simple.nd (by rfl) (by rfl) (sw_true rfl rfl rfl (by decide +kernel)) (pi_list (lv 1)) io_list (blkOk_by (own := [("one", 5)]) (N := ["pool", "names", "targets", "turn", "row", "one", "rows", "pair", "place"]) (sc := defScope s_law_simple) (by decide +kernel)) (fun _ _ _ _ _ => (pg_name (i := 5) sc_law_simple.nd rfl ((by first | exact Or.inl rfl | exact Or.inr rfl)))) (g_name 5) (by decide) (fun _ _ _ _ _ => (lts_one (lt_cmp op_eq o_eq (l_ix ixX o_ix (lv 5) l_int (fun _ _ => rfl)) l_str (nomark _)))) (fun _ _ _ _ _ => (lv 5)))
      (lss_cons (ls_if (lt_cmp op_eq o_eq (lv 3) l_int (nomark _)) (lss_one (ls_ret (l_tup (la_cons l_str (la_cons (l_tup (la_cons l_str (la_cons (l_call G_law_expr (hr.mono (by omega)) (by rfl) T.t_law_expr.g T.t_law_expr.F.kp T.t_law_expr.b tk (la_cons (lv 0) (la_cons l_str (la_cons (lv 1) (la_cons l_int la_nil))))) (la_cons (l_tup (la_cons l_str (la_cons (l_call G_law_expr (hr.mono (by omega)) (by rfl) T.t_law_expr.g T.t_law_expr.F.kp T.t_law_expr.b tk (la_cons (lv 0) (la_cons l_str (la_cons (lv 1) (la_cons l_int la_nil))))) (la_cons (l_tup (la_cons l_str (la_cons (l_op op_addA o_add l_int (l_call G_law_draw (hr.mono (by omega)) (by rfl) T.t_law_draw.g T.t_law_draw.F.kp T.t_law_draw.b tk (la_cons (lv 0) (la_cons l_int la_nil)))) la_nil))) la_nil)))) la_nil)))) la_nil))))) lss_nil)
      (lss_cons (ls_if (lt_cmp op_eq o_eq (lv 3) l_int (nomark _)) (lss_one (ls_ret (l_tup (la_cons l_str (la_cons (l_tup (la_cons l_str (la_cons (l_call G_law_expr (hr.mono (by omega)) (by rfl) T.t_law_expr.g T.t_law_expr.F.kp T.t_law_expr.b tk (la_cons (lv 0) (la_cons l_str (la_cons (lv 1) (la_cons l_int la_nil))))) (la_cons (l_tup (la_cons l_str (la_cons (l_tup (la_cons l_str (la_cons l_int la_nil))) (la_cons (l_call G_law_expr (hr.mono (by omega)) (by rfl) T.t_law_expr.g T.t_law_expr.F.kp T.t_law_expr.b tk (la_cons (lv 0) (la_cons l_str (la_cons (lv 1) (la_cons l_int la_nil))))) la_nil)))) la_nil)))) la_nil))))) lss_nil)
      (lss_cons (ls_if (lt_cmp op_eq o_eq (lv 3) l_int (nomark _)) (lss_cons (ls_set (i := 7) sc_law_simple.nd rfl (Or.inl rfl) (l_call G_law_amounts (hr.mono (by omega)) (by rfl) T.t_law_amounts.g T.t_law_amounts.F.kp T.t_law_amounts.b tk (la_cons (lv 0) (la_cons (lv 1) la_nil))))
      (lss_one (ls_ret (l_tup (la_cons l_str (la_cons (l_ix ixX o_ix (lv 7) l_int (fun _ _ => rfl)) (la_cons (l_ix ixX o_ix (lv 7) l_int (fun _ _ => rfl)) la_nil))))))) lss_nil)
      (lss_cons (ls_if (PW.pt (lw_and (lt_cmp op_eq o_eq (lv 3) l_int (nomark _)) (lw_and1 (lt_cmp op_gt (o_rel _) (l_callB call_lenA o_len (by rfl) T.z_len PySem.boot_len (la_cons (lv 6) la_nil)) l_int (nomark _))))) (lss_cons (ls_set (i := 5) sc_law_simple.nd rfl (Or.inl rfl) (l_ix ixX o_ix (lv 6) (l_call G_law_draw (hr.mono (by omega)) (by rfl) T.t_law_draw.g T.t_law_draw.F.kp T.t_law_draw.b tk (la_cons (lv 0) (la_cons (l_callB call_lenA o_len (by rfl) T.z_len PySem.boot_len (la_cons (lv 6) la_nil)) la_nil))) (fun _ _ => rfl)))
      (lss_cons (ls_set (i := 8) sc_law_simple.nd rfl (Or.inl rfl) (l_ifx (lt_cmp op_gt (o_rel _) (l_call G_law_draw (hr.mono (by omega)) (by rfl) T.t_law_draw.g T.t_law_draw.F.kp T.t_law_draw.b tk (la_cons (lv 0) (la_cons l_int la_nil))) l_int (nomark _)) (l_tup (la_cons l_str (la_cons (l_call G_law_draw (hr.mono (by omega)) (by rfl) T.t_law_draw.g T.t_law_draw.F.kp T.t_law_draw.b tk (la_cons (lv 0) (la_cons (l_ix ixX o_ix (lv 5) l_int (fun _ _ => rfl)) la_nil))) la_nil))) (l_call G_law_expr (hr.mono (by omega)) (by rfl) T.t_law_expr.g T.t_law_expr.F.kp T.t_law_expr.b tk (la_cons (lv 0) (la_cons l_str (la_cons (lv 1) (la_cons l_int la_nil)))))))
      (lss_one (ls_ret (l_tup (la_cons l_str (la_cons (l_ix ixX o_ix (lv 5) l_int (fun _ _ => rfl)) (la_cons (lv 8) (la_cons (l_call G_law_expr (hr.mono (by omega)) (by rfl) T.t_law_expr.g T.t_law_expr.F.kp T.t_law_expr.b tk (la_cons (lv 0) (la_cons l_str (la_cons (lv 1) (la_cons l_int la_nil))))) la_nil))))))))) lss_nil)
      (lss_cons (ls_if (PW.pt (lw_and (lt_cmp op_eq o_eq (lv 3) l_int (nomark _)) (lw_and1 (lt_cmp op_eq o_eq (l_call G_law_draw (hr.mono (by omega)) (by rfl) T.t_law_draw.g T.t_law_draw.F.kp T.t_law_draw.b tk (la_cons (lv 0) (la_cons l_int la_nil))) l_int (nomark _))))) (lss_one (ls_ret (l_tup (la_cons l_str la_nil)))) lss_nil)
      (lss_cons (ls_if (lt_cmp op_lt (o_rel _) (lv 3) l_int (nomark _)) (lss_one (ls_ret (l_tup (la_cons l_str (la_cons (l_ix ixX o_ix (lv 4) l_int (fun _ _ => rfl)) (la_cons (l_call G_law_expr (hr.mono (by omega)) (by rfl) T.t_law_expr.g T.t_law_expr.F.kp T.t_law_expr.b tk (la_cons (lv 0) (la_cons (l_ix ixX o_ix (lv 4) l_int (fun _ _ => rfl)) (la_cons (lv 1) (la_cons (l_op op_addA o_add l_int (l_call G_law_draw (hr.mono (by omega)) (by rfl) T.t_law_draw.g T.t_law_draw.F.kp T.t_law_draw.b tk (la_cons (lv 0) (la_cons l_int la_nil)))) la_nil))))) la_nil)))))) lss_nil)
      (lss_one (ls_ret (l_call G_law_drawing (hr.mono (by omega)) (by rfl) T.t_law_drawing.g T.t_law_drawing.F.kp T.t_law_drawing.b tk (la_cons (lv 0) (la_cons (lv 1) (la_cons (lv 4) la_nil))))))))))))))

noncomputable def b_law_block (rec : DF) : DS := (dSeq (dSet 5 (dComp (wL (eV 1)) (tgN 14) [14] (eT (eOp dNe (eOp dIx (eV 14) (eC (D.int 0))) (eC (D.str (Str.ofString "array"))))) (eV 14)))
    (dSeq (dSet 6 (eLst eNil))
    (dSeq (dFor (wR1 (eCons (eOp dAdd (eOp dDiv (eV 4) (eC (D.int 3))) (eCall h_law_draw (eCons (eV 0) (eCons (eOp dAdd (eOp dSub (eV 4) (eOp dDiv (eV 4) (eC (D.int 3)))) (eC (D.int 1))) eNil)))) eNil)) (tgN 7) (dSeq (dSet 8 (eCall h_law_draw (eCons (eV 0) (eCons (eC (D.int 20)) eNil))))
    (dIfS (eAnd (eT (eOp dGt (eV 3) (eC (D.int 0)))) (eAnd (eT (eOp dGt (eV 8) (eC (D.int 12)))) (eT (eOp dLt (eV 8) (eC (D.int 17)))))) (dSeq (dSet 9 (eCall rec (eCons (eV 0) (eCons (eV 1) (eCons (eV 2) (eCons (eOp dSub (eV 3) (eC (D.int 1))) (eCons (eC (D.int 2)) eNil)))))))
    (dSeq (dSet 10 (eCall (h_law_expr 3) (eCons (eV 0) (eCons (eC (D.str (Str.ofString "bool"))) (eCons (eV 1) (eCons (eC (D.int 1)) eNil))))))
    (dSeq (dSet 11 (dComp (wL (eV 5)) (tgN 14) [14] (eT (eOp dEq (eOp dIx (eV 14) (eC (D.int 0))) (eC (D.str (Str.ofString "int"))))) (eV 14)))
    (dIfS (eT (eOp dEq (eV 8) (eC (D.int 13)))) (dExpr (eMeth "list" mAppend (eV 6) (eCons (eTup (eCons (eC (D.str (Str.ofString "if"))) (eCons (eV 10) (eCons (eV 9) (eCons (eCall rec (eCons (eV 0) (eCons (eV 1) (eCons (eV 2) (eCons (eOp dSub (eV 3) (eC (D.int 1))) (eCons (eC (D.int 2)) eNil)))))) eNil))))) eNil))) (dIfS (eT (eOp dEq (eV 8) (eC (D.int 14)))) (dExpr (eMeth "list" mAppend (eV 6) (eCons (eTup (eCons (eC (D.str (Str.ofString "repeat"))) (eCons (eCall h_law_draw (eCons (eV 0) (eCons (eC (D.int 3)) eNil))) (eCons (eV 9) eNil)))) eNil))) (dIfS (eT (eOp dEq (eV 8) (eC (D.int 15)))) (dExpr (eMeth "list" mAppend (eV 6) (eCons (eTup (eCons (eC (D.str (Str.ofString "while"))) (eCons (eV 10) (eCons (eCall h_law_draw (eCons (eV 0) (eCons (eC (D.int 3)) eNil))) (eCons (eV 9) eNil))))) eNil))) (dIfS (eT (eOp dGt (eCall dLen (eCons (eV 11) eNil)) (eC (D.int 0)))) (dSeq (dSet 12 (eCall h_law_draw (eCons (eV 0) (eCons (eC (D.int 3)) eNil))))
    (dSeq (dSet 13 (eOp dIx (eOp dIx (eV 11) (eCall h_law_draw (eCons (eV 0) (eCons (eCall dLen (eCons (eV 11) eNil)) eNil)))) (eC (D.int 1))))
    (dExpr (eMeth "list" mAppend (eV 6) (eCons (eTup (eCons (eC (D.str (Str.ofString "for"))) (eCons (eV 13) (eCons (eV 12) (eCons (eOp dAdd (eOp dSub (eOp dAdd (eV 12) (eCall h_law_draw (eCons (eV 0) (eCons (eC (D.int 3)) eNil)))) (eC (D.int 1))) (eCall dInt (eCons (eOp dEq (eV 12) (eC (D.int 0))) eNil))) (eCons (eV 9) eNil)))))) eNil))))) dNext))))))) (dIfS (eAnd (eT (eOp dGt (eV 8) (eC (D.int 17)))) (eT (eOp dGt (eCall dLen (eCons (eV 2) eNil)) (eC (D.int 0))))) (dExpr (eMeth "list" mAppend (eV 6) (eCons (eCall h_law_calling (eCons (eV 0) (eCons (eV 1) (eCons (eV 2) (eCons (eV 5) eNil))))) eNil))) (dIfS (eT (eOp dEq (eV 8) (eC (D.int 17)))) (dExpr (eMeth "list" mAppend (eV 6) (eCons (eTup (eCons (eC (D.str (Str.ofString "skip"))) eNil)) eNil))) (dExpr (eMeth "list" mAppend (eV 6) (eCons (eCall h_law_simple (eCons (eV 0) (eCons (eV 1) (eCons (eV 5) (eCons (eV 8) eNil))))) eNil))))))))
    (dRet (eCall dTuple (eCons (eV 6) eNil))))))
noncomputable def h_law_block : Nat → DF
  | 0 => badF
  | n + 1 => runD 5 15 (b_law_block (h_law_block n))
theorem ok_law_block (T : Txt K mg A) (Dd : Dic K mg wd.params) : ∀ n : Nat, FnOk P wd K mg base (L2.CX P wd) (9 + 1 * n) A.a_law_block A.d_law_block ["pool", "names", "procs", "depth", "most"] (spD K mg (h_law_block n))
  | 0 => bad_ok
  | n + 1 => by
    have Frec : FnOk P wd K mg base (L2.CX P wd) (9 + 1 * n) A.a_law_block A.d_law_block ["pool", "names", "procs", "depth", "most"] (spD K mg (h_law_block n)) := ok_law_block T Dd n
    have G_law_draw : FnOk P wd K mg base (L2.CX P wd) (2) A.a_law_draw A.d_law_draw ["pool", "many"] (spD K mg h_law_draw) := ok_law_draw T Dd
    have G_law_expr : FnOk P wd K mg base (L2.CX P wd) (6) A.a_law_expr A.d_law_expr ["pool", "kind", "names", "depth"] (spD K mg (h_law_expr 3)) := ok_law_expr T Dd 3
    have G_law_calling : FnOk P wd K mg base (L2.CX P wd) (7) A.a_law_calling A.d_law_calling ["pool", "names", "procs", "targets"] (spD K mg h_law_calling) := ok_law_calling T Dd
    have G_law_simple : FnOk P wd K mg base (L2.CX P wd) (9) A.a_law_simple A.d_law_simple ["pool", "names", "targets", "turn"] (spD K mg h_law_simple) := ok_law_simple T Dd
    refine d_ok (k := 9 + 1 * n + 0) T.t_law_block.F sc_law_block (fun cdv AA outer s H E hr tk po => ?_)
    exact (lss_cons (ls_setComp (i := 5) (own := [("row", 14)]) (by rfl) sc_law_block.nd (by rfl) (by rfl) (sw_true rfl rfl rfl (by decide +kernel)) (pi_list (lv 1)) io_list (blkOk_by (own := [("row", 14)]) (N := ["pool", "names", "procs", "depth", "most", "targets", "block", "k", "turn", "inner", "test", "ints", "low", "name", "row"]) (sc := defScope s_law_block) (by decide +kernel)) (fun _ _ _ _ _ => (pg_name (i := 14) sc_law_block.nd rfl ((by first | exact Or.inl rfl | exact Or.inr rfl)))) (g_name 14) (by decide) (fun _ _ _ _ _ => (lts_one (lt_cmp op_ne o_ne (l_ix ixX o_ix (lv 14) l_int (fun _ _ => rfl)) l_str (nomark _)))) (fun _ _ _ _ _ => (lv 14)))
        (lss_cons (ls_set (i := 6) sc_law_block.nd rfl (Or.inl rfl) (l_lst la_nil))
        (lss_cons (ls_for po rfl (pi_range1 (by rfl) T.z_range (la_cons (l_op op_addA o_add (l_op op_fdivG o_div (lv 4) l_int) (l_call G_law_draw (hr.mono (by omega)) (by rfl) T.t_law_draw.g T.t_law_draw.F.kp T.t_law_draw.b tk (la_cons (lv 0) (la_cons (l_op op_addA o_add (l_op op_sub o_sub (lv 4) (l_op op_fdivG o_div (lv 4) l_int)) l_int) la_nil)))) la_nil)) io_rng1 (pg_name (i := 7) sc_law_block.nd rfl (Or.inl rfl)) (g_name 7) (lss_cons (ls_set (i := 8) sc_law_block.nd rfl (Or.inl rfl) (l_call G_law_draw (hr.mono (by omega)) (by rfl) T.t_law_draw.g T.t_law_draw.F.kp T.t_law_draw.b tk (la_cons (lv 0) (la_cons l_int la_nil))))
        (lss_one (ls_if (PW.pt (lw_and (lt_cmp op_gt (o_rel _) (lv 3) l_int (nomark _)) (lw_and (lt_cmp op_gt (o_rel _) (lv 8) l_int (nomark _)) (lw_and1 (lt_cmp op_lt (o_rel _) (lv 8) l_int (nomark _)))))) (lss_cons (ls_set (i := 9) sc_law_block.nd rfl (Or.inl rfl) (l_call Frec (hr.mono (by omega)) (by rfl) T.t_law_block.g T.t_law_block.F.kp T.t_law_block.b tk (la_cons (lv 0) (la_cons (lv 1) (la_cons (lv 2) (la_cons (l_op op_sub o_sub (lv 3) l_int) (la_cons l_int la_nil)))))))
        (lss_cons (ls_set (i := 10) sc_law_block.nd rfl (Or.inl rfl) (l_call G_law_expr (hr.mono (by omega)) (by rfl) T.t_law_expr.g T.t_law_expr.F.kp T.t_law_expr.b tk (la_cons (lv 0) (la_cons l_str (la_cons (lv 1) (la_cons l_int la_nil))))))
        (lss_cons (ls_setComp (i := 11) (own := [("row", 14)]) (by rfl) sc_law_block.nd (by rfl) (by rfl) (sw_true rfl rfl rfl (by decide +kernel)) (pi_list (lv 5)) io_list (blkOk_by (own := [("row", 14)]) (N := ["pool", "names", "procs", "depth", "most", "targets", "block", "k", "turn", "inner", "test", "ints", "low", "name", "row"]) (sc := defScope s_law_block) (by decide +kernel)) (fun _ _ _ _ _ => (pg_name (i := 14) sc_law_block.nd rfl ((by first | exact Or.inl rfl | exact Or.inr rfl)))) (g_name 14) (by decide) (fun _ _ _ _ _ => (lts_one (lt_cmp op_eq o_eq (l_ix ixX o_ix (lv 14) l_int (fun _ _ => rfl)) l_str (nomark _)))) (fun _ _ _ _ _ => (lv 14)))
        (lss_one (ls_if (lt_cmp op_eq o_eq (lv 8) l_int (nomark _)) (lss_one (ls_expr (l_bm PySem.F.plainAttrs_list PySem.F.slot_list_append PySem.F.type_list_append mt_append om_append (lv 6) (la_cons (l_tup (la_cons l_str (la_cons (lv 10) (la_cons (lv 9) (la_cons (l_call Frec (hr.mono (by omega)) (by rfl) T.t_law_block.g T.t_law_block.F.kp T.t_law_block.b tk (la_cons (lv 0) (la_cons (lv 1) (la_cons (lv 2) (la_cons (l_op op_sub o_sub (lv 3) l_int) (la_cons l_int la_nil)))))) la_nil))))) la_nil)))) (lss_one (ls_if (lt_cmp op_eq o_eq (lv 8) l_int (nomark _)) (lss_one (ls_expr (l_bm PySem.F.plainAttrs_list PySem.F.slot_list_append PySem.F.type_list_append mt_append om_append (lv 6) (la_cons (l_tup (la_cons l_str (la_cons (l_call G_law_draw (hr.mono (by omega)) (by rfl) T.t_law_draw.g T.t_law_draw.F.kp T.t_law_draw.b tk (la_cons (lv 0) (la_cons l_int la_nil))) (la_cons (lv 9) la_nil)))) la_nil)))) (lss_one (ls_if (lt_cmp op_eq o_eq (lv 8) l_int (nomark _)) (lss_one (ls_expr (l_bm PySem.F.plainAttrs_list PySem.F.slot_list_append PySem.F.type_list_append mt_append om_append (lv 6) (la_cons (l_tup (la_cons l_str (la_cons (lv 10) (la_cons (l_call G_law_draw (hr.mono (by omega)) (by rfl) T.t_law_draw.g T.t_law_draw.F.kp T.t_law_draw.b tk (la_cons (lv 0) (la_cons l_int la_nil))) (la_cons (lv 9) la_nil))))) la_nil)))) (lss_one (ls_if (lt_cmp op_gt (o_rel _) (l_callB call_lenA o_len (by rfl) T.z_len PySem.boot_len (la_cons (lv 11) la_nil)) l_int (nomark _)) (lss_cons (ls_set (i := 12) sc_law_block.nd rfl (Or.inl rfl) (l_call G_law_draw (hr.mono (by omega)) (by rfl) T.t_law_draw.g T.t_law_draw.F.kp T.t_law_draw.b tk (la_cons (lv 0) (la_cons l_int la_nil))))
        (lss_cons (ls_set (i := 13) sc_law_block.nd rfl (Or.inl rfl) (l_ix ixX o_ix (l_ix ixX o_ix (lv 11) (l_call G_law_draw (hr.mono (by omega)) (by rfl) T.t_law_draw.g T.t_law_draw.F.kp T.t_law_draw.b tk (la_cons (lv 0) (la_cons (l_callB call_lenA o_len (by rfl) T.z_len PySem.boot_len (la_cons (lv 11) la_nil)) la_nil))) (fun _ _ => rfl)) l_int (fun _ _ => rfl)))
        (lss_one (ls_expr (l_bm PySem.F.plainAttrs_list PySem.F.slot_list_append PySem.F.type_list_append mt_append om_append (lv 6) (la_cons (l_tup (la_cons l_str (la_cons (lv 13) (la_cons (lv 12) (la_cons (l_op op_addA o_add (l_op op_sub o_sub (l_op op_addA o_add (lv 12) (l_call G_law_draw (hr.mono (by omega)) (by rfl) T.t_law_draw.g T.t_law_draw.F.kp T.t_law_draw.b tk (la_cons (lv 0) (la_cons l_int la_nil)))) l_int) (l_callTy call_int1 o_int (by rfl) T.z_int PyProof.Rows.boot_int (la_cons (l_cmp op_eq o_eq (lv 12) l_int (nomark _)) la_nil))) (la_cons (lv 9) la_nil)))))) la_nil)))))) lss_nil))))))))))) (lss_one (ls_if (PW.pt (lw_and (lt_cmp op_gt (o_rel _) (lv 8) l_int (nomark _)) (lw_and1 (lt_cmp op_gt (o_rel _) (l_callB call_lenA o_len (by rfl) T.z_len PySem.boot_len (la_cons (lv 2) la_nil)) l_int (nomark _))))) (lss_one (ls_expr (l_bm PySem.F.plainAttrs_list PySem.F.slot_list_append PySem.F.type_list_append mt_append om_append (lv 6) (la_cons (l_call G_law_calling (hr.mono (by omega)) (by rfl) T.t_law_calling.g T.t_law_calling.F.kp T.t_law_calling.b tk (la_cons (lv 0) (la_cons (lv 1) (la_cons (lv 2) (la_cons (lv 5) la_nil))))) la_nil)))) (lss_one (ls_if (lt_cmp op_eq o_eq (lv 8) l_int (nomark _)) (lss_one (ls_expr (l_bm PySem.F.plainAttrs_list PySem.F.slot_list_append PySem.F.type_list_append mt_append om_append (lv 6) (la_cons (l_tup (la_cons l_str la_nil)) la_nil)))) (lss_one (ls_expr (l_bm PySem.F.plainAttrs_list PySem.F.slot_list_append PySem.F.type_list_append mt_append om_append (lv 6) (la_cons (l_call G_law_simple (hr.mono (by omega)) (by rfl) T.t_law_simple.g T.t_law_simple.F.kp T.t_law_simple.b tk (la_cons (lv 0) (la_cons (lv 1) (la_cons (lv 5) (la_cons (lv 8) la_nil))))) la_nil))))))))))))
        (lss_one (ls_ret (l_callTy call_tuple_of o_tuple (by rfl) T.z_tuple PyProof.Rows.boot_tuple (la_cons (lv 6) la_nil)))))))

noncomputable def b_law_inner : DS := (dSeq (dIfS (eT (eOp dEq (eOp dIx (eV 0) (eC (D.int 0))) (eC (D.str (Str.ofString "if"))))) (dRet (eLst (eCons (eOp dIx (eV 0) (eC (D.int 2))) (eCons (eOp dIx (eV 0) (eC (D.int 3))) eNil)))) dNext)
    (dSeq (dIfS (eT (eOp (dIn false) (eOp dIx (eV 0) (eC (D.int 0))) (eTup (eCons (eC (D.str (Str.ofString "repeat"))) (eCons (eC (D.str (Str.ofString "while"))) (eCons (eC (D.str (Str.ofString "for"))) eNil)))))) (dRet (eLst (eCons (eOp dIx (eV 0) (eUn dNeg (eC (D.int 1)))) eNil))) dNext)
    (dRet (eLst eNil))))
noncomputable def h_law_inner : DF := runD 1 1 (b_law_inner)
theorem ok_law_inner (T : Txt K mg A) (Dd : Dic K mg wd.params) : FnOk P wd K mg base (L2.CX P wd) (1) A.a_law_inner A.d_law_inner ["row"] (spD K mg h_law_inner) := by
  refine d_ok T.t_law_inner.F sc_law_inner (fun cdv AA outer s H E hr tk po => ?_)
  exact (lss_cons (ls_if (lt_cmp op_eq o_eq (l_ix ixX o_ix (lv 0) l_int (fun _ _ => rfl)) l_str (nomark _)) (lss_one (ls_ret (l_lst (la_cons (l_ix ixX o_ix (lv 0) l_int (fun _ _ => rfl)) (la_cons (l_ix ixX o_ix (lv 0) l_int (fun _ _ => rfl)) la_nil))))) lss_nil)
      (lss_cons (ls_if (lt_cmp op_inA (o_in false) (l_ix ixX o_ix (lv 0) l_int (fun _ _ => rfl)) (l_tup (la_cons l_str (la_cons l_str (la_cons l_str la_nil)))) (by rfl)) (lss_one (ls_ret (l_lst (la_cons (l_ix ixX o_ix (lv 0) (l_un un_neg o_neg l_int) (fun _ _ => rfl)) la_nil)))) lss_nil)
      (lss_one (ls_ret (l_lst la_nil)))))

noncomputable def b_law_trees : DS := (dSeq (dSet 1 (eOp dIx (eV 0) (eC (D.int 0))))
    (dSeq (dIfS (eT (eOp dEq (eV 1) (eC (D.str (Str.ofString "pick"))))) (dSeq (dSet 2 (eLst eNil))
    (dSeq (dFor (wT (eOp dIx (eV 0) (eC (D.int 2)))) (tgN 3) (dSet 2 (eOp dAdd (eV 2) (eLst (eCons (eOp dIx (eV 3) (eC (D.int 0))) (eCons (eOp dIx (eV 3) (eC (D.int 1))) eNil))))))
    (dRet (eV 2)))) dNext)
    (dSeq (dIfS (eT (eOp dEq (eV 1) (eC (D.str (Str.ofString "call"))))) (dRet (eCall dList (eCons (eOp dIx (eV 0) (eC (D.int 2))) eNil))) dNext)
    (dSeq (dIfS (eT (eOp (dIn false) (eV 1) (eTup (eCons (eC (D.str (Str.ofString "skip"))) (eCons (eC (D.str (Str.ofString "fail"))) (eCons (eC (D.str (Str.ofString "repeat"))) (eCons (eC (D.str (Str.ofString "for"))) eNil))))))) (dRet (eLst eNil)) dNext)
    (dSeq (dIfS (eOr (eT (eOp dEq (eV 1) (eC (D.str (Str.ofString "if"))))) (eT (eOp dEq (eV 1) (eC (D.str (Str.ofString "while")))))) (dRet (eLst (eCons (eOp dIx (eV 0) (eC (D.int 1))) eNil))) dNext)
    (dRet (dComp (wT (eSl (eV 0) (eSo (eC (D.int 1))) eNo)) (tgN 4) [4] (eT (eCall dIsi (eCons (eV 4) (eCons (eC (.ty "tuple")) eNil)))) (eV 4))))))))
noncomputable def h_law_trees : DF := runD 1 5 (b_law_trees)
theorem ok_law_trees (T : Txt K mg A) (Dd : Dic K mg wd.params) : FnOk P wd K mg base (L2.CX P wd) (1) A.a_law_trees A.d_law_trees ["row"] (spD K mg h_law_trees) := by
  refine d_ok T.t_law_trees.F sc_law_trees (fun cdv AA outer s H E hr tk po => ?_)
  exact (lss_cons (ls_set (i := 1) sc_law_trees.nd rfl (Or.inl rfl) (l_ix ixX o_ix (lv 0) l_int (fun _ _ => rfl)))
      (lss_cons (ls_if (lt_cmp op_eq o_eq (lv 1) l_str (nomark _)) (lss_cons (ls_set (i := 2) sc_law_trees.nd rfl (Or.inl rfl) (l_lst la_nil))
      (lss_cons (ls_for po rfl (pi_tup (l_ix ixX o_ix (lv 0) l_int (fun _ _ => rfl))) io_tup (pg_name (i := 3) sc_law_trees.nd rfl (Or.inl rfl)) (g_name 3) (lss_one (ls_set (i := 2) sc_law_trees.nd rfl (Or.inl rfl) (l_op op_addA o_add (lv 2) (l_lst (la_cons (l_ix ixX o_ix (lv 3) l_int (fun _ _ => rfl)) (la_cons (l_ix ixX o_ix (lv 3) l_int (fun _ _ => rfl)) la_nil)))))))
      (lss_one (ls_ret (lv 2))))) lss_nil)
      (lss_cons (ls_if (lt_cmp op_eq o_eq (lv 1) l_str (nomark _)) (lss_one (ls_ret (l_callTy call_list_of o_list (by rfl) T.z_list PyProof.Rows.boot_list (la_cons (l_ix ixX o_ix (lv 0) l_int (fun _ _ => rfl)) la_nil)))) lss_nil)
      (lss_cons (ls_if (lt_cmp op_inA (o_in false) (lv 1) (l_tup (la_cons l_str (la_cons l_str (la_cons l_str (la_cons l_str la_nil))))) (by rfl)) (lss_one (ls_ret (l_lst la_nil))) lss_nil)
      (lss_cons (ls_if (PW.pt (lw_or (lt_cmp op_eq o_eq (lv 1) l_str (nomark _)) (lw_or1 (lt_cmp op_eq o_eq (lv 1) l_str (nomark _))))) (lss_one (ls_ret (l_lst (la_cons (l_ix ixX o_ix (lv 0) l_int (fun _ _ => rfl)) la_nil)))) lss_nil)
      (lss_one (ls_ret (l_comp (own := [("one", 4)]) (by rfl) sc_law_trees.nd (pi_tup (l_slice slX (lv 0) (lo_some l_int) lo_none)) io_tup (blkOk_by (own := [("one", 4)]) (N := ["row", "tag", "trees", "pair", "one"]) (sc := defScope s_law_trees) (by decide +kernel)) (fun _ _ _ _ _ => (pg_name (i := 4) sc_law_trees.nd rfl ((by first | exact Or.inl rfl | exact Or.inr rfl)))) (g_name 4) (by decide) (fun _ _ _ _ _ => (lts_one (lt_val (l_callB call_isi o_isi (by rfl) T.z_isinstance PyProof.Rows.boot_isinstance (la_cons (lv 4) (la_cons (l_ty (by rfl) T.z_tuple PyProof.Rows.boot_tuple) la_nil)))))) (fun _ _ _ _ _ => (lv 4))))))))))

noncomputable def b_law_targets (rec : DF) : DS := (dSeq (dFor (wT (eV 0)) (tgN 2) (dSeq (dIfS (eNot (eT (eCall (h_law_same 6) (eCons (eCall h_expressions_of (eCons (eV 2) eNil)) (eCons (eCall h_law_trees (eCons (eV 2) eNil)) eNil))))) (dRet (eC (D.bl false))) dNext)
    (dSeq (dIfS (eT (eOp (dIn false) (eOp dIx (eV 2) (eC (D.int 0))) (eTup (eCons (eC (D.str (Str.ofString "set"))) (eCons (eC (D.str (Str.ofString "store"))) (eCons (eC (D.str (Str.ofString "flip"))) (eCons (eC (D.str (Str.ofString "uniform"))) (eCons (eC (D.str (Str.ofString "pick"))) (eCons (eC (D.str (Str.ofString "for"))) eNil))))))))) (dPutD (eC (D.bl true)) (eV 1) (eOp dIx (eV 2) (eC (D.int 1)))) dNext)
    (dSeq (dIfS (eT (eOp dEq (eOp dIx (eV 2) (eC (D.int 0))) (eC (D.str (Str.ofString "call"))))) (dPutD (eC (D.bl true)) (eV 1) (eOp dIx (eV 2) (eC (D.int 3)))) dNext)
    (dFor (wL (eCall h_law_inner (eCons (eV 2) eNil))) (tgN 3) (dSeq (dSet 4 eDNew)
    (dSeq (dIfS (eOr (eNot (eT (eCall rec (eCons (eV 3) (eCons (eV 4) eNil))))) (eNot (eT (eCall (h_law_same 6) (eCons (eCall h_targets_of (eCons (eV 3) eNil)) (eCons (eCall dSortedDS (eCons (eV 4) eNil)) eNil)))))) (dRet (eC (D.bl false))) dNext)
    (dForK (eV 4) (tgN 5) (dPutD (eC (D.bl true)) (eV 1) (eV 5))))))))))
    (dRet (eC (D.bl true))))
noncomputable def h_law_targets : Nat → DF
  | 0 => badF
  | n + 1 => runD 2 6 (b_law_targets (h_law_targets n))
theorem ok_law_targets (T : Txt K mg A) (Dd : Dic K mg wd.params) : ∀ n : Nat, FnOk P wd K mg base (L2.CX P wd) (8 + 1 * n) A.a_law_targets A.d_law_targets ["block", "names"] (spD K mg (h_law_targets n))
  | 0 => bad_ok
  | n + 1 => by
    have Frec : FnOk P wd K mg base (L2.CX P wd) (8 + 1 * n) A.a_law_targets A.d_law_targets ["block", "names"] (spD K mg (h_law_targets n)) := ok_law_targets T Dd n
    have G_expressions_of : FnOk P wd K mg base (L2.CX P wd) (1) A.a_expressions_of A.d_expressions_of ["statement"] (spD K mg h_expressions_of) := ok_expressions_of T Dd
    have G_targets_of : FnOk P wd K mg base (L2.CX P wd) (8) A.a_targets_of A.d_targets_of ["block"] (spD K mg h_targets_of) := ok_targets_of T Dd
    have G_law_same : FnOk P wd K mg base (L2.CX P wd) (6) A.a_law_same A.d_law_same ["actual", "due"] (spD K mg (h_law_same 6)) := ok_law_same T Dd 6
    have G_law_inner : FnOk P wd K mg base (L2.CX P wd) (1) A.a_law_inner A.d_law_inner ["row"] (spD K mg h_law_inner) := ok_law_inner T Dd
    have G_law_trees : FnOk P wd K mg base (L2.CX P wd) (1) A.a_law_trees A.d_law_trees ["row"] (spD K mg h_law_trees) := ok_law_trees T Dd
    refine d_ok (k := 8 + 1 * n + 0) T.t_law_targets.F sc_law_targets (fun cdv AA outer s H E hr tk po => ?_)
    exact (lss_cons (ls_for po rfl (pi_tup (lv 0)) io_tup (pg_name (i := 2) sc_law_targets.nd rfl (Or.inl rfl)) (g_name 2) (lss_cons (ls_if (lt_not (lt_val (l_call G_law_same (hr.mono (by omega)) (by rfl) T.t_law_same.g T.t_law_same.F.kp T.t_law_same.b tk (la_cons (l_call G_expressions_of (hr.mono (by omega)) (by rfl) T.t_expressions_of.g T.t_expressions_of.F.kp T.t_expressions_of.b tk (la_cons (lv 2) la_nil)) (la_cons (l_call G_law_trees (hr.mono (by omega)) (by rfl) T.t_law_trees.g T.t_law_trees.F.kp T.t_law_trees.b tk (la_cons (lv 2) la_nil)) la_nil))))) (lss_one (ls_ret l_bl)) lss_nil)
        (lss_cons (ls_if (lt_cmp op_inA (o_in false) (l_ix ixX o_ix (lv 2) l_int (fun _ _ => rfl)) (l_tup (la_cons l_str (la_cons l_str (la_cons l_str (la_cons l_str (la_cons l_str (la_cons l_str la_nil))))))) (by rfl)) (lss_one (ls_putD (hu_of hr) l_bl (lv 1) (l_ix ixX o_ix (lv 2) l_int (fun _ _ => rfl)) (by rfl))) lss_nil)
        (lss_cons (ls_if (lt_cmp op_eq o_eq (l_ix ixX o_ix (lv 2) l_int (fun _ _ => rfl)) l_str (nomark _)) (lss_one (ls_putD (hu_of hr) l_bl (lv 1) (l_ix ixX o_ix (lv 2) l_int (fun _ _ => rfl)) (by rfl))) lss_nil)
        (lss_one (ls_for po rfl (pi_list (l_call G_law_inner (hr.mono (by omega)) (by rfl) T.t_law_inner.g T.t_law_inner.F.kp T.t_law_inner.b tk (la_cons (lv 2) la_nil))) io_list (pg_name (i := 3) sc_law_targets.nd rfl (Or.inl rfl)) (g_name 3) (lss_cons (ls_set (i := 4) sc_law_targets.nd rfl (Or.inl rfl) l_dnew)
        (lss_cons (ls_if (PW.pt (lw_or (lt_not (lt_val (l_call Frec (hr.mono (by omega)) (by rfl) T.t_law_targets.g T.t_law_targets.F.kp T.t_law_targets.b tk (la_cons (lv 3) (la_cons (lv 4) la_nil))))) (lw_or1 (lt_not (lt_val (l_call G_law_same (hr.mono (by omega)) (by rfl) T.t_law_same.g T.t_law_same.F.kp T.t_law_same.b tk (la_cons (l_call G_targets_of (hr.mono (by omega)) (by rfl) T.t_targets_of.g T.t_targets_of.F.kp T.t_targets_of.b tk (la_cons (lv 3) la_nil)) (la_cons (l_callB (call_sortedD rfl) o_sortedDS (by rfl) T.z_sorted (by decide +kernel) (la_cons (lv 4) la_nil)) la_nil)))))))) (lss_one (ls_ret l_bl)) lss_nil)
        (lss_one (ls_forK po rfl (lv 4) (pg_name (i := 5) sc_law_targets.nd rfl (Or.inl rfl)) (g_name 5) (lss_one (ls_putD (hu_of hr) l_bl (lv 1) (lv 5) (by rfl)))))))))))))
        (lss_one (ls_ret l_bl)))

noncomputable def b_law : DS := (dSeq (dSet 1 (eCall h_law_pool (eCons (eV 0) eNil)))
    (dSeq (dSet 2 (eCall h_law_names (eCons (eV 1) eNil)))
    (dSeq (dSet 3 (eLst (eCons (eTup (eCons (eC (D.str (Str.ofString "p_"))) (eCons (eC (D.str (Str.ofString "int"))) (eCons (eTup (eCons (eC (D.str (Str.ofString "int"))) eNil)) eNil)))) (eCons (eTup (eCons (eC (D.str (Str.ofString "q_"))) (eCons (eC (D.str (Str.ofString "bool"))) (eCons (eTup (eCons (eC (D.str (Str.ofString "bool"))) (eCons (eC (D.str (Str.ofString "int"))) eNil))) eNil)))) eNil))))
    (dSeq (dSet 4 (eCall (h_law_block 3) (eCons (eV 1) (eCons (eV 2) (eCons (eSl (eV 3) eNo (eSo (eCall h_law_draw (eCons (eV 1) (eCons (eC (D.int 3)) eNil))))) (eCons (eC (D.int 2)) (eCons (eC (D.int 9)) eNil)))))))
    (dSeq (dSet 5 eDNew)
    (dRet (eAndV (eCall (h_law_targets 4) (eCons (eV 4) (eCons (eV 5) eNil))) (eCall (h_law_same 6) (eCons (eCall h_targets_of (eCons (eV 4) eNil)) (eCons (eCall dSortedDS (eCons (eV 5) eNil)) eNil))))))))))
noncomputable def h_law : DF := runD 1 6 (b_law)
theorem ok_law (T : Txt K mg A) (Dd : Dic K mg wd.params) : FnOk P wd K mg base (L2.CX P wd) (13) A.a_law A.d_law ["script"] (spD K mg h_law) := by
  have G_targets_of : FnOk P wd K mg base (L2.CX P wd) (8) A.a_targets_of A.d_targets_of ["block"] (spD K mg h_targets_of) := ok_targets_of T Dd
  have G_law_same : FnOk P wd K mg base (L2.CX P wd) (6) A.a_law_same A.d_law_same ["actual", "due"] (spD K mg (h_law_same 6)) := ok_law_same T Dd 6
  have G_law_pool : FnOk P wd K mg base (L2.CX P wd) (1) A.a_law_pool A.d_law_pool ["script"] (spD K mg h_law_pool) := ok_law_pool T Dd
  have G_law_draw : FnOk P wd K mg base (L2.CX P wd) (2) A.a_law_draw A.d_law_draw ["pool", "many"] (spD K mg h_law_draw) := ok_law_draw T Dd
  have G_law_names : FnOk P wd K mg base (L2.CX P wd) (4) A.a_law_names A.d_law_names ["pool"] (spD K mg h_law_names) := ok_law_names T Dd
  have G_law_block : FnOk P wd K mg base (L2.CX P wd) (12) A.a_law_block A.d_law_block ["pool", "names", "procs", "depth", "most"] (spD K mg (h_law_block 3)) := ok_law_block T Dd 3
  have G_law_targets : FnOk P wd K mg base (L2.CX P wd) (12) A.a_law_targets A.d_law_targets ["block", "names"] (spD K mg (h_law_targets 4)) := ok_law_targets T Dd 4
  refine d_ok T.t_law.F sc_law (fun cdv AA outer s H E hr tk po => ?_)
  exact (lss_cons (ls_set (i := 1) sc_law.nd rfl (Or.inl rfl) (l_call G_law_pool (hr.mono (by omega)) (by rfl) T.t_law_pool.g T.t_law_pool.F.kp T.t_law_pool.b tk (la_cons (lv 0) la_nil)))
      (lss_cons (ls_set (i := 2) sc_law.nd rfl (Or.inl rfl) (l_call G_law_names (hr.mono (by omega)) (by rfl) T.t_law_names.g T.t_law_names.F.kp T.t_law_names.b tk (la_cons (lv 1) la_nil)))
      (lss_cons (ls_set (i := 3) sc_law.nd rfl (Or.inl rfl) (l_lst (la_cons (l_tup (la_cons l_str (la_cons l_str (la_cons (l_tup (la_cons l_str la_nil)) la_nil)))) (la_cons (l_tup (la_cons l_str (la_cons l_str (la_cons (l_tup (la_cons l_str (la_cons l_str la_nil))) la_nil)))) la_nil))))
      (lss_cons (ls_set (i := 4) sc_law.nd rfl (Or.inl rfl) (l_call G_law_block (hr.mono (by omega)) (by rfl) T.t_law_block.g T.t_law_block.F.kp T.t_law_block.b tk (la_cons (lv 1) (la_cons (lv 2) (la_cons (l_slice slX (lv 3) lo_none (lo_some (l_call G_law_draw (hr.mono (by omega)) (by rfl) T.t_law_draw.g T.t_law_draw.F.kp T.t_law_draw.b tk (la_cons (lv 1) (la_cons l_int la_nil))))) (la_cons l_int (la_cons l_int la_nil)))))))
      (lss_cons (ls_set (i := 5) sc_law.nd rfl (Or.inl rfl) l_dnew)
      (lss_one (ls_ret (l_and (l_call G_law_targets (hr.mono (by omega)) (by rfl) T.t_law_targets.g T.t_law_targets.F.kp T.t_law_targets.b tk (la_cons (lv 4) (la_cons (lv 5) la_nil))) (l_one (l_call G_law_same (hr.mono (by omega)) (by rfl) T.t_law_same.g T.t_law_same.F.kp T.t_law_same.b tk (la_cons (l_call G_targets_of (hr.mono (by omega)) (by rfl) T.t_targets_of.g T.t_targets_of.F.kp T.t_targets_of.b tk (la_cons (lv 4) la_nil)) (la_cons (l_callB (call_sortedD rfl) o_sortedDS (by rfl) T.z_sorted (by decide +kernel) (la_cons (lv 5) la_nil)) la_nil))))))))))))

end

/-! ### the pool of draws -/
structure PoolS (S : Sto) (p l : Nat) : Prop where
  at_ : ∃ (ns : List Int) (pos cur cnt salt : Int), S[p]? = some (.lst [.obj l, .int pos, .int cur, .int cnt, .int salt]) ∧ S[l]? = some (.lst (ns.map D.int)) ∧ 0 ≤ pos
  ne : l ≠ p
/-- nothing but X has changed, of what there was -/
structure Fr (X : Nat → Prop) (S S' : Sto) : Prop where
  len : S.length ≤ S'.length
  old : ∀ i, i < S.length → ¬X i → S'[i]? = S[i]?
section
variable {X Y : Nat → Prop} {S S1 S2 : Sto}
theorem Fr.refl : Fr X S S := ⟨Nat.le_refl _, fun _ _ _ => rfl⟩
theorem Fr.trans (a : Fr X S S1) (b : Fr X S1 S2) : Fr X S S2 := ⟨Nat.le_trans a.len b.len, fun i hi h => (b.old i (Nat.lt_of_lt_of_le hi a.len) h).trans (a.old i hi h)⟩
theorem Fr.mono (a : Fr X S S1) (h : ∀ i, i < S.length → X i → Y i) : Fr Y S S1 := ⟨a.len, fun i hi h2 => a.old i hi fun z => h2 (h i hi z)⟩
theorem Fr.set {n : Nat} (a : Fr X S S1) (o : Ob) (h : n < S.length → X n) : Fr X S (S1.set n o) := ⟨by rw [List.length_set]; exact a.len, fun i hi h2 => (List.getElem?_set_ne (fun e => h2 (by subst e; exact h hi))).trans (a.old i hi h2)⟩
theorem Fr.at (a : Fr X S S1) {i : Nat} {o : Ob} (h : S[i]? = some o) (hn : ¬X i) : S1[i]? = some o := (a.old i (lt_of_get h) hn).trans h
theorem Fr.add (a : Fr X S S1) (o : Ob) : Fr X S (S1 ++ [o]) := ⟨by rw [List.length_append]; have := a.len; omega, fun i hi h => by rw [List.getElem?_append_left (Nat.lt_of_lt_of_le hi a.len)]; exact a.old i hi h⟩
theorem Fr.lt (a : Fr X S S1) {n : Nat} (h : n < S.length) : n < S1.length := Nat.lt_of_lt_of_le h a.len
end
theorem PoolS.lp {S : Sto} {p l : Nat} (h : PoolS S p l) : p < S.length := by
  obtain ⟨⟨ns, pos, cur, cnt, salt, hp, hl, hpos⟩, _⟩ := h
  exact lt_of_get hp
theorem PoolS.ll {S : Sto} {p l : Nat} (h : PoolS S p l) : l < S.length := by
  obtain ⟨⟨ns, pos, cur, cnt, salt, hp, hl, hpos⟩, _⟩ := h
  exact lt_of_get hl
theorem PoolS.fr {S S' : Sto} {p l : Nat} {X : Nat → Prop} (h : PoolS S p l) (f : Fr X S S') (hp : ¬X p) (hl : ¬X l) : PoolS S' p l := by
  obtain ⟨⟨ns, pos, cur, cnt, salt, h1, h2, h3⟩, h4⟩ := h
  exact ⟨⟨ns, pos, cur, cnt, salt, f.at h1 hp, f.at h2 hl, h3⟩, h4⟩
theorem PoolS.set {S : Sto} {p l n : Nat} {o : Ob} (h : PoolS S p l) (hp : n ≠ p) (hl : n ≠ l) : PoolS (S.set n o) p l := h.fr (Fr.refl.set (X := fun i => i = n) o fun _ => rfl) (fun e => hp e.symm) (fun e => hl e.symm)
theorem PoolS.add {S : Sto} {p l : Nat} {o : Ob} (h : PoolS S p l) : PoolS (S ++ [o]) p l := h.fr (Fr.refl.add (X := fun _ => False) o) (fun h => h) (fun h => h)
theorem ix_put {S : Sto} {p : Nat} {i : Int} {xs : List D} (h : p < S.length) : dIx (.obj p) (.int i) (S.set p (.lst xs)) = (match atI xs i with | some d => .ok d (S.set p (.lst xs)) | none => .bad) := ix_lst (List.getElem?_set_self h)
theorem get_set {S : Sto} {p : Nat} {o : Ob} (h : p < S.length) : (S.set p o)[p]? = some o := List.getElem?_set_self h
theorem ixN_5 : ixN 5 (0 : Int) = some 0 ∧ ixN 5 (1 : Int) = some 1 ∧ ixN 5 (2 : Int) = some 2 ∧ ixN 5 (3 : Int) = some 3 ∧ ixN 5 (4 : Int) = some 4 := ⟨rfl, rfl, rfl, rfl, rfl⟩
theorem spread_ok (c : Int) (S : Sto) : ∃ v, h_law_spread [.int c] S = .ok (.int v) S := by
  unfold h_law_spread runD b_law_spread
  walk_at "ev"
  generalize e : dLoop _ _ _ _ _ _ = r
  obtain ⟨ρ', S', rfl, rfl, _, m, t, v, rfl⟩ := loop_use e
    (fun items ρ S1 => S1 = S ∧ (∀ d ∈ items, ∃ i, d = .int i) ∧ ∃ (m t : Int) (v : Option D), ρ = [some (.int c), some (.int m), some (.int t), v])
    ⟨rfl, fun d hd => rng_ints hd, _, _, _, rfl⟩ (by
      rintro d r ρ S1 ⟨rfl, hd, m, t, v, rfl⟩
      obtain ⟨i, rfl⟩ := hd d List.mem_cons_self
      refine ⟨_, rfl, ?_⟩
      walk_at "ev0"
      exact ⟨fun x hx => hd x (List.mem_cons_of_mem _ hx), _, _, _, rfl⟩)
  walk_at "ev"
  exact ⟨_, rfl⟩
theorem draw_ok {S : Sto} {p l : Nat} {many : Int} (h : PoolS S p l) (h0 : 0 < many) (h1 : many.natAbs.log2 < 9000) : ∃ v S', h_law_draw [.obj p, .int many] S = .ok (.int v) S' ∧ 0 ≤ v ∧ v < many ∧ PoolS S' p l ∧ Fr (fun i => i = p) S S' := by
  obtain ⟨⟨ns, pos, cur, cnt, salt, hp, hl, hpos⟩, hne⟩ := h
  have hne' : p ≠ l := hne.symm
  have hm : many ≠ 0 := by omega
  unfold h_law_draw
  walk_at "env"
  unfold b_law_draw
  refine seq_cut (fun r => ∃ v S', endR r = .ok (.int v) S' ∧ 0 ≤ v ∧ v < many ∧ PoolS S' p l ∧ Fr (fun i => i = p) S S') (fun ρ S1 => Fr (fun i => i = p) S S1 ∧ ∃ (pos cur : Int) (v2 : Option D), ρ = [some (.obj p), some (.int many), v2, none, none] ∧ S1[p]? = some (.lst [.obj l, .int pos, .int cur, .int cnt, .int salt]) ∧ 0 ≤ pos) ?_ ?_
  · by_cases hc : cur ≤ 0
    · by_cases hc2 : pos < (ns.length : Int)
      · obtain ⟨j, rfl⟩ := Int.eq_ofNat_of_zero_le hpos
        have hj : j < ns.length := by omega
        have ej : atI (ns.map D.int) (j : Int) = some (.int ns[j]) := atI_nat (by rw [List.getElem?_map, List.getElem?_eq_getElem hj]; rfl)
        generalize ns[j] = z at ej
        obtain ⟨z', hz⟩ := spread_ok z (S.set p (Ob.lst [D.obj l, D.int (↑j + 1), D.int z, D.int cnt, D.int salt]))
        by_cases hz2 : z < 1000000000000000000
        · walk_at "ev"
          exact ⟨_, _, rfl, Fr.refl.set _ (fun _ => rfl), _, _, _, rfl, get_put hp, by omega⟩
        · walk_at "ev"
          exact ⟨_, _, rfl, Fr.refl.set _ (fun _ => rfl), _, _, _, rfl, get_put hp, by omega⟩
      · walk_at "ev"
        exact ⟨_, _, rfl, Fr.refl, _, _, _, rfl, hp, hpos⟩
    · walk_at "ev"
      exact ⟨_, _, rfl, Fr.refl, _, _, _, rfl, hp, hpos⟩
  · rintro ρ S1 ⟨fr, pos, cur, v2, rfl, hp1, hpos⟩
    have hl1 : S1[l]? = some (.lst (ns.map D.int)) := fr.at hl hne
    by_cases hc : cur ≤ 0
    · walk_at "ev"
      exact ⟨_, _, rfl, Int.fmod_nonneg_of_pos _ h0, Int.fmod_lt_of_pos _ h0, ⟨⟨ns, _, _, _, _, get_put hp1, (get_put_ne hne').trans hl1, hpos⟩, hne⟩, fr.set _ fun _ => rfl⟩
    · walk_at "ev"
      exact ⟨_, _, rfl, Int.fmod_nonneg_of_pos _ h0, Int.fmod_lt_of_pos _ h0, ⟨⟨ns, _, _, _, _, get_put hp1, (get_put_ne hne').trans hl1, hpos⟩, hne⟩, fr.set _ fun _ => rfl⟩
theorem draw_use {S : Sto} {p l : Nat} {many : Int} {r : Res D} (e : h_law_draw [.obj p, .int many] S = r) (h : PoolS S p l) (h0 : 0 < many) (h1 : many.natAbs.log2 < 9000) : ∃ v S', r = .ok (.int v) S' ∧ 0 ≤ v ∧ v < many ∧ PoolS S' p l ∧ Fr (fun i => i = p) S S' := by
  obtain ⟨v, S', e2, h2⟩ := draw_ok h h0 h1
  exact ⟨v, S', e.symm.trans e2, h2⟩
theorem cutL_map {α β : Type} (f : α → β) (xs : List α) (lo hi : Option Int) : cutL (xs.map f) lo hi = (cutL xs lo hi).map f := by
  unfold cutL
  rw [List.length_map, List.map_take, List.map_drop]
theorem cutL_len {α : Type} (xs : List α) (lo hi : Option Int) : (cutL xs lo hi).length ≤ xs.length := by
  unfold cutL
  rw [List.length_take, List.length_drop]
  omega
theorem pool_ok (ns : List Int) (h : ns.length ≤ sizeLine) : ∃ S', h_law_pool [.kl (ns.map D.int)] [] = .ok (.obj 2) S' ∧ PoolS S' 2 1 ∧ S'.length = 3 := by
  unfold h_law_pool
  walk_at "env"
  unfold b_law_pool
  have h5 : (5 : Nat) ≤ sizeLine := by decide +kernel
  have hc : (cutL (ns.map D.int) none (some 63)).length ≤ sizeLine := Nat.le_trans (cutL_len _ _ _) (by rw [List.length_map]; exact h)
  walk_at "ev"
  rw [cutL_map] at hc ⊢
  generalize cutL ns none (some 63) = ms at hc ⊢
  generalize e : dLoop _ _ _ _ _ _ = r
  obtain ⟨ρ, S', rfl, rfl, _, salt, v, rfl⟩ := loop_use e (fun items ρ S => S = ([Ob.lst (ms.map D.int)] : Sto) ∧ (∀ d ∈ items, ∃ i, d = .int i) ∧ ∃ (salt : Int) (v : Option D), ρ = [some (.kl (ns.map D.int)), some (.int salt), v]) ⟨rfl, fun d hd => (by
      obtain ⟨i, _, e⟩ := List.mem_map.mp hd
      exact ⟨i, e.symm⟩), _, _, rfl⟩ (by
    rintro d r ρ S ⟨rfl, hd, salt, v, rfl⟩
    obtain ⟨i, rfl⟩ := hd d List.mem_cons_self
    refine ⟨_, rfl, ?_⟩
    walk_at "ev0"
    exact ⟨rfl, fun x hx => hd x (List.mem_cons_of_mem _ hx), _, _, rfl⟩)
  walk_at "ev"
  exact ⟨_, rfl, ⟨⟨ns, 0, 0, 0, salt, rfl, rfl, by omega⟩, by decide⟩, rfl⟩

/-! ### rows of names -/
structure NRow where
  kind : Str
  nm : Str
  size : Int
def NRow.d (r : NRow) : D := .tup [.str r.kind, .str r.nm, .int r.size]
abbrev kInt : Str := Str.ofString "int"
abbrev kBool : Str := Str.ofString "bool"
abbrev kArr : Str := Str.ofString "array"
/-- what the names of a law are: rows at n -/
structure Rows (S : Sto) (n : Nat) (rs : List NRow) : Prop where
  at_ : S[n]? = some (.lst (rs.map NRow.d))
  arr : ∀ r ∈ rs, r.kind = kArr → 1 ≤ r.size ∧ r.size ≤ 3
  len : rs.length ≤ 8

section
/-! ### texts by their codes -/
open SX (S S_len S_cat S_inj)
theorem S_take (l : List Nat) (k : Nat) : cutS (S l) none (some (k : Int)) = S (l.take k) := by
  show (⟨((l.drop (HT.sIx (S l).length 0 none)).take (HT.sIx (S l).length (S l).length (some (k : Int)) - HT.sIx (S l).length 0 none)).toArray⟩ : Str) = S (l.take k)
  rw [HT.sIx_none, HT.sIx_nat, S_len, List.drop_zero, Nat.sub_zero]
  congr 2
  rw [List.take_eq_take_iff]
  omega
theorem S_drop (l : List Nat) (k : Nat) : cutS (S l) (some (k : Int)) none = S (l.drop k) := by
  show (⟨((l.drop (HT.sIx (S l).length 0 (some (k : Int)))).take (HT.sIx (S l).length (S l).length none - HT.sIx (S l).length 0 (some (k : Int)))).toArray⟩ : Str) = S (l.drop k)
  rw [HT.sIx_none, HT.sIx_nat, S_len]
  by_cases h : k ≤ l.length
  · rw [Nat.min_eq_left h, List.take_of_length_le (by rw [List.length_drop]; exact Nat.le_refl _)]
  · rw [Nat.min_eq_right (by omega), List.drop_eq_nil_of_le (show l.length ≤ k by omega), Nat.sub_self, List.take_zero]
open SX (S S_len S_cat S_inj)
/-! ### drawn names -/
def isLow (c : Nat) : Bool := decide (97 ≤ c) && decide (c ≤ 122)
def isWd (c : Nat) : Bool := isLow c || (decide (48 ≤ c) && decide (c ≤ 57)) || decide (c = 95)
structure Word (nm : List Nat) : Prop where
  head : ∃ c r, nm = c :: r ∧ isLow c = true ∧ ∀ d ∈ r, isWd d = true
  under : 95 ∈ nm
  len : nm.length ≤ 60
abbrev w37 : Str := Str.ofString "abcdefghijklmnopqrstuvwxyz0123456789_"
theorem w37_low : ∀ j ∈ List.range 26, isLow (w37.cps.toList.getD j 0) = true := by decide +kernel
theorem w37_wd : ∀ j ∈ List.range 37, isWd (w37.cps.toList.getD j 0) = true := by decide +kernel
theorem w37_len : w37.cps.toList.length = 37 := by decide +kernel
theorem w37_at {v : Int} (h0 : 0 ≤ v) (h1 : v < 37) : atI w37.cps.toList v = some (w37.cps.toList.getD v.toNat 0) := by
  obtain ⟨j, rfl⟩ := Int.eq_ofNat_of_zero_le h0
  have hj : j < w37.cps.toList.length := by rw [w37_len]; omega
  refine atI_nat ?_
  rw [Int.toNat_natCast, List.getD_eq_getElem?_getD, List.getElem?_eq_getElem hj]
  rfl
theorem low_wd {c : Nat} (h : isLow c = true) : isWd c = true := by
  unfold isWd
  rw [h]
  rfl
/-- how many of the texts are shorter than n -/
def shorter (ss : List Str) (n : Nat) : Nat := (ss.filter fun t => decide (t.length < n)).length
theorem shorter_le (ss : List Str) (n : Nat) : shorter ss n ≤ ss.length := List.length_filter_le _ _
theorem shorter_mono : ∀ (ss : List Str) (n : Nat), shorter ss n ≤ shorter ss (n + 1)
  | [], _ => Nat.le_refl _
  | t :: ss, n => by
    have ih := shorter_mono ss n
    unfold shorter at ih ⊢
    by_cases h : t.length < n
    · rw [List.filter_cons_of_pos (by simpa using h), List.filter_cons_of_pos (by simp; omega), List.length_cons, List.length_cons]
      omega
    · rw [List.filter_cons_of_neg (by simpa using h)]
      by_cases h2 : t.length < n + 1
      · rw [List.filter_cons_of_pos (by simpa using h2), List.length_cons]
        omega
      · rw [List.filter_cons_of_neg (by simpa using h2)]
        exact ih
theorem shorter_more : ∀ (ss : List Str) (x : Str), x ∈ ss → shorter ss x.length + 1 ≤ shorter ss (x.length + 1)
  | [], x, h => by cases h
  | t :: ss, x, h => by
    have mono := shorter_mono ss x.length
    by_cases e : t = x
    · subst e
      unfold shorter at mono ⊢
      rw [List.filter_cons_of_neg (by simp), List.filter_cons_of_pos (by simp), List.length_cons]
      omega
    · have hm : x ∈ ss := (List.mem_cons.mp h).resolve_left (fun z => e z.symm)
      have ih := shorter_more ss x hm
      unfold shorter at ih mono ⊢
      by_cases h1 : t.length < x.length
      · rw [List.filter_cons_of_pos (by simpa using h1), List.filter_cons_of_pos (by simp; omega), List.length_cons, List.length_cons]
        omega
      · rw [List.filter_cons_of_neg (by simpa using h1)]
        by_cases h2 : t.length < x.length + 1
        · rw [List.filter_cons_of_pos (by simpa using h2), List.length_cons]
          omega
        · rw [List.filter_cons_of_neg (by simpa using h2)]
          exact ih
theorem joinL_nil : ∀ ys : List (List Nat), TL.joinL [] ys = ys.flatten
  | [] => rfl
  | [p] => by simp [TL.joinL]
  | p :: q :: r => by
    show p ++ ([] ++ TL.joinL [] (q :: r)) = (p :: q :: r).flatten
    rw [List.nil_append, joinL_nil (q :: r)]
    rfl
theorem sum_ones : ∀ cs : List Nat, (((cs.map fun c => [c]).map S).map (·.length)).sum = cs.length
  | [] => rfl
  | c :: cs => by
    have ih := sum_ones cs
    show (S [c]).length + (((cs.map fun c => [c]).map S).map (·.length)).sum = cs.length + 1
    rw [ih, S_len]
    show 1 + cs.length = cs.length + 1
    omega
theorem flat_ones (cs : List Nat) : (cs.map fun c => [c]).flatten = cs := by
  induction cs with
  | nil => rfl
  | cons c cs ih =>
    show [c] ++ (cs.map fun c => [c]).flatten = c :: cs
    rw [ih]
    rfl
theorem dec_str (a b : Str) : decide (V.str a = V.str b) = decide (a = b) := by
  rw [Bool.eq_iff_iff, decide_eq_true_eq, decide_eq_true_eq]
  exact ⟨fun h => V.str.inj h, fun h => by rw [h]⟩
theorem in_strs (x : Str) : ∀ ss : List Str, inV (.str x) (ss.map V.str) = decide (x ∈ ss)
  | [] => by simp [inV]
  | y :: ss => by
    have ih := in_strs x ss
    show (eqV (.str y) (.str x) || inV (.str x) (ss.map V.str)) = _
    rw [ih]
    show ((y == x) || decide (x ∈ ss)) = _
    rw [Bool.eq_iff_iff, Bool.or_eq_true, beq_iff_eq, decide_eq_true_eq, decide_eq_true_eq, List.mem_cons]
    constructor
    · rintro (h | h)
      · exact .inl h.symm
      · exact .inr h
    · rintro (h | h)
      · exact .inl h.symm
      · exact .inr h
end

theorem scs_strs : ∀ ss : List Str, scs (ss.map D.str) = some (ss.map V.str)
  | [] => rfl
  | x :: ss => by
    show (match (D.str x).sc, scs (ss.map D.str) with | some v, some vs => some (v :: vs) | _, _ => none) = _
    rw [scs_strs ss]
    rfl
theorem asStrs_map : ∀ cs : List Nat, asStrs (cs.map fun c => D.str (SX.S [c])) = some ((cs.map fun c => [c]).map SX.S)
  | [] => rfl
  | c :: cs => by
    show (asStrs (cs.map fun c => D.str (SX.S [c]))).map (fun r => SX.S [c] :: r) = _
    rw [asStrs_map cs]
    rfl
theorem name_ok {S : Sto} {p l t : Nat} {ss : List Str} (po : PoolS S p l) (ht : S[t]? = some (.lst (ss.map D.str))) (hs : ss.length ≤ 30) (tp : t ≠ p) (tl : t ≠ l) :
    ∃ nm S', h_law_name [.obj p, .obj t] S = .ok (.str (SX.S nm)) S' ∧ Word nm ∧ SX.S nm ∉ ss ∧ PoolS S' p l ∧ S'[t]? = some (.lst ((ss ++ [SX.S nm]).map D.str)) ∧ Fr (fun i => i = p ∨ i = t) S S' := by
  unfold h_law_name
  walk_at "env"
  unfold b_law_name
  have hw37 : w37.length = 37 := w37_len
  have hsl : sizeLine = 16777216 := sizeLine_eq
  -- the first sign
  walk_at "ev0"
  generalize e1 : h_law_draw _ _ = r
  obtain ⟨u, S1, rfl, u0, u1, po1, fr1⟩ := draw_use e1 po (by decide) (by decide)
  have c0 := w37_at u0 (by omega)
  have hc0 := w37_low u.toNat (List.mem_range.mpr (by omega))
  generalize w37.cps.toList.getD u.toNat 0 = c0' at c0 hc0
  have l1 : w37.length ≤ sizeLine := by omega
  have ht1 := fr1.at ht tp
  walk_at "ev0"
  simp only [if_pos l1, c0]
  walk_at "ev0"
  generalize e2 : h_law_draw _ _ = r
  obtain ⟨n, S2, rfl, n0, n1, po2, fr2⟩ := draw_use e2 po1 (by decide) (by decide)
  have ht2 := fr2.at ht1 tp
  walk_at "ev0"
  have hn : OkR n := ⟨by omega, by omega⟩
  simp only [if_pos hn]
  walk_at "ev0"
  generalize e3 : cLoop _ _ _ _ _ _ _ = r
  obtain ⟨xs, S3, rfl, po3, fr3, cs, rfl, hwd, hlen, _⟩ := cLoop_use e3 (fun items acc S3 => PoolS S3 p l ∧ Fr (fun i => i = p) S2 S3 ∧ ∃ cs : List Nat, acc = cs.map (fun c => D.str (SX.S [c])) ∧ (∀ c ∈ cs, isWd c = true) ∧ items.length + cs.length = n.toNat ∧ ∀ d ∈ items, ∃ i, d = .int i)
    ⟨po2, Fr.refl, [], rfl, (fun _ h => nomatch h), (by rw [rng_len]; rfl), fun d hd => rng_ints hd⟩ (by
    rintro d r acc S3 ⟨po3, fr3, cs, rfl, hwd, hlen, hint⟩
    obtain ⟨i, rfl⟩ := hint _ List.mem_cons_self
    refine ⟨_, rfl, ?_⟩
    walk_at "ev0"
    generalize e4 : h_law_draw _ _ = r'
    obtain ⟨v, S4, rfl, v0, v1, po4, fr4⟩ := draw_use e4 po3 (by decide) (by decide)
    have c1 := w37_at v0 v1
    have hc1 := w37_wd v.toNat (List.mem_range.mpr (by omega))
    generalize w37.cps.toList.getD v.toNat 0 = c1' at c1 hc1
    walk_at "ev0"
    simp only [if_pos l1, c1]
    walk_at "ev0"
    refine ⟨_, _, rfl, po4, fr3.trans fr4, cs ++ [c1'], ?_, ?_, ?_, fun d hd => hint d (List.mem_cons_of_mem _ hd)⟩
    · rw [List.map_append]; rfl
    · intro c hc
      rcases List.mem_append.mp hc with z | z
      · exact hwd c z
      · rw [List.mem_singleton.mp z]; exact hc1
    · rw [List.length_append, List.length_singleton]
      rw [List.length_cons] at hlen
      omega)
  rw [List.length_nil] at hlen
  have hcl : (cs.map fun c => D.str (SX.S [c])).length ≤ sizeLine := by rw [List.length_map]; omega
  have ht3 := (fr3.at ht2 tp)
  have ht3' : (S3 ++ [Ob.lst (cs.map fun c => D.str (SX.S [c]))])[t]? = some (.lst (ss.map D.str)) := by rw [List.getElem?_append_left (lt_of_get ht3)]; exact ht3
  have po3' := po3.add (o := Ob.lst (cs.map fun c => D.str (SX.S [c])))
  have hj : (((cs.map fun c => [c]).map SX.S).map (·.length)).sum + ((cs.map fun c => [c]).map SX.S).length * (Str.ofString "").length ≤ 16777216 := by
    rw [sum_ones, show (Str.ofString "").length = 0 from rfl]
    omega
  have hjn : Txt.join (Str.ofString "") ((cs.map fun c => [c]).map SX.S) = SX.S cs := by
    rw [show Txt.join (Str.ofString "") ((cs.map fun c => [c]).map SX.S) = SX.S (TL.joinL [] (cs.map fun c => [c])) from SX.join_S [] _, joinL_nil, flat_ones]
  simp only [Ev.cend1, Ev.mkLst1, if_pos hcl]
  walk_at "ev0"
  rw [asStrs_map]
  simp only [Ev.joinR1, if_pos hj, hjn]
  walk_at "ev0"
  rw [show (⟨#[c0']⟩ : Str) ++ SX.S cs = SX.S (c0' :: cs) from SX.S_cat [c0'] cs]
  have h1 : (⟨#[c0']⟩ : Str).length + (SX.S cs).length ≤ sizeLine := by show (SX.S [c0']).length + _ ≤ _; rw [SX.S_len, SX.S_len, List.length_singleton]; omega
  have h2 : (SX.S (c0' :: cs)).length ≤ sizeLine := by rw [SX.S_len, List.length_cons]; omega
  simp only [if_pos h1]
  walk_at "ev0"
  simp only [if_pos h2]
  walk_at "ev0"
  generalize e4 : h_law_draw _ _ = r
  obtain ⟨q', S4, rfl, q0, q1, po4, fr4⟩ := draw_use e4 po3' (by rw [SX.S_len, List.length_cons]; omega) (by
    rw [SX.S_len, List.length_cons, Int.natAbs_natCast]
    exact Nat.lt_of_le_of_lt (Nat.log2_le_self _) (by omega))
  rw [SX.S_len, List.length_cons] at q1
  obtain ⟨q, rfl⟩ := Int.eq_ofNat_of_zero_le q0
  have ht4 := fr4.at ht3' tp
  walk_at "ev0"
  simp only [if_pos h2, show (1 + (q : Int)) = ((1 + q : Nat) : Int) by omega, S_take, S_drop]
  walk_at "ev0"
  have hu : (Str.ofString "_") = SX.S [95] := rfl
  have h3 : (SX.S (List.take (1 + q) (c0' :: cs))).length + (Str.ofString "_").length ≤ sizeLine := by
    rw [hu, SX.S_len, SX.S_len, List.length_take, List.length_singleton, List.length_cons]
    omega
  have h4 : (SX.S (List.take (1 + q) (c0' :: cs) ++ [95])).length + (SX.S (List.drop (1 + q) (c0' :: cs))).length ≤ sizeLine := by
    rw [SX.S_len, SX.S_len, List.length_append, List.length_take, List.length_drop, List.length_singleton, List.length_cons]
    omega
  simp only [if_pos h3]
  walk_at "ev0"
  rw [show SX.S (List.take (1 + q) (c0' :: cs)) ++ Str.ofString "_" = SX.S (List.take (1 + q) (c0' :: cs) ++ [95]) from SX.S_cat _ [95]]
  simp only [if_pos h2, S_drop]
  walk_at "ev0"
  simp only [if_pos h4, SX.S_cat]
  have hw1 : ∃ nm0 : List Nat, nm0 = (c0' :: cs).take (1 + q) ++ [95] ++ (c0' :: cs).drop (1 + q) ∧ (∃ c r, nm0 = c :: r ∧ isLow c = true ∧ ∀ d ∈ r, isWd d = true) ∧ 95 ∈ nm0 ∧ nm0.length ≤ 10 := by
    refine ⟨_, rfl, ⟨c0', cs.take q ++ [95] ++ cs.drop q, ?_, hc0, ?_⟩, ?_, ?_⟩
    · rw [show 1 + q = q + 1 by omega]
      rfl
    · intro d hd
      rcases List.mem_append.mp hd with z | z
      · rcases List.mem_append.mp z with y | y
        · exact hwd d (List.mem_of_mem_take y)
        · rw [List.mem_singleton.mp y]
          decide
      · exact hwd d (List.mem_of_mem_drop z)
    · simp
    · rw [List.length_append, List.length_append, List.length_take, List.length_drop, List.length_cons, List.length_singleton]
      omega
  obtain ⟨nm0, e0, hhead0, hund0, hlen0⟩ := hw1
  rw [← e0]
  have fr04 : Fr (fun i => i = p ∨ i = t) S S4 := ((((fr1.trans fr2).trans fr3).add _).trans fr4).mono fun i _ h => .inl h
  clear e1 e2 e3 e4 e0 h1 h2 h3 h4 hj hjn
  walk_at "ev0"
  generalize e5 : dLoop _ _ _ _ _ _ = r
  have hR := loop_use2 e5 (fun items ρ S5 => S5 = S4 ∧ ∃ (nm : List Nat) (v3 : Option D) (i : Nat), ρ = [some (.obj p), some (.obj t), some (.str w37), v3, some (.str (SX.S nm)), some (.int ((1 + q : Nat) : Int))] ∧ (∃ c r, nm = c :: r ∧ isLow c = true ∧ ∀ d ∈ r, isWd d = true) ∧ 95 ∈ nm ∧ nm.length ≤ 10 + i ∧ i ≤ shorter ss nm.length ∧ i + items.length = 40 ∧ ∀ d ∈ items, ∃ i, d = .int i)
    (fun r => ∃ ρ, r = .nx ρ S4 ∧ ∃ (nm : List Nat) (v3 : Option D), ρ = [some (.obj p), some (.obj t), some (.str w37), v3, some (.str (SX.S nm)), some (.int ((1 + q : Nat) : Int))] ∧ Word nm ∧ SX.S nm ∉ ss)
    ⟨rfl, nm0, none, 0, rfl, hhead0, hund0, by omega, Nat.zero_le _, (by rw [rng_len]; rfl), fun d hd => rng_ints hd⟩
    (by
      rintro d r ρ S5 ⟨rfl, nm, v3, i, rfl, hh, hu, hl, hsh, hi, hint⟩
      obtain ⟨k, rfl⟩ := hint d List.mem_cons_self
      refine ⟨_, rfl, ?_⟩
      rw [List.length_cons] at hi
      have hinx := in_strs (SX.S nm) ss
      by_cases hm : SX.S nm ∈ ss
      · have hin : inV (.str (SX.S nm)) (ss.map V.str) = true := by rw [hinx]; exact decide_eq_true hm
        have m0 := Int.fmod_nonneg_of_pos k (show (0 : Int) < 26 by decide)
        have m1 := Int.fmod_lt_of_pos k (show (0 : Int) < 26 by decide)
        have c1 := w37_at m0 (by omega)
        have hc1 := w37_low (k.fmod 26).toNat (List.mem_range.mpr (by omega))
        generalize w37.cps.toList.getD (k.fmod 26).toNat 0 = c1' at c1 hc1
        have h6 : (SX.S nm).length + (SX.S [c1']).length ≤ sizeLine := by rw [SX.S_len, SX.S_len, List.length_singleton]; omega
        walk_at "ev0"
        simp only [ht4]
        walk_at "ev0"
        rw [scs_strs]
        walk_at "ev0"
        simp only [hin]
        walk_at "ev0"
        simp only [if_pos l1, c1]
        walk_at "ev0"
        rw [show (⟨#[c1']⟩ : Str) = SX.S [c1'] from rfl, if_pos h6, SX.S_cat]
        walk_at "ev0"
        have hmore := shorter_more ss (SX.S nm) hm
        rw [SX.S_len] at hmore
        obtain ⟨c9, r9, e9, h9, hr9⟩ := hh
        refine ⟨nm ++ [c1'], _, i + 1, rfl, ⟨c9, r9 ++ [c1'], by rw [e9]; rfl, h9, fun d hd => ?_⟩, by simp [hu], ?_, ?_, by omega, fun d hd => hint d (List.mem_cons_of_mem _ hd)⟩
        · rcases List.mem_append.mp hd with z | z
          · exact hr9 d z
          · rw [List.mem_singleton.mp z]; exact low_wd hc1
        · rw [List.length_append, List.length_singleton]; omega
        · rw [List.length_append, List.length_singleton]; omega
      · have hin : inV (.str (SX.S nm)) (ss.map V.str) = false := by rw [hinx]; exact decide_eq_false hm
        walk_at "ev0"
        simp only [ht4]
        walk_at "ev0"
        rw [scs_strs]
        walk_at "ev0"
        simp only [hin]
        walk_at "ev0"
        exact ⟨_, rfl, nm, _, rfl, ⟨hh, hu, by omega⟩, hm⟩)
    (by
      rintro ρ S5 ⟨rfl, nm, v3, i, rfl, hh, hu, hl, hsh, hi, hint⟩
      have := shorter_le ss nm.length
      rw [List.length_nil] at hi
      omega)
  obtain ⟨ρ, rfl, nm, v3, rfl, hword, hnot⟩ := hR
  have hl : (ss.map D.str).length < sizeLine := by rw [List.length_map]; omega
  walk_at "ev0"
  simp only [ht4]
  walk_at "ev0"
  rw [List.length_map] at hl
  simp only [ht4, if_pos hl]
  walk_at "ev0"
  refine ⟨nm, _, rfl, hword, hnot, po4.set tp tl, ?_, fr04.set _ fun _ => .inr rfl⟩
  rw [get_put ht4, List.map_append]
  rfl
theorem name_use {S : Sto} {p l t : Nat} {ss : List Str} {r : Res D} (e : h_law_name [.obj p, .obj t] S = r) (po : PoolS S p l) (ht : S[t]? = some (.lst (ss.map D.str))) (hs : ss.length ≤ 30) (tp : t ≠ p) (tl : t ≠ l) :
    ∃ nm S', r = .ok (.str (SX.S nm)) S' ∧ Word nm ∧ SX.S nm ∉ ss ∧ PoolS S' p l ∧ S'[t]? = some (.lst ((ss ++ [SX.S nm]).map D.str)) ∧ Fr (fun i => i = p ∨ i = t) S S' := by
  obtain ⟨nm, S', e2, h⟩ := name_ok po ht hs tp tl
  exact ⟨nm, S', e.symm.trans e2, h⟩

/-! ### rows of names -/
structure WRow where
  kind : Str
  nm : List Nat
  size : Int
def WRow.d (r : WRow) : D := .tup [.str r.kind, .str (SX.S r.nm), .int r.size]
structure WRow.Good (r : WRow) : Prop where
  word : Word r.nm
  fit : (r.kind = kInt ∧ r.size = 0) ∨ (r.kind = kBool ∧ r.size = 0) ∨ (r.kind = kArr ∧ 1 ≤ r.size ∧ r.size ≤ 3)
/-- what the names of a law are: rows at n, all good, no name twice -/
structure WRows (S : Sto) (n : Nat) (rs : List WRow) : Prop where
  at_ : S[n]? = some (.lst (rs.map WRow.d))
  good : ∀ r ∈ rs, r.Good
  len : rs.length ≤ 5
  nodup : (rs.map fun r => SX.S r.nm).Nodup
  int : ∃ r ∈ rs, r.kind = kInt
  bool : ∃ r ∈ rs, r.kind = kBool
theorem fin3 {v : Int} (h0 : 0 ≤ v) (h1 : v < 3) : v = 0 ∨ v = 1 ∨ v = 2 := by omega
theorem names_ok {S : Sto} {p l : Nat} (po : PoolS S p l) : ∃ n S' rs, h_law_names [.obj p] S = .ok (.obj n) S' ∧ PoolS S' p l ∧ WRows S' n rs ∧ Fr (fun i => i = p) S S' ∧ S.length ≤ n := by
  unfold h_law_names
  walk_at "env"
  unfold b_law_names
  walk_at "ev0"
  have hp := po.lp
  have hll := po.ll
  generalize hT : S.length = T at *
  have ap : (S ++ [Ob.lst []])[T]? = some (.lst []) := by rw [← hT]; exact Ev.appNew
  generalize e1 : h_law_name _ _ = r
  obtain ⟨n1, S1, rfl, w1, d1, po1, t1, fr1⟩ := name_use (ss := []) e1 (po.add) ap (by decide) (by omega) (by omega)
  walk_at "ev0"
  generalize e2 : h_law_name _ _ = r
  obtain ⟨n2, S2, rfl, w2, d2, po2, t2, fr2⟩ := name_use (ss := [SX.S n1]) e2 po1 t1 (by show 1 ≤ 30; decide) (by omega) (by omega)
  have three : (3 : Nat) ≤ sizeLine := by decide +kernel
  walk_at "ev0"
  have hS2 : T < S2.length := lt_of_get t2
  have fr02 : Fr (fun i => i = p ∨ i = T) S S2 := ((Fr.refl (X := fun i => i = p ∨ i = T)).add _).trans (fr1.trans fr2)
  generalize hN : S2.length = N at *
  have an : (S2 ++ [Ob.lst [WRow.d ⟨kInt, n1, 0⟩, WRow.d ⟨kBool, n2, 0⟩]])[N]? = some (.lst ([(⟨kInt, n1, 0⟩ : WRow), ⟨kBool, n2, 0⟩].map WRow.d)) := by rw [← hN]; exact Ev.appNew
  have at2 : (S2 ++ [Ob.lst [WRow.d ⟨kInt, n1, 0⟩, WRow.d ⟨kBool, n2, 0⟩]])[T]? = some (.lst ([SX.S n1, SX.S n2].map D.str)) := by rw [List.getElem?_append_left (by omega)]; exact t2
  generalize e3 : h_law_draw _ _ = r
  obtain ⟨k, S3, rfl, k0, k1, po3, fr3⟩ := draw_use e3 po2.add (by decide) (by decide)
  have hk : OkR k := ⟨by omega, by omega⟩
  walk_at "ev0"
  simp only [hk, if_true]
  walk_at "ev0"
  have an3 := fr3.at an (by omega)
  have at3 := fr3.at at2 (by omega)
  have fr03 : Fr (fun i => i = p ∨ i = T) S S3 := (fr02.add _).trans (fr3.mono fun i _ h => .inl h)
  generalize e4 : dLoop _ _ _ _ _ _ = r
  obtain ⟨ρ, S4, rfl, rs, v3, v4, rfl, po4, a4, t4, fr4, g4, len4, nd4, in4⟩ := loop_idx_nx e4 (fun i ρ S' => ∃ (rs : List WRow) (v3 v4 : Option D), ρ = [some (.obj p), some (.obj T), some (.obj N), v3, v4] ∧ PoolS S' p l ∧ S'[N]? = some (.lst (rs.map WRow.d)) ∧ S'[T]? = some (.lst ((rs.map fun r => SX.S r.nm).map D.str)) ∧ Fr (fun i => i = p ∨ i = T) S S' ∧ (∀ r ∈ rs, r.Good) ∧ rs.length = 2 + i ∧ (rs.map fun r => SX.S r.nm).Nodup ∧ ∀ r ∈ [(⟨kInt, n1, 0⟩ : WRow), ⟨kBool, n2, 0⟩], r ∈ rs)
    ⟨[(⟨kInt, n1, 0⟩ : WRow), ⟨kBool, n2, 0⟩], none, none, rfl, po3, an3, at3, fr03, (by
      intro r hr
      rcases List.mem_cons.mp hr with rfl | hr
      · exact ⟨w1, .inl ⟨rfl, rfl⟩⟩
      · rw [List.mem_singleton.mp hr]; exact ⟨w2, .inr (.inl ⟨rfl, rfl⟩)⟩), rfl, (by
      show [SX.S n1, SX.S n2].Nodup
      rw [List.nodup_cons]
      exact ⟨fun h => d2 (by rw [List.mem_singleton] at h ⊢; exact h.symm), by simp⟩), fun r hr => hr⟩ (by
    rintro i d ρ S5 hd ⟨rs, v3, v4, rfl, po5, a5, t5, fr5, g5, len5, nd5, in5⟩
    obtain ⟨hi, rfl⟩ := rng_get hd
    refine ⟨_, rfl, ?_⟩
    clear e1 e2 e3 e4 hd
    walk_at "ev0"
    generalize e5 : h_law_draw _ _ = r'
    obtain ⟨u, S6, rfl, u0, u1, po6, fr6⟩ := draw_use e5 po5 (by decide) (by decide)
    have a6 := fr6.at a5 (by omega)
    have t6 := fr6.at t5 (by omega)
    have hu : ∃ kd : Str, atI [D.str kInt, .str kBool, .str kArr] u = some (.str kd) ∧ (kd = kInt ∨ kd = kBool ∨ kd = kArr) := by
      rcases fin3 u0 u1 with rfl | rfl | rfl
      · exact ⟨_, rfl, .inl rfl⟩
      · exact ⟨_, rfl, .inr (.inl rfl)⟩
      · exact ⟨_, rfl, .inr (.inr rfl)⟩
    obtain ⟨kd, hkd, hk3⟩ := hu
    walk_at "ev0"
    rw [hkd]
    walk_at "ev0"
    generalize e6 : h_law_name _ _ = r'
    obtain ⟨n3, S7, rfl, w3, d3, po7, t7, fr7⟩ := name_use e6 po6 t6 (by rw [List.length_map]; omega) (by omega) (by omega)
    have a7 := fr7.at a6 (by omega)
    walk_at "ev0"
    generalize e7 : h_law_draw _ _ = r'
    obtain ⟨z, S8, rfl, z0, z1, po8, fr8⟩ := draw_use e7 po7 (by decide) (by decide)
    have a8 := fr8.at a7 (by omega)
    have t8 := fr8.at t7 (by omega)
    have hl : rs.length < sizeLine := by rw [sizeLine_eq]; omega
    walk_at "ev0"
    have hm : MulOk (1 + z) (if decide (kd = Str.ofString "array") = true then 1 else 0) := .inr (.inl (by split <;> decide))
    have hsz : ∃ sz : Int, (1 + z) * (if decide (kd = Str.ofString "array") = true then 1 else 0) = sz ∧ WRow.Good ⟨kd, n3, sz⟩ := by
      refine ⟨_, rfl, w3, ?_⟩
      rcases hk3 with rfl | rfl | rfl
      · exact .inl ⟨rfl, by show (1 + z) * (if decide (kInt = kArr) = true then 1 else 0) = 0; rw [if_neg (by decide)]; omega⟩
      · exact .inr (.inl ⟨rfl, by show (1 + z) * (if decide (kBool = kArr) = true then 1 else 0) = 0; rw [if_neg (by decide)]; omega⟩)
      · refine .inr (.inr ⟨rfl, ?_⟩)
        show 1 ≤ (1 + z) * (if decide (kArr = kArr) = true then 1 else 0) ∧ (1 + z) * (if decide (kArr = kArr) = true then 1 else 0) ≤ 3
        rw [if_pos (by decide)]
        omega
    obtain ⟨sz, hz, hgood⟩ := hsz
    simp only [hm, if_true, a6, hz]
    walk_at "ev0"
    simp only [a8]
    walk_at "ev0"
    simp only [hl, if_true]
    try walk_at "ev0"
    refine ⟨rs ++ [⟨kd, n3, sz⟩], _, _, rfl, po8.set (by omega) (by omega), ?_, ?_, ?_, ?_, ?_, ?_, fun r hr => List.mem_append_left _ (in5 r hr)⟩
    · rw [a8, List.map_append]; rfl
    · rw [get_put_ne (by omega), t8, List.map_append, List.map_append, List.map_append]; rfl
    · exact (((fr5.trans (fr6.mono fun i _ h => .inl h)).trans fr7).trans (fr8.mono fun i _ h => .inl h)).set _ (by intro h; omega)
    · intro r hr
      rcases List.mem_append.mp hr with y | y
      · exact g5 r y
      · rw [List.mem_singleton.mp y]; exact hgood
    · rw [List.length_append, List.length_singleton]; omega
    · rw [List.map_append, List.nodup_append]
      refine ⟨nd5, by simp, ?_⟩
      intro a ha b hb e
      rw [List.mem_map] at hb
      obtain ⟨r, hr, rfl⟩ := hb
      rw [List.mem_singleton.mp hr] at e
      subst e
      exact d3 ha)
  rw [rng_len] at len4
  walk_at "ev0"
  refine ⟨N, S4, rs, rfl, po4, ⟨a4, g4, by omega, nd4, ⟨_, in4 _ (List.mem_cons_self), rfl⟩, ⟨_, in4 _ (List.mem_cons_of_mem _ List.mem_cons_self), rfl⟩⟩, ⟨fr4.len, fun i hi h => fr4.old i (by omega) (by omega)⟩, by omega⟩
theorem names_use {S : Sto} {p l : Nat} {r : Res D} (e : h_law_names [.obj p] S = r) (po : PoolS S p l) : ∃ n S' rs, r = .ok (.obj n) S' ∧ PoolS S' p l ∧ WRows S' n rs ∧ Fr (fun i => i = p) S S' ∧ S.length ≤ n := by
  obtain ⟨n, S', rs, e2, h⟩ := names_ok po
  exact ⟨n, S', rs, e.symm.trans e2, h⟩

def WRow.n (r : WRow) : NRow := ⟨r.kind, SX.S r.nm, r.size⟩
theorem wd_eq (rs : List WRow) : rs.map WRow.d = (rs.map WRow.n).map NRow.d := by
  rw [List.map_map]
  rfl
theorem wrows {S : Sto} {n : Nat} {rs : List WRow} (h : WRows S n rs) : Rows S n (rs.map WRow.n) := by
  refine ⟨by rw [h.at_, wd_eq], fun r hr hk => ?_, by rw [List.length_map]; have := h.len; omega⟩
  obtain ⟨x, hx, rfl⟩ := List.mem_map.mp hr
  rcases (h.good x hx).fit with ⟨h1, _⟩ | ⟨h1, _⟩ | ⟨_, h2⟩
  · exact absurd (h1.symm.trans hk) (by decide)
  · exact absurd (h1.symm.trans hk) (by decide)
  · exact h2

/-! ### comprehensions that change nothing -/
section
variable {still : Sto → Prop} {g : DG} {t : DT} {e : DE} {ρ : Env} {S : Sto} {r : Res (List D)}
theorem cLoop_map {α : Type} {φ : α → D} {xs : List α} (hc : cLoop still g t e ρ (xs.map φ) S = r) (hs : still S) (b : α → Bool) (f : α → D)
    (h : ∀ x ∈ xs, ∃ ρ1, g (φ x) ρ S = some ρ1 ∧ t ρ1 S = .ok (b x) S ∧ (b x = true → e ρ1 S = .ok (f x) S)) : r = .ok ((xs.filter b).map f) S := by
  rw [← hc]
  clear hc
  induction xs with
  | nil => rfl
  | cons x xs ih =>
    obtain ⟨ρ1, h1, h2, h3⟩ := h x List.mem_cons_self
    have ih := ih fun y hy => h y (List.mem_cons_of_mem _ hy)
    rw [List.map_cons]
    show cTg still t e (cLoop still g t e ρ (xs.map φ)) S (g (φ x) ρ S) = _
    rw [h1]
    show cTest still e _ ρ1 (t ρ1 S) = _
    rw [h2, List.filter_cons]
    cases hb : b x with
    | true =>
      show cElt still _ (e ρ1 S) = _
      rw [h3 hb]
      show cHead (f x) (cSkip still _ S) = _
      unfold cSkip
      rw [if_pos hs, ih]
      rfl
    | false =>
      show cSkip still _ S = _
      unfold cSkip
      rw [if_pos hs, ih]
      rfl
theorem cLoop_all {α : Type} {φ : α → D} {xs : List α} (hc : cLoop still g (fun _ S => .ok true S) e ρ (xs.map φ) S = r) (hs : still S) (f : α → D)
    (h : ∀ x ∈ xs, ∃ ρ1, g (φ x) ρ S = some ρ1 ∧ e ρ1 S = .ok (f x) S) : r = .ok (xs.map f) S := by
  have := cLoop_map hc hs (fun _ => true) f fun x hx => by
    obtain ⟨ρ1, h1, h2⟩ := h x hx
    exact ⟨ρ1, h1, rfl, fun _ => h2⟩
  rw [this, List.filter_eq_self.mpr fun _ _ => rfl]
theorem cLoop2_all {α : Type} {φ : α → D} {inn : Env → Sto → Res (List D)} {xs : List α} (hc : cLoop2 still g (fun _ S => .ok true S) inn ρ (xs.map φ) S = r) (hs : still S) (f : α → List D)
    (h : ∀ x ∈ xs, ∃ ρ1, g (φ x) ρ S = some ρ1 ∧ inn ρ1 S = .ok (f x) S) : r = .ok (xs.flatMap f) S := by
  rw [← hc]
  clear hc
  induction xs with
  | nil => rfl
  | cons x xs ih =>
    obtain ⟨ρ1, h1, h2⟩ := h x List.mem_cons_self
    have ih := ih fun y hy => h y (List.mem_cons_of_mem _ hy)
    rw [List.map_cons]
    show cTg2 still _ inn (cLoop2 still g _ inn ρ (xs.map φ)) S (g (φ x) ρ S) = _
    rw [h1]
    show cOut still _ (inn ρ1 S) = _
    rw [h2]
    show cAppd (f x) (cSkip still _ S) = _
    unfold cSkip
    rw [if_pos hs, ih]
    rfl
end
theorem rng_map (lo : Int) (n : Nat) : rng lo n = (List.range n).map fun i : Nat => D.int (lo + (i : Int)) := rfl
theorem okr_nat {n : Nat} (h : n ≤ 1000000) : OkR ((n : Nat) : Int) := ⟨by omega, by omega⟩

/-! ### being the same -/
theorem same_int (n : Nat) (i : Int) (S : Sto) : h_law_same (n + 1) [.int i, .int i] S = .ok (.bl true) S := by
  show runD 2 3 (b_law_same (h_law_same n)) _ S = _
  walk_at "env"
  unfold b_law_same
  walk_at "ev0"
theorem same_str (n : Nat) (i : Str) (S : Sto) : h_law_same (n + 1) [.str i, .str i] S = .ok (.bl true) S := by
  show runD 2 3 (b_law_same (h_law_same n)) _ S = _
  walk_at "env"
  unfold b_law_same
  walk_at "ev0"
theorem same_bl (n : Nat) (i : Bool) (S : Sto) : h_law_same (n + 1) [.bl i, .bl i] S = .ok (.bl true) S := by
  show runD 2 3 (b_law_same (h_law_same n)) _ S = _
  walk_at "env"
  unfold b_law_same
  walk_at "ev0"
theorem same_non (n : Nat) (S : Sto) : h_law_same (n + 1) [.non, .non] S = .ok (.bl true) S := by
  show runD 2 3 (b_law_same (h_law_same n)) _ S = _
  walk_at "env"
  unfold b_law_same
  walk_at "ev0"
theorem same_tup (n : Nat) {as ds : List D} {S : Sto} (hl : ds.length ≤ sizeLine) (h : as.length = ds.length) (hi : ∀ (i : Nat) (a d : D), as[i]? = some a → ds[i]? = some d → h_law_same n [a, d] S = .ok (.bl true) S) :
    h_law_same (n + 1) [.tup as, .tup ds] S = .ok (.bl true) S := by
  show runD 2 3 (b_law_same (h_law_same n)) _ S = _
  walk_at "env"
  unfold b_law_same
  walk_at "ev0"
  rw [h]
  walk_at "ev0"
  simp only [Ev.okr2 hl]
  walk_at "ev0"
  generalize e : dLoop _ _ _ _ _ _ = r
  obtain ⟨ρ', S', rfl, rfl, v, rfl⟩ := loop_idx_nx e (fun _ ρ S1 => S1 = S ∧ ∃ v : Option D, ρ = [some (.tup as), some (.tup ds), v]) ⟨rfl, _, rfl⟩ (by
    rintro i d ρ S1 hd ⟨rfl, v, rfl⟩
    obtain ⟨hi1, rfl⟩ := rng_get hd
    rw [Int.toNat_natCast] at hi1
    have e1 : as[i]? = some as[i] := List.getElem?_eq_getElem (by omega)
    have e2 : ds[i]? = some ds[i] := List.getElem?_eq_getElem hi1
    have e3 := hi i _ _ e1 e2
    have e4 := atI_nat e1
    have e5 := atI_nat e2
    refine ⟨_, rfl, ?_⟩
    rw [Int.zero_add]
    clear e hd hi
    walk_at "ev"
    exact ⟨_, rfl⟩)
  walk_at "ev0"

theorem same_lst (f : Nat) {n m : Nat} {S : Sto} {xs : List D} (hn : S[n]? = some (.lst xs)) (hm : S[m]? = some (.lst xs)) (hl : xs.length ≤ sizeLine) (hi : ∀ d ∈ xs, h_law_same f [d, d] S = .ok (.bl true) S) : h_law_same (f + 1) [.obj n, .obj m] S = .ok (.bl true) S := by
  show runD 2 3 (b_law_same (h_law_same f)) _ S = _
  walk_at "env"
  unfold b_law_same
  walk_at "ev0"
  iterate 40 (first | simp only [hn, hm] | walk_at "ev0" | skip)

  simp only [Ev.okr2 hl]
  walk_at "ev0"
  generalize e : dLoop _ _ _ _ _ _ = r
  obtain ⟨ρ', S', rfl, rfl, v, rfl⟩ := loop_idx_nx e (fun _ ρ S1 => S1 = S ∧ ∃ v : Option D, ρ = [some (.obj n), some (.obj m), v]) ⟨rfl, _, rfl⟩ (by
    rintro i d ρ S1 hd ⟨rfl, v, rfl⟩
    obtain ⟨hi1, rfl⟩ := rng_get hd
    rw [Int.toNat_natCast] at hi1
    have e1 : xs[i]? = some xs[i] := List.getElem?_eq_getElem hi1
    have e3 := hi xs[i] (List.mem_of_getElem? e1)
    have e4 := atI_nat e1
    refine ⟨_, rfl, ?_⟩
    rw [Int.zero_add]
    clear e hd hi
    walk_at "ev0"
    iterate 30 (first | simp only [hn, hm, e4, e3] | walk_at "ev0" | skip)
    exact ⟨_, rfl⟩)
  walk_at "ev0"

/-! ### drawn expressions -/
def kd (b : Bool) : Str := if b then kBool else kInt
def tagI : List Str := ["add", "sub", "mul", "div", "mod", "min", "max"].map Str.ofString
def tagC : List Str := ["lt", "le", "eq", "ne"].map Str.ofString
def tagB : List Str := ["eq", "ne", "and", "or"].map Str.ofString
def tg0 (s : String) : D := .str (Str.ofString s)
/-- an expression of a kind over rows, at most n operators deep -/
inductive Ex (rs : List NRow) : Bool → Nat → D → Prop
  | var {k : Bool} {n : Nat} {r : NRow} (h : r ∈ rs) (e : r.kind = kd k) : Ex rs k n (.tup [tg0 "var", .str (r.nm)])
  | num {n : Nat} {i : Int} (h0 : 0 ≤ i) (h1 : i < 1000000000) : Ex rs false n (.tup [tg0 "num", .int i])
  | tt {n : Nat} : Ex rs true n (.tup [tg0 "true"])
  | ff {n : Nat} : Ex rs true n (.tup [tg0 "false"])
  | cond {k : Bool} {n : Nat} {a b c : D} (ha : Ex rs true n a) (hb : Ex rs k n b) (hc : Ex rs k n c) : Ex rs k (n + 1) (.tup [tg0 "cond", a, b, c])
  | neg {n : Nat} {a : D} (ha : Ex rs false n a) : Ex rs false (n + 1) (.tup [tg0 "neg", a])
  | not {n : Nat} {a : D} (ha : Ex rs true n a) : Ex rs true (n + 1) (.tup [tg0 "not", a])
  | item {n : Nat} {r : NRow} {a : D} (h : r ∈ rs) (e : r.kind = kArr) (ha : Ex rs false n a) : Ex rs false (n + 1) (.tup [tg0 "item", .str (r.nm), a])
  | opI {n : Nat} {t : Str} {a b : D} (h : t ∈ tagI) (ha : Ex rs false n a) (hb : Ex rs false n b) : Ex rs false (n + 1) (.tup [.str t, a, b])
  | opC {n : Nat} {t : Str} {a b : D} (h : t ∈ tagC) (ha : Ex rs false n a) (hb : Ex rs false n b) : Ex rs true (n + 1) (.tup [.str t, a, b])
  | opB {n : Nat} {t : Str} {a b : D} (h : t ∈ tagB) (ha : Ex rs true n a) (hb : Ex rs true n b) : Ex rs true (n + 1) (.tup [.str t, a, b])
theorem row_ix0 (r : NRow) (S : Sto) : dIx r.d (.int 0) S = .ok (.str r.kind) S := rfl
theorem row_ix1 (r : NRow) (S : Sto) : dIx r.d (.int 1) S = .ok (.str (r.nm)) S := rfl
theorem row_ix2 (r : NRow) (S : Sto) : dIx r.d (.int 2) S = .ok (.int r.size) S := rfl
/-- the rows of a kind, by a comprehension -/
theorem pick_ok {S : Sto} {n v : Nat} {rs : List NRow} {e : DE} {x : Str} {ρ : Env} {r : Res (List D)} (hv : v < ρ.length) (hx : ∀ ρ2 S2, ρ2.length = ρ.length → (∀ i, i ≠ v → ρ2[i]? = ρ[i]?) → e ρ2 S2 = .ok (.str x) S2) (ro : Rows S n rs)
    (h : cLoop (sameL n (rs.map NRow.d)) (tgN v) (eT (eOp dEq (eOp dIx (eV v) (eC (D.int 0))) e)) (eV v) ρ (rs.map NRow.d) S = r) : r = .ok ((rs.filter fun r => decide (r.kind = x)).map NRow.d) S := by
  obtain ⟨xs, S', rfl, rfl, e2⟩ := cLoop_idx h (fun i acc S' => S' = S ∧ acc = ((rs.take i).filter fun r => decide (r.kind = x)).map NRow.d) ⟨rfl, rfl⟩ (by
    rintro i d acc S' hd ⟨rfl, rfl⟩
    rw [List.getElem?_map] at hd
    obtain ⟨r, hr, rfl⟩ := Option.map_eq_some_iff.mp hd
    refine ⟨_, rfl, ?_⟩
    have hl := lt_of_get hr
    have same : sameL n (rs.map NRow.d) S' := lstOf_lst ro.at_
    have e1 := hx (ρ.set v (some r.d)) S' (by rw [List.length_set]) fun i hi => by rw [List.getElem?_set_ne (Ne.symm hi)]
    have e3 : (ρ.set v (some r.d))[v]? = some (some r.d) := List.getElem?_set_self hv
    have ht : eT (eOp dEq (eOp dIx (eV v) (eC (D.int 0))) e) (ρ.set v (some r.d)) S' = .ok (decide (r.kind = x)) S' := by
      simp only [eT, eOp, eOp1, eV, eC, e3, Ev.slot1, Ev.rb1, row_ix0, e1, Ev.eq2, Ev.toB1]
    rw [ht, List.take_succ, hr]
    by_cases hk : r.kind = x
    · rw [decide_eq_true hk, cTurn1]
      refine ⟨r.d, S', by simp only [eV, e3, Ev.slot1], same, rfl, ?_⟩
      · rw [List.filter_append, List.map_append]
        simp [hk]
    · rw [decide_eq_false hk, cTurn2]
      refine ⟨same, rfl, ?_⟩
      rw [List.filter_append, List.map_append]
      simp [hk])
  rw [e2, List.length_map, List.take_length]
theorem kd_of (k : Bool) : (kd k = kBool ∧ k = true) ∨ (kd k = kInt ∧ k = false) := by cases k <;> simp [kd]
theorem rows_fit {S : Sto} {n : Nat} {rs : List NRow} (ro : Rows S n rs) (x : Str) : (rs.filter fun r => decide (r.kind = x)).length ≤ 8 := Nat.le_trans (List.length_filter_le _ _) ro.len
theorem Rows.fr {S S' : Sto} {n : Nat} {rs : List NRow} {X : Nat → Prop} (ro : Rows S n rs) (f : Fr X S S') (h : ¬X n) : Rows S' n rs := ⟨f.at ro.at_ h, ro.arr, ro.len⟩
theorem Rows.lt {S : Sto} {n : Nat} {rs : List NRow} (ro : Rows S n rs) : n < S.length := lt_of_get ro.at_
theorem leaf_ok {S : Sto} {p l n : Nat} {rs : List NRow} (k : Bool) (po : PoolS S p l) (ro : Rows S n rs) (np : n ≠ p) (nl : n ≠ l) :
    ∃ d S', h_law_leaf [.obj p, .str (kd k), .obj n] S = .ok d S' ∧ (∀ m, Ex rs k m d) ∧ PoolS S' p l ∧ Fr (fun i => i = p) S S' := by
  unfold h_law_leaf
  walk_at "env"
  unfold b_law_leaf
  have hn := ro.at_
  walk_at "ev0"
  simp only [hn]
  walk_at "ev0"
  generalize e1 : cLoop _ _ _ _ _ _ _ = r
  have e2 := pick_ok (x := kd k) (by show 5 < 6; decide) (fun ρ2 S2 h1 h2 => by
    have e := h2 1 (by decide)
    simp only [eV, e]
    rfl) ro e1
  subst e2
  have hf : (rs.filter fun r => decide (r.kind = kd k)).length ≤ 8 := rows_fit ro _
  have hm : ∀ r ∈ rs.filter (fun r => decide (r.kind = kd k)), r ∈ rs ∧ r.kind = kd k := fun r hr => by
    have := List.mem_filter.mp hr
    exact ⟨this.1, of_decide_eq_true this.2⟩
  generalize rs.filter (fun r => decide (r.kind = kd k)) = fs at hf hm
  have hf2 : (fs.map NRow.d).length ≤ sizeLine := by rw [List.length_map, sizeLine_eq]; omega
  clear e1
  simp only [Ev.cend1, Ev.mkLst1, if_pos hf2]
  walk_at "ev0"
  have hF : (S ++ [Ob.lst (fs.map NRow.d)])[S.length]? = some (.lst (fs.map NRow.d)) := Ev.appNew
  have poF : PoolS (S ++ [Ob.lst (fs.map NRow.d)]) p l := po.add
  have frF : Fr (fun i => i = p) S (S ++ [Ob.lst (fs.map NRow.d)]) := Fr.refl.add _
  have hp := po.lp
  have hLp : S.length ≠ p := by omega
  generalize S ++ [Ob.lst (fs.map NRow.d)] = S0 at *
  generalize S.length = F at *
  have two : (2 : Nat) ≤ sizeLine := by decide +kernel
  have one : (1 : Nat) ≤ sizeLine := by decide +kernel
  refine seqR_or (fun r => ∃ d S', endR r = .ok d S' ∧ (∀ m, Ex rs k m d) ∧ PoolS S' p l ∧ Fr (fun i => i = p) S S') (fun ρ S1 => ρ = [some (.obj p), some (.str (kd k)), some (.obj n), some (.obj F), none, none] ∧ PoolS S1 p l ∧ Fr (fun i => i = p) S S1) ?_ ?_
  · by_cases h0 : (0 : Int) < (fs.length : Int)
    · rw [decide_eq_true h0]
      walk_at "ev0"
      generalize e1 : h_law_draw _ _ = r
      obtain ⟨u, S1, rfl, u0, u1, po1, fr1⟩ := draw_use e1 poF (by decide) (by decide)
      have hF1 := fr1.at hF hLp
      by_cases hu : 0 < u
      · walk_at "ev0"
        rw [decide_eq_true hu]
        walk_at "ev0"
        simp only [hF1]
        walk_at "ev0"
        generalize e2 : h_law_draw _ _ = r
        obtain ⟨v, S2, rfl, v0, v1, po2, fr2⟩ := draw_use e2 po1 h0 (by
          rw [Int.natAbs_natCast]
          exact Nat.lt_of_le_of_lt (Nat.log2_le_self _) (by omega))
        have hF2 := fr2.at hF1 hLp
        obtain ⟨x, hx, hxm⟩ := at_in (xs := fs.map NRow.d) v0 (by rw [List.length_map]; exact v1)
        obtain ⟨r, hr, rfl⟩ := List.mem_map.mp hxm
        have hm2 := hm r hr
        walk_at "ev0"
        simp only [hF2]
        walk_at "ev0"
        rw [hx]
        walk_at "ev0"
        simp only [row_ix1]
        walk_at "ev0"
        exact ⟨_, _, rfl, fun m => Ex.var hm2.1 hm2.2, po2, (frF.trans fr1).trans fr2⟩
      · walk_at "ev0"
        rw [decide_eq_false hu]
        walk_at "ev0"
        exact ⟨po1, frF.trans fr1⟩
    · rw [decide_eq_false h0]
      walk_at "ev0"
      exact ⟨poF, frF⟩
  · rintro ρ S1 ⟨rfl, po1, fr1⟩
    cases k with
    | true =>
      have e0 : kd true = kBool := rfl
      rw [e0]
      walk_at "ev0"
      generalize e2 : h_law_draw _ _ = r
      obtain ⟨u, S2, rfl, u0, u1, po2, fr2⟩ := draw_use e2 po1 (by decide) (by decide)
      walk_at "ev0"
      by_cases hu : u = 0
      · rw [decide_eq_true hu]
        walk_at "ev0"
        exact ⟨_, _, rfl, fun m => Ex.tt, po2, fr1.trans fr2⟩
      · rw [decide_eq_false hu]
        walk_at "ev0"
        exact ⟨_, _, rfl, fun m => Ex.ff, po2, fr1.trans fr2⟩
    | false =>
      have e0 : kd false = kInt := rfl
      rw [e0]
      walk_at "ev0"
      generalize e2 : h_law_draw _ _ = r
      obtain ⟨u, S2, rfl, u0, u1, po2, fr2⟩ := draw_use e2 po1 (by decide) (by decide)
      walk_at "ev0"
      by_cases hu : u = 15
      · rw [decide_eq_true hu]
        walk_at "ev0"
        generalize e3 : h_law_draw _ _ = r
        obtain ⟨v, S3, rfl, v0, v1, po3, fr3⟩ := draw_use e3 po2 (by decide) (by decide)
        walk_at "ev0"
        exact ⟨_, _, rfl, fun m => Ex.num v0 v1, po3, (fr1.trans fr2).trans fr3⟩
      · rw [decide_eq_false hu]
        walk_at "ev0"
        have m0 := Int.fmod_nonneg_of_pos u (show (0 : Int) < 5 by decide)
        have m1 := Int.fmod_lt_of_pos u (show (0 : Int) < 5 by decide)
        exact ⟨_, _, rfl, fun m => Ex.num m0 (by omega), po2, fr1.trans fr2⟩
theorem leaf_use {S : Sto} {p l n : Nat} {rs : List NRow} {k : Bool} {r : Res D} (e : h_law_leaf [.obj p, .str (kd k), .obj n] S = r) (po : PoolS S p l) (ro : Rows S n rs) (np : n ≠ p) (nl : n ≠ l) :
    ∃ d S', r = .ok d S' ∧ (∀ m, Ex rs k m d) ∧ PoolS S' p l ∧ Fr (fun i => i = p) S S' := by
  obtain ⟨d, S', e2, h⟩ := leaf_ok k po ro np nl
  exact ⟨d, S', e.symm.trans e2, h⟩

theorem tags_at {xs : List Str} {i : Int} (h0 : 0 ≤ i) (h1 : i < xs.length) : ∃ t, atI (xs.map D.str) i = some (.str t) ∧ t ∈ xs := by
  obtain ⟨d, e, hm⟩ := at_in (xs := xs.map D.str) h0 (by rw [List.length_map]; exact h1)
  obtain ⟨t, ht, rfl⟩ := List.mem_map.mp hm
  exact ⟨t, e, ht⟩
abbrev l11I : List Str := ["add", "sub", "mul", "div", "mod", "min", "max", "add", "sub", "add", "sub"].map Str.ofString
theorem l11I_in : ∀ t ∈ l11I, t ∈ tagI := by decide +kernel
abbrev l11B : List D := [tg0 "lt", tg0 "le", tg0 "lt", tg0 "le", tg0 "eq", tg0 "ne", tg0 "lt", tg0 "eq", tg0 "ne", tg0 "and", tg0 "or"]
theorem l11C_in {u : Int} (h0 : 2 ≤ u) (h1 : u ≤ 6) : ∃ t, atI l11B u = some (.str t) ∧ t ∈ tagC := by
  have : u = 2 ∨ u = 3 ∨ u = 4 ∨ u = 5 ∨ u = 6 := by omega
  rcases this with rfl | rfl | rfl | rfl | rfl <;> exact ⟨_, rfl, by decide⟩
theorem l11B_in {u : Int} (h0 : 7 ≤ u) (h1 : u ≤ 10) : ∃ t, atI l11B u = some (.str t) ∧ t ∈ tagB := by
  have : u = 7 ∨ u = 8 ∨ u = 9 ∨ u = 10 := by omega
  rcases this with rfl | rfl | rfl | rfl <;> exact ⟨_, rfl, by decide⟩
theorem expr_ok : ∀ (f : Nat) {S : Sto} {p l n : Nat} {rs : List NRow} (k : Bool) (dp : Nat), dp < f → PoolS S p l → Rows S n rs → n ≠ p → n ≠ l →
    ∃ d S', h_law_expr f [.obj p, .str (kd k), .obj n, .int dp] S = .ok d S' ∧ Ex rs k dp d ∧ PoolS S' p l ∧ Fr (fun i => i = p) S S'
  | 0, S, p, l, n, rs, k, dp, h, _, _, _, _ => absurd h (Nat.not_lt_zero _)
  | f + 1, S, p, l, n, rs, k, dp, hf, po, ro, np, nl => by
    have ih : ∀ {S : Sto} {r : Res D} (k : Bool), h_law_expr f [.obj p, .str (kd k), .obj n, .int (dp - 1 : Int)] S = r → PoolS S p l → Rows S n rs → 0 < dp → ∃ d S', r = .ok d S' ∧ Ex rs k (dp - 1) d ∧ PoolS S' p l ∧ Fr (fun i => i = p) S S' := by
      intro S r k e po ro h0
      obtain ⟨d, S', e2, h⟩ := expr_ok f k (dp - 1) (by omega) po ro np nl
      rw [show (((dp - 1 : Nat) : Int)) = (dp : Int) - 1 by omega] at e2
      exact ⟨d, S', e.symm.trans e2, h⟩
    show ∃ d S', runD 4 13 (b_law_expr (h_law_expr f)) _ S = _ ∧ _
    walk_at "env"
    unfold b_law_expr
    have two : (2 : Nat) ≤ sizeLine := by decide +kernel
    have three : (3 : Nat) ≤ sizeLine := by decide +kernel
    have four : (4 : Nat) ≤ sizeLine := by decide +kernel
    have eleven : (11 : Nat) ≤ sizeLine := by decide +kernel
    by_cases h0 : (dp : Int) ≤ 0
    · walk_at "ev0"
      rw [decide_eq_true h0]
      walk_at "ev0"
      generalize e1 : h_law_leaf _ _ = r
      obtain ⟨d, S1, rfl, hd, po1, fr1⟩ := leaf_use e1 po ro np nl
      walk_at "ev0"
      exact ⟨_, _, rfl, hd _, po1, fr1⟩
    have hdp : 0 < dp := by omega
    obtain ⟨q, rfl⟩ : ∃ q, dp = q + 1 := ⟨dp - 1, by omega⟩
    have eq1 : q + 1 - 1 = q := rfl
    rw [eq1] at ih
    walk_at "ev0"
    rw [decide_eq_false h0]
    walk_at "ev0"
    generalize e1 : h_law_draw _ _ = r
    obtain ⟨u, S1, rfl, u0, u1, po1, fr1⟩ := draw_use e1 po (by decide) (by decide)
    have ro1 := ro.fr fr1 np
    walk_at "ev0"
    by_cases hu0 : u = 0
    · rw [decide_eq_true hu0]
      walk_at "ev0"
      generalize e2 : h_law_expr _ _ _ = r
      obtain ⟨a, S2, rfl, ha, po2, fr2⟩ := ih true e2 po1 ro1 hdp
      have ro2 := ro1.fr fr2 np
      walk_at "ev0"
      generalize e3 : h_law_expr _ _ _ = r
      obtain ⟨b, S3, rfl, hb, po3, fr3⟩ := ih k e3 po2 ro2 hdp
      have ro3 := ro2.fr fr3 np
      walk_at "ev0"
      generalize e4 : h_law_expr _ _ _ = r
      obtain ⟨c, S4, rfl, hc, po4, fr4⟩ := ih k e4 po3 ro3 hdp
      walk_at "ev0"
      exact ⟨_, _, rfl, Ex.cond ha hb hc, po4, ((fr1.trans fr2).trans fr3).trans fr4⟩
    rw [decide_eq_false hu0]
    walk_at "ev0"
    by_cases hu10 : 10 < u
    · rw [decide_eq_true hu10]
      walk_at "ev0"
      generalize e2 : h_law_leaf _ _ = r
      obtain ⟨d, S2, rfl, hd, po2, fr2⟩ := leaf_use e2 po1 ro1 np nl
      walk_at "ev0"
      exact ⟨_, _, rfl, hd _, po2, fr1.trans fr2⟩
    rw [decide_eq_false hu10]
    walk_at "ev0"
    cases k with
    | true =>
      have e0 : kd true = kBool := rfl
      rw [e0]
      walk_at "ev0"
      by_cases hu1 : u = 1
      · rw [decide_eq_true hu1]
        walk_at "ev0"
        generalize e2 : h_law_expr _ _ _ = r
        obtain ⟨a, S2, rfl, ha, po2, fr2⟩ := ih true e2 po1 ro1 hdp
        walk_at "ev0"
        exact ⟨_, _, rfl, Ex.not ha, po2, fr1.trans fr2⟩
      rw [decide_eq_false hu1]
      walk_at "ev0"
      by_cases hu6 : 6 < u
      · rw [decide_eq_true hu6]
        walk_at "ev0"
        obtain ⟨t, et, ht⟩ := l11B_in (u := u) (by omega) (by omega)
        have et : atI [D.str (Str.ofString "lt"), D.str (Str.ofString "le"), D.str (Str.ofString "lt"), D.str (Str.ofString "le"), D.str (Str.ofString "eq"), D.str (Str.ofString "ne"), D.str (Str.ofString "lt"), D.str (Str.ofString "eq"), D.str (Str.ofString "ne"), D.str (Str.ofString "and"), D.str (Str.ofString "or")] u = some (.str t) := et
        rw [et]
        walk_at "ev0"
        generalize e2 : h_law_expr _ _ _ = r
        obtain ⟨a, S2, rfl, ha, po2, fr2⟩ := ih true e2 po1 ro1 hdp
        have ro2 := ro1.fr fr2 np
        walk_at "ev0"
        generalize e3 : h_law_expr _ _ _ = r
        obtain ⟨b, S3, rfl, hb, po3, fr3⟩ := ih true e3 po2 ro2 hdp
        walk_at "ev0"
        exact ⟨_, _, rfl, Ex.opB ht ha hb, po3, (fr1.trans fr2).trans fr3⟩
      · rw [decide_eq_false hu6]
        walk_at "ev0"
        obtain ⟨t, et, ht⟩ := l11C_in (u := u) (by omega) (by omega)
        have et : atI [D.str (Str.ofString "lt"), D.str (Str.ofString "le"), D.str (Str.ofString "lt"), D.str (Str.ofString "le"), D.str (Str.ofString "eq"), D.str (Str.ofString "ne"), D.str (Str.ofString "lt"), D.str (Str.ofString "eq"), D.str (Str.ofString "ne"), D.str (Str.ofString "and"), D.str (Str.ofString "or")] u = some (.str t) := et
        rw [et]
        walk_at "ev0"
        generalize e2 : h_law_expr _ _ _ = r
        obtain ⟨a, S2, rfl, ha, po2, fr2⟩ := ih false e2 po1 ro1 hdp
        have ro2 := ro1.fr fr2 np
        walk_at "ev0"
        generalize e3 : h_law_expr _ _ _ = r
        obtain ⟨b, S3, rfl, hb, po3, fr3⟩ := ih false e3 po2 ro2 hdp
        walk_at "ev0"
        exact ⟨_, _, rfl, Ex.opC ht ha hb, po3, (fr1.trans fr2).trans fr3⟩
    | false =>
      have e0 : kd false = kInt := rfl
      rw [e0]
      walk_at "ev0"
      by_cases hu1 : u = 1
      · rw [decide_eq_true hu1]
        walk_at "ev0"
        generalize e2 : h_law_expr _ _ _ = r
        obtain ⟨a, S2, rfl, ha, po2, fr2⟩ := ih false e2 po1 ro1 hdp
        walk_at "ev0"
        exact ⟨_, _, rfl, Ex.neg ha, po2, fr1.trans fr2⟩
      rw [decide_eq_false hu1]
      walk_at "ev0"
      have hn := ro1.at_
      simp only [hn]
      walk_at "ev0"
      generalize e2 : cLoop _ _ _ _ _ _ _ = r
      have e3 := pick_ok (x := kArr) (by show 8 < 13; decide) (fun ρ2 S2 h1 h2 => rfl) ro1 e2
      subst e3
      clear e2
      have hfl : (rs.filter fun r => decide (r.kind = kArr)).length ≤ 8 := rows_fit ro1 _
      have hm : ∀ r ∈ rs.filter (fun r => decide (r.kind = kArr)), r ∈ rs ∧ r.kind = kArr := fun r hr => by
        have := List.mem_filter.mp hr
        exact ⟨this.1, of_decide_eq_true this.2⟩
      generalize rs.filter (fun r => decide (r.kind = kArr)) = fs at hfl hm
      have hf2 : (fs.map NRow.d).length ≤ sizeLine := by rw [List.length_map, sizeLine_eq]; omega
      simp only [Ev.cend1, Ev.mkLst1, if_pos hf2]
      walk_at "ev0"
      have hF : (S1 ++ [Ob.lst (fs.map NRow.d)])[S1.length]? = some (.lst (fs.map NRow.d)) := Ev.appNew
      have poF : PoolS (S1 ++ [Ob.lst (fs.map NRow.d)]) p l := po1.add
      have frF : Fr (fun i => i = p) S1 (S1 ++ [Ob.lst (fs.map NRow.d)]) := Fr.refl.add _
      have roF := ro1.fr frF np
      have hp := po1.lp
      have hLp : S1.length ≠ p := by omega
      have fr0F := fr1.trans frF
      clear fr1 frF ro1 po1 hn hf2
      generalize S1 ++ [Ob.lst (fs.map NRow.d)] = S2 at *
      generalize S1.length = F at *
      -- the other operations
      have ops : ∀ S3, PoolS S3 p l → Rows S3 n rs → Fr (fun i => i = p) S S3 → ∃ t, atI [D.str (Str.ofString "add"), D.str (Str.ofString "sub"), D.str (Str.ofString "mul"), D.str (Str.ofString "div"), D.str (Str.ofString "mod"), D.str (Str.ofString "min"), D.str (Str.ofString "max"), D.str (Str.ofString "add"), D.str (Str.ofString "sub"), D.str (Str.ofString "add"), D.str (Str.ofString "sub")] u = some (.str t) ∧ t ∈ tagI := fun S3 _ _ _ => by
        obtain ⟨t, et, ht⟩ := tags_at (xs := l11I) (i := u) u0 (by show u < 11; omega)
        exact ⟨t, et, l11I_in t ht⟩
      obtain ⟨t, et, ht⟩ := ops S2 poF roF fr0F
      refine seqR_or (fun r => ∃ d S', endR (seqR _ r) = .ok d S' ∧ Ex rs false (q + 1) d ∧ PoolS S' p l ∧ Fr (fun i => i = p) S S') (fun ρ S3 => PoolS S3 p l ∧ Rows S3 n rs ∧ Fr (fun i => i = p) S S3 ∧ ρ = [some (.obj p), some (.str kInt), some (.obj n), some (.int ((q + 1 : Nat) : Int)), some (.int u), some (.int ((q + 1 : Nat) - 1 : Int)), none, none, none, some (.obj F), none, none, none]) ?_ ?_
      · by_cases hu2 : u = 2
        · rw [decide_eq_true hu2]
          walk_at "ev0"
          simp only [hF]
          walk_at "ev0"
          by_cases hl0 : (0 : Int) < (fs.length : Int)
          · rw [decide_eq_true hl0]
            walk_at "ev0"
            simp only [hF]
            walk_at "ev0"
            generalize e4 : h_law_draw _ _ = r
            obtain ⟨v, S3, rfl, v0, v1, po3, fr3⟩ := draw_use e4 poF hl0 (by
              rw [Int.natAbs_natCast]
              exact Nat.lt_of_le_of_lt (Nat.log2_le_self _) (by omega))
            have hF3 := fr3.at hF hLp
            have ro3 := roF.fr fr3 np
            obtain ⟨x, hx, hxm⟩ := at_in (xs := fs.map NRow.d) v0 (by rw [List.length_map]; exact v1)
            obtain ⟨r, hr, rfl⟩ := List.mem_map.mp hxm
            obtain ⟨hr1, hr2⟩ := hm r hr
            have hsz : 1 ≤ r.size ∧ r.size ≤ 3 := ro3.arr r hr1 hr2
            walk_at "ev0"
            simp only [hF3]
            walk_at "ev0"
            rw [hx]
            walk_at "ev0"
            generalize e5 : h_law_draw _ _ = r'
            obtain ⟨z, S4, rfl, z0, z1, po4, fr4⟩ := draw_use e5 po3 (by decide) (by decide)
            have ro4 := ro3.fr fr4 np
            walk_at "ev0"
            by_cases hz : 0 < z
            · rw [decide_eq_true hz]
              walk_at "ev0"
              simp only [row_ix2, row_ix1]
              walk_at "ev0"
              generalize e6 : h_law_draw _ _ = r'
              obtain ⟨y, S5, rfl, y0, y1, po5, fr5⟩ := draw_use e6 po4 (by omega) (Nat.lt_of_le_of_lt (Nat.log2_le_self _) (by omega))
              walk_at "ev0"
              simp only [row_ix1]
              walk_at "ev0"
              exact ⟨_, _, rfl, Ex.item hr1 hr2 (Ex.num y0 (by omega)), po5, ((fr0F.trans fr3).trans fr4).trans fr5⟩
            · rw [decide_eq_false hz]
              walk_at "ev0"
              generalize e6 : h_law_expr _ _ _ = r'
              obtain ⟨a, S5, rfl, ha, po5, fr5⟩ := ih false e6 po4 ro4 hdp
              walk_at "ev0"
              simp only [row_ix1]
              walk_at "ev0"
              exact ⟨_, _, rfl, Ex.item hr1 hr2 ha, po5, ((fr0F.trans fr3).trans fr4).trans fr5⟩
          · rw [decide_eq_false hl0]
            walk_at "ev0"
            exact ⟨poF, roF, fr0F⟩
        · rw [decide_eq_false hu2]
          walk_at "ev0"
          exact ⟨poF, roF, fr0F⟩
      · rintro ρ S3 ⟨po3, ro3, fr3, rfl⟩
        walk_at "ev0"
        rw [et]
        walk_at "ev0"
        generalize e4 : h_law_expr _ _ _ = r
        obtain ⟨a, S4, rfl, ha, po4, fr4⟩ := ih false e4 po3 ro3 hdp
        have ro4 := ro3.fr fr4 np
        walk_at "ev0"
        generalize e5 : h_law_expr _ _ _ = r
        obtain ⟨b, S5, rfl, hb, po5, fr5⟩ := ih false e5 po4 ro4 hdp
        walk_at "ev0"
        exact ⟨_, _, rfl, Ex.opI ht ha hb, po5, (fr3.trans fr4).trans fr5⟩
theorem expr_use {f : Nat} {S : Sto} {p l n : Nat} {rs : List NRow} {k : Bool} {dp : Nat} {r : Res D} (e : h_law_expr f [.obj p, .str (kd k), .obj n, .int dp] S = r) (hf : dp < f) (po : PoolS S p l) (ro : Rows S n rs) (np : n ≠ p) (nl : n ≠ l) :
    ∃ d S', r = .ok d S' ∧ Ex rs k dp d ∧ PoolS S' p l ∧ Fr (fun i => i = p) S S' := by
  obtain ⟨d, S', e2, h⟩ := expr_ok f k dp hf po ro np nl
  exact ⟨d, S', e.symm.trans e2, h⟩

/-! ### drawn statements -/
structure PRow where
  nm : Str
  kind : Bool
  args : List Bool
def PRow.d (r : PRow) : D := .tup [.str r.nm, .str (kd r.kind), .tup (r.args.map fun k => .str (kd k))]
inductive St where
  | skip | fail
  | set (x : Str) (e : D) | store (x : Str) (i e : D)
  | flip (x : Str) (a b : D) | unif (x : Str) (a b : D) | pick (x : Str) (ps : List (D × D))
  | obs (e : D) | weigh (a b : D) | asrt (e : D)
  | ifs (c : D) (t e : List St) | rep (n : Int) (b : List St) | whl (c : D) (n : Int) (b : List St) | forr (x : Str) (lo hi : Int) (b : List St)
  | call (p : Str) (as : List D) (t : Str)
mutual
def St.d : St → D
  | .skip => .tup [tg0 "skip"]
  | .fail => .tup [tg0 "fail"]
  | .set x e => .tup [tg0 "set", .str x, e]
  | .store x i e => .tup [tg0 "store", .str x, i, e]
  | .flip x a b => .tup [tg0 "flip", .str x, a, b]
  | .unif x a b => .tup [tg0 "uniform", .str x, a, b]
  | .pick x ps => .tup [tg0 "pick", .str x, .tup (ps.map fun q => .tup [q.1, q.2])]
  | .obs e => .tup [tg0 "observe", e]
  | .weigh a b => .tup [tg0 "weigh", a, b]
  | .asrt e => .tup [tg0 "assert", e]
  | .ifs c t e => .tup [tg0 "if", c, .tup (dB t), .tup (dB e)]
  | .rep n b => .tup [tg0 "repeat", .int n, .tup (dB b)]
  | .whl c n b => .tup [tg0 "while", c, .int n, .tup (dB b)]
  | .forr x lo hi b => .tup [tg0 "for", .str x, .int lo, .int hi, .tup (dB b)]
  | .call p as t => .tup [tg0 "call", .str p, .tup as, .str t]
def dB : List St → List D
  | [] => []
  | s :: r => s.d :: dB r
end
theorem dB_eq : ∀ b : List St, dB b = b.map St.d
  | [] => by rw [dB]; rfl
  | s :: r => by rw [dB, dB_eq r]; rfl
inductive Sm (rs : List NRow) (ps : List PRow) : Nat → St → Prop
  | skip {n : Nat} : Sm rs ps n .skip
  | fail {n : Nat} : Sm rs ps n .fail
  | set {n : Nat} {k : Bool} {r : NRow} {e : D} (h : r ∈ rs) (hk : r.kind = kd k) (he : Ex rs k 2 e) : Sm rs ps n (.set r.nm e)
  | store {n : Nat} {r : NRow} {i e : D} (h : r ∈ rs) (hk : r.kind = kArr) (hi : Ex rs false 1 i) (he : Ex rs false 1 e) : Sm rs ps n (.store r.nm i e)
  | flip {n : Nat} {r : NRow} {a b : D} (h : r ∈ rs) (hk : r.kind = kBool) (ha : Ex rs false 2 a) (hb : Ex rs false 2 b) : Sm rs ps n (.flip r.nm a b)
  | unif {n : Nat} {r : NRow} {a b : D} (h : r ∈ rs) (hk : r.kind = kInt) (ha : Ex rs false 2 a) (hb : Ex rs false 2 b) : Sm rs ps n (.unif r.nm a b)
  | pick {n : Nat} {k : Bool} {r : NRow} {qs : List (D × D)} (h : r ∈ rs) (hk : r.kind = kd k) (l1 : 1 ≤ qs.length) (l3 : qs.length ≤ 3) (hq : ∀ q ∈ qs, Ex rs k 1 q.1 ∧ Ex rs false 1 q.2) : Sm rs ps n (.pick r.nm qs)
  | obs {n : Nat} {e : D} (he : Ex rs true 3 e) : Sm rs ps n (.obs e)
  | weigh {n : Nat} {a b : D} (ha : Ex rs false 2 a) (hb : Ex rs false 2 b) : Sm rs ps n (.weigh a b)
  | asrt {n : Nat} {e : D} (he : Ex rs true 3 e) : Sm rs ps n (.asrt e)
  | ifs {n : Nat} {c : D} {t e : List St} (hc : Ex rs true 1 c) (lt : t.length ≤ 2) (le : e.length ≤ 2) (ht : ∀ s ∈ t, Sm rs ps n s) (he : ∀ s ∈ e, Sm rs ps n s) : Sm rs ps (n + 1) (.ifs c t e)
  | rep {n : Nat} {m : Int} {b : List St} (m0 : 0 ≤ m) (m1 : m ≤ 2) (lb : b.length ≤ 2) (hb : ∀ s ∈ b, Sm rs ps n s) : Sm rs ps (n + 1) (.rep m b)
  | whl {n : Nat} {c : D} {m : Int} {b : List St} (hc : Ex rs true 1 c) (m0 : 0 ≤ m) (m1 : m ≤ 2) (lb : b.length ≤ 2) (hb : ∀ s ∈ b, Sm rs ps n s) : Sm rs ps (n + 1) (.whl c m b)
  | forr {n : Nat} {r : NRow} {lo hi : Int} {b : List St} (h : r ∈ rs) (hk : r.kind = kInt) (l0 : 0 ≤ lo) (l2 : lo ≤ 2) (h0 : 0 ≤ hi) (h3 : hi ≤ 3) (hw : hi ≤ lo + 2) (lb : b.length ≤ 2) (hb : ∀ s ∈ b, Sm rs ps n s) : Sm rs ps (n + 1) (.forr r.nm lo hi b)
  | call {n : Nat} {p : PRow} {r : NRow} {as : List D} (h : p ∈ ps) (hr : r ∈ rs) (hk : r.kind = kd p.kind) (la : as.length = p.args.length) (ha : ∀ (i : Nat) (k : Bool) (a : D), p.args[i]? = some k → as[i]? = some a → Ex rs k 1 a) : Sm rs ps n (.call p.nm as r.nm)
theorem Ex.up1 {rs : List NRow} {k : Bool} {n : Nat} {d : D} (h : Ex rs k n d) : Ex rs k (n + 1) d := by
  induction h with
  | var h e => exact .var h e
  | num h0 h1 => exact .num h0 h1
  | tt => exact .tt
  | ff => exact .ff
  | cond _ _ _ a b c => exact .cond a b c
  | neg _ a => exact .neg a
  | not _ a => exact .not a
  | item h e _ a => exact .item h e a
  | opI h _ _ a b => exact .opI h a b
  | opC h _ _ a b => exact .opC h a b
  | opB h _ _ a b => exact .opB h a b
theorem Ex.up {rs : List NRow} {k : Bool} {n m : Nat} {d : D} (h : Ex rs k n d) (le : n ≤ m) : Ex rs k m d := by
  obtain ⟨j, rfl⟩ := Nat.le.dest le
  induction j with
  | zero => exact h
  | succ j ih => exact (ih (Nat.le_add_right _ _)).up1
structure NamesK (rs : List NRow) : Prop where
  kinds : ∀ r ∈ rs, r.kind = kInt ∨ r.kind = kBool ∨ r.kind = kArr
  int : ∃ r ∈ rs, r.kind = kInt
theorem log2_lt {n : Int} (h0 : 0 ≤ n) (h : n < 9000) : n.natAbs.log2 < 9000 := Nat.lt_of_le_of_lt (Nat.log2_le_self _) (by omega)
section
variable {p l n : Nat} {rs : List NRow} {S : Sto} {r : Res D}
theorem expr_u0 {k : Bool} {d : Int} (e : h_law_expr 3 [.obj p, .str (kd k), .obj n, .int d] S = r) (d0 : 0 ≤ d) (d2 : d ≤ 2) (po : PoolS S p l) (ro : Rows S n rs) (np : n ≠ p) (nl : n ≠ l) :
    ∃ d' S', r = .ok d' S' ∧ Ex rs k d.toNat d' ∧ PoolS S' p l ∧ Fr (fun i => i = p) S S' ∧ Rows S' n rs := by
  obtain ⟨m, rfl⟩ := Int.eq_ofNat_of_zero_le d0
  obtain ⟨d', S', h1, h2, h3, h4⟩ := expr_use e (by omega) po ro np nl
  exact ⟨d', S', h1, h2, h3, h4, ro.fr h4 np⟩
theorem expr_u1 {k : Bool} (e : h_law_expr 3 [.obj p, .str (kd k), .obj n, .int 1] S = r) (po : PoolS S p l) (ro : Rows S n rs) (np : n ≠ p) (nl : n ≠ l) :
    ∃ d' S', r = .ok d' S' ∧ Ex rs k 1 d' ∧ PoolS S' p l ∧ Fr (fun i => i = p) S S' ∧ Rows S' n rs := expr_u0 e (by decide) (by decide) po ro np nl
theorem amounts_use (e : h_law_amounts [.obj p, .obj n] S = r) (po : PoolS S p l) (ro : Rows S n rs) (np : n ≠ p) (nl : n ≠ l) :
    ∃ (a b : D) (S' : Sto), r = .ok (.tup [a, b]) S' ∧ Ex rs false 2 a ∧ Ex rs false 2 b ∧ PoolS S' p l ∧ Rows S' n rs ∧ Fr (fun i => i = p) S S' := by
  have sl := sizeLine_eq
  have z2 : (2 : Nat) ≤ sizeLine := by omega
  have z3 : (3 : Nat) ≤ sizeLine := by omega
  rw [← e]
  unfold h_law_amounts
  walk_at "env"
  unfold b_law_amounts
  repeat walk_at "ev0"
  generalize e1 : h_law_draw _ _ = r1
  obtain ⟨u, S1, rfl, u0, u1, po1, f1⟩ := draw_use e1 po (by decide) (by decide)
  clear e1
  have ro1 := ro.fr f1 np
  by_cases hu : u > 0
  · repeat (first | simp only [decide_eq_true hu] | walk_at "ev0")
    generalize e1 : h_law_draw _ _ = r1
    obtain ⟨v, S2, rfl, v0, v1, po2, f2⟩ := draw_use e1 po1 (by decide) (by decide)
    clear e1
    repeat walk_at "ev0"
    generalize e1 : h_law_draw _ _ = r1
    obtain ⟨a, S3, rfl, a0, a1, po3, f3⟩ := draw_use e1 po2 (by omega) (log2_lt (by omega) (by omega))
    clear e1
    repeat walk_at "ev0"
    generalize e1 : h_law_draw _ _ = r1
    obtain ⟨b, S4, rfl, b0, b1, po4, f4⟩ := draw_use e1 po3 (by decide) (by decide)
    clear e1
    repeat (first | simp only [if_pos z2] | walk_at "ev0")
    have f14 := ((f1.trans f2).trans f3).trans f4
    refine ⟨_, _, S4, rfl, .num (i := if a + b < 1 + v then a + b else 1 + v) (by split <;> omega) (by split <;> omega), .num (i := 1 + v) (by omega) (by omega), po4, ro.fr f14 np, f14⟩
  · repeat (first | simp only [decide_eq_false hu] | walk_at "ev0")
    generalize e1 : h_law_expr _ _ _ = r1
    obtain ⟨x, S2, rfl, ex, po2, f2, ro2⟩ := expr_u1 (k := false) e1 po1 ro1 np nl
    clear e1
    repeat walk_at "ev0"
    generalize e1 : h_law_expr _ _ _ = r1
    obtain ⟨y, S3, rfl, ey, po3, f3, ro3⟩ := expr_u1 (k := false) e1 po2 ro2 np nl
    clear e1
    repeat (first | simp only [if_pos z2, if_pos z3] | walk_at "ev0")
    exact ⟨x, _, S3, rfl, ex.up1, .opI (t := Str.ofString "add") (by decide) ex ey, po3, ro3, (f1.trans f2).trans f3⟩
theorem range5 {v : Int} (v0 : 0 ≤ v) (v1 : v < 5) : ∃ z : Nat, 1 ≤ z ∧ z ≤ 3 ∧ atI [D.int 1, .int 2, .int 2, .int 2, .int 3] v = some (.int (z : Int)) := by
  have : v = 0 ∨ v = 1 ∨ v = 2 ∨ v = 3 ∨ v = 4 := by omega
  rcases this with rfl | rfl | rfl | rfl | rfl
  · exact ⟨1, by decide, by decide, rfl⟩
  · exact ⟨2, by decide, by decide, rfl⟩
  · exact ⟨2, by decide, by decide, rfl⟩
  · exact ⟨2, by decide, by decide, rfl⟩
  · exact ⟨3, by decide, by decide, rfl⟩
theorem plusN {v : Int} (v0 : 0 ≤ v) (v1 : v < 6) : ∃ z : Int, 0 ≤ z ∧ z ≤ 3 ∧ atI [D.int 0, .int 1, .int 1, .int 2, .int 2, .int 3] v = some (.int z) := by
  have : v = 0 ∨ v = 1 ∨ v = 2 ∨ v = 3 ∨ v = 4 ∨ v = 5 := by omega
  rcases this with rfl | rfl | rfl | rfl | rfl | rfl
  · exact ⟨0, by decide, by decide, rfl⟩
  · exact ⟨1, by decide, by decide, rfl⟩
  · exact ⟨1, by decide, by decide, rfl⟩
  · exact ⟨2, by decide, by decide, rfl⟩
  · exact ⟨2, by decide, by decide, rfl⟩
  · exact ⟨3, by decide, by decide, rfl⟩
theorem drawing_use {row : NRow} {k : Bool} (e : h_law_drawing [.obj p, .obj n, row.d] S = r) (hr : row ∈ rs) (hk : row.kind = kd k) (ps : List PRow) (dp : Nat) (po : PoolS S p l) (ro : Rows S n rs) (np : n ≠ p) (nl : n ≠ l) :
    ∃ (s : St) (S' : Sto), r = .ok s.d S' ∧ Sm rs ps dp s ∧ PoolS S' p l ∧ Rows S' n rs ∧ Fr (fun i => i = p) S S' := by
  have sl := sizeLine_eq
  have z2 : (2 : Nat) ≤ sizeLine := by omega
  have z3 : (3 : Nat) ≤ sizeLine := by omega
  have z4 : (4 : Nat) ≤ sizeLine := by omega
  have z5 : (5 : Nat) ≤ sizeLine := by omega
  have z6 : (6 : Nat) ≤ sizeLine := by omega
  rw [← e]
  unfold h_law_drawing
  walk_at "env"
  unfold b_law_drawing
  have n1 : ¬ kBool = kInt := by decide
  have n2 : ¬ kInt = kBool := by decide
  -- the ways that end in a pick
  have picks : ∀ (S1 : Sto) (v3 v4 : Option D), PoolS S1 p l → Rows S1 n rs → Fr (fun i => i = p) S S1 →
      ∃ (s : St) (S' : Sto), endR (dSeq (dSet 5 (eLst eNil)) (dSeq (dFor (wR1 (eCons (eOp dIx (eTup (eCons (eC (D.int 1)) (eCons (eC (D.int 2)) (eCons (eC (D.int 2)) (eCons (eC (D.int 2)) (eCons (eC (D.int 3)) eNil)))))) (eCall h_law_draw (eCons (eV 0) (eCons (eC (D.int 5)) eNil)))) eNil)) (tgN 6) (dSeq (dSet 7 (eCall (h_law_expr 3) (eCons (eV 0) (eCons (eOp dIx (eV 2) (eC (D.int 0))) (eCons (eV 1) (eCons (eC (D.int 1)) eNil))))))
    (dSeq (dSet 8 (eTup (eCons (eC (D.str (Str.ofString "num"))) (eCons (eOp dAdd (eCall dInt (eCons (eOp dEq (eV 6) (eC (D.int 0))) eNil)) (eCall h_law_draw (eCons (eV 0) (eCons (eC (D.int 4)) eNil)))) eNil))))
    (dSeq (dIfS (eT (eOp dEq (eCall h_law_draw (eCons (eV 0) (eCons (eC (D.int 7)) eNil))) (eC (D.int 0)))) (dSet 8 (eCall (h_law_expr 3) (eCons (eV 0) (eCons (eC (D.str (Str.ofString "int"))) (eCons (eV 1) (eCons (eC (D.int 1)) eNil)))))) dNext)
    (dExpr (eMeth "list" mAppend (eV 5) (eCons (eTup (eCons (eV 7) (eCons (eV 8) eNil))) eNil)))))))
    (dRet (eTup (eCons (eC (D.str (Str.ofString "pick"))) (eCons (eOp dIx (eV 2) (eC (D.int 1))) (eCons (eCall dTuple (eCons (eV 5) eNil)) eNil)))))) [some (.obj p), some (.obj n), some row.d, v3, v4, none, none, none, none] S1) = .ok s.d S' ∧ Sm rs ps dp s ∧ PoolS S' p l ∧ Rows S' n rs ∧ Fr (fun i => i = p) S S' := by
    intro S1 v3 v4 po1 ro1 f1
    have hL : (S1 ++ [Ob.lst []])[S1.length]? = some (.lst []) := Ev.appNew
    have po2 : PoolS (S1 ++ [Ob.lst []]) p l := po1.add
    have f2 : Fr (fun i => i = p) S (S1 ++ [Ob.lst []]) := f1.add _
    have ro2 := ro1.fr ((Fr.refl (X := fun i => i = p)).add (Ob.lst [])) np
    have lp := po1.lp
    have ll := po1.ll
    have ln := ro1.lt
    have z0 : (0 : Nat) ≤ sizeLine := Nat.zero_le _
    repeat (first | simp only [if_pos z0, if_pos z5] | walk_at "ev0")
    have hS0 : S.length ≤ S1.length := f1.len
    generalize hQ : S1.length = Q at *
    generalize S1 ++ [Ob.lst []] = S2 at *
    generalize e1 : h_law_draw _ _ = r1
    obtain ⟨v, S3, rfl, v0, v1, po3, f3⟩ := draw_use e1 po2 (by decide) (by decide)
    clear e1
    have hL3 := f3.at hL (by omega)
    have ro3 := ro2.fr f3 np
    obtain ⟨m, m1, m3, em⟩ := range5 v0 v1
    have ok := okr_nat (n := m) (by omega)
    repeat (first | simp only [em, ok, if_true, Int.toNat_natCast] | walk_at "ev0")
    generalize e1 : dLoop _ _ _ _ _ _ = r1
    obtain ⟨ρ, S4, rfl, qs, v6, v7, v8, rfl, hL4, hql, hqe, po4, ro4, f4⟩ := loop_idx_nx e1 (fun i ρ S4 => ∃ (qs : List (D × D)) (v6 v7 v8 : Option D), ρ = [some (.obj p), some (.obj n), some row.d, v3, v4, some (.obj Q), v6, v7, v8] ∧ S4[Q]? = some (.lst (qs.map fun q => .tup [q.1, q.2])) ∧ qs.length = i ∧ (∀ q ∈ qs, Ex rs k 1 q.1 ∧ Ex rs false 1 q.2) ∧ PoolS S4 p l ∧ Rows S4 n rs ∧ Fr (fun i => i = p) S S4)
      ⟨[], none, none, none, rfl, hL3, rfl, (fun _ h => by cases h), po3, ro3, f2.trans f3⟩ (by
      rintro i d ρ S4 hd ⟨qs, v6, v7, v8, rfl, hL4, hql, hqe, po4, ro4, f4⟩
      obtain ⟨hi, rfl⟩ := rng_get hd
      refine ⟨_, rfl, ?_⟩
      clear e1 hd
      have hlt : qs.length < sizeLine := by omega
      repeat (first | simp only [row_ix0, hk] | walk_at "ev0")
      generalize e1 : h_law_expr _ _ _ = r1
      obtain ⟨x, S5, rfl, ex, po5, f5, ro5⟩ := expr_u1 (k := k) e1 po4 ro4 np nl
      clear e1
      have hL5 := f5.at hL4 (by omega)
      repeat walk_at "ev0"
      generalize e1 : h_law_draw _ _ = r1
      obtain ⟨w, S6, rfl, w0, w1, po6, f6⟩ := draw_use e1 po5 (by decide) (by decide)
      clear e1
      have hL6 := f6.at hL5 (by omega)
      have ro6 := ro5.fr f6 np
      repeat (first | simp only [if_pos z2] | walk_at "ev0")
      generalize e1 : h_law_draw _ _ = r1
      obtain ⟨y, S7, rfl, y0, y1, po7, f7⟩ := draw_use e1 po6 (by decide) (by decide)
      clear e1
      have hL7 := f7.at hL6 (by omega)
      have ro7 := ro6.fr f7 np
      by_cases hy : y = 0
      · repeat (first | simp only [decide_eq_true hy] | walk_at "ev0")
        generalize e1 : h_law_expr _ _ _ = r1
        obtain ⟨z, S8, rfl, ez, po8, f8, ro8⟩ := expr_u1 (k := false) e1 po7 ro7 np nl
        clear e1
        have hL8 := f8.at hL7 (by omega)
        repeat (first | simp only [hL8, if_pos z2, List.length_map, if_pos hlt] | walk_at "ev0")
        refine ⟨qs ++ [(x, z)], _, _, _, rfl, ?_, by rw [List.length_append, hql]; rfl, fun q hq => ?_, po8.set (by omega) (by omega), ?_, ?_⟩
        · first | (rw [hL8, List.map_append]; rfl) | (rw [List.map_append]; rfl)
        · rcases List.mem_append.mp hq with hq | hq
          · exact hqe q hq
          · rw [List.mem_singleton.mp hq]; exact ⟨ex, ez⟩
        · exact ro8.fr (Fr.refl.set (X := fun i => i = Q) _ fun _ => rfl) (by omega)
        · exact (((f4.trans f5).trans f6).trans f7).trans f8 |>.set _ fun h => by omega
      · repeat (first | simp only [decide_eq_false hy] | walk_at "ev0")
        repeat (first | simp only [hL7, if_pos z2, List.length_map, if_pos hlt] | walk_at "ev0")
        refine ⟨qs ++ [(x, .tup [.str (Str.ofString "num"), .int ((if decide ((0 + (i : Int)) = 0) = true then 1 else 0) + w)])], _, _, _, rfl, ?_, by rw [List.length_append, hql]; rfl, fun q hq => ?_, po7.set (by omega) (by omega), ?_, ?_⟩
        · first | (rw [hL7, List.map_append]; rfl) | (rw [List.map_append]; rfl)
        · rcases List.mem_append.mp hq with hq | hq
          · exact hqe q hq
          · rw [List.mem_singleton.mp hq]
            exact ⟨ex, .num (by split <;> omega) (by split <;> omega)⟩
        · exact ro7.fr (Fr.refl.set (X := fun i => i = Q) _ fun _ => rfl) (by omega)
        · exact ((f4.trans f5).trans f6).trans f7 |>.set _ fun h => by omega)
    clear e1
    rw [rng_len] at hql
    have zq : (qs.map fun q => D.tup [q.1, q.2]).length ≤ sizeLine := by rw [List.length_map]; omega
    have zq2 : qs.length ≤ sizeLine := by omega
    repeat (first | simp only [hL4, List.length_map, if_pos zq, if_pos zq2, if_pos z3, row_ix1] | walk_at "ev0")
    exact ⟨.pick row.nm qs, S4, by rw [St.d]; rfl, .pick hr hk (by omega) (by omega) hqe, po4, ro4, f4⟩
  cases k with
  | true =>
    have hk' : row.kind = kBool := hk
    repeat (first | simp only [row_ix0, hk', decide_eq_true (rfl : kBool = kBool)] | walk_at "ev0")
    generalize e1 : h_law_draw _ _ = r1
    obtain ⟨u, S1, rfl, u0, u1, po1, f1⟩ := draw_use e1 po (by decide) (by decide)
    clear e1
    have ro1 := ro.fr f1 np
    by_cases hu : u > 0
    · repeat (first | simp only [decide_eq_true hu] | walk_at "ev0")
      generalize e1 : h_law_amounts _ _ = r1
      obtain ⟨a, b, S2, rfl, ea, eb, po2, ro2, f2⟩ := amounts_use e1 po1 ro1 np nl
      clear e1
      repeat (first | simp only [row_ix1, if_pos z4] | walk_at "ev0")
      exact ⟨.flip row.nm a b, S2, by rw [St.d]; rfl, .flip hr hk' ea eb, po2, ro2, f1.trans f2⟩
    · repeat (first | simp only [decide_eq_false hu, row_ix0, hk', decide_eq_false n1] | walk_at "ev0")
      have := picks S1 none none po1 ro1 f1
      refine Eq.mp ?_ this
      congr
  | false =>
    have hk' : row.kind = kInt := hk
    repeat (first | simp only [row_ix0, hk', decide_eq_false n2, decide_eq_true (rfl : kInt = kInt)] | walk_at "ev0")
    generalize e1 : h_law_draw _ _ = r1
    obtain ⟨u, S1, rfl, u0, u1, po1, f1⟩ := draw_use e1 po (by decide) (by decide)
    clear e1
    have ro1 := ro.fr f1 np
    by_cases hu : u = 0
    · repeat (first | simp only [decide_eq_true hu] | walk_at "ev0")
      generalize e1 : h_law_draw _ _ = r1
      obtain ⟨v, S2, rfl, v0, v1, po2, f2⟩ := draw_use e1 po1 (by decide) (by decide)
      clear e1
      have ro2 := ro1.fr f2 np
      repeat walk_at "ev0"
      generalize e1 : h_law_expr _ _ _ = r1
      obtain ⟨x, S3, rfl, ex, po3, f3, ro3⟩ := expr_u0 (k := false) e1 v0 (by omega) po2 ro2 np nl
      clear e1
      have ex : Ex rs false 1 x := ex.up (by omega)
      repeat (first | simp only [row_ix1, if_pos z6] | walk_at "ev0")
      generalize e1 : h_law_draw _ _ = r1
      obtain ⟨w, S4, rfl, w0, w1, po4, f4⟩ := draw_use e1 po3 (by decide) (by decide)
      clear e1
      obtain ⟨z, hz0, hz3, ez⟩ := plusN w0 w1
      repeat (first | simp only [ez, if_pos z2, if_pos z3, if_pos z4, if_pos z6] | walk_at "ev0")
      exact ⟨.unif row.nm x _, S4, by rw [St.d]; rfl, .unif hr hk' ex.up1 (.opI (t := Str.ofString "add") (by decide) ex (.num (n := 1) hz0 (by omega))), po4, ro3.fr f4 np, ((f1.trans f2).trans f3).trans f4⟩
    · repeat (first | simp only [decide_eq_false hu] | walk_at "ev0")
      have := picks S1 none none po1 ro1 f1
      refine Eq.mp ?_ this
      congr
end

/-! ### drawn calls and simple statements -/
section
variable {p l n q tn : Nat} {rs ts : List NRow} {ps : List PRow} {S : Sto} {r : Res D}
theorem prow_ix (x : PRow) (S : Sto) : dIx x.d (.int 0) S = .ok (.str x.nm) S ∧ dIx x.d (.int 1) S = .ok (.str (kd x.kind)) S ∧ dIx x.d (.int 2) S = .ok (.tup (x.args.map fun k => .str (kd k))) S := ⟨rfl, rfl, rfl⟩
/-- the rows that can be written -/
structure Tg (rs ts : List NRow) : Prop where
  sub : ∀ r ∈ ts, r ∈ rs ∧ ∃ k, r.kind = kd k
  len : ts.length ≤ 8
  pos : 0 < ts.length
theorem calling_use (e : h_law_calling [.obj p, .obj n, .obj q, .obj tn] S = r) (hP : S[q]? = some (.lst (ps.map PRow.d))) (hT : S[tn]? = some (.lst (ts.map NRow.d))) (tg : Tg rs ts) (lp0 : 0 < ps.length) (lps : ps.length ≤ 8) (hpa : ∀ x ∈ ps, x.args.length ≤ 8) (dp : Nat) (po : PoolS S p l) (ro : Rows S n rs)
    (np : n ≠ p) (nl : n ≠ l) (qp : q ≠ p) (ql : q ≠ l) (tp : tn ≠ p) (tl : tn ≠ l) :
    ∃ (s : St) (S' : Sto), r = .ok s.d S' ∧ Sm rs ps dp s ∧ PoolS S' p l ∧ Fr (fun i => i = p) S S' := by
  have sl := sizeLine_eq
  have z1 : (1 : Nat) ≤ sizeLine := by omega
  have z4 : (4 : Nat) ≤ sizeLine := by omega
  have z0 : (0 : Nat) ≤ sizeLine := Nat.zero_le _
  rw [← e]
  unfold h_law_calling
  walk_at "env"
  unfold b_law_calling
  repeat (first | simp only [hP, List.length_map] | walk_at "ev0")
  generalize e1 : h_law_draw _ _ = r1
  obtain ⟨u, S1, rfl, u0, u1, po1, f1⟩ := draw_use e1 po (by omega) (log2_lt (by omega) (by omega))
  clear e1
  have hP1 := f1.at hP qp
  have hT1 := f1.at hT tp
  have ro1 := ro.fr f1 np
  obtain ⟨x, hx, hxm⟩ := at_in (xs := ps.map PRow.d) u0 (by rw [List.length_map]; exact u1)
  obtain ⟨pr, hpr, rfl⟩ := List.mem_map.mp hxm
  obtain ⟨p0, p1, p2⟩ := prow_ix pr S1
  repeat (first | simp only [hP1, hx, hT1, p1] | walk_at "ev0")
  generalize e1 : cLoop _ _ _ _ _ _ _ = r1
  have hr := cLoop_map e1 (lstOf_lst hT1) (fun r => decide (r.kind = kd pr.kind)) NRow.d (fun x _ => ⟨_, rfl, by repeat (first | simp only [row_ix0, p1] | walk_at "ev0"), fun _ => by repeat walk_at "ev0"⟩)
  clear e1
  subst hr
  have lf : (ts.filter fun r => decide (r.kind = kd pr.kind)).length ≤ 8 := Nat.le_trans (List.length_filter_le _ _) tg.len
  have hf : ∀ r ∈ ts.filter (fun r => decide (r.kind = kd pr.kind)), r ∈ rs ∧ r.kind = kd pr.kind := fun r hr => by
    obtain ⟨h1, h2⟩ := List.mem_filter.mp hr
    exact ⟨(tg.sub r h1).1, of_decide_eq_true h2⟩
  generalize ts.filter (fun r => decide (r.kind = kd pr.kind)) = fs at *
  have zf : (fs.map NRow.d).length ≤ sizeLine := by rw [List.length_map]; omega
  have zf2 : fs.length ≤ sizeLine := by omega
  have hF : (S1 ++ [Ob.lst (fs.map NRow.d)])[S1.length]? = some (.lst (fs.map NRow.d)) := Ev.appNew
  have fA : Fr (fun i => i = p) S1 (S1 ++ [Ob.lst (fs.map NRow.d)]) := Fr.refl.add _
  have poF : PoolS (S1 ++ [Ob.lst (fs.map NRow.d)]) p l := po1.add
  have roF := ro1.fr fA np
  have l1 := po1.lp
  have l2 := po1.ll
  have f1F := f1.trans fA
  repeat (first | simp only [if_pos zf, if_pos zf2, List.length_map, hF] | walk_at "ev0")
  generalize S1.length = F at *
  generalize S1 ++ [Ob.lst (fs.map NRow.d)] = S2 at *
  by_cases hz : ((fs.length : Nat) : Int) = 0
  · repeat (first | simp only [hF, List.length_map, decide_eq_true hz, if_pos z1] | walk_at "ev0")
    exact ⟨.skip, S2, by rw [St.d]; rfl, .skip, poF, f1F⟩
  · obtain ⟨p0, p1, p2⟩ := prow_ix pr (S2 ++ [Ob.lst []])
    repeat (first | simp only [hF, List.length_map, decide_eq_false hz, if_pos z0, p2] | walk_at "ev0")
    have hL : (S2 ++ [Ob.lst []])[S2.length]? = some (.lst []) := Ev.appNew
    have fL : Fr (fun i => i = p) S2 (S2 ++ [Ob.lst []]) := Fr.refl.add _
    have poL : PoolS (S2 ++ [Ob.lst []]) p l := poF.add
    have roL := roF.fr fL np
    have hFL := fL.at hF (by omega)
    have f3 := f1F.trans fL
    have lF := lt_of_get hF
    have ln := roF.lt
    have l3 := poF.lp
    have l4 := poF.ll
    have hS0 := f1F.len
    generalize S2.length = A at *
    generalize S2 ++ [Ob.lst []] = S3 at *
    generalize e1 : dLoop _ _ _ _ _ _ = r1
    obtain ⟨ρ, S4, rfl, as, v7, rfl, hA4, hal, hae, hF4, po4, ro4, f4⟩ := loop_idx_nx e1 (fun i ρ S4 => ∃ (as : List D) (v7 : Option D), ρ = [some (.obj p), some (.obj n), some (.obj q), some (.obj tn), some pr.d, some (.obj F), some (.obj A), v7, none] ∧ S4[A]? = some (.lst as) ∧ as.length = i ∧ (∀ (j : Nat) (k : Bool) (a : D), pr.args[j]? = some k → as[j]? = some a → Ex rs k 1 a) ∧ S4[F]? = some (.lst (fs.map NRow.d)) ∧ PoolS S4 p l ∧ Rows S4 n rs ∧ Fr (fun i => i = p) S S4)
      ⟨[], none, rfl, hL, rfl, (fun _ _ _ _ h => by simp at h), hFL, poL, roL, f3⟩ (by
      rintro i d ρ S4 hd ⟨as, v7, rfl, hA4, hal, hae, hF4, po4, ro4, f4⟩
      rw [List.getElem?_map] at hd
      obtain ⟨k, hk, rfl⟩ := Option.map_eq_some_iff.mp hd
      refine ⟨_, rfl, ?_⟩
      clear e1 hd
      have hil := lt_of_get hk
      have := hpa pr hpr
      have hlt : as.length < sizeLine := by omega
      repeat walk_at "ev0"
      generalize e1 : h_law_expr _ _ _ = r1
      obtain ⟨x, S5, rfl, ex, po5, f5, ro5⟩ := expr_u1 (k := k) e1 po4 ro4 np nl
      clear e1
      have hA5 := f5.at hA4 (by omega)
      have hF5 := f5.at hF4 (by omega)
      repeat (first | simp only [hA4, hA5, if_pos hlt] | walk_at "ev0")
      refine ⟨as ++ [x], _, rfl, by first | rfl | (rw [hA5]; rfl), by rw [List.length_append, hal]; rfl, fun j k' a hj ha => ?_, (get_put_ne (by omega)).trans hF5, po5.set (by omega) (by omega), ro5.fr (Fr.refl.set (X := fun i => i = A) _ fun _ => rfl) (by omega), (f4.trans f5).set _ fun h => by omega⟩
      by_cases hj2 : j < as.length
      · rw [List.getElem?_append_left hj2] at ha
        exact hae j k' a hj ha
      · have hj3 := lt_of_get ha
        rw [List.length_append, List.length_singleton] at hj3
        have ej : j = as.length := by omega
        subst ej
        rw [List.getElem?_append_right (Nat.le_refl _), Nat.sub_self] at ha
        obtain rfl := Option.some.inj ha
        rw [hal, hk] at hj
        obtain rfl := Option.some.inj hj
        exact ex)
    clear e1
    rw [List.length_map] at hal
    have za : as.length ≤ sizeLine := by have := hpa pr hpr; omega
    obtain ⟨p0, p1, p2⟩ := prow_ix pr S4
    repeat (first | simp only [p0, hA4, if_pos za, hF4, List.length_map] | walk_at "ev0")
    generalize e1 : h_law_draw _ _ = r1
    obtain ⟨v, S5, rfl, v0, v1, po5, f5⟩ := draw_use e1 po4 (by omega) (log2_lt (by omega) (by omega))
    clear e1
    have hF5 := f5.at hF4 (by omega)
    obtain ⟨x, hx, hxm⟩ := at_in (xs := fs.map NRow.d) v0 (by rw [List.length_map]; exact v1)
    obtain ⟨t, ht, rfl⟩ := List.mem_map.mp hxm
    obtain ⟨h1, h2⟩ := hf t ht
    repeat (first | simp only [hF5, hx, row_ix1, if_pos z4] | walk_at "ev0")
    exact ⟨.call pr.nm as t.nm, S5, by rw [St.d]; rfl, .call hpr h1 h2 hal hae, po5, f4.trans f5⟩
theorem simple_use {turn : Int} (e : h_law_simple [.obj p, .obj n, .obj tn, .int turn] S = r) (hT : S[tn]? = some (.lst (ts.map NRow.d))) (tg : Tg rs ts) (ps : List PRow) (dp : Nat) (po : PoolS S p l) (ro : Rows S n rs) (np : n ≠ p) (nl : n ≠ l) (tp : tn ≠ p) (tl : tn ≠ l) :
    ∃ (s : St) (S' : Sto), r = .ok s.d S' ∧ Sm rs ps dp s ∧ PoolS S' p l ∧ Fr (fun i => i = p) S S' := by
  have sl := sizeLine_eq
  have z1 : (1 : Nat) ≤ sizeLine := by omega
  have z2 : (2 : Nat) ≤ sizeLine := by omega
  have z3 : (3 : Nat) ≤ sizeLine := by omega
  have z4 : (4 : Nat) ≤ sizeLine := by omega
  rw [← e]
  unfold h_law_simple
  walk_at "env"
  unfold b_law_simple
  have l0 := tg.pos
  have l8 := tg.len
  repeat (first | simp only [hT, List.length_map] | walk_at "ev0")
  generalize e1 : h_law_draw _ _ = r1
  obtain ⟨u, S1, rfl, u0, u1, po1, f1⟩ := draw_use e1 po (by omega) (log2_lt (by omega) (by omega))
  clear e1
  have hT1 := f1.at hT tp
  have ro1 := ro.fr f1 np
  have hN1 := ro1.at_
  obtain ⟨x, hx, hxm⟩ := at_in (xs := ts.map NRow.d) u0 (by rw [List.length_map]; exact u1)
  obtain ⟨row, hrow, rfl⟩ := List.mem_map.mp hxm
  obtain ⟨hr, k, hk⟩ := tg.sub row hrow
  repeat (first | simp only [hT1, hx, hN1] | walk_at "ev0")
  generalize e1 : cLoop _ _ _ _ _ _ _ = r1
  have hc := cLoop_map e1 (lstOf_lst hN1) (fun r => decide (r.kind = kArr)) NRow.d (fun x _ => ⟨_, rfl, by repeat (first | simp only [row_ix0] | walk_at "ev0"), fun _ => by repeat walk_at "ev0"⟩)
  clear e1
  subst hc
  have lf : (rs.filter fun r => decide (r.kind = kArr)).length ≤ 8 := rows_fit ro _
  have hf : ∀ r ∈ rs.filter (fun r => decide (r.kind = kArr)), r ∈ rs ∧ r.kind = kArr := fun r hr => by
    obtain ⟨h1, h2⟩ := List.mem_filter.mp hr
    exact ⟨h1, of_decide_eq_true h2⟩
  generalize rs.filter (fun r => decide (r.kind = kArr)) = fs at *
  have zf : (fs.map NRow.d).length ≤ sizeLine := by rw [List.length_map]; omega
  have zf2 : fs.length ≤ sizeLine := by omega
  have hF : (S1 ++ [Ob.lst (fs.map NRow.d)])[S1.length]? = some (.lst (fs.map NRow.d)) := Ev.appNew
  have fA : Fr (fun i => i = p) S1 (S1 ++ [Ob.lst (fs.map NRow.d)]) := Fr.refl.add _
  have poF : PoolS (S1 ++ [Ob.lst (fs.map NRow.d)]) p l := po1.add
  have roF := ro1.fr fA np
  have l1 := po1.lp
  have l2 := po1.ll
  have f2 := f1.trans fA
  repeat (first | simp only [if_pos zf, if_pos zf2, List.length_map, hF] | walk_at "ev0")
  generalize S1.length = F at *
  generalize S1 ++ [Ob.lst (fs.map NRow.d)] = S2 at *
  by_cases t0 : turn = 0
  · repeat (first | simp only [decide_eq_true t0] | walk_at "ev0")
    generalize e1 : h_law_expr _ _ _ = r1
    obtain ⟨a, S3, rfl, ea, po3, f3, ro3⟩ := expr_u1 (k := true) e1 poF roF np nl
    clear e1
    repeat walk_at "ev0"
    generalize e1 : h_law_expr _ _ _ = r1
    obtain ⟨b, S4, rfl, eb, po4, f4, ro4⟩ := expr_u1 (k := false) e1 po3 ro3 np nl
    clear e1
    repeat walk_at "ev0"
    generalize e1 : h_law_draw _ _ = r1
    obtain ⟨v, S5, rfl, v0, v1, po5, f5⟩ := draw_use e1 po4 (by decide) (by decide)
    clear e1
    repeat (first | simp only [if_pos z2, if_pos z3] | walk_at "ev0")
    exact ⟨.obs _, S5, by rw [St.d]; rfl, .obs (.opB (t := Str.ofString "or") (by decide) (ea.up (by decide)) (.opC (t := Str.ofString "le") (by decide) eb (.num (by omega) (by omega)))), po5, ((f2.trans f3).trans f4).trans f5⟩
  by_cases t1 : turn = 1
  · repeat (first | simp only [decide_eq_false t0, decide_eq_true t1] | walk_at "ev0")
    generalize e1 : h_law_expr _ _ _ = r1
    obtain ⟨a, S3, rfl, ea, po3, f3, ro3⟩ := expr_u1 (k := true) e1 poF roF np nl
    clear e1
    repeat (first | simp only [if_pos z2, if_pos z3] | walk_at "ev0")
    generalize e1 : h_law_expr _ _ _ = r1
    obtain ⟨b, S4, rfl, eb, po4, f4, ro4⟩ := expr_u1 (k := false) e1 po3 ro3 np nl
    clear e1
    repeat (first | simp only [if_pos z2, if_pos z3] | walk_at "ev0")
    exact ⟨.asrt _, S4, by rw [St.d]; rfl, .asrt (.opB (t := Str.ofString "or") (by decide) (ea.up (by decide)) (.opC (t := Str.ofString "le") (by decide) (.num (by decide) (by decide)) eb)), po4, (f2.trans f3).trans f4⟩
  by_cases t2 : turn = 2
  · repeat (first | simp only [decide_eq_false t0, decide_eq_false t1, decide_eq_true t2] | walk_at "ev0")
    generalize e1 : h_law_amounts _ _ = r1
    obtain ⟨a, b, S3, rfl, ea, eb, po3, ro3, f3⟩ := amounts_use e1 poF roF np nl
    clear e1
    repeat (first | simp only [if_pos z3] | walk_at "ev0")
    exact ⟨.weigh a b, S3, by rw [St.d]; rfl, .weigh ea eb, po3, f2.trans f3⟩
  -- from here on: fail, set, a draw
  have rest : ∀ (v5 v7 v8 : Option D), ∃ (s : St) (S' : Sto), endR (dSeq (dIfS (eAnd (eT (eOp dEq (eV 3) (eC (D.int 4)))) (eT (eOp dEq (eCall h_law_draw (eCons (eV 0) (eCons (eC (D.int 6)) eNil))) (eC (D.int 0))))) (dRet (eTup (eCons (eC (D.str (Str.ofString "fail"))) eNil))) dNext)
    (dSeq (dIfS (eT (eOp dLt (eV 3) (eC (D.int 7)))) (dRet (eTup (eCons (eC (D.str (Str.ofString "set"))) (eCons (eOp dIx (eV 4) (eC (D.int 1))) (eCons (eCall (h_law_expr 3) (eCons (eV 0) (eCons (eOp dIx (eV 4) (eC (D.int 0))) (eCons (eV 1) (eCons (eOp dAdd (eC (D.int 1)) (eCall h_law_draw (eCons (eV 0) (eCons (eC (D.int 2)) eNil)))) eNil))))) eNil))))) dNext)
    (dRet (eCall h_law_drawing (eCons (eV 0) (eCons (eV 1) (eCons (eV 4) eNil)))))) [some (.obj p), some (.obj n), some (.obj tn), some (.int turn), some row.d, v5, some (.obj F), v7, v8] S2) = .ok s.d S' ∧ Sm rs ps dp s ∧ PoolS S' p l ∧ Fr (fun i => i = p) S S' := by
    intro v5 v7 v8
    have tail : ∀ (S3 : Sto), PoolS S3 p l → Rows S3 n rs → Fr (fun i => i = p) S S3 → ∃ (s : St) (S' : Sto), endR (dSeq (dIfS (eT (eOp dLt (eV 3) (eC (D.int 7)))) (dRet (eTup (eCons (eC (D.str (Str.ofString "set"))) (eCons (eOp dIx (eV 4) (eC (D.int 1))) (eCons (eCall (h_law_expr 3) (eCons (eV 0) (eCons (eOp dIx (eV 4) (eC (D.int 0))) (eCons (eV 1) (eCons (eOp dAdd (eC (D.int 1)) (eCall h_law_draw (eCons (eV 0) (eCons (eC (D.int 2)) eNil)))) eNil))))) eNil))))) dNext)
    (dRet (eCall h_law_drawing (eCons (eV 0) (eCons (eV 1) (eCons (eV 4) eNil))))) [some (.obj p), some (.obj n), some (.obj tn), some (.int turn), some row.d, v5, some (.obj F), v7, v8] S3) = .ok s.d S' ∧ Sm rs ps dp s ∧ PoolS S' p l ∧ Fr (fun i => i = p) S S' := by
      intro S3 po3 ro3 f3
      by_cases t7 : turn < 7
      · repeat (first | simp only [decide_eq_true t7, row_ix0, row_ix1, hk] | walk_at "ev0")
        generalize e1 : h_law_draw _ _ = r1
        obtain ⟨v, S4, rfl, v0, v1, po4, f4⟩ := draw_use e1 po3 (by decide) (by decide)
        clear e1
        have ro4 := ro3.fr f4 np
        repeat walk_at "ev0"
        generalize e1 : h_law_expr _ _ _ = r1
        obtain ⟨b, S5, rfl, eb, po5, f5, ro5⟩ := expr_u0 (k := k) e1 (by omega) (by omega) po4 ro4 np nl
        clear e1
        repeat (first | simp only [if_pos z3] | walk_at "ev0")
        exact ⟨.set row.nm b, S5, by rw [St.d]; rfl, .set hr hk (eb.up (by omega)), po5, (f3.trans f4).trans f5⟩
      · repeat (first | simp only [decide_eq_false t7] | walk_at "ev0")
        generalize e1 : h_law_drawing _ _ = r1
        obtain ⟨s, S4, rfl, hs, po4, ro4, f4⟩ := drawing_use e1 hr hk ps dp po3 ro3 np nl
        clear e1
        repeat walk_at "ev0"
        exact ⟨s, S4, rfl, hs, po4, f3.trans f4⟩
    by_cases t4 : turn = 4
    · repeat (first | simp only [decide_eq_true t4] | walk_at "ev0")
      generalize e1 : h_law_draw _ _ = r1
      obtain ⟨v, S3, rfl, v0, v1, po3, f3⟩ := draw_use e1 poF (by decide) (by decide)
      clear e1
      by_cases hv : v = 0
      · repeat (first | simp only [decide_eq_true hv, if_pos z1] | walk_at "ev0")
        exact ⟨.fail, S3, by rw [St.d]; rfl, .fail, po3, f2.trans f3⟩
      · repeat (first | simp only [decide_eq_false hv] | walk_at "ev0")
        have := tail S3 po3 (roF.fr f3 np) (f2.trans f3)
        refine Eq.mp ?_ this
        congr
    · repeat (first | simp only [decide_eq_false t4] | walk_at "ev0")
      have := tail S2 poF roF f2
      refine Eq.mp ?_ this
      congr
  by_cases t3 : turn = 3
  · by_cases hz : (0 : Int) < ((fs.length : Nat) : Int)
    · repeat (first | simp only [decide_eq_false t0, decide_eq_false t1, decide_eq_false t2, decide_eq_true t3, hF, List.length_map, decide_eq_true hz] | walk_at "ev0")
      generalize e1 : h_law_draw _ _ = r1
      obtain ⟨v, S3, rfl, v0, v1, po3, f3⟩ := draw_use e1 poF hz (log2_lt (by omega) (by omega))
      clear e1
      have hF3 := f3.at hF (by omega)
      have ro3 := roF.fr f3 np
      obtain ⟨x, hx, hxm⟩ := at_in (xs := fs.map NRow.d) v0 (by rw [List.length_map]; exact v1)
      obtain ⟨t, ht, rfl⟩ := List.mem_map.mp hxm
      obtain ⟨h1, h2⟩ := hf t ht
      have hsz := ro3.arr t h1 h2
      repeat (first | simp only [hF3, hx] | walk_at "ev0")
      generalize e1 : h_law_draw _ _ = r1
      obtain ⟨w, S4, rfl, w0, w1, po4, f4⟩ := draw_use e1 po3 (by decide) (by decide)
      clear e1
      have ro4 := ro3.fr f4 np
      by_cases hw : w > 0
      · repeat (first | simp only [decide_eq_true hw, row_ix2] | walk_at "ev0")
        generalize e1 : h_law_draw _ _ = r1
        obtain ⟨y, S5, rfl, y0, y1, po5, f5⟩ := draw_use e1 po4 (by omega) (log2_lt (by omega) (by omega))
        clear e1
        have ro5 := ro4.fr f5 np
        repeat (first | simp only [if_pos z2, row_ix1] | walk_at "ev0")
        generalize e1 : h_law_expr _ _ _ = r1
        obtain ⟨b, S6, rfl, eb, po6, f6, ro6⟩ := expr_u1 (k := false) e1 po5 ro5 np nl
        clear e1
        repeat (first | simp only [if_pos z4] | walk_at "ev0")
        exact ⟨.store t.nm _ b, S6, by rw [St.d]; rfl, .store h1 h2 (.num y0 (by omega)) eb, po6, ((f2.trans f3).trans f4).trans (f5.trans f6)⟩
      · repeat (first | simp only [decide_eq_false hw] | walk_at "ev0")
        generalize e1 : h_law_expr _ _ _ = r1
        obtain ⟨y, S5, rfl, ey, po5, f5, ro5⟩ := expr_u1 (k := false) e1 po4 ro4 np nl
        clear e1
        repeat (first | simp only [if_pos z2, row_ix1] | walk_at "ev0")
        generalize e1 : h_law_expr _ _ _ = r1
        obtain ⟨b, S6, rfl, eb, po6, f6, ro6⟩ := expr_u1 (k := false) e1 po5 ro5 np nl
        clear e1
        repeat (first | simp only [if_pos z4] | walk_at "ev0")
        exact ⟨.store t.nm y b, S6, by rw [St.d]; rfl, .store h1 h2 ey eb, po6, ((f2.trans f3).trans f4).trans (f5.trans f6)⟩
    · repeat (first | simp only [decide_eq_false t0, decide_eq_false t1, decide_eq_false t2, decide_eq_true t3, hF, List.length_map, decide_eq_false hz] | walk_at "ev0")
      have := rest none none none
      refine Eq.mp ?_ this
      congr
  · repeat (first | simp only [decide_eq_false t0, decide_eq_false t1, decide_eq_false t2, decide_eq_false t3] | walk_at "ev0")
    have := rest none none none
    refine Eq.mp ?_ this
    congr
end

/-! ### drawn blocks -/
section
variable {p l n q : Nat} {rs : List NRow} {ps : List PRow}
theorem block_ok (nk : NamesK rs) (lps : ps.length ≤ 8) (hpa : ∀ x ∈ ps, x.args.length ≤ 8) (np : n ≠ p) (nl : n ≠ l) (qp : q ≠ p) (ql : q ≠ l) : ∀ (dp f : Nat) (most : Nat) (S : Sto), dp < f → 2 ≤ most → most ≤ 100 → PoolS S p l → Rows S n rs → S[q]? = some (.lst (ps.map PRow.d)) →
    ∃ (b : List St) (S' : Sto), h_law_block f [.obj p, .obj n, .obj q, .int (dp : Int), .int (most : Int)] S = .ok (.tup (dB b)) S' ∧ (∀ s ∈ b, Sm rs ps dp s) ∧ b.length ≤ most ∧ PoolS S' p l ∧ Fr (fun i => i = p) S S'
  | dp, 0, _, _, h, _, _, _, _, _ => absurd h (Nat.not_lt_zero _)
  | dp, f + 1, most, S, hf, hm2, hm, po, ro, hP => by
    have sl := sizeLine_eq
    have z0 : (0 : Nat) ≤ sizeLine := Nat.zero_le _
    have z1 : (1 : Nat) ≤ sizeLine := by omega
    have z3 : (3 : Nat) ≤ sizeLine := by omega
    have z4 : (4 : Nat) ≤ sizeLine := by omega
    have z5 : (5 : Nat) ≤ sizeLine := by omega
    have ih : ∀ {S : Sto} {r : Res D}, h_law_block f [.obj p, .obj n, .obj q, .int ((dp : Int) - 1), .int 2] S = r → 0 < dp → PoolS S p l → Rows S n rs → S[q]? = some (.lst (ps.map PRow.d)) → ∃ (b : List St) (S' : Sto), r = .ok (.tup (dB b)) S' ∧ (∀ s ∈ b, Sm rs ps (dp - 1) s) ∧ b.length ≤ 2 ∧ PoolS S' p l ∧ Fr (fun i => i = p) S S' := by
      intro S r e h0 po ro hP
      obtain ⟨b, S', e2, h⟩ := block_ok nk lps hpa np nl qp ql (dp - 1) f 2 S (by omega) (by decide) (by decide) po ro hP
      rw [show (((dp - 1 : Nat) : Int)) = (dp : Int) - 1 by omega] at e2
      exact ⟨b, S', e.symm.trans e2, h⟩
    show ∃ (b : List St) (S' : Sto), runD 5 15 (b_law_block (h_law_block f)) _ S = _ ∧ _
    walk_at "env"
    unfold b_law_block
    have hN := ro.at_
    repeat (first | simp only [hN] | walk_at "ev0")
    generalize e1 : cLoop _ _ _ _ _ _ _ = r1
    have hc := cLoop_map e1 (lstOf_lst hN) (fun r => !decide (r.kind = kArr)) NRow.d (fun x _ => ⟨_, rfl, by repeat (first | simp only [row_ix0] | walk_at "ev0"), fun _ => by repeat walk_at "ev0"⟩)
    clear e1
    subst hc
    have tg : Tg rs (rs.filter fun r => !decide (r.kind = kArr)) := by
      refine ⟨fun r hr => ?_, Nat.le_trans (List.length_filter_le _ _) ro.len, ?_⟩
      · obtain ⟨h1, h2⟩ := List.mem_filter.mp hr
        refine ⟨h1, ?_⟩
        rcases nk.kinds r h1 with h | h | h
        · exact ⟨false, h⟩
        · exact ⟨true, h⟩
        · rw [h] at h2
          simp at h2
      · obtain ⟨r, hr, hk⟩ := nk.int
        refine List.length_pos_of_mem (a := r) (List.mem_filter.mpr ⟨hr, ?_⟩)
        rw [hk]
        decide
    generalize rs.filter (fun r => !decide (r.kind = kArr)) = ts at *
    have zt : (ts.map NRow.d).length ≤ sizeLine := by rw [List.length_map]; have := tg.len; omega
    have zt2 : ts.length ≤ sizeLine := by have := tg.len; omega
    have hT : (S ++ [Ob.lst (ts.map NRow.d)])[S.length]? = some (.lst (ts.map NRow.d)) := Ev.appNew
    have fT : Fr (fun i => i = p) S (S ++ [Ob.lst (ts.map NRow.d)]) := Fr.refl.add _
    have poT : PoolS (S ++ [Ob.lst (ts.map NRow.d)]) p l := po.add
    have roT := ro.fr fT np
    have hPT := fT.at hP qp
    have l1 := po.lp
    have l2 := po.ll
    have l3 := ro.lt
    have l4 := lt_of_get hP
    repeat (first | simp only [if_pos zt, if_pos zt2, List.length_map, if_pos z0] | walk_at "ev0")
    have hB : (S ++ [Ob.lst (ts.map NRow.d)] ++ [Ob.lst []])[(S ++ [Ob.lst (ts.map NRow.d)]).length]? = some (.lst []) := Ev.appNew
    have fB : Fr (fun i => i = p) S (S ++ [Ob.lst (ts.map NRow.d)] ++ [Ob.lst []]) := fT.add _
    have f2 : Fr (fun i => i = p) (S ++ [Ob.lst (ts.map NRow.d)]) (S ++ [Ob.lst (ts.map NRow.d)] ++ [Ob.lst []]) := Fr.refl.add _
    have hTB := f2.at hT (by omega)
    have poB : PoolS (S ++ [Ob.lst (ts.map NRow.d)] ++ [Ob.lst []]) p l := poT.add
    have roB := roT.fr f2 np
    have hPB := f2.at hPT qp
    have eTn : (S ++ [Ob.lst (ts.map NRow.d)]).length = S.length + 1 := by rw [List.length_append]; rfl
    have eL : (S ++ [Ob.lst (ts.map NRow.d)] ++ [Ob.lst []]).length = S.length + 2 := by rw [List.length_append, List.length_append]; rfl
    rw [eTn] at hB
    generalize S ++ [Ob.lst (ts.map NRow.d)] ++ [Ob.lst []] = S2 at *
    have e3 : (3 : Int) ≠ 0 := by decide
    have efd : ((most : Int)).fdiv 3 = ((most / 3 : Nat) : Int) := by
      rw [Int.fdiv_eq_ediv_of_nonneg _ (by decide)]
      exact (Int.natCast_ediv most 3).symm
    have eM : ∀ x : Int, x.fdiv 3 = x / 3 := fun x => Int.fdiv_eq_ediv_of_nonneg _ (by decide)
    try simp only [efd]
    repeat (first | simp only [efd] | walk_at "ev0")
    generalize e1 : h_law_draw _ _ = r1
    obtain ⟨u, S3, rfl, u0, u1, po3, f3⟩ := draw_use e1 poB (by omega) (log2_lt (by omega) (by omega))
    clear e1
    have hT3 := f3.at hTB (by omega)
    have hB3 := f3.at hB (by omega)
    have ro3 := roB.fr f3 np
    have hP3 := f3.at hPB qp
    obtain ⟨m, hm3⟩ := Int.eq_ofNat_of_zero_le (a := ((most / 3 : Nat) : Int) + u) (by omega)
    have hmm : m ≤ most := by omega
    have ok := okr_nat (n := m) (by omega)
    repeat (first | simp only [hm3, ok, if_true, Int.toNat_natCast] | walk_at "ev0")
    generalize hBn : S.length + 1 = Bn at *
    generalize hTn : S.length = Tn at *
    generalize e1 : dLoop _ _ _ _ _ _ = r1
    obtain ⟨ρ, S4, rfl, b, v7, v8, v9, v10, v11, v12, v13, rfl, hB4, hbl, hbs, hT4, hP4, po4, ro4, f4⟩ := loop_idx_nx e1 (fun i ρ S4 => ∃ (b : List St) (v7 v8 v9 v10 v11 v12 v13 : Option D), ρ = [some (.obj p), some (.obj n), some (.obj q), some (.int (dp : Int)), some (.int (most : Int)), some (.obj Tn), some (.obj Bn), v7, v8, v9, v10, v11, v12, v13, none] ∧
        S4[Bn]? = some (.lst (dB b)) ∧ b.length ≤ i ∧ (∀ s ∈ b, Sm rs ps dp s) ∧ S4[Tn]? = some (.lst (ts.map NRow.d)) ∧ S4[q]? = some (.lst (ps.map PRow.d)) ∧ PoolS S4 p l ∧ Rows S4 n rs ∧ Fr (fun i => i = p) S S4)
      ⟨[], none, none, none, none, none, none, none, rfl, by rw [dB]; exact hB3, Nat.le_refl _, (fun _ h => by cases h), hT3, hP3, po3, ro3, fB.trans f3⟩ (by
      rintro i d ρ S4 hd ⟨b, v7, v8, v9, v10, v11, v12, v13, rfl, hB4, hbl, hbs, hT4, hP4, po4, ro4, f4⟩
      obtain ⟨hi, rfl⟩ := rng_get hd
      refine ⟨_, rfl, ?_⟩
      clear e1 hd
      have lb : (dB b).length = b.length := by rw [dB_eq, List.length_map]
      have hlt : (dB b).length < sizeLine := by omega
      have grow : ∀ (s : St), Sm rs ps dp s → ∀ (S5 : Sto), S5[Bn]? = some (.lst (dB b)) → S5[Tn]? = some (.lst (ts.map NRow.d)) → S5[q]? = some (.lst (ps.map PRow.d)) → PoolS S5 p l → Rows S5 n rs → Fr (fun i => i = p) S S5 → ∀ (v7 v8 v9 v10 v11 v12 v13 : Option D),
          ∃ (b' : List St) (w7 w8 w9 w10 w11 w12 w13 : Option D), [some (.obj p), some (.obj n), some (.obj q), some (.int (dp : Int)), some (.int (most : Int)), some (.obj Tn), some (.obj Bn), v7, v8, v9, v10, v11, v12, v13, none] = [some (.obj p), some (.obj n), some (.obj q), some (.int (dp : Int)), some (.int (most : Int)), some (.obj Tn), some (.obj Bn), w7, w8, w9, w10, w11, w12, w13, none] ∧
            (S5.set Bn (.lst (dB b ++ [s.d])))[Bn]? = some (.lst (dB b')) ∧ b'.length ≤ i + 1 ∧ (∀ s ∈ b', Sm rs ps dp s) ∧ (S5.set Bn (.lst (dB b ++ [s.d])))[Tn]? = some (.lst (ts.map NRow.d)) ∧ (S5.set Bn (.lst (dB b ++ [s.d])))[q]? = some (.lst (ps.map PRow.d)) ∧ PoolS (S5.set Bn (.lst (dB b ++ [s.d]))) p l ∧ Rows (S5.set Bn (.lst (dB b ++ [s.d]))) n rs ∧ Fr (fun i => i = p) S (S5.set Bn (.lst (dB b ++ [s.d]))) := by
        intro s hs S5 hB5 hT5 hP5 po5 ro5 f5 v7 v8 v9 v10 v11 v12 v13
        refine ⟨b ++ [s], _, _, _, _, _, _, _, rfl, ?_, by rw [List.length_append, List.length_singleton]; omega, fun x hx => ?_, (get_put_ne (by omega)).trans hT5, (get_put_ne (by omega)).trans hP5, po5.set (by omega) (by omega), ro5.fr (Fr.refl.set (X := fun i => i = Bn) _ fun _ => rfl) (by omega), f5.set _ fun h => by omega⟩
        · rw [get_put hB5, dB_eq (b ++ [s]), dB_eq b, List.map_append]
          rfl
        · rcases List.mem_append.mp hx with hx | hx
          · exact hbs x hx
          · rw [List.mem_singleton.mp hx]; exact hs
      have fin : ∀ (s : St), Sm rs ps dp s → ∀ (S5 : Sto), S5[Bn]? = some (.lst (dB b)) → S5[Tn]? = some (.lst (ts.map NRow.d)) → S5[q]? = some (.lst (ps.map PRow.d)) → PoolS S5 p l → Rows S5 n rs → Fr (fun i => i = p) S S5 → ∀ (d : D), d = s.d → ∀ (v7 v8 v9 v10 v11 v12 v13 : Option D),
          ∃ (b' : List St) (w7 w8 w9 w10 w11 w12 w13 : Option D), [some (.obj p), some (.obj n), some (.obj q), some (.int (dp : Int)), some (.int (most : Int)), some (.obj Tn), some (.obj Bn), v7, v8, v9, v10, v11, v12, v13, none] = [some (.obj p), some (.obj n), some (.obj q), some (.int (dp : Int)), some (.int (most : Int)), some (.obj Tn), some (.obj Bn), w7, w8, w9, w10, w11, w12, w13, none] ∧
            some (Ob.lst (dB b ++ [d])) = some (.lst (dB b')) ∧ b'.length ≤ i + 1 ∧ (∀ s ∈ b', Sm rs ps dp s) ∧ (S5.set Bn (.lst (dB b ++ [d])))[Tn]? = some (.lst (ts.map NRow.d)) ∧ (S5.set Bn (.lst (dB b ++ [d])))[q]? = some (.lst (ps.map PRow.d)) ∧ PoolS (S5.set Bn (.lst (dB b ++ [d]))) p l ∧ Rows (S5.set Bn (.lst (dB b ++ [d]))) n rs ∧ Fr (fun i => i = p) S (S5.set Bn (.lst (dB b ++ [d]))) := by
        intro s hs S5 hB5 hT5 hP5 po5 ro5 f5 d ed v7 v8 v9 v10 v11 v12 v13
        subst ed
        obtain ⟨b', w7, w8, w9, w10, w11, w12, w13, g1, g2, g3⟩ := grow s hs S5 hB5 hT5 hP5 po5 ro5 f5 v7 v8 v9 v10 v11 v12 v13
        exact ⟨b', w7, w8, w9, w10, w11, w12, w13, g1, (get_put hB5).symm.trans g2, g3⟩
      repeat walk_at "ev0"
      generalize e1 : h_law_draw _ _ = r1
      obtain ⟨t, S5, rfl, t0, t1, po5, f5⟩ := draw_use e1 po4 (by decide) (by decide)
      clear e1
      have hB5 := f5.at hB4 (by omega)
      have hT5 := f5.at hT4 (by omega)
      have hP5 := f5.at hP4 qp
      have ro5 := ro4.fr f5 np
      have f05 := f4.trans f5
      -- a simple statement
      have simple : t ≠ 17 → ∀ w9 w10 w11 w12 w13 : Option D, bTurn (fun _ => True) (fun ρ S4 => ∃ (b : List St) (v7 v8 v9 v10 v11 v12 v13 : Option D), ρ = [some (.obj p), some (.obj n), some (.obj q), some (.int (dp : Int)), some (.int (most : Int)), some (.obj Tn), some (.obj Bn), v7, v8, v9, v10, v11, v12, v13, none] ∧
        S4[Bn]? = some (.lst (dB b)) ∧ b.length ≤ i + 1 ∧ (∀ s ∈ b, Sm rs ps dp s) ∧ S4[Tn]? = some (.lst (ts.map NRow.d)) ∧ S4[q]? = some (.lst (ps.map PRow.d)) ∧ PoolS S4 p l ∧ Rows S4 n rs ∧ Fr (fun i => i = p) S S4) (fun _ => False) ((dIfS (eT (eOp dEq (eV 8) (eC (D.int 17)))) (dExpr (eMeth "list" mAppend (eV 6) (eCons (eTup (eCons (eC (D.str (Str.ofString "skip"))) eNil)) eNil))) (dExpr (eMeth "list" mAppend (eV 6) (eCons (eCall h_law_simple (eCons (eV 0) (eCons (eV 1) (eCons (eV 5) (eCons (eV 8) eNil))))) eNil)))) [some (.obj p), some (.obj n), some (.obj q), some (.int (dp : Int)), some (.int (most : Int)), some (.obj Tn), some (.obj Bn), some (.int (0 + (i : Int))), some (.int t), w9, w10, w11, w12, w13, none] S5) := by
        intro h17 w9 w10 w11 w12 w13
        repeat (first | simp only [decide_eq_false h17] | walk_at "ev0")
        generalize e1 : h_law_simple _ _ = r1
        obtain ⟨s, S6, rfl, hs, po6, f6⟩ := simple_use e1 hT5 tg ps dp po5 ro5 np nl (by omega) (by omega)
        clear e1
        have hB6 := f6.at hB5 (by omega)
        repeat (first | simp only [hB5, hB6, if_pos hlt] | walk_at "ev0")
        exact fin s hs S6 hB6 (f6.at hT5 (by omega)) (f6.at hP5 qp) po6 (ro5.fr f6 np) (f05.trans f6) _ rfl _ _ _ _ _ _ _
      have weak : ∀ {N : Env → Sto → Prop} {R R' : RS → Prop} {x : RS}, (∀ y, R y → R' y) → bTurn (fun _ => True) N R x → bTurn (fun _ => True) N R' x := by
        intro N R R' x h hx
        cases x with
        | nx ρ S => exact hx
        | ct ρ S => exact hx
        | bk ρ S => exact h _ hx
        | rt d S => exact h _ hx
        | exc c fs ρ S => exact h _ hx
        | bad => exact hx
      -- no block
      have flat : bTurn (fun _ => True) (fun ρ S4 => ∃ (b : List St) (v7 v8 v9 v10 v11 v12 v13 : Option D), ρ = [some (.obj p), some (.obj n), some (.obj q), some (.int (dp : Int)), some (.int (most : Int)), some (.obj Tn), some (.obj Bn), v7, v8, v9, v10, v11, v12, v13, none] ∧
        S4[Bn]? = some (.lst (dB b)) ∧ b.length ≤ i + 1 ∧ (∀ s ∈ b, Sm rs ps dp s) ∧ S4[Tn]? = some (.lst (ts.map NRow.d)) ∧ S4[q]? = some (.lst (ps.map PRow.d)) ∧ PoolS S4 p l ∧ Rows S4 n rs ∧ Fr (fun i => i = p) S S4) (fun _ => False) ((dIfS (eAnd (eT (eOp dGt (eV 8) (eC (D.int 17)))) (eT (eOp dGt (eCall dLen (eCons (eV 2) eNil)) (eC (D.int 0))))) (dExpr (eMeth "list" mAppend (eV 6) (eCons (eCall h_law_calling (eCons (eV 0) (eCons (eV 1) (eCons (eV 2) (eCons (eV 5) eNil))))) eNil))) (dIfS (eT (eOp dEq (eV 8) (eC (D.int 17)))) (dExpr (eMeth "list" mAppend (eV 6) (eCons (eTup (eCons (eC (D.str (Str.ofString "skip"))) eNil)) eNil))) (dExpr (eMeth "list" mAppend (eV 6) (eCons (eCall h_law_simple (eCons (eV 0) (eCons (eV 1) (eCons (eV 5) (eCons (eV 8) eNil))))) eNil))))) [some (.obj p), some (.obj n), some (.obj q), some (.int (dp : Int)), some (.int (most : Int)), some (.obj Tn), some (.obj Bn), some (.int (0 + (i : Int))), some (.int t), v9, v10, v11, v12, v13, none] S5) := by
        by_cases h17 : 17 < t
        · by_cases hp0 : (0 : Int) < ((ps.length : Nat) : Int)
          · repeat (first | simp only [decide_eq_true h17, hP5, List.length_map, decide_eq_true hp0] | walk_at "ev0")
            generalize e1 : h_law_calling _ _ = r1
            obtain ⟨s, S6, rfl, hs, po6, f6⟩ := calling_use e1 hP5 hT5 tg (by omega) lps hpa dp po5 ro5 np nl qp ql (by omega) (by omega)
            clear e1
            have hB6 := f6.at hB5 (by omega)
            repeat (first | simp only [hB5, hB6, if_pos hlt] | walk_at "ev0")
            exact fin s hs S6 hB6 (f6.at hT5 (by omega)) (f6.at hP5 qp) po6 (ro5.fr f6 np) (f05.trans f6) _ rfl _ _ _ _ _ _ _
          · repeat (first | simp only [decide_eq_true h17, hP5, List.length_map, decide_eq_false hp0] | walk_at "ev0")
            have := simple (by omega) v9 v10 v11 v12 v13
            refine Eq.mp ?_ this
            congr
        · by_cases h17' : t = 17
          · repeat (first | simp only [decide_eq_false h17, decide_eq_true h17', hB5, if_pos z1, if_pos hlt] | walk_at "ev0")
            exact fin .skip .skip S5 hB5 hT5 hP5 po5 ro5 f05 _ (by rw [St.d]; rfl) _ _ _ _ _ _ _
          · repeat (first | simp only [decide_eq_false h17] | walk_at "ev0")
            have := simple h17' v9 v10 v11 v12 v13
            refine Eq.mp ?_ this
            congr
      by_cases hdp : (0 : Int) < (dp : Int)
      · by_cases h12 : 12 < t
        · by_cases h17 : t < 17
          · have hd0 : 0 < dp := by omega
            obtain ⟨dq, rfl⟩ : ∃ dq, dp = dq + 1 := ⟨dp - 1, by omega⟩
            repeat (first | simp only [decide_eq_true hdp, decide_eq_true h12, decide_eq_true h17] | walk_at "ev0")
            generalize e1 : h_law_block _ _ _ = r1
            obtain ⟨b1, S6, rfl, hb1, lb1, po6, f6⟩ := ih e1 hd0 po5 ro5 hP5
            clear e1
            have hb1 : ∀ s ∈ b1, Sm rs ps dq s := hb1
            have ro6 := ro5.fr f6 np
            have hT6 := f6.at hT5 (by omega)
            have hB6 := f6.at hB5 (by omega)
            have hP6 := f6.at hP5 qp
            repeat walk_at "ev0"
            generalize e1 : h_law_expr _ _ _ = r1
            obtain ⟨c, S7, rfl, ec, po7, f7, ro7⟩ := expr_u1 (k := true) e1 po6 ro6 np nl
            clear e1
            have hT7 := f7.at hT6 (by omega)
            have hB7 := f7.at hB6 (by omega)
            have hP7 := f7.at hP6 qp
            repeat (first | simp only [hT7] | walk_at "ev0")
            generalize e1 : cLoop _ _ _ _ _ _ _ = r1
            have hc := cLoop_map e1 (lstOf_lst hT7) (fun r => decide (r.kind = kInt)) NRow.d (fun x _ => ⟨_, rfl, by repeat (first | simp only [row_ix0] | walk_at "ev0"), fun _ => by repeat walk_at "ev0"⟩)
            clear e1
            subst hc
            have lf : (ts.filter fun r => decide (r.kind = kInt)).length ≤ 8 := Nat.le_trans (List.length_filter_le _ _) tg.len
            have hf : ∀ r ∈ ts.filter (fun r => decide (r.kind = kInt)), r ∈ rs ∧ r.kind = kInt := fun r hr => by
              obtain ⟨h1, h2⟩ := List.mem_filter.mp hr
              exact ⟨(tg.sub r h1).1, of_decide_eq_true h2⟩
            generalize ts.filter (fun r => decide (r.kind = kInt)) = fs at *
            have zf : (fs.map NRow.d).length ≤ sizeLine := by rw [List.length_map]; omega
            have zf2 : fs.length ≤ sizeLine := by omega
            have hF : (S7 ++ [Ob.lst (fs.map NRow.d)])[S7.length]? = some (.lst (fs.map NRow.d)) := Ev.appNew
            have fA : Fr (fun i => i = p) S7 (S7 ++ [Ob.lst (fs.map NRow.d)]) := Fr.refl.add _
            have po8 : PoolS (S7 ++ [Ob.lst (fs.map NRow.d)]) p l := po7.add
            have ro8 := ro7.fr fA np
            have hT8 := fA.at hT7 (by omega)
            have hB8 := fA.at hB7 (by omega)
            have hP8 := fA.at hP7 qp
            have f8 := ((f05.trans f6).trans f7).trans fA
            have l7 := lt_of_get hB7
            have l8 := po7.lp
            repeat (first | simp only [if_pos zf, if_pos zf2, List.length_map] | walk_at "ev0")
            generalize S7.length = F at *
            generalize S7 ++ [Ob.lst (fs.map NRow.d)] = S8 at *
            by_cases t13 : t = 13
            · repeat (first | simp only [decide_eq_true t13] | walk_at "ev0")
              generalize e1 : h_law_block _ _ _ = r1
              obtain ⟨b2, S9, rfl, hb2, lb2, po9, f9⟩ := ih e1 hd0 po8 ro8 hP8
              clear e1
              have hb2 : ∀ s ∈ b2, Sm rs ps dq s := hb2
              have hB9 := f9.at hB8 (by omega)
              repeat (first | simp only [hB8, hB9, if_pos z4, if_pos hlt] | walk_at "ev0")
              exact fin (.ifs c b1 b2) (.ifs ec lb1 lb2 hb1 hb2) S9 hB9 (f9.at hT8 (by omega)) (f9.at hP8 qp) po9 (ro8.fr f9 np) (f8.trans f9) _ (by rw [St.d]; rfl) _ _ _ _ _ _ _
            by_cases t14 : t = 14
            · repeat (first | simp only [decide_eq_false t13, decide_eq_true t14] | walk_at "ev0")
              generalize e1 : h_law_draw _ _ = r1
              obtain ⟨m, S9, rfl, m0, m1, po9, f9⟩ := draw_use e1 po8 (by decide) (by decide)
              clear e1
              have hB9 := f9.at hB8 (by omega)
              repeat (first | simp only [hB8, hB9, if_pos z3, if_pos hlt] | walk_at "ev0")
              exact fin (.rep m b1) (.rep m0 (by omega) lb1 hb1) S9 hB9 (f9.at hT8 (by omega)) (f9.at hP8 qp) po9 (ro8.fr f9 np) (f8.trans f9) _ (by rw [St.d]; rfl) _ _ _ _ _ _ _
            by_cases t15 : t = 15
            · repeat (first | simp only [decide_eq_false t13, decide_eq_false t14, decide_eq_true t15] | walk_at "ev0")
              generalize e1 : h_law_draw _ _ = r1
              obtain ⟨m, S9, rfl, m0, m1, po9, f9⟩ := draw_use e1 po8 (by decide) (by decide)
              clear e1
              have hB9 := f9.at hB8 (by omega)
              repeat (first | simp only [hB8, hB9, if_pos z4, if_pos hlt] | walk_at "ev0")
              exact fin (.whl c m b1) (.whl ec m0 (by omega) lb1 hb1) S9 hB9 (f9.at hT8 (by omega)) (f9.at hP8 qp) po9 (ro8.fr f9 np) (f8.trans f9) _ (by rw [St.d]; rfl) _ _ _ _ _ _ _
            by_cases hz : (0 : Int) < ((fs.length : Nat) : Int)
            · repeat (first | simp only [decide_eq_false t13, decide_eq_false t14, decide_eq_false t15, hF, List.length_map, decide_eq_true hz] | walk_at "ev0")
              generalize e1 : h_law_draw _ _ = r1
              obtain ⟨lo, S9, rfl, lo0, lo1, po9, f9⟩ := draw_use e1 po8 (by decide) (by decide)
              clear e1
              have hB9 := f9.at hB8 (by omega)
              have hF9 := f9.at hF (by omega)
              repeat (first | simp only [hF9, List.length_map] | walk_at "ev0")
              generalize e1 : h_law_draw _ _ = r1
              obtain ⟨v, S10, rfl, v0, v1, po10, f10⟩ := draw_use e1 po9 hz (log2_lt (by omega) (by omega))
              clear e1
              have hB10 := f10.at hB9 (by omega)
              have hF10 := f10.at hF9 (by omega)
              obtain ⟨x, hx, hxm⟩ := at_in (xs := fs.map NRow.d) v0 (by rw [List.length_map]; exact v1)
              obtain ⟨rw', hrw, rfl⟩ := List.mem_map.mp hxm
              obtain ⟨h1, h2⟩ := hf rw' hrw
              repeat (first | simp only [hF10, hx, row_ix1, hB10] | walk_at "ev0")
              generalize e1 : h_law_draw _ _ = r1
              obtain ⟨w, S11, rfl, w0, w1, po11, f11⟩ := draw_use e1 po10 (by decide) (by decide)
              clear e1
              have hB11 := f11.at hB10 (by omega)
              repeat (first | simp only [hB10, hB11, if_pos z5, if_pos hlt] | walk_at "ev0")
              have f811 := (f9.trans f10).trans f11
              exact fin (.forr rw'.nm lo (lo + w - 1 + (if decide (lo = 0) = true then 1 else 0)) b1) (.forr h1 h2 lo0 (by omega) (by split <;> rename_i h <;> simp only [decide_eq_true_eq] at h <;> omega) (by split <;> rename_i h <;> simp only [decide_eq_true_eq] at h <;> omega) (by split <;> rename_i h <;> simp only [decide_eq_true_eq] at h <;> omega) lb1 hb1) S11 hB11 (f811.at hT8 (by omega)) (f811.at hP8 qp) po11 (ro8.fr f811 np) (f8.trans f811) _ (by rw [St.d]; rfl) _ _ _ _ _ _ _
            · repeat (first | simp only [decide_eq_false t13, decide_eq_false t14, decide_eq_false t15, hF, List.length_map, decide_eq_false hz] | walk_at "ev0")
              exact ⟨b, _, _, _, _, _, _, _, rfl, hB8, by omega, hbs, hT8, hP8, po8, ro8, f8⟩
          · repeat (first | simp only [decide_eq_true hdp, decide_eq_true h12, decide_eq_false h17] | walk_at "ev0")
            refine weak (R := fun _ => False) (fun _ h => h.elim) (Eq.mp ?_ flat)
            congr
        · repeat (first | simp only [decide_eq_true hdp, decide_eq_false h12] | walk_at "ev0")
          refine weak (R := fun _ => False) (fun _ h => h.elim) (Eq.mp ?_ flat)
          congr
      · repeat (first | simp only [decide_eq_false hdp] | walk_at "ev0")
        refine weak (R := fun _ => False) (fun _ h => h.elim) (Eq.mp ?_ flat)
        congr)
    clear e1
    rw [rng_len] at hbl
    have lb : (dB b).length ≤ sizeLine := by rw [dB_eq, List.length_map]; omega
    repeat (first | simp only [hB4, if_pos lb] | walk_at "ev0")
    exact ⟨b, S4, rfl, hbs, by omega, po4, f4⟩
end

/-! ### the statements of a block -/
def SIn (f : Nat) (B L : List D) : Prop := ∀ S : Sto, ∃ n S', h_statements_in f [.tup B] S = .ok (.obj n) S' ∧ S'[n]? = some (.lst L) ∧ Fr (fun _ => False) S S' ∧ S.length ≤ n
/-- a statement s, all whose statements are Ls -/
def StOk (f : Nat) (s : D) (Ls : List D) : Prop := ∃ bs : List (List D × List D), (∀ S : Sto, h_blocks_of [s] S = .ok (.obj S.length) (S ++ [.lst (bs.map fun b => .tup b.1)])) ∧ (∀ b ∈ bs, SIn f b.1 b.2) ∧ Ls = s :: bs.flatMap (·.2)
theorem app_ix {A : Sto} {x : Ob} {n : Nat} (h : n = A.length) : (A ++ [x])[n]? = some x := by subst h; exact Ev.appNew
theorem ext_lst {S : Sto} {n m : Nat} {xs ys : List D} (hn : S[n]? = some (.lst xs)) (hm : S[m]? = some (.lst ys)) (hl : xs.length + ys.length ≤ sizeLine) : mExtend (.obj n) [.obj m] S = .ok .non (S.set n (.lst (xs ++ ys))) := by
  show (match S[n]?, S[m]? with
    | some (.lst xs), some (.lst ys) => if xs.length + ys.length ≤ sizeLine then Res.ok D.non (S.set n (.lst (xs ++ ys))) else .bad
    | _, _ => .bad) = _
  rw [hn, hm]
  exact if_pos hl
theorem sin_block {f : Nat} {B : List (D × List D)} (h : ∀ b ∈ B, StOk f b.1 b.2) (hl : (B.flatMap (·.2)).length ≤ 1000) : SIn (f + 1) (B.map (·.1)) (B.flatMap (·.2)) := by
  intro S
  have sl := sizeLine_eq
  have part : ∀ i, ((B.take i).flatMap (·.2)).length ≤ (B.flatMap (·.2)).length := fun i => by
    have : B.flatMap (·.2) = (B.take i).flatMap (·.2) ++ (B.drop i).flatMap (·.2) := by rw [← List.flatMap_append, List.take_append_drop]
    rw [this, List.length_append]
    omega
  show ∃ n S', runD 1 4 (b_statements_in (h_statements_in f)) _ S = _ ∧ _
  walk_at "env"
  unfold b_statements_in
  have hL : (S ++ [Ob.lst []])[S.length]? = some (.lst []) := Ev.appNew
  have f0 : Fr (fun _ => False) S (S ++ [Ob.lst []]) := Fr.refl.add _
  repeat walk_at "ev0"
  generalize e : dLoop _ _ _ _ _ _ = r
  obtain ⟨ρ, S1, rfl, v2, v3, rfl, h1, f1⟩ := loop_idx_nx e (fun i ρ S1 => ∃ v2 v3 : Option D, ρ = [some (.tup (B.map (·.1))), some (.obj S.length), v2, v3] ∧ S1[S.length]? = some (.lst ((B.take i).flatMap (·.2))) ∧ Fr (fun _ => False) S S1) ⟨none, none, rfl, hL, f0⟩ (by
    rintro i d ρ S1 hd ⟨v2, v3, rfl, h1, f1⟩
    rw [List.getElem?_map] at hd
    obtain ⟨b, hb, rfl⟩ := Option.map_eq_some_iff.mp hd
    refine ⟨_, rfl, ?_⟩
    clear e hd
    obtain ⟨bs, g1, g2, g3⟩ := h b (List.mem_of_getElem? hb)
    have tk : (B.take (i + 1)).flatMap (·.2) = (B.take i).flatMap (·.2) ++ b.2 := by
      rw [List.take_add_one, hb, List.flatMap_append]
      simp
    have p1 := part (i + 1)
    rw [tk, List.length_append, g3, List.length_cons] at p1
    have l1 : ((B.take i).flatMap (·.2)).length < sizeLine := by omega
    repeat (first | simp only [h1, if_pos l1] | walk_at "ev0")
    have h2 := get_put (o' := .lst ((B.take i).flatMap (·.2) ++ [b.1])) h1
    have f2 := f1.set (n := S.length) (.lst ((B.take i).flatMap (·.2) ++ [b.1])) (fun z => absurd z (Nat.lt_irrefl _))
    generalize S1.set S.length (.lst ((B.take i).flatMap (·.2) ++ [b.1])) = S2 at *
    have ln := lt_of_get h2
    have g1 := g1 S2
    have hbk : (S2 ++ [Ob.lst (bs.map fun b => .tup b.1)])[S2.length]? = some (.lst (bs.map fun b => .tup b.1)) := Ev.appNew
    have f3 := f2.add (Ob.lst (bs.map fun b => .tup b.1))
    have h3 := (Fr.refl.add (X := fun _ => False) (Ob.lst (bs.map fun b => .tup b.1))).at h2 (fun z => z)
    repeat (first | simp only [g1] | walk_at "ev0")
    generalize S2 ++ [Ob.lst (bs.map fun b => .tup b.1)] = S3 at *
    have nB : S2.length ≠ S.length := by omega
    generalize S2.length = Bn at *
    repeat (first | simp only [hbk] | walk_at "ev0")
    generalize e : dLoop _ _ _ _ _ _ = r
    have part2 : ∀ i, ((bs.take i).flatMap (·.2)).length ≤ (bs.flatMap (·.2)).length := fun i => by
      have : bs.flatMap (·.2) = (bs.take i).flatMap (·.2) ++ (bs.drop i).flatMap (·.2) := by rw [← List.flatMap_append, List.take_append_drop]
      rw [this, List.length_append]
      omega
    obtain ⟨ρ, S4, rfl, v3', rfl, h4, hb4, f4⟩ := loop_idx_nx e (fun j ρ S4 => ∃ v3 : Option D, ρ = [some (.tup (B.map (·.1))), some (.obj S.length), some b.1, v3] ∧ S4[S.length]? = some (.lst ((B.take i).flatMap (·.2) ++ [b.1] ++ (bs.take j).flatMap (·.2))) ∧ S4[Bn]? = some (.lst (bs.map fun b => .tup b.1)) ∧ Fr (fun _ => False) S S4) ⟨v3, rfl, by rw [List.take_zero, List.flatMap_nil, List.append_nil]; exact h3, hbk, f3⟩ (by
      rintro j d ρ S4 hd ⟨v3, rfl, h4, hb4, f4⟩
      rw [List.getElem?_map] at hd
      obtain ⟨c, hc, rfl⟩ := Option.map_eq_some_iff.mp hd
      refine ⟨_, rfl, ?_⟩
      clear e hd
      obtain ⟨m, S5, e5, h5, f5, lm⟩ := g2 c (List.mem_of_getElem? hc) S4
      have h45 := f5.at h4 (fun z => z)
      have hb5 := f5.at hb4 (fun z => z)
      have tk2 : (bs.take (j + 1)).flatMap (·.2) = (bs.take j).flatMap (·.2) ++ c.2 := by
        rw [List.take_add_one, hc, List.flatMap_append]
        simp
      have p2 := part2 (j + 1)
      rw [tk2, List.length_append] at p2
      have ex := ext_lst h45 h5 (by rw [List.length_append, List.length_append, List.length_cons, List.length_nil]; omega)
      repeat (first | simp only [e5, h4, ex] | walk_at "ev0")
      refine ⟨lstOf_lst ((get_put_ne (Ne.symm nB)).trans hb5), _, rfl, ?_, (get_put_ne (Ne.symm nB)).trans hb5, (f4.trans f5).set _ fun z => absurd z (Nat.lt_irrefl _)⟩
      rw [h45, tk2, Option.map_some]
      simp only [List.append_assoc])
    clear e
    rw [List.length_map, List.take_length] at h4
    refine ⟨trivial, _, _, rfl, ?_, f4⟩
    rw [h4, tk, g3]
    simp only [List.append_assoc, List.cons_append, List.nil_append])
  clear e
  rw [List.length_map, List.take_length] at h1
  repeat walk_at "ev0"
  exact ⟨_, _, rfl, h1, f1, Nat.le_refl _⟩
/-! the statements that are drawn -/
def sS (x : String) : D := .str (Str.ofString x)
def callD (x : Str) : D := .tup [sS "call", .str x, .tup [], sS "v"]
def skipD : D := .tup [sS "skip"]
theorem blocks_no {x : Str} {r : List D} (h : lookS kd_BLOCK_PLACES x = none) (S : Sto) (h0 : dIx (.tup (.str x :: r)) (.int 0) S = .ok (.str x) S) : h_blocks_of [.tup (.str x :: r)] S = .ok (.obj S.length) (S ++ [.lst []]) := by
  have z0 : (0 : Nat) ≤ sizeLine := Nat.zero_le _
  unfold h_blocks_of
  walk_at "env"
  unfold b_blocks_of
  repeat (first | simp only [h0, h, if_pos z0] | walk_at "ev0")
  generalize e : cLoop _ _ _ _ _ _ _ = r1
  have hr : r1 = .ok [] S := by rw [← e]; rfl
  subst hr
  repeat (first | simp only [if_pos z0] | walk_at "ev0")
theorem blocks_if (c a b : D) (S : Sto) : h_blocks_of [.tup [sS "if", c, a, b]] S = .ok (.obj S.length) (S ++ [.lst [a, b]]) := by
  have hl : lookS kd_BLOCK_PLACES (Str.ofString "if") = some (.tup [.int 2, .int 3]) := by rfl
  have z2 : (2 : Nat) ≤ sizeLine := by rw [sizeLine_eq]; decide
  have z0 : (0 : Nat) ≤ sizeLine := Nat.zero_le _
  unfold h_blocks_of sS
  walk_at "env"
  unfold b_blocks_of
  repeat (first | simp only [hl, if_pos z0] | walk_at "ev0")
  generalize e : cLoop _ _ _ _ _ _ _ = r1
  have hr := cLoop_all (φ := fun p : Int => D.int p) (xs := [2, 3]) e trivial (fun p => if p = 2 then a else b) (fun p hp => by
    simp only [List.mem_cons, List.not_mem_nil, or_false] at hp
    rcases hp with rfl | rfl
    · exact ⟨_, rfl, rfl⟩
    · exact ⟨_, rfl, rfl⟩)
  have hr : r1 = .ok [a, b] S := hr
  clear e
  subst hr
  repeat (first | simp only [if_pos z2] | walk_at "ev0")
theorem blocks_rep (c a : D) (S : Sto) : h_blocks_of [.tup [sS "repeat", c, a]] S = .ok (.obj S.length) (S ++ [.lst [a]]) := by
  have hl : lookS kd_BLOCK_PLACES (Str.ofString "repeat") = some (.tup [.int 2]) := by rfl
  have z1 : (1 : Nat) ≤ sizeLine := by rw [sizeLine_eq]; decide
  have z0 : (0 : Nat) ≤ sizeLine := Nat.zero_le _
  unfold h_blocks_of sS
  walk_at "env"
  unfold b_blocks_of
  repeat (first | simp only [hl, if_pos z0] | walk_at "ev0")
  generalize e : cLoop _ _ _ _ _ _ _ = r1
  have hr := cLoop_all (φ := fun p : Int => D.int p) (xs := [2]) e trivial (fun p => a) (fun p hp => by
    rw [List.mem_singleton.mp hp]
    exact ⟨_, rfl, rfl⟩)
  have hr : r1 = .ok [a] S := hr
  clear e
  subst hr
  repeat (first | simp only [if_pos z1] | walk_at "ev0")
theorem blocks_wh (c d a : D) (S : Sto) : h_blocks_of [.tup [sS "while", c, d, a]] S = .ok (.obj S.length) (S ++ [.lst [a]]) := by
  have hl : lookS kd_BLOCK_PLACES (Str.ofString "while") = some (.tup [.int 3]) := by rfl
  have z1 : (1 : Nat) ≤ sizeLine := by rw [sizeLine_eq]; decide
  have z0 : (0 : Nat) ≤ sizeLine := Nat.zero_le _
  unfold h_blocks_of sS
  walk_at "env"
  unfold b_blocks_of
  repeat (first | simp only [hl, if_pos z0] | walk_at "ev0")
  generalize e : cLoop _ _ _ _ _ _ _ = r1
  have hr := cLoop_all (φ := fun p : Int => D.int p) (xs := [3]) e trivial (fun p => a) (fun p hp => by
    rw [List.mem_singleton.mp hp]
    exact ⟨_, rfl, rfl⟩)
  have hr : r1 = .ok [a] S := hr
  clear e
  subst hr
  repeat (first | simp only [if_pos z1] | walk_at "ev0")
theorem blocks_fo (v c d a : D) (S : Sto) : h_blocks_of [.tup [sS "for", v, c, d, a]] S = .ok (.obj S.length) (S ++ [.lst [a]]) := by
  have hl : lookS kd_BLOCK_PLACES (Str.ofString "for") = some (.tup [.int 4]) := by rfl
  have z1 : (1 : Nat) ≤ sizeLine := by rw [sizeLine_eq]; decide
  have z0 : (0 : Nat) ≤ sizeLine := Nat.zero_le _
  unfold h_blocks_of sS
  walk_at "env"
  unfold b_blocks_of
  repeat (first | simp only [hl, if_pos z0] | walk_at "ev0")
  generalize e : cLoop _ _ _ _ _ _ _ = r1
  have hr := cLoop_all (φ := fun p : Int => D.int p) (xs := [4]) e trivial (fun p => a) (fun p hp => by
    rw [List.mem_singleton.mp hp]
    exact ⟨_, rfl, rfl⟩)
  have hr : r1 = .ok [a] S := hr
  clear e
  subst hr
  repeat (first | simp only [if_pos z1] | walk_at "ev0")
theorem st_call (f : Nat) (x : Str) : StOk f (callD x) [callD x] := ⟨[], fun S => blocks_no (x := Str.ofString "call") (by rfl) S rfl, (fun _ h => by cases h), rfl⟩
theorem st_skip (f : Nat) : StOk f skipD [skipD] := ⟨[], fun S => blocks_no (x := Str.ofString "skip") (r := []) (by rfl) S rfl, (fun _ h => by cases h), rfl⟩
theorem sin_nil (f : Nat) : SIn (f + 1) [] [] := sin_block (B := []) (fun _ h => by cases h) (Nat.zero_le _)
theorem sin_call (f : Nat) (x : Str) : SIn (f + 1) [callD x] [callD x] := sin_block (B := [(callD x, [callD x])]) (fun b hb => by rw [List.mem_singleton.mp hb]; exact st_call f x) (by show 1 ≤ 1000; decide)
theorem sin_cs (f : Nat) (x : Str) : SIn (f + 1) [callD x, skipD] [callD x, skipD] := sin_block (B := [(callD x, [callD x]), (skipD, [skipD])]) (fun b hb => by
  simp only [List.mem_cons, List.not_mem_nil, or_false] at hb
  rcases hb with rfl | rfl
  · exact st_call f x
  · exact st_skip f) (by show 2 ≤ 1000; decide)
def ifD (x : Str) : D := .tup [sS "if", .tup [sS "false"], .tup [], .tup [callD x, skipD]]
def whD (x : Str) : D := .tup [sS "while", .tup [sS "true"], .int 0, .tup [callD x]]
def repD (x : Str) : D := .tup [sS "repeat", .int 0, .tup [whD x]]
def forD (x : Str) : D := .tup [sS "for", sS "v", .int 2, .int 1, .tup [callD x]]
theorem st_if (f : Nat) (x : Str) : StOk (f + 1) (ifD x) [ifD x, callD x, skipD] := ⟨[([], []), ([callD x, skipD], [callD x, skipD])], fun S => blocks_if _ _ _ S, (fun b hb => by
  simp only [List.mem_cons, List.not_mem_nil, or_false] at hb
  rcases hb with rfl | rfl
  · exact sin_nil f
  · exact sin_cs f x), rfl⟩
theorem st_wh (f : Nat) (x : Str) : StOk (f + 1) (whD x) [whD x, callD x] := ⟨[([callD x], [callD x])], fun S => blocks_wh _ _ _ S, (fun b hb => by
  rw [List.mem_singleton.mp hb]
  exact sin_call f x), rfl⟩
theorem st_rep (f : Nat) (x : Str) : StOk (f + 2) (repD x) [repD x, whD x, callD x] := ⟨[([whD x], [whD x, callD x])], fun S => blocks_rep _ _ S, (fun b hb => by
  rw [List.mem_singleton.mp hb]
  exact sin_block (f := f + 1) (B := [(whD x, [whD x, callD x])]) (fun b hb => by rw [List.mem_singleton.mp hb]; exact st_wh f x) (by show 2 ≤ 1000; decide)), rfl⟩
theorem st_for (f : Nat) (x : Str) : StOk (f + 1) (forD x) [forD x, callD x] := ⟨[([callD x], [callD x])], fun S => blocks_fo _ _ _ _ S, (fun b hb => by
  rw [List.mem_singleton.mp hb]
  exact sin_call f x), rfl⟩
/-- a drawn row that calls x: itself, and all its statements -/
inductive RowC (x : Str) : D → List D → Prop
  | c : RowC x (callD x) [callD x]
  | i : RowC x (ifD x) [ifD x, callD x, skipD]
  | r : RowC x (repD x) [repD x, whD x, callD x]
  | f : RowC x (forD x) [forD x, callD x]
theorem RowC.st {x : Str} {d : D} {L : List D} (h : RowC x d L) (f : Nat) : StOk (f + 2) d L := by
  cases h
  · exact st_call _ _
  · exact st_if _ _
  · exact st_rep _ _
  · exact st_for _ _

/-! ### sets of cells -/
def insT (kvs : List (Key × D)) (cs : List Str) : List (Key × D) := cs.foldl (fun kvs c => putD kvs (.inr c) (.bl true)) kvs
theorem insT_nil {kvs : List (Key × D)} : insT kvs [] = kvs := rfl
theorem insT_app {kvs : List (Key × D)} {as bs : List Str} : insT kvs (as ++ bs) = insT (insT kvs as) bs := List.foldl_append
theorem insT_one {kvs : List (Key × D)} {c : Str} : insT kvs [c] = putD kvs (.inr c) (.bl true) := rfl
theorem put_len {kvs : List (Key × D)} {k : Key} {d : D} : (putD kvs k d).length ≤ kvs.length + 1 := by
  unfold putD
  split
  · rw [List.length_map]; omega
  · rw [List.length_append, List.length_singleton]; omega
theorem insT_len : ∀ {cs : List Str} {kvs : List (Key × D)}, (insT kvs cs).length ≤ kvs.length + cs.length
  | [], kvs => Nat.le_refl _
  | c :: cs, kvs => by
    have h1 := put_len (kvs := kvs) (k := .inr c) (d := .bl true)
    have h2 : (insT (putD kvs (.inr c) (.bl true)) cs).length ≤ _ := insT_len
    show (insT (putD kvs (.inr c) (.bl true)) cs).length ≤ _
    rw [List.length_cons]
    omega
theorem keyStrs_any {kvs : List (Key × D)} {ks : List Str} (c : Str) (h : keyStrs kvs = some ks) : (kvs.any fun p => decide (p.1 = .inr c)) = decide (c ∈ ks) := by
  induction kvs generalizing ks with
  | nil => cases Option.some.inj h; rfl
  | cons p r ih =>
    obtain ⟨k, d⟩ := p
    cases k with
    | inl x => cases h
    | inr i =>
      have h : (keyStrs r).map (i :: ·) = some ks := h
      cases e2 : keyStrs r with
      | none => rw [e2] at h; cases h
      | some ms =>
        rw [e2] at h
        have e : i :: ms = ks := Option.some.inj h
        rw [← e, List.any_cons, ih e2]
        by_cases hc : i = c
        · subst hc; simp
        · have : ¬ ((Sum.inr i : Key) = Sum.inr c) := fun z => hc (Sum.inr.inj z)
          simp [this, Ne.symm hc]
theorem keyStrs_map {kvs : List (Key × D)} {ks : List Str} (c : Str) (d : D) (h : keyStrs kvs = some ks) : keyStrs (kvs.map fun p => if p.1 = .inr c then (p.1, d) else p) = some ks := by
  induction kvs generalizing ks with
  | nil => exact h
  | cons p r ih =>
    obtain ⟨k, d'⟩ := p
    cases k with
    | inl x => cases h
    | inr i =>
      have h : (keyStrs r).map (i :: ·) = some ks := h
      cases e2 : keyStrs r with
      | none => rw [e2] at h; cases h
      | some ms =>
        rw [e2] at h
        rw [List.map_cons]
        have e3 : ∃ d2, (if ((.inr i : Key), d').1 = .inr c then ((.inr i : Key), d) else (.inr i, d')) = ((.inr i : Key), d2) := by
          by_cases hc : (Sum.inr i : Key) = .inr c
          · exact ⟨d, if_pos hc⟩
          · exact ⟨d', if_neg hc⟩
        obtain ⟨d2, e3⟩ := e3
        have e3 : (if ((.inr i : Key), d').1 = .inr c then (((.inr i : Key), d').1, d) else ((.inr i : Key), d')) = ((.inr i : Key), d2) := e3
        rw [e3]
        show (keyStrs _).map (i :: ·) = some ks
        rw [ih e2]
        exact h
theorem keyStrs_snoc {kvs : List (Key × D)} {ks : List Str} (c : Str) (d : D) (h : keyStrs kvs = some ks) : keyStrs (kvs ++ [(.inr c, d)]) = some (ks ++ [c]) := by
  induction kvs generalizing ks with
  | nil => cases Option.some.inj h; rfl
  | cons p r ih =>
    obtain ⟨k, d'⟩ := p
    cases k with
    | inl x => cases h
    | inr i =>
      have h : (keyStrs r).map (i :: ·) = some ks := h
      cases e2 : keyStrs r with
      | none => rw [e2] at h; cases h
      | some ms =>
        rw [e2] at h
        have e : i :: ms = ks := Option.some.inj h
        show (keyStrs (r ++ [(.inr c, d)])).map (i :: ·) = _
        rw [ih e2, ← e]
        rfl
theorem keyStrs_put {kvs : List (Key × D)} {ks : List Str} (c : Str) (d : D) (h : keyStrs kvs = some ks) : keyStrs (putD kvs (.inr c) d) = some (if c ∈ ks then ks else ks ++ [c]) := by
  unfold putD
  rw [keyStrs_any c h]
  by_cases hc : c ∈ ks
  · rw [if_pos hc, if_pos (decide_eq_true hc)]
    exact keyStrs_map c d h
  · rw [if_neg hc, if_neg (by simpa using hc)]
    exact keyStrs_snoc c d h
theorem getD_strs {kvs : List (Key × D)} {ks : List Str} (c : Str) (h : keyStrs kvs = some ks) : (getD kvs (.inr c)).isSome = decide (c ∈ ks) := by
  rw [← keyStrs_any c h]
  unfold getD
  rw [Option.isSome_map, Bool.eq_iff_iff, List.find?_isSome, List.any_eq_true]
structure KT (kvs : List (Key × D)) (ks : List Str) : Prop where
  keys : keyStrs kvs = some ks
  nd : ks.Nodup
theorem KT.put {kvs : List (Key × D)} {ks : List Str} (h : KT kvs ks) (c : Str) : ∃ ks', KT (putD kvs (.inr c) (.bl true)) ks' ∧ ∀ x, x ∈ ks' ↔ x ∈ ks ∨ x = c := by
  refine ⟨_, ⟨keyStrs_put c _ h.keys, ?_⟩, ?_⟩
  · split
    · exact h.nd
    · rename_i hc
      rw [List.nodup_append]
      exact ⟨h.nd, by simp, fun a ha b hb e => hc (by rw [List.mem_singleton.mp hb] at e; rw [← e]; exact ha)⟩
  · intro x
    split
    · rename_i hc
      exact ⟨.inl, fun z => z.elim id fun e => e ▸ hc⟩
    · rw [List.mem_append, List.mem_singleton]
theorem KT.ins : ∀ {cs : List Str} {kvs : List (Key × D)} {ks : List Str}, KT kvs ks → ∃ ks', KT (insT kvs cs) ks' ∧ ∀ x, x ∈ ks' ↔ x ∈ ks ∨ x ∈ cs
  | [], kvs, ks, h => ⟨ks, h, fun x => by simp⟩
  | c :: cs, kvs, ks, h => by
    obtain ⟨k1, h1, e1⟩ := h.put c
    obtain ⟨k2, h2, e2⟩ := KT.ins (cs := cs) h1
    exact ⟨k2, h2, fun x => by rw [e2, e1, List.mem_cons, or_assoc]⟩
theorem nodup_le : ∀ {l m : List Str}, l.Nodup → (∀ x ∈ l, x ∈ m) → l.length ≤ m.length
  | [], m, _, _ => Nat.zero_le _
  | x :: l, m, h, s => by
    have hx := s x List.mem_cons_self
    have h2 := List.nodup_cons.mp h
    have := nodup_le (m := m.erase x) h2.2 fun y hy => by
      have : y ≠ x := fun e => h2.1 (e ▸ hy)
      exact (List.mem_erase_of_ne this).mpr (s y (List.mem_cons_of_mem _ hy))
    rw [List.length_erase_of_mem hx] at this
    have := List.length_pos_of_mem hx
    rw [List.length_cons]
    omega
theorem sortS_perm {a b : List Str} (h : a.Perm b) : sortS a = sortS b := by
  have tr : ∀ a b c : Str, leS a b = true → leS b c = true → leS a c = true := fun a b c h1 h2 => by
    rw [leS_iff] at *
    exact List.le_trans h1 h2
  have to : ∀ a b : Str, (leS a b || leS b a) = true := fun a b => by
    have := List.le_total a.cps.toList b.cps.toList
    rw [Bool.or_eq_true, leS_iff, leS_iff]
    exact this
  have s1 := List.pairwise_mergeSort tr to a
  have s2 := List.pairwise_mergeSort tr to b
  refine List.Perm.eq_of_pairwise (fun x y _ _ h1 h2 => ?_) s1 s2 (((List.mergeSort_perm a leS).trans h).trans (List.mergeSort_perm b leS).symm)
  rw [leS_iff] at h1 h2
  exact str_cps (List.le_antisymm h1 h2)
theorem perm_of {a b : List Str} (ha : a.Nodup) (hb : b.Nodup) (h : ∀ x, x ∈ a ↔ x ∈ b) : a.Perm b := (List.perm_ext_iff_of_nodup ha hb).mpr h


/-! ### the parts of a statement -/
def St.inner : St → List (List St)
  | .ifs _ t e => [t, e]
  | .rep _ b => [b]
  | .whl _ _ b => [b]
  | .forr _ _ _ b => [b]
  | _ => []
def St.tgt : St → Option Str
  | .set x _ => some x
  | .store x _ _ => some x
  | .flip x _ _ => some x
  | .unif x _ _ => some x
  | .pick x _ => some x
  | .forr x _ _ _ => some x
  | .call _ _ t => some t
  | _ => none
def St.exprs : St → List D
  | .set _ e => [e]
  | .store _ i e => [i, e]
  | .flip _ a b => [a, b]
  | .unif _ a b => [a, b]
  | .pick _ ps => ps.flatMap fun q => [q.1, q.2]
  | .obs e => [e]
  | .weigh a b => [a, b]
  | .asrt e => [e]
  | .ifs c _ _ => [c]
  | .whl c _ _ => [c]
  | .call _ as _ => as
  | _ => []
/-- a statement and all statements in its blocks, n deep -/
def allF : Nat → St → List St
  | 0, s => [s]
  | n + 1, s => s :: s.inner.flatMap fun b => b.flatMap (allF n)
def allB (n : Nat) (b : List St) : List St := b.flatMap (allF n)
def bnd : Nat → Nat
  | 0 => 1
  | n + 1 => 1 + 4 * bnd n
section
variable {rs : List NRow} {ps : List PRow}
theorem Sm.in0 {s : St} (h : Sm rs ps 0 s) : s.inner = [] := by cases h <;> rfl
theorem Sm.in1 {n : Nat} {s : St} (h : Sm rs ps (n + 1) s) : s.inner.length ≤ 2 ∧ ∀ b ∈ s.inner, b.length ≤ 2 ∧ ∀ x ∈ b, Sm rs ps n x := by
  cases h <;> refine ⟨by simp [St.inner], fun b hb => ?_⟩ <;> simp only [St.inner, List.mem_cons, List.not_mem_nil, or_false] at hb
  · rename_i lt le ht he
    rcases hb with rfl | rfl
    · exact ⟨lt, ht⟩
    · exact ⟨le, he⟩
  · subst hb; exact ⟨by assumption, by assumption⟩
  · subst hb; exact ⟨by assumption, by assumption⟩
  · subst hb; exact ⟨by assumption, by assumption⟩
theorem flat_le {α β : Type} {f : α → List β} {k : Nat} : ∀ {xs : List α}, (∀ x ∈ xs, (f x).length ≤ k) → (xs.flatMap f).length ≤ xs.length * k
  | [], _ => by simp
  | x :: xs, h => by
    have h1 := h x List.mem_cons_self
    have h2 := flat_le (xs := xs) fun y hy => h y (List.mem_cons_of_mem _ hy)
    rw [List.flatMap_cons, List.length_append, List.length_cons, Nat.add_mul, Nat.one_mul]
    omega
theorem Sm.len : ∀ {n : Nat} {s : St}, Sm rs ps n s → (allF n s).length ≤ bnd n
  | 0, s, _ => Nat.le_refl _
  | n + 1, s, h => by
    obtain ⟨h1, h2⟩ := h.in1
    have h3 : ∀ b ∈ s.inner, (allB n b).length ≤ 2 * bnd n := fun b hb => by
      have := flat_le (f := allF n) (k := bnd n) (xs := b) fun x hx => ((h2 b hb).2 x hx).len
      have l2 := (h2 b hb).1
      have := Nat.mul_le_mul_right (bnd n) l2
      unfold allB
      omega
    have h4 := flat_le h3
    have := Nat.mul_le_mul_right (2 * bnd n) h1
    show (s.inner.flatMap (allB n)).length + 1 ≤ 1 + 4 * bnd n
    omega
theorem allB_len {n : Nat} {b : List St} (h : ∀ s ∈ b, Sm rs ps n s) : (allB n b).length ≤ b.length * bnd n := flat_le fun s hs => (h s hs).len
theorem Sm.tg {n : Nat} {s : St} {x : Str} (h : Sm rs ps n s) (e : s.tgt = some x) : x ∈ rs.map (·.nm) := by
  have key : ∀ {r : NRow}, r ∈ rs → r.nm ∈ rs.map (·.nm) := fun h => List.mem_map.mpr ⟨_, h, rfl⟩
  cases h <;> simp only [St.tgt, Option.some.injEq, reduceCtorEq] at e
  all_goals first | (rw [← e]; exact key (by assumption)) | (cases e)
theorem allF_sm : ∀ {n : Nat} {s : St}, Sm rs ps n s → ∀ x ∈ allF n s, ∃ m, Sm rs ps m x
  | 0, s, h, x, hx => by rw [List.mem_singleton.mp hx]; exact ⟨0, h⟩
  | n + 1, s, h, x, hx => by
    rcases List.mem_cons.mp hx with rfl | hx
    · exact ⟨n + 1, h⟩
    · obtain ⟨b, hb, hx⟩ := List.mem_flatMap.mp hx
      obtain ⟨y, hy, hx⟩ := List.mem_flatMap.mp hx
      exact allF_sm ((h.in1.2 b hb).2 y hy) x hx
def tgs (n : Nat) (b : List St) : List Str := (allB n b).filterMap St.tgt
theorem tgs_in {n : Nat} {b : List St} (h : ∀ s ∈ b, Sm rs ps n s) : ∀ x ∈ tgs n b, x ∈ rs.map (·.nm) := by
  intro x hx
  obtain ⟨s, hs, e⟩ := List.mem_filterMap.mp hx
  obtain ⟨y, hy, hs⟩ := List.mem_flatMap.mp hs
  obtain ⟨m, hm⟩ := allF_sm (h y hy) s hs
  exact hm.tg e
end
theorem blocks_ok (s : St) (S : Sto) : h_blocks_of [s.d] S = .ok (.obj S.length) (S ++ [.lst (s.inner.map fun b => .tup (dB b))]) := by
  cases s <;> rw [St.d]
  all_goals first | exact blocks_no (by rfl) S rfl | exact blocks_if _ _ _ S | exact blocks_rep _ _ S | exact blocks_wh _ _ _ S | exact blocks_fo _ _ _ _ S
section
variable {rs : List NRow} {ps : List PRow}
theorem stok : ∀ (n f : Nat) (s : St), Sm rs ps n s → n ≤ 4 → n ≤ f → StOk f s.d ((allF n s).map St.d)
  | 0, f, s, h, _, _ => ⟨[], fun S => by rw [blocks_ok, h.in0]; rfl, (fun _ h => by cases h), rfl⟩
  | n + 1, 0, s, _, _, h => absurd h (Nat.not_succ_le_zero _)
  | n + 1, f + 1, s, h, h4, hf => by
    have hb : ∀ k, k ≤ 4 → bnd k ≤ 341 := fun k hk => by
      have : k = 0 ∨ k = 1 ∨ k = 2 ∨ k = 3 ∨ k = 4 := by omega
      rcases this with rfl | rfl | rfl | rfl | rfl <;> decide
    refine ⟨s.inner.map fun b => (dB b, (allB n b).map St.d), fun S => ?_, fun b hb' => ?_, ?_⟩
    · rw [blocks_ok, List.map_map]
      rfl
    · obtain ⟨x, hx, rfl⟩ := List.mem_map.mp hb'
      obtain ⟨l2, hs⟩ := h.in1.2 x hx
      have sb := sin_block (f := f) (B := x.map fun s => (s.d, (allF n s).map St.d)) (fun b hb => by
        obtain ⟨y, hy, rfl⟩ := List.mem_map.mp hb
        exact stok n f y (hs y hy) (by omega) (by omega)) (by
          rw [List.flatMap_map]
          have := flat_le (f := fun a => List.map St.d (allF n a)) (k := bnd n) (xs := x) fun y hy => by rw [List.length_map]; exact (hs y hy).len
          have := Nat.mul_le_mul_right (bnd n) l2
          have := hb n (by omega)
          show (List.flatMap (fun a => List.map St.d (allF n a)) x).length ≤ 1000
          omega)
      rw [List.map_map, List.flatMap_map] at sb
      have e1 : x.map (Prod.fst ∘ fun s => (s.d, (allF n s).map St.d)) = dB x := by rw [dB_eq]; rfl
      have e2 : List.flatMap (fun a => ((fun s : St => (s.d, (allF n s).map St.d)) a).2) x = (allB n x).map St.d := by
        unfold allB
        rw [List.map_flatMap]
      rw [e1, e2] at sb
      exact sb
    · show (s :: s.inner.flatMap (allB n)).map St.d = _
      rw [List.map_cons, List.map_flatMap, List.flatMap_map]
theorem sin_all {n f : Nat} {b : List St} (h : ∀ s ∈ b, Sm rs ps n s) (hn : n ≤ 4) (hf : n ≤ f) (hl : b.length * bnd n ≤ 1000) : SIn (f + 1) (dB b) ((allB n b).map St.d) := by
  have sb := sin_block (f := f) (B := b.map fun s => (s.d, (allF n s).map St.d)) (fun x hx => by
    obtain ⟨y, hy, rfl⟩ := List.mem_map.mp hx
    exact stok n f y (h y hy) hn hf) (by
      rw [List.flatMap_map]
      have := flat_le (f := fun a => List.map St.d (allF n a)) (k := bnd n) (xs := b) fun y hy => by rw [List.length_map]; exact (h y hy).len
      show (List.flatMap (fun a => List.map St.d (allF n a)) b).length ≤ 1000
      omega)
  rw [List.map_map, List.flatMap_map] at sb
  have e1 : b.map (Prod.fst ∘ fun s => (s.d, (allF n s).map St.d)) = dB b := by rw [dB_eq]; rfl
  have e2 : List.flatMap (fun a => ((fun s : St => (s.d, (allF n s).map St.d)) a).2) b = (allB n b).map St.d := by
    unfold allB
    rw [List.map_flatMap]
  rw [e1, e2] at sb
  exact sb
end
theorem has_target_ok (s : St) (S : Sto) : h_has_target [s.d] S = .ok (.bl s.tgt.isSome) S := by
  cases s <;> rw [St.d] <;> rfl
theorem target_of_ok {s : St} {x : Str} (h : s.tgt = some x) (S : Sto) : h_target_of [s.d] S = .ok (.str x) S := by
  cases s <;> simp only [St.tgt, Option.some.injEq, reduceCtorEq] at h <;> rw [St.d] <;> subst h <;> rfl
theorem filt_tgt : ∀ A : List St, (A.filter fun s => s.tgt.isSome).map (fun s => D.str (s.tgt.getD Str.empty)) = (A.filterMap St.tgt).map D.str
  | [] => rfl
  | s :: A => by
    cases h : s.tgt with
    | none => rw [List.filter_cons_of_neg (by rw [h]; decide), List.filterMap_cons_none h, filt_tgt A]
    | some x => rw [List.filter_cons_of_pos (by rw [h]; rfl), List.filterMap_cons_some h, List.map_cons, List.map_cons, filt_tgt A, h]; rfl
section
variable {rs : List NRow} {ps : List PRow}
theorem targets_ok {n : Nat} {b : List St} (h : ∀ s ∈ b, Sm rs ps n s) (hrs : rs.length ≤ 8) (hn : n ≤ 4) (hl : b.length * bnd n ≤ 999) (S : Sto) :
    ∃ m S', h_targets_of [.tup (dB b)] S = .ok (.obj m) S' ∧ S'[m]? = some (.lst ((sortS (dedT (tgs n b))).map D.str)) ∧ Fr (fun _ => False) S S' ∧ S.length ≤ m := by
  have sl := sizeLine_eq
  have al := allB_len h
  obtain ⟨a, S1, e1, h1, f1, la⟩ := sin_all (f := 5) h hn (by omega) (by omega) S
  unfold h_targets_of
  walk_at "env"
  unfold b_targets_of
  repeat (first | simp only [e1, h1] | walk_at "ev0")
  generalize e3 : cLoop _ _ _ _ _ _ _ = r
  have hr := cLoop_map (φ := St.d) e3 (lstOf_lst h1) (fun s => s.tgt.isSome) (fun s => D.str (s.tgt.getD Str.empty)) (fun s _ => by
    refine ⟨_, rfl, ?_, fun hv => ?_⟩
    · repeat (first | simp only [has_target_ok] | walk_at "ev0")
    · obtain ⟨x, hx⟩ := Option.isSome_iff_exists.mp hv
      repeat (first | simp only [target_of_ok hx] | walk_at "ev0")
      rw [hx]
      rfl)
  clear e3
  subst hr
  rw [filt_tgt]
  have l1 : (tgs n b).length < 1000 := by
    have : (tgs n b).length ≤ (allB n b).length := List.length_filterMap_le _ _
    omega
  have l2 : (dedT (tgs n b)).length < 64 := by
    have := nodup_le (dedT_nodup (tgs n b)) (m := rs.map (·.nm)) fun x hx => tgs_in h x (((dedT_mem (tgs n b)).mp hx))
    rw [List.length_map] at this
    omega
  show ∃ m S', endR (bindR retK _ (sEndT (Res.ok ((tgs n b).map D.str) S1))) = .ok (.obj m) S' ∧ _
  have es : dSetST ((tgs n b).map D.str) S1 = mkLst ((sortS (dedT (tgs n b))).map D.str) S1 := by
    unfold dSetST
    rw [asStrs_strs]
    exact if_pos ⟨l1, l2⟩
  have l3 : ((sortS (dedT (tgs n b))).map D.str).length ≤ sizeLine := by
    rw [List.length_map]
    unfold sortS
    rw [List.length_mergeSort]
    omega
  have l4 : (sortS (dedT (tgs n b))).length ≤ sizeLine := by rw [List.length_map] at l3; exact l3
  repeat (first | simp only [es, if_pos l3, if_pos l4] | walk_at "ev0")
  exact ⟨_, _, rfl, Ev.appNew, f1.add _, f1.len⟩
end

/-! ### the law's own parts -/
theorem Ex.tup {rs : List NRow} {k : Bool} {n : Nat} {d : D} (h : Ex rs k n d) : ∃ x xs, d = .tup (.str x :: xs) := by
  cases h <;> exact ⟨_, _, rfl⟩
theorem Ex.same {rs : List NRow} {k : Bool} {n : Nat} {d : D} (h : Ex rs k n d) (S : Sto) : ∀ f, n + 2 ≤ f → h_law_same f [d, d] S = .ok (.bl true) S := by
  have sl := sizeLine_eq
  have st : ∀ (f : Nat) (xs : List D), xs.length ≤ 4 → (∀ d ∈ xs, h_law_same f [d, d] S = .ok (.bl true) S) → h_law_same (f + 1) [.tup xs, .tup xs] S = .ok (.bl true) S := fun f xs hl h => same_tup f (by omega) rfl fun i a d h1 h2 => by
    rw [h1] at h2
    obtain rfl := Option.some.inj h2
    exact h _ (List.mem_of_getElem? h1)
  induction h with
  | var h e =>
    intro f hf
    obtain ⟨g, rfl⟩ : ∃ g, f = g + 2 := ⟨f - 2, by omega⟩
    refine st _ _ (by simp) fun d hd => ?_
    simp only [List.mem_cons, List.not_mem_nil, or_false] at hd
    rcases hd with rfl | rfl
    · exact same_str _ _ _
    · exact same_str _ _ _
  | num h0 h1 =>
    intro f hf
    obtain ⟨g, rfl⟩ : ∃ g, f = g + 2 := ⟨f - 2, by omega⟩
    refine st _ _ (by simp) fun d hd => ?_
    simp only [List.mem_cons, List.not_mem_nil, or_false] at hd
    rcases hd with rfl | rfl
    · exact same_str _ _ _
    · exact same_int _ _ _
  | tt  =>
    intro f hf
    obtain ⟨g, rfl⟩ : ∃ g, f = g + 2 := ⟨f - 2, by omega⟩
    refine st _ _ (by simp) fun d hd => ?_
    simp only [List.mem_cons, List.not_mem_nil, or_false] at hd
    subst hd
    exact same_str _ _ _
  | ff  =>
    intro f hf
    obtain ⟨g, rfl⟩ : ∃ g, f = g + 2 := ⟨f - 2, by omega⟩
    refine st _ _ (by simp) fun d hd => ?_
    simp only [List.mem_cons, List.not_mem_nil, or_false] at hd
    subst hd
    exact same_str _ _ _
  | cond _ _ _ i1 i2 i3 =>
    intro f hf
    obtain ⟨g, rfl⟩ : ∃ g, f = g + 2 := ⟨f - 2, by omega⟩
    refine st _ _ (by simp) fun d hd => ?_
    simp only [List.mem_cons, List.not_mem_nil, or_false] at hd
    rcases hd with rfl | rfl | rfl | rfl
    · exact same_str _ _ _
    · exact i1 _ (by omega)
    · exact i2 _ (by omega)
    · exact i3 _ (by omega)
  | neg _ i1 =>
    intro f hf
    obtain ⟨g, rfl⟩ : ∃ g, f = g + 2 := ⟨f - 2, by omega⟩
    refine st _ _ (by simp) fun d hd => ?_
    simp only [List.mem_cons, List.not_mem_nil, or_false] at hd
    rcases hd with rfl | rfl
    · exact same_str _ _ _
    · exact i1 _ (by omega)
  | not _ i1 =>
    intro f hf
    obtain ⟨g, rfl⟩ : ∃ g, f = g + 2 := ⟨f - 2, by omega⟩
    refine st _ _ (by simp) fun d hd => ?_
    simp only [List.mem_cons, List.not_mem_nil, or_false] at hd
    rcases hd with rfl | rfl
    · exact same_str _ _ _
    · exact i1 _ (by omega)
  | item _ _ _ i1 =>
    intro f hf
    obtain ⟨g, rfl⟩ : ∃ g, f = g + 2 := ⟨f - 2, by omega⟩
    refine st _ _ (by simp) fun d hd => ?_
    simp only [List.mem_cons, List.not_mem_nil, or_false] at hd
    rcases hd with rfl | rfl | rfl
    · exact same_str _ _ _
    · exact same_str _ _ _
    · exact i1 _ (by omega)
  | opI _ _ _ i1 i2 =>
    intro f hf
    obtain ⟨g, rfl⟩ : ∃ g, f = g + 2 := ⟨f - 2, by omega⟩
    refine st _ _ (by simp) fun d hd => ?_
    simp only [List.mem_cons, List.not_mem_nil, or_false] at hd
    rcases hd with rfl | rfl | rfl
    · exact same_str _ _ _
    · exact i1 _ (by omega)
    · exact i2 _ (by omega)
  | opC _ _ _ i1 i2 =>
    intro f hf
    obtain ⟨g, rfl⟩ : ∃ g, f = g + 2 := ⟨f - 2, by omega⟩
    refine st _ _ (by simp) fun d hd => ?_
    simp only [List.mem_cons, List.not_mem_nil, or_false] at hd
    rcases hd with rfl | rfl | rfl
    · exact same_str _ _ _
    · exact i1 _ (by omega)
    · exact i2 _ (by omega)
  | opB _ _ _ i1 i2 =>
    intro f hf
    obtain ⟨g, rfl⟩ : ∃ g, f = g + 2 := ⟨f - 2, by omega⟩
    refine st _ _ (by simp) fun d hd => ?_
    simp only [List.mem_cons, List.not_mem_nil, or_false] at hd
    rcases hd with rfl | rfl | rfl
    · exact same_str _ _ _
    · exact i1 _ (by omega)
    · exact i2 _ (by omega)
/-- its expressions are at most three operators deep -/
theorem Sm.ex {rs : List NRow} {ps : List PRow} {n : Nat} {s : St} (hpa : ∀ x ∈ ps, x.args.length ≤ 8) (h : Sm rs ps n s) : s.exprs.length ≤ 8 ∧ ∀ d ∈ s.exprs, ∃ k, Ex rs k 3 d := by
  cases h <;> refine ⟨?_, fun d hd => ?_⟩ <;> simp only [St.exprs, List.length_cons, List.length_nil] at *
  all_goals first | omega | skip
  all_goals first | (cases hd; done) | skip
  · rw [List.mem_singleton.mp hd]; exact ⟨_, Ex.up (by assumption) (by decide)⟩
  · simp only [List.mem_cons, List.not_mem_nil, or_false] at hd; rcases hd with rfl | rfl <;> exact ⟨_, Ex.up (by assumption) (by decide)⟩
  · simp only [List.mem_cons, List.not_mem_nil, or_false] at hd; rcases hd with rfl | rfl <;> exact ⟨_, Ex.up (by assumption) (by decide)⟩
  · simp only [List.mem_cons, List.not_mem_nil, or_false] at hd; rcases hd with rfl | rfl <;> exact ⟨_, Ex.up (by assumption) (by decide)⟩
  · rename_i l1 l3 hq
    have := flat_le (f := fun q : D × D => [q.1, q.2]) (k := 2) (xs := by assumption) fun _ _ => Nat.le_refl _
    omega
  · rename_i l1 l3 hq
    obtain ⟨q, hq', hd⟩ := List.mem_flatMap.mp hd
    obtain ⟨h1, h2⟩ := hq q hq'
    simp only [List.mem_cons, List.not_mem_nil, or_false] at hd
    rcases hd with rfl | rfl
    · exact ⟨_, h1.up (by decide)⟩
    · exact ⟨_, h2.up (by decide)⟩
  · rw [List.mem_singleton.mp hd]; exact ⟨_, Ex.up (by assumption) (by decide)⟩
  · simp only [List.mem_cons, List.not_mem_nil, or_false] at hd; rcases hd with rfl | rfl <;> exact ⟨_, Ex.up (by assumption) (by decide)⟩
  · rw [List.mem_singleton.mp hd]; exact ⟨_, Ex.up (by assumption) (by decide)⟩
  · rw [List.mem_singleton.mp hd]; exact ⟨_, Ex.up (by assumption) (by decide)⟩
  · rw [List.mem_singleton.mp hd]; exact ⟨_, Ex.up (by assumption) (by decide)⟩
  · rename_i p r as hp hr hk la ha
    rw [la]
    exact hpa p hp
  · rename_i p r as hp hr hk la ha
    obtain ⟨i, hi, rfl⟩ := List.mem_iff_getElem.mp hd
    exact ⟨p.args[i]'(by omega), (ha i _ _ (List.getElem?_eq_getElem (by omega)) (List.getElem?_eq_getElem hi)).up (by decide)⟩
theorem isi_tt (xs : List D) (S : Sto) : (Ev.isiR S ((tyOf (.tup xs) S).bind fun t => kitB t "tuple")) = .ok (.bl true) S := rfl
theorem isi_ss (x : Str) (S : Sto) : (Ev.isiR S ((tyOf (.str x) S).bind fun t => kitB t "tuple")) = .ok (.bl false) S := rfl
/-- a list display of the places of a statement -/
theorem exprs_at {x : Str} {r : List D} {ks : List Int} {vs : List D} (S : Sto) (h0 : ¬ x = Str.ofString "pick") (h1 : ¬ x = Str.ofString "call") (hk : lookS kd_EXPRESSION_PLACES x = some (.tup (ks.map D.int)) ∨ (lookS kd_EXPRESSION_PLACES x = none ∧ ks = [])) (hl : vs.length ≤ 8) (hv : ∃ f : Int → D, vs = ks.map f ∧ ∀ k ∈ ks, atI (.str x :: r) k = some (f k)) (hx : dIx (.tup (.str x :: r)) (.int 0) S = .ok (.str x) S) :
    h_expressions_of [.tup (.str x :: r)] S = .ok (.obj S.length) (S ++ [.lst vs]) := by
  have sl := sizeLine_eq
  have z0 : (0 : Nat) ≤ sizeLine := Nat.zero_le _
  have zl : vs.length ≤ sizeLine := by omega
  obtain ⟨f, rfl, hf⟩ := hv
  unfold h_expressions_of
  walk_at "env"
  unfold b_expressions_of
  have tail : ∀ (r0 : Res D), r0 = .ok (.tup (ks.map D.int)) S → endR (bindR retK [some (D.tup (D.str x :: r)), some (D.str x), none, none, none] ((r0.bind toWalkT).bind (dComp1 (tgN 2) (fun _ S => Res.ok true S) (eOp dIx (eV 0) (eV 2)) (wipeE [some (D.tup (D.str x :: r)), some (D.str x), none, none, none] [2])))) = .ok (.obj S.length) (S ++ [.lst (ks.map f)]) := by
    rintro r0 rfl
    repeat walk_at "ev0"
    generalize e : cLoop _ _ _ _ _ _ _ = r1
    have hr := cLoop_all (φ := fun p : Int => D.int p) (xs := ks) e trivial f (fun p hp => ⟨_, rfl, by repeat (first | simp only [hf p hp] | walk_at "ev0")⟩)
    clear e
    subst hr
    have zl2 : ks.length ≤ sizeLine := by rw [List.length_map] at zl; exact zl
    repeat (first | simp only [if_pos zl, if_pos zl2, List.length_map] | walk_at "ev0")
  rcases hk with hk | ⟨hk, rfl⟩
  · repeat (first | simp only [hx, decide_eq_false h0, decide_eq_false h1, hk, if_pos z0] | walk_at "ev0")
    exact tail _ rfl
  · repeat (first | simp only [hx, decide_eq_false h0, decide_eq_false h1, hk, if_pos z0] | walk_at "ev0")
    exact tail _ rfl

theorem cut1_cons {α : Type} (x : α) (xs : List α) : cutL (x :: xs) (some 1) none = xs := by
  unfold cutL
  have h1 : HT.sIx (x :: xs).length 0 (some 1) = 1 := by
    rw [show (1 : Int) = ((1 : Nat) : Int) from rfl, HT.sIx_nat]
    simp
  have h2 : HT.sIx (x :: xs).length (x :: xs).length none = (x :: xs).length := rfl
  rw [h1, h2]
  simp

theorem exprs_ok (s : St) (hl : s.exprs.length ≤ 8) (S : Sto) : h_expressions_of [s.d] S = .ok (.obj S.length) (S ++ [.lst s.exprs]) := by
  have sl := sizeLine_eq
  have n1 : ∀ x : String, Str.ofString x ≠ Str.ofString "pick" → Str.ofString x ≠ Str.ofString "call" → True := fun _ _ _ => trivial
  have zl : s.exprs.length ≤ sizeLine := by omega
  cases s with
  | skip => rw [St.d]; exact exprs_at (ks := []) S (by decide) (by decide) (.inr ⟨by rfl, rfl⟩) hl ⟨fun _ => .non, rfl, fun _ h => by cases h⟩ rfl
  | fail => rw [St.d]; exact exprs_at (ks := []) S (by decide) (by decide) (.inr ⟨by rfl, rfl⟩) hl ⟨fun _ => .non, rfl, fun _ h => by cases h⟩ rfl
  | set x e => rw [St.d]; exact exprs_at (ks := [2]) S (by decide) (by decide) (.inl (by rfl)) hl ⟨fun _ => e, rfl, fun k h => by rw [List.mem_singleton.mp h]; rfl⟩ rfl
  | store x i e => rw [St.d]; exact exprs_at (ks := [2, 3]) S (by decide) (by decide) (.inl (by rfl)) hl ⟨fun k => if k = 2 then i else e, rfl, fun k h => by
      simp only [List.mem_cons, List.not_mem_nil, or_false] at h
      rcases h with rfl | rfl <;> rfl⟩ rfl
  | flip x i e => rw [St.d]; exact exprs_at (ks := [2, 3]) S (by decide) (by decide) (.inl (by rfl)) hl ⟨fun k => if k = 2 then i else e, rfl, fun k h => by
      simp only [List.mem_cons, List.not_mem_nil, or_false] at h
      rcases h with rfl | rfl <;> rfl⟩ rfl
  | unif x i e => rw [St.d]; exact exprs_at (ks := [2, 3]) S (by decide) (by decide) (.inl (by rfl)) hl ⟨fun k => if k = 2 then i else e, rfl, fun k h => by
      simp only [List.mem_cons, List.not_mem_nil, or_false] at h
      rcases h with rfl | rfl <;> rfl⟩ rfl
  | obs e => rw [St.d]; exact exprs_at (ks := [1]) S (by decide) (by decide) (.inl (by rfl)) hl ⟨fun _ => e, rfl, fun k h => by rw [List.mem_singleton.mp h]; rfl⟩ rfl
  | weigh i e => rw [St.d]; exact exprs_at (ks := [1, 2]) S (by decide) (by decide) (.inl (by rfl)) hl ⟨fun k => if k = 1 then i else e, rfl, fun k h => by
      simp only [List.mem_cons, List.not_mem_nil, or_false] at h
      rcases h with rfl | rfl <;> rfl⟩ rfl
  | asrt e => rw [St.d]; exact exprs_at (ks := [1]) S (by decide) (by decide) (.inl (by rfl)) hl ⟨fun _ => e, rfl, fun k h => by rw [List.mem_singleton.mp h]; rfl⟩ rfl
  | ifs c t e => rw [St.d]; exact exprs_at (ks := [1]) S (by decide) (by decide) (.inl (by rfl)) hl ⟨fun _ => c, rfl, fun k h => by rw [List.mem_singleton.mp h]; rfl⟩ rfl
  | rep n b => rw [St.d]; exact exprs_at (ks := []) S (by decide) (by decide) (.inr ⟨by rfl, rfl⟩) hl ⟨fun _ => .non, rfl, fun _ h => by cases h⟩ rfl
  | whl c n b => rw [St.d]; exact exprs_at (ks := [1]) S (by decide) (by decide) (.inl (by rfl)) hl ⟨fun _ => c, rfl, fun k h => by rw [List.mem_singleton.mp h]; rfl⟩ rfl
  | forr x lo hi b => rw [St.d]; exact exprs_at (ks := []) S (by decide) (by decide) (.inr ⟨by rfl, rfl⟩) hl ⟨fun _ => .non, rfl, fun _ h => by cases h⟩ rfl
  | call p as t =>
    have zl : as.length ≤ sizeLine := zl
    rw [St.d]
    unfold h_expressions_of tg0
    walk_at "env"
    unfold b_expressions_of
    repeat (first | simp only [if_pos zl] | walk_at "ev0")
    rfl
  | pick x qs =>
    rw [St.d]
    unfold h_expressions_of tg0
    walk_at "env"
    unfold b_expressions_of
    repeat walk_at "ev0"
    generalize e : cLoop2 _ _ _ _ _ _ _ = r1
    have hr := cLoop2_all (φ := fun q : D × D => D.tup [q.1, q.2]) (xs := qs) e trivial (fun q => [q.1, q.2]) (fun q hq => by
      refine ⟨_, rfl, ?_⟩
      clear e
      repeat walk_at "ev0"
      generalize e : cLoop _ _ _ _ _ _ _ = r1
      have hr := cLoop_all (φ := fun d : D => d) (xs := [q.1, q.2]) e trivial (fun d => d) (fun d hd => ⟨_, rfl, by repeat walk_at "ev0"⟩)
      exact hr)
    clear e
    subst hr
    have zl' : (qs.flatMap fun q => [q.1, q.2]).length ≤ sizeLine := zl
    repeat (first | simp only [if_pos zl'] | walk_at "ev0")
    rfl
def isT : D → Bool
  | .tup _ => true
  | _ => false
/-- what is in a row behind its tag and names -/
theorem trees_at {x : Str} {r vs : List D} (S : Sto) (h0 : ¬ x = Str.ofString "pick") (h1 : ¬ x = Str.ofString "call") (h2 : x ∉ ["skip", "fail", "repeat", "for", "if", "while"].map Str.ofString) (hp : ∀ d ∈ r, (∃ y, d = .str y) ∨ ∃ xs, d = .tup xs) (hv : r.filter isT = vs) (hl : vs.length ≤ 8) (hx : dIx (.tup (.str x :: r)) (.int 0) S = .ok (.str x) S) :
    h_law_trees [.tup (.str x :: r)] S = .ok (.obj S.length) (S ++ [.lst vs]) := by
  have sl := sizeLine_eq
  have zl : vs.length ≤ sizeLine := by omega
  simp only [List.map_cons, List.map_nil, List.mem_cons, List.not_mem_nil, or_false, not_or] at h2
  obtain ⟨a1, a2, a3, a4, a5, a6⟩ := h2
  have hin : decide (x ∈ [Str.ofString "skip", Str.ofString "fail", Str.ofString "repeat", Str.ofString "for"]) = false := decide_eq_false (by simp [a1, a2, a3, a4])
  unfold h_law_trees
  walk_at "env"
  unfold b_law_trees
  repeat (first | simp only [hx, decide_eq_false h0, decide_eq_false h1, hin, decide_eq_false a5, decide_eq_false a6] | walk_at "ev0")
  rw [cut1_cons]
  generalize e : cLoop _ _ _ _ _ _ _ = r1
  have hr : ∀ L : List D, L = r.map (fun d => d) → cLoop (fun _ => True) (tgN 4) (eT (eCall dIsi (eCons (eV 4) (eCons (eC (D.ty "tuple")) eNil)))) (eV 4) [some (D.tup (D.str x :: r)), some (D.str x), none, none, none] L S = r1 → r1 = .ok ((r.filter isT).map fun d => d) S := by
    intro L hL e
    subst hL
    refine cLoop_map e trivial isT (fun d => d) fun d hd => ?_
    refine ⟨_, rfl, ?_, fun _ => by repeat walk_at "ev0"⟩
    rcases hp d hd with ⟨y, rfl⟩ | ⟨xs, rfl⟩
    · repeat (first | simp only [isi_ss] | walk_at "ev0")
      rfl
    · repeat (first | simp only [isi_tt] | walk_at "ev0")
      rfl
  have hr := hr r (List.map_id' r).symm e
  clear e
  rw [hv, List.map_id'] at hr
  subst hr
  repeat (first | simp only [if_pos zl] | walk_at "ev0")

theorem trees_ok (s : St) (hl : s.exprs.length ≤ 8) (ht : ∀ d ∈ s.exprs, ∃ xs, d = .tup xs) (S : Sto) : ∃ n S', h_law_trees [s.d] S = .ok (.obj n) S' ∧ S'[n]? = some (.lst s.exprs) ∧ Fr (fun _ => False) S S' := by
  have sl := sizeLine_eq
  have z0 : (0 : Nat) ≤ sizeLine := Nat.zero_le _
  have z1 : (1 : Nat) ≤ sizeLine := by omega
  have z2 : (2 : Nat) ≤ sizeLine := by omega
  have fin : h_law_trees [s.d] S = .ok (.obj S.length) (S ++ [.lst s.exprs]) → ∃ n S', h_law_trees [s.d] S = .ok (.obj n) S' ∧ S'[n]? = some (.lst s.exprs) ∧ Fr (fun _ => False) S S' := fun h => ⟨_, _, h, Ev.appNew, Fr.refl.add _⟩
  have isT2 : ∀ {a : D}, (∃ xs, a = .tup xs) → isT a = true := fun ⟨xs, e⟩ => by rw [e]; rfl
  have iS : ∀ y : Str, isT (.str y) = false := fun _ => rfl
  cases s with
  | skip => exact fin (by rw [St.d]; unfold h_law_trees tg0; walk_at "env"; unfold b_law_trees; repeat (first | simp only [if_pos z0] | walk_at "ev0")
                          first | done | rfl)
  | fail => exact fin (by rw [St.d]; unfold h_law_trees tg0; walk_at "env"; unfold b_law_trees; repeat (first | simp only [if_pos z0] | walk_at "ev0")
                          first | done | rfl)
  | rep n b => exact fin (by rw [St.d]; unfold h_law_trees tg0; walk_at "env"; unfold b_law_trees; repeat (first | simp only [if_pos z0] | walk_at "ev0")
                             first | done | rfl)
  | forr x lo hi b => exact fin (by rw [St.d]; unfold h_law_trees tg0; walk_at "env"; unfold b_law_trees; repeat (first | simp only [if_pos z0] | walk_at "ev0")
                                    first | done | rfl)
  | ifs c t e => exact fin (by rw [St.d]; unfold h_law_trees tg0; walk_at "env"; unfold b_law_trees; repeat (first | simp only [if_pos z1] | walk_at "ev0")
                               first | done | rfl)
  | whl c n b => exact fin (by rw [St.d]; unfold h_law_trees tg0; walk_at "env"; unfold b_law_trees; repeat (first | simp only [if_pos z1] | walk_at "ev0")
                               first | done | rfl)
  | call p as t =>
    have zl : as.length ≤ sizeLine := by have : as.length ≤ 8 := hl; omega
    exact fin (by rw [St.d]; unfold h_law_trees tg0; walk_at "env"; unfold b_law_trees; repeat (first | simp only [if_pos zl] | walk_at "ev0")
                  first | done | rfl)
  | set x e =>
    have h1 := isT2 (ht e (by simp [St.exprs]))
    obtain ⟨xs, he⟩ := ht e (by simp [St.exprs])
    exact fin (by
      rw [St.d]
      exact trees_at S (by decide) (by decide) (by decide +kernel) (fun d hd => by
        simp only [List.mem_cons, List.not_mem_nil, or_false] at hd
        rcases hd with rfl | rfl
        · exact .inl ⟨_, rfl⟩
        · exact .inr ⟨xs, he⟩) (by simp [h1, iS, St.exprs]) hl rfl)
  | store x a b =>
    have h1 := isT2 (ht a (by simp [St.exprs]))
    have h2 := isT2 (ht b (by simp [St.exprs]))
    obtain ⟨xs, ha⟩ := ht a (by simp [St.exprs])
    obtain ⟨ys, hb⟩ := ht b (by simp [St.exprs])
    exact fin (by
      rw [St.d]
      exact trees_at S (by decide) (by decide) (by decide +kernel) (fun d hd => by
        simp only [List.mem_cons, List.not_mem_nil, or_false] at hd
        rcases hd with rfl | rfl | rfl
        · exact .inl ⟨_, rfl⟩
        · exact .inr ⟨xs, ha⟩
        · exact .inr ⟨ys, hb⟩) (by simp [h1, h2, iS, St.exprs]) hl rfl)
  | flip x a b =>
    have h1 := isT2 (ht a (by simp [St.exprs]))
    have h2 := isT2 (ht b (by simp [St.exprs]))
    obtain ⟨xs, ha⟩ := ht a (by simp [St.exprs])
    obtain ⟨ys, hb⟩ := ht b (by simp [St.exprs])
    exact fin (by
      rw [St.d]
      exact trees_at S (by decide) (by decide) (by decide +kernel) (fun d hd => by
        simp only [List.mem_cons, List.not_mem_nil, or_false] at hd
        rcases hd with rfl | rfl | rfl
        · exact .inl ⟨_, rfl⟩
        · exact .inr ⟨xs, ha⟩
        · exact .inr ⟨ys, hb⟩) (by simp [h1, h2, iS, St.exprs]) hl rfl)
  | unif x a b =>
    have h1 := isT2 (ht a (by simp [St.exprs]))
    have h2 := isT2 (ht b (by simp [St.exprs]))
    obtain ⟨xs, ha⟩ := ht a (by simp [St.exprs])
    obtain ⟨ys, hb⟩ := ht b (by simp [St.exprs])
    exact fin (by
      rw [St.d]
      exact trees_at S (by decide) (by decide) (by decide +kernel) (fun d hd => by
        simp only [List.mem_cons, List.not_mem_nil, or_false] at hd
        rcases hd with rfl | rfl | rfl
        · exact .inl ⟨_, rfl⟩
        · exact .inr ⟨xs, ha⟩
        · exact .inr ⟨ys, hb⟩) (by simp [h1, h2, iS, St.exprs]) hl rfl)
  | obs e =>
    have h1 := isT2 (ht e (by simp [St.exprs]))
    obtain ⟨xs, he⟩ := ht e (by simp [St.exprs])
    exact fin (by
      rw [St.d]
      exact trees_at S (by decide) (by decide) (by decide +kernel) (fun d hd => by
        rw [List.mem_singleton.mp hd]
        exact .inr ⟨xs, he⟩) (by simp [h1, St.exprs]) hl rfl)
  | asrt e =>
    have h1 := isT2 (ht e (by simp [St.exprs]))
    obtain ⟨xs, he⟩ := ht e (by simp [St.exprs])
    exact fin (by
      rw [St.d]
      exact trees_at S (by decide) (by decide) (by decide +kernel) (fun d hd => by
        rw [List.mem_singleton.mp hd]
        exact .inr ⟨xs, he⟩) (by simp [h1, St.exprs]) hl rfl)
  | weigh a b =>
    have h1 := isT2 (ht a (by simp [St.exprs]))
    have h2 := isT2 (ht b (by simp [St.exprs]))
    obtain ⟨xs, ha⟩ := ht a (by simp [St.exprs])
    obtain ⟨ys, hb⟩ := ht b (by simp [St.exprs])
    exact fin (by
      rw [St.d]
      exact trees_at S (by decide) (by decide) (by decide +kernel) (fun d hd => by
        simp only [List.mem_cons, List.not_mem_nil, or_false] at hd
        rcases hd with rfl | rfl
        · exact .inr ⟨xs, ha⟩
        · exact .inr ⟨ys, hb⟩) (by simp [h1, h2, St.exprs]) hl rfl)
  | pick x qs =>
    have ql : ∀ i, ((qs.take i).flatMap fun q => [q.1, q.2]).length ≤ 8 := fun i => by
      have h1 : (St.pick x qs).exprs = (qs.take i).flatMap (fun q => [q.1, q.2]) ++ (qs.drop i).flatMap (fun q => [q.1, q.2]) := by
        show qs.flatMap _ = _
        rw [← List.flatMap_append, List.take_append_drop]
      rw [h1, List.length_append] at hl
      omega
    rw [St.d]
    unfold h_law_trees tg0
    walk_at "env"
    unfold b_law_trees
    have hA : (S ++ [Ob.lst []])[S.length]? = some (.lst []) := Ev.appNew
    have fA : Fr (fun _ => False) S (S ++ [Ob.lst []]) := Fr.refl.add _
    repeat (first | simp only [if_pos z0] | walk_at "ev0")
    generalize S.length = A at *
    generalize S ++ [Ob.lst []] = S1 at *
    generalize e : dLoop _ _ _ _ _ _ = r1
    obtain ⟨ρ, S2, rfl, v3, A2, rfl, hA2, f2⟩ := loop_idx_nx e (fun i ρ S2 => ∃ (v3 : Option D) (A2 : Nat), ρ = [some (.tup [.str (Str.ofString "pick"), .str x, .tup (qs.map fun q => .tup [q.1, q.2])]), some (.str (Str.ofString "pick")), some (.obj A2), v3, none] ∧ S2[A2]? = some (.lst ((qs.take i).flatMap fun q => [q.1, q.2])) ∧ Fr (fun _ => False) S S2) ⟨none, A, rfl, hA, fA⟩ (by
      rintro i d ρ S2 hd ⟨v3, A2, rfl, hA2, f2⟩
      rw [List.getElem?_map] at hd
      obtain ⟨q, hq, rfl⟩ := Option.map_eq_some_iff.mp hd
      refine ⟨_, rfl, ?_⟩
      clear e hd
      have tk : (qs.take (i + 1)).flatMap (fun q => [q.1, q.2]) = (qs.take i).flatMap (fun q => [q.1, q.2]) ++ [q.1, q.2] := by
        rw [List.take_add_one, hq, List.flatMap_append]
        simp
      have l1 := ql (i + 1)
      rw [tk] at l1 ⊢
      generalize (qs.take i).flatMap (fun q => [q.1, q.2]) = L at *
      have hB : (S2 ++ [Ob.lst [q.1, q.2]])[S2.length]? = some (.lst [q.1, q.2]) := Ev.appNew
      have fB : Fr (fun _ => False) S2 (S2 ++ [Ob.lst [q.1, q.2]]) := Fr.refl.add _
      have hA3 := fB.at hA2 (fun z => z)
      have zl : (L ++ [q.1, q.2]).length ≤ sizeLine := by omega
      have zl2 : L.length + 2 ≤ sizeLine := by rw [List.length_append] at zl; exact zl
      repeat (first | simp only [if_pos z2, hA3, hB, if_pos zl, List.length_append, List.length_cons, List.length_nil, if_pos zl2] | walk_at "ev0")
      exact ⟨_, _, rfl, app_ix (by rw [List.length_append]; rfl), (f2.trans fB).add _⟩)
    clear e
    rw [List.length_map, List.take_length] at hA2
    repeat walk_at "ev0"
    exact ⟨_, _, rfl, hA2, f2⟩

/-! ### the law's targets -/
noncomputable def putT (S : Sto) (m : Nat) (kv : List (Key × D)) : Option Str → Sto
  | none => S
  | some x => S.set m (.dk (putD kv (.inr x) (.bl true)))
theorem put_tg {X : List D} {m : Nat} {kv : List (Key × D)} {S : Sto} (s : St) (t : DS) (v3 v4 v5 : Option D) (hm : S[m]? = some (.dk kv)) (hl : kv.length < sizeLine) :
    (dSeq (dIfS (eT (eOp (dIn false) (eOp dIx (eV 2) (eC (D.int 0))) (eTup (eCons (eC (D.str (Str.ofString "set"))) (eCons (eC (D.str (Str.ofString "store"))) (eCons (eC (D.str (Str.ofString "flip"))) (eCons (eC (D.str (Str.ofString "uniform"))) (eCons (eC (D.str (Str.ofString "pick"))) (eCons (eC (D.str (Str.ofString "for"))) eNil))))))))) (dPutD (eC (D.bl true)) (eV 1) (eOp dIx (eV 2) (eC (D.int 1)))) dNext)
    (dSeq (dIfS (eT (eOp dEq (eOp dIx (eV 2) (eC (D.int 0))) (eC (D.str (Str.ofString "call"))))) (dPutD (eC (D.bl true)) (eV 1) (eOp dIx (eV 2) (eC (D.int 3)))) dNext) t)) [some (.tup X), some (.obj m), some s.d, v3, v4, v5] S = t [some (.tup X), some (.obj m), some s.d, v3, v4, v5] (putT S m kv s.tgt) := by
  have sl := sizeLine_eq
  have z6 : (6 : Nat) ≤ sizeLine := by omega
  cases s <;> rw [St.d] <;> unfold tg0 <;> repeat (first | simp only [hm, if_pos hl, if_pos z6] | walk_at "ev0")
  all_goals first | done | rfl
theorem inner_ok (s : St) (S : Sto) : h_law_inner [s.d] S = .ok (.obj S.length) (S ++ [.lst (s.inner.map fun b => .tup (dB b))]) := by
  have sl := sizeLine_eq
  have z0 : (0 : Nat) ≤ sizeLine := Nat.zero_le _
  have z1 : (1 : Nat) ≤ sizeLine := by omega
  have z2 : (2 : Nat) ≤ sizeLine := by omega
  have z3 : (3 : Nat) ≤ sizeLine := by omega
  cases s <;> rw [St.d] <;> unfold h_law_inner tg0 <;> walk_at "env" <;> unfold b_law_inner <;> repeat (first | simp only [if_pos z0, if_pos z1, if_pos z2, if_pos z3] | walk_at "ev0")
  all_goals first | done | rfl
theorem KT.len {kv : List (Key × D)} {ks : List Str} (h : KT kv ks) : kv.length = ks.length := by
  have key : ∀ {kv : List (Key × D)} {ks : List Str}, keyStrs kv = some ks → kv.length = ks.length := by
    intro kv
    induction kv with
    | nil => intro ks h; cases Option.some.inj h; rfl
    | cons p r ih =>
      intro ks h
      obtain ⟨k, d⟩ := p
      cases k with
      | inl x => cases h
      | inr i =>
        have h : (keyStrs r).map (i :: ·) = some ks := h
        cases e2 : keyStrs r with
        | none => rw [e2] at h; cases h
        | some ms =>
          rw [e2] at h
          have e : i :: ms = ks := Option.some.inj h
          rw [← e, List.length_cons, List.length_cons, ih e2]
  exact key h.keys
theorem KT.dom {kv : List (Key × D)} {ks : List Str} (h : KT kv ks) : kv.map (fun p => keyD p.1) = ks.map D.str := by
  have key : ∀ {kv : List (Key × D)} {ks : List Str}, keyStrs kv = some ks → kv.map (fun p => keyD p.1) = ks.map D.str := by
    intro kv
    induction kv with
    | nil => intro ks h; cases Option.some.inj h; rfl
    | cons p r ih =>
      intro ks h
      obtain ⟨k, d⟩ := p
      cases k with
      | inl x => cases h
      | inr i =>
        have h : (keyStrs r).map (i :: ·) = some ks := h
        cases e2 : keyStrs r with
        | none => rw [e2] at h; cases h
        | some ms =>
          rw [e2] at h
          have e : i :: ms = ks := Option.some.inj h
          rw [← e, List.map_cons, List.map_cons, ih e2]
          rfl
  exact key h.keys
theorem mem_allB {n : Nat} {b : List St} {x : Str} : x ∈ tgs n b ↔ ∃ s ∈ b, x ∈ (allF n s).filterMap St.tgt := by
  unfold tgs allB
  rw [List.filterMap_flatMap, List.mem_flatMap]
theorem mem_allF {n : Nat} {s : St} {x : Str} : x ∈ (allF (n + 1) s).filterMap St.tgt ↔ s.tgt = some x ∨ ∃ b ∈ s.inner, x ∈ tgs n b := by
  show x ∈ (s :: s.inner.flatMap fun b => allB n b).filterMap St.tgt ↔ _
  rw [List.mem_filterMap]
  constructor
  · rintro ⟨y, hy, e⟩
    rcases List.mem_cons.mp hy with rfl | hy
    · exact .inl e
    · obtain ⟨b, hb, hy⟩ := List.mem_flatMap.mp hy
      exact .inr ⟨b, hb, List.mem_filterMap.mpr ⟨y, hy, e⟩⟩
  · rintro (e | ⟨b, hb, h⟩)
    · exact ⟨s, List.mem_cons_self, e⟩
    · obtain ⟨y, hy, e⟩ := List.mem_filterMap.mp h
      exact ⟨y, List.mem_cons_of_mem _ (List.mem_flatMap.mpr ⟨b, hb, hy⟩), e⟩
theorem mem_allF0 {s : St} {x : Str} : x ∈ (allF 0 s).filterMap St.tgt ↔ s.tgt = some x := by
  show x ∈ [s].filterMap St.tgt ↔ _
  rw [List.mem_filterMap]
  exact ⟨fun ⟨y, hy, e⟩ => by rw [List.mem_singleton.mp hy] at e; exact e, fun e => ⟨s, List.mem_singleton.mpr rfl, e⟩⟩
section
variable {rs : List NRow} {ps : List PRow}
/-- what one statement adds -/
def tgF (n : Nat) (s : St) : List Str := (allF n s).filterMap St.tgt
theorem tgF_in {n : Nat} {s : St} (h : Sm rs ps n s) : ∀ x ∈ tgF n s, x ∈ rs.map (·.nm) := fun x hx => tgs_in (b := [s]) (fun y hy => by rw [List.mem_singleton.mp hy]; exact h) x (mem_allB.mpr ⟨s, List.mem_singleton.mpr rfl, hx⟩)
/-- the blocks in a statement of depth n: their own depth -/
theorem inner_mem {n : Nat} {s : St} (h : Sm rs ps n s) : ∀ x, x ∈ tgF n s ↔ s.tgt = some x ∨ ∃ b ∈ s.inner, x ∈ tgs (n - 1) b := by
  intro x
  cases n with
  | zero =>
    refine mem_allF0.trans ⟨.inl, fun z => z.elim id fun ⟨b, hb, _⟩ => ?_⟩
    rw [h.in0] at hb
    cases hb
  | succ n => exact mem_allF
theorem ltargets_ok (hrs : rs.length ≤ 8) (hpa : ∀ x ∈ ps, x.args.length ≤ 8) : ∀ (f n : Nat) (b : List St) (S : Sto) (m : Nat) (kv : List (Key × D)) (ks : List Str), n < f → n ≤ 3 → b.length * bnd n ≤ 999 → (∀ s ∈ b, Sm rs ps n s) → S[m]? = some (.dk kv) → KT kv ks → (∀ x ∈ ks, x ∈ rs.map (·.nm)) →
    ∃ S' kv' ks', h_law_targets f [.tup (dB b), .obj m] S = .ok (.bl true) S' ∧ S'[m]? = some (.dk kv') ∧ KT kv' ks' ∧ (∀ x, x ∈ ks' ↔ x ∈ ks ∨ x ∈ tgs n b) ∧ Fr (fun i => i = m) S S'
  | 0, n, b, S, m, kv, ks, h, _, _, _, _, _, _ => absurd h (Nat.not_lt_zero _)
  | f + 1, n, b, S, m, kv, ks, hf, hn, hbl, hb, hm, kt, hks => by
    have sl := sizeLine_eq
    have small : ∀ {l : List Str}, l.Nodup → (∀ x ∈ l, x ∈ rs.map (·.nm)) → l.length ≤ 8 := fun h1 h2 => by
      have := nodup_le h1 h2
      rw [List.length_map] at this
      omega
    show ∃ S' kv' ks', runD 2 6 (b_law_targets (h_law_targets f)) _ S = _ ∧ _
    walk_at "env"
    unfold b_law_targets
    repeat walk_at "ev0"
    rw [dB_eq]
    generalize e : dLoop _ _ _ _ _ _ = r1
    obtain ⟨ρ, S1, rfl, v2, v3, v4, v5, kv1, ks1, rfl, hm1, kt1, hk1, f1⟩ := loop_idx_nx e (fun i ρ S1 => ∃ (v2 v3 v4 v5 : Option D) (kv1 : List (Key × D)) (ks1 : List Str), ρ = [some (.tup (b.map St.d)), some (.obj m), v2, v3, v4, v5] ∧ S1[m]? = some (.dk kv1) ∧ KT kv1 ks1 ∧ (∀ x, x ∈ ks1 ↔ x ∈ ks ∨ x ∈ tgs n (b.take i)) ∧ Fr (fun i => i = m) S S1)
      ⟨none, none, none, none, kv, ks, rfl, hm, kt, fun x => by simp [tgs, allB], Fr.refl⟩ (by
      rintro i d ρ S1 hd ⟨v2, v3, v4, v5, kv1, ks1, rfl, hm1, kt1, hk1, f1⟩
      rw [List.getElem?_map] at hd
      obtain ⟨s, hs, rfl⟩ := Option.map_eq_some_iff.mp hd
      refine ⟨_, rfl, ?_⟩
      clear e hd
      have hsb := List.mem_of_getElem? hs
      have sm := hb s hsb
      obtain ⟨hel, hex⟩ := sm.ex hpa
      have hin1 : ∀ x ∈ ks1, x ∈ rs.map (·.nm) := fun x hx => by
        rcases (hk1 x).mp hx with hx | hx
        · exact hks x hx
        · exact tgs_in (fun y hy => hb y (List.mem_of_mem_take hy)) x hx
      have l1 := small kt1.nd hin1
      have lk1 := kt1.len
      have e1 := exprs_ok s hel S1
      have hA : (S1 ++ [Ob.lst s.exprs])[S1.length]? = some (.lst s.exprs) := Ev.appNew
      have fA : Fr (fun _ => False) S1 (S1 ++ [Ob.lst s.exprs]) := Fr.refl.add _
      generalize S1 ++ [Ob.lst s.exprs] = S2 at *
      generalize S1.length = A at *
      obtain ⟨B, S3, e3, hB, fB⟩ := trees_ok s hel (fun d hd => by
        obtain ⟨k, hk⟩ := hex d hd
        obtain ⟨x, xs, e⟩ := hk.tup
        exact ⟨_, e⟩) S2
      have e5 := same_lst 5 (fB.at hA (fun z => z)) hB (by omega) (fun d hd => by
        obtain ⟨k, hk⟩ := hex d hd
        exact hk.same S3 5 (by decide))
      have hm3 := fB.at (fA.at hm1 (fun z => z)) (fun z => z)
      have zk : kv1.length < sizeLine := by omega
      repeat (first | simp only [e1, e3, e5] | walk_at "ev0")
      have pt := put_tg (X := b.map St.d) s (dFor (wL (eCall h_law_inner (eCons (eV 2) eNil))) (tgN 3) (dSeq (dSet 4 eDNew)
        (dSeq (dIfS (eOr (eNot (eT (eCall (h_law_targets f) (eCons (eV 3) (eCons (eV 4) eNil))))) (eNot (eT (eCall (h_law_same 6) (eCons (eCall h_targets_of (eCons (eV 3) eNil)) (eCons (eCall dSortedDS (eCons (eV 4) eNil)) eNil)))))) (dRet (eC (D.bl false))) dNext)
        (dForK (eV 4) (tgN 5) (dPutD (eC (D.bl true)) (eV 1) (eV 5)))))) v3 v4 v5 hm3 zk
      have key : ∀ (P : RS → Prop) {x y : RS}, x = y → P y → P x := fun P x y e h => e ▸ h
      refine key (bTurn _ _ _) pt ?_
      -- the dict with the statement's own target
      obtain ⟨kv4, ks4, hm4, kt4, hk4, f4⟩ : ∃ kv4 ks4, (putT S3 m kv1 s.tgt)[m]? = some (.dk kv4) ∧ KT kv4 ks4 ∧ (∀ x, x ∈ ks4 ↔ x ∈ ks1 ∨ s.tgt = some x) ∧ Fr (fun i => i = m) S (putT S3 m kv1 s.tgt) := by
        have f3 : Fr (fun i => i = m) S S3 := f1.trans ((fA.trans fB).mono fun _ _ z => z.elim)
        cases ht : s.tgt with
        | none => exact ⟨kv1, ks1, hm3, kt1, fun x => ⟨.inl, fun z => z.elim id fun z => by cases z⟩, f3⟩
        | some x =>
          obtain ⟨ks', kt', hk'⟩ := kt1.put x
          refine ⟨_, ks', get_put hm3, kt', fun y => ?_, f3.set _ fun _ => rfl⟩
          rw [hk']
          exact ⟨fun z => z.imp id fun z => by rw [z], fun z => z.imp id fun z => (Option.some.inj z).symm⟩
      generalize putT S3 m kv1 s.tgt = S4 at *
      have e6 := inner_ok s S4
      have hI : (S4 ++ [Ob.lst (s.inner.map fun b => .tup (dB b))])[S4.length]? = some (.lst (s.inner.map fun b => .tup (dB b))) := Ev.appNew
      have fI : Fr (fun _ => False) S4 (S4 ++ [Ob.lst (s.inner.map fun b => .tup (dB b))]) := Fr.refl.add _
      have hm5 := fI.at hm4 (fun z => z)
      have lm4 := lt_of_get hm4
      have f5 : Fr (fun i => i = m) S (S4 ++ [Ob.lst (s.inner.map fun b => .tup (dB b))]) := f4.add _
      repeat (first | simp only [e6, hI] | walk_at "ev0")
      have hIm : S4.length ≠ m := by omega
      generalize S4 ++ [Ob.lst (s.inner.map fun b => .tup (dB b))] = S5 at *
      generalize S4.length = I at *
      generalize e : dLoop _ _ _ _ _ _ = r1
      obtain ⟨ρ, S6, rfl, w3, w4, w5, kv6, ks6, rfl, hm6, kt6, hk6, hI6, f6⟩ := loop_idx_nx e (fun j ρ S6 => ∃ (w3 w4 w5 : Option D) (kv6 : List (Key × D)) (ks6 : List Str), ρ = [some (.tup (b.map St.d)), some (.obj m), some s.d, w3, w4, w5] ∧ S6[m]? = some (.dk kv6) ∧ KT kv6 ks6 ∧ (∀ x, x ∈ ks6 ↔ x ∈ ks4 ∨ ∃ c ∈ s.inner.take j, x ∈ tgs (n - 1) c) ∧ S6[I]? = some (.lst (s.inner.map fun b => .tup (dB b))) ∧ Fr (fun i => i = m) S S6)
        ⟨v3, v4, v5, kv4, ks4, rfl, hm5, kt4, fun x => by simp, hI, f5⟩ (by
        rintro j d ρ S6 hd ⟨w3, w4, w5, kv6, ks6, rfl, hm6, kt6, hk6, hI6, f6⟩
        rw [List.getElem?_map] at hd
        obtain ⟨c, hc, rfl⟩ := Option.map_eq_some_iff.mp hd
        refine ⟨_, rfl, ?_⟩
        clear e hd
        have hcm := List.mem_of_getElem? hc
        -- the statement has blocks, so it is not of depth 0
        obtain ⟨q, rfl⟩ : ∃ q, n = q + 1 := ⟨n - 1, by
          cases n with
          | zero => rw [sm.in0] at hcm; cases hcm
          | succ q => rfl⟩
        obtain ⟨lc, hcs⟩ := sm.in1.2 c hcm
        have hin4 : ∀ x ∈ ks4, x ∈ rs.map (·.nm) := fun x hx => by
          rcases (hk4 x).mp hx with hx | hx
          · exact hin1 x hx
          · exact sm.tg hx
        have hin6 : ∀ x ∈ ks6, x ∈ rs.map (·.nm) := fun x hx => by
          rcases (hk6 x).mp hx with hx | ⟨c', hc', hx⟩
          · exact hin4 x hx
          · exact tgs_in (sm.in1.2 c' (List.mem_of_mem_take hc')).2 x hx
        have hbq : bnd q ≤ 21 := by
          have : q = 0 ∨ q = 1 ∨ q = 2 := by omega
          rcases this with rfl | rfl | rfl <;> decide
        have hcl : c.length * bnd q ≤ 999 := by
          have := Nat.mul_le_mul_right (bnd q) lc
          omega
        -- own = {}
        have hO : (S6 ++ [Ob.dk []])[S6.length]? = some (.dk []) := Ev.appNew
        have fO : Fr (fun _ => False) S6 (S6 ++ [Ob.dk []]) := Fr.refl.add _
        have hmO := fO.at hm6 (fun z => z)
        have hIO := fO.at hI6 (fun z => z)
        have lm6 := lt_of_get hm6
        have lI6 := lt_of_get hI6
        have f7 : Fr (fun i => i = m) S (S6 ++ [Ob.dk []]) := f6.add _
        have lS6 := f6.len
        repeat walk_at "ev0"
        generalize S6 ++ [Ob.dk []] = S7 at *
        generalize hOn : S6.length = O at *
        obtain ⟨S8, kv8, ks8, e8, hO8, kt8, hk8, f8⟩ := ltargets_ok hrs hpa f q c S7 O [] [] (by omega) (by omega) hcl hcs hO ⟨rfl, List.nodup_nil⟩ (fun _ h => by cases h)
        have hm8 := f8.at hmO (by omega)
        have hI8 := f8.at hIO (by omega)
        obtain ⟨T, S9, e9, hT9, f9, _⟩ := targets_ok hcs hrs (by omega) hcl S8
        have hO9 := f9.at hO8 (fun z => z)
        have hin8 : ∀ x ∈ ks8, x ∈ rs.map (·.nm) := fun x hx => by
          rcases (hk8 x).mp hx with hx | hx
          · cases hx
          · exact tgs_in hcs x hx
        have l8 := small kt8.nd hin8
        have eq8 : sortS (dedT (tgs q c)) = sortS ks8 := sortS_perm (perm_of (dedT_nodup _) kt8.nd fun x => by rw [dedT_mem, hk8]; exact ⟨.inr, fun z => z.elim (fun h => by cases h) id⟩)
        rw [eq8] at hT9
        have ls8 : (sortS ks8).length ≤ 8 := by unfold sortS; rw [List.length_mergeSort]; exact l8
        have lk8 : ((sortS ks8).map D.str).length ≤ sizeLine := by rw [List.length_map]; omega
        have kk := kt8.keys
        have sr : sortSR S9 (some ks8) = .ok (.obj S9.length) (S9 ++ [.lst ((sortS ks8).map D.str)]) := by
          unfold sortSR
          dsimp only
          rw [if_pos (by omega)]
          unfold mkLst
          rw [if_pos lk8]
        have fK : Fr (fun _ => False) S9 (S9 ++ [Ob.lst ((sortS ks8).map D.str)]) := Fr.refl.add _
        have sm2 := same_lst 5 (S := S9 ++ [.lst ((sortS ks8).map D.str)]) (fK.at hT9 (fun z => z)) (Ev.appNew (S := S9)) lk8 (fun d hd => by
          obtain ⟨y, _, rfl⟩ := List.mem_map.mp hd
          exact same_str 4 y _)
        have hm10 := fK.at (f9.at hm8 (fun z => z)) (fun z => z)
        have hI10 := fK.at (f9.at hI8 (fun z => z)) (fun z => z)
        have hO10 := fK.at hO9 (fun z => z)
        have f10 : Fr (fun i => i = m) S (S9 ++ [Ob.lst ((sortS ks8).map D.str)]) := by
          have f78 : Fr (fun i => i = m) S S8 := ⟨Nat.le_trans f7.len f8.len, fun i hi hne => (f8.old i (f7.lt hi) (by omega)).trans (f7.old i hi hne)⟩
          exact f78.trans ((f9.trans fK).mono fun _ _ z => z.elim)
        repeat (first | simp only [e8, e9, hO9, kk, sr, sm2] | walk_at "ev0")
        generalize S9 ++ [Ob.lst ((sortS ks8).map D.str)] = S10 at *
        show bTurn _ _ _ (dForK _ _ _ _ _)
        rw [forK_eq rfl hO10 rfl, kt8.dom]
        have hO11 := get_put (o' := .hk kv8) hO10
        have hm11 : (S10.set O (.hk kv8))[m]? = _ := (get_put_ne (by omega)).trans hm10
        have hI11 : (S10.set O (.hk kv8))[I]? = _ := (get_put_ne (by omega)).trans hI10
        have f11 : Fr (fun i => i = m) S (S10.set O (.hk kv8)) := f10.set _ fun h => by omega
        generalize S10.set O (.hk kv8) = S11 at *
        generalize e : dLoop _ _ _ _ _ _ = r1
        obtain ⟨ρ, S12, rfl, y5, kv12, ks12, rfl, hm12, kt12, hk12, hO12, hI12, f12⟩ := loop_idx_nx e (fun k ρ S12 => ∃ (y5 : Option D) (kv12 : List (Key × D)) (ks12 : List Str), ρ = [some (.tup (b.map St.d)), some (.obj m), some s.d, some (.tup (dB c)), some (.obj O), y5] ∧ S12[m]? = some (.dk kv12) ∧ KT kv12 ks12 ∧ (∀ x, x ∈ ks12 ↔ x ∈ ks6 ∨ x ∈ ks8.take k) ∧ S12[O]? = some (.hk kv8) ∧ S12[I]? = some (.lst (s.inner.map fun b => .tup (dB b))) ∧ Fr (fun i => i = m) S S12)
          ⟨w5, kv6, ks6, rfl, hm11, kt6, fun x => by simp, hO11, hI11, f11⟩ (by
          rintro k d ρ S12 hd ⟨y5, kv12, ks12, rfl, hm12, kt12, hk12, hO12, hI12, f12⟩
          rw [List.getElem?_map] at hd
          obtain ⟨x, hx, rfl⟩ := Option.map_eq_some_iff.mp hd
          refine ⟨_, rfl, ?_⟩
          clear e hd
          have hin12 : ∀ x ∈ ks12, x ∈ rs.map (·.nm) := fun x hx => by
            rcases (hk12 x).mp hx with hx | hx
            · exact hin6 x hx
            · exact hin8 x (List.mem_of_mem_take hx)
          have l12 := small kt12.nd hin12
          have lk12 := kt12.len
          have zk : kv12.length < sizeLine := by omega
          obtain ⟨ks', kt', hk'⟩ := kt12.put x
          repeat (first | simp only [hm12, if_pos zk] | walk_at "ev0")
          refine ⟨hkOf_hk ((get_put_ne (by omega)).trans hO12), _, _, ks', rfl, by first | rfl | exact get_put hm12, kt', fun y => ?_, (get_put_ne (by omega)).trans hO12, (get_put_ne (by omega)).trans hI12, f12.set _ fun _ => rfl⟩
          rw [hk', hk12, List.take_add_one, hx, List.mem_append]
          simp [or_assoc])
        clear e
        rw [List.length_map, List.take_length] at hk12
        unfold unholdR
        dsimp only
        rw [if_pos (hkOf_hk hO12), bTurn1]
        refine ⟨lstOf_lst ((get_put_ne (by omega)).trans hI12), _, _, _, kv12, ks12, rfl, (get_put_ne (by omega)).trans hm12, kt12, fun x => ?_, (get_put_ne (by omega)).trans hI12, f12.set _ fun h => by omega⟩
        rw [hk12, hk6, hk8, List.take_add_one, hc]
        constructor
        · rintro ((h | ⟨c', hc', h⟩) | h)
          · exact .inl h
          · exact .inr ⟨c', List.mem_append_left _ hc', h⟩
          · refine .inr ⟨c, List.mem_append_right _ (by simp), ?_⟩
            rcases h with h | h
            · cases h
            · exact h
        · rintro (h | ⟨c', hc', h⟩)
          · exact .inl (.inl h)
          · rcases List.mem_append.mp hc' with hc' | hc'
            · exact .inl (.inr ⟨c', hc', h⟩)
            · have : c' = c := by simpa using hc'
              subst this
              exact .inr (.inr h))
      clear e
      rw [List.length_map, List.take_length] at hk6
      refine ⟨trivial, _, _, _, _, kv6, ks6, rfl, hm6, kt6, fun x => ?_, f6⟩
      have hone : x ∈ tgs n (b.take (i + 1)) ↔ x ∈ tgs n (b.take i) ∨ x ∈ tgF n s := by
        rw [mem_allB, mem_allB, List.take_add_one, hs]
        constructor
        · rintro ⟨y, hy, h⟩
          rcases List.mem_append.mp hy with hy | hy
          · exact .inl ⟨y, hy, h⟩
          · have : y = s := by simpa using hy
            subst this
            exact .inr h
        · rintro (⟨y, hy, h⟩ | h)
          · exact ⟨y, List.mem_append_left _ hy, h⟩
          · exact ⟨s, List.mem_append_right _ (by simp), h⟩
      rw [hone, inner_mem sm, hk6, hk4, hk1]
      simp only [or_assoc])
    clear e
    rw [List.length_map, List.take_length] at hk1
    repeat walk_at "ev0"
    exact ⟨S1, kv1, ks1, rfl, hm1, kt1, hk1, f1⟩
end

theorem law_ok (ns : List Int) (h : ns.length ≤ sizeLine) : ∃ S', h_law [.kl (ns.map D.int)] [] = .ok (.bl true) S' := by
  have sl := sizeLine_eq
  obtain ⟨S0, e0, po0, l0⟩ := pool_ok ns h
  unfold h_law
  walk_at "env"
  unfold b_law
  generalize D.kl (ns.map D.int) = sc at *
  repeat (first | simp only [e0] | walk_at "ev0")
  generalize e1 : h_law_names _ _ = r
  obtain ⟨n, S1, rs, rfl, po1, wr, f1, ln⟩ := names_use e1 po0
  clear e1
  have ro1 := wrows wr
  have nk : NamesK (rs.map WRow.n) := by
    refine ⟨fun r hr => ?_, ?_⟩
    · obtain ⟨x, hx, rfl⟩ := List.mem_map.mp hr
      rcases (wr.good x hx).fit with ⟨h1, _⟩ | ⟨h1, _⟩ | ⟨h1, _⟩
      · exact .inl h1
      · exact .inr (.inl h1)
      · exact .inr (.inr h1)
    · obtain ⟨r, hr, hk⟩ := wr.int
      exact ⟨r.n, List.mem_map.mpr ⟨r, hr, rfl⟩, hk⟩
  generalize rs.map WRow.n = rs at *
  have z1 : (1 : Nat) ≤ sizeLine := by omega
  have z2 : (2 : Nat) ≤ sizeLine := by omega
  have z3 : (3 : Nat) ≤ sizeLine := by omega
  generalize hps : ([⟨Str.ofString "p_", false, [false]⟩, ⟨Str.ofString "q_", true, [true, false]⟩] : List PRow) = ps
  have eps : [D.tup [.str (Str.ofString "p_"), .str (Str.ofString "int"), .tup [.str (Str.ofString "int")]], D.tup [.str (Str.ofString "q_"), .str (Str.ofString "bool"), .tup [.str (Str.ofString "bool"), .str (Str.ofString "int")]]] = ps.map PRow.d := by rw [← hps]; rfl
  have lps : ps.length = 2 := by rw [← hps]; rfl
  have hpa : ∀ x ∈ ps, x.args.length ≤ 8 := fun x hx => by
    rw [← hps] at hx
    simp only [List.mem_cons, List.not_mem_nil, or_false] at hx
    rcases hx with rfl | rfl <;> decide
  have hP : (S1 ++ [Ob.lst (ps.map PRow.d)])[S1.length]? = some (.lst (ps.map PRow.d)) := Ev.appNew
  have po2 : PoolS (S1 ++ [Ob.lst (ps.map PRow.d)]) 2 1 := po1.add
  have fP : Fr (fun i => i = 2) S1 (S1 ++ [Ob.lst (ps.map PRow.d)]) := Fr.refl.add _
  have ro2 := ro1.fr fP (by omega)
  have l1 := ro1.lt
  have zp : (2 : Nat) ≤ sizeLine := z2
  repeat (first | simp only [if_pos z1, if_pos z2, if_pos z3, eps] | walk_at "ev0")
  generalize hQ : S1.length = Q at *
  generalize S1 ++ [Ob.lst (ps.map PRow.d)] = S2 at *
  generalize e1 : h_law_draw _ _ = r
  obtain ⟨k, S3, rfl, k0, k1, po3, f3⟩ := draw_use e1 po2 (by decide) (by decide)
  clear e1
  have hP3 := f3.at hP (by omega)
  have ro3 := ro2.fr f3 (by omega)
  have ecut : cutL (ps.map PRow.d) none (some k) = (cutL ps none (some k)).map PRow.d := cutL_map _ _ _ _
  have lcut := cutL_len ps none (some k)
  have hpa2 : ∀ x ∈ cutL ps none (some k), x.args.length ≤ 8 := fun x hx => hpa x (by
    unfold cutL at hx
    exact List.mem_of_mem_drop (List.mem_of_mem_take hx))
  have zc : ((cutL ps none (some k)).map PRow.d).length ≤ sizeLine := by rw [List.length_map]; omega
  have zc2 : (cutL ps none (some k)).length ≤ sizeLine := by omega
  have lq := lt_of_get hP3
  have hQ4 : (S3 ++ [Ob.lst ((cutL ps none (some k)).map PRow.d)])[S3.length]? = some (.lst ((cutL ps none (some k)).map PRow.d)) := Ev.appNew
  have po4 : PoolS (S3 ++ [Ob.lst ((cutL ps none (some k)).map PRow.d)]) 2 1 := po3.add
  have f4 : Fr (fun i => i = 2) S3 (S3 ++ [Ob.lst ((cutL ps none (some k)).map PRow.d)]) := Fr.refl.add _
  have ro4 := ro3.fr f4 (by omega)
  have lp3 := po3.lp
  repeat (first | simp only [hP3, ecut, if_pos zc, if_pos zc2, List.length_map] | walk_at "ev0")
  generalize S3 ++ [Ob.lst ((cutL ps none (some k)).map PRow.d)] = S4 at *
  generalize S3.length = Q4 at *
  generalize cutL ps none (some k) = ps4 at *
  obtain ⟨b, S5, e5, hb, lb, po5, f5⟩ := block_ok nk (by omega) hpa2 (p := 2) (l := 1) (n := n) (q := Q4) (by omega) (by omega) (by omega) (by omega) 2 3 9 S4 (by decide) (by decide) (by decide) po4 ro4 hQ4
  have e5 : h_law_block 3 [.obj 2, .obj n, .obj Q4, .int 2, .int 9] S4 = _ := e5
  have hm : (S5 ++ [Ob.dk []])[S5.length]? = some (.dk []) := Ev.appNew
  have hbl : b.length * bnd 2 ≤ 999 := by
    have : bnd 2 = 21 := by decide
    rw [this]
    omega
  repeat (first | simp only [e5] | walk_at "ev0")
  generalize S5 ++ [Ob.dk []] = S6 at *
  generalize S5.length = M at *
  obtain ⟨S7, kv7, ks7, e7, hm7, kt7, hk7, f7⟩ := ltargets_ok ro1.len hpa2 4 2 b S6 M [] [] (by decide) (by decide) hbl hb hm ⟨rfl, List.nodup_nil⟩ (fun _ h => by cases h)
  obtain ⟨T, S9, e9, hT9, f9, _⟩ := targets_ok hb ro1.len (by decide) hbl S7
  have hm9 := f9.at hm7 (fun z => z)
  have hin7 : ∀ x ∈ ks7, x ∈ rs.map (·.nm) := fun x hx => by
    rcases (hk7 x).mp hx with hx | hx
    · cases hx
    · exact tgs_in hb x hx
  have l7 : ks7.length ≤ 8 := by
    have := nodup_le kt7.nd hin7
    rw [List.length_map] at this
    have := ro1.len
    omega
  have eq7 : sortS (dedT (tgs 2 b)) = sortS ks7 := sortS_perm (perm_of (dedT_nodup _) kt7.nd fun x => by rw [dedT_mem, hk7]; exact ⟨.inr, fun z => z.elim (fun h => by cases h) id⟩)
  rw [eq7] at hT9
  have ls7 : (sortS ks7).length ≤ 8 := by unfold sortS; rw [List.length_mergeSort]; exact l7
  have lk7 : ((sortS ks7).map D.str).length ≤ sizeLine := by rw [List.length_map]; omega
  have kk := kt7.keys
  have sr : sortSR S9 (some ks7) = .ok (.obj S9.length) (S9 ++ [.lst ((sortS ks7).map D.str)]) := by
    unfold sortSR
    dsimp only
    rw [if_pos (by omega)]
    unfold mkLst
    rw [if_pos lk7]
  have fK : Fr (fun _ => False) S9 (S9 ++ [Ob.lst ((sortS ks7).map D.str)]) := Fr.refl.add _
  have sm2 := same_lst 5 (S := S9 ++ [.lst ((sortS ks7).map D.str)]) (fK.at hT9 (fun z => z)) (Ev.appNew (S := S9)) lk7 (fun d hd => by
    obtain ⟨y, _, rfl⟩ := List.mem_map.mp hd
    exact same_str 4 y _)
  repeat (first | simp only [e7, e9, hm9, kk, sr, sm2] | walk_at "ev0")
  exact ⟨_, rfl⟩

/-! ### from the function to the promise -/
def spLawF (K : PySem.W.Frag) : Sp := fun vs H Q _ => ∃ (a : Addr) (ns : List Int), vs = [.ref a] ∧ SqF K H a (ns.map V.int) ∧ ns.length ≤ 63 ∧ ∀ H', Q (.bl true) H'
theorem scs_ints : ∀ ns : List Int, scs (ns.map D.int) = some (ns.map V.int)
  | [] => rfl
  | x :: ns => by
    show (match (D.int x).sc, scs (ns.map D.int) with | some v, some vs => some (v :: vs) | _, _ => none) = _
    rw [scs_ints ns]
    rfl
theorem law_top {P : Program} {wd : World} {K : PySem.W.Frag} {mg : Str → Option Value} {base : Heap} {k : Nat} {f : Addr} {fd : FuncData} {hl : DF}
    (F : FnOk P wd K mg base (L2.CX P wd) k f fd ["script"] (spD K mg hl)) (h : ∀ ns : List Int, ns.length ≤ 63 → ∃ S', hl [.kl (ns.map D.int)] [] = .ok (.bl true) S') :
    FnOk P wd K mg base (L2.CX P wd) k f fd ["script"] (spLawF K) := by
  refine F.imp fun vs H Q E q => ?_
  obtain ⟨a, ns, rfl, t, hn, q⟩ := q
  obtain ⟨S', e⟩ := h ns hn
  refine ⟨⟨fun _ => a, [], H⟩, [.kl (ns.map D.int)], ⟨fun i j hi => absurd hi (Nat.not_lt_zero i), fun i o ho => by simp at ho⟩, rfl, Rvs.cons ?_ Rvs.nil, ?_⟩
  · rw [Rv]
    exact ⟨a, _, rfl, t, Rvs.of_sc (scs_ints ns)⟩
  · show Fin K mg _ _ (hl [.kl (ns.map D.int)] []) Q _
    rw [e]
    intro w' b _ _ _ r
    rw [r.bl]
    exact q _
theorem sqf_of {K : PySem.W.Frag} {H : Hp} {a : Addr} {xs : List V} (o : ∀ b, H b = none ∨ ∃ o xs, H b = some (.frz o (.lst xs))) (h : SqL K H a xs) : SqF K H a xs := by
  rcases h with (h | h) | h
  · rcases o a with z | ⟨_, _, z⟩ <;> (rw [h] at z; cases z)
  · exact .inl h
  · exact .inr h
/-! the end -/
theorem all_mk {K : PySem.W.Frag} {pr : Params} {h : Heap} {mg : Str → Option Value} {fa : Addr} (X : K.In h) (G : h.Ns mainGlobals mg) (hfa : mg "law" = some (.ref fa))
    {f0 f1 f2 f3 f4 f5 f6 f7 f8 f9 f10 f11 f12 f13 f14 f15 f16 f17 f18 f19 f20 f21 f22  : Addr} {od0 an0 od1 an1 od2 an2 od3 an3 od4 an4 od5 an5 od6 an6 od7 an7 od8 an8 od9 an9 od10 an10 od11 an11 od12 an12 od13 an13 od14 an14 od15 an15 od16 an16 od17 an17 od18 an18 od19 an19 od20 an20 od21 an21 od22 an22 : Option Addr} {sl0 sl1 sl2 sl3 sl4 sl5 sl6 sl7 sl8 sl9 sl10 sl11 sl12 sl13 sl14 sl15 sl16 sl17 sl18 sl19 sl20 sl21 sl22 : Array (Option Value)} {oc0 kV0 dc0 pm0 cd0 ct0 oc1 kV1 dc1 pm1 cd1 ct1 oc2 kV2 dc2 pm2 cd2 ct2 oc3 kV3 dc3 pm3 cd3 ct3 oc4 kV4 dc4 pm4 cd4 ct4 oc5 kV5 dc5 pm5 cd5 ct5 oc6 kV6 dc6 pm6 cd6 ct6 oc7 kV7 dc7 pm7 cd7 ct7 oc8 kV8 dc8 pm8 cd8 ct8 oc9 kV9 dc9 pm9 cd9 ct9 oc10 kV10 dc10 pm10 cd10 ct10 oc11 kV11 dc11 pm11 cd11 ct11 oc12 kV12 dc12 pm12 cd12 ct12 oc13 kV13 dc13 pm13 cd13 ct13 oc14 kV14 dc14 pm14 cd14 ct14 oc15 kV15 dc15 pm15 cd15 ct15 oc16 kV16 dc16 pm16 cd16 ct16 oc17 kV17 dc17 pm17 cd17 ct17 oc18 kV18 dc18 pm18 cd18 ct18 oc19 kV19 dc19 pm19 cd19 ct19 oc20 kV20 dc20 pm20 cd20 ct20 oc21 kV21 dc21 pm21 cd21 ct21 oc22 kV22 dc22 pm22 cd22 ct22 : Value}
    (a0 : PySem.W.nsIn K mainGlobals "expressions_of" = some (some (.ref f0))) (l0 : K.lookup f0 = some ⟨oc0, od0, .func (PySem.W.fnOf "expressions_of" "expressions_of" (defArgs s_expressions_of) (defBody s_expressions_of) (defScope s_expressions_of) .none kV0 dc0 pm0 an0 cd0 ct0), sl0⟩) (c0 : PySem.W.codeIn K cd0 "expressions_of" = true) (k0 : PySem.W.keepIn K (.ref f0) = true)
    (a1 : PySem.W.nsIn K mainGlobals "blocks_of" = some (some (.ref f1))) (l1 : K.lookup f1 = some ⟨oc1, od1, .func (PySem.W.fnOf "blocks_of" "blocks_of" (defArgs s_blocks_of) (defBody s_blocks_of) (defScope s_blocks_of) .none kV1 dc1 pm1 an1 cd1 ct1), sl1⟩) (c1 : PySem.W.codeIn K cd1 "blocks_of" = true) (k1 : PySem.W.keepIn K (.ref f1) = true)
    (a2 : PySem.W.nsIn K mainGlobals "has_target" = some (some (.ref f2))) (l2 : K.lookup f2 = some ⟨oc2, od2, .func (PySem.W.fnOf "has_target" "has_target" (defArgs s_has_target) (defBody s_has_target) (defScope s_has_target) .none kV2 dc2 pm2 an2 cd2 ct2), sl2⟩) (c2 : PySem.W.codeIn K cd2 "has_target" = true) (k2 : PySem.W.keepIn K (.ref f2) = true)
    (a3 : PySem.W.nsIn K mainGlobals "target_of" = some (some (.ref f3))) (l3 : K.lookup f3 = some ⟨oc3, od3, .func (PySem.W.fnOf "target_of" "target_of" (defArgs s_target_of) (defBody s_target_of) (defScope s_target_of) .none kV3 dc3 pm3 an3 cd3 ct3), sl3⟩) (c3 : PySem.W.codeIn K cd3 "target_of" = true) (k3 : PySem.W.keepIn K (.ref f3) = true)
    (a4 : PySem.W.nsIn K mainGlobals "statements_in" = some (some (.ref f4))) (l4 : K.lookup f4 = some ⟨oc4, od4, .func (PySem.W.fnOf "statements_in" "statements_in" (defArgs s_statements_in) (defBody s_statements_in) (defScope s_statements_in) .none kV4 dc4 pm4 an4 cd4 ct4), sl4⟩) (c4 : PySem.W.codeIn K cd4 "statements_in" = true) (k4 : PySem.W.keepIn K (.ref f4) = true)
    (a5 : PySem.W.nsIn K mainGlobals "targets_of" = some (some (.ref f5))) (l5 : K.lookup f5 = some ⟨oc5, od5, .func (PySem.W.fnOf "targets_of" "targets_of" (defArgs s_targets_of) (defBody s_targets_of) (defScope s_targets_of) .none kV5 dc5 pm5 an5 cd5 ct5), sl5⟩) (c5 : PySem.W.codeIn K cd5 "targets_of" = true) (k5 : PySem.W.keepIn K (.ref f5) = true)
    (a6 : PySem.W.nsIn K mainGlobals "_law_same" = some (some (.ref f6))) (l6 : K.lookup f6 = some ⟨oc6, od6, .func (PySem.W.fnOf "_law_same" "_law_same" (defArgs s_law_same) (defBody s_law_same) (defScope s_law_same) .none kV6 dc6 pm6 an6 cd6 ct6), sl6⟩) (c6 : PySem.W.codeIn K cd6 "_law_same" = true) (k6 : PySem.W.keepIn K (.ref f6) = true)
    (a7 : PySem.W.nsIn K mainGlobals "_law_pool" = some (some (.ref f7))) (l7 : K.lookup f7 = some ⟨oc7, od7, .func (PySem.W.fnOf "_law_pool" "_law_pool" (defArgs s_law_pool) (defBody s_law_pool) (defScope s_law_pool) .none kV7 dc7 pm7 an7 cd7 ct7), sl7⟩) (c7 : PySem.W.codeIn K cd7 "_law_pool" = true) (k7 : PySem.W.keepIn K (.ref f7) = true)
    (a8 : PySem.W.nsIn K mainGlobals "_law_spread" = some (some (.ref f8))) (l8 : K.lookup f8 = some ⟨oc8, od8, .func (PySem.W.fnOf "_law_spread" "_law_spread" (defArgs s_law_spread) (defBody s_law_spread) (defScope s_law_spread) .none kV8 dc8 pm8 an8 cd8 ct8), sl8⟩) (c8 : PySem.W.codeIn K cd8 "_law_spread" = true) (k8 : PySem.W.keepIn K (.ref f8) = true)
    (a9 : PySem.W.nsIn K mainGlobals "_law_draw" = some (some (.ref f9))) (l9 : K.lookup f9 = some ⟨oc9, od9, .func (PySem.W.fnOf "_law_draw" "_law_draw" (defArgs s_law_draw) (defBody s_law_draw) (defScope s_law_draw) .none kV9 dc9 pm9 an9 cd9 ct9), sl9⟩) (c9 : PySem.W.codeIn K cd9 "_law_draw" = true) (k9 : PySem.W.keepIn K (.ref f9) = true)
    (a10 : PySem.W.nsIn K mainGlobals "_law_name" = some (some (.ref f10))) (l10 : K.lookup f10 = some ⟨oc10, od10, .func (PySem.W.fnOf "_law_name" "_law_name" (defArgs s_law_name) (defBody s_law_name) (defScope s_law_name) .none kV10 dc10 pm10 an10 cd10 ct10), sl10⟩) (c10 : PySem.W.codeIn K cd10 "_law_name" = true) (k10 : PySem.W.keepIn K (.ref f10) = true)
    (a11 : PySem.W.nsIn K mainGlobals "_law_names" = some (some (.ref f11))) (l11 : K.lookup f11 = some ⟨oc11, od11, .func (PySem.W.fnOf "_law_names" "_law_names" (defArgs s_law_names) (defBody s_law_names) (defScope s_law_names) .none kV11 dc11 pm11 an11 cd11 ct11), sl11⟩) (c11 : PySem.W.codeIn K cd11 "_law_names" = true) (k11 : PySem.W.keepIn K (.ref f11) = true)
    (a12 : PySem.W.nsIn K mainGlobals "_law_leaf" = some (some (.ref f12))) (l12 : K.lookup f12 = some ⟨oc12, od12, .func (PySem.W.fnOf "_law_leaf" "_law_leaf" (defArgs s_law_leaf) (defBody s_law_leaf) (defScope s_law_leaf) .none kV12 dc12 pm12 an12 cd12 ct12), sl12⟩) (c12 : PySem.W.codeIn K cd12 "_law_leaf" = true) (k12 : PySem.W.keepIn K (.ref f12) = true)
    (a13 : PySem.W.nsIn K mainGlobals "_law_expr" = some (some (.ref f13))) (l13 : K.lookup f13 = some ⟨oc13, od13, .func (PySem.W.fnOf "_law_expr" "_law_expr" (defArgs s_law_expr) (defBody s_law_expr) (defScope s_law_expr) .none kV13 dc13 pm13 an13 cd13 ct13), sl13⟩) (c13 : PySem.W.codeIn K cd13 "_law_expr" = true) (k13 : PySem.W.keepIn K (.ref f13) = true)
    (a14 : PySem.W.nsIn K mainGlobals "_law_amounts" = some (some (.ref f14))) (l14 : K.lookup f14 = some ⟨oc14, od14, .func (PySem.W.fnOf "_law_amounts" "_law_amounts" (defArgs s_law_amounts) (defBody s_law_amounts) (defScope s_law_amounts) .none kV14 dc14 pm14 an14 cd14 ct14), sl14⟩) (c14 : PySem.W.codeIn K cd14 "_law_amounts" = true) (k14 : PySem.W.keepIn K (.ref f14) = true)
    (a15 : PySem.W.nsIn K mainGlobals "_law_drawing" = some (some (.ref f15))) (l15 : K.lookup f15 = some ⟨oc15, od15, .func (PySem.W.fnOf "_law_drawing" "_law_drawing" (defArgs s_law_drawing) (defBody s_law_drawing) (defScope s_law_drawing) .none kV15 dc15 pm15 an15 cd15 ct15), sl15⟩) (c15 : PySem.W.codeIn K cd15 "_law_drawing" = true) (k15 : PySem.W.keepIn K (.ref f15) = true)
    (a16 : PySem.W.nsIn K mainGlobals "_law_calling" = some (some (.ref f16))) (l16 : K.lookup f16 = some ⟨oc16, od16, .func (PySem.W.fnOf "_law_calling" "_law_calling" (defArgs s_law_calling) (defBody s_law_calling) (defScope s_law_calling) .none kV16 dc16 pm16 an16 cd16 ct16), sl16⟩) (c16 : PySem.W.codeIn K cd16 "_law_calling" = true) (k16 : PySem.W.keepIn K (.ref f16) = true)
    (a17 : PySem.W.nsIn K mainGlobals "_law_simple" = some (some (.ref f17))) (l17 : K.lookup f17 = some ⟨oc17, od17, .func (PySem.W.fnOf "_law_simple" "_law_simple" (defArgs s_law_simple) (defBody s_law_simple) (defScope s_law_simple) .none kV17 dc17 pm17 an17 cd17 ct17), sl17⟩) (c17 : PySem.W.codeIn K cd17 "_law_simple" = true) (k17 : PySem.W.keepIn K (.ref f17) = true)
    (a18 : PySem.W.nsIn K mainGlobals "_law_block" = some (some (.ref f18))) (l18 : K.lookup f18 = some ⟨oc18, od18, .func (PySem.W.fnOf "_law_block" "_law_block" (defArgs s_law_block) (defBody s_law_block) (defScope s_law_block) .none kV18 dc18 pm18 an18 cd18 ct18), sl18⟩) (c18 : PySem.W.codeIn K cd18 "_law_block" = true) (k18 : PySem.W.keepIn K (.ref f18) = true)
    (a19 : PySem.W.nsIn K mainGlobals "_law_inner" = some (some (.ref f19))) (l19 : K.lookup f19 = some ⟨oc19, od19, .func (PySem.W.fnOf "_law_inner" "_law_inner" (defArgs s_law_inner) (defBody s_law_inner) (defScope s_law_inner) .none kV19 dc19 pm19 an19 cd19 ct19), sl19⟩) (c19 : PySem.W.codeIn K cd19 "_law_inner" = true) (k19 : PySem.W.keepIn K (.ref f19) = true)
    (a20 : PySem.W.nsIn K mainGlobals "_law_trees" = some (some (.ref f20))) (l20 : K.lookup f20 = some ⟨oc20, od20, .func (PySem.W.fnOf "_law_trees" "_law_trees" (defArgs s_law_trees) (defBody s_law_trees) (defScope s_law_trees) .none kV20 dc20 pm20 an20 cd20 ct20), sl20⟩) (c20 : PySem.W.codeIn K cd20 "_law_trees" = true) (k20 : PySem.W.keepIn K (.ref f20) = true)
    (a21 : PySem.W.nsIn K mainGlobals "_law_targets" = some (some (.ref f21))) (l21 : K.lookup f21 = some ⟨oc21, od21, .func (PySem.W.fnOf "_law_targets" "_law_targets" (defArgs s_law_targets) (defBody s_law_targets) (defScope s_law_targets) .none kV21 dc21 pm21 an21 cd21 ct21), sl21⟩) (c21 : PySem.W.codeIn K cd21 "_law_targets" = true) (k21 : PySem.W.keepIn K (.ref f21) = true)
    (a22 : PySem.W.nsIn K mainGlobals "law" = some (some (.ref f22))) (l22 : K.lookup f22 = some ⟨oc22, od22, .func (PySem.W.fnOf "law" "law" (defArgs s_law) (defBody s_law) (defScope s_law) .none kV22 dc22 pm22 an22 cd22 ct22), sl22⟩) (c22 : PySem.W.codeIn K cd22 "law" = true) (k22 : PySem.W.keepIn K (.ref f22) = true)
    (zlist : PySem.W.nsIn K mainGlobals "list" = some none)
    (zsorted : PySem.W.nsIn K mainGlobals "sorted" = some none)
    (zisinstance : PySem.W.nsIn K mainGlobals "isinstance" = some none)
    (ztuple : PySem.W.nsIn K mainGlobals "tuple" = some none)
    (zlen : PySem.W.nsIn K mainGlobals "len" = some none)
    (zrange : PySem.W.nsIn K mainGlobals "range" = some none)
    (zbool : PySem.W.nsIn K mainGlobals "bool" = some none)
    (zint : PySem.W.nsIn K mainGlobals "int" = some none)
    (zstr : PySem.W.nsIn K mainGlobals "str" = some none)
    (zmin : PySem.W.nsIn K mainGlobals "min" = some none)
    {YEXPRESSION_PLACES0 : Addr} {oyEXPRESSION_PLACES0 : Option Addr} {syEXPRESSION_PLACES0 : Array (Option Value)} {nyEXPRESSION_PLACES0 : Nat} {tyEXPRESSION_PLACES0_0 : Tok} {YEXPRESSION_PLACES1 : Addr} {oyEXPRESSION_PLACES1 : Option Addr} {syEXPRESSION_PLACES1 : Array (Option Value)} {nyEXPRESSION_PLACES1 : Nat} {tyEXPRESSION_PLACES1_0 : Tok} {tyEXPRESSION_PLACES1_1 : Tok} {YEXPRESSION_PLACES2 : Addr} {oyEXPRESSION_PLACES2 : Option Addr} {syEXPRESSION_PLACES2 : Array (Option Value)} {nyEXPRESSION_PLACES2 : Nat} {tyEXPRESSION_PLACES2_0 : Tok} {tyEXPRESSION_PLACES2_1 : Tok} {YEXPRESSION_PLACES3 : Addr} {oyEXPRESSION_PLACES3 : Option Addr} {syEXPRESSION_PLACES3 : Array (Option Value)} {nyEXPRESSION_PLACES3 : Nat} {tyEXPRESSION_PLACES3_0 : Tok} {tyEXPRESSION_PLACES3_1 : Tok} {YEXPRESSION_PLACES4 : Addr} {oyEXPRESSION_PLACES4 : Option Addr} {syEXPRESSION_PLACES4 : Array (Option Value)} {nyEXPRESSION_PLACES4 : Nat} {tyEXPRESSION_PLACES4_0 : Tok} {YEXPRESSION_PLACES5 : Addr} {oyEXPRESSION_PLACES5 : Option Addr} {syEXPRESSION_PLACES5 : Array (Option Value)} {nyEXPRESSION_PLACES5 : Nat} {tyEXPRESSION_PLACES5_0 : Tok} {tyEXPRESSION_PLACES5_1 : Tok} {YEXPRESSION_PLACES6 : Addr} {oyEXPRESSION_PLACES6 : Option Addr} {syEXPRESSION_PLACES6 : Array (Option Value)} {nyEXPRESSION_PLACES6 : Nat} {tyEXPRESSION_PLACES6_0 : Tok} {YEXPRESSION_PLACES7 : Addr} {oyEXPRESSION_PLACES7 : Option Addr} {syEXPRESSION_PLACES7 : Array (Option Value)} {nyEXPRESSION_PLACES7 : Nat} {tyEXPRESSION_PLACES7_0 : Tok} {YEXPRESSION_PLACES8 : Addr} {oyEXPRESSION_PLACES8 : Option Addr} {syEXPRESSION_PLACES8 : Array (Option Value)} {nyEXPRESSION_PLACES8 : Nat} {tyEXPRESSION_PLACES8_0 : Tok}
    {ZEXPRESSION_PLACES : Addr} {nnEXPRESSION_PLACES : Nat} {tkEXPRESSION_PLACES0 tkEXPRESSION_PLACES1 tkEXPRESSION_PLACES2 tkEXPRESSION_PLACES3 tkEXPRESSION_PLACES4 tkEXPRESSION_PLACES5 tkEXPRESSION_PLACES6 tkEXPRESSION_PLACES7 tkEXPRESSION_PLACES8 : Tok} {hhEXPRESSION_PLACES0 hhEXPRESSION_PLACES1 hhEXPRESSION_PLACES2 hhEXPRESSION_PLACES3 hhEXPRESSION_PLACES4 hhEXPRESSION_PLACES5 hhEXPRESSION_PLACES6 hhEXPRESSION_PLACES7 hhEXPRESSION_PLACES8 : Int} (gEXPRESSION_PLACES : PySem.W.nsIn K mainGlobals "EXPRESSION_PLACES" = some (some (.ref ZEXPRESSION_PLACES))) (lEXPRESSION_PLACES : K.lookup ZEXPRESSION_PLACES = some ⟨.type "dict", none, .dict #[⟨hhEXPRESSION_PLACES0, .str (Str.ofString "set") tkEXPRESSION_PLACES0, .ref YEXPRESSION_PLACES0⟩, ⟨hhEXPRESSION_PLACES1, .str (Str.ofString "store") tkEXPRESSION_PLACES1, .ref YEXPRESSION_PLACES1⟩, ⟨hhEXPRESSION_PLACES2, .str (Str.ofString "flip") tkEXPRESSION_PLACES2, .ref YEXPRESSION_PLACES2⟩, ⟨hhEXPRESSION_PLACES3, .str (Str.ofString "uniform") tkEXPRESSION_PLACES3, .ref YEXPRESSION_PLACES3⟩, ⟨hhEXPRESSION_PLACES4, .str (Str.ofString "observe") tkEXPRESSION_PLACES4, .ref YEXPRESSION_PLACES4⟩, ⟨hhEXPRESSION_PLACES5, .str (Str.ofString "weigh") tkEXPRESSION_PLACES5, .ref YEXPRESSION_PLACES5⟩, ⟨hhEXPRESSION_PLACES6, .str (Str.ofString "assert") tkEXPRESSION_PLACES6, .ref YEXPRESSION_PLACES6⟩, ⟨hhEXPRESSION_PLACES7, .str (Str.ofString "if") tkEXPRESSION_PLACES7, .ref YEXPRESSION_PLACES7⟩, ⟨hhEXPRESSION_PLACES8, .str (Str.ofString "while") tkEXPRESSION_PLACES8, .ref YEXPRESSION_PLACES8⟩] nnEXPRESSION_PLACES, #[]⟩) (wEXPRESSION_PLACES : (ZEXPRESSION_PLACES == sysModules) = false) (qEXPRESSION_PLACES0 : hhEXPRESSION_PLACES0 = PyData.keyHash pr (Str.ofString "set")) (qEXPRESSION_PLACES1 : hhEXPRESSION_PLACES1 = PyData.keyHash pr (Str.ofString "store")) (qEXPRESSION_PLACES2 : hhEXPRESSION_PLACES2 = PyData.keyHash pr (Str.ofString "flip")) (qEXPRESSION_PLACES3 : hhEXPRESSION_PLACES3 = PyData.keyHash pr (Str.ofString "uniform")) (qEXPRESSION_PLACES4 : hhEXPRESSION_PLACES4 = PyData.keyHash pr (Str.ofString "observe")) (qEXPRESSION_PLACES5 : hhEXPRESSION_PLACES5 = PyData.keyHash pr (Str.ofString "weigh")) (qEXPRESSION_PLACES6 : hhEXPRESSION_PLACES6 = PyData.keyHash pr (Str.ofString "assert")) (qEXPRESSION_PLACES7 : hhEXPRESSION_PLACES7 = PyData.keyHash pr (Str.ofString "if")) (qEXPRESSION_PLACES8 : hhEXPRESSION_PLACES8 = PyData.keyHash pr (Str.ofString "while"))
    (yEXPRESSION_PLACES0 : K.lookup YEXPRESSION_PLACES0 = some ⟨.type "tuple", oyEXPRESSION_PLACES0, .seq #[.int 2 tyEXPRESSION_PLACES0_0] nyEXPRESSION_PLACES0, syEXPRESSION_PLACES0⟩)
    (yEXPRESSION_PLACES1 : K.lookup YEXPRESSION_PLACES1 = some ⟨.type "tuple", oyEXPRESSION_PLACES1, .seq #[.int 2 tyEXPRESSION_PLACES1_0, .int 3 tyEXPRESSION_PLACES1_1] nyEXPRESSION_PLACES1, syEXPRESSION_PLACES1⟩)
    (yEXPRESSION_PLACES2 : K.lookup YEXPRESSION_PLACES2 = some ⟨.type "tuple", oyEXPRESSION_PLACES2, .seq #[.int 2 tyEXPRESSION_PLACES2_0, .int 3 tyEXPRESSION_PLACES2_1] nyEXPRESSION_PLACES2, syEXPRESSION_PLACES2⟩)
    (yEXPRESSION_PLACES3 : K.lookup YEXPRESSION_PLACES3 = some ⟨.type "tuple", oyEXPRESSION_PLACES3, .seq #[.int 2 tyEXPRESSION_PLACES3_0, .int 3 tyEXPRESSION_PLACES3_1] nyEXPRESSION_PLACES3, syEXPRESSION_PLACES3⟩)
    (yEXPRESSION_PLACES4 : K.lookup YEXPRESSION_PLACES4 = some ⟨.type "tuple", oyEXPRESSION_PLACES4, .seq #[.int 1 tyEXPRESSION_PLACES4_0] nyEXPRESSION_PLACES4, syEXPRESSION_PLACES4⟩)
    (yEXPRESSION_PLACES5 : K.lookup YEXPRESSION_PLACES5 = some ⟨.type "tuple", oyEXPRESSION_PLACES5, .seq #[.int 1 tyEXPRESSION_PLACES5_0, .int 2 tyEXPRESSION_PLACES5_1] nyEXPRESSION_PLACES5, syEXPRESSION_PLACES5⟩)
    (yEXPRESSION_PLACES6 : K.lookup YEXPRESSION_PLACES6 = some ⟨.type "tuple", oyEXPRESSION_PLACES6, .seq #[.int 1 tyEXPRESSION_PLACES6_0] nyEXPRESSION_PLACES6, syEXPRESSION_PLACES6⟩)
    (yEXPRESSION_PLACES7 : K.lookup YEXPRESSION_PLACES7 = some ⟨.type "tuple", oyEXPRESSION_PLACES7, .seq #[.int 1 tyEXPRESSION_PLACES7_0] nyEXPRESSION_PLACES7, syEXPRESSION_PLACES7⟩)
    (yEXPRESSION_PLACES8 : K.lookup YEXPRESSION_PLACES8 = some ⟨.type "tuple", oyEXPRESSION_PLACES8, .seq #[.int 1 tyEXPRESSION_PLACES8_0] nyEXPRESSION_PLACES8, syEXPRESSION_PLACES8⟩)
    {YBLOCK_PLACES0 : Addr} {oyBLOCK_PLACES0 : Option Addr} {syBLOCK_PLACES0 : Array (Option Value)} {nyBLOCK_PLACES0 : Nat} {tyBLOCK_PLACES0_0 : Tok} {tyBLOCK_PLACES0_1 : Tok} {YBLOCK_PLACES1 : Addr} {oyBLOCK_PLACES1 : Option Addr} {syBLOCK_PLACES1 : Array (Option Value)} {nyBLOCK_PLACES1 : Nat} {tyBLOCK_PLACES1_0 : Tok} {YBLOCK_PLACES2 : Addr} {oyBLOCK_PLACES2 : Option Addr} {syBLOCK_PLACES2 : Array (Option Value)} {nyBLOCK_PLACES2 : Nat} {tyBLOCK_PLACES2_0 : Tok} {YBLOCK_PLACES3 : Addr} {oyBLOCK_PLACES3 : Option Addr} {syBLOCK_PLACES3 : Array (Option Value)} {nyBLOCK_PLACES3 : Nat} {tyBLOCK_PLACES3_0 : Tok}
    {ZBLOCK_PLACES : Addr} {nnBLOCK_PLACES : Nat} {tkBLOCK_PLACES0 tkBLOCK_PLACES1 tkBLOCK_PLACES2 tkBLOCK_PLACES3 : Tok} {hhBLOCK_PLACES0 hhBLOCK_PLACES1 hhBLOCK_PLACES2 hhBLOCK_PLACES3 : Int} (gBLOCK_PLACES : PySem.W.nsIn K mainGlobals "BLOCK_PLACES" = some (some (.ref ZBLOCK_PLACES))) (lBLOCK_PLACES : K.lookup ZBLOCK_PLACES = some ⟨.type "dict", none, .dict #[⟨hhBLOCK_PLACES0, .str (Str.ofString "if") tkBLOCK_PLACES0, .ref YBLOCK_PLACES0⟩, ⟨hhBLOCK_PLACES1, .str (Str.ofString "repeat") tkBLOCK_PLACES1, .ref YBLOCK_PLACES1⟩, ⟨hhBLOCK_PLACES2, .str (Str.ofString "while") tkBLOCK_PLACES2, .ref YBLOCK_PLACES2⟩, ⟨hhBLOCK_PLACES3, .str (Str.ofString "for") tkBLOCK_PLACES3, .ref YBLOCK_PLACES3⟩] nnBLOCK_PLACES, #[]⟩) (wBLOCK_PLACES : (ZBLOCK_PLACES == sysModules) = false) (qBLOCK_PLACES0 : hhBLOCK_PLACES0 = PyData.keyHash pr (Str.ofString "if")) (qBLOCK_PLACES1 : hhBLOCK_PLACES1 = PyData.keyHash pr (Str.ofString "repeat")) (qBLOCK_PLACES2 : hhBLOCK_PLACES2 = PyData.keyHash pr (Str.ofString "while")) (qBLOCK_PLACES3 : hhBLOCK_PLACES3 = PyData.keyHash pr (Str.ofString "for"))
    (yBLOCK_PLACES0 : K.lookup YBLOCK_PLACES0 = some ⟨.type "tuple", oyBLOCK_PLACES0, .seq #[.int 2 tyBLOCK_PLACES0_0, .int 3 tyBLOCK_PLACES0_1] nyBLOCK_PLACES0, syBLOCK_PLACES0⟩)
    (yBLOCK_PLACES1 : K.lookup YBLOCK_PLACES1 = some ⟨.type "tuple", oyBLOCK_PLACES1, .seq #[.int 2 tyBLOCK_PLACES1_0] nyBLOCK_PLACES1, syBLOCK_PLACES1⟩)
    (yBLOCK_PLACES2 : K.lookup YBLOCK_PLACES2 = some ⟨.type "tuple", oyBLOCK_PLACES2, .seq #[.int 3 tyBLOCK_PLACES2_0] nyBLOCK_PLACES2, syBLOCK_PLACES2⟩)
    (yBLOCK_PLACES3 : K.lookup YBLOCK_PLACES3 = some ⟨.type "tuple", oyBLOCK_PLACES3, .seq #[.int 4 tyBLOCK_PLACES3_0] nyBLOCK_PLACES3, syBLOCK_PLACES3⟩)
    {ZTARGET_PLACES : Addr} {nnTARGET_PLACES : Nat} {tkTARGET_PLACES0 tvTARGET_PLACES0 tkTARGET_PLACES1 tvTARGET_PLACES1 tkTARGET_PLACES2 tvTARGET_PLACES2 tkTARGET_PLACES3 tvTARGET_PLACES3 tkTARGET_PLACES4 tvTARGET_PLACES4 tkTARGET_PLACES5 tvTARGET_PLACES5 tkTARGET_PLACES6 tvTARGET_PLACES6 : Tok} {hhTARGET_PLACES0 hhTARGET_PLACES1 hhTARGET_PLACES2 hhTARGET_PLACES3 hhTARGET_PLACES4 hhTARGET_PLACES5 hhTARGET_PLACES6 : Int} (gTARGET_PLACES : PySem.W.nsIn K mainGlobals "TARGET_PLACES" = some (some (.ref ZTARGET_PLACES))) (lTARGET_PLACES : K.lookup ZTARGET_PLACES = some ⟨.type "dict", none, .dict #[⟨hhTARGET_PLACES0, .str (Str.ofString "set") tkTARGET_PLACES0, .int 1 tvTARGET_PLACES0⟩, ⟨hhTARGET_PLACES1, .str (Str.ofString "store") tkTARGET_PLACES1, .int 1 tvTARGET_PLACES1⟩, ⟨hhTARGET_PLACES2, .str (Str.ofString "flip") tkTARGET_PLACES2, .int 1 tvTARGET_PLACES2⟩, ⟨hhTARGET_PLACES3, .str (Str.ofString "uniform") tkTARGET_PLACES3, .int 1 tvTARGET_PLACES3⟩, ⟨hhTARGET_PLACES4, .str (Str.ofString "pick") tkTARGET_PLACES4, .int 1 tvTARGET_PLACES4⟩, ⟨hhTARGET_PLACES5, .str (Str.ofString "for") tkTARGET_PLACES5, .int 1 tvTARGET_PLACES5⟩, ⟨hhTARGET_PLACES6, .str (Str.ofString "call") tkTARGET_PLACES6, .int 3 tvTARGET_PLACES6⟩] nnTARGET_PLACES, #[]⟩) (wTARGET_PLACES : (ZTARGET_PLACES == sysModules) = false) (qTARGET_PLACES0 : hhTARGET_PLACES0 = PyData.keyHash pr (Str.ofString "set")) (qTARGET_PLACES1 : hhTARGET_PLACES1 = PyData.keyHash pr (Str.ofString "store")) (qTARGET_PLACES2 : hhTARGET_PLACES2 = PyData.keyHash pr (Str.ofString "flip")) (qTARGET_PLACES3 : hhTARGET_PLACES3 = PyData.keyHash pr (Str.ofString "uniform")) (qTARGET_PLACES4 : hhTARGET_PLACES4 = PyData.keyHash pr (Str.ofString "pick")) (qTARGET_PLACES5 : hhTARGET_PLACES5 = PyData.keyHash pr (Str.ofString "for")) (qTARGET_PLACES6 : hhTARGET_PLACES6 = PyData.keyHash pr (Str.ofString "call")) :
    ∃ A : At, A.a_law = fa ∧ (∀ (s : Shared) (v : Value), BindsTo s A.d_law ⟨[v], []⟩ [("script", v)]) ∧ Txt K mg A ∧ Dic K mg pr := by
  have e := hfa.symm.trans (PySem.W.mg_of X G a22)
  cases e
  have F0 := fun_mk (st := s_expressions_of) l0 c0 k0
  have b0 := F0.binds (ps := ["statement"]) fun _ _ _ _ _ _ us hl => match us, hl with | [_], _ => rfl
  have F1 := fun_mk (st := s_blocks_of) l1 c1 k1
  have b1 := F1.binds (ps := ["statement"]) fun _ _ _ _ _ _ us hl => match us, hl with | [_], _ => rfl
  have F2 := fun_mk (st := s_has_target) l2 c2 k2
  have b2 := F2.binds (ps := ["statement"]) fun _ _ _ _ _ _ us hl => match us, hl with | [_], _ => rfl
  have F3 := fun_mk (st := s_target_of) l3 c3 k3
  have b3 := F3.binds (ps := ["statement"]) fun _ _ _ _ _ _ us hl => match us, hl with | [_], _ => rfl
  have F4 := fun_mk (st := s_statements_in) l4 c4 k4
  have b4 := F4.binds (ps := ["block"]) fun _ _ _ _ _ _ us hl => match us, hl with | [_], _ => rfl
  have F5 := fun_mk (st := s_targets_of) l5 c5 k5
  have b5 := F5.binds (ps := ["block"]) fun _ _ _ _ _ _ us hl => match us, hl with | [_], _ => rfl
  have F6 := fun_mk (st := s_law_same) l6 c6 k6
  have b6 := F6.binds (ps := ["actual", "due"]) fun _ _ _ _ _ _ us hl => match us, hl with | [_, _], _ => rfl
  have F7 := fun_mk (st := s_law_pool) l7 c7 k7
  have b7 := F7.binds (ps := ["script"]) fun _ _ _ _ _ _ us hl => match us, hl with | [_], _ => rfl
  have F8 := fun_mk (st := s_law_spread) l8 c8 k8
  have b8 := F8.binds (ps := ["cell"]) fun _ _ _ _ _ _ us hl => match us, hl with | [_], _ => rfl
  have F9 := fun_mk (st := s_law_draw) l9 c9 k9
  have b9 := F9.binds (ps := ["pool", "many"]) fun _ _ _ _ _ _ us hl => match us, hl with | [_, _], _ => rfl
  have F10 := fun_mk (st := s_law_name) l10 c10 k10
  have b10 := F10.binds (ps := ["pool", "taken"]) fun _ _ _ _ _ _ us hl => match us, hl with | [_, _], _ => rfl
  have F11 := fun_mk (st := s_law_names) l11 c11 k11
  have b11 := F11.binds (ps := ["pool"]) fun _ _ _ _ _ _ us hl => match us, hl with | [_], _ => rfl
  have F12 := fun_mk (st := s_law_leaf) l12 c12 k12
  have b12 := F12.binds (ps := ["pool", "kind", "names"]) fun _ _ _ _ _ _ us hl => match us, hl with | [_, _, _], _ => rfl
  have F13 := fun_mk (st := s_law_expr) l13 c13 k13
  have b13 := F13.binds (ps := ["pool", "kind", "names", "depth"]) fun _ _ _ _ _ _ us hl => match us, hl with | [_, _, _, _], _ => rfl
  have F14 := fun_mk (st := s_law_amounts) l14 c14 k14
  have b14 := F14.binds (ps := ["pool", "names"]) fun _ _ _ _ _ _ us hl => match us, hl with | [_, _], _ => rfl
  have F15 := fun_mk (st := s_law_drawing) l15 c15 k15
  have b15 := F15.binds (ps := ["pool", "names", "row"]) fun _ _ _ _ _ _ us hl => match us, hl with | [_, _, _], _ => rfl
  have F16 := fun_mk (st := s_law_calling) l16 c16 k16
  have b16 := F16.binds (ps := ["pool", "names", "procs", "targets"]) fun _ _ _ _ _ _ us hl => match us, hl with | [_, _, _, _], _ => rfl
  have F17 := fun_mk (st := s_law_simple) l17 c17 k17
  have b17 := F17.binds (ps := ["pool", "names", "targets", "turn"]) fun _ _ _ _ _ _ us hl => match us, hl with | [_, _, _, _], _ => rfl
  have F18 := fun_mk (st := s_law_block) l18 c18 k18
  have b18 := F18.binds (ps := ["pool", "names", "procs", "depth", "most"]) fun _ _ _ _ _ _ us hl => match us, hl with | [_, _, _, _, _], _ => rfl
  have F19 := fun_mk (st := s_law_inner) l19 c19 k19
  have b19 := F19.binds (ps := ["row"]) fun _ _ _ _ _ _ us hl => match us, hl with | [_], _ => rfl
  have F20 := fun_mk (st := s_law_trees) l20 c20 k20
  have b20 := F20.binds (ps := ["row"]) fun _ _ _ _ _ _ us hl => match us, hl with | [_], _ => rfl
  have F21 := fun_mk (st := s_law_targets) l21 c21 k21
  have b21 := F21.binds (ps := ["block", "names"]) fun _ _ _ _ _ _ us hl => match us, hl with | [_, _], _ => rfl
  have F22 := fun_mk (st := s_law) l22 c22 k22
  have b22 := F22.binds (ps := ["script"]) fun _ _ _ _ _ _ us hl => match us, hl with | [_], _ => rfl
  exact ⟨⟨f0, PySem.W.fnOf "expressions_of" "expressions_of" (defArgs s_expressions_of) (defBody s_expressions_of) (defScope s_expressions_of) .none kV0 dc0 pm0 an0 cd0 ct0, f1, PySem.W.fnOf "blocks_of" "blocks_of" (defArgs s_blocks_of) (defBody s_blocks_of) (defScope s_blocks_of) .none kV1 dc1 pm1 an1 cd1 ct1, f2, PySem.W.fnOf "has_target" "has_target" (defArgs s_has_target) (defBody s_has_target) (defScope s_has_target) .none kV2 dc2 pm2 an2 cd2 ct2, f3, PySem.W.fnOf "target_of" "target_of" (defArgs s_target_of) (defBody s_target_of) (defScope s_target_of) .none kV3 dc3 pm3 an3 cd3 ct3, f4, PySem.W.fnOf "statements_in" "statements_in" (defArgs s_statements_in) (defBody s_statements_in) (defScope s_statements_in) .none kV4 dc4 pm4 an4 cd4 ct4, f5, PySem.W.fnOf "targets_of" "targets_of" (defArgs s_targets_of) (defBody s_targets_of) (defScope s_targets_of) .none kV5 dc5 pm5 an5 cd5 ct5, f6, PySem.W.fnOf "_law_same" "_law_same" (defArgs s_law_same) (defBody s_law_same) (defScope s_law_same) .none kV6 dc6 pm6 an6 cd6 ct6, f7, PySem.W.fnOf "_law_pool" "_law_pool" (defArgs s_law_pool) (defBody s_law_pool) (defScope s_law_pool) .none kV7 dc7 pm7 an7 cd7 ct7, f8, PySem.W.fnOf "_law_spread" "_law_spread" (defArgs s_law_spread) (defBody s_law_spread) (defScope s_law_spread) .none kV8 dc8 pm8 an8 cd8 ct8, f9, PySem.W.fnOf "_law_draw" "_law_draw" (defArgs s_law_draw) (defBody s_law_draw) (defScope s_law_draw) .none kV9 dc9 pm9 an9 cd9 ct9, f10, PySem.W.fnOf "_law_name" "_law_name" (defArgs s_law_name) (defBody s_law_name) (defScope s_law_name) .none kV10 dc10 pm10 an10 cd10 ct10, f11, PySem.W.fnOf "_law_names" "_law_names" (defArgs s_law_names) (defBody s_law_names) (defScope s_law_names) .none kV11 dc11 pm11 an11 cd11 ct11, f12, PySem.W.fnOf "_law_leaf" "_law_leaf" (defArgs s_law_leaf) (defBody s_law_leaf) (defScope s_law_leaf) .none kV12 dc12 pm12 an12 cd12 ct12, f13, PySem.W.fnOf "_law_expr" "_law_expr" (defArgs s_law_expr) (defBody s_law_expr) (defScope s_law_expr) .none kV13 dc13 pm13 an13 cd13 ct13, f14, PySem.W.fnOf "_law_amounts" "_law_amounts" (defArgs s_law_amounts) (defBody s_law_amounts) (defScope s_law_amounts) .none kV14 dc14 pm14 an14 cd14 ct14, f15, PySem.W.fnOf "_law_drawing" "_law_drawing" (defArgs s_law_drawing) (defBody s_law_drawing) (defScope s_law_drawing) .none kV15 dc15 pm15 an15 cd15 ct15, f16, PySem.W.fnOf "_law_calling" "_law_calling" (defArgs s_law_calling) (defBody s_law_calling) (defScope s_law_calling) .none kV16 dc16 pm16 an16 cd16 ct16, f17, PySem.W.fnOf "_law_simple" "_law_simple" (defArgs s_law_simple) (defBody s_law_simple) (defScope s_law_simple) .none kV17 dc17 pm17 an17 cd17 ct17, f18, PySem.W.fnOf "_law_block" "_law_block" (defArgs s_law_block) (defBody s_law_block) (defScope s_law_block) .none kV18 dc18 pm18 an18 cd18 ct18, f19, PySem.W.fnOf "_law_inner" "_law_inner" (defArgs s_law_inner) (defBody s_law_inner) (defScope s_law_inner) .none kV19 dc19 pm19 an19 cd19 ct19, f20, PySem.W.fnOf "_law_trees" "_law_trees" (defArgs s_law_trees) (defBody s_law_trees) (defScope s_law_trees) .none kV20 dc20 pm20 an20 cd20 ct20, f21, PySem.W.fnOf "_law_targets" "_law_targets" (defArgs s_law_targets) (defBody s_law_targets) (defScope s_law_targets) .none kV21 dc21 pm21 an21 cd21 ct21, fa, PySem.W.fnOf "law" "law" (defArgs s_law) (defBody s_law) (defScope s_law) .none kV22 dc22 pm22 an22 cd22 ct22⟩, rfl, fun s v => .of_eq rfl,
    ⟨⟨F0, PySem.W.mg_of X G a0, b0⟩,
    ⟨F1, PySem.W.mg_of X G a1, b1⟩,
    ⟨F2, PySem.W.mg_of X G a2, b2⟩,
    ⟨F3, PySem.W.mg_of X G a3, b3⟩,
    ⟨F4, PySem.W.mg_of X G a4, b4⟩,
    ⟨F5, PySem.W.mg_of X G a5, b5⟩,
    ⟨F6, PySem.W.mg_of X G a6, b6⟩,
    ⟨F7, PySem.W.mg_of X G a7, b7⟩,
    ⟨F8, PySem.W.mg_of X G a8, b8⟩,
    ⟨F9, PySem.W.mg_of X G a9, b9⟩,
    ⟨F10, PySem.W.mg_of X G a10, b10⟩,
    ⟨F11, PySem.W.mg_of X G a11, b11⟩,
    ⟨F12, PySem.W.mg_of X G a12, b12⟩,
    ⟨F13, PySem.W.mg_of X G a13, b13⟩,
    ⟨F14, PySem.W.mg_of X G a14, b14⟩,
    ⟨F15, PySem.W.mg_of X G a15, b15⟩,
    ⟨F16, PySem.W.mg_of X G a16, b16⟩,
    ⟨F17, PySem.W.mg_of X G a17, b17⟩,
    ⟨F18, PySem.W.mg_of X G a18, b18⟩,
    ⟨F19, PySem.W.mg_of X G a19, b19⟩,
    ⟨F20, PySem.W.mg_of X G a20, b20⟩,
    ⟨F21, PySem.W.mg_of X G a21, b21⟩,
    ⟨F22, PySem.W.mg_of X G a22, b22⟩,
    PySem.W.mg_none_of X G zlist,
    PySem.W.mg_none_of X G zsorted,
    PySem.W.mg_none_of X G zisinstance,
    PySem.W.mg_none_of X G ztuple,
    PySem.W.mg_none_of X G zlen,
    PySem.W.mg_none_of X G zrange,
    PySem.W.mg_none_of X G zbool,
    PySem.W.mg_none_of X G zint,
    PySem.W.mg_none_of X G zstr,
    PySem.W.mg_none_of X G zmin⟩,
    ⟨⟨ZEXPRESSION_PLACES, PySem.W.mg_of X G gEXPRESSION_PLACES, [(Str.ofString "set", .ref YEXPRESSION_PLACES0), (Str.ofString "store", .ref YEXPRESSION_PLACES1), (Str.ofString "flip", .ref YEXPRESSION_PLACES2), (Str.ofString "uniform", .ref YEXPRESSION_PLACES3), (Str.ofString "observe", .ref YEXPRESSION_PLACES4), (Str.ofString "weigh", .ref YEXPRESSION_PLACES5), (Str.ofString "assert", .ref YEXPRESSION_PLACES6), (Str.ofString "if", .ref YEXPRESSION_PLACES7), (Str.ofString "while", .ref YEXPRESSION_PLACES8)], dictT_mk lEXPRESSION_PLACES wEXPRESSION_PLACES ⟨⟨⟨_, rfl⟩, qEXPRESSION_PLACES0, rfl⟩, ⟨⟨_, rfl⟩, qEXPRESSION_PLACES1, rfl⟩, ⟨⟨_, rfl⟩, qEXPRESSION_PLACES2, rfl⟩, ⟨⟨_, rfl⟩, qEXPRESSION_PLACES3, rfl⟩, ⟨⟨_, rfl⟩, qEXPRESSION_PLACES4, rfl⟩, ⟨⟨_, rfl⟩, qEXPRESSION_PLACES5, rfl⟩, ⟨⟨_, rfl⟩, qEXPRESSION_PLACES6, rfl⟩, ⟨⟨_, rfl⟩, qEXPRESSION_PLACES7, rfl⟩, ⟨⟨_, rfl⟩, qEXPRESSION_PLACES8, rfl⟩, trivial⟩, fun w => ⟨_, _, rfl, (by rw [Rv]; exact ⟨_, [.int 2], rfl, .inr ⟨_, _, _, yEXPRESSION_PLACES0, rfl, rfl, by show 1 ≤ sizeLine; decide, .cons ⟨_, rfl⟩ (.nil)⟩, Rvs.of_sc rfl⟩), ⟨_, _, rfl, (by rw [Rv]; exact ⟨_, [.int 2, .int 3], rfl, .inr ⟨_, _, _, yEXPRESSION_PLACES1, rfl, rfl, by show 2 ≤ sizeLine; decide, .cons ⟨_, rfl⟩ (.cons ⟨_, rfl⟩ (.nil))⟩, Rvs.of_sc rfl⟩), ⟨_, _, rfl, (by rw [Rv]; exact ⟨_, [.int 2, .int 3], rfl, .inr ⟨_, _, _, yEXPRESSION_PLACES2, rfl, rfl, by show 2 ≤ sizeLine; decide, .cons ⟨_, rfl⟩ (.cons ⟨_, rfl⟩ (.nil))⟩, Rvs.of_sc rfl⟩), ⟨_, _, rfl, (by rw [Rv]; exact ⟨_, [.int 2, .int 3], rfl, .inr ⟨_, _, _, yEXPRESSION_PLACES3, rfl, rfl, by show 2 ≤ sizeLine; decide, .cons ⟨_, rfl⟩ (.cons ⟨_, rfl⟩ (.nil))⟩, Rvs.of_sc rfl⟩), ⟨_, _, rfl, (by rw [Rv]; exact ⟨_, [.int 1], rfl, .inr ⟨_, _, _, yEXPRESSION_PLACES4, rfl, rfl, by show 1 ≤ sizeLine; decide, .cons ⟨_, rfl⟩ (.nil)⟩, Rvs.of_sc rfl⟩), ⟨_, _, rfl, (by rw [Rv]; exact ⟨_, [.int 1, .int 2], rfl, .inr ⟨_, _, _, yEXPRESSION_PLACES5, rfl, rfl, by show 2 ≤ sizeLine; decide, .cons ⟨_, rfl⟩ (.cons ⟨_, rfl⟩ (.nil))⟩, Rvs.of_sc rfl⟩), ⟨_, _, rfl, (by rw [Rv]; exact ⟨_, [.int 1], rfl, .inr ⟨_, _, _, yEXPRESSION_PLACES6, rfl, rfl, by show 1 ≤ sizeLine; decide, .cons ⟨_, rfl⟩ (.nil)⟩, Rvs.of_sc rfl⟩), ⟨_, _, rfl, (by rw [Rv]; exact ⟨_, [.int 1], rfl, .inr ⟨_, _, _, yEXPRESSION_PLACES7, rfl, rfl, by show 1 ≤ sizeLine; decide, .cons ⟨_, rfl⟩ (.nil)⟩, Rvs.of_sc rfl⟩), ⟨_, _, rfl, (by rw [Rv]; exact ⟨_, [.int 1], rfl, .inr ⟨_, _, _, yEXPRESSION_PLACES8, rfl, rfl, by show 1 ≤ sizeLine; decide, .cons ⟨_, rfl⟩ (.nil)⟩, Rvs.of_sc rfl⟩), rfl⟩⟩⟩⟩⟩⟩⟩⟩⟩⟩, ⟨ZBLOCK_PLACES, PySem.W.mg_of X G gBLOCK_PLACES, [(Str.ofString "if", .ref YBLOCK_PLACES0), (Str.ofString "repeat", .ref YBLOCK_PLACES1), (Str.ofString "while", .ref YBLOCK_PLACES2), (Str.ofString "for", .ref YBLOCK_PLACES3)], dictT_mk lBLOCK_PLACES wBLOCK_PLACES ⟨⟨⟨_, rfl⟩, qBLOCK_PLACES0, rfl⟩, ⟨⟨_, rfl⟩, qBLOCK_PLACES1, rfl⟩, ⟨⟨_, rfl⟩, qBLOCK_PLACES2, rfl⟩, ⟨⟨_, rfl⟩, qBLOCK_PLACES3, rfl⟩, trivial⟩, fun w => ⟨_, _, rfl, (by rw [Rv]; exact ⟨_, [.int 2, .int 3], rfl, .inr ⟨_, _, _, yBLOCK_PLACES0, rfl, rfl, by show 2 ≤ sizeLine; decide, .cons ⟨_, rfl⟩ (.cons ⟨_, rfl⟩ (.nil))⟩, Rvs.of_sc rfl⟩), ⟨_, _, rfl, (by rw [Rv]; exact ⟨_, [.int 2], rfl, .inr ⟨_, _, _, yBLOCK_PLACES1, rfl, rfl, by show 1 ≤ sizeLine; decide, .cons ⟨_, rfl⟩ (.nil)⟩, Rvs.of_sc rfl⟩), ⟨_, _, rfl, (by rw [Rv]; exact ⟨_, [.int 3], rfl, .inr ⟨_, _, _, yBLOCK_PLACES2, rfl, rfl, by show 1 ≤ sizeLine; decide, .cons ⟨_, rfl⟩ (.nil)⟩, Rvs.of_sc rfl⟩), ⟨_, _, rfl, (by rw [Rv]; exact ⟨_, [.int 4], rfl, .inr ⟨_, _, _, yBLOCK_PLACES3, rfl, rfl, by show 1 ≤ sizeLine; decide, .cons ⟨_, rfl⟩ (.nil)⟩, Rvs.of_sc rfl⟩), rfl⟩⟩⟩⟩⟩, ⟨ZTARGET_PLACES, PySem.W.mg_of X G gTARGET_PLACES, [(Str.ofString "set", .int 1), (Str.ofString "store", .int 1), (Str.ofString "flip", .int 1), (Str.ofString "uniform", .int 1), (Str.ofString "pick", .int 1), (Str.ofString "for", .int 1), (Str.ofString "call", .int 3)], dictT_mk lTARGET_PLACES wTARGET_PLACES ⟨⟨⟨_, rfl⟩, qTARGET_PLACES0, ⟨_, rfl⟩⟩, ⟨⟨_, rfl⟩, qTARGET_PLACES1, ⟨_, rfl⟩⟩, ⟨⟨_, rfl⟩, qTARGET_PLACES2, ⟨_, rfl⟩⟩, ⟨⟨_, rfl⟩, qTARGET_PLACES3, ⟨_, rfl⟩⟩, ⟨⟨_, rfl⟩, qTARGET_PLACES4, ⟨_, rfl⟩⟩, ⟨⟨_, rfl⟩, qTARGET_PLACES5, ⟨_, rfl⟩⟩, ⟨⟨_, rfl⟩, qTARGET_PLACES6, ⟨_, rfl⟩⟩, trivial⟩, fun w => ⟨_, _, rfl, (by rw [Rv]), ⟨_, _, rfl, (by rw [Rv]), ⟨_, _, rfl, (by rw [Rv]), ⟨_, _, rfl, (by rw [Rv]), ⟨_, _, rfl, (by rw [Rv]), ⟨_, _, rfl, (by rw [Rv]), ⟨_, _, rfl, (by rw [Rv]), rfl⟩⟩⟩⟩⟩⟩⟩⟩⟩⟩
theorem walk {l : PySem.W.OpenLaw} {q : Program} {loose : List Str} {XP : (Str → Option Value) → Heap → Prop} {YP : World → Heap → Prop} {d : DefRec} {K : Params → PySem.W.Frag} (hn : l.most = some 63) (hdf : d.params.defaults = [])
    (hY : ∀ (w : World) (h : Heap), YP w h → (K w.params).In h)
    (F : ∀ (w : World) (mg : Str → Option Value) (fa : Addr) (h : Heap), (K w.params).In h → h.Ns mainGlobals mg → mg d.name = some (.ref fa) →
      ∃ A : At, A.a_law = fa ∧ (∀ (s : Shared) (v : Value), BindsTo s A.d_law ⟨[v], []⟩ [("script", v)]) ∧ Txt (K w.params) mg A ∧ Dic (K w.params) mg w.params) :
    PySem.W.WalkO q loose XP YP l.row.toRowW d [] (fun f vs => PySem.call f vs) :=
  L2.walk_of (n := 63) (k := 13) (x := "script") (CX := fun w => L2.CX l.prog w) (sp := fun w => spLawF (K w.params)) hn (by decide) hdf ⟨rfl, by decide, by decide⟩ hY
    (fun w mg fa h X G e => by
      obtain ⟨A, rfl, hb, T, Dd⟩ := F w mg fa h X G e
      exact ⟨A.d_law, hb, fun base _ _ => law_top (ok_law T Dd) fun ns hn => law_ok ns (by rw [sizeLine_eq]; omega)⟩)
    (fun _ _ a ns hl hO hS => ⟨a, ns, rfl, sqf_of hO hS, hl, fun _ => rfl⟩) fun _ _ _ _ _ z => by
      obtain ⟨_, _, _, _, _, _, _, _, _, _, _, _, z⟩ := z
      exact z
end O
open PySem PySem.W PyProof.Rows
set_option maxRecDepth 100000 in
set_option maxHeartbeats 0 in
theorem PySem.Challenge.cw_odds_k16_parts_of_statements_holds : PySem.Challenge.rw_odds_k16_parts_of_statements.Holds := by
  w_on; o_law; k_head; (case hw => w_witness2)
  k_fill
  refine O.walk (l := PySem.Challenge.rw_odds_k16_parts_of_statements) rfl rfl (fun w h Y => PySem.W.kIn_of Y) ?F
  case F =>
    intro w mg fa h KX G hmg
    refine' O.all_mk KX G hmg ?a0 ?l0 ?c0 ?k0 ?a1 ?l1 ?c1 ?k1 ?a2 ?l2 ?c2 ?k2 ?a3 ?l3 ?c3 ?k3 ?a4 ?l4 ?c4 ?k4 ?a5 ?l5 ?c5 ?k5 ?a6 ?l6 ?c6 ?k6 ?a7 ?l7 ?c7 ?k7 ?a8 ?l8 ?c8 ?k8 ?a9 ?l9 ?c9 ?k9 ?a10 ?l10 ?c10 ?k10 ?a11 ?l11 ?c11 ?k11 ?a12 ?l12 ?c12 ?k12 ?a13 ?l13 ?c13 ?k13 ?a14 ?l14 ?c14 ?k14 ?a15 ?l15 ?c15 ?k15 ?a16 ?l16 ?c16 ?k16 ?a17 ?l17 ?c17 ?k17 ?a18 ?l18 ?c18 ?k18 ?a19 ?l19 ?c19 ?k19 ?a20 ?l20 ?c20 ?k20 ?a21 ?l21 ?c21 ?k21 ?a22 ?l22 ?c22 ?k22 ?zlist ?zsorted ?zisinstance ?ztuple ?zlen ?zrange ?zbool ?zint ?zstr ?zmin ?gEXPRESSION_PLACES ?lEXPRESSION_PLACES ?wEXPRESSION_PLACES ?qEXPRESSION_PLACES0 ?qEXPRESSION_PLACES1 ?qEXPRESSION_PLACES2 ?qEXPRESSION_PLACES3 ?qEXPRESSION_PLACES4 ?qEXPRESSION_PLACES5 ?qEXPRESSION_PLACES6 ?qEXPRESSION_PLACES7 ?qEXPRESSION_PLACES8 ?yEXPRESSION_PLACES0 ?yEXPRESSION_PLACES1 ?yEXPRESSION_PLACES2 ?yEXPRESSION_PLACES3 ?yEXPRESSION_PLACES4 ?yEXPRESSION_PLACES5 ?yEXPRESSION_PLACES6 ?yEXPRESSION_PLACES7 ?yEXPRESSION_PLACES8 ?gBLOCK_PLACES ?lBLOCK_PLACES ?wBLOCK_PLACES ?qBLOCK_PLACES0 ?qBLOCK_PLACES1 ?qBLOCK_PLACES2 ?qBLOCK_PLACES3 ?yBLOCK_PLACES0 ?yBLOCK_PLACES1 ?yBLOCK_PLACES2 ?yBLOCK_PLACES3 ?gTARGET_PLACES ?lTARGET_PLACES ?wTARGET_PLACES ?qTARGET_PLACES0 ?qTARGET_PLACES1 ?qTARGET_PLACES2 ?qTARGET_PLACES3 ?qTARGET_PLACES4 ?qTARGET_PLACES5 ?qTARGET_PLACES6
    (case a0 => k_is)
    (case l0 => k_is)
    (case c0 => k_is)
    (case k0 => k_is)
    (case a1 => k_is)
    (case l1 => k_is)
    (case c1 => k_is)
    (case k1 => k_is)
    (case a2 => k_is)
    (case l2 => k_is)
    (case c2 => k_is)
    (case k2 => k_is)
    (case a3 => k_is)
    (case l3 => k_is)
    (case c3 => k_is)
    (case k3 => k_is)
    (case a4 => k_is)
    (case l4 => k_is)
    (case c4 => k_is)
    (case k4 => k_is)
    (case a5 => k_is)
    (case l5 => k_is)
    (case c5 => k_is)
    (case k5 => k_is)
    (case a6 => k_is)
    (case l6 => k_is)
    (case c6 => k_is)
    (case k6 => k_is)
    (case a7 => k_is)
    (case l7 => k_is)
    (case c7 => k_is)
    (case k7 => k_is)
    (case a8 => k_is)
    (case l8 => k_is)
    (case c8 => k_is)
    (case k8 => k_is)
    (case a9 => k_is)
    (case l9 => k_is)
    (case c9 => k_is)
    (case k9 => k_is)
    (case a10 => k_is)
    (case l10 => k_is)
    (case c10 => k_is)
    (case k10 => k_is)
    (case a11 => k_is)
    (case l11 => k_is)
    (case c11 => k_is)
    (case k11 => k_is)
    (case a12 => k_is)
    (case l12 => k_is)
    (case c12 => k_is)
    (case k12 => k_is)
    (case a13 => k_is)
    (case l13 => k_is)
    (case c13 => k_is)
    (case k13 => k_is)
    (case a14 => k_is)
    (case l14 => k_is)
    (case c14 => k_is)
    (case k14 => k_is)
    (case a15 => k_is)
    (case l15 => k_is)
    (case c15 => k_is)
    (case k15 => k_is)
    (case a16 => k_is)
    (case l16 => k_is)
    (case c16 => k_is)
    (case k16 => k_is)
    (case a17 => k_is)
    (case l17 => k_is)
    (case c17 => k_is)
    (case k17 => k_is)
    (case a18 => k_is)
    (case l18 => k_is)
    (case c18 => k_is)
    (case k18 => k_is)
    (case a19 => k_is)
    (case l19 => k_is)
    (case c19 => k_is)
    (case k19 => k_is)
    (case a20 => k_is)
    (case l20 => k_is)
    (case c20 => k_is)
    (case k20 => k_is)
    (case a21 => k_is)
    (case l21 => k_is)
    (case c21 => k_is)
    (case k21 => k_is)
    (case a22 => k_is)
    (case l22 => k_is)
    (case c22 => k_is)
    (case k22 => k_is)
    (case zlist => k_is)
    (case zsorted => k_is)
    (case zisinstance => k_is)
    (case ztuple => k_is)
    (case zlen => k_is)
    (case zrange => k_is)
    (case zbool => k_is)
    (case zint => k_is)
    (case zstr => k_is)
    (case zmin => k_is)
    (case gEXPRESSION_PLACES => k_is)
    (case lEXPRESSION_PLACES => k_is)
    (case wEXPRESSION_PLACES => first | rfl | k_is | decide)
    (case qEXPRESSION_PLACES0 => first | rfl | k_is | decide)
    (case qEXPRESSION_PLACES1 => first | rfl | k_is | decide)
    (case qEXPRESSION_PLACES2 => first | rfl | k_is | decide)
    (case qEXPRESSION_PLACES3 => first | rfl | k_is | decide)
    (case qEXPRESSION_PLACES4 => first | rfl | k_is | decide)
    (case qEXPRESSION_PLACES5 => first | rfl | k_is | decide)
    (case qEXPRESSION_PLACES6 => first | rfl | k_is | decide)
    (case qEXPRESSION_PLACES7 => first | rfl | k_is | decide)
    (case qEXPRESSION_PLACES8 => first | rfl | k_is | decide)
    (case yEXPRESSION_PLACES0 => k_is)
    (case yEXPRESSION_PLACES1 => k_is)
    (case yEXPRESSION_PLACES2 => k_is)
    (case yEXPRESSION_PLACES3 => k_is)
    (case yEXPRESSION_PLACES4 => k_is)
    (case yEXPRESSION_PLACES5 => k_is)
    (case yEXPRESSION_PLACES6 => k_is)
    (case yEXPRESSION_PLACES7 => k_is)
    (case yEXPRESSION_PLACES8 => k_is)
    (case gBLOCK_PLACES => k_is)
    (case lBLOCK_PLACES => k_is)
    (case wBLOCK_PLACES => first | rfl | k_is | decide)
    (case qBLOCK_PLACES0 => first | rfl | k_is | decide)
    (case qBLOCK_PLACES1 => first | rfl | k_is | decide)
    (case qBLOCK_PLACES2 => first | rfl | k_is | decide)
    (case qBLOCK_PLACES3 => first | rfl | k_is | decide)
    (case yBLOCK_PLACES0 => k_is)
    (case yBLOCK_PLACES1 => k_is)
    (case yBLOCK_PLACES2 => k_is)
    (case yBLOCK_PLACES3 => k_is)
    (case gTARGET_PLACES => k_is)
    (case lTARGET_PLACES => k_is)
    (case wTARGET_PLACES => first | rfl | k_is | decide)
    (case qTARGET_PLACES0 => first | rfl | k_is | decide)
    (case qTARGET_PLACES1 => first | rfl | k_is | decide)
    (case qTARGET_PLACES2 => first | rfl | k_is | decide)
    (case qTARGET_PLACES3 => first | rfl | k_is | decide)
    (case qTARGET_PLACES4 => first | rfl | k_is | decide)
    (case qTARGET_PLACES5 => first | rfl | k_is | decide)
    (case qTARGET_PLACES6 => first | rfl | k_is | decide)
