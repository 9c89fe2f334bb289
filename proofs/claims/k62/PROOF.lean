import PyProof.Rows.All
import Wide.All
import OpenK.AllK
import Wide.FinOn
import KE.RegKIsAll
import HandS.ForExc
import HandS.Wide
import HandS.WideBits
import HandS.IsInst
import HandS.ExcIs
import HandS.Codes
import HandS.StrMore
import HandS.Comp
import HandS.Iter
import HandS.Text
import HandS.Dict
import HandS.More
import HandS.DictEq
import HandS.TupLen
import HandS.TupAny
import HandS.TupMul
import HandS.Sort
import HandS.WordsDict
import KE.DataMinMax
import HandS.Exc
import HandS.ExcOwn
import HandS.WordsExc
import HandS.Gcd
import HandS.CallLocal
import HandS.DeepEq
import HandS.Zip
import HandS.Star
import KE.LtData
import PyProof.StrOps2
import HandS.Style
import HandS.Conv
import HandS.NoneIn
import HandS.SetBool
import HandS.Strs
import HandS.SortInts
import HandS.Deep
import PySem.Challenge.RW_odds_k62_models_and_nodes
set_option Elab.async false
set_option linter.all false
set_option maxRecDepth 100000
set_option maxHeartbeats 4000000
namespace O
open PySem L2
/-! ## data: what a program computes with, without addresses -/
inductive D where
  | non | bl (b : Bool) | int (i : Int) | str (x : Str) | tup (xs : List D) | obj (n : Nat) | fn (x : Str) | ty (n : String) | raw (a : Addr) | kl (xs : List D) | tk (ks : List Key)
inductive Ob where
  | lst (xs : List D) | dk (kvs : List (Key × D)) | dt (kvs : List (List Key × D)) | ins (C : Str) (fs : List (Str × D))
abbrev Sto := List Ob
abbrev Env := List (Option D)
inductive Res (α : Type) where
  | ok (a : α) (S : Sto) | exc (c : Str) (fs : List (Str × D)) (S : Sto) | bad
inductive RS where
  | nx (ρ : Env) (S : Sto) | rt (d : D) (S : Sto) | bk (ρ : Env) (S : Sto) | ct (ρ : Env) (S : Sto) | exc (c : Str) (fs : List (Str × D)) (ρ : Env) (S : Sto) | bad
def Res.bind {α β : Type} (r : Res α) (k : α → Sto → Res β) : Res β := match r with
  | .ok a S => k a S
  | .exc c fs S => .exc c fs S
  | .bad => .bad
theorem Res.bind_ok {α β : Type} (a : α) (S : Sto) (k : α → Sto → Res β) : (Res.ok a S).bind k = k a S := rfl
theorem Res.bind_exc {α β : Type} (c : Str) (fs : List (Str × D)) (S : Sto) (k : α → Sto → Res β) : (Res.exc c fs S).bind k = .exc c fs S := rfl
abbrev DE := Env → Sto → Res D
abbrev DT := Env → Sto → Res Bool
abbrev DA := Env → Sto → Res (List D)
abbrev DS := Env → Sto → RS
abbrev DF := List D → Sto → Res D
/-- a list that nobody changes -/
def SqF (K : PySem.W.Frag) (H : Hp) (a : Addr) (xs : List V) : Prop :=
  (∃ ob, H a = some (.frz ob (.lst xs))) ∨
    ∃ (o : Obj) (is : Array Value) (n : Nat), K.lookup a = some o ∧ o.cls = .type "list" ∧ o.dict = none ∧ o.data = .seq is n ∧ is.size ≤ sizeLine ∧ Vals xs is.toList
theorem SqF.L {K : PySem.W.Frag} {H : Hp} {a : Addr} {xs : List V} (h : SqF K H a xs) : SqL K H a xs := by
  rcases h with ⟨ob, h⟩ | h
  · exact .inl (.inr ⟨ob, h⟩)
  · exact .inr h
/-- the world: where each object of the store stands -/
structure Wo where
  m : Nat → Addr
  S : Sto
  H : Hp
section
variable (K : PySem.W.Frag) (mg : Str → Option Value)
mutual
def Rv (w : Wo) : D → V → Prop
  | .non, v => v = .non
  | .bl b, v => v = .bl b
  | .int i, v => v = .int i
  | .str x, v => v = .str x
  | .tup ds, v => ∃ a vs, v = .ref a ∧ SqT K w.H a vs ∧ Rvs w ds vs
  | .obj n, v => n < w.S.length ∧ v = .ref (w.m n)
  | .fn x, v => ∃ a, mg x = some (.ref a) ∧ v = .ref a
  | .ty n, v => v = .ty n
  | .raw a, v => v = .ref a
  | .kl ds, v => ∃ a vs, v = .ref a ∧ SqF K w.H a vs ∧ Rvs w ds vs
  | .tk ks, v => ∃ a, v = .ref a ∧ w.H a = some (.tup (ks.map kV))
def Rvs (w : Wo) : List D → List V → Prop
  | [], vs => vs = []
  | d :: ds, vs => ∃ v r, vs = v :: r ∧ Rv w d v ∧ Rvs w ds r
end
/-- a dict's pairs -/
def Rkv {κ : Type} (w : Wo) : List (κ × D) → List (κ × V) → Prop
  | [], vs => vs = []
  | p :: ps, vs => ∃ v r, vs = (p.1, v) :: r ∧ Rv K mg w p.2 v ∧ Rkv w ps r
/-- an object's fields -/
def Rfs (w : Wo) : List (Str × D) → List (Str × V) → Prop
  | [], vs => vs = []
  | p :: ps, vs => ∃ v r, vs = (p.1, v) :: r ∧ Rv K mg w p.2 v ∧ Rfs w ps r
/-- the object at a is o -/
def Rob (w : Wo) (a : Addr) : Ob → Prop
  | .lst ds => ∃ vs, w.H a = some (.lst vs) ∧ Rvs K mg w ds vs
  | .dk kvs => ∃ vs, w.H a = some (.dK vs) ∧ Rkv K mg w kvs vs
  | .dt kvs => ∃ vs, w.H a = some (.dT vs) ∧ Rkv K mg w kvs vs
  | .ins C fs => ∃ Ca dx vs, mg C = some (.ref Ca) ∧ w.H a = some (.ins Ca dx vs) ∧ Rfs K mg w fs vs
structure Wo.Ok (w : Wo) : Prop where
  inj : ∀ i j, i < w.S.length → j < w.S.length → w.m i = w.m j → i = j
  has : ∀ i o, w.S[i]? = some o → Rob K mg w (w.m i) o
end
structure Wo.Le (w w' : Wo) : Prop where
  len : w.S.length ≤ w'.S.length
  ag : ∀ i, i < w.S.length → w'.m i = w.m i
  fr : ∀ a o, w.H a = some o → (∀ i, i < w.S.length → w.m i ≠ a) → w'.H a = some o
  nw : ∀ i, w.S.length ≤ i → i < w'.S.length → w.H (w'.m i) = none
theorem Wo.Le.refl (w : Wo) : w.Le w := ⟨Nat.le_refl _, fun _ _ => rfl, fun _ _ h _ => h, fun i h h' => absurd (Nat.lt_of_lt_of_le h' h) (Nat.lt_irrefl _)⟩
section
variable {K : PySem.W.Frag} {mg : Str → Option Value}
/-- an object of the store is tracked, and is no tuple -/
theorem Wo.Ok.at {w : Wo} (ok : w.Ok K mg) {i : Nat} (h : i < w.S.length) : ∃ o, w.H (w.m i) = some o ∧ (∀ xs, o ≠ .tup xs) ∧ ∀ ob u, o ≠ .frz ob u := by
  have h2 := ok.has i _ (List.getElem?_eq_getElem h)
  cases e : w.S[i] with
  | lst ds =>
    rw [e] at h2
    obtain ⟨vs, h3, _⟩ := h2
    exact ⟨_, h3, (by intro _ z; cases z), (by intro _ _ z; cases z)⟩
  | dk kvs =>
    rw [e] at h2
    obtain ⟨vs, h3, _⟩ := h2
    exact ⟨_, h3, (by intro _ z; cases z), (by intro _ _ z; cases z)⟩
  | dt kvs =>
    rw [e] at h2
    obtain ⟨vs, h3, _⟩ := h2
    exact ⟨_, h3, (by intro _ z; cases z), (by intro _ _ z; cases z)⟩
  | ins C fs =>
    rw [e] at h2
    obtain ⟨Ca, dx, vs, _, h3, _⟩ := h2
    exact ⟨_, h3, (by intro _ z; cases z), (by intro _ _ z; cases z)⟩
theorem Wo.Le.trans {a b c : Wo} (okb : b.Ok K mg) (h : a.Le b) (k : b.Le c) : a.Le c := by
  refine ⟨Nat.le_trans h.len k.len, fun i hi => (k.ag i (Nat.lt_of_lt_of_le hi h.len)).trans (h.ag i hi), fun x o e n => k.fr x o (h.fr x o e n) fun i hi => ?_, fun i hi hi' => ?_⟩
  · by_cases hl : i < a.S.length
    · rw [h.ag i hl]
      exact n i hl
    · intro z
      have := h.nw i (Nat.le_of_not_lt hl) hi
      rw [z, e] at this
      cases this
  · by_cases hl : i < b.S.length
    · rw [k.ag i hl]
      exact h.nw i hi hl
    · have h1 := k.nw i (Nat.le_of_not_lt hl) hi'
      cases e : a.H (c.m i) with
      | none => rfl
      | some o =>
        by_cases ht : ∀ j, j < a.S.length → a.m j ≠ c.m i
        · rw [h.fr _ _ e ht] at h1
          cases h1
        · have : ∃ j, j < a.S.length ∧ a.m j = c.m i := by
            refine Classical.byContradiction fun z => ht fun j hj e2 => z ⟨j, hj, e2⟩
          obtain ⟨j, hj, e2⟩ := this
          obtain ⟨o2, h2, _⟩ := okb.at (Nat.lt_of_lt_of_le hj h.len)
          rw [h.ag j hj, e2, h1] at h2
          cases h2
theorem Wo.Le.tup {w w' : Wo} (ok : w.Ok K mg) (h : w.Le w') {a : Addr} {xs : List V} (t : SqT K w.H a xs) : SqT K w'.H a xs := by
  rcases t with (t | ⟨o, t⟩) | t
  · refine .inl (.inl (h.fr _ _ t fun i hi z => ?_))
    obtain ⟨o, h1, h2, _⟩ := ok.at hi
    rw [z, t] at h1
    exact h2 xs (Option.some.inj h1).symm
  · refine .inl (.inr ⟨o, h.fr _ _ t fun i hi z => ?_⟩)
    obtain ⟨o2, h1, _, h2⟩ := ok.at hi
    rw [z, t] at h1
    exact h2 o _ (Option.some.inj h1).symm
  · exact .inr t
theorem Wo.Le.kl {w w' : Wo} (ok : w.Ok K mg) (h : w.Le w') {a : Addr} {xs : List V} (t : SqF K w.H a xs) : SqF K w'.H a xs := by
  rcases t with ⟨o, t⟩ | t
  · refine .inl ⟨o, h.fr _ _ t fun i hi z => ?_⟩
    obtain ⟨o2, h1, _, h2⟩ := ok.at hi
    rw [z, t] at h1
    exact h2 o _ (Option.some.inj h1).symm
  · exact .inr t
mutual
theorem Rv.up {w w' : Wo} (ok : w.Ok K mg) (h : w.Le w') : ∀ (d : D) (v : V), Rv K mg w d v → Rv K mg w' d v
  | .non, v, r => by rw [Rv] at r ⊢; exact r
  | .bl b, v, r => by rw [Rv] at r ⊢; exact r
  | .int i, v, r => by rw [Rv] at r ⊢; exact r
  | .str x, v, r => by rw [Rv] at r ⊢; exact r
  | .tup ds, v, r => by
    rw [Rv] at r ⊢
    obtain ⟨a, vs, e, t, q⟩ := r
    exact ⟨a, vs, e, h.tup ok t, Rvs.up ok h ds vs q⟩
  | .obj n, v, r => by
    rw [Rv] at r ⊢
    exact ⟨Nat.lt_of_lt_of_le r.1 h.len, by rw [h.ag n r.1]; exact r.2⟩
  | .fn x, v, r => by rw [Rv] at r ⊢; exact r
  | .ty n, v, r => by rw [Rv] at r ⊢; exact r
  | .raw n, v, r => by rw [Rv] at r ⊢; exact r
  | .kl ds, v, r => by
    rw [Rv] at r ⊢
    obtain ⟨a, vs, e, t, q⟩ := r
    exact ⟨a, vs, e, h.kl ok t, Rvs.up ok h ds vs q⟩
  | .tk ks, v, r => by
    rw [Rv] at r ⊢
    obtain ⟨a, e, t⟩ := r
    refine ⟨a, e, h.fr _ _ t fun i hi z => ?_⟩
    obtain ⟨o, h1, h2, _⟩ := ok.at hi
    rw [z, t] at h1
    exact h2 _ (Option.some.inj h1).symm
theorem Rvs.up {w w' : Wo} (ok : w.Ok K mg) (h : w.Le w') : ∀ (ds : List D) (vs : List V), Rvs K mg w ds vs → Rvs K mg w' ds vs
  | [], vs, r => by rw [Rvs] at r ⊢; exact r
  | d :: ds, vs, r => by
    rw [Rvs] at r ⊢
    obtain ⟨v, q, e, r1, r2⟩ := r
    exact ⟨v, q, e, Rv.up ok h d v r1, Rvs.up ok h ds q r2⟩
end
theorem Rkv.up {κ : Type} {w w' : Wo} (ok : w.Ok K mg) (h : w.Le w') : ∀ {ps : List (κ × D)} {vs : List (κ × V)}, Rkv K mg w ps vs → Rkv K mg w' ps vs
  | [], vs, r => r
  | p :: ps, vs, r => by
    obtain ⟨v, q, e, r1, r2⟩ := r
    exact ⟨v, q, e, Rv.up ok h _ v r1, Rkv.up ok h r2⟩
theorem Rfs.up {w w' : Wo} (ok : w.Ok K mg) (h : w.Le w') : ∀ {ps : List (Str × D)} {vs : List (Str × V)}, Rfs K mg w ps vs → Rfs K mg w' ps vs
  | [], vs, r => r
  | p :: ps, vs, r => by
    obtain ⟨v, q, e, r1, r2⟩ := r
    exact ⟨v, q, e, Rv.up ok h _ v r1, Rfs.up ok h r2⟩
/-- slots -/
def Rσ (K : PySem.W.Frag) (mg : Str → Option Value) (w : Wo) : Env → St → Prop
  | [], σ => σ = []
  | x :: ρ, σ => ∃ y τ, σ = y :: τ ∧ (match x with | none => True | some d => ∃ v, y = some v ∧ Rv K mg w d v) ∧ Rσ K mg w ρ τ
theorem Rσ.up {w w' : Wo} (ok : w.Ok K mg) (h : w.Le w') : ∀ {ρ : Env} {σ : St}, Rσ K mg w ρ σ → Rσ K mg w' ρ σ
  | [], σ, r => r
  | x :: ρ, σ, r => by
    obtain ⟨y, τ, e, r1, r2⟩ := r
    refine ⟨y, τ, e, ?_, Rσ.up ok h r2⟩
    cases x with
    | none => trivial
    | some d =>
      obtain ⟨v, e2, r3⟩ := r1
      exact ⟨v, e2, r3.up ok h _ _⟩
theorem Rσ.get {w : Wo} : ∀ {ρ : Env} {σ : St} {i : Nat} {d : D}, Rσ K mg w ρ σ → ρ[i]? = some (some d) → ∃ v, σ[i]? = some (some v) ∧ Rv K mg w d v
  | [], σ, i, d, r, e => by simp at e
  | x :: ρ, σ, 0, d, r, e => by
    obtain ⟨y, τ, e1, r1, r2⟩ := r
    have e : x = some d := Option.some.inj e
    subst e e1
    obtain ⟨v, e2, r3⟩ := r1
    exact ⟨v, by rw [e2]; rfl, r3⟩
  | x :: ρ, σ, i + 1, d, r, e => by
    obtain ⟨y, τ, e1, r1, r2⟩ := r
    subst e1
    exact Rσ.get (i := i) r2 e
theorem Rσ.set {w : Wo} {d : D} {v : V} (rv : Rv K mg w d v) : ∀ {ρ : Env} {σ : St} (i : Nat), Rσ K mg w ρ σ → Rσ K mg w (ρ.set i (some d)) (σ.set i (some v))
  | [], σ, i, r => by
    have e : σ = [] := r
    subst e
    exact r
  | x :: ρ, σ, 0, r => by
    obtain ⟨y, τ, e1, r1, r2⟩ := r
    subst e1
    exact ⟨some v, τ, rfl, ⟨v, rfl, rv⟩, r2⟩
  | x :: ρ, σ, i + 1, r => by
    obtain ⟨y, τ, e1, r1, r2⟩ := r
    subst e1
    exact ⟨y, _, rfl, r1, Rσ.set rv i r2⟩
theorem Rσ.setN {w : Wo} : ∀ {ρ : Env} {σ : St} (i : Nat) (z : Option V), Rσ K mg w ρ σ → Rσ K mg w (ρ.set i none) (σ.set i z)
  | [], σ, i, z, r => by
    have e : σ = [] := r
    subst e
    exact r
  | x :: ρ, σ, 0, z, r => by
    obtain ⟨y, τ, e1, r1, r2⟩ := r
    subst e1
    exact ⟨z, τ, rfl, trivial, r2⟩
  | x :: ρ, σ, i + 1, z, r => by
    obtain ⟨y, τ, e1, r1, r2⟩ := r
    subst e1
    exact ⟨y, _, rfl, r1, Rσ.setN i z r2⟩
theorem Rσ.len {w : Wo} : ∀ {ρ : Env} {σ : St}, Rσ K mg w ρ σ → σ.length = ρ.length
  | [], σ, r => by
    have e : σ = [] := r
    rw [e]
    rfl
  | x :: ρ, σ, r => by
    obtain ⟨y, τ, e1, r1, r2⟩ := r
    rw [e1, List.length_cons, List.length_cons, Rσ.len r2]
theorem Rvs.len {w : Wo} : ∀ {ds : List D} {vs : List V}, Rvs K mg w ds vs → vs.length = ds.length
  | [], vs, r => by
    rw [Rvs] at r
    rw [r]
    rfl
  | d :: ds, vs, r => by
    rw [Rvs] at r
    obtain ⟨v, q, e, _, r2⟩ := r
    rw [e, List.length_cons, List.length_cons, Rvs.len r2]
theorem Rvs.get {w : Wo} : ∀ {ds : List D} {vs : List V} {i : Nat} {d : D}, Rvs K mg w ds vs → ds[i]? = some d → ∃ v, vs[i]? = some v ∧ Rv K mg w d v
  | [], vs, i, d, r, e => by simp at e
  | x :: ds, vs, 0, d, r, e => by
    rw [Rvs] at r
    obtain ⟨v, q, e1, r1, r2⟩ := r
    have e : x = d := Option.some.inj e
    subst e e1
    exact ⟨v, rfl, r1⟩
  | x :: ds, vs, i + 1, d, r, e => by
    rw [Rvs] at r
    obtain ⟨v, q, e1, r1, r2⟩ := r
    subst e1
    exact Rvs.get (i := i) r2 e
theorem Rvs.get' {w : Wo} : ∀ {ds : List D} {vs : List V} {i : Nat} {v : V}, Rvs K mg w ds vs → vs[i]? = some v → ∃ d, ds[i]? = some d ∧ Rv K mg w d v
  | [], vs, i, d, r, e => by
    rw [Rvs] at r
    rw [r] at e
    simp at e
  | x :: ds, vs, 0, v, r, e => by
    rw [Rvs] at r
    obtain ⟨v2, q, e1, r1, r2⟩ := r
    rw [e1] at e
    have e : v2 = v := Option.some.inj e
    subst e
    exact ⟨x, rfl, r1⟩
  | x :: ds, vs, i + 1, d, r, e => by
    rw [Rvs] at r
    obtain ⟨v, q, e1, r1, r2⟩ := r
    rw [e1] at e
    exact Rvs.get' (i := i) r2 e
theorem Rvs.nil {w : Wo} : Rvs K mg w [] [] := by rw [Rvs]
theorem Rvs.cons {w : Wo} {d : D} {ds : List D} {v : V} {vs : List V} (h : Rv K mg w d v) (k : Rvs K mg w ds vs) : Rvs K mg w (d :: ds) (v :: vs) := by
  rw [Rvs]
  exact ⟨v, vs, rfl, h, k⟩
theorem Rvs.append {w : Wo} : ∀ {ds es : List D} {vs us : List V}, Rvs K mg w ds vs → Rvs K mg w es us → Rvs K mg w (ds ++ es) (vs ++ us)
  | [], es, vs, us, h, k => by
    rw [Rvs] at h
    rw [h]
    exact k
  | d :: ds, es, vs, us, h, k => by
    rw [Rvs] at h
    obtain ⟨v, q, e, r1, r2⟩ := h
    rw [e]
    exact Rvs.cons r1 (Rvs.append r2 k)
theorem Rvs.take {w : Wo} : ∀ {ds : List D} {vs : List V} (n : Nat), Rvs K mg w ds vs → Rvs K mg w (ds.take n) (vs.take n)
  | ds, vs, 0, h => by
    rw [List.take_zero, List.take_zero]
    exact Rvs.nil
  | [], vs, n + 1, h => by
    rw [Rvs] at h
    rw [h]
    exact Rvs.nil
  | d :: ds, vs, n + 1, h => by
    rw [Rvs] at h
    obtain ⟨v, q, e, r1, r2⟩ := h
    rw [e]
    exact Rvs.cons r1 (Rvs.take n r2)
theorem Rvs.drop {w : Wo} : ∀ {ds : List D} {vs : List V} (n : Nat), Rvs K mg w ds vs → Rvs K mg w (ds.drop n) (vs.drop n)
  | ds, vs, 0, h => h
  | [], vs, n + 1, h => by
    rw [Rvs] at h
    rw [h]
    exact Rvs.nil
  | d :: ds, vs, n + 1, h => by
    rw [Rvs] at h
    obtain ⟨v, q, e, r1, r2⟩ := h
    rw [e]
    exact Rvs.drop n r2
theorem Rvs.set {w : Wo} {d : D} {v : V} (hv : Rv K mg w d v) : ∀ {ds : List D} {vs : List V} (n : Nat), Rvs K mg w ds vs → Rvs K mg w (ds.set n d) (vs.set n v)
  | [], vs, n, h => by
    rw [Rvs] at h
    rw [h]
    exact Rvs.nil
  | x :: ds, vs, 0, h => by
    rw [Rvs] at h
    obtain ⟨v, q, e, r1, r2⟩ := h
    rw [e]
    exact Rvs.cons hv r2
  | x :: ds, vs, n + 1, h => by
    rw [Rvs] at h
    obtain ⟨v, q, e, r1, r2⟩ := h
    rw [e]
    exact Rvs.cons r1 (Rvs.set hv n r2)
/-! ## what is wanted of a result -/
section
variable {α β γ δ : Type} {w : Wo} {R : Wo → α → β → Prop} {R' : Wo → γ → δ → Prop} {Q : δ → Hp → Prop} {E : Str → List (Str × D) → Wo → Prop}
def Fin (K : PySem.W.Frag) (mg : Str → Option Value) (w : Wo) (R : Wo → α → β → Prop) (r : Res α) (Q : β → Hp → Prop) (E : Str → List (Str × D) → Wo → Prop) : Prop := match r with
  | .ok a S' => ∀ (w' : Wo) (b : β), w.Le w' → w'.Ok K mg → w'.S = S' → R w' a b → Q b w'.H
  | .exc c fs S' => ∀ w' : Wo, w.Le w' → w'.Ok K mg → w'.S = S' → E c fs w'
  | .bad => False
theorem Fin.up {r : Res α} {Q : β → Hp → Prop} {w' : Wo} (ok : w'.Ok K mg) (le : w.Le w') (h : Fin K mg w R r Q E) : Fin K mg w' R r Q E := by
  cases r with
  | ok a S' => exact fun w2 b l2 o2 e r => h w2 b (Wo.Le.trans ok le l2) o2 e r
  | exc c fs S' => exact fun w2 l2 o2 e => h w2 (Wo.Le.trans ok le l2) o2 e
  | bad => exact h
theorem Fin.bind {r : Res α} {k : α → Sto → Res γ} {P : β → Hp → Prop} (h : Fin K mg w R' (r.bind k) Q E)
    (hk : ∀ (w' : Wo) (a : α) (b : β), w.Le w' → w'.Ok K mg → R w' a b → Fin K mg w' R' (k a w'.S) Q E → P b w'.H) : Fin K mg w R r P E := by
  cases r with
  | ok a S' =>
    intro w' b le ok e hR
    refine hk w' a b le ok hR ?_
    rw [e]
    exact Fin.up ok le h
  | exc c fs S' => exact h
  | bad => exact h
theorem Fin.now {a : α} {b : β} {Q : β → Hp → Prop} (h : Fin K mg w R (.ok a w.S) Q E) (ok : w.Ok K mg) (r : R w a b) : Q b w.H := h w b (Wo.Le.refl w) ok rfl r
end
/-- no relation between a bool and itself but that it is the same -/
def Rb (_ : Wo) (a b : Bool) : Prop := a = b
/-- the exception's own dict -/
def Rxd (K : PySem.W.Frag) (mg : Str → Option Value) (w : Wo) : List (Str × D) → Option Addr → Prop
  | [], d => d = none
  | fs, d => ∃ a vs, d = some a ∧ w.H a = some (.xd vs) ∧ Rfs K mg w fs vs
/-- a wish, over data -/
def XW (K : PySem.W.Frag) (mg : Str → Option Value) (W : WX) (σ : St) : Str → List (Str × D) → Wo → Prop := fun c fs w => ∀ C d, mg c = some (.ref C) → Rxd K mg w fs d → W (.ref C) d σ w.H
def LE (K : PySem.W.Frag) (mg : Str → Option Value) (W : WX) (de : DE) : TE := fun σ H Q => ∃ w : Wo, w.Ok K mg ∧ w.H = H ∧ ∃ ρ, Rσ K mg w ρ σ ∧ Fin K mg w (Rv K mg) (de ρ w.S) Q (XW K mg W σ)
def LT (K : PySem.W.Frag) (mg : Str → Option Value) (W : WX) (de : DT) : TT := fun σ H Q => ∃ w : Wo, w.Ok K mg ∧ w.H = H ∧ ∃ ρ, Rσ K mg w ρ σ ∧ Fin K mg w Rb (de ρ w.S) Q (XW K mg W σ)
def LA (K : PySem.W.Frag) (mg : Str → Option Value) (W : WX) (de : DA) : TA := fun σ H Q => ∃ w : Wo, w.Ok K mg ∧ w.H = H ∧ ∃ ρ, Rσ K mg w ρ σ ∧ Fin K mg w (Rvs K mg) (de ρ w.S) Q (XW K mg W σ)
def FinS (K : PySem.W.Frag) (mg : Str → Option Value) (W : WX) (w : Wo) (r : RS) (D' : Ends) : Prop := match r with
  | .nx ρ S => ∀ (w' : Wo) σ, w.Le w' → w'.Ok K mg → w'.S = S → Rσ K mg w' ρ σ → D'.nx σ w'.H
  | .rt d S => ∀ (w' : Wo) v, w.Le w' → w'.Ok K mg → w'.S = S → Rv K mg w' d v → D'.rt v w'.H
  | .bk ρ S => ∀ (w' : Wo) σ, w.Le w' → w'.Ok K mg → w'.S = S → Rσ K mg w' ρ σ → D'.bk σ w'.H
  | .ct ρ S => ∀ (w' : Wo) σ, w.Le w' → w'.Ok K mg → w'.S = S → Rσ K mg w' ρ σ → D'.ct σ w'.H
  | .exc c fs ρ S => ∀ (w' : Wo) σ, w.Le w' → w'.Ok K mg → w'.S = S → Rσ K mg w' ρ σ → XW K mg W σ c fs w'
  | .bad => False
theorem FinS.up {W : WX} {w w' : Wo} {r : RS} {D' : Ends} (ok : w'.Ok K mg) (le : w.Le w') (h : FinS K mg W w r D') : FinS K mg W w' r D' := by
  cases r with
  | nx ρ S => exact fun w2 b l2 o2 e r => h w2 b (Wo.Le.trans ok le l2) o2 e r
  | rt ρ S => exact fun w2 b l2 o2 e r => h w2 b (Wo.Le.trans ok le l2) o2 e r
  | bk ρ S => exact fun w2 b l2 o2 e r => h w2 b (Wo.Le.trans ok le l2) o2 e r
  | ct ρ S => exact fun w2 b l2 o2 e r => h w2 b (Wo.Le.trans ok le l2) o2 e r
  | exc c fs ρ S => exact fun w2 b l2 o2 e r => h w2 b (Wo.Le.trans ok le l2) o2 e r
  | bad => exact h
def LS (K : PySem.W.Frag) (mg : Str → Option Value) (W : WX) (ds : DS) : TS := fun D' σ H => ∃ w : Wo, w.Ok K mg ∧ w.H = H ∧ ∃ ρ, Rσ K mg w ρ σ ∧ FinS K mg W w (ds ρ w.S) D'
/-! ## weakening -/
theorem _root_.L2.PE.imp {X : Cx} {e : Expr} {t t' : TE} (h : PE X e t) (k : ∀ σ H Q, t' σ H Q → t σ H Q) : PE X e t' := ⟨fun pins s σ H Q I ht => h.run pins s σ H Q I (k _ _ _ ht)⟩
theorem _root_.L2.PT.imp {X : Cx} {e : Expr} {t t' : TT} (h : PT X e t) (k : ∀ σ H Q, t' σ H Q → t σ H Q) : PT X e t' := ⟨fun pins s σ H Q I ht => h.run pins s σ H Q I (k _ _ _ ht)⟩
theorem _root_.L2.PW.imp {X : Cx} {e : Expr} {t t' : TT} (h : PW X e t) (k : ∀ σ H Q, t' σ H Q → t σ H Q) : PW X e t' := ⟨fun wh pins s σ H Q I ht => h.run wh pins s σ H Q I (k _ _ _ ht)⟩
theorem _root_.L2.PA.imp {X : Cx} {e : List Expr} {t t' : TA} (h : PA X e t) (k : ∀ σ H Q, t' σ H Q → t σ H Q) : PA X e t' := ⟨fun ps pins s σ H Q I ht => h.run ps pins s σ H Q I (k _ _ _ ht)⟩
theorem _root_.L2.PS.imp {X : Cx} {st : Stmt} {t t' : TS} (h : PS X st t) (k : ∀ D' σ H, t' D' σ H → t D' σ H) : PS X st t' := ⟨fun pins s σ H D' I ht => h.run pins s σ H D' I (k _ _ _ ht)⟩
theorem _root_.L2.PSs.imp {X : Cx} {st : List Stmt} {t t' : TS} (h : PSs X st t) (k : ∀ D' σ H, t' D' σ H → t D' σ H) : PSs X st t' := ⟨fun pins s σ H D' I ht => h.run pins s σ H D' I (k _ _ _ ht)⟩
end

section
variable {K : PySem.W.Frag} {mg : Str → Option Value} {X : Cx} {W : WX} {pos : Pos} {a b c : Expr}
/-! ## names, constants -/
def slotR (S : Sto) : Option (Option D) → Res D
  | some (some d) => .ok d S
  | some none => .bad
  | none => .bad
def eV (i : Nat) (ρ : Env) (S : Sto) : Res D := slotR S ρ[i]?
def eC (d : D) (_ : Env) (S : Sto) : Res D := .ok d S
theorem i_var {i : Nat} {σ : St} {H : Hp} {Q : VK} (h : LE K mg W (eV i) σ H Q) : tVar i σ H Q := by
  obtain ⟨w, ok, rfl, ρ, r, h⟩ := h
  unfold eV at h
  cases e : ρ[i]? with
  | none =>
    rw [e] at h
    exact h.elim
  | some z =>
    rw [e] at h
    cases z with
    | none => exact h.elim
    | some d =>
      obtain ⟨v, e2, rv⟩ := r.get e
      exact ⟨v, e2, Fin.now h ok rv⟩
theorem lv (i : Nat) {x : Str} {pos : Pos} (hN : X.N[i]? = some x := by rfl) (hv : Vis X.env.scope x := by first | exact Or.inl rfl | exact Or.inr (Or.inl rfl) | exact Or.inr (Or.inr rfl)) (hd : (x == ("__debug__" : Str)) = false := by decide)
    (hcd : (x == ("__classdict__" : Str)) = false := by decide) : PE X (.Name x pos) (LE X.K X.mg W (eV i)) := (pe_var hN hv hd hcd).imp fun _ _ _ h => i_var h
theorem i_con {d : D} {v : V} (hv : ∀ w, Rv K mg w d v) {σ : St} {H : Hp} {Q : VK} (h : LE K mg W (eC d) σ H Q) : tC v σ H Q := by
  obtain ⟨w, ok, rfl, ρ, r, h⟩ := h
  exact Fin.now h ok (hv w)
theorem lc_of {e : Expr} {d : D} {v : V} (hv : ∀ w, Rv X.K X.mg w d v) (h : PE X e (tC v)) : PE X e (LE X.K X.mg W (eC d)) := h.imp fun _ _ _ h => i_con hv h
theorem l_int {i j pos} : PE X (.Constant (.int i) j pos) (LE X.K X.mg W (eC (.int i))) := lc_of (fun w => by rw [Rv]) pe_int
theorem l_bl {i j pos} : PE X (.Constant (.bool i) j pos) (LE X.K X.mg W (eC (.bl i))) := lc_of (fun w => by rw [Rv]) pe_bl
theorem l_str {i j pos} : PE X (.Constant (.str i) j pos) (LE X.K X.mg W (eC (.str i))) := lc_of (fun w => by rw [Rv]) pe_str
theorem l_non {j pos} : PE X (.Constant .none j pos) (LE X.K X.mg W (eC .non)) := lc_of (fun w => by rw [Rv]) pe_non
theorem l_ty {x : Str} {n : String} {pos : Pos} (hg : Gl X x) (hm : X.mg x = none) (hv : bootBuiltins x = some (.type n)) (hn : x ≠ "__name__" := by decide) (hd : (x == ("__debug__" : Str)) = false := by decide) : PE X (.Name x pos) (LE X.K X.mg W (eC (.ty n))) :=
  lc_of (v := .ty n) (fun w => by rw [Rv]) (pe_bltn hg hm hv rfl hn hd)
/-- a def or a class of the module as a value -/
theorem l_fn {x : Str} {f : Addr} {pos : Pos} (hg : Gl X x) (hm : X.mg x = some (.ref f)) (hd : (x == ("__debug__" : Str)) = false := by decide) : PE X (.Name x pos) (LE X.K X.mg W (eC (.fn x))) :=
  lc_of (v := .ref f) (fun w => by rw [Rv]; exact ⟨f, hm, rfl⟩) (pe_glob hg hm rfl hd)
/-- a constant of the module -/
theorem l_glob {x : Str} {d : D} {v : V} {u : Value} {pos : Pos} (hg : Gl X x) (hm : X.mg x = some u) (r : RelV v u) (hv : ∀ w, Rv X.K X.mg w d v) (hd : (x == ("__debug__" : Str)) = false := by decide) : PE X (.Name x pos) (LE X.K X.mg W (eC d)) :=
  lc_of hv (pe_glob hg hm r hd)
/-! ## two-place operations -/
def Op2 (K : PySem.W.Frag) (mg : Str → Option Value) (r : R2) (f : D → D → Sto → Res D) : Prop := ∀ (w : Wo) (a b : D) (v u : V) (Q : VK) (E : Str → List (Str × D) → Wo → Prop), w.Ok K mg → Rv K mg w a v → Rv K mg w b u → Fin K mg w (Rv K mg) (f a b w.S) Q E → r v u w.H Q
def eOp1 (f : D → D → Sto → Res D) (db : DE) (ρ : Env) (x : D) (S1 : Sto) : Res D := (db ρ S1).bind (f x)
def eOp (f : D → D → Sto → Res D) (da db : DE) (ρ : Env) (S : Sto) : Res D := (da ρ S).bind (eOp1 f db ρ)
theorem i_op {r : R2} {f : D → D → Sto → Res D} {da db : DE} (o : Op2 K mg r f) {σ : St} {H : Hp} {Q : VK} (h : LE K mg W (eOp f da db) σ H Q) : tOp r (LE K mg W da) (LE K mg W db) σ H Q := by
  obtain ⟨w, ok, rfl, ρ, rr, h⟩ := h
  refine ⟨w, ok, rfl, ρ, rr, h.bind fun w1 x v le1 ok1 r1 h1 => ?_⟩
  refine ⟨w1, ok1, rfl, ρ, rr.up ok le1, h1.bind fun w2 y u le2 ok2 r2 h2 => ?_⟩
  exact o w2 x y v u Q _ ok2 (r1.up ok1 le2) r2 h2
theorem l_op {op : Operator} {r : R2} {f : D → D → Sto → Res D} {da db : DE} (ho : OpR X (binaryOp op) r) (o : Op2 X.K X.mg r f) (ha : PE X a (LE X.K X.mg W da)) (hb : PE X b (LE X.K X.mg W db)) : PE X (.BinOp a op b pos) (LE X.K X.mg W (eOp f da db)) :=
  (pe_op ho ha hb).imp fun _ _ _ h => i_op o h
theorem l_cmp {op : CmpOp} {r : R2} {f : D → D → Sto → Res D} {da db : DE} (ho : OpR X (compareOp op) r) (o : Op2 X.K X.mg r f) (ha : PE X a (LE X.K X.mg W da)) (hb : PE X b (LE X.K X.mg W db)) (hm : behindInMarks op b = false) : PE X (.Compare a [op] [b] pos) (LE X.K X.mg W (eOp f da db)) :=
  (pe_cmpR ho ha hb hm).imp fun _ _ _ h => i_op o h
theorem l_ix {r : R2} {f : D → D → Sto → Res D} {da db : DE} (ho : IxR X r) (o : Op2 X.K X.mg r f) (ha : PE X a (LE X.K X.mg W da)) (hb : PE X b (LE X.K X.mg W db)) (hs : PlainIx b) : PE X (.Subscript a b pos) (LE X.K X.mg W (eOp f da db)) :=
  (pe_ix ho ha hb hs).imp fun _ _ _ h => i_op o h
/-- a value as a test -/
def toB : D → Sto → Res Bool
  | .bl b, S => .ok b S
  | _, _ => .bad
def eT (da : DE) (ρ : Env) (S : Sto) : Res Bool := (da ρ S).bind toB
theorem i_test {t : TE} {da : DE} (ht : ∀ σ H Q, LE K mg W da σ H Q → t σ H Q) {σ : St} {H : Hp} {Q : Bool → Hp → Prop} (h : LT K mg W (eT da) σ H Q) : t σ H fun x H1 => ∃ c, x = .bl c ∧ Q c H1 := by
  obtain ⟨w, ok, rfl, ρ, rr, h⟩ := h
  refine ht _ _ _ ⟨w, ok, rfl, ρ, rr, Fin.bind (R' := Rb) h fun w1 x v le1 ok1 r1 h1 => ?_⟩
  cases x with
  | bl k =>
    rw [Rv] at r1
    exact ⟨k, r1, Fin.now h1 ok1 rfl⟩
  | _ => exact h1.elim
theorem lt_cmp {op : CmpOp} {r : R2} {f : D → D → Sto → Res D} {da db : DE} (ho : OpR X (compareOp op) r) (o : Op2 X.K X.mg r f) (ha : PE X a (LE X.K X.mg W da)) (hb : PE X b (LE X.K X.mg W db)) (hm : behindInMarks op b = false) : PT X (.Compare a [op] [b] pos) (LT X.K X.mg W (eT (eOp f da db))) :=
  (pt_cmpR ho ha hb hm).imp fun _ _ _ h => i_test (fun _ _ _ => i_op o) h
theorem lt_val {e : Expr} {de : DE} (h : PE X e (LE X.K X.mg W de)) (he : ∀ whole, isTrue e X.env whole = (do let v ← whole; standAt e.pos; holding [v] (truthy v)) := by intro _; rfl) : PT X e (LT X.K X.mg W (eT de)) :=
  (pt_val h he).imp fun _ _ _ h => i_test (fun _ _ _ x => x) h
/-- by truth -/
def truB : D → Sto → Res Bool
  | .non, S => .ok false S
  | .bl b, S => .ok b S
  | .int i, S => .ok (i != 0) S
  | .str x, S => if x.length ≤ sizeLine then .ok (x.length != 0) S else .bad
  | .tup xs, S => .ok (!xs.isEmpty) S
  | .obj n, S => match S[n]? with
    | some (.lst xs) => .ok (!xs.isEmpty) S
    | some (.dk xs) => .ok (!xs.isEmpty) S
    | _ => .bad
  | _, _ => .bad
/-! ## and, or, not -/
def eAnd1 (tb : DT) (ρ : Env) : Bool → Sto → Res Bool
  | true, S1 => tb ρ S1
  | false, S1 => .ok false S1
def eOr1 (tb : DT) (ρ : Env) : Bool → Sto → Res Bool
  | true, S1 => .ok true S1
  | false, S1 => tb ρ S1
def eNot1 (c : Bool) (S1 : Sto) : Res Bool := .ok (!c) S1
def eAnd (ta tb : DT) (ρ : Env) (S : Sto) : Res Bool := (ta ρ S).bind (eAnd1 tb ρ)
def eOr (ta tb : DT) (ρ : Env) (S : Sto) : Res Bool := (ta ρ S).bind (eOr1 tb ρ)
def eNot (ta : DT) (ρ : Env) (S : Sto) : Res Bool := (ta ρ S).bind eNot1
theorem i_and {ta tb : DT} {σ : St} {H : Hp} {Q : Bool → Hp → Prop} (h : LT K mg W (eAnd ta tb) σ H Q) : tAnd (LT K mg W ta) (LT K mg W tb) σ H Q := by
  obtain ⟨w, ok, rfl, ρ, rr, h⟩ := h
  refine ⟨w, ok, rfl, ρ, rr, h.bind fun w1 x v le1 ok1 r1 h1 => ?_⟩
  have r1 : x = v := r1
  subst r1
  cases x with
  | true => exact iteT ⟨w1, ok1, rfl, ρ, rr.up ok le1, h1⟩
  | false => exact iteF (Fin.now h1 ok1 rfl)
theorem i_or {ta tb : DT} {σ : St} {H : Hp} {Q : Bool → Hp → Prop} (h : LT K mg W (eOr ta tb) σ H Q) : tOr (LT K mg W ta) (LT K mg W tb) σ H Q := by
  obtain ⟨w, ok, rfl, ρ, rr, h⟩ := h
  refine ⟨w, ok, rfl, ρ, rr, h.bind fun w1 x v le1 ok1 r1 h1 => ?_⟩
  have r1 : x = v := r1
  subst r1
  cases x with
  | true => exact iteT (Fin.now h1 ok1 rfl)
  | false => exact iteF ⟨w1, ok1, rfl, ρ, rr.up ok le1, h1⟩
theorem i_not {ta : DT} {σ : St} {H : Hp} {Q : Bool → Hp → Prop} (h : LT K mg W (eNot ta) σ H Q) : tNot (LT K mg W ta) σ H Q := by
  obtain ⟨w, ok, rfl, ρ, rr, h⟩ := h
  refine ⟨w, ok, rfl, ρ, rr, h.bind fun w1 x v le1 ok1 r1 h1 => ?_⟩
  have r1 : x = v := r1
  subst r1
  exact Fin.now h1 ok1 rfl
variable {rest : List Expr}
theorem lw_and1 {ta : DT} (ha : PT X a (LT X.K X.mg W ta)) : PW X (.BoolOp .And [a] pos) (LT X.K X.mg W ta) := pw_and1 ha
theorem lw_or1 {ta : DT} (ha : PT X a (LT X.K X.mg W ta)) : PW X (.BoolOp .Or [a] pos) (LT X.K X.mg W ta) := pw_or1 ha
theorem lw_and {ta tb : DT} (ha : PT X a (LT X.K X.mg W ta)) (hb : PW X (.BoolOp .And (b :: rest) pos) (LT X.K X.mg W tb)) : PW X (.BoolOp .And (a :: b :: rest) pos) (LT X.K X.mg W (eAnd ta tb)) := (pw_and ha hb).imp fun _ _ _ => i_and
theorem lw_or {ta tb : DT} (ha : PT X a (LT X.K X.mg W ta)) (hb : PW X (.BoolOp .Or (b :: rest) pos) (LT X.K X.mg W tb)) : PW X (.BoolOp .Or (a :: b :: rest) pos) (LT X.K X.mg W (eOr ta tb)) := (pw_or ha hb).imp fun _ _ _ => i_or
theorem lt_not {ta : DT} (ha : PT X a (LT X.K X.mg W ta)) : PT X (.UnaryOp .Not a pos) (LT X.K X.mg W (eNot ta)) := (pt_not ha).imp fun _ _ _ => i_not
/-- .. as values (bools) -/
def eAndV1 (db : DE) (ρ : Env) : D → Sto → Res D
  | .bl true, S1 => db ρ S1
  | .bl false, S1 => .ok (.bl false) S1
  | _, _ => .bad
def eOrV1 (db : DE) (ρ : Env) : D → Sto → Res D
  | .bl true, S1 => .ok (.bl true) S1
  | .bl false, S1 => db ρ S1
  | _, _ => .bad
def eNotV1 : D → Sto → Res D
  | .bl k, S1 => .ok (.bl (!k)) S1
  | _, _ => .bad
def eAndV (da db : DE) (ρ : Env) (S : Sto) : Res D := (da ρ S).bind (eAndV1 db ρ)
def eOrV (da db : DE) (ρ : Env) (S : Sto) : Res D := (da ρ S).bind (eOrV1 db ρ)
def eNotV (da : DE) (ρ : Env) (S : Sto) : Res D := (da ρ S).bind eNotV1
theorem i_andV {da db : DE} {σ : St} {H : Hp} {Q : VK} (h : LE K mg W (eAndV da db) σ H Q) : tAndV (LE K mg W da) (LE K mg W db) σ H Q := by
  obtain ⟨w, ok, rfl, ρ, rr, h⟩ := h
  refine ⟨w, ok, rfl, ρ, rr, h.bind fun w1 x v le1 ok1 r1 h1 => ?_⟩
  cases x with
  | bl k =>
    rw [Rv] at r1
    refine ⟨k, r1, ?_⟩
    cases k with
    | true => exact iteT ⟨w1, ok1, rfl, ρ, rr.up ok le1, h1⟩
    | false => exact iteF (Fin.now h1 ok1 (by rw [Rv]))
  | _ => exact h1.elim
theorem i_orV {da db : DE} {σ : St} {H : Hp} {Q : VK} (h : LE K mg W (eOrV da db) σ H Q) : tOrV (LE K mg W da) (LE K mg W db) σ H Q := by
  obtain ⟨w, ok, rfl, ρ, rr, h⟩ := h
  refine ⟨w, ok, rfl, ρ, rr, h.bind fun w1 x v le1 ok1 r1 h1 => ?_⟩
  cases x with
  | bl k =>
    rw [Rv] at r1
    refine ⟨k, r1, ?_⟩
    cases k with
    | true => exact iteT (Fin.now h1 ok1 (by rw [Rv]))
    | false => exact iteF ⟨w1, ok1, rfl, ρ, rr.up ok le1, h1⟩
  | _ => exact h1.elim
theorem i_notV {da : DE} {σ : St} {H : Hp} {Q : VK} (h : LE K mg W (eNotV da) σ H Q) : tNotV (LE K mg W da) σ H Q := by
  obtain ⟨w, ok, rfl, ρ, rr, h⟩ := h
  refine ⟨w, ok, rfl, ρ, rr, h.bind fun w1 x v le1 ok1 r1 h1 => ?_⟩
  cases x with
  | bl k =>
    rw [Rv] at r1
    exact ⟨k, r1, Fin.now h1 ok1 (by rw [Rv])⟩
  | _ => exact h1.elim
theorem l_one {op} {da : DE} (ha : PE X a (LE X.K X.mg W da)) : PE X (.BoolOp op [a] pos) (LE X.K X.mg W da) := pe_one ha
theorem l_and {da db : DE} (ha : PE X a (LE X.K X.mg W da)) (hb : PE X (.BoolOp .And (b :: rest) pos) (LE X.K X.mg W db)) : PE X (.BoolOp .And (a :: b :: rest) pos) (LE X.K X.mg W (eAndV da db)) := (pe_and ha hb).imp fun _ _ _ => i_andV
theorem l_or {da db : DE} (ha : PE X a (LE X.K X.mg W da)) (hb : PE X (.BoolOp .Or (b :: rest) pos) (LE X.K X.mg W db)) : PE X (.BoolOp .Or (a :: b :: rest) pos) (LE X.K X.mg W (eOrV da db)) := (pe_or ha hb).imp fun _ _ _ => i_orV
theorem l_not {da : DE} (ha : PE X a (LE X.K X.mg W da)) : PE X (.UnaryOp .Not a pos) (LE X.K X.mg W (eNotV da)) := (pe_not ha).imp fun _ _ _ => i_notV
def eIf1 (da db : DE) (ρ : Env) : Bool → Sto → Res D
  | true, S1 => da ρ S1
  | false, S1 => db ρ S1
def eIf (t : DT) (da db : DE) (ρ : Env) (S : Sto) : Res D := (t ρ S).bind (eIf1 da db ρ)
theorem i_if {t : DT} {da db : DE} {σ : St} {H : Hp} {Q : VK} (h : LE K mg W (eIf t da db) σ H Q) : tIf (LT K mg W t) (LE K mg W da) (LE K mg W db) σ H Q := by
  obtain ⟨w, ok, rfl, ρ, rr, h⟩ := h
  refine ⟨w, ok, rfl, ρ, rr, h.bind fun w1 x v le1 ok1 r1 h1 => ?_⟩
  have r1 : x = v := r1
  subst r1
  cases x with
  | true => exact iteT ⟨w1, ok1, rfl, ρ, rr.up ok le1, h1⟩
  | false => exact iteF ⟨w1, ok1, rfl, ρ, rr.up ok le1, h1⟩
theorem l_ifx {t : DT} {da db : DE} (hc : PT X c (LT X.K X.mg W t)) (ha : PE X a (LE X.K X.mg W da)) (hb : PE X b (LE X.K X.mg W db)) : PE X (.IfExp c a b pos) (LE X.K X.mg W (eIf t da db)) := (pe_ifExp hc ha hb).imp fun _ _ _ => i_if
/-! ## chains -/
def eChain3 (g : D → D → Sto → Res D) (dc : DE) (ρ : Env) (y : D) : D → Sto → Res D
  | .bl true, S3 => (dc ρ S3).bind (g y)
  | .bl false, S3 => .ok (.bl false) S3
  | _, _ => .bad
def eChain2 (f g : D → D → Sto → Res D) (dc : DE) (ρ : Env) (x y : D) (S2 : Sto) : Res D := (f x y S2).bind (eChain3 g dc ρ y)
def eChain1 (f g : D → D → Sto → Res D) (db dc : DE) (ρ : Env) (x : D) (S1 : Sto) : Res D := (db ρ S1).bind (eChain2 f g dc ρ x)
def eChain (f g : D → D → Sto → Res D) (da db dc : DE) (ρ : Env) (S : Sto) : Res D := (da ρ S).bind (eChain1 f g db dc ρ)
/-- an operation that raises nothing: the Fin of its own result is enough -/
theorem i_chain {r r' : R2} {f g : D → D → Sto → Res D} {da db dc : DE} (o : Op2 K mg r f) (o' : Op2 K mg r' g) {σ : St} {H : Hp} {Q : VK} (h : LE K mg W (eChain f g da db dc) σ H Q) :
    tChain r r' (LE K mg W da) (LE K mg W db) (LE K mg W dc) σ H Q := by
  obtain ⟨w, ok, rfl, ρ, rr, h⟩ := h
  refine ⟨w, ok, rfl, ρ, rr, h.bind fun w1 x v le1 ok1 r1 h1 => ?_⟩
  have rr1 := rr.up ok le1
  refine ⟨w1, ok1, rfl, ρ, rr1, h1.bind fun w2 y u le2 ok2 r2 h2 => ?_⟩
  have rr2 := rr1.up ok1 le2
  refine o w2 x y v u _ _ ok2 (r1.up ok1 le2) r2 (h2.bind fun w3 z t le3 ok3 r3 h3 => ?_)
  have rr3 := rr2.up ok2 le3
  cases z with
  | bl k =>
    rw [Rv] at r3
    refine ⟨k, r3, ?_⟩
    cases k with
    | true =>
      refine iteT ⟨w3, ok3, rfl, ρ, rr3, h3.bind fun w4 z2 t2 le4 ok4 r4 h4 => ?_⟩
      exact o' w4 y z2 u t2 Q _ ok4 ((r2.up ok2 le3).up ok3 le4) r4 h4
    | false => exact iteF (Fin.now h3 ok3 (by rw [Rv]))
  | _ => exact h3.elim
theorem l_chain {op op' : CmpOp} {r r' : R2} {f g : D → D → Sto → Res D} {da db dc : DE} (ho : OpR X (compareOp op) r) (o : Op2 X.K X.mg r f) (ho' : OpR X (compareOp op') r') (o' : Op2 X.K X.mg r' g) (ha : PE X a (LE X.K X.mg W da)) (hb : PE X b (LE X.K X.mg W db)) (hc : PE X c (LE X.K X.mg W dc))
    (hm : lastMarks [op, op'] [b, c] = false := by with_unfolding_all rfl) : PE X (.Compare a [op, op'] [b, c] pos) (LE X.K X.mg W (eChain f g da db dc)) := (pe_chain ho ho' ha hb hc hm).imp fun _ _ _ => i_chain o o'
theorem lt_chain {op op' : CmpOp} {r r' : R2} {f g : D → D → Sto → Res D} {da db dc : DE} (ho : OpR X (compareOp op) r) (o : Op2 X.K X.mg r f) (ho' : OpR X (compareOp op') r') (o' : Op2 X.K X.mg r' g) (ha : PE X a (LE X.K X.mg W da)) (hb : PE X b (LE X.K X.mg W db)) (hc : PE X c (LE X.K X.mg W dc))
    (hm : lastMarks [op, op'] [b, c] = false := by with_unfolding_all rfl) : PT X (.Compare a [op, op'] [b, c] pos) (LT X.K X.mg W (eT (eChain f g da db dc))) := (pt_chain ho ho' ha hb hc hm).imp fun _ _ _ h => i_test (fun _ _ _ => i_chain o o') h
/-! ## argument lists, displays -/
def eNil (_ : Env) (S : Sto) : Res (List D) := .ok [] S
def eCons2 (x : D) (xs : List D) (S2 : Sto) : Res (List D) := .ok (x :: xs) S2
def eCons1 (dr : DA) (ρ : Env) (x : D) (S1 : Sto) : Res (List D) := (dr ρ S1).bind (eCons2 x)
def eCons (da : DE) (dr : DA) (ρ : Env) (S : Sto) : Res (List D) := (da ρ S).bind (eCons1 dr ρ)
theorem i_nil {σ : St} {H : Hp} {Q : List V → Hp → Prop} (h : LA K mg W eNil σ H Q) : tNil σ H Q := by
  obtain ⟨w, ok, rfl, ρ, rr, h⟩ := h
  exact Fin.now h ok Rvs.nil
theorem i_cons {da : DE} {dr : DA} {σ : St} {H : Hp} {Q : List V → Hp → Prop} (h : LA K mg W (eCons da dr) σ H Q) : tCons (LE K mg W da) (LA K mg W dr) σ H Q := by
  obtain ⟨w, ok, rfl, ρ, rr, h⟩ := h
  refine ⟨w, ok, rfl, ρ, rr, h.bind fun w1 x v le1 ok1 r1 h1 => ?_⟩
  refine ⟨w1, ok1, rfl, ρ, rr.up ok le1, h1.bind fun w2 xs vs le2 ok2 r2 h2 => ?_⟩
  exact Fin.now h2 ok2 (Rvs.cons (r1.up ok1 le2) r2)
variable {es : List Expr}
theorem la_nil : PA X [] (LA X.K X.mg W eNil) := pa_nil.imp fun _ _ _ => i_nil
theorem la_cons {da : DE} {dr : DA} (ha : PE X a (LE X.K X.mg W da)) (hr : PA X es (LA X.K X.mg W dr)) (hs : starEach (a :: es) X.env = (false, eval a X.env) :: starEach es X.env := by rfl) : PA X (a :: es) (LA X.K X.mg W (eCons da dr)) :=
  (pa_cons ha hr hs).imp fun _ _ _ => i_cons
theorem same_upd {H : Hp} {p : Addr} {o : HO} (h : H p = none) : Same H (upd H p o) := fun b x e => by
  rw [upd_ne (ne_of_none e h)]
  exact e
/-- nothing but an untracked new thing -/
theorem Rob.up {w w' : Wo} (ok : w.Ok K mg) (le : w.Le w') {a : Addr} {o : Ob} (hH : ∀ x, w.H a = some x → w'.H a = some x) (h : Rob K mg w a o) : Rob K mg w' a o := by
  cases o with
  | lst ds =>
    obtain ⟨vs, h1, h2⟩ := h
    exact ⟨vs, hH _ h1, h2.up ok le⟩
  | dk ds =>
    obtain ⟨vs, h1, h2⟩ := h
    exact ⟨vs, hH _ h1, h2.up ok le⟩
  | dt ds =>
    obtain ⟨vs, h1, h2⟩ := h
    exact ⟨vs, hH _ h1, h2.up ok le⟩
  | ins C fs =>
    obtain ⟨Ca, dx, vs, h0, h1, h2⟩ := h
    exact ⟨Ca, dx, vs, h0, hH _ h1, h2.up ok le⟩
def Wo.heap (w : Wo) (H : Hp) : Wo := ⟨w.m, w.S, H⟩
theorem Wo.new_le {w : Wo} {p : Addr} {o : HO} (hp : w.H p = none) : w.Le (w.heap (upd w.H p o)) :=
  ⟨Nat.le_refl _, fun _ _ => rfl, fun a x e _ => same_upd hp a x e, fun i h h' => absurd (Nat.lt_of_lt_of_le h' h) (Nat.lt_irrefl _)⟩
theorem Wo.new_ok {w : Wo} (ok : w.Ok K mg) {p : Addr} {o : HO} (hp : w.H p = none) : (w.heap (upd w.H p o)).Ok K mg :=
  ⟨ok.inj, fun i o' h => (ok.has i o' h).up ok (Wo.new_le hp) fun x e => same_upd hp _ x e⟩
def mkTup (xs : List D) (S1 : Sto) : Res D := if xs.length ≤ sizeLine then .ok (.tup xs) S1 else .bad
def eTup (da : DA) (ρ : Env) (S : Sto) : Res D := (da ρ S).bind mkTup
theorem i_tup {da : DA} {σ : St} {H : Hp} {Q : VK} (h : LE K mg W (eTup da) σ H Q) : tTup (LA K mg W da) σ H Q := by
  obtain ⟨w, ok, rfl, ρ, rr, h⟩ := h
  refine ⟨w, ok, rfl, ρ, rr, h.bind fun w1 xs vs le1 ok1 r1 h1 => ?_⟩
  unfold mkTup at h1
  by_cases hl : xs.length ≤ sizeLine
  · rw [if_pos hl] at h1
    refine ⟨by rw [r1.len]; exact hl, fun p hp => ?_⟩
    have le2 := Wo.new_le (w := w1) (p := p) (o := .tup vs) hp
    have ok2 := Wo.new_ok (o := .tup vs) ok1 hp
    refine Fin.now (w := w1.heap (upd w1.H p (.tup vs))) (h1.up ok2 le2) ok2 ?_
    rw [Rv]
    exact ⟨p, vs, rfl, SqT.of upd_same, r1.up ok1 le2⟩
  · rw [if_neg hl] at h1
    exact h1.elim
theorem l_tup {da : DA} {x1} (h : PA X es (LA X.K X.mg W da)) : PE X (.Tuple es x1 pos) (LE X.K X.mg W (eTup da)) := (pe_tup h).imp fun _ _ _ => i_tup
/-! ## the store grows by an object -/
def Wo.add (w : Wo) (p : Addr) (o : Ob) (u : HO) : Wo := ⟨fun i => if i = w.S.length then p else w.m i, w.S ++ [o], upd w.H p u⟩
theorem Wo.add_m {w : Wo} {p : Addr} {o : Ob} {u : HO} : (w.add p o u).m w.S.length = p := if_pos rfl
theorem Wo.add_le {w : Wo} {p : Addr} {o : Ob} {u : HO} (hp : w.H p = none) : w.Le (w.add p o u) := by
  refine ⟨by show _ ≤ (w.S ++ [o]).length; rw [List.length_append]; exact Nat.le_add_right _ _, fun i hi => if_neg (Nat.ne_of_lt hi), fun a x e _ => same_upd hp a x e, fun i h h' => ?_⟩
  have h' : i < (w.S ++ [o]).length := h'
  rw [List.length_append] at h'
  have h' : i < w.S.length + 1 := h'
  have e : i = w.S.length := by omega
  rw [e, Wo.add_m]
  exact hp
theorem Wo.add_ok {w : Wo} (ok : w.Ok K mg) {p : Addr} {o : Ob} {u : HO} (hp : w.H p = none) (ho : Rob K mg (w.add p o u) p o) : (w.add p o u).Ok K mg := by
  have old : ∀ i, i < w.S.length → (w.add p o u).m i = w.m i ∧ w.m i ≠ p := fun i hi => by
    refine ⟨if_neg (Nat.ne_of_lt hi), fun e => ?_⟩
    obtain ⟨x, h1, _⟩ := ok.at hi
    rw [e, hp] at h1
    cases h1
  refine ⟨fun i j hi hj e => ?_, fun i o' h => ?_⟩
  · have hi : i < (w.S ++ [o]).length := hi
    have hj : j < (w.S ++ [o]).length := hj
    rw [List.length_append] at hi hj
    have hi : i < w.S.length + 1 := hi
    have hj : j < w.S.length + 1 := hj
    by_cases h1 : i < w.S.length
    · rw [(old i h1).1] at e
      by_cases h2 : j < w.S.length
      · rw [(old j h2).1] at e
        exact ok.inj i j h1 h2 e
      · have e2 : j = w.S.length := by omega
        rw [e2, Wo.add_m] at e
        exact absurd e (old i h1).2
    · have e1 : i = w.S.length := by omega
      rw [e1, Wo.add_m] at e
      by_cases h2 : j < w.S.length
      · rw [(old j h2).1] at e
        exact absurd e.symm (old j h2).2
      · omega
  · have h : (w.S ++ [o])[i]? = some o' := h
    by_cases h1 : i < w.S.length
    · rw [List.getElem?_append_left h1] at h
      rw [(old i h1).1]
      exact (ok.has i o' h).up ok (Wo.add_le hp) fun x e => by
        show upd w.H p u (w.m i) = some x
        rw [upd_ne (old i h1).2]
        exact e
    · have h2 := (List.getElem?_eq_some_iff.mp h).1
      rw [List.length_append] at h2
      have h2 : i < w.S.length + 1 := h2
      have e1 : i = w.S.length := by omega
      rw [e1, List.getElem?_append_right (Nat.le_refl _), Nat.sub_self] at h
      have e2 : o = o' := Option.some.inj h
      rw [e1, Wo.add_m, ← e2]
      exact ho
/-- a new object is handed back -/
theorem Fin.add {w : Wo} {o : Ob} {Q : VK} {E : Str → List (Str × D) → Wo → Prop} {p : Addr} {u : HO} (h : Fin K mg w (Rv K mg) (.ok (.obj w.S.length) (w.S ++ [o])) Q E) (ok : w.Ok K mg) (hp : w.H p = none)
    (ho : w.Le (w.add p o u) → Rob K mg (w.add p o u) p o) : Q (.ref p) (upd w.H p u) := by
  have le := Wo.add_le (o := o) (u := u) hp
  refine h (w.add p o u) (.ref p) le (Wo.add_ok ok hp (ho le)) rfl ?_
  rw [Rv]
  refine ⟨by show w.S.length < (w.S ++ [o]).length; rw [List.length_append]; exact Nat.lt_succ_self _, by rw [Wo.add_m]⟩
def mkLst (xs : List D) (S : Sto) : Res D := if xs.length ≤ sizeLine then .ok (.obj S.length) (S ++ [.lst xs]) else .bad
theorem Fin.newLst {w : Wo} {xs : List D} {vs : List V} {Q : VK} {E : Str → List (Str × D) → Wo → Prop} {p : Addr} (h : Fin K mg w (Rv K mg) (mkLst xs w.S) Q E) (ok : w.Ok K mg) (hp : w.H p = none) (r : Rvs K mg w xs vs) : Q (.ref p) (upd w.H p (.lst vs)) := by
  unfold mkLst at h
  by_cases hl : xs.length ≤ sizeLine
  · rw [if_pos hl] at h
    exact Fin.add h ok hp fun le => ⟨vs, upd_same, r.up ok le⟩
  · rw [if_neg hl] at h
    exact h.elim
theorem Fin.lstLen {w : Wo} {xs : List D} {S : Sto} {Q : VK} {E : Str → List (Str × D) → Wo → Prop} (h : Fin K mg w (Rv K mg) (mkLst xs S) Q E) : xs.length ≤ sizeLine := by
  unfold mkLst at h
  by_cases hl : xs.length ≤ sizeLine
  · exact hl
  · rw [if_neg hl] at h
    exact h.elim
def eLst (da : DA) (ρ : Env) (S : Sto) : Res D := (da ρ S).bind mkLst
theorem i_lst {da : DA} {σ : St} {H : Hp} {Q : VK} (h : LE K mg W (eLst da) σ H Q) : tLst (LA K mg W da) σ H Q := by
  obtain ⟨w, ok, rfl, ρ, rr, h⟩ := h
  refine ⟨w, ok, rfl, ρ, rr, h.bind fun w1 xs vs le1 ok1 r1 h1 => ?_⟩
  exact ⟨by rw [r1.len]; exact h1.lstLen, fun p hp => h1.newLst ok1 hp r1⟩
theorem l_lst {da : DA} (h : PA X es (LA X.K X.mg W da)) : PE X (.List es pos) (LE X.K X.mg W (eLst da)) := (pe_lst h).imp fun _ _ _ => i_lst
end

/-! ## sum, min and max of a tuple of numbers -/
section
open PyProof.Rows
variable {prog : Program} {w : World} {A : Around} {E : Value → Shared → Prop} {s : Shared} {l : Addr} {its : List Value} {ns : List Int} {Q : Value → Shared → Prop}
theorem sumT_raw (hh : A.handled = none) (hl : s.heap.IsTuple l its.toArray) (hi : IntsAre its ns)
    (h : ∀ hp tk tt, (∀ b o, s.heap.get? b = some o → hp.get? b = some o) → Q (.int ns.sum tt) { s with heap := hp, toks := tk }) :
    wpAny (model prog w) A (call (.builtin "sum") [.ref l]) Q E s := by
  obtain ⟨xs, e⟩ := hi.allInts.items
  have hn : numsOf (intItems xs).toList = ns := (congrArg (fun z => numsOf z.toList) e.symm).trans hi.numsOf
  rw [nums_intItems] at hn
  rw [e] at hl
  refine PySem.call_sum_walkAnyS (PySem.W.iter_tupleW (A := A.in1) hh hl fun s2 es W st fp hw hk => ?_)
  refine ⟨_, _, _, _, _, _, _, numAt xs, rfl, W, st, fp, fun _ _ => intItems_at, fun s9 t9 m => ?_⟩
  obtain ⟨hp, tk, rfl, old⟩ := PySem.W.moved_old es rfl m
  have z := h hp tk t9 old
  have e5 : (intItems xs).size = xs.size := by simp [intItems]
  rw [e5, preSum_eq, List.take_of_length_le (by simp), hn]
  exact z
theorem minT_raw (hh : A.handled = none) (hl : s.heap.IsTuple l its.toArray) (hi : IntsAre its ns) (hne : 0 < ns.length)
    (h : ∀ hp tk m tt, (∀ b o, s.heap.get? b = some o → hp.get? b = some o) → m ∈ ns → (∀ a ∈ ns, m ≤ a) → Q (.int m tt) { s with heap := hp, toks := tk }) :
    wpAny (model prog w) A (call (.builtin "min") [.ref l]) Q E s := by
  obtain ⟨xs, e⟩ := hi.allInts.items
  have hn : numsOf (intItems xs).toList = ns := (congrArg (fun z => numsOf z.toList) e.symm).trans hi.numsOf
  rw [nums_intItems] at hn
  subst hn
  rw [e] at hl
  have hz : 0 < xs.size := by simpa using hne
  have e5 : (intItems xs).size = xs.size := by simp [intItems]
  refine PySem.call_min_walkS (PySem.W.iter_tupleW (A := A.in1) hh hl fun s2 es W st fp hw hk => ?_)
  refine ⟨_, _, _, _, _, _, _, _, rfl, W, st, fp, by rw [e5]; exact hz, CmpOf.ints_lt (numAt xs) (fun _ _ => intItems_at), fun v s9 hv m => ?_⟩
  obtain ⟨hp, tk, rfl, old⟩ := PySem.W.moved_old es rfl m
  rw [e5] at hv
  obtain ⟨t, rfl⟩ := intItems_at hv
  obtain ⟨g1, g2⟩ := argBest_lt (numAt xs) (xs.size - 1)
  refine h hp tk _ t old ?_ fun a ha => ?_
  · rw [numAt_eq]
    exact PySem.getD_mem (by rw [List.length_map, Array.length_toList]; omega)
  · obtain ⟨j, hj, rfl⟩ := mem_getD ha
    rw [List.length_map, Array.length_toList] at hj
    rw [← numAt_eq]
    exact g2 j (by omega)
theorem maxT_raw (hh : A.handled = none) (hl : s.heap.IsTuple l its.toArray) (hi : IntsAre its ns) (hne : 0 < ns.length)
    (h : ∀ hp tk m tt, (∀ b o, s.heap.get? b = some o → hp.get? b = some o) → m ∈ ns → (∀ a ∈ ns, a ≤ m) → Q (.int m tt) { s with heap := hp, toks := tk }) :
    wpAny (model prog w) A (call (.builtin "max") [.ref l]) Q E s := by
  obtain ⟨xs, e⟩ := hi.allInts.items
  have hn : numsOf (intItems xs).toList = ns := (congrArg (fun z => numsOf z.toList) e.symm).trans hi.numsOf
  rw [nums_intItems] at hn
  subst hn
  rw [e] at hl
  have hz : 0 < xs.size := by simpa using hne
  have e5 : (intItems xs).size = xs.size := by simp [intItems]
  refine PySem.call_max_walkS (PySem.W.iter_tupleW (A := A.in1) hh hl fun s2 es W st fp hw hk => ?_)
  refine ⟨_, _, _, _, _, _, _, _, rfl, W, st, fp, by rw [e5]; exact hz, CmpOf.ints_gt (numAt xs) (fun _ _ => intItems_at), fun v s9 hv m => ?_⟩
  obtain ⟨hp, tk, rfl, old⟩ := PySem.W.moved_old es rfl m
  rw [e5] at hv
  obtain ⟨t, rfl⟩ := intItems_at hv
  obtain ⟨g1, g2⟩ := argBest_gt (numAt xs) (xs.size - 1)
  refine h hp tk _ t old ?_ fun a ha => ?_
  · rw [numAt_eq]
    exact PySem.getD_mem (by rw [List.length_map, Array.length_toList]; omega)
  · obtain ⟨j, hj, rfl⟩ := mem_getD ha
    rw [List.length_map, Array.length_toList] at hj
    rw [← numAt_eq]
    exact g2 j (by omega)
end
section
open PyProof.Rows
variable {X : Cx}
def rSumT (K : PySem.W.Frag) : List V → Hp → VK → Prop := fun vs H Q => ∃ (a : Addr) (ns : List Int), vs = [V.ref a] ∧ SqT K H a (ns.map V.int) ∧ Q (.int (List.sum ns)) H
def rMinT (K : PySem.W.Frag) : List V → Hp → VK → Prop := fun vs H Q => ∃ (a : Addr) (ns : List Int), vs = [V.ref a] ∧ SqT K H a (ns.map V.int) ∧ 0 < ns.length ∧ ∀ m : Int, m ∈ ns → (∀ y ∈ ns, m ≤ y) → Q (.int m) H
def rMaxT (K : PySem.W.Frag) : List V → Hp → VK → Prop := fun vs H Q => ∃ (a : Addr) (ns : List Int), vs = [V.ref a] ∧ SqT K H a (ns.map V.int) ∧ 0 < ns.length ∧ ∀ m : Int, m ∈ ns → (∀ y ∈ ns, y ≤ m) → Q (.int m) H
theorem cr_sumT (hc : X.calm = true) : CallR X (.builtin "sum") (rSumT X.K) := by
  intro pins s σ H vs us Q I r h
  obtain ⟨a, ns, rfl, t, q⟩ := h
  obtain ⟨its, rv, tu, _⟩ := I.tuple t
  rw [Vals.ref1 r]
  exact sumT_raw (I.ok.hd hc) tu rv.ints fun hp tk tt old => ⟨.int _, H, I.kept old, ⟨_, rfl⟩, q⟩
theorem cr_minT (hc : X.calm = true) : CallR X (.builtin "min") (rMinT X.K) := by
  intro pins s σ H vs us Q I r h
  obtain ⟨a, ns, rfl, t, hn, q⟩ := h
  obtain ⟨its, rv, tu, _⟩ := I.tuple t
  rw [Vals.ref1 r]
  exact minT_raw (I.ok.hd hc) tu rv.ints hn fun hp tk m tt old g1 g2 => ⟨.int _, H, I.kept old, ⟨_, rfl⟩, q m g1 g2⟩
theorem cr_maxT (hc : X.calm = true) : CallR X (.builtin "max") (rMaxT X.K) := by
  intro pins s σ H vs us Q I r h
  obtain ⟨a, ns, rfl, t, hn, q⟩ := h
  obtain ⟨its, rv, tu, _⟩ := I.tuple t
  rw [Vals.ref1 r]
  exact maxT_raw (I.ok.hd hc) tu rv.ints hn fun hp tk m tt old g1 g2 => ⟨.int _, H, I.kept old, ⟨_, rfl⟩, q m g1 g2⟩
theorem cr_sumA (hc : X.calm = true) : CallR X (.builtin "sum") (fun vs H Q => rSum X.K vs H Q ∨ rSumT X.K vs H Q) := (cr_sum hc).or (cr_sumT hc)
theorem cr_minA (hc : X.calm = true) : CallR X (.builtin "min") (fun vs H Q => rMin X.K vs H Q ∨ rMinT X.K vs H Q) := (cr_min hc).or (cr_minT hc)
theorem cr_maxA (hc : X.calm = true) : CallR X (.builtin "max") (fun vs H Q => rMax X.K vs H Q ∨ rMaxT X.K vs H Q) := (cr_max hc).or (cr_maxT hc)
end
section
variable {K : PySem.W.Frag} {mg : Str → Option Value} {X : Cx} {W : WX}
/-! ## scalars -/
def D.sc : D → Option V
  | .non => some .non
  | .bl b => some (.bl b)
  | .int i => some (.int i)
  | .str x => some (.str x)
  | _ => none
theorem Rv.sc {w : Wo} {d : D} {v u : V} (h : Rv K mg w d v) (e : d.sc = some u) : v = u := by
  cases d <;> first
    | (rw [Rv] at h; rw [h]; exact Option.some.inj e)
    | (exact absurd e (by intro z; cases z))
theorem Rv.int {w : Wo} {i : Int} {v : V} (h : Rv K mg w (.int i) v) : v = .int i := by rw [Rv] at h; exact h
theorem Rv.str {w : Wo} {i : Str} {v : V} (h : Rv K mg w (.str i) v) : v = .str i := by rw [Rv] at h; exact h
theorem Rv.bl {w : Wo} {i : Bool} {v : V} (h : Rv K mg w (.bl i) v) : v = .bl i := by rw [Rv] at h; exact h
theorem Rv.non {w : Wo} {v : V} (h : Rv K mg w .non v) : v = .non := by rw [Rv] at h; exact h
theorem Rv.ty {w : Wo} {n : String} {v : V} (h : Rv K mg w (.ty n) v) : v = .ty n := by rw [Rv] at h; exact h
theorem Rv.tup {w : Wo} {ds : List D} {v : V} (h : Rv K mg w (.tup ds) v) : ∃ a vs, v = .ref a ∧ SqT K w.H a vs ∧ Rvs K mg w ds vs := by rw [Rv] at h; exact h
theorem Rv.obj {w : Wo} {n : Nat} {v : V} (h : Rv K mg w (.obj n) v) : n < w.S.length ∧ v = .ref (w.m n) := by rw [Rv] at h; exact h
theorem mk_int {w : Wo} {i : Int} : Rv K mg w (.int i) (.int i) := by rw [Rv]
theorem mk_bl {w : Wo} {i : Bool} : Rv K mg w (.bl i) (.bl i) := by rw [Rv]
theorem mk_str {w : Wo} {i : Str} : Rv K mg w (.str i) (.str i) := by rw [Rv]
theorem mk_non {w : Wo} : Rv K mg w .non .non := by rw [Rv]
theorem Rv.kl {w : Wo} {ds : List D} {v : V} (h : Rv K mg w (.kl ds) v) : ∃ a vs, v = .ref a ∧ SqF K w.H a vs ∧ Rvs K mg w ds vs := by
  rw [Rv] at h
  exact h
theorem mk_tup {w : Wo} {a : Addr} {ds : List D} {vs : List V} (h : SqT K w.H a vs) (r : Rvs K mg w ds vs) : Rv K mg w (.tup ds) (.ref a) := by
  rw [Rv]
  exact ⟨a, vs, rfl, h, r⟩
def scs : List D → Option (List V)
  | [] => some []
  | d :: ds => match d.sc, scs ds with
    | some v, some vs => some (v :: vs)
    | _, _ => none
theorem Rvs.sc {w : Wo} : ∀ {ds : List D} {vs us : List V}, Rvs K mg w ds vs → scs ds = some us → vs = us
  | [], vs, us, r, e => by
    rw [Rvs] at r
    rw [r]
    exact Option.some.inj e
  | d :: ds, vs, us, r, e => by
    rw [Rvs] at r
    obtain ⟨v, q, e1, r1, r2⟩ := r
    unfold scs at e
    cases e2 : d.sc with
    | none =>
      rw [e2] at e
      cases e
    | some u =>
      cases e3 : scs ds with
      | none =>
        rw [e2, e3] at e
        cases e
      | some us2 =>
        rw [e2, e3] at e
        rw [e1, r1.sc e2, Rvs.sc r2 e3]
        exact Option.some.inj e
theorem sc_flat {d : D} {v : V} (e : d.sc = some v) : flatV v = true := by
  cases d <;> first
    | (rw [← Option.some.inj e]; rfl)
    | (exact absurd e (by intro z; cases z))
theorem scs_flat : ∀ {ds : List D} {us : List V}, scs ds = some us → us.all flatV = true
  | [], us, e => by
    rw [← Option.some.inj e]
    rfl
  | d :: ds, us, e => by
    unfold scs at e
    cases e2 : d.sc with
    | none =>
      rw [e2] at e
      cases e
    | some u =>
      cases e3 : scs ds with
      | none =>
        rw [e2, e3] at e
        cases e
      | some us2 =>
        rw [e2, e3] at e
        rw [← Option.some.inj e, List.all_cons, sc_flat e2, scs_flat e3]
        rfl
/-! ## numbers and + -/
/-- what a store's object is, as a list -/
def lstOf (S : Sto) (n : Nat) : Option (List D) := match S[n]? with
  | some (.lst xs) => some xs
  | _ => none
theorem lst_at {w : Wo} (ok : w.Ok K mg) {n : Nat} {xs : List D} (h : lstOf w.S n = some xs) : ∃ vs, SqL K w.H (w.m n) vs ∧ Rvs K mg w xs vs := by
  unfold lstOf at h
  cases e : w.S[n]? with
  | none =>
    rw [e] at h
    cases h
  | some o =>
    rw [e] at h
    have r := ok.has n o e
    cases o with
    | lst ds =>
      obtain ⟨vs, h1, h2⟩ := r
      rw [← Option.some.inj h]
      exact ⟨vs, SqL.of h1, h2⟩
    | dk kvs => cases h
    | dt kvs => cases h
    | ins C fs => cases h
theorem lst_mut {w : Wo} (ok : w.Ok K mg) {n : Nat} {xs : List D} (h : w.S[n]? = some (.lst xs)) : ∃ vs, w.H (w.m n) = some (.lst vs) ∧ Rvs K mg w xs vs := ok.has n _ h
def dAdd : D → D → Sto → Res D
  | .int i, .int j, S => .ok (.int (i + j)) S
  | .str x, .str y, S => if x.length + y.length ≤ sizeLine then .ok (.str (x ++ y)) S else .bad
  | .tup xs, .tup ys, S => if xs.length + ys.length ≤ sizeLine then .ok (.tup (xs ++ ys)) S else .bad
  | .obj n, .obj m, S => match S[n]?, S[m]? with
    | some (.lst xs), some (.lst ys) => mkLst (xs ++ ys) S
    | _, _ => .bad
  | _, _, _ => .bad
def rAddA (K : PySem.W.Frag) : R2 := fun x y H Q => rI0 (fun i j => .int (i + j)) x y H Q ∨ (∃ i j, x = .str i ∧ y = .str j ∧ i.length + j.length ≤ sizeLine ∧ Q (.str (i ++ j)) H) ∨ rCatA K x y H Q ∨ rCat x y H Q
theorem op_addA : OpR X (binaryOp .Add) (rAddA X.K) := op_add.or (op_add_str.or (op_catA.or op_cat))
theorem Fin.newTup {w : Wo} {xs : List D} {vs : List V} {Q : VK} {E : Str → List (Str × D) → Wo → Prop} {p : Addr} (h : Fin K mg w (Rv K mg) (.ok (.tup xs) w.S) Q E) (ok : w.Ok K mg) (hp : w.H p = none) (r : Rvs K mg w xs vs) : Q (.ref p) (upd w.H p (.tup vs)) := by
  have le2 := Wo.new_le (w := w) (p := p) (o := .tup vs) hp
  have ok2 := Wo.new_ok (o := .tup vs) ok hp
  exact Fin.now (w := w.heap (upd w.H p (.tup vs))) (h.up ok2 le2) ok2 (mk_tup (SqT.of upd_same) (r.up ok le2))
theorem o_add : Op2 K mg (rAddA K) dAdd := by
  intro w a b v u Q E ok ra rb h
  unfold dAdd at h
  split at h
  · rw [ra.int, rb.int]
    exact .inl ⟨_, _, rfl, rfl, Fin.now h ok mk_int⟩
  · rw [ra.str, rb.str]
    split at h
    · rename_i hz
      exact .inr (.inl ⟨_, _, rfl, rfl, hz, Fin.now h ok mk_str⟩)
    · exact h.elim
  · rename_i xs ys
    split at h
    · rename_i hz
      obtain ⟨a1, v1, rfl, t1, r1⟩ := ra.tup
      obtain ⟨a2, v2, rfl, t2, r2⟩ := rb.tup
      refine .inr (.inr (.inl ⟨a1, a2, v1, v2, rfl, rfl, t1, t2, by rw [r1.len, r2.len]; exact hz, fun e => ?_, fun e e2 => ?_, fun e e2 p hp => ?_⟩))
      · have l := r1.len
        rw [e] at l
        have e3 : xs = [] := List.eq_nil_of_length_eq_zero l.symm
        rw [e3, List.nil_append] at h
        exact Fin.now h ok (mk_tup t2 r2)
      · have l := r2.len
        rw [e2] at l
        have e3 : ys = [] := List.eq_nil_of_length_eq_zero l.symm
        rw [e3, List.append_nil] at h
        exact Fin.now h ok (mk_tup t1 r1)
      · exact h.newTup ok hp (r1.append r2)
    · exact h.elim
  · split at h
    · rename_i n m xs ys e1 e2
      obtain ⟨_, rfl⟩ := ra.obj
      obtain ⟨_, rfl⟩ := rb.obj
      obtain ⟨v1, h1, r1⟩ := lst_mut ok e1
      obtain ⟨v2, h2, r2⟩ := lst_mut ok e2
      have hl := h.lstLen
      rw [List.length_append] at hl
      exact .inr (.inr (.inr ⟨_, _, v1, v2, rfl, rfl, h1, h2, by rw [r1.len, r2.len]; exact hl, fun p hp => h.newLst ok hp (r1.append r2)⟩))
    · exact h.elim
  · exact h.elim
def dSub : D → D → Sto → Res D
  | .int i, .int j, S => .ok (.int (i - j)) S
  | _, _, _ => .bad
theorem o_sub : Op2 K mg (rI0 fun i j => .int (i - j)) dSub := by
  intro w a b v u Q E ok ra rb h
  unfold dSub at h
  split at h
  · rw [ra.int, rb.int]
    exact ⟨_, _, rfl, rfl, Fin.now h ok mk_int⟩
  · exact h.elim
/-! ## t * 1 is t itself -/
theorem tupOnce (l : Addr) (its : Array Value) (nn : Nat) (dct : Option Addr) (ss : Array (Option Value)) (u : Tok) :
    Meets (Builtin.«tuple.__mul__» ⟨[.ref l, .int 1 u], []⟩) (fun _ R s =>
      s.heap.get? l = some { cls := .type "tuple", dict := dct, data := .seq its nn, slots := ss } ∧ R (.ok (.ret (Value.ref l))) s) :=
  .of_wp fun _ _ _ _ s h => by
    obtain ⟨hp, gl, dd, tks, oo⟩ := s
    obtain ⟨hat, h⟩ := h
    have ix := AutoSeq1.idx_int
    have g0 : (decide ((1 : Int) < -(2 ^ 63)) || decide ((1 : Int) ≥ 2 ^ 63)) = false := by decide
    have g1 : (its.isEmpty || (1 : Int) == 1) = true := by rw [show ((1 : Int) == 1) = true from rfl, Bool.or_true]
    wp_walk using wpAny_loadPart' hat
    repeat (first
      | (refine wpAny_ite_false (decide_eq_false (by rw [g0]; exact Bool.false_ne_true)) ?_; wp_walk using wpAny_loadPart' hat)
      | (refine wpAny_ite_true (decide_eq_true g1) ?_; wp_walk using wpAny_loadPart' hat))
    exact ⟨_, rfl, h⟩
def rOneT (K : PySem.W.Frag) : R2 := fun x y H Q => ∃ l xs, x = .ref l ∧ y = .int 1 ∧ SqT K H l xs ∧ Q (.ref l) H
theorem op_oneT {X : Cx} : OpR X (binaryOp .Mult) (rOneT X.K) := by
  intro pins s σ H x y v u Q I rx ry h
  obtain ⟨l, xs, rfl, rfl, hT, q⟩ := h
  cases rx
  obtain ⟨t, rfl⟩ := ry
  obtain ⟨its, r, ⟨⟨cls, dd, data, sl⟩, ho, hc, n, hd⟩, _⟩ := I.tuple hT
  simp only at hc hd
  subst hc hd
  have two : Meets (Builtin.«int.__rmul__» ⟨[.int 1 t, .ref l], []⟩) _ := int_rmul_tuple 1 t l its.toArray n dd sl
  refine wpAny_binaryOp_repeat_ref (T := "tuple") (U := "int") (by decide) ⟨_, ho, rfl⟩ (fun s' => typeIs_int s' 1 t) noFill_tuple_mul F.fills_int_mul F.slot_int_rmul repeat_tuple F.slot_int_index.lookup ?_
  refine call_meets F.slot_int_rmul (typeIs_int s 1 t) F.entry_int_rmul (F.args_int_rmul_2 _ _) two ⟨ho, rfl, ⟨_, ho, rfl⟩, ?_⟩
  refine call_meets F.slot_tuple_mul ⟨_, ho, rfl⟩ F.entry_tuple_mul (F.args_tuple_mul_2 _ _) (tupOnce l its.toArray n dd sl t) ⟨ho, ?_⟩
  exact ⟨.ref l, H, I, rfl, q⟩
/-- a product of two numbers, the one below 2 ^ 64 or both of together less than a million bits; t * k of a tuple -/
def MulOk (i j : Int) : Prop := i.natAbs < 2 ^ 64 ∨ j.natAbs < 2 ^ 64 ∨ i.natAbs.log2 + j.natAbs.log2 < 1000000
instance (i j : Int) : Decidable (MulOk i j) := by unfold MulOk; infer_instance
def dMul : D → D → Sto → Res D
  | .int i, .int j, S => if MulOk i j then .ok (.int (i * j)) S else .bad
  | .tup xs, .int k, S => if k = 1 then .ok (.tup xs) S else if xs ≠ [] ∧ 2 ≤ k ∧ k ≤ 1000 ∧ xs.length ≤ 1000 then .ok (.tup (List.replicate k.toNat xs).flatten) S else .bad
  | _, _, _ => .bad
def rMulA (K : PySem.W.Frag) : R2 := fun x y H Q => rI CMulW (fun i j => .int (i * j)) x y H Q ∨ rI CMul (fun i j => .int (i * j)) x y H Q ∨ rRepT K x y H Q ∨ rOneT K x y H Q
theorem op_mulA : OpR X (binaryOp .Mult) (rMulA X.K) := op_mulW.or (op_mul.or (op_repT.or op_oneT))
theorem Rvs.rep {w : Wo} {xs : List D} {vs : List V} (r : Rvs K mg w xs vs) : ∀ n : Nat, Rvs K mg w (List.replicate n xs).flatten (List.replicate n vs).flatten
  | 0 => Rvs.nil
  | n + 1 => by
    rw [List.replicate_succ, List.replicate_succ, List.flatten_cons, List.flatten_cons]
    exact r.append (Rvs.rep r n)
theorem o_mul : Op2 K mg (rMulA K) dMul := by
  intro w a b v u Q E ok ra rb h
  unfold dMul at h
  split at h
  · rw [ra.int, rb.int]
    split at h
    · rename_i hz
      rcases hz with hz | hz | hz
      · exact .inr (.inl ⟨_, _, rfl, rfl, .inl ⟨by omega, by omega⟩, Fin.now h ok mk_int⟩)
      · exact .inr (.inl ⟨_, _, rfl, rfl, .inr ⟨by omega, by omega⟩, Fin.now h ok mk_int⟩)
      · exact .inl ⟨_, _, rfl, rfl, hz, Fin.now h ok mk_int⟩
    · exact h.elim
  · rename_i xs k
    split at h
    · rename_i hk
      obtain ⟨a1, v1, rfl, t1, r1⟩ := ra.tup
      rw [rb.int]
      subst hk
      exact .inr (.inr (.inr ⟨a1, v1, rfl, rfl, t1, Fin.now h ok (mk_tup t1 r1)⟩))
    · split at h
      · rename_i hz
        obtain ⟨h1, h2, h3, h4⟩ := hz
        obtain ⟨a1, v1, rfl, t1, r1⟩ := ra.tup
        rw [rb.int]
        refine .inr (.inr (.inl ⟨a1, k, v1, rfl, rfl, t1, fun e => h1 ?_, h2, h3, by rw [r1.len]; exact h4, fun p hp => h.newTup ok hp (r1.rep _)⟩))
        have l := r1.len
        rw [e] at l
        exact List.eq_nil_of_length_eq_zero l.symm
      · exact h.elim
  · exact h.elim
/-- // by a divisor of either sign, not too great -/
def dDiv : D → D → Sto → Res D
  | .int i, .int j, S => if j ≠ 0 ∧ j.natAbs.log2 < 9000 then .ok (.int (i.fdiv j)) S else .bad
  | _, _, _ => .bad
theorem op_fdivG : OpR X (binaryOp .FloorDiv) (rI (fun _ j => j ≠ 0 ∧ j.natAbs.log2 < 9000) fun i j => .int (i.fdiv j)) := opI fun _ _ _ _ _ _ _ hc q => PyProof.Rows.floordiv_int hc.1 q (.inl (PyProof.noPylong_of_log2 hc.2))
theorem o_div : Op2 K mg (rI (fun _ j => j ≠ 0 ∧ j.natAbs.log2 < 9000) fun i j => .int (i.fdiv j)) dDiv := by
  intro w a b v u Q E ok ra rb h
  unfold dDiv at h
  split at h
  · rw [ra.int, rb.int]
    split at h
    · rename_i hz
      exact ⟨_, _, rfl, rfl, hz, Fin.now h ok mk_int⟩
    · exact h.elim
  · exact h.elim
def dMod : D → D → Sto → Res D
  | .int i, .int j, S => if j ≠ 0 then .ok (.int (i.fmod j)) S else .bad
  | _, _, _ => .bad
theorem o_mod : Op2 K mg (rI (fun _ j => j ≠ 0) fun i j => .int (i.fmod j)) dMod := by
  intro w a b v u Q E ok ra rb h
  unfold dMod at h
  split at h
  · rw [ra.int, rb.int]
    split at h
    · rename_i hz
      exact ⟨_, _, rfl, rfl, hz, Fin.now h ok mk_int⟩
    · exact h.elim
  · exact h.elim
def dPow : D → D → Sto → Res D
  | .int i, .int j, S => if 0 ≤ j ∧ j ≤ 1000000 ∧ i.natAbs < 2 ^ 64 then .ok (.int (i ^ j.toNat)) S else .bad
  | _, _, _ => .bad
theorem o_pow : Op2 K mg (rI CPow fun i j => .int (i ^ j.toNat)) dPow := by
  intro w a b v u Q E ok ra rb h
  unfold dPow at h
  split at h
  · rw [ra.int, rb.int]
    split at h
    · rename_i hz
      exact ⟨_, _, rfl, rfl, hz, Fin.now h ok mk_int⟩
    · exact h.elim
  · exact h.elim
/-- one place -/
def eUn (f : D → Sto → Res D) (da : DE) (ρ : Env) (S : Sto) : Res D := (da ρ S).bind f
def Op1 (K : PySem.W.Frag) (mg : Str → Option Value) (r : V → Hp → VK → Prop) (f : D → Sto → Res D) : Prop := ∀ (w : Wo) (a : D) (v : V) (Q : VK) (E : Str → List (Str × D) → Wo → Prop), w.Ok K mg → Rv K mg w a v → Fin K mg w (Rv K mg) (f a w.S) Q E → r v w.H Q
theorem i_un {r : V → Hp → VK → Prop} {f : D → Sto → Res D} {da : DE} (o : Op1 K mg r f) {σ : St} {H : Hp} {Q : VK} (h : LE K mg W (eUn f da) σ H Q) : tUn r (LE K mg W da) σ H Q := by
  obtain ⟨w, ok, rfl, ρ, rr, h⟩ := h
  exact ⟨w, ok, rfl, ρ, rr, h.bind fun w1 x v le1 ok1 r1 h1 => o w1 x v Q _ ok1 r1 h1⟩
theorem l_un {op : UnaryOp} {r : V → Hp → VK → Prop} {f : D → Sto → Res D} {da : DE} {a : Expr} {pos : Pos} (ho : UnR X (unaryOp op) r) (o : Op1 X.K X.mg r f) (ha : PE X a (LE X.K X.mg W da)) : PE X (.UnaryOp op a pos) (LE X.K X.mg W (eUn f da)) := (pe_un ho ha).imp fun _ _ _ => i_un o
def dNeg : D → Sto → Res D
  | .int i, S => .ok (.int (-i)) S
  | _, _ => .bad
theorem o_neg : Op1 K mg (rU fun i => .int (-i)) dNeg := by
  intro w a v Q E ok ra h
  unfold dNeg at h
  split at h
  · rw [ra.int]
    exact ⟨_, rfl, Fin.now h ok mk_int⟩
  · exact h.elim
/-! ## comparisons -/
def dRel (p : Int → Int → Bool) : D → D → Sto → Res D
  | .int i, .int j, S => .ok (.bl (p i j)) S
  | _, _, _ => .bad
theorem o_rel (p : Int → Int → Bool) : Op2 K mg (rI0 fun i j => .bl (p i j)) (dRel p) := by
  intro w a b v u Q E ok ra rb h
  unfold dRel at h
  split at h
  · rw [ra.int, rb.int]
    exact ⟨_, _, rfl, rfl, Fin.now h ok mk_bl⟩
  · exact h.elim
abbrev dLt := dRel fun i j => decide (i < j)
abbrev dLe := dRel fun i j => decide (i ≤ j)
abbrev dGt := dRel fun i j => decide (j < i)
abbrev dGe := dRel fun i j => decide (j ≤ i)
def dEq : D → D → Sto → Res D
  | .int i, .int j, S => .ok (.bl (decide (i = j))) S
  | .str i, .str j, S => .ok (.bl (decide (i = j))) S
  | .bl i, .bl j, S => .ok (.bl (decide (i = j))) S
  | .non, .non, S => .ok (.bl true) S
  | .non, .int _, S => .ok (.bl false) S
  | .non, .bl _, S => .ok (.bl false) S
  | .non, .str _, S => .ok (.bl false) S
  | .int _, .non, S => .ok (.bl false) S
  | .bl _, .non, S => .ok (.bl false) S
  | .str _, .non, S => .ok (.bl false) S
  | .int _, .str _, S => .ok (.bl false) S
  | .str _, .int _, S => .ok (.bl false) S
  | .bl _, .str _, S => .ok (.bl false) S
  | .str _, .bl _, S => .ok (.bl false) S
  | _, _, _ => .bad
def dNe (a b : D) (S : Sto) : Res D := (dEq a b S).bind eNotV1
theorem dEq_sc {a b : D} {S : Sto} : (dEq a b S = .bad) ∨ ∃ x y, a.sc = some x ∧ b.sc = some y ∧ scal x y = true ∧ dEq a b S = .ok (.bl (decide (x = y))) S := by
  unfold dEq
  split
  · rename_i i j
    exact .inr ⟨_, _, rfl, rfl, rfl, congrArg (fun k => Res.ok (D.bl k) S) (show decide (i = j) = decide (V.int i = V.int j) from (by rw [Bool.eq_iff_iff]; simp))⟩
  · rename_i i j
    exact .inr ⟨_, _, rfl, rfl, rfl, congrArg (fun k => Res.ok (D.bl k) S) (show decide (i = j) = decide (V.str i = V.str j) from (by rw [Bool.eq_iff_iff]; simp))⟩
  · rename_i i j
    exact .inr ⟨_, _, rfl, rfl, rfl, congrArg (fun k => Res.ok (D.bl k) S) (show decide (i = j) = decide (V.bl i = V.bl j) from (by rw [Bool.eq_iff_iff]; simp))⟩
  all_goals first
    | exact .inr ⟨_, _, rfl, rfl, rfl, rfl⟩
    | exact .inr ⟨_, _, rfl, rfl, rfl, by simp⟩
    | exact .inl rfl
theorem o_eq : Op2 K mg rEq dEq := by
  intro w a b v u Q E ok ra rb h
  rcases dEq_sc (a := a) (b := b) (S := w.S) with e | ⟨x, y, e1, e2, e3, e4⟩
  · rw [e] at h
    exact h.elim
  · rw [e4] at h
    rw [ra.sc e1, rb.sc e2]
    exact ⟨e3, Fin.now h ok mk_bl⟩
theorem o_ne : Op2 K mg rNe dNe := by
  intro w a b v u Q E ok ra rb h
  unfold dNe at h
  rcases dEq_sc (a := a) (b := b) (S := w.S) with e | ⟨x, y, e1, e2, e3, e4⟩
  · rw [e] at h
    exact h.elim
  · rw [e4] at h
    rw [ra.sc e1, rb.sc e2]
    exact ⟨e3, Fin.now h ok mk_bl⟩
/-- x in a list or tuple of scalars; a text in a text -/
def dIn (neg : Bool) : D → D → Sto → Res D
  | x, .tup ys, S => match x.sc, scs ys with
    | some v, some vs => .ok (.bl (if neg then !inV v vs else inV v vs)) S
    | _, _ => .bad
  | x, .obj n, S => match x.sc, (lstOf S n).bind scs with
    | some v, some vs => .ok (.bl (if neg then !inV v vs else inV v vs)) S
    | _, _ => .bad
  | .str i, .str j, S => .ok (.bl (if neg then !(!(Builtin.Str.occurrences j i 0 j.length 1).isEmpty) else !(Builtin.Str.occurrences j i 0 j.length 1).isEmpty)) S
  | _, _, _ => .bad
def rInA (K : PySem.W.Frag) (neg : Bool) : R2 := fun x y H Q => rIn K neg x y H Q ∨ ∃ i j, x = .str i ∧ y = .str j ∧ Q (.bl (if neg then !(!(Builtin.Str.occurrences j i 0 j.length 1).isEmpty) else !(Builtin.Str.occurrences j i 0 j.length 1).isEmpty)) H
theorem op_inA : OpR X (compareOp .In) (rInA X.K false) := op_in_seq.or op_in_str
theorem op_notInA : OpR X (compareOp .NotIn) (rInA X.K true) := op_notIn_seq.or op_notIn_str
theorem o_in (neg : Bool) : Op2 K mg (rInA K neg) (dIn neg) := by
  intro w a b v u Q E ok ra rb h
  unfold dIn at h
  split at h
  · split at h
    · rename_i x ys S v' vs' e1 e2
      obtain ⟨p, v2, rfl, t, r⟩ := rb.tup
      have e3 := r.sc e2
      subst e3
      rw [ra.sc e1]
      exact .inl ⟨p, _, rfl, .inr t, sc_flat e1, scs_flat e2, Fin.now h ok mk_bl⟩
    · exact h.elim
  · split at h
    · rename_i x n S v' vs' e1 e2
      obtain ⟨_, rfl⟩ := rb.obj
      obtain ⟨ys, e3, e4⟩ := Option.bind_eq_some_iff.mp e2
      obtain ⟨v2, t, r⟩ := lst_at ok e3
      have e5 := r.sc e4
      subst e5
      rw [ra.sc e1]
      exact .inl ⟨_, _, rfl, .inl t, sc_flat e1, scs_flat e4, Fin.now h ok mk_bl⟩
    · exact h.elim
  · rw [ra.str, rb.str]
    exact .inr ⟨_, _, rfl, rfl, Fin.now h ok mk_bl⟩
  · exact h.elim
/-- is None -/
def dIsN : D → Sto → Res D
  | .non, S => .ok (.bl true) S
  | _, S => .ok (.bl false) S
def dNotN : D → Sto → Res D
  | .non, S => .ok (.bl false) S
  | _, S => .ok (.bl true) S
def isNon : D → Bool
  | .non => true
  | _ => false
theorem Rv.isN {w : Wo} {d : D} {v : V} (h : Rv K mg w d v) : decide (v = .non) = isNon d := by
  cases d with
  | non => have e := h.non; subst e; rfl
  | bl b => have e := h.bl; subst e; rfl
  | int b => have e := h.int; subst e; rfl
  | str b => have e := h.str; subst e; rfl
  | tup b => obtain ⟨a, vs, e, _⟩ := h.tup; subst e; rfl
  | obj n => have e := h.obj.2; subst e; rfl
  | fn x =>
    rw [Rv] at h
    obtain ⟨a, _, e⟩ := h
    subst e
    rfl
  | ty n => have e := h.ty; subst e; rfl
  | raw n =>
    rw [Rv] at h
    subst h
    rfl
  | kl xs =>
    rw [Rv] at h
    obtain ⟨a, vs, e, _⟩ := h
    subst e
    rfl
  | tk xs =>
    rw [Rv] at h
    obtain ⟨a, e, _⟩ := h
    subst e
    rfl
theorem i_isN {da : DE} {σ : St} {H : Hp} {Q : VK} (h : LE K mg W (eUn dIsN da) σ H Q) : tIsN (LE K mg W da) σ H Q := by
  obtain ⟨w, ok, rfl, ρ, rr, h⟩ := h
  refine ⟨w, ok, rfl, ρ, rr, h.bind fun w1 x v le1 ok1 r1 h1 => ?_⟩
  rw [r1.isN]
  cases x <;> exact Fin.now h1 ok1 mk_bl
theorem i_notN {da : DE} {σ : St} {H : Hp} {Q : VK} (h : LE K mg W (eUn dNotN da) σ H Q) : tNotN (LE K mg W da) σ H Q := by
  obtain ⟨w, ok, rfl, ρ, rr, h⟩ := h
  refine ⟨w, ok, rfl, ρ, rr, h.bind fun w1 x v le1 ok1 r1 h1 => ?_⟩
  rw [r1.isN]
  cases x <;> exact Fin.now h1 ok1 mk_bl
theorem l_isN {a : Expr} {j} {pos pos' : Pos} {da : DE} (ha : PE X a (LE X.K X.mg W da)) : PE X (.Compare a [.Is] [.Constant .none j pos'] pos) (LE X.K X.mg W (eUn dIsN da)) := (pe_cmp (pc_isN ha)).imp fun _ _ _ => i_isN
theorem l_notN {a : Expr} {j} {pos pos' : Pos} {da : DE} (ha : PE X a (LE X.K X.mg W da)) : PE X (.Compare a [.IsNot] [.Constant .none j pos'] pos) (LE X.K X.mg W (eUn dNotN da)) := (pe_cmp (pc_notN ha)).imp fun _ _ _ => i_notN
theorem lt_isN {a : Expr} {j} {pos pos' : Pos} {da : DE} (ha : PE X a (LE X.K X.mg W da)) : PT X (.Compare a [.Is] [.Constant .none j pos'] pos) (LT X.K X.mg W (eT (eUn dIsN da))) := (pt_cmp (pc_isN ha)).imp fun _ _ _ h => i_test (fun _ _ _ => i_isN) h
theorem lt_notN {a : Expr} {j} {pos pos' : Pos} {da : DE} (ha : PE X a (LE X.K X.mg W da)) : PT X (.Compare a [.IsNot] [.Constant .none j pos'] pos) (LT X.K X.mg W (eT (eUn dNotN da))) := (pt_cmp (pc_notN ha)).imp fun _ _ _ h => i_test (fun _ _ _ => i_notN) h
/-! ## subscripts -/
def dIx : D → D → Sto → Res D
  | .tup xs, .int i, S => match atI xs i with
    | some d => .ok d S
    | none => .bad
  | .obj n, .int i, S => match (lstOf S n).bind fun xs => atI xs i with
    | some d => .ok d S
    | none => .bad
  | .str z, .int i, S => if z.length ≤ sizeLine then (match atI z.cps.toList i with
    | some c => .ok (.str ⟨#[c]⟩) S
    | none => .bad) else .bad
  | _, _, _ => .bad
theorem Rvs.atI {w : Wo} {ds : List D} {vs : List V} {i : Int} {d : D} (r : Rvs K mg w ds vs) (h : atI ds i = some d) : ∃ v, L2.atI vs i = some v ∧ Rv K mg w d v := by
  unfold L2.atI at h ⊢
  rw [r.len]
  obtain ⟨j, e1, e2⟩ := Option.bind_eq_some_iff.mp h
  obtain ⟨v, e3, r3⟩ := r.get e2
  exact ⟨v, by rw [e1]; exact e3, r3⟩
theorem o_ix : Op2 K mg (rIx K) dIx := by
  intro w a b v u Q E ok ra rb h
  unfold dIx at h
  split at h
  · split at h
    · rename_i xs i S d e
      obtain ⟨p, vs, rfl, t, r⟩ := ra.tup
      obtain ⟨z, e2, r2⟩ := r.atI e
      rw [rb.int]
      exact .inr (.inl ⟨p, vs, i, z, rfl, rfl, t, e2, Fin.now h ok r2⟩)
    · exact h.elim
  · split at h
    · rename_i n i S d e
      obtain ⟨_, rfl⟩ := ra.obj
      obtain ⟨xs, e3, e4⟩ := Option.bind_eq_some_iff.mp e
      obtain ⟨vs, t, r⟩ := lst_at ok e3
      obtain ⟨z, e2, r2⟩ := r.atI e4
      rw [rb.int]
      exact .inl ⟨_, vs, i, z, rfl, rfl, t, e2, Fin.now h ok r2⟩
    · exact h.elim
  · split at h
    · rename_i hz
      split at h
      · rename_i c e
        rw [ra.str, rb.int]
        exact .inr (.inr ⟨_, _, c, rfl, rfl, hz, e, Fin.now h ok mk_str⟩)
      · exact h.elim
    · exact h.elim
  · exact h.elim
/-! ## slices -/
def cutL {α : Type} (xs : List α) (lo hi : Option Int) : List α := (xs.drop (HT.sIx xs.length 0 lo)).take (HT.sIx xs.length xs.length hi - HT.sIx xs.length 0 lo)
theorem Rvs.cut {w : Wo} {ds : List D} {vs : List V} (r : Rvs K mg w ds vs) (lo hi : Option Int) : Rvs K mg w (cutL ds lo hi) (cutV vs lo hi) := by
  unfold cutL cutV
  rw [r.len]
  exact (r.drop _).take _
theorem cutL_whole {α : Type} {xs : List α} {lo hi : Option Int} (h : HT.sIx xs.length 0 lo = 0 ∧ HT.sIx xs.length xs.length hi = xs.length) : cutL xs lo hi = xs := by
  unfold cutL
  rw [h.1, h.2, List.drop_zero, Nat.sub_zero, List.take_length]
def dSl : D → Option Int → Option Int → Sto → Res D
  | .tup xs, lo, hi, S => .ok (.tup (cutL xs lo hi)) S
  | .obj n, lo, hi, S => match lstOf S n with
    | some xs => mkLst (cutL xs lo hi) S
    | none => .bad
  | .str z, lo, hi, S => if z.length ≤ sizeLine then .ok (.str (cutS z lo hi)) S else .bad
  | .kl xs, lo, hi, S => mkLst (cutL xs lo hi) S
  | _, _, _, _ => .bad
abbrev DO := Env → Sto → Res (Option Int)
def eNo (_ : Env) (S : Sto) : Res (Option Int) := .ok none S
def eSo1 : D → Sto → Res (Option Int)
  | .int i, S1 => .ok (some i) S1
  | _, _ => .bad
def eSo (da : DE) (ρ : Env) (S : Sto) : Res (Option Int) := (da ρ S).bind eSo1
def Ro (_ : Wo) (a b : Option Int) : Prop := a = b
def LO (K : PySem.W.Frag) (mg : Str → Option Value) (W : WX) (de : DO) : TO := fun σ H Q => ∃ w : Wo, w.Ok K mg ∧ w.H = H ∧ ∃ ρ, Rσ K mg w ρ σ ∧ Fin K mg w Ro (de ρ w.S) Q (XW K mg W σ)
theorem _root_.L2.PO.imp {e : Option Expr} {t t' : TO} (h : PO X e t) (k : ∀ σ H Q, t' σ H Q → t σ H Q) : PO X e t' := ⟨fun pins s σ H Q I ht => h.run pins s σ H Q I (k _ _ _ ht)⟩
theorem lo_none : PO X none (LO X.K X.mg W eNo) := po_none.imp fun _ _ _ h => by
  obtain ⟨w, ok, rfl, ρ, rr, h⟩ := h
  exact Fin.now h ok rfl
theorem lo_some {e : Expr} {da : DE} (ha : PE X e (LE X.K X.mg W da)) : PO X (some e) (LO X.K X.mg W (eSo da)) := (po_some ha).imp fun _ _ _ h => by
  obtain ⟨w, ok, rfl, ρ, rr, h⟩ := h
  refine ⟨w, ok, rfl, ρ, rr, Fin.bind (R' := Ro) h fun w1 x v le1 ok1 r1 h1 => ?_⟩
  cases x with
  | int i => exact ⟨i, r1.int, Fin.now h1 ok1 rfl⟩
  | _ => exact h1.elim
def eSl2 (dh : DO) (ρ : Env) (x : D) (l : Option Int) (S2 : Sto) : Res D := (dh ρ S2).bind (dSl x l)
def eSl1 (dl dh : DO) (ρ : Env) (x : D) (S1 : Sto) : Res D := (dl ρ S1).bind (eSl2 dh ρ x)
def eSl (da : DE) (dl dh : DO) (ρ : Env) (S : Sto) : Res D := (da ρ S).bind (eSl1 dl dh ρ)
def rSlX (K : PySem.W.Frag) : V → Option Int → Option Int → Hp → VK → Prop := fun x lo hi H Q => rSlL K x lo hi H Q ∨ rSlA K x lo hi H Q ∨ (∃ z, x = .str z ∧ z.length ≤ sizeLine ∧ Q (.str (cutS z lo hi)) H)
theorem l_slice {e : Expr} {lo hi : Option Expr} {pos p2 : Pos} {da : DE} {dl dh : DO} (hs : SlR X (rSlX X.K)) (ha : PE X e (LE X.K X.mg W da)) (hl : PO X lo (LO X.K X.mg W dl)) (hh : PO X hi (LO X.K X.mg W dh)) : PE X (.Subscript e (.Slice lo hi none p2) pos) (LE X.K X.mg W (eSl da dl dh)) :=
  (pe_slice hs ha hl hh).imp fun _ _ _ h => by
    obtain ⟨w, ok, rfl, ρ, rr, h⟩ := h
    refine ⟨w, ok, rfl, ρ, rr, h.bind fun w1 x v le1 ok1 r1 h1 => ?_⟩
    have rr1 := rr.up ok le1
    refine ⟨w1, ok1, rfl, ρ, rr1, h1.bind fun w2 l l' le2 ok2 r2 h2 => ?_⟩
    have r2 : l = l' := r2
    subst r2
    have rr2 := rr1.up ok1 le2
    refine ⟨w2, ok2, rfl, ρ, rr2, h2.bind fun w3 u u' le3 ok3 r3 h3 => ?_⟩
    have r3 : u = u' := r3
    subst r3
    have r1 := (r1.up ok1 le2).up ok2 le3
    unfold dSl at h3
    split at h3
    · obtain ⟨p, vs, rfl, t, r⟩ := r1.tup
      refine .inr (.inl ⟨p, vs, rfl, t, fun hw => ?_, fun hw q hq => h3.newTup ok3 hq (r.cut _ _)⟩)
      rw [r.len] at hw
      rw [cutL_whole hw] at h3
      exact Fin.now h3 ok3 (mk_tup t r)
    · split at h3
      · rename_i xs e
        obtain ⟨_, rfl⟩ := r1.obj
        obtain ⟨vs, t, r⟩ := lst_at ok3 e
        exact .inl ⟨_, vs, rfl, t, fun q hq => h3.newLst ok3 hq (r.cut _ _)⟩
      · exact h3.elim
    · split at h3
      · rename_i hz
        rw [r1.str]
        exact .inr (.inr ⟨_, rfl, hz, Fin.now h3 ok3 mk_str⟩)
      · exact h3.elim
    · obtain ⟨p, vs, rfl, t, r⟩ := r1.kl
      exact .inl ⟨_, vs, rfl, t.L, fun q hq => h3.newLst ok3 hq (r.cut _ _)⟩
    · exact h3.elim
/-! ## calls of built-ins -/
def Opn (K : PySem.W.Frag) (mg : Str → Option Value) (r : List V → Hp → VK → Prop) (f : List D → Sto → Res D) : Prop := ∀ (w : Wo) (ds : List D) (vs : List V) (Q : VK) (E : Str → List (Str × D) → Wo → Prop), w.Ok K mg → Rvs K mg w ds vs → Fin K mg w (Rv K mg) (f ds w.S) Q E → r vs w.H Q
def eCall (f : DF) (da : DA) (ρ : Env) (S : Sto) : Res D := (da ρ S).bind f
theorem i_callB {r : List V → Hp → VK → Prop} {f : DF} {da : DA} (o : Opn K mg r f) {σ : St} {H : Hp} {Q : VK} (h : LE K mg W (eCall f da) σ H Q) : tCB r (LA K mg W da) σ H Q := by
  obtain ⟨w, ok, rfl, ρ, rr, h⟩ := h
  exact ⟨w, ok, rfl, ρ, rr, h.bind fun w1 x v le1 ok1 r1 h1 => o w1 x v Q _ ok1 r1 h1⟩
variable {e : Expr} {es : List Expr} {x : Str} {p pos : Pos} {id T : String} {r : List V → Hp → VK → Prop} {f : DF} {da : DA}
theorem l_callB (hc : CallR X (.builtin id) r) (o : Opn X.K X.mg r f) (hg : Gl X x) (hm : X.mg x = none) (hv : bootBuiltins x = some (.builtin id)) (ha : PA X (e :: es) (LA X.K X.mg W da)) (hn : x ≠ "__name__" := by decide) (hdb : (x == ("__debug__" : Str)) = false := by decide)
    (he : starEach (e :: es) X.env = (false, eval e X.env) :: starEach es X.env := by rfl) (hpl : (backTo pos (starEach es X.env)).any (·.1) = false := by rfl) : PE X (.Call (.Name x p) (e :: es) [] pos) (LE X.K X.mg W (eCall f da)) := (pe_callB hc hg hm hv ha hn hdb he hpl).imp fun _ _ _ => i_callB o
theorem l_callTy (hc : CallR X (.type T) r) (o : Opn X.K X.mg r f) (hg : Gl X x) (hm : X.mg x = none) (hv : bootBuiltins x = some (.type T)) (ha : PA X (e :: es) (LA X.K X.mg W da)) (hn : x ≠ "__name__" := by decide) (hdb : (x == ("__debug__" : Str)) = false := by decide)
    (he : starEach (e :: es) X.env = (false, eval e X.env) :: starEach es X.env := by rfl) (hpl : (backTo pos (starEach es X.env)).any (·.1) = false := by rfl) : PE X (.Call (.Name x p) (e :: es) [] pos) (LE X.K X.mg W (eCall f da)) := (pe_callTy hc hg hm hv ha hn hdb he hpl).imp fun _ _ _ => i_callB o
theorem Rvs.one {w : Wo} {d : D} {vs : List V} (h : Rvs K mg w [d] vs) : ∃ v, vs = [v] ∧ Rv K mg w d v := by
  rw [Rvs] at h
  obtain ⟨v, q, e, r1, r2⟩ := h
  rw [Rvs] at r2
  exact ⟨v, by rw [e, r2], r1⟩
theorem Rvs.two {w : Wo} {d d2 : D} {vs : List V} (h : Rvs K mg w [d, d2] vs) : ∃ v u, vs = [v, u] ∧ Rv K mg w d v ∧ Rv K mg w d2 u := by
  rw [Rvs] at h
  obtain ⟨v, q, e, r1, r2⟩ := h
  obtain ⟨u, e2, r3⟩ := r2.one
  exact ⟨v, u, by rw [e, e2], r1, r3⟩
def dLen : DF
  | [.tup xs], S => .ok (.int xs.length) S
  | [.str z], S => if z.length ≤ sizeLine then .ok (.int z.length) S else .bad
  | [.obj n], S => match S[n]? with
    | some (.lst xs) => .ok (.int xs.length) S
    | some (.dk xs) => .ok (.int xs.length) S
    | some (.dt xs) => .ok (.int xs.length) S
    | _ => .bad
  | _, _ => .bad
def rLenA (K : PySem.W.Frag) : List V → Hp → VK → Prop := fun xs H Q => (∃ p ys, xs = [.ref p] ∧ (SqL K H p ys ∨ SqT K H p ys) ∧ Q (.int ys.length) H) ∨ (∃ z, xs = [.str z] ∧ z.length ≤ sizeLine ∧ Q (.int z.length) H) ∨ (∃ a kvs, xs = [V.ref a] ∧ H a = some (.dK kvs) ∧ Q (.int kvs.length) H) ∨ rLenT xs H Q
theorem call_lenA : CallR X (.builtin "len") (rLenA X.K) := call_len_seq.or (call_len_str.or (call_lenD.or call_len_dT))
theorem Rkv.len {κ : Type} {w : Wo} : ∀ {ps : List (κ × D)} {vs : List (κ × V)}, Rkv K mg w ps vs → vs.length = ps.length
  | [], vs, r => by
    have e : vs = [] := r
    rw [e]
    rfl
  | p :: ps, vs, r => by
    obtain ⟨v, q, e, _, r2⟩ := r
    rw [e, List.length_cons, List.length_cons, Rkv.len r2]
theorem o_len : Opn K mg (rLenA K) dLen := by
  intro w ds vs Q E ok r h
  unfold dLen at h
  split at h
  · obtain ⟨v, rfl, r1⟩ := r.one
    obtain ⟨p, us, rfl, t, r2⟩ := r1.tup
    refine .inl ⟨p, us, rfl, .inr t, ?_⟩
    rw [r2.len]
    exact Fin.now h ok mk_int
  · obtain ⟨v, rfl, r1⟩ := r.one
    split at h
    · rename_i hz
      rw [r1.str]
      exact .inr (.inl ⟨_, rfl, hz, Fin.now h ok mk_int⟩)
    · exact h.elim
  · obtain ⟨v, rfl, r1⟩ := r.one
    obtain ⟨_, rfl⟩ := r1.obj
    split at h
    · rename_i e
      obtain ⟨us, t, r2⟩ := lst_at ok (n := _) (by unfold lstOf; rw [e])
      refine .inl ⟨_, us, rfl, .inl t, ?_⟩
      rw [r2.len]
      exact Fin.now h ok mk_int
    · rename_i e
      obtain ⟨us, t, r2⟩ := ok.has _ _ e
      refine .inr (.inr (.inl ⟨_, us, rfl, t, ?_⟩))
      rw [r2.len]
      exact Fin.now h ok mk_int
    · rename_i e
      obtain ⟨us, t, r2⟩ := ok.has _ _ e
      refine .inr (.inr (.inr ⟨_, us, rfl, t, ?_⟩))
      rw [r2.len]
      exact Fin.now h ok mk_int
    · exact h.elim
  · exact h.elim
def dInt : DF
  | [.int i], S => .ok (.int i) S
  | [.bl k], S => .ok (.int (if k then 1 else 0)) S
  | _, _ => .bad
theorem o_int : Opn K mg (fun xs H Q => (∃ i, xs = [.int i] ∧ Q (.int i) H) ∨ ∃ k, xs = [.bl k] ∧ Q (.int (if k then 1 else 0)) H) dInt := by
  intro w ds vs Q E ok r h
  unfold dInt at h
  split at h
  · obtain ⟨v, rfl, r1⟩ := r.one
    rw [r1.int]
    exact .inl ⟨_, rfl, Fin.now h ok mk_int⟩
  · obtain ⟨v, rfl, r1⟩ := r.one
    rw [r1.bl]
    exact .inr ⟨_, rfl, Fin.now h ok mk_int⟩
  · exact h.elim
def dAbs : DF
  | [.int i], S => .ok (.int (if i < 0 then -i else i)) S
  | _, _ => .bad
theorem o_abs : Opn K mg (fun xs H Q => ∃ i, xs = [.int i] ∧ Q (.int (if i < 0 then -i else i)) H) dAbs := by
  intro w ds vs Q E ok r h
  unfold dAbs at h
  split at h
  · obtain ⟨v, rfl, r1⟩ := r.one
    rw [r1.int]
    exact ⟨_, rfl, Fin.now h ok mk_int⟩
  · exact h.elim
def dMax2 : DF
  | [.int i, .int j], S => .ok (.int (if j > i then j else i)) S
  | _, _ => .bad
theorem o_max2 : Opn K mg (fun xs H Q => ∃ i j, xs = [.int i, .int j] ∧ Q (.int (if j > i then j else i)) H) dMax2 := by
  intro w ds vs Q E ok r h
  unfold dMax2 at h
  split at h
  · obtain ⟨v, u, rfl, r1, r2⟩ := r.two
    rw [r1.int, r2.int]
    exact ⟨_, _, rfl, Fin.now h ok mk_int⟩
  · exact h.elim
def dMin2 : DF
  | [.int i, .int j], S => .ok (.int (if j < i then j else i)) S
  | _, _ => .bad
theorem o_min2 : Opn K mg (fun xs H Q => ∃ i j, xs = [.int i, .int j] ∧ Q (.int (if j < i then j else i)) H) dMin2 := by
  intro w ds vs Q E ok r h
  unfold dMin2 at h
  split at h
  · obtain ⟨v, u, rfl, r1, r2⟩ := r.two
    rw [r1.int, r2.int]
    exact ⟨_, _, rfl, Fin.now h ok mk_int⟩
  · exact h.elim
def dStr : DF
  | [.int i], S => if i.natAbs.log2 < 1920 then .ok (.str (toString i)) S else .bad
  | _, _ => .bad
theorem o_str : Opn K mg (fun xs H Q => ∃ i, xs = [.int i] ∧ i.natAbs.log2 < 1920 ∧ Q (.str (toString i)) H) dStr := by
  intro w ds vs Q E ok r h
  unfold dStr at h
  split at h
  · obtain ⟨v, rfl, r1⟩ := r.one
    split at h
    · rename_i hz
      rw [r1.int]
      exact ⟨_, rfl, hz, Fin.now h ok mk_str⟩
    · exact h.elim
  · exact h.elim
def seqOf (d : D) (S : Sto) : Option (List D) := match d with
  | .tup xs => some xs
  | .obj n => lstOf S n
  | .kl xs => some xs
  | _ => none
theorem seq_at {w : Wo} (ok : w.Ok K mg) {d : D} {v : V} {xs : List D} (r : Rv K mg w d v) (h : seqOf d w.S = some xs) : ∃ p vs, v = .ref p ∧ (SqL K w.H p vs ∨ SqT K w.H p vs) ∧ Rvs K mg w xs vs := by
  unfold seqOf at h
  split at h
  · obtain ⟨p, vs, e, t, r2⟩ := r.tup
    rw [← Option.some.inj h]
    exact ⟨p, vs, e, .inr t, r2⟩
  · obtain ⟨_, e⟩ := r.obj
    obtain ⟨vs, t, r2⟩ := lst_at ok h
    exact ⟨_, vs, e, .inl t, r2⟩
  · obtain ⟨p, vs, e, t, r2⟩ := r.kl
    rw [← Option.some.inj h]
    exact ⟨p, vs, e, .inl t.L, r2⟩
  · cases h
def dList : DF
  | [d], S => match seqOf d S with
    | some xs => mkLst xs S
    | none => .bad
  | _, _ => .bad
theorem o_list : Opn K mg (fun xs H Q => ∃ p ys, xs = [.ref p] ∧ (SqL K H p ys ∨ SqT K H p ys) ∧ ∀ l, H l = none → Q (.ref l) (upd H l (.lst ys))) dList := by
  intro w ds vs Q E ok r h
  unfold dList at h
  split at h
  · obtain ⟨v, rfl, r1⟩ := r.one
    split at h
    · rename_i e
      obtain ⟨p, us, rfl, t, r2⟩ := seq_at ok r1 e
      exact ⟨p, us, rfl, t, fun l hl => h.newLst ok hl r2⟩
    · exact h.elim
  · exact h.elim
def dTuple : DF
  | [.tup xs], S => .ok (.tup xs) S
  | [.obj n], S => match lstOf S n with
    | some xs => .ok (.tup xs) S
    | none => .bad
  | _, _ => .bad
theorem o_tuple : Opn K mg (fun xs H Q => ∃ p ys, xs = [.ref p] ∧ ((SqL K H p ys ∧ ∀ l, H l = none → Q (.ref l) (upd H l (.tup ys))) ∨ (SqT K H p ys ∧ Q (.ref p) H))) dTuple := by
  intro w ds vs Q E ok r h
  unfold dTuple at h
  split at h
  · obtain ⟨v, rfl, r1⟩ := r.one
    obtain ⟨p, us, rfl, t, r2⟩ := r1.tup
    exact ⟨p, us, rfl, .inr ⟨t, Fin.now h ok (mk_tup t r2)⟩⟩
  · obtain ⟨v, rfl, r1⟩ := r.one
    obtain ⟨_, rfl⟩ := r1.obj
    split at h
    · rename_i e
      obtain ⟨us, t, r2⟩ := lst_at ok e
      exact ⟨_, us, rfl, .inl ⟨t, fun l hl => h.newTup ok hl r2⟩⟩
    · exact h.elim
  · exact h.elim
/-! ## isinstance -/
theorem SqL.ty {H : Hp} {a : Addr} {xs : List V} (h : SqL K H a xs) : TyX K H (.ref a) (.type "list") := by
  rcases h with (h | ⟨o, h⟩) | ⟨o, its, n, h, hc, _⟩
  · exact .base (.lst h)
  · exact .base (.frz h)
  · exact .kList h hc
theorem SqT.ty {H : Hp} {a : Addr} {xs : List V} (h : SqT K H a xs) : TyX K H (.ref a) (.type "tuple") := by
  rcases h with (h | ⟨o, h⟩) | ⟨o, its, n, h, hc, _⟩
  · exact .base (.tup h)
  · exact .fTuple h
  · exact .kTuple h hc
def tyOf : D → Sto → Option String
  | .non, _ => some "NoneType"
  | .bl _, _ => some "bool"
  | .int _, _ => some "int"
  | .str _, _ => some "str"
  | .tup _, _ => some "tuple"
  | .obj n, S => match lstOf S n with
    | some _ => some "list"
    | none => none
  | _, _ => none
theorem ty_at {w : Wo} (ok : w.Ok K mg) {d : D} {v : V} {t : String} (r : Rv K mg w d v) (h : tyOf d w.S = some t) : TyX K w.H v (.type t) := by
  unfold tyOf at h
  split at h
  · rw [r.non, ← Option.some.inj h]; exact .base .non
  · rw [r.bl, ← Option.some.inj h]; exact .base (.bl _)
  · rw [r.int, ← Option.some.inj h]; exact .base (.int _)
  · rw [r.str, ← Option.some.inj h]; exact .base (.str _)
  · obtain ⟨p, vs, e, t, _⟩ := r.tup
    rw [e, ← Option.some.inj h]
    exact SqT.ty t
  · obtain ⟨_, e⟩ := r.obj
    split at h
    · rename_i e2
      obtain ⟨vs, t, _⟩ := lst_at ok e2
      rw [e, ← Option.some.inj h]
      exact SqL.ty t
    · cases h
  · cases h
def dIsi : DF
  | [d, .ty T], S => match (tyOf d S).bind fun t => kitB t T with
    | some b => .ok (.bl b) S
    | none => .bad
  | _, _ => .bad
theorem o_isi : Opn K mg (rIsi K) dIsi := by
  intro w ds vs Q E ok r h
  unfold dIsi at h
  split at h
  · obtain ⟨v, u, rfl, r1, r2⟩ := r.two
    split at h
    · rename_i b e
      obtain ⟨t, e1, e2⟩ := Option.bind_eq_some_iff.mp e
      rw [r2.ty]
      exact ⟨v, _, _, _, b, rfl, .ty _, ty_at ok r1 e1, kit_ty e2, Fin.now h ok mk_bl⟩
    · exact h.elim
  · exact h.elim
/-! ## sums, least, greatest of a list of ints -/
def asInts : List D → Option (List Int)
  | [] => some []
  | .int i :: ds => (asInts ds).map fun r => i :: r
  | _ => none
theorem Rvs.ints {w : Wo} : ∀ {ds : List D} {vs : List V} {ns : List Int}, Rvs K mg w ds vs → O.asInts ds = some ns → vs = ns.map V.int
  | [], vs, ns, r, e => by
    rw [Rvs] at r
    rw [r, ← Option.some.inj e]
    rfl
  | .int i :: ds, vs, ns, r, e => by
    rw [Rvs] at r
    obtain ⟨v, q, e1, r1, r2⟩ := r
    obtain ⟨ms, e2, e3⟩ := Option.map_eq_some_iff.mp e
    rw [e1, r1.int, Rvs.ints r2 e2, ← e3]
    rfl
  | .non :: ds, vs, ns, r, e => by cases e
  | .bl _ :: ds, vs, ns, r, e => by cases e
  | .str _ :: ds, vs, ns, r, e => by cases e
  | .tup _ :: ds, vs, ns, r, e => by cases e
  | .obj _ :: ds, vs, ns, r, e => by cases e
  | .fn _ :: ds, vs, ns, r, e => by cases e
  | .ty _ :: ds, vs, ns, r, e => by cases e
  | .raw _ :: ds, vs, ns, r, e => by cases e
  | .kl _ :: ds, vs, ns, r, e => by cases e
def intsOf (d : D) (S : Sto) : Option (List Int) := match d with
  | .obj n => (lstOf S n).bind asInts
  | .tup xs => asInts xs
  | _ => none
theorem ints_at {w : Wo} (ok : w.Ok K mg) {d : D} {v : V} {ns : List Int} (r : Rv K mg w d v) (h : intsOf d w.S = some ns) : ∃ p, v = .ref p ∧ (SqL K w.H p (ns.map V.int) ∨ SqT K w.H p (ns.map V.int)) := by
  unfold intsOf at h
  split at h
  · obtain ⟨_, e⟩ := r.obj
    obtain ⟨xs, e1, e2⟩ := Option.bind_eq_some_iff.mp h
    obtain ⟨vs, t, r2⟩ := lst_at ok e1
    rw [r2.ints e2] at t
    exact ⟨_, e, .inl t⟩
  · obtain ⟨a, vs, e, t, r2⟩ := r.tup
    rw [r2.ints h] at t
    exact ⟨_, e, .inr t⟩
  · cases h
def dSum : DF
  | [d], S => match intsOf d S with
    | some ns => .ok (.int ns.sum) S
    | none => .bad
  | _, _ => .bad
theorem o_sum : Opn K mg (fun vs H Q => rSum K vs H Q ∨ rSumT K vs H Q) dSum := by
  intro w ds vs Q E ok r h
  unfold dSum at h
  split at h
  · obtain ⟨v, rfl, r1⟩ := r.one
    split at h
    · rename_i e
      obtain ⟨p, rfl, t⟩ := ints_at ok r1 e
      rcases t with t | t
      · exact .inl ⟨p, _, rfl, t, Fin.now h ok mk_int⟩
      · exact .inr ⟨p, _, rfl, t, Fin.now h ok mk_int⟩
    · exact h.elim
  · exact h.elim
def greatest : List Int → Int
  | [] => 0
  | [i] => i
  | i :: r => max i (greatest r)
def least : List Int → Int
  | [] => 0
  | [i] => i
  | i :: r => min i (least r)
theorem greatest_is : ∀ (ns : List Int) (m : Int), m ∈ ns → (∀ y ∈ ns, y ≤ m) → m = greatest ns
  | [], m, h, _ => by cases h
  | [i], m, h, _ => List.mem_singleton.mp h
  | i :: j :: r, m, h, k => by
    show m = max i (greatest (j :: r))
    have all : ∀ (ns : List Int), ns ≠ [] → greatest ns ∈ ns ∧ ∀ y ∈ ns, y ≤ greatest ns := by
      intro ns
      induction ns with
      | nil => intro h; exact absurd rfl h
      | cons a l ih =>
        intro _
        cases l with
        | nil => exact ⟨List.mem_singleton.mpr rfl, fun y hy => by rw [List.mem_singleton.mp hy]; exact Int.le_refl _⟩
        | cons b l =>
          obtain ⟨h1, h2⟩ := ih (by intro z; cases z)
          have e : greatest (a :: b :: l) = max a (greatest (b :: l)) := rfl
          rw [e]
          refine ⟨?_, fun y hy => ?_⟩
          · by_cases hab : a ≤ greatest (b :: l)
            · rw [Int.max_eq_right hab]; exact List.mem_cons_of_mem _ h1
            · rw [Int.max_eq_left (by omega)]; exact List.mem_cons_self
          · rcases List.mem_cons.mp hy with e | e
            · rw [e]; exact Int.le_max_left _ _
            · exact Int.le_trans (h2 y e) (Int.le_max_right _ _)
    obtain ⟨a1, a2⟩ := all (i :: j :: r) (by intro z; cases z)
    have x1 := k _ a1
    have x2 := a2 m h
    have e : greatest (i :: j :: r) = max i (greatest (j :: r)) := rfl
    rw [← e]
    omega
theorem least_is : ∀ (ns : List Int) (m : Int), m ∈ ns → (∀ y ∈ ns, m ≤ y) → m = least ns
  | [], m, h, _ => by cases h
  | [i], m, h, _ => List.mem_singleton.mp h
  | i :: j :: r, m, h, k => by
    show m = min i (least (j :: r))
    have all : ∀ (ns : List Int), ns ≠ [] → least ns ∈ ns ∧ ∀ y ∈ ns, least ns ≤ y := by
      intro ns
      induction ns with
      | nil => intro h; exact absurd rfl h
      | cons a l ih =>
        intro _
        cases l with
        | nil => exact ⟨List.mem_singleton.mpr rfl, fun y hy => by rw [List.mem_singleton.mp hy]; exact Int.le_refl _⟩
        | cons b l =>
          obtain ⟨h1, h2⟩ := ih (by intro z; cases z)
          have e : least (a :: b :: l) = min a (least (b :: l)) := rfl
          rw [e]
          refine ⟨?_, fun y hy => ?_⟩
          · by_cases hab : a ≤ least (b :: l)
            · rw [Int.min_eq_left hab]; exact List.mem_cons_self
            · rw [Int.min_eq_right (by omega)]; exact List.mem_cons_of_mem _ h1
          · rcases List.mem_cons.mp hy with e | e
            · rw [e]; exact Int.min_le_left _ _
            · exact Int.le_trans (Int.min_le_right _ _) (h2 y e)
    obtain ⟨a1, a2⟩ := all (i :: j :: r) (by intro z; cases z)
    have x1 := k _ a1
    have x2 := a2 m h
    have e : least (i :: j :: r) = min i (least (j :: r)) := rfl
    rw [← e]
    omega
def dMaxL : DF
  | [d], S => match intsOf d S with
    | some ns => if 0 < ns.length then .ok (.int (greatest ns)) S else .bad
    | none => .bad
  | _, _ => .bad
theorem o_maxL : Opn K mg (fun vs H Q => rMax K vs H Q ∨ rMaxT K vs H Q) dMaxL := by
  intro w ds vs Q E ok r h
  unfold dMaxL at h
  split at h
  · obtain ⟨v, rfl, r1⟩ := r.one
    split at h
    · rename_i e
      split at h
      · rename_i hl
        obtain ⟨p, rfl, t⟩ := ints_at ok r1 e
        rcases t with t | t
        · refine .inl ⟨p, _, rfl, t, hl, fun m h1 h2 => ?_⟩
          rw [greatest_is _ m h1 h2]
          exact Fin.now h ok mk_int
        · refine .inr ⟨p, _, rfl, t, hl, fun m h1 h2 => ?_⟩
          rw [greatest_is _ m h1 h2]
          exact Fin.now h ok mk_int
      · exact h.elim
    · exact h.elim
  · exact h.elim
def dMinL : DF
  | [d], S => match intsOf d S with
    | some ns => if 0 < ns.length then .ok (.int (least ns)) S else .bad
    | none => .bad
  | _, _ => .bad
theorem o_minL : Opn K mg (fun vs H Q => rMin K vs H Q ∨ rMinT K vs H Q) dMinL := by
  intro w ds vs Q E ok r h
  unfold dMinL at h
  split at h
  · obtain ⟨v, rfl, r1⟩ := r.one
    split at h
    · rename_i e
      split at h
      · rename_i hl
        obtain ⟨p, rfl, t⟩ := ints_at ok r1 e
        rcases t with t | t
        · refine .inl ⟨p, _, rfl, t, hl, fun m h1 h2 => ?_⟩
          rw [least_is _ m h1 h2]
          exact Fin.now h ok mk_int
        · refine .inr ⟨p, _, rfl, t, hl, fun m h1 h2 => ?_⟩
          rw [least_is _ m h1 h2]
          exact Fin.now h ok mk_int
      · exact h.elim
    · exact h.elim
  · exact h.elim
end

section
variable {K : PySem.W.Frag} {mg : Str → Option Value} {X : Cx} {W : WX} {pos : Pos} {a b c e : Expr} {es : List Expr}
/-! ## defs -/
def endR : RS → Res D
  | .nx _ S' => .ok .non S'
  | .rt d S' => .ok d S'
  | .exc c fs _ S' => .exc c fs S'
  | .bk _ _ => .bad
  | .ct _ _ => .bad
  | .bad => .bad
def runD (n m : Nat) (body : DS) : DF := fun args S => if args.length = n then endR (body (args.map some ++ List.replicate (m - n) none) S) else .bad
def Ar (n : Nat) (f : DF) : Prop := ∀ ds S, ds.length ≠ n → f ds S = .bad
theorem runD_ar (n m : Nat) (body : DS) : Ar n (runD n m body) := fun ds S h => if_neg h
def badF : DF := fun _ _ => .bad
theorem badF_ar (n : Nat) : Ar n badF := fun _ _ _ => rfl
def EW (K : PySem.W.Frag) (mg : Str → Option Value) (E : XK) : Str → List (Str × D) → Wo → Prop := fun c fs w => ∀ C d, mg c = some (.ref C) → Rxd K mg w fs d → E (.ref C) d w.H
/-- a def does what f says -/
def spD (K : PySem.W.Frag) (mg : Str → Option Value) (f : DF) : Sp := fun vs H Q E => ∃ (w : Wo) (ds : List D), w.Ok K mg ∧ w.H = H ∧ Rvs K mg w ds vs ∧ Fin K mg w (Rv K mg) (f ds w.S) Q (EW K mg E)
theorem i_call {f : DF} {da : DA} {σ : St} {H : Hp} {Q : VK} (h : LE K mg W (eCall f da) σ H Q) : tCallS (spD K mg f) (WE W) (LA K mg W da) σ H Q := by
  obtain ⟨w, ok, rfl, ρ, rr, h⟩ := h
  exact ⟨w, ok, rfl, ρ, rr, h.bind fun w1 x v le1 ok1 r1 h1 => ⟨w1, x, ok1, rfl, r1, h1⟩⟩
theorem l_call {k : Nat} {f : Addr} {fd : FuncData} {ps : List Str} {x : Str} {p : Pos} {fh : DF} {da : DA} (F : FnOk X.prog X.w X.K X.mg X.base (L2.CX X.prog X.w) k f fd ps (spD X.K X.mg fh)) (hr : Room k X.A) (hg : Gl X x) (hm : X.mg x = some (.ref f)) (hk : PySem.W.keepIn X.K (.ref f) = true) (hb : Binds X.K fd ps []) (tk : Takes X W)
    (ha : PA X (e :: es) (LA X.K X.mg W da)) (hdb : (x == ("__debug__" : Str)) = false := by decide) (he : starEach (e :: es) X.env = (false, eval e X.env) :: starEach es X.env := by rfl) (hpl : (backTo pos (starEach es X.env)).any (·.1) = false := by rfl) :
    PE X (.Call (.Name x p) (e :: es) [] pos) (LE X.K X.mg W (eCall fh da)) :=
  (pe_callS F hr hg hm hk hb (fun σ => passAt tk σ) ha hdb he hpl).imp fun _ _ _ => i_call
section
variable {P : Program} {wd : World} {base : Heap}
theorem d_ok {x qual : Str} {st : Stmt} {f : Addr} {fd : FuncData} {N ps : List Str} {k : Nat} {ds : DS} (F : Fun K x qual st f fd) (S : FnScope N ps (defScope st))
    (h : ∀ (cdv : Value) (A : Around) (outer : List PySem.Env) (s : Shared) (H : Hp) (E : XK), Room k (A.deeper (PyProof.Rows.envOfC qual (defScope st) s.heap.objs.size f cdv)) →
      Takes (cxOf (L2.CX P wd) P wd K mg base N qual (defScope st) f cdv A outer s H E) (fun cls d _ H => E cls d H) →
      PassesOwn (model P wd) (cxOf (L2.CX P wd) P wd K mg base N qual (defScope st) f cdv A outer s H E).A (cxOf (L2.CX P wd) P wd K mg base N qual (defScope st) f cdv A outer s H E).env (cxOf (L2.CX P wd) P wd K mg base N qual (defScope st) f cdv A outer s H E).xe →
      PSs (cxOf (L2.CX P wd) P wd K mg base N qual (defScope st) f cdv A outer s H E) (defBody st) (LS K mg (fun cls d _ H => E cls d H) ds)) :
    FnOk P wd K mg base (L2.CX P wd) (k + 1) f fd ps (spD K mg (runD ps.length N.length ds)) := by
  refine F.okX S (fun vs H Q E hs => ?_) (fun cdv A outer s H vs Q E hr hs => ⟨_, h cdv A outer s H E hr (takes_of rfl rfl rfl rfl) (passes_of (X := cxOf (L2.CX P wd) P wd K mg base N qual (defScope st) f cdv A outer s H E) rfl), ?_⟩)
  · obtain ⟨w, args, ok, e, r, hf⟩ := hs
    rw [r.len]
    by_cases hl : args.length = ps.length
    · exact hl
    · rw [runD_ar _ _ _ _ _ hl] at hf
      exact hf.elim
  · obtain ⟨w, args, ok, e, r, hf⟩ := hs
    subst e
    by_cases hl : args.length = ps.length
    · have r0 : ∀ (n : Nat), Rσ K mg w (List.replicate n none) (List.replicate n none) := fun n => by
        induction n with
        | zero => exact rfl
        | succ n ih => exact ⟨none, _, rfl, trivial, ih⟩
      have r1 : ∀ (ds : List D) (vs : List V) (n : Nat), Rvs K mg w ds vs → Rσ K mg w (ds.map some ++ List.replicate n none) (vs.map some ++ List.replicate n none) := fun ds => by
        induction ds with
        | nil =>
          intro vs n r
          rw [Rvs] at r
          rw [r]
          exact r0 n
        | cons d ds ih =>
          intro vs n r
          rw [Rvs] at r
          obtain ⟨v, q, e, r2, r3⟩ := r
          rw [e]
          exact ⟨some v, _, rfl, ⟨v, rfl, r2⟩, ih q n r3⟩
      refine ⟨w, ok, rfl, args.map some ++ List.replicate (N.length - ps.length) none, ?_, ?_⟩
      · unfold L2.start
        rw [r.len, hl]
        exact r1 args vs _ r
      · unfold runD at hf
        rw [if_pos hl] at hf
        cases e : ds (args.map some ++ List.replicate (N.length - ps.length) none) w.S with
        | nx ρ S =>
          rw [e] at hf
          exact fun w' σ le ok' es _ => hf w' .non le ok' es mk_non
        | rt d S =>
          rw [e] at hf
          exact fun w' v le ok' es r' => hf w' v le ok' es r'
        | exc c fs ρ S =>
          rw [e] at hf
          exact fun w' σ le ok' es _ => hf w' le ok' es
        | bk ρ S =>
          rw [e] at hf
          exact hf.elim
        | ct ρ S =>
          rw [e] at hf
          exact hf.elim
        | bad =>
          rw [e] at hf
          exact hf.elim
    · rw [runD_ar _ _ _ _ _ hl] at hf
      exact hf.elim
theorem bad_ok {f : Addr} {fd : FuncData} {ps : List Str} {k : Nat} : FnOk P wd K mg base (L2.CX P wd) k f fd ps (spD K mg badF) := by
  refine ⟨fun vs H Q E h => ?_, fun A outer s H args us vs Q E hr he hb hv h => ?_⟩
  · obtain ⟨_, _, _, _, _, h⟩ := h
    exact h.elim
  · obtain ⟨_, _, _, _, _, h⟩ := h
    exact h.elim
end
/-! ## statements -/
def seqR (t : DS) : RS → RS
  | .nx ρ' S' => t ρ' S'
  | .rt d S' => .rt d S'
  | .bk ρ' S' => .bk ρ' S'
  | .ct ρ' S' => .ct ρ' S'
  | .exc c fs ρ' S' => .exc c fs ρ' S'
  | .bad => .bad
def dSeq (s t : DS) (ρ : Env) (S : Sto) : RS := seqR t (s ρ S)
def dNext (ρ : Env) (S : Sto) : RS := .nx ρ S
def bindR (k : D → Env → Sto → RS) (ρ : Env) : Res D → RS
  | .ok d S' => k d ρ S'
  | .exc c fs S' => .exc c fs ρ S'
  | .bad => .bad
def dBind (de : DE) (k : D → Env → Sto → RS) (ρ : Env) (S : Sto) : RS := bindR k ρ (de ρ S)
def setK (i : Nat) (d : D) (ρ : Env) (S : Sto) : RS := .nx (ρ.set i (some d)) S
def exprK (_ : D) (ρ : Env) (S : Sto) : RS := .nx ρ S
def retK (d : D) (_ : Env) (S : Sto) : RS := .rt d S
def dSet (i : Nat) (de : DE) (ρ : Env) (S : Sto) : RS := dBind de (setK i) ρ S
def dExpr (de : DE) (ρ : Env) (S : Sto) : RS := dBind de exprK ρ S
def dRet (de : DE) (ρ : Env) (S : Sto) : RS := dBind de retK ρ S
def dRetN (_ : Env) (S : Sto) : RS := .rt .non S
def ifR (s u : DS) (ρ : Env) : Res Bool → RS
  | .ok true S' => s ρ S'
  | .ok false S' => u ρ S'
  | .exc c fs S' => .exc c fs ρ S'
  | .bad => .bad
def dIfS (t : DT) (s u : DS) (ρ : Env) (S : Sto) : RS := ifR s u ρ (t ρ S)
def dBreak (ρ : Env) (S : Sto) : RS := .bk ρ S
def dCont (ρ : Env) (S : Sto) : RS := .ct ρ S
theorem i_seq {s t : DS} {D' : Ends} {σ : St} {H : Hp} (h : LS K mg W (dSeq s t) D' σ H) : tSeq (LS K mg W s) (LS K mg W t) D' σ H := by
  obtain ⟨w, ok, rfl, ρ, rr, h⟩ := h
  refine ⟨w, ok, rfl, ρ, rr, ?_⟩
  unfold dSeq at h
  cases e : s ρ w.S with
  | nx ρ' S' =>
    rw [e] at h
    exact fun w' σ' le ok' es r => ⟨w', ok', rfl, ρ', r, FinS.up ok' le (by rw [es]; exact h)⟩
  | rt d S =>
    rw [e] at h
    exact h
  | bk ρ S =>
    rw [e] at h
    exact h
  | ct ρ S =>
    rw [e] at h
    exact h
  | exc c fs ρ S =>
    rw [e] at h
    exact h
  | bad =>
    rw [e] at h
    exact h
theorem i_bind {de : DE} {k : D → Env → Sto → RS} {D' : Ends} {σ : St} {H : Hp} {P : VK} (h : LS K mg W (dBind de k) D' σ H)
    (hk : ∀ (w : Wo) (d : D) (v : V) (ρ : Env), w.Ok K mg → Rv K mg w d v → Rσ K mg w ρ σ → FinS K mg W w (k d ρ w.S) D' → P v w.H) : LE K mg W de σ H P := by
  obtain ⟨w, ok, rfl, ρ, rr, h⟩ := h
  refine ⟨w, ok, rfl, ρ, rr, ?_⟩
  unfold dBind at h
  cases e : de ρ w.S with
  | ok d S =>
    rw [e] at h
    exact fun w' v le ok' es r => hk w' d v ρ ok' r (rr.up ok le) (FinS.up ok' le (by rw [es]; exact h))
  | exc c fs S =>
    rw [e] at h
    exact fun w' le ok' es => h w' σ le ok' es (rr.up ok le)
  | bad =>
    rw [e] at h
    exact h
theorem FinS.now {w : Wo} {ρ : Env} {D' : Ends} {σ : St} (h : FinS K mg W w (.nx ρ w.S) D') (ok : w.Ok K mg) (r : Rσ K mg w ρ σ) : D'.nx σ w.H := h w σ (Wo.Le.refl w) ok rfl r
theorem i_next {D' : Ends} {σ : St} {H : Hp} (h : LS K mg W dNext D' σ H) : tNext D' σ H := by
  obtain ⟨w, ok, rfl, ρ, rr, h⟩ := h
  exact h.now ok rr
theorem i_set {i : Nat} {de : DE} {D' : Ends} {σ : St} {H : Hp} (h : LS K mg W (dSet i de) D' σ H) : tAsg (LE K mg W de) (gName i) D' σ H :=
  i_bind h fun w d v ρ ok r rr h => h.now ok (rr.set r i)
theorem i_expr {de : DE} {D' : Ends} {σ : St} {H : Hp} (h : LS K mg W (dExpr de) D' σ H) : tDrop (LE K mg W de) D' σ H := i_bind h fun w d v ρ ok r rr h => h.now ok rr
theorem i_ret {de : DE} {D' : Ends} {σ : St} {H : Hp} (h : LS K mg W (dRet de) D' σ H) : tRet (LE K mg W de) D' σ H := i_bind h fun w d v ρ ok r rr h => h w v (Wo.Le.refl w) ok rfl r
theorem i_retN {D' : Ends} {σ : St} {H : Hp} (h : LS K mg W dRetN D' σ H) : tRetN D' σ H := by
  obtain ⟨w, ok, rfl, ρ, rr, h⟩ := h
  exact h w .non (Wo.Le.refl w) ok rfl mk_non
theorem i_break {D' : Ends} {σ : St} {H : Hp} (h : LS K mg W dBreak D' σ H) : tBreak D' σ H := by
  obtain ⟨w, ok, rfl, ρ, rr, h⟩ := h
  exact h w σ (Wo.Le.refl w) ok rfl rr
theorem i_cont {D' : Ends} {σ : St} {H : Hp} (h : LS K mg W dCont D' σ H) : tCont D' σ H := by
  obtain ⟨w, ok, rfl, ρ, rr, h⟩ := h
  exact h w σ (Wo.Le.refl w) ok rfl rr
theorem i_ifS {t : DT} {s u : DS} {D' : Ends} {σ : St} {H : Hp} (h : LS K mg W (dIfS t s u) D' σ H) : tIfS (LT K mg W t) (LS K mg W s) (LS K mg W u) D' σ H := by
  obtain ⟨w, ok, rfl, ρ, rr, h⟩ := h
  refine ⟨w, ok, rfl, ρ, rr, ?_⟩
  unfold dIfS at h
  cases e : t ρ w.S with
  | ok d S =>
    rw [e] at h
    intro w' v le ok' es r
    have r : d = v := r
    subst r
    cases d with
    | true => exact iteT ⟨w', ok', rfl, ρ, rr.up ok le, FinS.up ok' le (by rw [es]; exact h)⟩
    | false => exact iteF ⟨w', ok', rfl, ρ, rr.up ok le, FinS.up ok' le (by rw [es]; exact h)⟩
  | exc c fs S =>
    rw [e] at h
    exact fun w' le ok' es => h w' σ le ok' es (rr.up ok le)
  | bad =>
    rw [e] at h
    exact h
variable {st : Stmt} {rest : List Stmt} {s1 t1 : DS}
theorem lss_nil : PSs X [] (LS X.K X.mg W dNext) := pss_nil.imp fun _ _ _ => i_next
theorem lss_cons (h1 : PS X st (LS X.K X.mg W s1)) (h2 : PSs X rest (LS X.K X.mg W t1)) : PSs X (st :: rest) (LS X.K X.mg W (dSeq s1 t1)) := (pss_cons h1 h2).imp fun _ _ _ => i_seq
theorem lss_one (h1 : PS X st (LS X.K X.mg W s1)) : PSs X [st] (LS X.K X.mg W s1) := pss_one h1
theorem ls_pass : PS X (.Pass pos) (LS X.K X.mg W dNext) := ps_pass.imp fun _ _ _ => i_next
theorem ls_break : PS X (.Break pos) (LS X.K X.mg W dBreak) := ps_break.imp fun _ _ _ => i_break
theorem ls_cont : PS X (.Continue pos) (LS X.K X.mg W dCont) := ps_continue.imp fun _ _ _ => i_cont
theorem ls_expr {de : DE} (he : PE X e (LE X.K X.mg W de)) (hs : swapsWith e none pos.line X.env = pure false := by rfl) : PS X (.Expr e pos) (LS X.K X.mg W (dExpr de)) := (ps_expr he hs).imp fun _ _ _ => i_expr
theorem ls_ret {de : DE} (he : PE X e (LE X.K X.mg W de)) : PS X (.Return (some e) pos) (LS X.K X.mg W (dRet de)) := (ps_ret he).imp fun _ _ _ => i_ret
theorem ls_retN : PS X (.Return none pos) (LS X.K X.mg W dRetN) := ps_retN.imp fun _ _ _ => i_retN
theorem ls_if {t : DT} {sa sb : List Stmt} {u : DS} (hc : PT X c (LT X.K X.mg W t)) (ha : PSs X sa (LS X.K X.mg W s1)) (hb : PSs X sb (LS X.K X.mg W u)) : PS X (.If c sa sb pos) (LS X.K X.mg W (dIfS t s1 u)) := (ps_if hc ha hb).imp fun _ _ _ => i_ifS
theorem ls_set {i : Nat} {x : Str} {de : DE} {pos' : Pos} (hN : X.N.Nodup) (hi : X.N[i]? = some x) (hx : Loc X.env.scope x) (he : PE X e (LE X.K X.mg W de)) (hs : swapsWith e (some (.Name x pos')) pos.line X.env = pure false := by rfl) (hf : X.fn x = true ∨ X.env.scope.names.lookup x = some .local := by first | exact .inl rfl | exact .inr rfl | assumption) :
    PS X (.Assign [.Name x pos'] e pos) (LS X.K X.mg W (dSet i de)) := (ps_set hN hi hx he hs hf).imp fun _ _ _ => i_set
/-! ## targets -/
abbrev DG := D → Env → Sto → Option Env
abbrev DGs := List D → Env → Sto → Option Env
/-- a target that sets names alone: vs are its slots -/
def GOk (K : PySem.W.Frag) (mg : Str → Option Value) (vs : List Nat) (dg : DG) (g : TG) : Prop := ∀ (w : Wo) (d : D) (v : V) (ρ ρ' : Env) (σ : St) (Q : St → Hp → Prop), w.Ok K mg → Rσ K mg w ρ σ → Rv K mg w d v → dg d ρ w.S = some ρ' →
  (∀ σ', Rσ K mg w ρ' σ' → (∀ ws : List Nat, (∀ i ∈ vs, i ∈ ws) → wipe σ' ws = wipe σ ws) → Q σ' w.H) → g v σ w.H Q
def GsOk (K : PySem.W.Frag) (mg : Str → Option Value) (vs : List Nat) (dg : DGs) (g : TGs) : Prop := ∀ (w : Wo) (d : List D) (v : List V) (ρ ρ' : Env) (σ : St) (Q : St → Hp → Prop), w.Ok K mg → Rσ K mg w ρ σ → Rvs K mg w d v → dg d ρ w.S = some ρ' →
  (∀ σ', Rσ K mg w ρ' σ' → (∀ ws : List Nat, (∀ i ∈ vs, i ∈ ws) → wipe σ' ws = wipe σ ws) → Q σ' w.H) → g v σ w.H Q
theorem wipe_set {σ : St} {i : Nat} {z : Option V} : ∀ {ws : List Nat}, i ∈ ws → wipe (σ.set i z) ws = wipe σ ws
  | [], h => by cases h
  | v :: ws, h => by
    show (wipe (σ.set i z) ws).set v none = (wipe σ ws).set v none
    by_cases hm : i ∈ ws
    · rw [wipe_set hm]
    · have e : v = i := by
        rcases List.mem_cons.mp h with e | e
        · exact e.symm
        · exact absurd e hm
      subst e
      have key : ∀ (τ : St) (us : List Nat), v ∉ us → wipe (τ.set v z) us = (wipe τ us).set v z := fun τ us => by
        induction us with
        | nil => intro _; rfl
        | cons u us ih =>
          intro hn
          show (wipe (τ.set v z) us).set u none = ((wipe τ us).set u none).set v z
          rw [ih fun m => hn (List.mem_cons_of_mem _ m), List.set_comm _ _ fun (q : v = u) => hn (by rw [q]; exact List.mem_cons_self)]
      rw [key σ ws hm, List.set_set]
def tgN (i : Nat) (d : D) (ρ : Env) (_ : Sto) : Option Env := some (ρ.set i (some d))
theorem g_name (i : Nat) : GOk K mg [i] (tgN i) (gName i) := by
  intro w d v ρ ρ' σ Q ok rr r e h
  have e : ρ.set i (some d) = ρ' := Option.some.inj e
  subst e
  exact h _ (rr.set r i) fun ws hw => wipe_set (hw i (List.mem_singleton.mpr rfl))
def tgNil : DGs
  | [], ρ, _ => some ρ
  | _ :: _, _, _ => none
def tgCons1 (gs : DGs) (r : List D) (S : Sto) (ρ1 : Env) : Option Env := gs r ρ1 S
def tgCons (g : DG) (gs : DGs) : DGs
  | [], _, _ => none
  | d :: r, ρ, S => (g d ρ S).bind (tgCons1 gs r S)
def tgT (n : Nat) (gs : DGs) : DG
  | .tup ds, ρ, S => if ds.length = n then gs ds ρ S else none
  | _, _, _ => none
theorem gs_nil : GsOk K mg [] tgNil gNil := by
  intro w d v ρ ρ' σ Q ok rr r e h
  cases d with
  | nil =>
    have e := Option.some.inj e
    subst e
    have l := r.len
    exact ⟨List.eq_nil_of_length_eq_zero l, h σ rr fun _ _ => rfl⟩
  | cons x y => cases e
theorem gs_cons {vs us : List Nat} {g : DG} {gs : DGs} {t : TG} {u : TGs} (h1 : GOk K mg vs g t) (h2 : GsOk K mg us gs u) : GsOk K mg (vs ++ us) (tgCons g gs) (gCons t u) := by
  intro w d v ρ ρ' σ Q ok rr r e h
  cases d with
  | nil => cases e
  | cons d ds =>
    obtain ⟨ρ1, e1, e2⟩ := Option.bind_eq_some_iff.mp e
    rw [Rvs] at r
    obtain ⟨x, q, e3, r1, r2⟩ := r
    refine ⟨x, q, e3, h1 w d x ρ ρ1 σ _ ok rr r1 e1 fun σ1 rr1 w1 => ?_⟩
    refine h2 w ds q ρ1 ρ' σ1 Q ok rr1 r2 e2 fun σ2 rr2 w2 => h σ2 rr2 fun ws hw => ?_
    rw [w2 ws fun i hi => hw i (List.mem_append_right _ hi), w1 ws fun i hi => hw i (List.mem_append_left _ hi)]
theorem g_tup {vs : List Nat} {n : Nat} {gs : DGs} {u : TGs} (h : GsOk K mg vs gs u) : GOk K mg vs (tgT n gs) (gTup K n u) := by
  intro w d v ρ ρ' σ Q ok rr r e k
  cases d with
  | tup ds =>
    unfold tgT at e
    dsimp only at e
    by_cases hl : ds.length = n
    · rw [if_pos hl] at e
      obtain ⟨p, xs, rfl, t, r2⟩ := r.tup
      exact ⟨p, xs, rfl, t, by rw [r2.len]; exact hl, h w _ xs ρ ρ' σ Q ok rr r2 e k⟩
    · rw [if_neg hl] at e
      cases e
  | _ => cases e
def asgR (S : Sto) : Option Env → RS
  | some ρ' => .nx ρ' S
  | none => .bad
def asgK (g : DG) (d : D) (ρ : Env) (S : Sto) : RS := asgR S (g d ρ S)
def dAsg (de : DE) (g : DG) (ρ : Env) (S : Sto) : RS := dBind de (asgK g) ρ S
theorem ls_asg {tg : Expr} {de : DE} {vs : List Nat} {dg : DG} {g : TG} (he : PE X e (LE X.K X.mg W de)) (hg : PG X tg g) (o : GOk X.K X.mg vs dg g) (hs : swapsWithSole [tg] e pos.line X.env = pure false := by rfl) (hw : swappedStores [tg] e X.env = pure none := by rfl)
    (h1 : (assignEach [tg] X.env).map (·.2) = [assign tg X.env] := by rfl) : PS X (.Assign [tg] e pos) (LS X.K X.mg W (dAsg de dg)) := (ps_asg he hg hs hw h1).imp fun D' σ H h => i_bind h fun w d v ρ1 ok r rr h => by
  unfold asgK at h
  cases e2 : dg d ρ1 w.S with
  | none =>
    rw [e2] at h
    exact h.elim
  | some ρ' =>
    rw [e2] at h
    exact o w d v ρ1 ρ' σ _ ok rr r e2 fun σ' r' _ => h.now ok r'
/-! ## a change of an object -/
def Wo.put (w : Wo) (n : Nat) (o : Ob) (u : HO) : Wo := ⟨w.m, w.S.set n o, upd w.H (w.m n) u⟩
theorem Wo.put_le {w : Wo} {n : Nat} {o : Ob} {u : HO} (hn : n < w.S.length) : w.Le (w.put n o u) := by
  refine ⟨by show _ ≤ (w.S.set n o).length; rw [List.length_set]; exact Nat.le_refl _, fun _ _ => rfl, fun a x e k => ?_, fun i h h' => ?_⟩
  · show upd w.H (w.m n) u a = some x
    rw [upd_ne fun z => k n hn z.symm]
    exact e
  · have h' : i < (w.S.set n o).length := h'
    rw [List.length_set] at h'
    exact absurd (Nat.lt_of_lt_of_le h' h) (Nat.lt_irrefl _)
theorem Wo.put_ok {w : Wo} (ok : w.Ok K mg) {n : Nat} {o : Ob} {u : HO} (hn : n < w.S.length) (ho : Rob K mg (w.put n o u) (w.m n) o) : (w.put n o u).Ok K mg := by
  have le := Wo.put_le (o := o) (u := u) hn
  refine ⟨fun i j hi hj e => ?_, fun i o' h => ?_⟩
  · have hi : i < (w.S.set n o).length := hi
    have hj : j < (w.S.set n o).length := hj
    rw [List.length_set] at hi hj
    exact ok.inj i j hi hj e
  · have h : (w.S.set n o)[i]? = some o' := h
    by_cases hi : n = i
    · subst hi
      rw [List.getElem?_set_self hn] at h
      have e := Option.some.inj h
      rw [← e]
      exact ho
    · rw [List.getElem?_set_ne hi] at h
      have hil := (List.getElem?_eq_some_iff.mp h).1
      refine (ok.has i o' h).up ok le fun x e => ?_
      show upd w.H (w.m n) u (w.m i) = some x
      rw [upd_ne fun z => hi (ok.inj i n hil hn z).symm]
      exact e
theorem Wo.putLst {w : Wo} (ok : w.Ok K mg) {n : Nat} {xs : List D} {vs : List V} (hn : n < w.S.length) (r : Rvs K mg w xs vs) : (w.put n (.lst xs) (.lst vs)).Ok K mg :=
  Wo.put_ok ok hn ⟨vs, upd_same, r.up ok (Wo.put_le hn)⟩
/-- o[i] = e of a list -/
def putJ (ρ : Env) (S3 : Sto) (n : Nat) (xs : List D) (x : D) : Option Nat → RS
  | some j => .nx ρ (S3.set n (.lst (xs.set j x)))
  | none => .bad
def putO (ρ : Env) (S3 : Sto) (n : Nat) (k : Int) (x : D) : Option Ob → RS
  | some (.lst xs) => putJ ρ S3 n xs x (ixN xs.length k)
  | _ => .bad
def putK3 (x : D) : D → D → Env → Sto → RS
  | .obj n, .int k, ρ, S3 => putO ρ S3 n k x S3[n]?
  | _, _, _, _ => .bad
def putK2 (di : DE) (x y : D) (ρ : Env) (S2 : Sto) : RS := bindR (putK3 x y) ρ (di ρ S2)
def putK1 (do_ di : DE) (x : D) (ρ : Env) (S1 : Sto) : RS := bindR (putK2 di x) ρ (do_ ρ S1)
def dPutL (de do_ di : DE) (ρ : Env) (S : Sto) : RS := bindR (putK1 do_ di) ρ (de ρ S)
theorem lt_of_get {α : Type} {l : List α} {n : Nat} {x : α} (h : l[n]? = some x) : n < l.length := (List.getElem?_eq_some_iff.mp h).1
theorem FinS.ofBind {w : Wo} {r : Res D} {k : D → Env → Sto → RS} {ρ : Env} {σ : St} {D' : Ends} {P : VK} (ok : w.Ok K mg) (rr : Rσ K mg w ρ σ) (h : FinS K mg W w (bindR k ρ r) D')
    (hk : ∀ (w' : Wo) (d : D) (v : V), w.Le w' → w'.Ok K mg → Rv K mg w' d v → Rσ K mg w' ρ σ → FinS K mg W w' (k d ρ w'.S) D' → P v w'.H) : Fin K mg w (Rv K mg) r P (XW K mg W σ) := by
  cases r with
  | ok d S => exact fun w' v le ok' es r => hk w' d v le ok' r (rr.up ok le) (FinS.up ok' le (by rw [es]; exact h))
  | exc c fs S => exact fun w' le ok' es => h w' σ le ok' es (rr.up ok le)
  | bad => exact h
theorem ls_putL {o i : Expr} {p2 : Pos} {de do_ di : DE} (he : PE X e (LE X.K X.mg W de)) (ho : PE X o (LE X.K X.mg W do_)) (hi : PE X i (LE X.K X.mg W di)) (hg : PG X (.Subscript o i p2) (gSub (LE X.K X.mg W do_) (LE X.K X.mg W di) rSetL))
    (hs : swapsWithSole [.Subscript o i p2] e pos.line X.env = pure false := by rfl) (hw : swappedStores [.Subscript o i p2] e X.env = pure none := by rfl) :
    PS X (.Assign [.Subscript o i p2] e pos) (LS X.K X.mg W (dPutL de do_ di)) := (ps_asg he hg hs hw).imp fun D' σ H h => by
  obtain ⟨w, ok, rfl, ρ, rr, h⟩ := h
  refine ⟨w, ok, rfl, ρ, rr, FinS.ofBind ok rr h fun w1 x v le1 ok1 r1 rr1 h1 => ?_⟩
  refine ⟨w1, ok1, rfl, ρ, rr1, FinS.ofBind ok1 rr1 h1 fun w2 y u le2 ok2 r2 rr2 h2 => ?_⟩
  refine ⟨w2, ok2, rfl, ρ, rr2, FinS.ofBind ok2 rr2 h2 fun w3 z t le3 ok3 r3 rr3 h3 => ?_⟩
  cases y with
  | obj n =>
    cases z with
    | int k =>
      have h3 : FinS X.K X.mg W w3 (putO ρ w3.S n k x w3.S[n]?) D' := h3
      cases e4 : w3.S[n]? with
      | none => rw [e4] at h3; exact h3.elim
      | some ob =>
        rw [e4] at h3
        cases ob with
        | lst xs =>
          have h3 : FinS X.K X.mg W w3 (putJ ρ w3.S n xs x (ixN xs.length k)) D' := h3
          cases e5 : ixN xs.length k with
          | none => rw [e5] at h3; exact h3.elim
          | some j =>
            rw [e5] at h3
            obtain ⟨vs, hv, rv⟩ := lst_mut ok3 e4
            have r2 := r2.up ok2 le3
            obtain ⟨hn, rfl⟩ := r2.obj
            have r1 := (r1.up ok1 le2).up ok2 le3
            refine ⟨_, vs, k, j, rfl, r3.int, hv, by rw [rv.len]; exact e5, ?_⟩
            have rs := rv.set r1 j
            exact h3 (w3.put n (.lst (xs.set j x)) (.lst (vs.set j v))) σ (Wo.put_le hn) (Wo.putLst ok3 hn rs) rfl (rr3.up ok3 (Wo.put_le hn))
        | _ => exact h3.elim
    | _ => exact h3.elim
  | _ => exact h3.elim
/-! ## x += e -/
def augR (i : Nat) (f : D → D → Sto → Res D) (de : DE) (ρ : Env) (S : Sto) : Option (Option D) → RS
  | some (some x) => bindR (setK i) ρ ((de ρ S).bind (f x))
  | _ => .bad
def dAug (i : Nat) (f : D → D → Sto → Res D) (de : DE) (ρ : Env) (S : Sto) : RS := augR i f de ρ S ρ[i]?
def OpIp (K : PySem.W.Frag) (mg : Str → Option Value) (t : TIp) (f : D → D → Sto → Res D) : Prop := ∀ (w : Wo) (a b : D) (v u : V) (Q : VK) (E : Str → List (Str × D) → Wo → Prop), w.Ok K mg → Rv K mg w a v → Rv K mg w b u → Fin K mg w (Rv K mg) (f a b w.S) Q E → t v u w.H Q
theorem ls_aug {i : Nat} {x : Str} {op : Operator} {ti : TIp} {f : D → D → Sto → Res D} {de : DE} {pos' : Pos} (hN : X.N.Nodup) (hi : X.N[i]? = some x) (hx : Loc X.env.scope x) (he : PE X e (LE X.K X.mg W de)) (ho : PIp X op ti) (o : OpIp X.K X.mg ti f) (hf : X.fn x = true ∨ X.env.scope.names.lookup x = some .local := by first | exact .inl rfl | exact .inr rfl | assumption) :
    PS X (.AugAssign (.Name x pos') op e pos) (LS X.K X.mg W (dAug i f de)) := (ps_aug hN hi hx he ho hf).imp fun D' σ H h => by
  obtain ⟨w, ok, rfl, ρ, rr, h⟩ := h
  unfold dAug at h
  cases e1 : ρ[i]? with
  | none => rw [e1] at h; exact h.elim
  | some z =>
    rw [e1] at h
    cases z with
    | none => exact h.elim
    | some d =>
      obtain ⟨v, e2, rv⟩ := rr.get e1
      refine ⟨v, e2, w, ok, rfl, ρ, rr, ?_⟩
      have h2 : Fin X.K X.mg w (Rv X.K X.mg) ((de ρ w.S).bind (f d)) (fun z H2 => D'.nx (σ.set i (some z)) H2) (XW X.K X.mg W σ) :=
        FinS.ofBind ok rr h fun w1 x u le1 ok1 r1 rr1 h1 => h1.now ok1 (rr1.set r1 i)
      exact h2.bind fun w1 y u le1 ok1 r1 h1 => o w1 d y v u _ _ ok1 (rv.up ok le1) r1 h1
def dIpI (g : Int → Int → Int) : D → D → Sto → Res D
  | .int i, .int j, S => .ok (.int (g i j)) S
  | _, _, _ => .bad
theorem oi_int (g : Int → Int → Int) : OpIp K mg (ipI g) (dIpI g) := by
  intro w a b v u Q E ok ra rb h
  unfold dIpI at h
  split at h
  · rw [ra.int, rb.int]
    exact ⟨_, _, rfl, rfl, Fin.now h ok mk_int⟩
  · exact h.elim
end

section
variable {K : PySem.W.Frag} {mg : Str → Option Value} {X : Cx} {W : WX} {pos : Pos} {a b c e : Expr} {es : List Expr}
/-! ## what is walked -/
abbrev Walked := List D × (Sto → Prop)
abbrev DI := Env → Sto → Res Walked
structure RI (K : PySem.W.Frag) (mg : Str → Option Value) (w : Wo) (p : Walked) (J : It) : Prop where
  now : p.2 w.S
  step : ∀ (w' : Wo) (i : Nat) (d : D), w.Le w' → w'.Ok K mg → p.2 w'.S → p.1[i]? = some d → J.go i w'.H ∧ ∀ x H', J.yld i w'.H x H' → ∃ w3 : Wo, w'.Le w3 ∧ w3.Ok K mg ∧ w3.S = w'.S ∧ w3.H = H' ∧ Rv K mg w3 d x
  stop : ∀ w' : Wo, w.Le w' → w'.Ok K mg → p.2 w'.S → J.stop p.1.length w'.H
/-- a thing is walked as di says -/
def IOk (K : PySem.W.Frag) (mg : Str → Option Value) (W : WX) (di : DI) (wi : TI) : Prop := ∀ (w : Wo) (ρ : Env) (σ : St) (R : It → Hp → Prop), w.Ok K mg → Rσ K mg w ρ σ → Fin K mg w (RI K mg) (di ρ w.S) R (XW K mg W σ) → wi σ w.H R
def sameL (n : Nat) (xs : List D) : Sto → Prop := fun S => lstOf S n = some xs
/-- a list, a tuple -/
def toWalk : D → Sto → Res Walked
  | .obj n, S => match lstOf S n with
    | some xs => .ok (xs, sameL n xs) S
    | none => .bad
  | .kl xs, S => .ok (xs, fun _ => True) S
  | _, _ => .bad
def toWalkT : D → Sto → Res Walked
  | .tup xs, S => .ok (xs, fun _ => True) S
  | _, _ => .bad
def wL (de : DE) (ρ : Env) (S : Sto) : Res Walked := (de ρ S).bind toWalk
def wT (de : DE) (ρ : Env) (S : Sto) : Res Walked := (de ρ S).bind toWalkT
theorem io_list {de : DE} : IOk K mg W (wL de) (iList K (LE K mg W de)) := by
  intro w ρ σ R ok rr h
  refine ⟨w, ok, rfl, ρ, rr, Fin.bind (R' := RI K mg) h fun w1 x v le1 ok1 r1 h1 => ?_⟩
  unfold toWalk at h1
  split at h1
  · split at h1
    · rename_i n _ xs e
      obtain ⟨_, rfl⟩ := r1.obj
      obtain ⟨vs, t, rv⟩ := lst_at ok1 e
      refine ⟨_, rfl, ⟨vs, t⟩, Fin.now h1 ok1 ⟨e, fun w2 i d le ok2 e2 hi => ?_, fun w2 le ok2 e2 => ?_⟩⟩
      · obtain ⟨us, t2, rv2⟩ := lst_at ok2 (show lstOf w2.S n = some xs from e2)
        rw [le.ag n r1.obj.1] at t2
        obtain ⟨z, ez, rz⟩ := rv2.get hi
        refine ⟨⟨us, z, t2, ez⟩, fun x H' y => ⟨w2, Wo.Le.refl _, ok2, rfl, y.1.symm, ?_⟩⟩
        have e3 := (y.2 us t2).symm.trans ez
        rw [Option.some.inj e3]
        exact rz
      · obtain ⟨us, t2, rv2⟩ := lst_at ok2 (show lstOf w2.S n = some xs from e2)
        rw [le.ag n r1.obj.1] at t2
        exact ⟨us, t2, by rw [rv2.len]; exact Nat.le_refl _⟩
    · exact h1.elim
  · rename_i xs
    obtain ⟨p, vs, rfl, t, rv⟩ := r1.kl
    refine ⟨_, rfl, ⟨vs, t.L⟩, Fin.now h1 ok1 ⟨trivial, fun w2 i d le ok2 e2 hi => ?_, fun w2 le ok2 e2 => ?_⟩⟩
    · have t2 := (le.kl ok1 t).L
      obtain ⟨z, ez, rz⟩ := (rv.up ok1 le).get hi
      refine ⟨⟨vs, z, t2, ez⟩, fun x H' y => ⟨w2, Wo.Le.refl _, ok2, rfl, y.1.symm, ?_⟩⟩
      have e3 := (y.2 vs t2).symm.trans ez
      rw [Option.some.inj e3]
      exact rz
    · exact ⟨vs, (le.kl ok1 t).L, by rw [rv.len]; exact Nat.le_refl _⟩
  · exact h1.elim
theorem io_tup {de : DE} : IOk K mg W (wT de) (iTup K (LE K mg W de)) := by
  intro w ρ σ R ok rr h
  refine ⟨w, ok, rfl, ρ, rr, Fin.bind (R' := RI K mg) h fun w1 x v le1 ok1 r1 h1 => ?_⟩
  unfold toWalkT at h1
  split at h1
  · rename_i xs
    obtain ⟨p, vs, rfl, t, rv⟩ := r1.tup
    refine ⟨_, rfl, ⟨vs, t⟩, Fin.now h1 ok1 ⟨trivial, fun w2 i d le ok2 e2 hi => ?_, fun w2 le ok2 e2 => ?_⟩⟩
    · have t2 := le.tup ok1 t
      obtain ⟨z, ez, rz⟩ := (rv.up ok1 le).get hi
      refine ⟨⟨vs, z, t2, ez⟩, fun x H' y => ⟨w2, Wo.Le.refl _, ok2, rfl, y.1.symm, ?_⟩⟩
      have e3 := (y.2 vs t2).symm.trans ez
      rw [Option.some.inj e3]
      exact rz
    · exact ⟨vs, le.tup ok1 t, by rw [rv.len]; exact Nat.le_refl _⟩
  · exact h1.elim
def rng (lo : Int) (n : Nat) : List D := (List.range n).map fun (i : Nat) => .int (lo + (i : Int))
theorem rng_get {lo : Int} {n i : Nat} {d : D} (h : (rng lo n)[i]? = some d) : i < n ∧ d = .int (lo + i) := by
  unfold rng at h
  rw [List.getElem?_map] at h
  obtain ⟨j, e1, e2⟩ := Option.map_eq_some_iff.mp h
  have hl := lt_of_get e1
  rw [List.length_range] at hl
  rw [List.getElem?_range hl] at e1
  exact ⟨hl, by rw [← e2, ← Option.some.inj e1]⟩
theorem ri_rng {w : Wo} {lo : Int} {n : Nat} : RI K mg w (rng lo n, fun _ => True) (Itr lo n) := by
  refine ⟨trivial, fun w2 i d le ok2 _ hi => ?_, fun w2 le ok2 _ => ?_⟩
  · obtain ⟨h1, h2⟩ := rng_get hi
    refine ⟨h1, fun x H' y => ⟨w2, Wo.Le.refl _, ok2, rfl, y.1.symm, ?_⟩⟩
    rw [h2, y.2]
    exact mk_int
  · show n ≤ (rng lo n).length
    unfold rng
    rw [List.length_map, List.length_range]
    exact Nat.le_refl _
/-- a number that a range may end with -/
structure OkR (j : Int) : Prop where
  lo : -(2 ^ 62) ≤ j
  hi : j < 2 ^ 62
noncomputable instance (j : Int) : Decidable (OkR j) := Classical.propDecidable _
noncomputable def toRng1 : List D → Sto → Res Walked
  | [.int j], S => if OkR j then .ok (rng 0 j.toNat, fun _ => True) S else .bad
  | _, _ => .bad
noncomputable def toRng2 : List D → Sto → Res Walked
  | [.int i, .int j], S => if OkR i ∧ OkR j then .ok (rng i (j - i).toNat, fun _ => True) S else .bad
  | _, _ => .bad
noncomputable def wR1 (da : DA) (ρ : Env) (S : Sto) : Res Walked := (da ρ S).bind toRng1
noncomputable def wR2 (da : DA) (ρ : Env) (S : Sto) : Res Walked := (da ρ S).bind toRng2
theorem io_rng1 {da : DA} : IOk K mg W (wR1 da) (iRng1 (LA K mg W da)) := by
  intro w ρ σ R ok rr h
  refine ⟨w, ok, rfl, ρ, rr, Fin.bind (R' := RI K mg) h fun w1 x v le1 ok1 r1 h1 => ?_⟩
  unfold toRng1 at h1
  split at h1
  · split at h1
    · rename_i hj
      obtain ⟨z, rfl, rz⟩ := r1.one
      rw [rz.int]
      exact ⟨_, rfl, hj.lo, hj.hi, Fin.now h1 ok1 ri_rng⟩
    · exact h1.elim
  · exact h1.elim
theorem io_rng2 {da : DA} : IOk K mg W (wR2 da) (iRng2 (LA K mg W da)) := by
  intro w ρ σ R ok rr h
  refine ⟨w, ok, rfl, ρ, rr, Fin.bind (R' := RI K mg) h fun w1 x v le1 ok1 r1 h1 => ?_⟩
  unfold toRng2 at h1
  split at h1
  · split at h1
    · rename_i hj
      obtain ⟨z, y, rfl, rz, ry⟩ := r1.two
      rw [rz.int, ry.int]
      exact ⟨_, _, rfl, ⟨hj.1.lo, hj.1.hi, hj.2.lo, hj.2.hi⟩, Fin.now h1 ok1 ri_rng⟩
    · exact h1.elim
  · exact h1.elim
/-- a text -/
def signs (z : Str) : List D := z.cps.toList.map fun c => .str ⟨#[c]⟩
def toWalkS : D → Sto → Res Walked
  | .str z, S => .ok (signs z, fun _ => True) S
  | _, _ => .bad
def wS (de : DE) (ρ : Env) (S : Sto) : Res Walked := (de ρ S).bind toWalkS
theorem io_str {de : DE} : IOk K mg W (wS de) (iStr (LE K mg W de)) := by
  intro w ρ σ R ok rr h
  refine ⟨w, ok, rfl, ρ, rr, Fin.bind (R' := RI K mg) h fun w1 x v le1 ok1 r1 h1 => ?_⟩
  unfold toWalkS at h1
  split at h1
  · rename_i z
    rw [r1.str]
    refine ⟨z, rfl, Fin.now h1 ok1 ⟨trivial, fun w2 i d le ok2 e2 hi => ?_, fun w2 le ok2 e2 => ?_⟩⟩
    · unfold signs at hi
      rw [List.getElem?_map] at hi
      obtain ⟨k, e1, e3⟩ := Option.map_eq_some_iff.mp hi
      have hl := lt_of_get e1
      refine ⟨(by show i < z.cps.size; simpa using hl), fun x H' y => ⟨w2, Wo.Le.refl _, ok2, rfl, y.1.symm, ?_⟩⟩
      obtain ⟨q, e4, e5⟩ := y.2
      rw [← Array.getElem?_toList, e1] at e4
      rw [e5, ← e3, Option.some.inj e4]
      exact mk_str
    · show z.cps.size ≤ (signs z).length
      unfold signs
      rw [List.length_map]
      simp
  · exact h1.elim
/-! ## for -/
open Classical in
noncomputable def turnR (still : Sto → Prop) (k : DS) : RS → RS
  | .nx ρ2 S2 => if still S2 then k ρ2 S2 else .bad
  | .ct ρ2 S2 => if still S2 then k ρ2 S2 else .bad
  | .bk ρ2 S2 => .nx ρ2 S2
  | .rt d S2 => .rt d S2
  | .exc c fs ρ2 S2 => .exc c fs ρ2 S2
  | .bad => .bad
noncomputable def turnG (still : Sto → Prop) (body k : DS) (S : Sto) : Option Env → RS
  | none => .bad
  | some ρ1 => turnR still k (body ρ1 S)
noncomputable def dLoop (still : Sto → Prop) (g : DG) (body : DS) : List D → Env → Sto → RS
  | [], ρ, S => .nx ρ S
  | d :: r, ρ, S => turnG still body (dLoop still g body r) S (g d ρ S)
noncomputable def forR (g : DG) (body : DS) (ρ : Env) : Res Walked → RS
  | .ok (items, still) S1 => dLoop still g body items ρ S1
  | .exc c fs S1 => .exc c fs ρ S1
  | .bad => .bad
noncomputable def dFor (di : DI) (g : DG) (body : DS) (ρ : Env) (S : Sto) : RS := forR g body ρ (di ρ S)
theorem i_for {di : DI} {wi : TI} {g : DG} {tg : TG} {vs : List Nat} {body : DS} (hi : IOk K mg W di wi) (hg : GOk K mg vs g tg) {D' : Ends} {σ : St} {H : Hp} (h : LS K mg W (dFor di g body) D' σ H) : tFor wi tg (LS K mg W body) D' σ H := by
  obtain ⟨w, ok, rfl, ρ, rr, h⟩ := h
  refine hi w ρ σ _ ok rr ?_
  unfold dFor at h
  cases e : di ρ w.S with
  | bad => rw [e] at h; exact h
  | exc c fs S => rw [e] at h; exact fun w' le ok' es => h w' σ le ok' es (rr.up ok le)
  | ok p S =>
    rw [e] at h
    obtain ⟨items, still⟩ := p
    intro w1 J le1 ok1 es1 ri
    subst es1
    have h := FinS.up ok1 le1 h
    have rr1 := rr.up ok le1
    refine ⟨fun i m σ H => m = items.length - i ∧ i ≤ items.length ∧ ∃ (w2 : Wo) (ρ2 : Env), w1.Le w2 ∧ w2.Ok K mg ∧ w2.H = H ∧ still w2.S ∧ Rσ K mg w2 ρ2 σ ∧ FinS K mg W w2 (dLoop still g body (items.drop i) ρ2 w2.S) D',
      ⟨items.length, rfl, Nat.zero_le _, w1, ρ, Wo.Le.refl _, ok1, rfl, ri.now, rr1, h⟩, ?_⟩
    rintro i m σ2 H2 ⟨rfl, hil, w2, ρ2, le2, ok2, rfl, st2, rr2, h2⟩
    by_cases hlt : i < items.length
    · have ei := List.getElem?_eq_getElem hlt
      rw [List.drop_eq_getElem_cons hlt] at h2
      generalize items[i] = d at ei h2
      obtain ⟨go, yl⟩ := ri.step w2 i d le2 ok2 st2 ei
      refine .inr ⟨go, fun σ' H' => ∃ (w5 : Wo) (ρ5 : Env), w1.Le w5 ∧ w5.Ok K mg ∧ w5.H = H' ∧ still w5.S ∧ Rσ K mg w5 ρ5 σ' ∧ FinS K mg W w5 (dLoop still g body (items.drop (i + 1)) ρ5 w5.S) D',
        fun σ' H' n => ⟨items.length - (i + 1), by omega, rfl, hlt, n⟩, fun x H' y => ?_⟩
      obtain ⟨w3, le3, ok3, es3, rfl, r3⟩ := yl x H' y
      have rr3 := rr2.up ok2 le3
      unfold dLoop at h2
      rw [← es3] at h2
      cases eg : g d ρ2 w3.S with
      | none => rw [eg] at h2; exact h2.elim
      | some ρ3 =>
        rw [eg] at h2
        refine hg w3 d x ρ2 ρ3 σ2 _ ok3 rr3 r3 eg fun σ3 rr4 _ => ⟨w3, ok3, rfl, ρ3, rr4, ?_⟩
        have le13 := le2.trans ok2 le3
        have h2 := FinS.up ok3 le3 h2
        unfold turnG at h2
        dsimp only at h2
        cases eb : body ρ3 w3.S with
        | nx ρ4 S4 =>
          rw [eb] at h2
          unfold turnR at h2
          dsimp only at h2
          by_cases hs : still S4
          · rw [if_pos hs] at h2
            exact fun w4 σ4 le4 ok4 es4 rr5 => ⟨w4, ρ4, le13.trans ok3 le4, ok4, rfl, by rw [es4]; exact hs, rr5, FinS.up ok4 le4 (by rw [es4]; exact h2)⟩
          · rw [if_neg hs] at h2
            exact h2.elim
        | ct ρ4 S4 =>
          rw [eb] at h2
          unfold turnR at h2
          dsimp only at h2
          by_cases hs : still S4
          · rw [if_pos hs] at h2
            exact fun w4 σ4 le4 ok4 es4 rr5 => ⟨w4, ρ4, le13.trans ok3 le4, ok4, rfl, by rw [es4]; exact hs, rr5, FinS.up ok4 le4 (by rw [es4]; exact h2)⟩
          · rw [if_neg hs] at h2
            exact h2.elim
        | bk ρ4 S4 =>
          rw [eb] at h2
          exact fun w4 σ4 le4 ok4 es4 rr5 => h2 w4 σ4 le4 ok4 es4 rr5
        | rt d4 S4 =>
          rw [eb] at h2
          exact fun w4 σ4 le4 ok4 es4 rr5 => h2 w4 σ4 le4 ok4 es4 rr5
        | exc c fs ρ4 S4 =>
          rw [eb] at h2
          exact fun w4 σ4 le4 ok4 es4 rr5 => h2 w4 σ4 le4 ok4 es4 rr5
        | bad =>
          rw [eb] at h2
          exact h2.elim
    · have e1 : i = items.length := by omega
      subst e1
      rw [List.drop_length] at h2
      refine .inl ⟨ri.stop w2 le2 ok2 st2, ?_⟩
      exact h2.now ok2 rr2
theorem ls_for {tg iter : Expr} {body : List Stmt} {di : DI} {wi : TI} {g : DG} {t : TG} {vs : List Nat} {bd : DS} (hp : PassesOwn (model X.prog X.w) X.A X.env X.xe) (hc : X.calm = true) (hi : PI X tg iter wi) (oi : IOk X.K X.mg W di wi) (hg : PG X tg t) (og : GOk X.K X.mg vs g t) (hb : PSs X body (LS X.K X.mg W bd))
    (hs : ∀ x, foldedSetIterable iter X.env x = pure x := by intro _; rfl) : PS X (.For tg iter body [] pos) (LS X.K X.mg W (dFor di g bd)) := (ps_for hp hc hi hg hb hs).imp fun _ _ _ h => i_for oi og h
/-! ## while -/
def whR (k : DS) : RS → RS
  | .nx ρ2 S2 => k ρ2 S2
  | .ct ρ2 S2 => k ρ2 S2
  | .bk ρ2 S2 => .nx ρ2 S2
  | .rt d S2 => .rt d S2
  | .exc c fs ρ2 S2 => .exc c fs ρ2 S2
  | .bad => .bad
def whT (body k : DS) (ρ : Env) : Res Bool → RS
  | .ok true S1 => whR k (body ρ S1)
  | .ok false S1 => .nx ρ S1
  | .exc c fs S1 => .exc c fs ρ S1
  | .bad => .bad
def dWhile : Nat → DT → DS → Env → Sto → RS
  | 0, _, _, _, _ => .bad
  | n + 1, t, body, ρ, S => whT body (dWhile n t body) ρ (t ρ S)
theorem i_while {n : Nat} {t : DT} {body : DS} {D' : Ends} {σ : St} {H : Hp} (h : LS K mg W (dWhile n t body) D' σ H) : tWhile (LT K mg W t) (LS K mg W body) D' σ H := by
  obtain ⟨w, ok, rfl, ρ, rr, h⟩ := h
  refine ⟨fun m σ H => ∃ (w : Wo) (ρ : Env), w.Ok K mg ∧ w.H = H ∧ Rσ K mg w ρ σ ∧ FinS K mg W w (dWhile m t body ρ w.S) D', ⟨n, w, ρ, ok, rfl, rr, h⟩, ?_⟩
  rintro m σ2 H2 ⟨w2, ρ2, ok2, rfl, rr2, h2⟩
  refine ⟨w2, ok2, rfl, ρ2, rr2, ?_⟩
  cases m with
  | zero => exact h2.elim
  | succ m =>
    unfold dWhile at h2
    cases et : t ρ2 w2.S with
    | bad => rw [et] at h2; exact h2
    | exc c fs S => rw [et] at h2; exact fun w' le ok' es => h2 w' σ2 le ok' es (rr2.up ok2 le)
    | ok k S =>
      rw [et] at h2
      intro w3 v le3 ok3 es3 r3
      have r3 : k = v := r3
      subst r3
      subst es3
      have h2 := FinS.up ok3 le3 h2
      have rr3 := rr2.up ok2 le3
      cases k with
      | false => exact iteF (h2.now ok3 rr3)
      | true =>
        refine iteT ⟨fun σ' H' => ∃ (w5 : Wo) (ρ5 : Env), w5.Ok K mg ∧ w5.H = H' ∧ Rσ K mg w5 ρ5 σ' ∧ FinS K mg W w5 (dWhile m t body ρ5 w5.S) D', fun σ' H' q => ⟨m, Nat.lt_succ_self m, q⟩, w3, ok3, rfl, ρ2, rr3, ?_⟩
        unfold whT at h2
        dsimp only at h2
        cases eb : body ρ2 w3.S with
        | nx ρ4 S4 =>
          rw [eb] at h2
          exact fun w4 σ4 le4 ok4 es4 rr5 => ⟨w4, ρ4, ok4, rfl, rr5, FinS.up ok4 le4 (by rw [es4]; exact h2)⟩
        | ct ρ4 S4 =>
          rw [eb] at h2
          exact fun w4 σ4 le4 ok4 es4 rr5 => ⟨w4, ρ4, ok4, rfl, rr5, FinS.up ok4 le4 (by rw [es4]; exact h2)⟩
        | bk ρ4 S4 => rw [eb] at h2; exact h2
        | rt d4 S4 => rw [eb] at h2; exact h2
        | exc c fs ρ4 S4 => rw [eb] at h2; exact h2
        | bad => rw [eb] at h2; exact h2.elim
theorem ls_while (n : Nat) {body : List Stmt} {t : DT} {bd : DS} (hp : PassesOwn (model X.prog X.w) X.A X.env X.xe) (hc : PT X c (LT X.K X.mg W t)) (hb : PSs X body (LS X.K X.mg W bd)) : PS X (.While c body [] pos) (LS X.K X.mg W (dWhile n t bd)) := (ps_while hp hc hb).imp fun _ _ _ => i_while
/-! ## comprehensions -/
open Classical in
noncomputable def cSkip (still : Sto → Prop) (k : Sto → Res (List D)) (S1 : Sto) : Res (List D) := if still S1 then k S1 else .bad
def cHead (x : D) : Res (List D) → Res (List D)
  | .ok xs S3 => .ok (x :: xs) S3
  | .exc _ _ _ => .bad
  | .bad => .bad
noncomputable def cElt (still : Sto → Prop) (k : Sto → Res (List D)) : Res D → Res (List D)
  | .ok x S2 => cHead x (cSkip still k S2)
  | .exc _ _ _ => .bad
  | .bad => .bad
noncomputable def cTest (still : Sto → Prop) (e : DE) (k : Sto → Res (List D)) (ρ1 : Env) : Res Bool → Res (List D)
  | .ok true S1 => cElt still k (e ρ1 S1)
  | .ok false S1 => cSkip still k S1
  | .exc _ _ _ => .bad
  | .bad => .bad
noncomputable def cTg (still : Sto → Prop) (t : DT) (e : DE) (k : Sto → Res (List D)) (S : Sto) : Option Env → Res (List D)
  | none => .bad
  | some ρ1 => cTest still e k ρ1 (t ρ1 S)
noncomputable def cLoop (still : Sto → Prop) (g : DG) (t : DT) (e : DE) (ρ : Env) : List D → Sto → Res (List D)
  | [], S => .ok [] S
  | d :: r, S => cTg still t e (cLoop still g t e ρ r) S (g d ρ S)
def wipeE (ρ : Env) : List Nat → Env
  | [] => ρ
  | v :: vs => (wipeE ρ vs).set v none
def fitL (xs : List D) (S : Sto) : Res D := mkLst xs S
def cEnd : Res (List D) → Res D
  | .ok xs S2 => mkLst xs S2
  | .exc _ _ _ => .bad
  | .bad => .bad
noncomputable def dComp1 (g : DG) (t : DT) (e : DE) (ρ : Env) : Walked → Sto → Res D
  | (items, still), S1 => cEnd (cLoop still g t e ρ items S1)
noncomputable def dComp (di : DI) (g : DG) (vs : List Nat) (t : DT) (e : DE) (ρ : Env) (S : Sto) : Res D := (di ρ S).bind (dComp1 g t e (wipeE ρ vs))
def W0 : WX := fun _ _ _ _ => False
theorem Rσ.wipe {w : Wo} {ρ : Env} {σ : St} (r : Rσ K mg w ρ σ) : ∀ vs : List Nat, Rσ K mg w (wipeE ρ vs) (L2.wipe σ vs)
  | [] => r
  | v :: vs => Rσ.setN v none (Rσ.wipe r vs)
/-- an untracked thing that is no tuple changes -/
theorem Wo.hid_sqt {w : Wo} {p : Addr} {xs ys : List V} (hp : w.H p = some (.lst xs)) {a : Addr} {zs : List V} (t : SqT K w.H a zs) : SqT K (upd w.H p (.lst ys)) a zs := by
  rcases t with (t | ⟨o, t⟩) | t
  · exact .inl (.inl (by rw [upd_ne (ne_of t hp (by intro z; cases z))]; exact t))
  · exact .inl (.inr ⟨o, by rw [upd_ne (ne_of t hp (by intro z; cases z))]; exact t⟩)
  · exact .inr t
theorem Wo.hid_sqf {w : Wo} {p : Addr} {xs ys : List V} (hp : w.H p = some (.lst xs)) {a : Addr} {zs : List V} (t : SqF K w.H a zs) : SqF K (upd w.H p (.lst ys)) a zs := by
  rcases t with ⟨o, t⟩ | t
  · exact .inl ⟨o, by rw [upd_ne (ne_of t hp (by intro z; cases z))]; exact t⟩
  · exact .inr t
mutual
theorem Wo.hid_rv {w : Wo} {p : Addr} {xs ys : List V} (hp : w.H p = some (.lst xs)) : ∀ (d : D) (v : V), Rv K mg w d v → Rv K mg (w.heap (upd w.H p (.lst ys))) d v
  | .non, v, r => by rw [Rv] at r ⊢; exact r
  | .bl b, v, r => by rw [Rv] at r ⊢; exact r
  | .int i, v, r => by rw [Rv] at r ⊢; exact r
  | .str x, v, r => by rw [Rv] at r ⊢; exact r
  | .tup ds, v, r => by
    rw [Rv] at r ⊢
    obtain ⟨a, vs, e, t, q⟩ := r
    exact ⟨a, vs, e, Wo.hid_sqt hp t, Wo.hid_rvs hp ds vs q⟩
  | .obj n, v, r => by rw [Rv] at r ⊢; exact r
  | .fn x, v, r => by rw [Rv] at r ⊢; exact r
  | .ty n, v, r => by rw [Rv] at r ⊢; exact r
  | .raw n, v, r => by rw [Rv] at r ⊢; exact r
  | .kl ds, v, r => by
    rw [Rv] at r ⊢
    obtain ⟨a, vs, e, t, q⟩ := r
    exact ⟨a, vs, e, Wo.hid_sqf hp t, Wo.hid_rvs hp ds vs q⟩
  | .tk ks, v, r => by
    rw [Rv] at r ⊢
    obtain ⟨a, e, t⟩ := r
    refine ⟨a, e, ?_⟩
    show upd w.H p (.lst ys) a = some _
    rw [upd_ne fun z => ?_]
    · exact t
    · rw [z, hp] at t
      cases t
theorem Wo.hid_rvs {w : Wo} {p : Addr} {xs ys : List V} (hp : w.H p = some (.lst xs)) : ∀ (ds : List D) (vs : List V), Rvs K mg w ds vs → Rvs K mg (w.heap (upd w.H p (.lst ys))) ds vs
  | [], vs, r => by rw [Rvs] at r ⊢; exact r
  | d :: ds, vs, r => by
    rw [Rvs] at r ⊢
    obtain ⟨v, q, e, r1, r2⟩ := r
    exact ⟨v, q, e, Wo.hid_rv hp d v r1, Wo.hid_rvs hp ds q r2⟩
end
theorem Wo.hid_rkv {κ : Type} {w : Wo} {p : Addr} {xs ys : List V} (hp : w.H p = some (.lst xs)) : ∀ {ps : List (κ × D)} {vs : List (κ × V)}, Rkv K mg w ps vs → Rkv K mg (w.heap (upd w.H p (.lst ys))) ps vs
  | [], vs, r => r
  | q :: ps, vs, r => by
    obtain ⟨v, z, e, r1, r2⟩ := r
    exact ⟨v, z, e, Wo.hid_rv hp _ v r1, Wo.hid_rkv hp r2⟩
theorem Wo.hid_rfs {w : Wo} {p : Addr} {xs ys : List V} (hp : w.H p = some (.lst xs)) : ∀ {ps : List (Str × D)} {vs : List (Str × V)}, Rfs K mg w ps vs → Rfs K mg (w.heap (upd w.H p (.lst ys))) ps vs
  | [], vs, r => r
  | q :: ps, vs, r => by
    obtain ⟨v, z, e, r1, r2⟩ := r
    exact ⟨v, z, e, Wo.hid_rv hp _ v r1, Wo.hid_rfs hp r2⟩
theorem Wo.hid_ok {w : Wo} (ok : w.Ok K mg) {p : Addr} {xs ys : List V} (hp : w.H p = some (.lst xs)) (hn : ∀ i, i < w.S.length → w.m i ≠ p) : (w.heap (upd w.H p (.lst ys))).Ok K mg := by
  refine ⟨ok.inj, fun i o h => ?_⟩
  have r := ok.has i o h
  have hi := hn i (lt_of_get h)
  have keep : ∀ x, w.H (w.m i) = some x → (upd w.H p (.lst ys)) (w.m i) = some x := fun x e => by rw [upd_ne hi]; exact e
  cases o with
  | lst ds =>
    obtain ⟨vs, h1, h2⟩ := r
    exact ⟨vs, keep _ h1, Wo.hid_rvs hp _ _ h2⟩
  | dk ds =>
    obtain ⟨vs, h1, h2⟩ := r
    exact ⟨vs, keep _ h1, Wo.hid_rkv hp h2⟩
  | dt ds =>
    obtain ⟨vs, h1, h2⟩ := r
    exact ⟨vs, keep _ h1, Wo.hid_rkv hp h2⟩
  | ins C fs =>
    obtain ⟨Ca, dx, vs, h0, h1, h2⟩ := r
    exact ⟨Ca, dx, vs, h0, keep _ h1, Wo.hid_rfs hp h2⟩
theorem Wo.hid_le {w0 w : Wo} (le : w0.Le w) {p : Addr} {ys : List V} (h0 : w0.H p = none) : w0.Le (w.heap (upd w.H p (.lst ys))) := by
  refine ⟨le.len, le.ag, fun a x e n => ?_, le.nw⟩
  show upd w.H p (.lst ys) a = some x
  rw [upd_ne (ne_of_none e h0)]
  exact le.fr a x e n
/-- the list that is being made comes to be tracked -/
theorem Wo.adopt {w : Wo} (ok : w.Ok K mg) {p : Addr} {vs : List V} {xs : List D} (hp : w.H p = some (.lst vs)) (hn : ∀ i, i < w.S.length → w.m i ≠ p) (r : Rvs K mg w xs vs) :
    (Wo.mk (fun i => if i = w.S.length then p else w.m i) (w.S ++ [.lst xs]) w.H).Ok K mg := by
  generalize hw2 : (Wo.mk (fun i => if i = w.S.length then p else w.m i) (w.S ++ [.lst xs]) w.H) = w2
  have eS : w2.S = w.S ++ [.lst xs] := by rw [← hw2]
  have eH : w2.H = w.H := by rw [← hw2]
  have eo : ∀ i, i < w.S.length → w2.m i = w.m i := fun i hi => by rw [← hw2]; exact if_neg (Nat.ne_of_lt hi)
  have en : w2.m w.S.length = p := by rw [← hw2]; exact if_pos rfl
  have el : w2.S.length = w.S.length + 1 := by rw [eS, List.length_append]; rfl
  have le : w.Le (w2) ∨ True := .inr trivial
  have up : ∀ (d : D) (v : V), Rv K mg w d v → Rv K mg w2 d v := by
    have hlen : w.S.length ≤ w2.S.length := by omega
    have key : (∀ (d : D) (v : V), Rv K mg w d v → Rv K mg w2 d v) := by
      intro d
      refine D.rec (motive_1 := fun d => ∀ v, Rv K mg w d v → Rv K mg w2 d v) (motive_2 := fun ds => ∀ vs, Rvs K mg w ds vs → Rvs K mg w2 ds vs) ?_ ?_ ?_ ?_ ?_ ?_ ?_ ?_ ?_ ?_ ?_ ?_ ?_ d
      · intro v r; rw [Rv] at r ⊢; exact r
      · intro _ v r; rw [Rv] at r ⊢; exact r
      · intro _ v r; rw [Rv] at r ⊢; exact r
      · intro _ v r; rw [Rv] at r ⊢; exact r
      · intro ds ih v r
        rw [Rv] at r ⊢
        obtain ⟨a, vs, e, t, q⟩ := r
        exact ⟨a, vs, e, by rw [eH]; exact t, ih vs q⟩
      · intro n v r
        rw [Rv] at r ⊢
        exact ⟨Nat.lt_of_lt_of_le r.1 hlen, by rw [eo n r.1]; exact r.2⟩
      · intro _ v r; rw [Rv] at r ⊢; exact r
      · intro _ v r; rw [Rv] at r ⊢; exact r
      · intro _ v r; rw [Rv] at r ⊢; exact r
      · intro ds ih v r
        rw [Rv] at r ⊢
        obtain ⟨a, vs, e, t, q⟩ := r
        exact ⟨a, vs, e, by rw [eH]; exact t, ih vs q⟩
      · intro ks v r
        rw [Rv] at r ⊢
        obtain ⟨a, e, t⟩ := r
        exact ⟨a, e, by rw [eH]; exact t⟩
      · intro vs r; rw [Rvs] at r ⊢; exact r
      · intro d ds ih1 ih2 vs r
        rw [Rvs] at r ⊢
        obtain ⟨v, q, e, r1, r2⟩ := r
        exact ⟨v, q, e, ih1 v r1, ih2 q r2⟩
    exact key
  have ups : ∀ (ds : List D) (vs : List V), Rvs K mg w ds vs → Rvs K mg w2 ds vs := by
    intro ds
    induction ds with
    | nil => intro vs r; rw [Rvs] at r ⊢; exact r
    | cons d ds ih =>
      intro vs r
      rw [Rvs] at r ⊢
      obtain ⟨v, q, e, r1, r2⟩ := r
      exact ⟨v, q, e, up d v r1, ih q r2⟩
  have upk : ∀ {κ : Type} (ds : List (κ × D)) (vs : List (κ × V)), Rkv K mg w ds vs → Rkv K mg w2 ds vs := by
    intro κ ds
    induction ds with
    | nil => intro vs r; exact r
    | cons d ds ih =>
      intro vs r
      obtain ⟨v, q, e, r1, r2⟩ := r
      exact ⟨v, q, e, up _ v r1, ih q r2⟩
  have upf : ∀ (ds : List (Str × D)) (vs : List (Str × V)), Rfs K mg w ds vs → Rfs K mg w2 ds vs := by
    intro ds
    induction ds with
    | nil => intro vs r; exact r
    | cons d ds ih =>
      intro vs r
      obtain ⟨v, q, e, r1, r2⟩ := r
      exact ⟨v, q, e, up _ v r1, ih q r2⟩
  refine ⟨fun i j hi hj e => ?_, fun i o h => ?_⟩
  · rw [el] at hi hj
    by_cases h1 : i < w.S.length
    · by_cases h2 : j < w.S.length
      · rw [eo i h1, eo j h2] at e
        exact ok.inj i j h1 h2 e
      · have e2 : j = w.S.length := by omega
        rw [e2, en, eo i h1] at e
        exact absurd e (hn i h1)
    · have e1 : i = w.S.length := by omega
      by_cases h2 : j < w.S.length
      · rw [e1, en, eo j h2] at e
        exact absurd e.symm (hn j h2)
      · omega
  · rw [eS] at h
    by_cases h1 : i < w.S.length
    · rw [List.getElem?_append_left h1] at h
      rw [eo i h1]
      have r := ok.has i o h
      cases o with
      | lst ds =>
        obtain ⟨vs, h1, h2⟩ := r
        exact ⟨vs, by rw [eH]; exact h1, ups _ _ h2⟩
      | dk ds =>
        obtain ⟨vs, h1, h2⟩ := r
        exact ⟨vs, by rw [eH]; exact h1, upk _ _ h2⟩
      | dt ds =>
        obtain ⟨vs, h1, h2⟩ := r
        exact ⟨vs, by rw [eH]; exact h1, upk _ _ h2⟩
      | ins C fs =>
        obtain ⟨Ca, dx, vs, h0, h1, h2⟩ := r
        exact ⟨Ca, dx, vs, h0, by rw [eH]; exact h1, upf _ _ h2⟩
    · have h2 := lt_of_get h
      rw [List.length_append] at h2
      have h2 : i < w.S.length + 1 := h2
      have e1 : i = w.S.length := by omega
      rw [e1, List.getElem?_append_right (Nat.le_refl _), Nat.sub_self] at h
      have e2 : Ob.lst xs = o := Option.some.inj h
      rw [e1, en, ← e2]
      exact ⟨vs, by rw [eH]; exact hp, ups _ _ r⟩
theorem i_comp {di : DI} {wi : TI} {g : DG} {tg : TG} {us vs : List Nat} {t : DT} {de : DE} (hi : IOk K mg W di wi) (hg : GOk K mg us g tg) (hu : ∀ i ∈ us, i ∈ vs) {σ : St} {H : Hp} {Q : VK} (h : LE K mg W (dComp di g vs t de) σ H Q) :
    tLc wi tg (LT K mg W0 t) (LE K mg W0 de) vs σ H Q := by
  obtain ⟨w, ok, rfl, ρ, rr, h⟩ := h
  refine hi w ρ σ _ ok rr (h.bind fun w1 p J le1 ok1 ri h1 => ?_)
  obtain ⟨items, still⟩ := p
  intro q hq
  have rr1 := (rr.up ok le1).wipe vs
  have len1 : (upd w1.H q (.lst [])) q = some (.lst []) := upd_same
  have base : w1.Le (w1.heap (upd w1.H q (.lst []))) := Wo.new_le hq
  have okb : (w1.heap (upd w1.H q (.lst []))).Ok K mg := Wo.new_ok ok1 hq
  refine ⟨fun i m H => m = items.length - i ∧ i ≤ items.length ∧ ∃ (w2 : Wo) (acc : List D) (av : List V) (xs : List D) (S' : Sto), w1.Le w2 ∧ w2.Ok K mg ∧ w2.H = H ∧ still w2.S ∧ w2.H q = some (.lst av) ∧ (∀ j, j < w2.S.length → w2.m j ≠ q) ∧ Rvs K mg w2 acc av ∧
      cLoop still g t de (wipeE ρ vs) (items.drop i) w2.S = .ok xs S' ∧ Fin K mg w1 (Rv K mg) (mkLst (acc ++ xs) S') Q (XW K mg W σ), ?_, ?_⟩
  · cases e : cLoop still g t de (wipeE ρ vs) items w1.S with
    | bad =>
      unfold dComp1 at h1
      dsimp only at h1
      rw [e] at h1
      exact h1.elim
    | exc c fs S =>
      unfold dComp1 at h1
      dsimp only at h1
      rw [e] at h1
      exact h1.elim
    | ok xs S' =>
      unfold dComp1 at h1
      dsimp only at h1
      rw [e] at h1
      refine ⟨items.length, rfl, Nat.zero_le _, w1.heap (upd w1.H q (.lst [])), [], [], xs, S', base, okb, rfl, ri.now, upd_same, fun j hj z => ?_, Rvs.nil, e, h1⟩
      obtain ⟨o, h2, _⟩ := ok1.at (show j < w1.S.length from hj)
      have z : w1.m j = q := z
      rw [z, hq] at h2
      cases h2
  · rintro i m H2 ⟨rfl, hil, w2, acc, av, xs, S', le2, ok2, rfl, st2, hl2, hn2, ra, ec, hf⟩
    by_cases hlt : i < items.length
    · have ei := List.getElem?_eq_getElem hlt
      rw [List.drop_eq_getElem_cons hlt] at ec
      generalize items[i] = d at ei ec
      obtain ⟨go, yl⟩ := ri.step w2 i d le2 ok2 st2 ei
      refine .inr ⟨go, fun H' => ∃ (w2 : Wo) (acc : List D) (av : List V) (xs : List D) (S' : Sto), w1.Le w2 ∧ w2.Ok K mg ∧ w2.H = H' ∧ still w2.S ∧ w2.H q = some (.lst av) ∧ (∀ j, j < w2.S.length → w2.m j ≠ q) ∧ Rvs K mg w2 acc av ∧
        cLoop still g t de (wipeE ρ vs) (items.drop (i + 1)) w2.S = .ok xs S' ∧ Fin K mg w1 (Rv K mg) (mkLst (acc ++ xs) S') Q (XW K mg W σ), fun H' n => ⟨items.length - (i + 1), by omega, rfl, hlt, n⟩, fun x H' y => ?_⟩
      obtain ⟨w3, le3, ok3, es3, rfl, r3⟩ := yl x H' y
      -- the hidden list is still there, and still hidden
      have hid : ∀ {wa wb : Wo} {bv : List V}, wa.Ok K mg → wa.Le wb → wa.H q = some (.lst bv) → (∀ j, j < wa.S.length → wa.m j ≠ q) → wb.H q = some (.lst bv) ∧ ∀ j, j < wb.S.length → wb.m j ≠ q := fun {wa wb bv} oka le hq2 hn => by
        refine ⟨le.fr _ _ hq2 hn, fun j hj z => ?_⟩
        by_cases hja : j < wa.S.length
        · rw [le.ag j hja] at z
          exact hn j hja z
        · have := le.nw j (Nat.le_of_not_lt hja) hj
          rw [z, hq2] at this
          cases this
      obtain ⟨hl3, hn3⟩ := hid ok2 le3 hl2 hn2
      have le13 := le2.trans ok2 le3
      have rr3 := (rr.up ok (le1.trans ok1 le13)).wipe vs
      unfold cLoop at ec
      rw [← es3] at ec
      cases eg : g d (wipeE ρ vs) w3.S with
      | none => rw [eg] at ec; cases ec
      | some ρ3 =>
        rw [eg] at ec
        refine hg w3 d x _ ρ3 _ _ ok3 rr3 r3 eg fun σ3 rr4 hw => ⟨?_, w3, ok3, rfl, ρ3, rr4, ?_⟩
        · rw [hw vs hu]
          have ww : ∀ us : List Nat, (∀ i ∈ us, i ∈ vs) → L2.wipe (L2.wipe σ us) vs = L2.wipe σ vs := by
            intro us
            induction us with
            | nil => intro _; rfl
            | cons u us ih =>
              intro hus
              show L2.wipe ((L2.wipe σ us).set u none) vs = _
              rw [wipe_set (hus u List.mem_cons_self), ih fun i hi => hus i (List.mem_cons_of_mem _ hi)]
          exact ww vs fun _ hi => hi
        · unfold cTg at ec
          dsimp only at ec
          cases et : t ρ3 w3.S with
          | bad => rw [et] at ec; cases ec
          | exc c fs S => rw [et] at ec; cases ec
          | ok k S4 =>
            rw [et] at ec
            intro w4 v4 le4 ok4 es4 r4
            have r4 : k = v4 := r4
            subst r4
            subst es4
            obtain ⟨hl4, hn4⟩ := hid ok3 le4 hl3 hn3
            have le14 := le13.trans ok3 le4
            have ra4 := ((ra.up ok2 le3).up ok3 le4)
            have rr5 := rr4.up ok3 le4
            cases k with
            | false =>
              refine iteF ?_
              unfold cTest cSkip at ec
              dsimp only at ec
              by_cases hs : still w4.S
              · rw [if_pos hs] at ec
                exact ⟨w4, acc, av, xs, S', le14, ok4, rfl, hs, hl4, hn4, ra4, ec, hf⟩
              · rw [if_neg hs] at ec
                cases ec
            | true =>
              refine iteT ⟨w4, ok4, rfl, ρ3, rr5, ?_⟩
              unfold cTest at ec
              dsimp only at ec
              cases ee : de ρ3 w4.S with
              | bad => rw [ee] at ec; cases ec
              | exc c fs S => rw [ee] at ec; cases ec
              | ok z S5 =>
                rw [ee] at ec
                intro w5 v5 le5 ok5 es5 r5
                subst es5
                obtain ⟨hl5, hn5⟩ := hid ok4 le5 hl4 hn4
                have le15 := le14.trans ok4 le5
                have ra5 := ra4.up ok4 le5
                unfold cElt cSkip at ec
                dsimp only at ec
                by_cases hs : still w5.S
                · rw [if_pos hs] at ec
                  cases er : cLoop still g t de (wipeE ρ vs) (items.drop (i + 1)) w5.S with
                  | bad => rw [er] at ec; cases ec
                  | exc c fs S => rw [er] at ec; cases ec
                  | ok ys S6 =>
                    rw [er] at ec
                    unfold cHead at ec
                    injection ec with ec1 ec2
                    subst ec1 ec2
                    have hlen := hf.lstLen
                    rw [List.length_append, List.length_cons] at hlen
                    refine ⟨av, hl5, by rw [ra5.len]; omega, w5.heap (upd w5.H q (.lst (av ++ [v5]))), acc ++ [z], av ++ [v5], ys, S6, Wo.hid_le le15 hq, Wo.hid_ok ok5 hl5 hn5, rfl, hs, upd_same, hn5, Wo.hid_rvs hl5 _ _ (ra5.append (Rvs.cons r5 Rvs.nil)), er, ?_⟩
                    rw [List.append_assoc]
                    exact hf
                · rw [if_neg hs] at ec
                  cases ec
    · have e1 : i = items.length := by omega
      subst e1
      rw [List.drop_length] at ec
      unfold cLoop at ec
      injection ec with ec1 ec2
      subst ec1 ec2
      refine .inl ⟨ri.stop w2 le2 ok2 st2, ?_⟩
      rw [List.append_nil] at hf
      unfold mkLst at hf
      by_cases hl : acc.length ≤ sizeLine
      · rw [if_pos hl] at hf
        have ad := Wo.adopt ok2 hl2 hn2 ra
        have le : w1.Le (Wo.mk (fun i => if i = w2.S.length then q else w2.m i) (w2.S ++ [Ob.lst acc]) w2.H) := by
          refine ⟨?_, fun i hi => ?_, le2.fr, fun i hi hi2 => ?_⟩
          · show w1.S.length ≤ (w2.S ++ [Ob.lst acc]).length
            rw [List.length_append]
            have := le2.len
            omega
          · show (if i = w2.S.length then q else w2.m i) = w1.m i
            rw [if_neg (Nat.ne_of_lt (Nat.lt_of_lt_of_le hi le2.len))]
            exact le2.ag i hi
          · show w1.H (if i = w2.S.length then q else w2.m i) = none
            by_cases h1 : i = w2.S.length
            · rw [if_pos h1]
              exact hq
            · rw [if_neg h1]
              have hi2 : i < (w2.S ++ [Ob.lst acc]).length := hi2
              rw [List.length_append] at hi2
              have hi2 : i < w2.S.length + 1 := hi2
              exact le2.nw i hi (by omega)
        refine hf (Wo.mk (fun i => if i = w2.S.length then q else w2.m i) (w2.S ++ [Ob.lst acc]) w2.H) (.ref q) le ad rfl ?_
        rw [Rv]
        exact ⟨by show w2.S.length < (w2.S ++ [Ob.lst acc]).length; rw [List.length_append]; exact Nat.lt_succ_self _, by show V.ref q = V.ref (if w2.S.length = w2.S.length then q else w2.m w2.S.length); rw [if_pos rfl]⟩
      · rw [if_neg hl] at hf
        exact hf.elim
end

section
variable {K : PySem.W.Frag} {mg : Str → Option Value} {X : Cx} {W : WX} {pos : Pos} {a b c e : Expr} {es : List Expr}
theorem ixX : IxR X (rIx X.K) := ix_seq
theorem slX : SlR X (rSlX X.K) := sl_list.or (sl_tupA.or sl_str)
theorem Rvs.of_sc {w : Wo} : ∀ {ds : List D} {vs : List V}, scs ds = some vs → Rvs K mg w ds vs
  | [], vs, e => by
    rw [← Option.some.inj e]
    exact Rvs.nil
  | d :: ds, vs, e => by
    unfold scs at e
    cases e2 : d.sc with
    | none =>
      rw [e2] at e
      cases e
    | some u =>
      cases e3 : scs ds with
      | none =>
        rw [e2, e3] at e
        cases e
      | some us2 =>
        rw [e2, e3] at e
        rw [← Option.some.inj e]
        refine Rvs.cons ?_ (Rvs.of_sc e3)
        cases d <;> first
          | (rw [← Option.some.inj e2, Rv])
          | (exact absurd e2 (by intro z; cases z))
/-! ## methods of built-in types -/
def tyM (T : String) (d : D) (S : Sto) : Bool := match d with
  | .str _ => T == "str"
  | .int _ => T == "int"
  | .obj n => match S[n]? with
    | some (.lst _) => T == "list"
    | some (.dk _) => T == "dict"
    | _ => false
  | _ => false
theorem tyM_at {w : Wo} (ok : w.Ok K mg) {T : String} {d : D} {v : V} (r : Rv K mg w d v) (h : tyM T d w.S = true) : tyV K T v w.H := by
  unfold tyM at h
  split at h
  · rw [r.str]
    exact beq_iff_eq.mp h
  · rw [r.int]
    exact beq_iff_eq.mp h
  · obtain ⟨_, rfl⟩ := r.obj
    split at h
    · rename_i e
      obtain ⟨vs, h1, _⟩ := ok.has _ _ e
      exact .inl ⟨beq_iff_eq.mp h, vs, SqL.of h1⟩
    · rename_i e
      obtain ⟨vs, h1, _⟩ := ok.has _ _ e
      exact .inr (.inr (.inl ⟨beq_iff_eq.mp h, .inl ⟨vs, h1⟩⟩))
    · cases h
  · cases h
abbrev DM := D → List D → Sto → Res D
def Opm (K : PySem.W.Frag) (mg : Str → Option Value) (r : V → List V → Hp → VK → Prop) (f : DM) : Prop := ∀ (w : Wo) (x : D) (ds : List D) (v : V) (vs : List V) (Q : VK) (E : Str → List (Str × D) → Wo → Prop), w.Ok K mg → Rv K mg w x v → Rvs K mg w ds vs → Fin K mg w (Rv K mg) (f x ds w.S) Q E → r v vs w.H Q
def eMeth1 (T : String) (f : DM) (da : DA) (ρ : Env) (x : D) (S1 : Sto) : Res D := if tyM T x S1 = true then (da ρ S1).bind (f x) else .bad
def eMeth (T : String) (f : DM) (do_ : DE) (da : DA) (ρ : Env) (S : Sto) : Res D := (do_ ρ S).bind (eMeth1 T f da ρ)
theorem i_meth {T : String} {r : V → List V → Hp → VK → Prop} {f : DM} {do_ : DE} {da : DA} (o : Opm K mg r f) {σ : St} {H : Hp} {Q : VK} (h : LE K mg W (eMeth T f do_ da) σ H Q) : tBM K T r (LE K mg W do_) (LA K mg W da) σ H Q := by
  obtain ⟨w, ok, rfl, ρ, rr, h⟩ := h
  refine ⟨w, ok, rfl, ρ, rr, h.bind fun w1 x v le1 ok1 r1 h1 => ?_⟩
  unfold eMeth1 at h1
  by_cases ht : tyM T x w1.S = true
  · rw [if_pos ht] at h1
    refine ⟨tyM_at ok1 r1 ht, w1, ok1, rfl, ρ, rr.up ok le1, h1.bind fun w2 ds vs le2 ok2 r2 h2 => ?_⟩
    exact o w2 x ds v vs Q _ ok2 (r1.up ok1 le2) r2 h2
  · rw [if_neg ht] at h1
    exact h1.elim
theorem i_meth0 {T : String} {r : V → List V → Hp → VK → Prop} {f : DM} {do_ : DE} (o : Opm K mg r f) {σ : St} {H : Hp} {Q : VK} (h : LE K mg W (eMeth T f do_ eNil) σ H Q) : tBM0 K T r (LE K mg W do_) σ H Q := by
  obtain ⟨w, ok, rfl, ρ, rr, h⟩ := h
  refine ⟨w, ok, rfl, ρ, rr, h.bind fun w1 x v le1 ok1 r1 h1 => ?_⟩
  unfold eMeth1 at h1
  by_cases ht : tyM T x w1.S = true
  · rw [if_pos ht] at h1
    exact ⟨tyM_at ok1 r1 ht, o w1 x [] v [] Q _ ok1 r1 Rvs.nil h1⟩
  · rw [if_neg ht] at h1
    exact h1.elim
section
variable {o : Expr} {name : Str} {apos cpos : Pos} {T id : String} {r : V → List V → Hp → VK → Prop} {f : DM} {do_ : DE} {da : DA}
theorem l_bm0 (pa : PlainAttrs T) (slot : Slot T name id) (hty : typeOf (.builtin id) = pure (.type "method_descriptor")) (hm : MtR X id r) (om : Opm X.K X.mg r f) (ho : PE X o (LE X.K X.mg W do_))
    (hbase : attributeBase o name X.env (eval o X.env) = eval o X.env := by rfl) (hline : (apos.endLine == cpos.line) = true := by rfl) : PE X (.Call (.Attribute o name apos) [] [] cpos) (LE X.K X.mg W (eMeth T f do_ eNil)) :=
  (pe_bm0 pa slot hty hm ho hbase hline).imp fun _ _ _ => i_meth0 om
theorem l_bm (pa : PlainAttrs T) (slot : Slot T name id) (hty : typeOf (.builtin id) = pure (.type "method_descriptor")) (hm : MtR X id r) (om : Opm X.K X.mg r f) (ho : PE X o (LE X.K X.mg W do_)) (ha : PA X (e :: es) (LA X.K X.mg W da))
    (hbase : attributeBase o name X.env (eval o X.env) = eval o X.env := by rfl)
    (hfew : ((backTo cpos (starEach (e :: es) X.env)).all (fun x => !x.1) && (backToKw cpos (keywordEach [] X.env)).all (fun x => x.1.isSome)
      && decide ((e :: es).length + ([] : List Keyword).length + (if ([] : List Keyword).isEmpty then 0 else 1) < 30)) = true := by rfl)
    (hline : (apos.endLine == cpos.line) = true := by rfl) (hs : starEach (e :: es) X.env = (false, eval e X.env) :: starEach es X.env := by rfl) (hplain : (backTo cpos (starEach es X.env)).any (·.1) = false := by rfl) :
    PE X (.Call (.Attribute o name apos) (e :: es) [] cpos) (LE X.K X.mg W (eMeth T f do_ da)) :=
  (pe_bm pa slot hty hm ho ha hbase hfew hline hs hplain).imp fun _ _ _ => i_meth om
end
/-- a list is given other items, and x is handed back -/
theorem Fin.putLst {w : Wo} {n : Nat} {xs : List D} {vs us : List V} {x : D} {v : V} {Q : VK} {E : Str → List (Str × D) → Wo → Prop} (h : Fin K mg w (Rv K mg) (.ok x (w.S.set n (.lst xs))) Q E) (ok : w.Ok K mg) (hn : n < w.S.length) (r : Rvs K mg w xs vs) (rx : Rv K mg w x v) : Q v (upd w.H (w.m n) (.lst vs)) := by
  have le := Wo.put_le (o := Ob.lst xs) (u := HO.lst vs) hn
  exact h (w.put n (.lst xs) (.lst vs)) v le (Wo.putLst ok hn r) rfl (rx.up ok le)
def mAppend : DM
  | .obj n, [d], S => match S[n]? with
    | some (.lst xs) => if xs.length < sizeLine then .ok .non (S.set n (.lst (xs ++ [d]))) else .bad
    | _ => .bad
  | _, _, _ => .bad
theorem om_append : Opm K mg rAppend mAppend := by
  intro w x ds v vs Q E ok rx rs h
  unfold mAppend at h
  split at h
  · obtain ⟨u, rfl, ru⟩ := rs.one
    obtain ⟨hn, rfl⟩ := rx.obj
    split at h
    · rename_i e
      split at h
      · rename_i hl
        obtain ⟨us, h1, r1⟩ := lst_mut ok e
        exact ⟨_, us, u, rfl, rfl, h1, by rw [r1.len]; exact hl, h.putLst (us := us) ok hn (r1.append (Rvs.cons ru Rvs.nil)) mk_non⟩
      · exact h.elim
    · exact h.elim
  · exact h.elim
def mExtend : DM
  | .obj n, [.obj m], S => match S[n]?, S[m]? with
    | some (.lst xs), some (.lst ys) => if xs.length + ys.length ≤ sizeLine then .ok .non (S.set n (.lst (xs ++ ys))) else .bad
    | _, _ => .bad
  | _, _, _ => .bad
theorem om_extend : Opm K mg rExtend mExtend := by
  intro w x ds v vs Q E ok rx rs h
  unfold mExtend at h
  split at h
  · obtain ⟨u, rfl, ru⟩ := rs.one
    obtain ⟨hn, rfl⟩ := rx.obj
    obtain ⟨hm, rfl⟩ := ru.obj
    split at h
    · rename_i e1 e2
      split at h
      · rename_i hl
        obtain ⟨us, h1, r1⟩ := lst_mut ok e1
        obtain ⟨zs, h2, r2⟩ := lst_mut ok e2
        exact ⟨_, _, us, zs, rfl, rfl, h1, h2, by rw [r1.len, r2.len]; exact hl, h.putLst (us := us) ok hn (r1.append r2) mk_non⟩
      · exact h.elim
    · exact h.elim
  · exact h.elim
def mPop : DM
  | .obj n, [], S => match S[n]? with
    | some (.lst xs) => match xs[xs.length - 1]? with
      | some d => .ok d (S.set n (.lst xs.dropLast))
      | none => .bad
    | _ => .bad
  | _, _, _ => .bad
theorem Rvs.dropLast {w : Wo} {ds : List D} {vs : List V} (r : Rvs K mg w ds vs) : Rvs K mg w ds.dropLast vs.dropLast := by
  rw [List.dropLast_eq_take, List.dropLast_eq_take, r.len]
  exact r.take _
theorem om_pop : Opm K mg rPop mPop := by
  intro w x ds v vs Q E ok rx rs h
  unfold mPop at h
  split at h
  · have e0 : vs = [] := by
      rw [Rvs] at rs
      exact rs
    obtain ⟨hn, rfl⟩ := rx.obj
    split at h
    · rename_i e1
      split at h
      · rename_i e2
        obtain ⟨us, h1, r1⟩ := lst_mut ok e1
        obtain ⟨z, e3, rz⟩ := r1.get e2
        exact ⟨_, us, z, rfl, e0, h1, by rw [r1.len]; exact e3, h.putLst (us := us) ok hn r1.dropLast rz⟩
      · exact h.elim
    · exact h.elim
  · exact h.elim
def mInsert : DM
  | .obj n, [.int i, d], S => match S[n]? with
    | some (.lst xs) => if xs.length < sizeLine ∧ 0 ≤ i ∧ i < 2 ^ 63 then .ok .non (S.set n (.lst (xs.take i.toNat ++ [d] ++ xs.drop i.toNat))) else .bad
    | _ => .bad
  | _, _, _ => .bad
theorem om_insert : Opm K mg (fun x vs H Q => ∃ (l : Addr) (xs : List V) (i : Int) (y : V), x = .ref l ∧ vs = [.int i, y] ∧ H l = some (.lst xs) ∧ xs.length < sizeLine ∧ 0 ≤ i ∧ i < 2 ^ 63 ∧
    Q .non (upd H l (.lst (xs.take i.toNat ++ [y] ++ xs.drop i.toNat)))) mInsert := by
  intro w x ds v vs Q E ok rx rs h
  unfold mInsert at h
  split at h
  · obtain ⟨u, z, rfl, ru, rz⟩ := rs.two
    obtain ⟨hn, rfl⟩ := rx.obj
    rw [ru.int]
    split at h
    · rename_i e1
      split at h
      · rename_i hl
        obtain ⟨us, h1, r1⟩ := lst_mut ok e1
        exact ⟨_, us, _, z, rfl, rfl, h1, by rw [r1.len]; exact hl.1, hl.2.1, hl.2.2, h.putLst (us := us) ok hn (((r1.take _).append (Rvs.cons rz Rvs.nil)).append (r1.drop _)) mk_non⟩
      · exact h.elim
    · exact h.elim
  · exact h.elim
/-- texts -/
def asStrs : List D → Option (List Str)
  | [] => some []
  | .str i :: ds => (asStrs ds).map fun r => i :: r
  | _ => none
theorem Rvs.strs {w : Wo} : ∀ {ds : List D} {vs : List V} {ns : List Str}, Rvs K mg w ds vs → O.asStrs ds = some ns → vs = ns.map V.str
  | [], vs, ns, r, e => by
    rw [Rvs] at r
    rw [r, ← Option.some.inj e]
    rfl
  | .str i :: ds, vs, ns, r, e => by
    rw [Rvs] at r
    obtain ⟨v, q, e1, r1, r2⟩ := r
    obtain ⟨ms, e2, e3⟩ := Option.map_eq_some_iff.mp e
    rw [e1, r1.str, Rvs.strs r2 e2, ← e3]
    rfl
  | .non :: ds, vs, ns, r, e => by cases e
  | .bl _ :: ds, vs, ns, r, e => by cases e
  | .int _ :: ds, vs, ns, r, e => by cases e
  | .tup _ :: ds, vs, ns, r, e => by cases e
  | .obj _ :: ds, vs, ns, r, e => by cases e
  | .fn _ :: ds, vs, ns, r, e => by cases e
  | .ty _ :: ds, vs, ns, r, e => by cases e
  | .raw _ :: ds, vs, ns, r, e => by cases e
  | .kl _ :: ds, vs, ns, r, e => by cases e
def mJoin (x d : D) (S : Sto) : Res D := match x, (seqOf d S).bind asStrs with
  | .str z, some ys => if (ys.map (·.length)).sum + ys.length * z.length ≤ 16777216 then .ok (.str (Txt.join z ys)) S else .bad
  | _, _ => .bad
def eM11 (f : D → D → Sto → Res D) (da : DE) (ρ : Env) : D → Sto → Res D
  | .str z, S1 => (da ρ S1).bind (f (.str z))
  | _, _ => .bad
def eM1 (f : D → D → Sto → Res D) (do_ da : DE) (ρ : Env) (S : Sto) : Res D := (do_ ρ S).bind (eM11 f da ρ)
theorem l_join {o : Expr} {apos : Pos} {do_ da : DE} (ho : PE X o (LE X.K X.mg W do_)) (he : PE X e (LE X.K X.mg W da)) (hs : starEach [e] X.env = [(false, eval e X.env)] := by rfl) (hbase : attributeBase o "join" X.env (eval o X.env) = eval o X.env := by rfl) (hline : (apos.endLine == pos.line) = true := by rfl) :
    PE X (.Call (.Attribute o "join" apos) [e] [] pos) (LE X.K X.mg W (eM1 mJoin do_ da)) := (pe_join ho he hs hbase hline).imp fun σ H Q h => by
  obtain ⟨w, ok, rfl, ρ, rr, h⟩ := h
  refine ⟨w, ok, rfl, ρ, rr, h.bind fun w1 x v le1 ok1 r1 h1 => ?_⟩
  cases x with
  | str z =>
    refine ⟨⟨z, r1.str⟩, w1, ok1, rfl, ρ, rr.up ok le1, Fin.bind (R' := Rv X.K X.mg) h1 fun w2 y u le2 ok2 r2 h2 => ?_⟩
    unfold mJoin at h2
    split at h2
    · rename_i z2 ys e1 e2
      split at h2
      · rename_i hl
        injection e1 with e1
        subst e1
        obtain ⟨xs, e3, e4⟩ := Option.bind_eq_some_iff.mp e2
        obtain ⟨p, us, rfl, t, r3⟩ := seq_at ok2 r2 e3
        have e5 := r3.strs e4
        subst e5
        exact ⟨_, p, ys, r1.str, rfl, t, hl, Fin.now h2 ok2 mk_str⟩
      · exact h2.elim
    · exact h2.elim
  | _ => exact h1.elim
/-! ## list comprehensions -/
theorem lts_nil : PTs X [] (LT X.K X.mg W fun _ S => .ok true S) := ⟨fun pins s σ H Q I h => by
  obtain ⟨w, ok, rfl, ρ, rr, h⟩ := h
  exact pts_nil.run pins s σ w.H Q I (Fin.now h ok rfl)⟩
theorem lts_one {t : DT} (h : PT X c (LT X.K X.mg W t)) : PTs X [c] (LT X.K X.mg W t) := pts_one h
section
variable {elt tg iter : Expr} {ifs : List Expr} {scope : Scope} {own : List (Str × Nat)} {wi : TI} {g : DG} {t : TG} {us : List Nat} {di : DI} {dt : DT} {de : DE}
theorem l_comp (hc : X.calm = true) (hN : X.N.Nodup) (hi : PI X tg iter wi) (oi : IOk X.K X.mg W di wi) (ok : BlkOk X.N X.env.scope scope own)
    (hg : ∀ (s : Shared) (H : Hp) (C : Addr) (cl : List (Str × Addr)) (fp : List Addr), PG (X.blk s H scope (compEnvC scope cl C X.env) fp) tg t) (og : GOk X.K X.mg us g t) (hu : ∀ i ∈ us, i ∈ own.map (·.2))
    (ht : ∀ (s : Shared) (H : Hp) (C : Addr) (cl : List (Str × Addr)) (fp : List Addr), PTs (X.blk s H scope (compEnvC scope cl C X.env) fp) ifs (LT X.K X.mg W0 dt))
    (he : ∀ (s : Shared) (H : Hp) (C : Addr) (cl : List (Str × Addr)) (fp : List Addr), PE (X.blk s H scope (compEnvC scope cl C X.env) fp) elt (LE X.K X.mg W0 de)) (hs : ∀ x, foldedSetIterable iter X.env x = pure x := by intro _; rfl) :
    PE X (.ListComp elt [⟨tg, iter, ifs, 0⟩] scope pos) (LE X.K X.mg W (dComp di g (own.map (·.2)) dt de)) := (pe_lc hc hN hi ok hg ht he hs).imp fun _ _ _ => i_comp oi og hu
theorem ls_setComp {i : Nat} {y : Str} {py spos : Pos} (hc : X.calm = true) (hN : X.N.Nodup) (hy : X.N[i]? = some y) (hyl : X.env.scope.names.lookup y = some .local)
    (hsw : swapsWith (.ListComp elt [⟨tg, iter, ifs, 0⟩] scope pos) (some (.Name y py)) spos.line X.env = pure true) (hi : PI X tg iter wi) (oi : IOk X.K X.mg W di wi) (ok : BlkOk X.N X.env.scope scope own)
    (hg : ∀ (s : Shared) (H : Hp) (C : Addr) (cl : List (Str × Addr)) (fp : List Addr), PG (X.blk s H scope (compEnvC scope cl C X.env) fp) tg t) (og : GOk X.K X.mg us g t) (hu : ∀ i ∈ us, i ∈ own.map (·.2))
    (ht : ∀ (s : Shared) (H : Hp) (C : Addr) (cl : List (Str × Addr)) (fp : List Addr), PTs (X.blk s H scope (compEnvC scope cl C X.env) fp) ifs (LT X.K X.mg W0 dt))
    (he : ∀ (s : Shared) (H : Hp) (C : Addr) (cl : List (Str × Addr)) (fp : List Addr), PE (X.blk s H scope (compEnvC scope cl C X.env) fp) elt (LE X.K X.mg W0 de)) (hs : ∀ x, foldedSetIterable iter X.env x = pure x := by intro _; rfl) :
    PS X (.Assign [.Name y py] (.ListComp elt [⟨tg, iter, ifs, 0⟩] scope pos) spos) (LS X.K X.mg W (dSet i (dComp di g (own.map (·.2)) dt de))) := (ps_setLc hc hN hy hyl hsw hi ok hg ht he hs).imp fun D' σ H h => by
  obtain ⟨w, ok, rfl, ρ, rr, h⟩ := h
  have h2 : LE X.K X.mg W (dComp di g (own.map (·.2)) dt de) σ w.H (fun x H1 => gName i x σ H1 D'.nx) := i_bind (de := dComp di g (own.map (·.2)) dt de) (D' := D') ⟨w, ok, rfl, ρ, rr, h⟩ fun w d v ρ ok r rr h => h.now ok (rr.set r i)
  exact i_comp oi og hu h2
end
theorem takesW0 : Takes X W0 := takes0
/-! ## raise, try -/
def dRaise (x : Str) (ρ : Env) (S : Sto) : RS := .exc x [] ρ S
theorem ls_raise {C : Addr} {x m : Str} {j : Nat} {p p2 pos2 : Pos} (hc : X.calm = true) (tk : Takes X W) (q : PySem.W.excIn X.K C [.type "ValueError", .type "Exception", .type "BaseException", .type "object"] "ValueError.__new__" = true) (gC : X.mg x = some (.ref C)) (kC : PySem.W.keepIn X.K (.ref C) = true)
    (bC : PySem.W.subIn X.K (.ref C) (.type "BaseException") = some true) (tC : PySem.W.typeIn X.K (.ref C) = some (.type "type")) (hg : Gl X x) (hdb : (x == ("__debug__" : Str)) = false := by decide) :
    PS X (.Raise (some (.Call (.Name x p) [.Constant (.str m) j p2] [] pos2)) none pos) (LS X.K X.mg W (dRaise x)) :=
  (ps_raise hc tk (pmk_own PySem.F.excBase_ValueError q gC kC (raises_own bC tC) hg hdb)).imp fun D' σ H h => by
  obtain ⟨w, ok, rfl, ρ, rr, h⟩ := h
  exact h w σ (Wo.Le.refl w) ok rfl rr C none gC rfl
/-- which classes an except clause takes -/
abbrev Mat := List (Str × Bool)
def matOk (K : PySem.W.Frag) (mg : Str → Option Value) (c : Value) (m : Mat) : Prop := ∀ x b, m.lookup x = some b → ∀ C, mg x = some (.ref C) → PySem.W.exmOne K (.ref C) c = some b
def tryM (suite : DS) (c : Str) (fs : List (Str × D)) (ρ' : Env) (S' : Sto) : Option Bool → RS
  | some true => suite ρ' S'
  | some false => .exc c fs ρ' S'
  | none => .bad
def tryR (m : Mat) (suite : DS) : RS → RS
  | .exc c fs ρ' S' => tryM suite c fs ρ' S' (m.lookup c)
  | .nx ρ' S' => .nx ρ' S'
  | .rt d S' => .rt d S'
  | .bk ρ' S' => .bk ρ' S'
  | .ct ρ' S' => .ct ρ' S'
  | .bad => .bad
def dTry (m : Mat) (body suite : DS) (ρ : Env) (S : Sto) : RS := tryR m suite (body ρ S)
theorem i_try {c : Value} {m : Mat} {body suite : DS} {ts : Addr → Value → Option Addr → TS} (hm : matOk K mg c m) (hts : ∀ a cls d D' σ H, LS K mg W0 suite D' σ H → ts a cls d D' σ H) {D' : Ends} {σ : St} {H : Hp} (hns : ∀ ρ S, ∀ c fs ρ' S', suite ρ S ≠ .exc c fs ρ' S')
    (h : LS K mg W (dTry m body suite) D' σ H) : LS K mg (wOnly K c ts W D') body D' σ H := by
  obtain ⟨w, ok, rfl, ρ, rr, h⟩ := h
  refine ⟨w, ok, rfl, ρ, rr, ?_⟩
  unfold dTry at h
  cases e : body ρ w.S with
  | exc x fs ρ' S' =>
    rw [e] at h
    unfold tryR at h
    dsimp only at h
    intro w' σ' le ok' es rr' C d hC hd
    cases el : m.lookup x with
    | none => rw [el] at h; exact h.elim
    | some b =>
      rw [el] at h
      refine ⟨b, hm x b el C hC, fun hb a ha => ?_, fun hb => ?_⟩
      · subst hb
        refine hts a _ d D' σ' w'.H ⟨w', ok', rfl, ρ', rr', ?_⟩
        have h2 := FinS.up ok' le h
        unfold tryM at h2
        dsimp only at h2
        rw [← es] at h2
        cases e2 : suite ρ' w'.S with
        | exc c2 fs2 ρ2 S2 => exact absurd e2 (hns _ _ _ _ _ _)
        | nx ρ2 S2 => rw [e2] at h2; exact h2
        | rt ρ2 S2 => rw [e2] at h2; exact h2
        | bk ρ2 S2 => rw [e2] at h2; exact h2
        | ct ρ2 S2 => rw [e2] at h2; exact h2
        | bad => rw [e2] at h2; exact h2
      · subst hb
        exact h w' σ' le ok' es rr' C d hC hd
  | nx ρ2 S2 => rw [e] at h; exact h
  | rt ρ2 S2 => rw [e] at h; exact h
  | bk ρ2 S2 => rw [e] at h; exact h
  | ct ρ2 S2 => rw [e] at h; exact h
  | bad => rw [e] at h; exact h
theorem ls_try {x : Str} {cv : Value} {m : Mat} {body suite : List Stmt} {b₀ : Stmt} {np pos' : Pos} {tb ts : DS} (hs : X.stack = X.env :: X.outer) (hf : X.env.frame = some X.env.locals) (hc : Names X x cv) (tk : Takes X W) (hm : matOk X.K X.mg cv m) (hns : ∀ ρ S, ∀ c fs ρ' S', ts ρ S ≠ .exc c fs ρ' S')
    (hb : ∀ (W' : WX) (pn : List (Addr × Obj)) (xe : Value → Shared → Prop), Takes (X.tr pn xe) W' → PassesOwn (model X.prog X.w) X.A X.env xe → PSs (X.tr pn xe) body (LS X.K X.mg W' tb))
    (hsu : ∀ (a : Addr) (oe : Obj) (cls : Value) (d : Option Addr) (pn : List (Addr × Obj)), Zc cls d oe → (∃ vs, oe.data = .fields vs) → PSs (X.suite a ((a, oe) :: pn)) (b₀ :: suite) (LS X.K X.mg W0 ts)) :
    PS X (.Try body [.ExceptHandler (some (.Name x np)) none (b₀ :: suite) pos'] [] [] pos) (LS X.K X.mg W (dTry m tb ts)) :=
  (ps_try_only (tb := fun W' => LS X.K X.mg W' tb) (ts := fun _ _ _ => LS X.K X.mg W0 ts) hs hf hc tk hb hsu).imp fun D' σ H h => i_try (ts := fun _ _ _ => LS X.K X.mg W0 ts) hm (fun _ _ _ _ _ _ h => h) hns h
end

/-! ## math.gcd, bit_length -/
section
variable {K : PySem.W.Frag} {mg : Str → Option Value} {X : Cx} {W : WX}
def dGcd : DF
  | [.int a, .int b], S => .ok (.int ((Nat.gcd a.natAbs b.natAbs : Nat) : Int)) S
  | _, _ => .bad
theorem o_gcd : Opn K mg rGcd dGcd := by
  intro w ds vs Q E ok r h
  unfold dGcd at h
  split at h
  · obtain ⟨v, u, rfl, r1, r2⟩ := r.two
    rw [r1.int, r2.int]
    exact ⟨_, _, rfl, Fin.now h ok mk_int⟩
  · exact h.elim
theorem l_callF {x : Str} {p pos : Pos} {e : Expr} {es : List Expr} {id : String} {r : List V → Hp → VK → Prop} {f : DF} {da : DA} (hc : CallR X (.builtin id) r) (o : Opn X.K X.mg r f) (hg : Gl X x) (hm : X.mg x = some (.builtin id))
    (ha : PA X (e :: es) (LA X.K X.mg W da)) (hdb : (x == ("__debug__" : Str)) = false := by decide) (he : starEach (e :: es) X.env = (false, eval e X.env) :: starEach es X.env := by rfl) (hpl : (backTo pos (starEach es X.env)).any (·.1) = false := by rfl) :
    PE X (.Call (.Name x p) (e :: es) [] pos) (LE X.K X.mg W (eCall f da)) := (pe_callBfun hc hg hm ha hdb he hpl).imp fun _ _ _ => i_callB o
def dBits : D → Sto → Res D
  | .int i, S => .ok (.int (Builtin.Int.intBits i : Nat)) S
  | _, _ => .bad
theorem l_bits {o : Expr} {da : DE} {apos pos : Pos} (ho : PE X o (LE X.K X.mg W da)) (hbase : attributeBase o "bit_length" X.env (eval o X.env) = eval o X.env := by rfl) (hline : (apos.endLine == pos.line) = true := by rfl) :
    PE X (.Call (.Attribute o "bit_length" apos) [] [] pos) (LE X.K X.mg W (eUn dBits da)) := (pe_bits ho hbase hline).imp fun σ H Q h => by
  obtain ⟨w, ok, rfl, ρ, rr, h⟩ := h
  refine ⟨w, ok, rfl, ρ, rr, h.bind fun w1 x v le1 ok1 r1 h1 => ?_⟩
  unfold dBits at h1
  split at h1
  · exact ⟨_, r1.int, Fin.now h1 ok1 mk_int⟩
  · exact h1.elim
theorem mat_nil {c : Value} : matOk K mg c [] := fun _ _ h => nomatch h
theorem mat_cons {c : Value} {x : Str} {b : Bool} {m : Mat} {C : Addr} (g : mg x = some (.ref C)) (h : PySem.W.exmOne K (.ref C) c = some b) (hm : matOk K mg c m) : matOk K mg c ((x, b) :: m) := by
  intro y b2 e C2 g2
  rw [List.lookup_cons] at e
  split at e
  · rename_i e3
    have e3 := eq_of_beq e3
    subst e3
    rw [g] at g2
    cases Option.some.inj g2
    exact (Option.some.inj e) ▸ h
  · exact hm y b2 e C2 g2
end

/-! ## dicts whose keys are numbers and texts -/
section
variable {K : PySem.W.Frag} {mg : Str → Option Value} {X : Cx} {W : WX}
def keyOf : D → Option Key
  | .int i => some (.inl i)
  | .str x => some (.inr x)
  | _ => none
theorem Rv.key {w : Wo} {d : D} {v : V} {k : Key} (h : Rv K mg w d v) (e : keyOf d = some k) : v = kV k := by
  cases d <;> first
    | (rw [← Option.some.inj e]; first | exact h.int | exact h.str)
    | exact absurd e (by intro z; cases z)
/-- what a dict's pairs hold at a key; a pair put in -/
def getD {κ : Type} [DecidableEq κ] (kvs : List (κ × D)) (k : κ) : Option D := (kvs.find? fun p => decide (p.1 = k)).map (·.2)
def putD {κ : Type} [DecidableEq κ] (kvs : List (κ × D)) (k : κ) (d : D) : List (κ × D) :=
  if (kvs.any fun p => decide (p.1 = k)) = true then kvs.map (fun p => if p.1 = k then (p.1, d) else p) else kvs ++ [(k, d)]
theorem getD_pos {κ : Type} [DecidableEq κ] {p : κ × D} {r : List (κ × D)} {k : κ} (e : p.1 = k) : getD (p :: r) k = some p.2 := by simp [getD, List.find?_cons, e]
theorem getD_neg {κ : Type} [DecidableEq κ] {p : κ × D} {r : List (κ × D)} {k : κ} (e : ¬ p.1 = k) : getD (p :: r) k = getD r k := by simp [getD, List.find?_cons, e]
theorem Rkv.get {κ : Type} [DecidableEq κ] {w : Wo} (k : κ) : ∀ {ps : List (κ × D)} {vs : List (κ × V)}, Rkv K mg w ps vs → (∀ d, getD ps k = some d → ∃ v, valV vs k = some v ∧ Rv K mg w d v) ∧ (getD ps k = none → valV vs k = none)
  | [], vs, r => by
    have e : vs = [] := r
    subst e
    exact ⟨fun d h => (by cases h), fun _ => rfl⟩
  | p :: ps, vs, r => by
    obtain ⟨v, q, e, r1, r2⟩ := r
    subst e
    by_cases h : p.1 = k
    · rw [getD_pos h, valV_pos (p := (p.1, v)) h]
      refine ⟨fun d e => ⟨v, rfl, ?_⟩, fun e => by cases e⟩
      rw [← Option.some.inj e]
      exact r1
    · rw [getD_neg h, valV_neg (p := (p.1, v)) h]
      exact Rkv.get k r2
theorem Rkv.any {κ : Type} [DecidableEq κ] {w : Wo} (k : κ) : ∀ {ps : List (κ × D)} {vs : List (κ × V)}, Rkv K mg w ps vs → (vs.any fun p => decide (p.1 = k)) = (ps.any fun p => decide (p.1 = k))
  | [], vs, r => by
    have e : vs = [] := r
    subst e
    rfl
  | p :: ps, vs, r => by
    obtain ⟨v, q, e, r1, r2⟩ := r
    subst e
    rw [List.any_cons, List.any_cons, Rkv.any k r2]
theorem Rkv.mapPut {κ : Type} [DecidableEq κ] {w : Wo} {k : κ} {d : D} {v : V} (h : Rv K mg w d v) : ∀ {ps : List (κ × D)} {vs : List (κ × V)}, Rkv K mg w ps vs → Rkv K mg w (ps.map fun p => if p.1 = k then (p.1, d) else p) (vs.map fun p => if p.1 = k then (p.1, v) else p)
  | [], vs, r => by
    have e : vs = [] := r
    subst e
    exact rfl
  | p :: ps, vs, r => by
    obtain ⟨u, q, e, r1, r2⟩ := r
    subst e
    by_cases hk : p.1 = k
    · refine ⟨v, _, ?_, ?_, Rkv.mapPut h r2⟩
      · simp [hk]
      · simp only [hk, if_true]
        exact h
    · refine ⟨u, _, ?_, ?_, Rkv.mapPut h r2⟩
      · simp [hk]
      · simp only [hk, if_false]
        exact r1
theorem Rkv.snoc {κ : Type} [DecidableEq κ] {w : Wo} {k : κ} {d : D} {v : V} (h : Rv K mg w d v) : ∀ {ps : List (κ × D)} {vs : List (κ × V)}, Rkv K mg w ps vs → Rkv K mg w (ps ++ [(k, d)]) (vs ++ [(k, v)])
  | [], vs, r => by
    have e : vs = [] := r
    subst e
    exact ⟨v, [], rfl, h, rfl⟩
  | p :: ps, vs, r => by
    obtain ⟨u, q, e, r1, r2⟩ := r
    subst e
    exact ⟨u, _, rfl, r1, Rkv.snoc h r2⟩
theorem Rkv.put {κ : Type} [DecidableEq κ] {w : Wo} {k : κ} {d : D} {v : V} (h : Rv K mg w d v) {ps : List (κ × D)} {vs : List (κ × V)} (r : Rkv K mg w ps vs) : Rkv K mg w (putD ps k d) (putK vs k v) := by
  unfold putD putK
  rw [r.any k]
  split
  · exact r.mapPut h
  · exact r.snoc h
def dkOf (S : Sto) (n : Nat) : Option (List (Key × D)) := match S[n]? with
  | some (.dk kvs) => some kvs
  | _ => none
theorem dk_at {w : Wo} (ok : w.Ok K mg) {n : Nat} {kvs : List (Key × D)} (h : dkOf w.S n = some kvs) : w.S[n]? = some (.dk kvs) ∧ ∃ vs, w.H (w.m n) = some (.dK vs) ∧ Rkv K mg w kvs vs := by
  unfold dkOf at h
  split at h
  · rename_i e
    cases Option.some.inj h
    exact ⟨e, ok.has _ _ e⟩
  · cases h
def dtOf (S : Sto) (n : Nat) : Option (List (List Key × D)) := match S[n]? with
  | some (.dt kvs) => some kvs
  | _ => none
theorem dt_at {w : Wo} (ok : w.Ok K mg) {n : Nat} {kvs : List (List Key × D)} (h : dtOf w.S n = some kvs) : w.S[n]? = some (.dt kvs) ∧ ∃ vs, w.H (w.m n) = some (.dT vs) ∧ Rkv K mg w kvs vs := by
  unfold dtOf at h
  split at h
  · rename_i e
    cases Option.some.inj h
    exact ⟨e, ok.has _ _ e⟩
  · cases h
def lookK (n : Nat) (S : Sto) : Option Key → Option (Option D)
  | some q => (dkOf S n).map fun kvs => getD kvs q
  | none => none
/-- the place of a read -/
def look (a k : D) (S : Sto) : Option (Option D) := match a, k with
  | .obj n, .tk ks => (dtOf S n).map fun kvs => getD kvs ks
  | .obj n, k => lookK n S (keyOf k)
  | _, _ => none
theorem look_at {w : Wo} (ok : w.Ok K mg) {a k : D} {u v : V} {o : Option D} (ra : Rv K mg w a u) (rk : Rv K mg w k v) (h : look a k w.S = some o) : ∃ b r, u = .ref b ∧ DGet w.H b v r ∧ (∀ d, o = some d → ∃ z, r = some z ∧ Rv K mg w d z) ∧ (o = none → r = none) := by
  unfold look at h
  split at h
  · rename_i n ks
    obtain ⟨_, rfl⟩ := ra.obj
    obtain ⟨kvs, e2, e3⟩ := Option.map_eq_some_iff.mp h
    obtain ⟨_, vs, hv, r⟩ := dt_at ok e2
    rw [Rv] at rk
    obtain ⟨b, rfl, hb⟩ := rk
    obtain ⟨g1, g2⟩ := r.get ks
    subst e3
    exact ⟨_, _, rfl, DGet.t hv hb, g1, g2⟩
  · rename_i n _
    unfold lookK at h
    split at h
    · rename_i q e
      obtain ⟨_, rfl⟩ := ra.obj
      obtain ⟨kvs, e2, e3⟩ := Option.map_eq_some_iff.mp h
      obtain ⟨_, vs, hv, r⟩ := dk_at ok e2
      rw [rk.key e]
      obtain ⟨g1, g2⟩ := r.get q
      subst e3
      exact ⟨_, _, rfl, DGet.k hv, g1, g2⟩
    · cases h
  · cases h
/-! ### {} -/
def eDNew (_ : Env) (S : Sto) : Res D := .ok (.obj S.length) (S ++ [.dk []])
theorem l_dnew {pos : Pos} : PE X (.Dict [] [] pos) (LE X.K X.mg W eDNew) := pe_dnewK.imp fun σ H Q h => by
  obtain ⟨w, ok, rfl, ρ, rr, h⟩ := h
  exact fun p hp => Fin.add h ok hp fun le => ⟨[], upd_same, rfl⟩
/-- {} for tuples -/
def eDNewT (_ : Env) (S : Sto) : Res D := .ok (.obj S.length) (S ++ [.dt []])
theorem l_dnewT {pos : Pos} : PE X (.Dict [] [] pos) (LE X.K X.mg W eDNewT) := pe_dnewT.imp fun σ H Q h => by
  obtain ⟨w, ok, rfl, ρ, rr, h⟩ := h
  exact fun p hp => Fin.add h ok hp fun le => ⟨[], upd_same, rfl⟩
/-! ### d[k], d.get(k), d.get(k, e), k in d -/
def getR (S : Sto) : Option (Option D) → Res D
  | some (some d) => .ok d S
  | _ => .bad
def dDGet (a k : D) (S : Sto) : Res D := getR S (look a k S)
def eDGet (da dk : DE) : DE := eOp dDGet da dk
variable {o i e f : Expr} {pos pos' apos cpos : Pos} {da dk dx : DE}
theorem l_dget (hu : X.A.units + 1 < cLine) (ho : PE X o (LE X.K X.mg W da)) (hi : PE X i (LE X.K X.mg W dk)) (hs : NoSl i) : PE X (.Subscript o i pos) (LE X.K X.mg W (eDGet da dk)) := (pe_dget hu ho hi hs).imp fun σ H Q h => by
  obtain ⟨w, ok, rfl, ρ, rr, h⟩ := h
  refine ⟨w, ok, rfl, ρ, rr, h.bind fun w1 x v le1 ok1 r1 h1 => ?_⟩
  refine ⟨w1, ok1, rfl, ρ, rr.up ok le1, h1.bind fun w2 y u le2 ok2 r2 h2 => ?_⟩
  unfold dDGet at h2
  cases e : look x y w2.S with
  | none => rw [e] at h2; exact h2.elim
  | some od =>
    rw [e] at h2
    cases od with
    | none => exact h2.elim
    | some d =>
      obtain ⟨b, r, rfl, g, g1, _⟩ := look_at ok2 (r1.up ok1 le2) r2 e
      obtain ⟨z, rfl, rz⟩ := g1 d rfl
      exact ⟨_, z, rfl, g, h2.now ok2 rz⟩
def hasR (neg : Bool) (S : Sto) : Option (Option D) → Res D
  | some o => .ok (.bl (if neg then !o.isSome else o.isSome)) S
  | none => .bad
def dDIn (neg : Bool) (k a : D) (S : Sto) : Res D := hasR neg S (look a k S)
def eDIn (neg : Bool) (dk da : DE) : DE := eOp (dDIn neg) dk da
theorem i_din {neg : Bool} {σ : St} {H : Hp} {Q : VK} (h : LE K mg W (eDIn neg dk da) σ H Q) : LE K mg W dk σ H fun y H1 => LE K mg W da σ H1 fun x H2 => ∃ a o, x = .ref a ∧ DGet H2 a y o ∧ Q (.bl (if neg then !o.isSome else o.isSome)) H2 := by
  obtain ⟨w, ok, rfl, ρ, rr, h⟩ := h
  refine ⟨w, ok, rfl, ρ, rr, h.bind fun w1 y v le1 ok1 r1 h1 => ?_⟩
  refine ⟨w1, ok1, rfl, ρ, rr.up ok le1, h1.bind fun w2 x u le2 ok2 r2 h2 => ?_⟩
  unfold dDIn at h2
  cases e : look x y w2.S with
  | none => rw [e] at h2; exact h2.elim
  | some od =>
    rw [e] at h2
    obtain ⟨b, r, rfl, g, g1, g2⟩ := look_at ok2 r2 (r1.up ok1 le2) e
    have es : od.isSome = r.isSome := by
      cases od with
      | none => rw [g2 rfl]; rfl
      | some d =>
        obtain ⟨z, rfl, _⟩ := g1 d rfl
        rfl
    have h2 : Fin K mg w2 (Rv K mg) (.ok (.bl (if neg then !od.isSome else od.isSome)) w2.S) Q _ := h2
    rw [es] at h2
    exact ⟨_, r, rfl, g, h2.now ok2 mk_bl⟩
theorem l_din (hu : X.A.units + 1 < cLine) (hi : PE X i (LE X.K X.mg W dk)) (ho : PE X o (LE X.K X.mg W da)) (hm : behindInMarks .In o = false := by rfl) : PE X (.Compare i [.In] [o] pos) (LE X.K X.mg W (eDIn false dk da)) := (pe_cmp (pc_din hu hi ho) hm).imp fun σ H Q h => i_din h
theorem l_dnotin (hu : X.A.units + 1 < cLine) (hi : PE X i (LE X.K X.mg W dk)) (ho : PE X o (LE X.K X.mg W da)) (hm : behindInMarks .NotIn o = false := by rfl) : PE X (.Compare i [.NotIn] [o] pos) (LE X.K X.mg W (eDIn true dk da)) := (pe_cmp (pc_dnotin hu hi ho) hm).imp fun σ H Q h => i_din h
theorem lt_din (hu : X.A.units + 1 < cLine) (hi : PE X i (LE X.K X.mg W dk)) (ho : PE X o (LE X.K X.mg W da)) (hm : behindInMarks .In o = false := by rfl) : PT X (.Compare i [.In] [o] pos) (LT X.K X.mg W (eT (eDIn false dk da))) :=
  (pt_cmp (pc_din hu hi ho) hm).imp fun σ H Q h => i_test (t := tDIn (LE X.K X.mg W dk) (LE X.K X.mg W da)) (da := eDIn false dk da) (fun _ _ _ z => i_din (neg := false) z) h
theorem lt_dnotin (hu : X.A.units + 1 < cLine) (hi : PE X i (LE X.K X.mg W dk)) (ho : PE X o (LE X.K X.mg W da)) (hm : behindInMarks .NotIn o = false := by rfl) : PT X (.Compare i [.NotIn] [o] pos) (LT X.K X.mg W (eT (eDIn true dk da))) :=
  (pt_cmp (pc_dnotin hu hi ho) hm).imp fun σ H Q h => i_test (t := tDNotIn (LE X.K X.mg W dk) (LE X.K X.mg W da)) (da := eDIn true dk da) (fun _ _ _ z => i_din (neg := true) z) h
/-- the dict itself, when it is a dict -/
def asDict (a : D) (S : Sto) : Bool := match a with
  | .obj n => (dkOf S n).isSome || (dtOf S n).isSome
  | _ => false
theorem asDict_at {w : Wo} (ok : w.Ok K mg) {a : D} {u : V} (ra : Rv K mg w a u) (h : asDict a w.S = true) : ∃ b, u = .ref b ∧ IsD w.H b := by
  cases a with
  | obj n =>
    rcases Bool.or_eq_true_iff.mp (show ((dkOf w.S n).isSome || (dtOf w.S n).isSome) = true from h) with h | h
    · obtain ⟨kvs, e⟩ := Option.isSome_iff_exists.mp h
      obtain ⟨_, vs, hv, _⟩ := dk_at ok e
      exact ⟨_, ra.obj.2, .inl ⟨vs, .inl hv⟩⟩
    · obtain ⟨kvs, e⟩ := Option.isSome_iff_exists.mp h
      obtain ⟨_, vs, hv, _⟩ := dt_at ok e
      exact ⟨_, ra.obj.2, .inr ⟨vs, .inl hv⟩⟩
  | _ => cases h
def get1R (S : Sto) : Option (Option D) → Res D
  | some (some d) => .ok d S
  | some none => .ok .non S
  | none => .bad
def dDGet1 (a k : D) (S : Sto) : Res D := get1R S (look a k S)
def eDGet1b (dk : DE) (ρ : Env) (a : D) (S1 : Sto) : Res D := if asDict a S1 = true then (dk ρ S1).bind (dDGet1 a) else .bad
def eDGet1 (da dk : DE) (ρ : Env) (S : Sto) : Res D := (da ρ S).bind (eDGet1b dk ρ)
theorem l_dget1 (hu : X.A.units + 1 < cLine) (ho : PE X o (LE X.K X.mg W da)) (he : PE X e (LE X.K X.mg W dk)) (m : M1 X o "get" apos e cpos) : PE X (.Call (.Attribute o "get" apos) [e] [] cpos) (LE X.K X.mg W (eDGet1 da dk)) := (pe_dget1 hu ho he m).imp fun σ H Q h => by
  obtain ⟨w, ok, rfl, ρ, rr, h⟩ := h
  refine ⟨w, ok, rfl, ρ, rr, h.bind fun w1 x v le1 ok1 r1 h1 => ?_⟩
  unfold eDGet1b at h1
  by_cases hd : asDict x w1.S = true
  · rw [if_pos hd] at h1
    obtain ⟨b, rfl, isd⟩ := asDict_at ok1 r1 hd
    refine ⟨b, rfl, isd, w1, ok1, rfl, ρ, rr.up ok le1, h1.bind fun w2 y u le2 ok2 r2 h2 => ?_⟩
    unfold dDGet1 at h2
    cases e : look x y w2.S with
    | none => rw [e] at h2; exact h2.elim
    | some od =>
      rw [e] at h2
      obtain ⟨b2, r, eb, g, g1, g2⟩ := look_at ok2 (r1.up ok1 le2) r2 e
      cases eb
      cases od with
      | none =>
        rw [g2 rfl] at g
        exact ⟨_, g, h2.now ok2 (by rw [Rv]; rfl)⟩
      | some d =>
        obtain ⟨z, rfl, rz⟩ := g1 d rfl
        exact ⟨_, g, h2.now ok2 rz⟩
  · rw [if_neg hd] at h1
    exact h1.elim
def get2R (x : D) (S : Sto) : Option (Option D) → Res D
  | some (some d) => .ok d S
  | some none => .ok x S
  | none => .bad
def dDGet2 (a k x : D) (S : Sto) : Res D := get2R x S (look a k S)
def eDGet2c (dx : DE) (ρ : Env) (a k : D) (S2 : Sto) : Res D := (dx ρ S2).bind (dDGet2 a k)
def eDGet2b (dk dx : DE) (ρ : Env) (a : D) (S1 : Sto) : Res D := if asDict a S1 = true then (dk ρ S1).bind (eDGet2c dx ρ a) else .bad
def eDGet2 (da dk dx : DE) (ρ : Env) (S : Sto) : Res D := (da ρ S).bind (eDGet2b dk dx ρ)
theorem l_dget2 (hu : X.A.units + 1 < cLine) (ho : PE X o (LE X.K X.mg W da)) (he : PE X e (LE X.K X.mg W dk)) (hf : PE X f (LE X.K X.mg W dx)) (m : M2 X o "get" apos e f cpos) : PE X (.Call (.Attribute o "get" apos) [e, f] [] cpos) (LE X.K X.mg W (eDGet2 da dk dx)) := (pe_dget2 hu ho he hf m).imp fun σ H Q h => by
  obtain ⟨w, ok, rfl, ρ, rr, h⟩ := h
  refine ⟨w, ok, rfl, ρ, rr, h.bind fun w1 x v le1 ok1 r1 h1 => ?_⟩
  unfold eDGet2b at h1
  by_cases hd : asDict x w1.S = true
  · rw [if_pos hd] at h1
    obtain ⟨b, rfl, isd⟩ := asDict_at ok1 r1 hd
    have rr1 := rr.up ok le1
    refine ⟨b, rfl, isd, w1, ok1, rfl, ρ, rr1, h1.bind fun w2 y u le2 ok2 r2 h2 => ?_⟩
    refine ⟨w2, ok2, rfl, ρ, rr1.up ok1 le2, h2.bind fun w3 z t le3 ok3 r3 h3 => ?_⟩
    unfold dDGet2 at h3
    cases e : look x y w3.S with
    | none => rw [e] at h3; exact h3.elim
    | some od =>
      rw [e] at h3
      obtain ⟨b2, r, eb, g, g1, g2⟩ := look_at ok3 ((r1.up ok1 le2).up ok2 le3) (r2.up ok2 le3) e
      cases eb
      cases od with
      | none =>
        rw [g2 rfl] at g
        exact ⟨_, g, h3.now ok3 r3⟩
      | some d =>
        obtain ⟨y2, rfl, rz⟩ := g1 d rfl
        exact ⟨_, g, h3.now ok3 rz⟩
  · rw [if_neg hd] at h1
    exact h1.elim
/-! ### d[k] = e -/
def putQ (ρ : Env) (S : Sto) (x : D) : D → D → RS
  | .obj n, k => match dkOf S n, keyOf k with
    | some kvs, some q => if kvs.length < sizeLine then .nx ρ (S.set n (.dk (putD kvs q x))) else .bad
    | _, _ => .bad
  | _, _ => .bad
def putQ3 (x a k : D) (ρ : Env) (S : Sto) : RS := putQ ρ S x a k
def putQ2 (dk : DE) (x a : D) (ρ : Env) (S : Sto) : RS := bindR (putQ3 x a) ρ (dk ρ S)
def putQ1 (da dk : DE) (x : D) (ρ : Env) (S : Sto) : RS := bindR (putQ2 dk x) ρ (da ρ S)
def dPutD (dx da dk : DE) (ρ : Env) (S : Sto) : RS := bindR (putQ1 da dk) ρ (dx ρ S)
theorem ls_putD (hu : X.A.units + 1 < cLine) (hv : PE X e (LE X.K X.mg W dx)) (ho : PE X o (LE X.K X.mg W da)) (hi : PE X i (LE X.K X.mg W dk)) (hs : swapsWith e (some (.Subscript o i pos')) pos.line X.env = pure false) :
    PS X (.Assign [.Subscript o i pos'] e pos) (LS X.K X.mg W (dPutD dx da dk)) := (ps_dput hu ho hi hv hs).imp fun D' σ H h => by
  obtain ⟨w, ok, rfl, ρ, rr, h⟩ := h
  refine ⟨w, ok, rfl, ρ, rr, FinS.ofBind ok rr h fun w1 x v le1 ok1 r1 rr1 h1 => ?_⟩
  refine ⟨w1, ok1, rfl, ρ, rr1, FinS.ofBind ok1 rr1 h1 fun w2 y u le2 ok2 r2 rr2 h2 => ?_⟩
  refine ⟨w2, ok2, rfl, ρ, rr2, FinS.ofBind ok2 rr2 h2 fun w3 z t le3 ok3 r3 rr3 h3 => ?_⟩
  have h3 : FinS X.K X.mg W w3 (putQ ρ w3.S x y z) D' := h3
  cases y with
  | obj n =>
    have h3 : FinS X.K X.mg W w3 (match dkOf w3.S n, keyOf z with | some kvs, some q => if kvs.length < sizeLine then .nx ρ (w3.S.set n (.dk (putD kvs q x))) else .bad | _, _ => .bad) D' := h3
    cases e1 : dkOf w3.S n with
    | none => rw [e1] at h3; exact h3.elim
    | some kvs =>
      cases e2 : keyOf z with
      | none => rw [e1, e2] at h3; exact h3.elim
      | some q =>
        rw [e1, e2] at h3
        have h3 : FinS X.K X.mg W w3 (if kvs.length < sizeLine then .nx ρ (w3.S.set n (.dk (putD kvs q x))) else .bad) D' := h3
        by_cases hl : kvs.length < sizeLine
        · rw [if_pos hl] at h3
          obtain ⟨e3, vs, hv, r⟩ := dk_at ok3 e1
          have r2 := r2.up ok2 le3
          obtain ⟨hn, rfl⟩ := r2.obj
          have r1 := (r1.up ok1 le2).up ok2 le3
          rw [r3.key e2]
          refine ⟨_, _, rfl, DPut.k hv (by rw [Rkv.len r]; exact hl), ?_⟩
          have le4 := Wo.put_le (o := .dk (putD kvs q x)) (u := .dK (putK vs q v)) hn
          exact h3 (w3.put n (.dk (putD kvs q x)) (.dK (putK vs q v))) σ le4 (Wo.put_ok ok3 hn ⟨_, upd_same, (r.put r1).up ok3 le4⟩) rfl (rr3.up ok3 le4)
        · rw [if_neg hl] at h3
          exact h3.elim
  | _ => exact h3.elim
/-! ### .. by a tuple -/
def putTK (ρ : Env) (S : Sto) (n : Nat) (x : D) (ks : List Key) : Option (List (List Key × D)) → RS
  | some kvs => if kvs.length < sizeLine then .nx ρ (S.set n (.dt (putD kvs ks x))) else .bad
  | none => .bad
def putT3 (x a k : D) (ρ : Env) (S : Sto) : RS := match a, k with
  | .obj n, .tk ks => putTK ρ S n x ks (dtOf S n)
  | _, _ => .bad
def putT2 (dk : DE) (x a : D) (ρ : Env) (S : Sto) : RS := bindR (putT3 x a) ρ (dk ρ S)
def putT1 (da dk : DE) (x : D) (ρ : Env) (S : Sto) : RS := bindR (putT2 dk x) ρ (da ρ S)
def dPutT (dx da dk : DE) (ρ : Env) (S : Sto) : RS := bindR (putT1 da dk) ρ (dx ρ S)
theorem ls_putT (hu : X.A.units + 1 < cLine) (hv : PE X e (LE X.K X.mg W dx)) (ho : PE X o (LE X.K X.mg W da)) (hi : PE X i (LE X.K X.mg W dk)) (hs : swapsWith e (some (.Subscript o i pos')) pos.line X.env = pure false) :
    PS X (.Assign [.Subscript o i pos'] e pos) (LS X.K X.mg W (dPutT dx da dk)) := (ps_dput hu ho hi hv hs).imp fun D' σ H h => by
  obtain ⟨w, ok, rfl, ρ, rr, h⟩ := h
  refine ⟨w, ok, rfl, ρ, rr, FinS.ofBind ok rr h fun w1 x v le1 ok1 r1 rr1 h1 => ?_⟩
  refine ⟨w1, ok1, rfl, ρ, rr1, FinS.ofBind ok1 rr1 h1 fun w2 y u le2 ok2 r2 rr2 h2 => ?_⟩
  refine ⟨w2, ok2, rfl, ρ, rr2, FinS.ofBind ok2 rr2 h2 fun w3 z t le3 ok3 r3 rr3 h3 => ?_⟩
  unfold putT3 at h3
  split at h3
  · rename_i n ks
    cases e1 : dtOf w3.S n with
    | none => rw [e1] at h3; exact h3.elim
    | some kvs =>
      rw [e1] at h3
      have h3 : FinS X.K X.mg W w3 (if kvs.length < sizeLine then .nx ρ (w3.S.set n (.dt (putD kvs ks x))) else .bad) D' := h3
      by_cases hl : kvs.length < sizeLine
      · rw [if_pos hl] at h3
        obtain ⟨e3, vs, hv, r⟩ := dt_at ok3 e1
        have r2 := r2.up ok2 le3
        obtain ⟨hn, rfl⟩ := r2.obj
        have r1 := (r1.up ok1 le2).up ok2 le3
        rw [Rv] at r3
        obtain ⟨b, rfl, hb⟩ := r3
        refine ⟨_, _, rfl, DPut.t hv hb (by rw [Rkv.len r]; exact hl), ?_⟩
        have le4 := Wo.put_le (o := .dt (putD kvs ks x)) (u := .dT (putK vs ks v)) hn
        exact h3 (w3.put n (.dt (putD kvs ks x)) (.dT (putK vs ks v))) σ le4 (Wo.put_ok ok3 hn ⟨_, upd_same, (r.put r1).up ok3 le4⟩) rfl (rr3.up ok3 le4)
      · rw [if_neg hl] at h3
        exact h3.elim
  · exact h3.elim
/-! ### tuples that are keys -/
def keyL : List D → Option (List Key)
  | [] => some []
  | d :: r => match keyOf d, keyL r with
    | some k, some ks => some (k :: ks)
    | _, _ => none
theorem Rvs.keys {w : Wo} : ∀ {ds : List D} {vs : List V} {ks : List Key}, Rvs K mg w ds vs → keyL ds = some ks → vs = ks.map kV
  | [], vs, ks, r, e => by
    rw [Rvs] at r
    cases Option.some.inj (show some [] = some ks from e)
    exact r
  | d :: ds, vs, ks, r, e => by
    rw [Rvs] at r
    obtain ⟨v, q, e1, r1, r2⟩ := r
    subst e1
    unfold keyL at e
    split at e
    · rename_i k ks' e2 e3
      cases Option.some.inj e
      rw [List.map_cons, Rvs.keys r2 e3, r1.key e2]
    · cases e
def tkR (S : Sto) : Option (List Key) → Res D
  | some ks => .ok (.tk ks) S
  | none => .bad
def mkTk (xs : List D) (S : Sto) : Res D := if xs.length ≤ sizeLine then tkR S (keyL xs) else .bad
def eTk (da : DA) (ρ : Env) (S : Sto) : Res D := (da ρ S).bind mkTk
theorem l_tk {es : List Expr} {x1} {pos : Pos} {da : DA} (h : PA X es (LA X.K X.mg W da)) : PE X (.Tuple es x1 pos) (LE X.K X.mg W (eTk da)) := (pe_tup h).imp fun σ H Q h => by
  obtain ⟨w, ok, rfl, ρ, rr, h⟩ := h
  refine ⟨w, ok, rfl, ρ, rr, h.bind fun w1 xs vs le1 ok1 r1 h1 => ?_⟩
  unfold mkTk at h1
  by_cases hl : xs.length ≤ sizeLine
  · rw [if_pos hl] at h1
    cases e : keyL xs with
    | none => rw [e] at h1; exact h1.elim
    | some ks =>
      rw [e] at h1
      refine ⟨by rw [r1.len]; exact hl, fun p hp => ?_⟩
      have le2 := Wo.new_le (w := w1) (p := p) (o := .tup vs) hp
      have ok2 := Wo.new_ok (o := .tup vs) ok1 hp
      refine Fin.now (w := w1.heap (upd w1.H p (.tup vs))) (h1.up ok2 le2) ok2 ?_
      rw [Rv]
      exact ⟨p, rfl, by rw [← r1.keys e]; exact upd_same⟩
  · rw [if_neg hl] at h1
    exact h1.elim
def ofKey : Key → D
  | .inl i => .int i
  | .inr x => .str x
/-- a key as a tuple -/
def unTk : D → D
  | .tk ks => .tup (ks.map ofKey)
  | d => d
theorem ofKeys_rvs {w : Wo} : ∀ ks : List Key, Rvs K mg w (ks.map ofKey) (ks.map kV)
  | [] => Rvs.nil
  | .inl i :: ks => Rvs.cons (by rw [ofKey, Rv]; rfl) (ofKeys_rvs ks)
  | .inr i :: ks => Rvs.cons (by rw [ofKey, Rv]; rfl) (ofKeys_rvs ks)
theorem Rv.unTk {w : Wo} {d : D} {v : V} (r : Rv K mg w d v) : Rv K mg w (O.unTk d) v := by
  cases d with
  | tk ks =>
    rw [Rv] at r
    obtain ⟨a, e, h⟩ := r
    unfold O.unTk
    rw [Rv]
    exact ⟨a, _, e, SqT.of h, ofKeys_rvs ks⟩
  | _ => exact r
def dUnTk (d : D) (S : Sto) : Res D := .ok (unTk d) S
def eUnTk (da : DE) : DE := eUn dUnTk da
theorem l_untk {e : Expr} {da : DE} (h : PE X e (LE X.K X.mg W da)) : PE X e (LE X.K X.mg W (eUnTk da)) := h.imp fun σ H Q z => by
  obtain ⟨w, ok, rfl, ρ, rr, z⟩ := z
  refine ⟨w, ok, rfl, ρ, rr, Fin.bind z fun w1 x v le1 ok1 r1 h1 => Fin.now h1 ok1 r1.unTk⟩
end

/-! ## dicts of the module -/
/-- a dict of the module with text keys, at z -/
structure DictT (K : PySem.W.Frag) (pr : Params) (z : Addr) (kvs : List (Str × V)) : Prop where
  ex : ∃ es n, K.lookup z = some ⟨.type "dict", none, .dict es n, #[]⟩ ∧ PySem.W.KeysLit pr es.toList
  low : (z == sysModules) = false
  get : ∀ x : Str, ∃ r, PySem.W.nsIn K z x = some r ∧ ((valV kvs x = none ∧ r = none) ∨ ∃ v u, valV kvs x = some v ∧ r = some u ∧ RelV v u)
def EntT (pr : Params) (e : DictEntry) (p : Str × V) : Prop := (∃ t, e.key = .str p.1 t) ∧ e.hash = PyData.keyHash pr p.1 ∧ RelV p.2 e.val
def EntsT (pr : Params) : List DictEntry → List (Str × V) → Prop
  | [], [] => True
  | e :: es, p :: ps => EntT pr e p ∧ EntsT pr es ps
  | _, _ => False
theorem ents_find {pr : Params} : ∀ {es : List DictEntry} {kvs : List (Str × V)}, EntsT pr es kvs → ∀ x : Str, PySem.W.KeysLit pr es ∧ es.any (·.refKey) = false ∧ ((valV kvs x = none ∧ es.find? (·.key.isStr x) = none) ∨ ∃ v e, valV kvs x = some v ∧ es.find? (·.key.isStr x) = some e ∧ RelV v e.val)
  | [], [], _, x => ⟨trivial, rfl, .inl ⟨rfl, rfl⟩⟩
  | e :: es, p :: ps, ⟨⟨⟨t, hk⟩, hh, hv⟩, h⟩, x => by
    obtain ⟨a, b, c⟩ := ents_find h x
    refine ⟨⟨⟨p.1, t, hk, hh⟩, a⟩, ?_, ?_⟩
    · rw [List.any_cons, b, Bool.or_false]
      unfold DictEntry.refKey
      rw [hk]
    · have e1 : e.key.isStr x = decide (p.1 = x) := by
        rw [hk]
        first | rfl | (unfold Value.isStr; first | rfl | simp)
      by_cases q : p.1 = x
      · right
        refine ⟨p.2, e, valV_pos q, ?_, hv⟩
        rw [List.find?_cons_of_pos]
        rw [e1]
        exact decide_eq_true q
      · rw [valV_neg q, List.find?_cons_of_neg (by rw [e1]; simpa using q)]
        exact c
theorem dictT_mk {K : PySem.W.Frag} {pr : Params} {z : Addr} {kvs : List (Str × V)} {es : List DictEntry} {n : Nat} (l : K.lookup z = some ⟨.type "dict", none, .dict es.toArray n, #[]⟩) (low : (z == sysModules) = false) (h : EntsT pr es kvs) : DictT K pr z kvs := by
  refine ⟨⟨_, n, l, by simpa using (ents_find h Str.empty).1⟩, low, fun x => ?_⟩
  obtain ⟨_, b, c⟩ := ents_find h x
  unfold PySem.W.nsIn
  rw [l]
  dsimp only
  rcases c with ⟨c1, c2⟩ | ⟨v, e, c1, c2, c3⟩
  · rw [c2]
    dsimp only
    rw [b]
    exact ⟨_, rfl, .inl ⟨c1, rfl⟩⟩
  · rw [c2]
    exact ⟨_, rfl, .inr ⟨v, _, c1, rfl, c3⟩⟩
/-! ### rules for a dict of the module -/
section
variable {X : Cx} {z : Addr} {kvs : List (Str × V)}
theorem DictT.mapOf (D : DictT X.K X.w.params z kvs) {pins : List (Addr × Obj)} {σ : St} {H : Hp} {s : Shared} (I : Inv X pins σ H s) :
    ∃ f : Str → Option Value, s.heap.MapOf (PySem.strKind X.prog X.w) z f ∧ (∀ x, (valV kvs x = none ∧ f x = none) ∨ ∃ v u, valV kvs x = some v ∧ f x = some u ∧ RelV v u) ∧ ∃ ob, s.heap.get? z = some ob ∧ ob.dict = none := by
  obtain ⟨es, n, l, k⟩ := D.ex
  refine ⟨_, PySem.W.mapOf_K (prog := X.prog) I.kIn l k, fun x => ?_, _, I.kIn _ _ l, rfl⟩
  obtain ⟨r, e, h⟩ := D.get x
  rw [PySem.W.find_K l e]
  exact h
theorem in_kdT (D : DictT X.K X.w.params z kvs) : OpR X (compareOp .In) (fun x y H Q => ∃ t : Str, x = .str t ∧ y = .ref z ∧ Q (.bl (valV kvs t).isSome) H) := by
  intro pins s σ H x y v u Q I rx ry h
  obtain ⟨t, rfl, rfl, q⟩ := h
  obtain ⟨tk, rfl⟩ := rx
  cases ry
  obtain ⟨f, mo, hf, _⟩ := D.mapOf I
  refine wpAny_in_of (PySem.strKind_is X.prog X.w t tk) D.low mo ?_
  have e : (f t).isSome = (valV kvs t).isSome := by
    rcases hf t with ⟨a, b⟩ | ⟨v, u, a, b, _⟩ <;> rw [a, b] <;> rfl
  rw [e]
  exact ⟨.bl _, H, I.tok _, rfl, q⟩
theorem ix_kdT (D : DictT X.K X.w.params z kvs) : IxR X (fun x y H Q => ∃ (t : Str) (v0 : V), x = .ref z ∧ y = .str t ∧ valV kvs t = some v0 ∧ Q v0 H) := by
  intro value slice pins s σ H x y v u Q I rx ry h hs
  obtain ⟨t, v0, rfl, rfl, e, q⟩ := h
  cases rx
  obtain ⟨tk, rfl⟩ := ry
  obtain ⟨f, mo, hf, _⟩ := D.mapOf I
  rcases hf t with ⟨a, b⟩ | ⟨v1, u1, a, b, r⟩
  · rw [e] at a
    cases a
  · rw [e] at a
    cases a
    exact PyProof.Rows.tail_any mo.typeIs PySem.F.slot_dict_getitem.lookup (wpAny_getItem_of (PySem.strKind_is X.prog X.w t tk) mo b ⟨v0, H, I.tok _, r, q⟩) hs
/-- d.get(y, x) of a dict of the module -/
def tKGet2 (z : Addr) (kvs : List (Str × V)) (td ty tx : TE) : TE := fun σ H Q => td σ H fun x H1 => x = .ref z ∧ ty σ H1 fun y H2 => tx σ H2 fun d H3 => ∃ t : Str, y = .str t ∧ Q ((valV kvs t).getD d) H3
theorem pe_kget2 {o e f : Expr} {apos cpos : Pos} {td ty tx : TE} (D : DictT X.K X.w.params z kvs) (ho : PE X o td) (he : PE X e ty) (hf : PE X f tx) (m : M2 X o "get" apos e f cpos) : PE X (.Call (.Attribute o "get" apos) [e, f] [] cpos) (tKGet2 z kvs td ty tx) := by
  refine ⟨fun pins s σ H Q I h => ?_⟩
  refine wpAny_Call_method m.base m.few m.line PySem.F.plainAttrs_dict PySem.F.slot_dict_get PySem.F.type_dict_get (thn (ho.run pins s σ H _ I h) fun u s1 ⟨x, H1, I1, rx, ex, q1⟩ => ?_)
  subst ex
  obtain rfl : u = Value.ref z := rx
  obtain ⟨f1, mo1, _, ob, eo, hd⟩ := D.mapOf I1
  refine ⟨mo1.typeIs, fun b q => by cases q; exact ⟨ob, eo, hd⟩, ?_⟩
  rw [m.trees]
  refine Calls.callWith_builtin rfl (Calls.evalArgs_plain (Calls.spliced_cons (thn (he.run pins s1 σ H1 _ I1 q1) fun iv s2 ⟨y, H2, I2, ry, q2⟩ =>
    Calls.spliced_cons (thn (hf.run pins s2 σ H2 _ I2 q2) fun fv s3 ⟨d, H3, I3, rd, t, et, q3⟩ => Calls.spliced_nil ?_))))
  subst et
  obtain ⟨tk, rfl⟩ := ry
  obtain ⟨f3, mo3, hf3, _⟩ := D.mapOf I3
  refine call_meetsIn PySem.F.slot_dict_get mo3.typeIs PySem.F.entry_dict_get (PySem.F.args_dict_get_3 _ _ _) (meets_dict_get_default (PySem.strKind X.prog X.w) z (PySem.strKind_is X.prog X.w t tk) D.low fv) ⟨_, mo3, ⟨_, H3, I3.tok _, ?_, q3⟩⟩
  rcases hf3 t with ⟨a, b⟩ | ⟨v, u, a, b, r⟩
  · rw [a, b]
    exact rd
  · rw [a, b]
    exact r
end


/-! ### dicts of the module, as data -/
section
variable {K : PySem.W.Frag} {mg : Str → Option Value} {X : Cx} {W : WX}
/-- the dict of the module at z holds kds -/
def DictF (K : PySem.W.Frag) (mg : Str → Option Value) (pr : Params) (z : Addr) (kds : List (Str × D)) : Prop := ∃ kvs, DictT K pr z kvs ∧ ∀ w, Rfs K mg w kds kvs
def lookS (kds : List (Str × D)) (x : Str) : Option D := (kds.find? fun p => decide (p.1 = x)).map (·.2)
theorem lookS_pos {p : Str × D} {r : List (Str × D)} {k : Str} (e : p.1 = k) : lookS (p :: r) k = some p.2 := by simp [lookS, List.find?_cons, e]
theorem lookS_neg {p : Str × D} {r : List (Str × D)} {k : Str} (e : ¬ p.1 = k) : lookS (p :: r) k = lookS r k := by simp [lookS, List.find?_cons, e]
theorem Rfs.look {w : Wo} (k : Str) : ∀ {ps : List (Str × D)} {vs : List (Str × V)}, Rfs K mg w ps vs → (∀ d, lookS ps k = some d → ∃ v, valV vs k = some v ∧ Rv K mg w d v) ∧ (lookS ps k = none → valV vs k = none)
  | [], vs, r => by
    have e : vs = [] := r
    subst e
    exact ⟨fun d h => (by cases h), fun _ => rfl⟩
  | p :: ps, vs, r => by
    obtain ⟨v, q, e, r1, r2⟩ := r
    subst e
    by_cases h : p.1 = k
    · rw [lookS_pos h, valV_pos (p := (p.1, v)) h]
      refine ⟨fun d e => ⟨v, rfl, ?_⟩, fun e => by cases e⟩
      rw [← Option.some.inj e]
      exact r1
    · rw [lookS_neg h, valV_neg (p := (p.1, v)) h]
      exact Rfs.look k r2
def kdR (S : Sto) : Option D → Res D
  | some d => .ok d S
  | none => .bad
def dKD (kds : List (Str × D)) : D → Sto → Res D
  | .str x, S => kdR S (lookS kds x)
  | _, _ => .bad
def eKD (kds : List (Str × D)) (dk : DE) : DE := eUn (dKD kds) dk
variable {x : Str} {p pos : Pos} {i : Expr} {dk : DE} {z : Addr} {kds : List (Str × D)}
theorem l_kd (D0 : DictF X.K X.mg X.w.params z kds) (hg : Gl X x) (hm : X.mg x = some (.ref z)) (hi : PE X i (LE X.K X.mg W dk)) (hs : NoSl i) (hdb : (x == ("__debug__" : Str)) = false := by decide) : PE X (.Subscript (.Name x p) i pos) (LE X.K X.mg W (eKD kds dk)) := by
  obtain ⟨kvs, DT, rk⟩ := D0
  refine (pe_ix (ix_kdT DT) (pe_glob (v := .ref z) hg hm rfl hdb) hi hs).imp fun σ H Q h => ?_
  obtain ⟨w, ok, rfl, ρ, rr, h⟩ := h
  refine ⟨w, ok, rfl, ρ, rr, h.bind fun w1 y u le1 ok1 r1 h1 => ?_⟩
  unfold dKD at h1
  split at h1
  · rename_i t
    cases e : lookS kds t with
    | none => rw [e] at h1; exact h1.elim
    | some d =>
      rw [e] at h1
      obtain ⟨v, e2, rv⟩ := ((rk w1).look t).1 d e
      rw [r1.str]
      exact ⟨t, v, rfl, rfl, e2, h1.now ok1 rv⟩
  · exact h1.elim
def dKDIn (neg : Bool) (kds : List (Str × D)) : D → Sto → Res D
  | .str x, S => .ok (.bl (if neg then !(lookS kds x).isSome else (lookS kds x).isSome)) S
  | _, _ => .bad
def eKDIn (neg : Bool) (kds : List (Str × D)) (dk : DE) : DE := eUn (dKDIn neg kds) dk
theorem Rfs.isSome {w : Wo} {ps : List (Str × D)} {vs : List (Str × V)} (r : Rfs K mg w ps vs) (t : Str) : (valV vs t).isSome = (lookS ps t).isSome := by
  obtain ⟨g1, g2⟩ := r.look t
  cases e : lookS ps t with
  | none => rw [g2 e]; rfl
  | some d =>
    obtain ⟨v, e2, _⟩ := g1 d e
    rw [e2]
    rfl
theorem notIn_kdT {kvs : List (Str × V)} (DT : DictT X.K X.w.params z kvs) : OpR X (compareOp .NotIn) (fun x y H Q => ∃ t : Str, x = .str t ∧ y = .ref z ∧ Q (.bl (!(valV kvs t).isSome)) H) := by
  intro pins s σ H a b v u Q I rx ry h
  obtain ⟨t, rfl, rfl, q⟩ := h
  obtain ⟨tk, rfl⟩ := rx
  cases ry
  obtain ⟨f, mo, hf, _⟩ := DT.mapOf I
  refine wpAny_notIn_of (PySem.strKind_is X.prog X.w t tk) DT.low mo ?_
  have e : (f t).isSome = (valV kvs t).isSome := by
    rcases hf t with ⟨a, b⟩ | ⟨v, u, a, b, _⟩ <;> rw [a, b] <;> rfl
  rw [e]
  exact ⟨.bl _, H, I.tok _, rfl, q⟩
theorem i_kdin {kvs : List (Str × V)} (rk : ∀ w, Rfs K mg w kds kvs) {neg : Bool} {σ : St} {H : Hp} {Q : VK} (h : LE K mg W (eKDIn neg kds dk) σ H Q) : LE K mg W dk σ H fun y H1 => ∃ t : Str, y = .str t ∧ Q (.bl (if neg then !(valV kvs t).isSome else (valV kvs t).isSome)) H1 := by
  obtain ⟨w, ok, rfl, ρ, rr, h⟩ := h
  refine ⟨w, ok, rfl, ρ, rr, h.bind fun w1 y u le1 ok1 r1 h1 => ?_⟩
  unfold dKDIn at h1
  split at h1
  · rename_i t
    rw [r1.str]
    refine ⟨t, rfl, ?_⟩
    rw [(rk w1).isSome t]
    exact h1.now ok1 mk_bl
  · exact h1.elim
theorem LE.monoQ {de : DE} {σ : St} {H : Hp} {Q Q' : VK} (h : LE K mg W de σ H Q) (k : ∀ v H1, Q v H1 → Q' v H1) : LE K mg W de σ H Q' := by
  obtain ⟨w, ok, rfl, ρ, rr, h⟩ := h
  refine ⟨w, ok, rfl, ρ, rr, ?_⟩
  cases e : de ρ w.S with
  | ok d S =>
    rw [e] at h
    exact fun w2 b l2 o2 e2 r => k _ _ (h w2 b l2 o2 e2 r)
  | exc c fs S => rw [e] at h; exact h
  | bad => rw [e] at h; exact h
theorem i_kdin2 {kvs : List (Str × V)} (rk : ∀ w, Rfs K mg w kds kvs) {σ : St} {H : Hp} {Q : VK} (h : LE K mg W (eKDIn false kds dk) σ H Q) : tOp (fun x y H Q => ∃ t : Str, x = .str t ∧ y = .ref z ∧ Q (.bl (valV kvs t).isSome) H) (LE K mg W dk) (tC (.ref z)) σ H Q :=
  (i_kdin (neg := false) rk h).monoQ fun _ _ ⟨t, e, q⟩ => ⟨t, e, rfl, q⟩
theorem i_kdnin2 {kvs : List (Str × V)} (rk : ∀ w, Rfs K mg w kds kvs) {σ : St} {H : Hp} {Q : VK} (h : LE K mg W (eKDIn true kds dk) σ H Q) : tOp (fun x y H Q => ∃ t : Str, x = .str t ∧ y = .ref z ∧ Q (.bl (!(valV kvs t).isSome)) H) (LE K mg W dk) (tC (.ref z)) σ H Q :=
  (i_kdin (neg := true) rk h).monoQ fun _ _ ⟨t, e, q⟩ => ⟨t, e, rfl, q⟩
theorem l_kdin (D0 : DictF X.K X.mg X.w.params z kds) (hg : Gl X x) (hm : X.mg x = some (.ref z)) (hi : PE X i (LE X.K X.mg W dk)) (hb : behindInMarks .In (.Name x p) = false := by rfl) (hdb : (x == ("__debug__" : Str)) = false := by decide) : PE X (.Compare i [.In] [.Name x p] pos) (LE X.K X.mg W (eKDIn false kds dk)) := by
  obtain ⟨kvs, DT, rk⟩ := D0
  exact (pe_cmpR (in_kdT DT) hi (pe_glob (v := .ref z) hg hm rfl hdb) hb).imp fun σ H Q h => i_kdin2 rk h
theorem l_kdnotin (D0 : DictF X.K X.mg X.w.params z kds) (hg : Gl X x) (hm : X.mg x = some (.ref z)) (hi : PE X i (LE X.K X.mg W dk)) (hb : behindInMarks .NotIn (.Name x p) = false := by rfl) (hdb : (x == ("__debug__" : Str)) = false := by decide) : PE X (.Compare i [.NotIn] [.Name x p] pos) (LE X.K X.mg W (eKDIn true kds dk)) := by
  obtain ⟨kvs, DT, rk⟩ := D0
  exact (pe_cmpR (notIn_kdT DT) hi (pe_glob (v := .ref z) hg hm rfl hdb) hb).imp fun σ H Q h => i_kdnin2 rk h
theorem lt_kdin (D0 : DictF X.K X.mg X.w.params z kds) (hg : Gl X x) (hm : X.mg x = some (.ref z)) (hi : PE X i (LE X.K X.mg W dk)) (hb : behindInMarks .In (.Name x p) = false := by rfl) (hdb : (x == ("__debug__" : Str)) = false := by decide) : PT X (.Compare i [.In] [.Name x p] pos) (LT X.K X.mg W (eT (eKDIn false kds dk))) := by
  obtain ⟨kvs, DT, rk⟩ := D0
  exact (pt_cmpR (in_kdT DT) hi (pe_glob (v := .ref z) hg hm rfl hdb) hb).imp fun σ H Q h => i_test (da := eKDIn false kds dk) (fun _ _ _ q => i_kdin2 rk q) h
theorem lt_kdnotin (D0 : DictF X.K X.mg X.w.params z kds) (hg : Gl X x) (hm : X.mg x = some (.ref z)) (hi : PE X i (LE X.K X.mg W dk)) (hb : behindInMarks .NotIn (.Name x p) = false := by rfl) (hdb : (x == ("__debug__" : Str)) = false := by decide) : PT X (.Compare i [.NotIn] [.Name x p] pos) (LT X.K X.mg W (eT (eKDIn true kds dk))) := by
  obtain ⟨kvs, DT, rk⟩ := D0
  exact (pt_cmpR (notIn_kdT DT) hi (pe_glob (v := .ref z) hg hm rfl hdb) hb).imp fun σ H Q h => i_test (da := eKDIn true kds dk) (fun _ _ _ q => i_kdnin2 rk q) h
/-! ### NAME.get(k, e) -/
def kdR2 (d : D) (S : Sto) : Option D → Res D
  | some e => .ok e S
  | none => .ok d S
def dKGet2 (kds : List (Str × D)) : D → D → Sto → Res D
  | .str x, d, S => kdR2 d S (lookS kds x)
  | _, _, _ => .bad
def eKGet2 (kds : List (Str × D)) (dk dx : DE) : DE := eOp (dKGet2 kds) dk dx
theorem l_kget2 {f : Expr} {apos : Pos} {dx : DE} (D0 : DictF X.K X.mg X.w.params z kds) (hg : Gl X x) (hm : X.mg x = some (.ref z)) (hi : PE X i (LE X.K X.mg W dk)) (hf : PE X f (LE X.K X.mg W dx)) (m : M2 X (.Name x p) "get" apos i f pos) (hdb : (x == ("__debug__" : Str)) = false := by decide) :
    PE X (.Call (.Attribute (.Name x p) "get" apos) [i, f] [] pos) (LE X.K X.mg W (eKGet2 kds dk dx)) := by
  obtain ⟨kvs, DT, rk⟩ := D0
  refine (pe_kget2 DT (pe_glob (v := .ref z) hg hm rfl hdb) hi hf m).imp fun σ H Q h => ⟨rfl, ?_⟩
  obtain ⟨w, ok, rfl, ρ, rr, h⟩ := h
  refine ⟨w, ok, rfl, ρ, rr, h.bind fun w1 y u le1 ok1 r1 h1 => ?_⟩
  refine ⟨w1, ok1, rfl, ρ, rr.up ok le1, h1.bind fun w2 d v le2 ok2 r2 h2 => ?_⟩
  unfold dKGet2 at h2
  split at h2
  · rename_i t
    rw [r1.str]
    refine ⟨t, rfl, ?_⟩
    obtain ⟨g1, g2⟩ := (rk w2).look t
    cases e : lookS kds t with
    | none =>
      rw [e] at h2
      rw [g2 e]
      exact h2.now ok2 r2
    | some d2 =>
      rw [e] at h2
      obtain ⟨v2, e2, rv⟩ := g1 d2 e
      rw [e2]
      exact h2.now ok2 rv
  · exact h2.elim
/-! ### a call of a local that holds a def -/
/-- the defs that a local may hold -/
def HeldF (X : Cx) (k : Nat) : List (Str × DF) → Prop
  | [] => True
  | p :: fs => (∃ f fd ps, X.mg p.1 = some (.ref f) ∧ FnOk X.prog X.w X.K X.mg X.base (L2.CX X.prog X.w) k f fd ps (spD X.K X.mg p.2) ∧ PySem.W.keepIn X.K (.ref f) = true ∧ Binds X.K fd ps []) ∧ HeldF X k fs
theorem HeldF.get {k : Nat} {y : Str} : ∀ {fs : List (Str × DF)} {h : DF}, HeldF X k fs → fs.lookup y = some h → ∃ f fd ps, X.mg y = some (.ref f) ∧ FnOk X.prog X.w X.K X.mg X.base (L2.CX X.prog X.w) k f fd ps (spD X.K X.mg h) ∧ PySem.W.keepIn X.K (.ref f) = true ∧ Binds X.K fd ps []
  | [], h, _, e => by cases e
  | p :: fs, h, hh, e => by
    rw [List.lookup_cons] at e
    split at e
    · rename_i e3
      have e3 := eq_of_beq e3
      cases Option.some.inj e
      rw [e3]
      exact hh.1
    · exact HeldF.get hh.2 e
def callF (fs : List (Str × DF)) (da : DA) (ρ : Env) : D → Sto → Res D
  | .fn y, S => match fs.lookup y with
    | some h => (da ρ S).bind h
    | none => .bad
  | _, _ => .bad
def eCallV (n : Nat) (fs : List (Str × DF)) (da : DA) (ρ : Env) (S : Sto) : Res D := (slotR S ρ[n]?).bind (callF fs da ρ)
theorem l_callV {k n : Nat} {fs : List (Str × DF)} {e : Expr} {es : List Expr} {da : DA} (F : HeldF X k fs) (hr : Room k X.A) (hN : X.N[n]? = some x) (hv : Vis X.env.scope x) (tk : Takes X W) (ha : PA X (e :: es) (LA X.K X.mg W da))
    (hdb : (x == ("__debug__" : Str)) = false := by decide) (hcd : (x == ("__classdict__" : Str)) = false := by decide) (he : starEach (e :: es) X.env = (false, eval e X.env) :: starEach es X.env := by rfl) (hpl : (backTo pos (starEach es X.env)).any (·.1) = false := by rfl) :
    PE X (.Call (.Name x p) (e :: es) [] pos) (LE X.K X.mg W (eCallV n fs da)) := by
  refine ⟨fun pins s σ H Q I h => ?_⟩
  obtain ⟨w, ok, rfl, ρ, rr, h⟩ := h
  unfold eCallV at h
  cases e1 : ρ[n]? with
  | none => rw [e1] at h; exact h.elim
  | some o =>
    rw [e1] at h
    cases o with
    | none => exact h.elim
    | some d =>
      obtain ⟨v, e2, rv⟩ := rr.get e1
      cases d with
      | fn y =>
        have h : Fin X.K X.mg w (Rv X.K X.mg) (callF fs da ρ (.fn y) w.S) Q (XW X.K X.mg W σ) := h
        unfold callF at h
        dsimp only at h
        cases e3 : fs.lookup y with
        | none => rw [e3] at h; exact h.elim
        | some g =>
          rw [e3] at h
          obtain ⟨f, fd, ps, hm, Fk, hk, hb⟩ := F.get e3
          rw [Rv] at rv
          obtain ⟨a, ea, rfl⟩ := rv
          rw [hm] at ea
          cases Option.some.inj ea
          have var := (pe_var (pos := p) hN hv hdb hcd).run pins s σ _ (fun v H1 => v = .ref f ∧ H1 = w.H) I ⟨.ref f, e2, rfl, rfl⟩
          refine wpAny_Call_Name_kw (thn var fun u sv ⟨vv, Hv, Iv, rvv, qv⟩ => ?_)
          obtain ⟨rfl, rfl⟩ := qv
          cases rvv
          have args : LA X.K X.mg W da σ w.H (fun vs H1 => spD X.K X.mg g vs H1 Q (WE W σ)) := ⟨w, ok, rfl, ρ, rr, h.bind fun w1 xs vs le1 ok1 r1 h1 => ⟨w1, xs, ok1, rfl, r1, h1⟩⟩
          exact PySem.W.callWith_K (h₀ := X.base) Iv.ok.mod.kin hk (thn (ha.run pos pins sv σ _ _ Iv args) fun us s2 ⟨vs, H2, I2, r2, q2⟩ => ⟨I2.kIn, run_fnS (E := fun σ => WE W σ) Fk hr hb (passAt tk σ) I2 r2 q2⟩) he hpl
      | _ => exact h.elim
end

/-! ## the truth of a value -/
section
variable {K : PySem.W.Frag} {mg : Str → Option Value} {X : Cx} {W : WX}
theorem Rvs.empty {w : Wo} {ds : List D} {vs : List V} (r : Rvs K mg w ds vs) : vs.isEmpty = ds.isEmpty := by
  cases ds with
  | nil =>
    rw [Rvs] at r
    rw [r]
    rfl
  | cons d ds =>
    rw [Rvs] at r
    obtain ⟨v, q, e, _, _⟩ := r
    rw [e]
    rfl
def truO : Option Ob → Option Bool
  | some (.lst xs) => some (!xs.isEmpty)
  | some (.dk xs) => some (!xs.isEmpty)
  | _ => none
def truthOf (d : D) (S : Sto) : Option Bool := match d with
  | .non => some false
  | .bl b => some b
  | .int i => some (i != 0)
  | .str x => if x.length ≤ sizeLine then some ((x.length : Int) != 0) else none
  | .tup xs => some (!xs.isEmpty)
  | .obj n => truO S[n]?
  | _ => none
theorem truth_at {w : Wo} (ok : w.Ok K mg) {d : D} {v : V} {k : Bool} (r : Rv K mg w d v) (h : truthOf d w.S = some k) : TruV K v w.H k := by
  cases d with
  | non => rw [r.non]; exact (Option.some.inj h).symm
  | bl b => rw [r.bl]; exact (Option.some.inj h).symm
  | int i => rw [r.int]; exact (Option.some.inj h).symm
  | str x =>
    rw [r.str]
    have h : (if x.length ≤ sizeLine then some ((x.length : Int) != 0) else none) = some k := h
    by_cases hl : x.length ≤ sizeLine
    · rw [if_pos hl] at h
      exact ⟨hl, (Option.some.inj h).symm⟩
    · rw [if_neg hl] at h
      cases h
  | tup xs =>
    obtain ⟨a, vs, rfl, t, r2⟩ := r.tup
    refine .inr (.inl ⟨vs, t, ?_⟩)
    rw [r2.empty]
    exact (Option.some.inj h).symm
  | obj n =>
    obtain ⟨_, rfl⟩ := r.obj
    have h : truO w.S[n]? = some k := h
    cases e : w.S[n]? with
    | none => rw [e] at h; cases h
    | some o =>
      rw [e] at h
      have ro := ok.has n o e
      cases o with
      | lst xs =>
        obtain ⟨vs, hv, r2⟩ := ro
        refine .inl ⟨vs, SqL.of hv, ?_⟩
        rw [r2.empty]
        exact (Option.some.inj h).symm
      | dk kvs =>
        obtain ⟨vs, hv, r2⟩ := ro
        refine .inr (.inr ⟨vs, hv, ?_⟩)
        have e2 : vs.isEmpty = kvs.isEmpty := by
          cases kvs with
          | nil => have z : vs = [] := r2; rw [z]; rfl
          | cons p ps => obtain ⟨v, q, z, _⟩ := r2; rw [z]; rfl
        rw [e2]
        exact (Option.some.inj h).symm
      | dt kvs => cases h
      | ins C fs => cases h
  | _ => cases h
def truR (S : Sto) : Option Bool → Res Bool
  | some b => .ok b S
  | none => .bad
def dTru (d : D) (S : Sto) : Res Bool := truR S (truthOf d S)
def eTru (da : DE) (ρ : Env) (S : Sto) : Res Bool := (da ρ S).bind dTru
theorem lt_truth {e : Expr} {da : DE} (h : PE X e (LE X.K X.mg W da)) (he : ∀ whole, isTrue e X.env whole = (do let v ← whole; standAt e.pos; holding [v] (truthy v))) : PT X e (LT X.K X.mg W (eTru da)) := (pt_truth h he).imp fun σ H Q h => by
  obtain ⟨w, ok, rfl, ρ, rr, h⟩ := h
  refine ⟨w, ok, rfl, ρ, rr, Fin.bind (R' := Rb) h fun w1 x v le1 ok1 r1 h1 => ?_⟩
  unfold dTru at h1
  cases e2 : truthOf x w1.S with
  | none => rw [e2] at h1; exact h1.elim
  | some k =>
    rw [e2] at h1
    exact ⟨k, truth_at ok1 r1 e2, Fin.now h1 ok1 rfl⟩
end

/-! ## == of two lists of scalars that are equal -/
section
variable {K : PySem.W.Frag} {mg : Str → Option Value} {X : Cx} {W : WX}
def eqLR (S : Sto) : Option (List V) → Option (List V) → Res D
  | some a, some b => if a = b then .ok (.bl true) S else .bad
  | _, _ => .bad
def sclOf (S : Sto) (n : Nat) : Option (List V) := (lstOf S n).bind scs
def dEqL : D → D → Sto → Res D
  | .obj n, .obj m, S => eqLR S (sclOf S n) (sclOf S m)
  | _, _, _ => .bad
theorem paired_same {E : V → V → Prop} : ∀ {xs : List V}, (∀ x ∈ xs, E x x) → Paired E xs xs
  | [], _ => .nil
  | x :: xs, h => .cons (h x List.mem_cons_self) (paired_same fun y hy => h y (List.mem_cons_of_mem _ hy))
theorem sc_flatB {d : D} {v : V} (e : d.sc = some v) : flatB v = true := by
  cases d <;> first
    | (rw [← Option.some.inj e]; rfl)
    | exact absurd e (by intro z; cases z)
theorem scs_flatB : ∀ {ds : List D} {us : List V}, scs ds = some us → ∀ x ∈ us, flatB x = true
  | [], us, e, x, hx => by
    rw [← Option.some.inj e] at hx
    cases hx
  | d :: ds, us, e, x, hx => by
    unfold scs at e
    cases e2 : d.sc with
    | none => rw [e2] at e; cases e
    | some v =>
      cases e3 : scs ds with
      | none => rw [e2, e3] at e; cases e
      | some vs =>
        rw [e2, e3] at e
        rw [← Option.some.inj e] at hx
        rcases List.mem_cons.mp hx with rfl | hx
        · exact sc_flatB e2
        · exact scs_flatB e3 x hx
theorem o_eqL : Op2 K mg (rEqV K) dEqL := by
  intro w a b v u Q E ok ra rb h
  cases a with
  | obj n =>
    cases b with
    | obj m =>
      have h : Fin K mg w (Rv K mg) (eqLR w.S (sclOf w.S n) (sclOf w.S m)) Q E := h
      cases e1 : sclOf w.S n with
      | none => rw [e1] at h; exact h.elim
      | some xs =>
        cases e2 : sclOf w.S m with
        | none => rw [e1, e2] at h; exact h.elim
        | some ys =>
          rw [e1, e2] at h
          have h5 : Fin K mg w (Rv K mg) (if xs = ys then .ok (.bl true) w.S else .bad) Q E := h
          by_cases he : xs = ys
          · rw [if_pos he] at h5
            subst he
            obtain ⟨l1, g1, g2⟩ := Option.bind_eq_some_iff.mp e1
            obtain ⟨l2, g3, g4⟩ := Option.bind_eq_some_iff.mp e2
            obtain ⟨vs, t1, r1⟩ := lst_at ok g1
            obtain ⟨us, t2, r2⟩ := lst_at ok g3
            have q1 := r1.sc g2
            have q2 := r2.sc g4
            subst q1
            subst q2
            obtain ⟨_, rfl⟩ := ra.obj
            obtain ⟨_, rfl⟩ := rb.obj
            have fl := scs_flatB g2
            refine ⟨1, by decide, .inl ⟨_, _, _, _, rfl, rfl, t1, t2, paired_same fun x hx => .inl ⟨rfl, ?_⟩⟩, h5.now ok mk_bl⟩
            exact fl x hx
          · rw [if_neg he] at h5
            exact h5.elim
    | _ => exact h.elim
  | _ => cases b <;> exact h.elim
end

/-! ## all, any, sorted of a list -/
section
variable {K : PySem.W.Frag} {mg : Str → Option Value} {X : Cx} {W : WX}
def asBools : List D → Option (List Bool)
  | [] => some []
  | .bl b :: ds => (asBools ds).map fun r => b :: r
  | _ => none
theorem Rvs.bools {w : Wo} : ∀ {ds : List D} {vs : List V} {bs : List Bool}, Rvs K mg w ds vs → asBools ds = some bs → vs = bs.map V.bl
  | [], vs, bs, r, e => by
    rw [Rvs] at r
    rw [r, ← Option.some.inj e]
    rfl
  | d :: ds, vs, bs, r, e => by
    rw [Rvs] at r
    obtain ⟨v, q, e1, r1, r2⟩ := r
    cases d with
    | bl b =>
      obtain ⟨cs, e2, e3⟩ := Option.map_eq_some_iff.mp e
      rw [e1, r1.bl, Rvs.bools r2 e2, ← e3]
      rfl
    | _ => cases e
def boolsOf (d : D) (S : Sto) : Option (List Bool) := match d with
  | .obj n => (lstOf S n).bind asBools
  | _ => none
theorem bools_at {w : Wo} (ok : w.Ok K mg) {d : D} {v : V} {bs : List Bool} (r : Rv K mg w d v) (h : boolsOf d w.S = some bs) : ∃ p, v = .ref p ∧ SqL K w.H p (bs.map V.bl) := by
  cases d with
  | obj n =>
    obtain ⟨_, e⟩ := r.obj
    obtain ⟨xs, e1, e2⟩ := Option.bind_eq_some_iff.mp h
    obtain ⟨vs, t, r2⟩ := lst_at ok e1
    rw [r2.bools e2] at t
    exact ⟨_, e, t⟩
  | _ => cases h
def boolR (f : List Bool → Bool) (S : Sto) : Option (List Bool) → Res D
  | some bs => .ok (.bl (f bs)) S
  | none => .bad
def dAll : DF
  | [d], S => boolR (fun bs => bs.all id) S (boolsOf d S)
  | _, _ => .bad
def dAny : DF
  | [d], S => boolR (fun bs => bs.any id) S (boolsOf d S)
  | _, _ => .bad
theorem o_all : Opn K mg (rAll K) dAll := by
  intro w ds vs Q E ok r h
  unfold dAll at h
  split at h
  · obtain ⟨v, rfl, r1⟩ := r.one
    rename_i d
    cases e : boolsOf d w.S with
    | none => rw [e] at h; exact h.elim
    | some bs =>
      rw [e] at h
      obtain ⟨p, rfl, t⟩ := bools_at ok r1 e
      exact ⟨p, bs, rfl, t, h.now ok mk_bl⟩
  · exact h.elim
theorem o_any : Opn K mg (rAny K) dAny := by
  intro w ds vs Q E ok r h
  unfold dAny at h
  split at h
  · obtain ⟨v, rfl, r1⟩ := r.one
    rename_i d
    cases e : boolsOf d w.S with
    | none => rw [e] at h; exact h.elim
    | some bs =>
      rw [e] at h
      obtain ⟨p, rfl, t⟩ := bools_at ok r1 e
      exact ⟨p, bs, rfl, t, h.now ok mk_bl⟩
  · exact h.elim
/-- the numbers in ascending order -/
noncomputable def sortI (ns : List Int) : List Int := ns.mergeSort (fun a b => decide (a ≤ b))
theorem sortI_is (ns ms : List Int) (h : ms.Perm ns) (o : ms.Pairwise (· ≤ ·)) : ms = sortI ns := by
  have p : (sortI ns).Perm ns := List.mergeSort_perm _ _
  have s : (sortI ns).Pairwise (· ≤ ·) := by
    have := List.pairwise_mergeSort (le := fun a b : Int => decide (a ≤ b)) (by intro a b c; simp; omega) (by intro a b; simp; omega) ns
    exact this.imp fun h => by simpa using h
  exact List.Perm.eq_of_pairwise (fun a b _ _ h1 h2 => Int.le_antisymm h1 h2) o s (h.trans p.symm)
noncomputable def sortR (S : Sto) : Option (List Int) → Res D
  | some ns => if ns.length < 64 then mkLst ((sortI ns).map D.int) S else .bad
  | none => .bad
noncomputable def dSorted : DF
  | [.obj n], S => sortR S ((lstOf S n).bind asInts)
  | _, _ => .bad
theorem ints_rvs {w : Wo} : ∀ ns : List Int, Rvs K mg w (ns.map D.int) (ns.map V.int)
  | [] => Rvs.nil
  | n :: ns => Rvs.cons (by rw [Rv]) (ints_rvs ns)
theorem o_sorted : Opn K mg (rSorted K) dSorted := by
  intro w ds vs Q E ok r h
  unfold dSorted at h
  split at h
  · obtain ⟨v, rfl, r1⟩ := r.one
    rename_i n
    cases e : (lstOf w.S n).bind asInts with
    | none => rw [e] at h; exact h.elim
    | some ns =>
      rw [e] at h
      have h : Fin K mg w (Rv K mg) (if ns.length < 64 then mkLst ((sortI ns).map D.int) w.S else .bad) Q E := h
      by_cases hl : ns.length < 64
      · rw [if_pos hl] at h
        obtain ⟨_, rfl⟩ := r1.obj
        obtain ⟨xs, e1, e2⟩ := Option.bind_eq_some_iff.mp e
        obtain ⟨us, t, r2⟩ := lst_at ok e1
        rw [r2.ints e2] at t
        refine ⟨_, ns, rfl, t, hl, fun ms p hp ho hn => ?_⟩
        rw [sortI_is ns ms hp ho]
        exact h.newLst ok hn (ints_rvs _)
      · rw [if_neg hl] at h
        exact h.elim
  · exact h.elim
end

/-! ## {k: v, ..} -/
section
variable {K : PySem.W.Frag} {mg : Str → Option Value} {X : Cx} {W : WX}
def evP3 (a b : D) (l : List (D × D)) (S : Sto) : Res (List (D × D)) := .ok ((a, b) :: l) S
def evP2 (rest : Sto → Res (List (D × D))) (a b : D) (S : Sto) : Res (List (D × D)) := (rest S).bind (evP3 a b)
def evP1 (v : DE) (ρ : Env) (rest : Sto → Res (List (D × D))) (a : D) (S : Sto) : Res (List (D × D)) := (v ρ S).bind (evP2 rest a)
def evP : List (DE × DE) → Env → Sto → Res (List (D × D))
  | [], _, S => .ok [] S
  | q :: r, ρ, S => (q.1 ρ S).bind (evP1 q.2 ρ (evP r ρ))
def Rps (K : PySem.W.Frag) (mg : Str → Option Value) (w : Wo) : List (D × D) → List (V × V) → Prop
  | [], vs => vs = []
  | p :: ps, vs => ∃ v u r, vs = (v, u) :: r ∧ Rv K mg w p.1 v ∧ Rv K mg w p.2 u ∧ Rps K mg w ps r
theorem Rps.up {w w' : Wo} (ok : w.Ok K mg) (h : w.Le w') : ∀ {ps : List (D × D)} {vs : List (V × V)}, Rps K mg w ps vs → Rps K mg w' ps vs
  | [], vs, r => r
  | p :: ps, vs, r => by
    obtain ⟨v, u, q, e, r1, r2, r3⟩ := r
    exact ⟨v, u, q, e, Rv.up ok h _ v r1, Rv.up ok h _ u r2, Rps.up ok h r3⟩
def keysD : List (D × D) → Option (List (Key × D))
  | [] => some []
  | p :: ps => match keyOf p.1, keysD ps with
    | some k, some r => some ((k, p.2) :: r)
    | _, _ => none
theorem keys_at {w : Wo} : ∀ {ps : List (D × D)} {vs : List (V × V)} {kds : List (Key × D)}, Rps K mg w ps vs → keysD ps = some kds → ∃ kvs, vs = kvs.map (fun kv => (kV kv.1, kv.2)) ∧ Rkv K mg w kds kvs
  | [], vs, kds, r, e => by
    have z : vs = [] := r
    rw [← Option.some.inj e, z]
    exact ⟨[], rfl, rfl⟩
  | p :: ps, vs, kds, r, e => by
    obtain ⟨v, u, q, e1, r1, r2, r3⟩ := r
    unfold keysD at e
    cases e2 : keyOf p.1 with
    | none => rw [e2] at e; cases e
    | some k =>
      cases e3 : keysD ps with
      | none => rw [e2, e3] at e; cases e
      | some rest =>
        rw [e2, e3] at e
        obtain ⟨kvs, e4, e5⟩ := keys_at r3 e3
        rw [← Option.some.inj e, e1, r1.key e2, e4]
        exact ⟨(k, u) :: kvs, rfl, u, kvs, rfl, r2, e5⟩
def mergeD (kds more : List (Key × D)) : List (Key × D) := more.foldl (fun acc kv => putD acc kv.1 kv.2) kds
theorem Rkv.merge {w : Wo} : ∀ {more : List (Key × D)} {ms : List (Key × V)} {kds : List (Key × D)} {kvs : List (Key × V)}, Rkv K mg w more ms → Rkv K mg w kds kvs → Rkv K mg w (mergeD kds more) (mergeK kvs ms)
  | [], ms, kds, kvs, r, q => by
    have z : ms = [] := r
    rw [z]
    exact q
  | p :: ps, ms, kds, kvs, r, q => by
    obtain ⟨v, rest, e, r1, r2⟩ := r
    rw [e]
    show Rkv K mg w (mergeD (putD kds p.1 p.2) ps) (mergeK (putK kvs p.1 v) rest)
    exact Rkv.merge r2 (q.put r1)
theorem i_pairs {σ : St} {E : Str → List (Str × D) → Wo → Prop} {ρ : Env} (hE : E = XW K mg W σ) : ∀ (ps : List (DE × DE)) (w : Wo) (Q : List (V × V) → Hp → Prop), w.Ok K mg → Rσ K mg w ρ σ → Fin K mg w (Rps K mg) (evP ps ρ w.S) Q E → tPairs (ps.map fun q => (LE K mg W q.1, LE K mg W q.2)) σ w.H Q
  | [], w, Q, ok, rr, h => h w [] (Wo.Le.refl w) ok rfl rfl
  | q :: ps, w, Q, ok, rr, h => by
    subst hE
    have h : Fin K mg w (Rps K mg) ((q.1 ρ w.S).bind (evP1 q.2 ρ (evP ps ρ))) Q (XW K mg W σ) := h
    refine ⟨w, ok, rfl, ρ, rr, Fin.bind (R' := Rps K mg) h fun w1 a v le1 ok1 r1 h1 => ?_⟩
    have rr1 := rr.up ok le1
    refine ⟨w1, ok1, rfl, ρ, rr1, Fin.bind (R' := Rps K mg) h1 fun w2 b u le2 ok2 r2 h2 => ?_⟩
    have rr2 := rr1.up ok1 le2
    refine i_pairs rfl ps w2 _ ok2 rr2 (Fin.bind (R' := Rps K mg) h2 fun w3 l vs le3 ok3 r3 h3 => ?_)
    exact h3 w3 ((v, u) :: vs) (Wo.Le.refl w3) ok3 rfl ⟨v, u, vs, rfl, (r1.up ok1 le2).up ok2 le3, r2.up ok2 le3, r3⟩
def dispR (n : Nat) (S : Sto) : Option Ob → Option (List (Key × D)) → Res D
  | some (.dk []), some kds => if kds.length ≤ 15 then .ok (.obj n) (S.set n (.dk (mergeD [] kds))) else .bad
  | _, _ => .bad
def dispK (n : Nat) (ps : List (D × D)) (S : Sto) : Res D := dispR n S S[n]? (keysD ps)
def eDisp (ps : List (DE × DE)) (ρ : Env) (S : Sto) : Res D := (evP ps ρ (S ++ [.dk []])).bind (dispK S.length)
theorem l_disp {pos : Pos} {keys : List (Option Expr)} {values : List Expr} {ps : List (DE × DE)} (h : PPs X pos keys values (ps.map fun q => (LE X.K X.mg W q.1, LE X.K X.mg W q.2))) (hall : keys.all (·.isSome) = true) (hl : keys.length = values.length) (h0 : keys ≠ []) (h15 : keys.length ≤ 15) :
    PE X (.Dict keys values pos) (LE X.K X.mg W (eDisp ps)) := (pe_disp h hall hl h0 h15).imp fun σ H Q h => by
  obtain ⟨w, ok, rfl, ρ, rr, h⟩ := h
  intro p hp
  have le := Wo.add_le (o := .dk []) (u := .dK []) hp
  have ok1 : (w.add p (.dk []) (.dK [])).Ok X.K X.mg := Wo.add_ok ok hp ⟨[], upd_same, rfl⟩
  have hn : (w.add p (.dk []) (.dK [])).S.length = w.S.length + 1 := by show (w.S ++ [Ob.dk []]).length = _; rw [List.length_append]; rfl
  have h : Fin X.K X.mg w (Rv X.K X.mg) ((evP ps ρ (w.add p (.dk []) (.dK [])).S).bind (dispK w.S.length)) Q (XW X.K X.mg W σ) := h
  have h : Fin X.K X.mg (w.add p (.dk []) (.dK [])) (Rv X.K X.mg) ((evP ps ρ (w.add p (.dk []) (.dK [])).S).bind (dispK w.S.length)) Q (XW X.K X.mg W σ) := h.up ok1 le
  refine i_pairs rfl ps (w.add p (.dk []) (.dK [])) _ ok1 (rr.up ok le) (Fin.bind (R' := Rv X.K X.mg) h fun w2 l vs le2 ok2 r2 h2 => ?_)
  have hm : w2.m w.S.length = p := by rw [le2.ag _ (by omega)]; exact Wo.add_m
  have hlt : w.S.length < w2.S.length := Nat.lt_of_lt_of_le (by omega) le2.len
  unfold dispK at h2
  cases e1 : w2.S[w.S.length]? with
  | none => rw [e1] at h2; exact h2.elim
  | some o =>
    cases e2 : keysD l with
    | none =>
      rw [e1, e2] at h2
      cases o with
      | dk kvs => cases kvs <;> exact h2.elim
      | _ => exact h2.elim
    | some kds =>
      rw [e1, e2] at h2
      cases o with
      | dk kvs =>
        cases kvs with
        | cons a b => exact h2.elim
        | nil =>
          have h2 : Fin X.K X.mg w2 (Rv X.K X.mg) (if kds.length ≤ 15 then .ok (.obj w.S.length) (w2.S.set w.S.length (.dk (mergeD [] kds))) else .bad) Q (XW X.K X.mg W σ) := h2
          by_cases hk : kds.length ≤ 15
          · rw [if_pos hk] at h2
            obtain ⟨us, hv, r0⟩ := ok2.has _ _ e1
            have z : us = [] := r0
            subst z
            rw [hm] at hv
            obtain ⟨kvs, e3, r3⟩ := keys_at r2 e2
            have ln := Rkv.len r3
            refine ⟨hv, kvs, e3, by omega, ?_⟩
            have le4 := Wo.put_le (w := w2) (o := .dk (mergeD [] kds)) (u := .dK (mergeK [] kvs)) hlt
            have r4 : Rkv X.K X.mg w2 (mergeD [] kds) (mergeK [] kvs) := Rkv.merge r3 rfl
            have ok4 : (w2.put w.S.length (.dk (mergeD [] kds)) (.dK (mergeK [] kvs))).Ok X.K X.mg := Wo.put_ok ok2 hlt ⟨_, upd_same, r4.up ok2 le4⟩
            have fin := h2 (w2.put w.S.length (.dk (mergeD [] kds)) (.dK (mergeK [] kvs))) (.ref p) le4 ok4 rfl (by
              rw [Rv]
              exact ⟨by show _ < (w2.S.set _ _).length; rw [List.length_set]; exact hlt, by rw [← hm]; rfl⟩)
            have eH : (w2.put w.S.length (.dk (mergeD [] kds)) (.dK (mergeK [] kvs))).H = upd w2.H p (.dK (mergeK [] kvs)) := by rw [← hm]; rfl
            rw [eH] at fin
            exact fin
          · rw [if_neg hk] at h2
            exact h2.elim
      | _ => exact h2.elim
end

/-! ## except X as e: what is said of e -/
section
variable {K : PySem.W.Frag} {mg : Str → Option Value} {X : Cx} {W : WX}
def tP (P : St → Prop) (t : TE) : TE := fun σ H Q => P σ ∧ t σ H Q
def sP (P : St → Prop) (t : TS) : TS := fun D' σ H => P σ ∧ t D' σ H
variable {P : St → Prop} {a b e : Expr} {rest : List Expr} {pos p : Pos} {da db : DE}
theorem lp_of {t : TE} (h : PE X e t) : PE X e (tP P t) := h.imp fun _ _ _ z => z.2
theorem lp_one {op} {t : TE} (h : PE X a t) : PE X (.BoolOp op [a] pos) t := pe_one h
theorem lp_and (ha : PE X a (tP P (LE X.K X.mg W da))) (hb : PE X (.BoolOp .And (b :: rest) pos) (tP P (LE X.K X.mg W db))) : PE X (.BoolOp .And (a :: b :: rest) pos) (tP P (LE X.K X.mg W (eAndV da db))) := (pe_and ha hb).imp fun σ H Q z => by
  refine ⟨z.1, (i_andV z.2).monoQ fun v H1 q => ?_⟩
  obtain ⟨c, e1, q⟩ := q
  refine ⟨c, e1, ?_⟩
  cases c with
  | true => exact iteT ⟨z.1, q⟩
  | false => exact iteF q
theorem lp_or (ha : PE X a (tP P (LE X.K X.mg W da))) (hb : PE X (.BoolOp .Or (b :: rest) pos) (tP P (LE X.K X.mg W db))) : PE X (.BoolOp .Or (a :: b :: rest) pos) (tP P (LE X.K X.mg W (eOrV da db))) := (pe_or ha hb).imp fun σ H Q z => by
  refine ⟨z.1, (i_orV z.2).monoQ fun v H1 q => ?_⟩
  obtain ⟨c, e1, q⟩ := q
  refine ⟨c, e1, ?_⟩
  cases c with
  | true => exact iteT q
  | false => exact iteF ⟨z.1, q⟩
theorem lp_not (ha : PE X a (tP P (LE X.K X.mg W da))) : PE X (.UnaryOp .Not a pos) (tP P (LE X.K X.mg W (eNotV da))) := (pe_not ha).imp fun σ H Q z => ⟨z.1, i_notV z.2⟩
theorem lp_ret (he : PE X e (tP P (LE X.K X.mg W da))) : PS X (.Return (some e) pos) (sP P (LS X.K X.mg W (dRet da))) := (ps_ret he).imp fun D' σ H z => ⟨z.1, i_ret z.2⟩
/-- a caught error at slot i -/
def HoldsE (i : Nat) (x : Addr) : St → Prop := fun σ => σ[i]? = some (some (.ref x))
/-- what isinstance says of an error of class c: a table -/
abbrev IsTab := List (Str × Bool)
def isOk (K : PySem.W.Frag) (mg : Str → Option Value) (cv : Value) (m : IsTab) : Prop := ∀ x b, m.lookup x = some b → ∀ C, mg x = some (.ref C) → ExcC K C ∧ PySem.W.kitOne K (.ref C) cv = some b
def eIsE (o : Option Bool) (_ : Env) (S : Sto) : Res D := match o with
  | some b => .ok (.bl b) S
  | none => .bad
theorem lp_isE {x0 : Addr} {oe : Obj} {cls : Value} {d : Option Addr} {pn : List (Addr × Obj)} {i : Nat} {n y c : Str} {C : Addr} {cv : Value} {v0 : V} {m : IsTab} {p1 p2 p3 pos : Pos}
    (hz : Zc cls d oe) (hf : ∃ vs, oe.data = .fields vs) (ec : cls = .ref C) (ed : d = none) (gC : X.mg c = some (.ref C)) (hm : isOk X.K X.mg cv m) (hy : PE (X.suite x0 ((x0, oe) :: pn)) (.Name y p2) (tC v0)) (hv0 : ∀ u, RelV v0 u → u = cv)
    (hN : X.N[i]? = some n) (hv : Vis X.env.scope n) (hg : Gl X "isinstance") (zb : X.mg "isinstance" = none) (hdb : (n == ("__debug__" : Str)) = false := by decide) (hcd : (n == ("__classdict__" : Str)) = false := by decide) (he : starEach [.Name n p1, .Name y p2] X.env = (false, eval (.Name n p1) X.env) :: starEach [.Name y p2] X.env := by rfl) :
    PE (X.suite x0 ((x0, oe) :: pn)) (.Call (.Name "isinstance" p3) [.Name n p1, .Name y p2] [] pos) (tP (HoldsE i x0) (LE X.K X.mg W (eIsE (m.lookup c)))) := by
  subst ec ed
  cases hl : m.lookup c with
  | none =>
    refine ⟨fun pins s σ H Q I h => ?_⟩
    obtain ⟨_, w, ok, e1, ρ, rr, h⟩ := h
    exact h.elim
  | some b0 =>
    obtain ⟨ex, kit⟩ := hm c b0 hl C gC
    refine (pe_callB (call_isE ex hz hf) hg zb PyProof.Rows.boot_isinstance (pa_cons (pe_var hN hv hdb hcd) (pa_cons hy pa_nil)) (by decide) (by decide) he).imp fun σ H Q z => ?_
    obtain ⟨hσ, w, ok, rfl, ρ, rr, h⟩ := z
    exact ⟨.ref x0, hσ, v0, cv, b0, rfl, hv0, kit, h.now ok mk_bl⟩
/-! ### the statement -/
abbrev DSuite := Str → DS
def tryA (suite : DSuite) (i : Nat) (c : Str) (fs : List (Str × D)) (ρ' : Env) (S' : Sto) : Option Bool → RS
  | some true => if i < ρ'.length then suite c (ρ'.set i none) S' else .bad
  | some false => .exc c fs ρ' S'
  | none => .bad
def tryAR (m : Mat) (i : Nat) (suite : DSuite) : RS → RS
  | .exc c [] ρ' S' => tryA suite i c [] ρ' S' (m.lookup c)
  | .exc _ _ _ _ => .bad
  | .nx ρ' S' => .nx ρ' S'
  | .rt d S' => .rt d S'
  | .bk ρ' S' => .bk ρ' S'
  | .ct ρ' S' => .ct ρ' S'
  | .bad => .bad
def dTryAs (m : Mat) (i : Nat) (body : DS) (suite : DSuite) (ρ : Env) (S : Sto) : RS := tryAR m i suite (body ρ S)
/-- the suite's promise: of the class that was caught -/
def sufTS (K : PySem.W.Frag) (mg : Str → Option Value) (i : Nat) (suite : DSuite) (x0 : Addr) (cls : Value) (d : Option Addr) : TS := fun D' σ H => ∃ c C, mg c = some (.ref C) ∧ cls = .ref C ∧ d = none ∧ sP (HoldsE i x0) (LS K mg W0 (suite c)) D' σ H
theorem pss_suf {X' : Cx} {i : Nat} {suite : DSuite} {x0 : Addr} {cls : Value} {d : Option Addr} {sts : List Stmt} (h : ∀ c C, X'.mg c = some (.ref C) → cls = .ref C → d = none → PSs X' sts (sP (HoldsE i x0) (LS X'.K X'.mg W0 (suite c)))) : PSs X' sts (sufTS X'.K X'.mg i suite x0 cls d) := by
  refine ⟨fun pins s σ H D' I z => ?_⟩
  obtain ⟨c, C, g, e1, e2, z⟩ := z
  exact (h c C g e1 e2).run pins s σ H D' I z
/-- a suite that ends by a return -/
def Rets (suite : DSuite) : Prop := ∀ c ρ S, (∃ d S', suite c ρ S = .rt d S') ∨ suite c ρ S = .bad
theorem i_tryAs {cv : Value} {m : Mat} {i : Nat} {body : DS} {suite : DSuite} (hm : matOk K mg cv m) (hs : Rets suite) {D' : Ends} {σ : St} {H : Hp}
    (h : LS K mg W (dTryAs m i body suite) D' σ H) : LS K mg (wAs K cv i (fun a cls d => sufTS K mg i suite a cls d) W D') body D' σ H := by
  obtain ⟨w, ok, rfl, ρ, rr, h⟩ := h
  refine ⟨w, ok, rfl, ρ, rr, ?_⟩
  unfold dTryAs at h
  cases e : body ρ w.S with
  | exc c fs ρ' S' =>
    rw [e] at h
    cases fs with
    | cons a b => exact h.elim
    | nil =>
      have h : FinS K mg W w (tryA suite i c [] ρ' S' (m.lookup c)) D' := h
      intro w' σ' le ok' es rr' C d hC hd
      have hd : d = none := hd
      subst hd
      cases el : m.lookup c with
      | none => rw [el] at h; exact h.elim
      | some b =>
        rw [el] at h
        refine ⟨b, hm c b el C hC, fun hb a ha => ?_, fun hb => ?_⟩
        · subst hb
          have h : FinS K mg W w (if i < ρ'.length then suite c (ρ'.set i none) S' else .bad) D' := h
          by_cases hi : i < ρ'.length
          · rw [if_pos hi] at h
            refine ⟨c, C, hC, rfl, rfl, ?_, ?_⟩
            · show (σ'.set i (some (.ref a)))[i]? = some (some (.ref a))
              exact List.getElem?_set_self (by rw [Rσ.len rr']; exact hi)
            · refine ⟨w', ok', rfl, ρ'.set i none, Rσ.setN i _ rr', ?_⟩
              rw [es]
              have h2 := FinS.up ok' le h
              rcases hs c (ρ'.set i none) S' with ⟨d2, S2, e2⟩ | e2
              · rw [e2] at h2 ⊢
                exact h2
              · rw [e2] at h2
                exact h2.elim
          · rw [if_neg hi] at h
            exact h.elim
        · subst hb
          exact h w' σ' le ok' es rr' C none hC rfl
  | nx ρ2 S2 => rw [e] at h; exact h
  | rt ρ2 S2 => rw [e] at h; exact h
  | bk ρ2 S2 => rw [e] at h; exact h
  | ct ρ2 S2 => rw [e] at h; exact h
  | bad => rw [e] at h; exact h
theorem ls_tryAs {x n : Str} {cv : Value} {m : Mat} {i : Nat} {body suite : List Stmt} {b₀ : Stmt} {np pos' pos : Pos} {tb : DS} {ts : DSuite} (hs : X.stack = X.env :: X.outer) (hf : X.env.frame = some X.env.locals) (hN : X.N.Nodup) (hi : X.N[i]? = some n) (hln : X.env.kindOf n = some .local) (hc : Names X x cv) (tk : Takes X W) (hm : matOk X.K X.mg cv m) (hr : Rets ts)
    (hb : ∀ (W2 : WX) (pn : List (Addr × Obj)) (xe : Value → Shared → Prop), Takes (X.tr pn xe) W2 → PassesOwn (model X.prog X.w) X.A X.env xe → PSs (X.tr pn xe) body (LS X.K X.mg W2 tb))
    (hsu : ∀ (a : Addr) (oe : Obj) (cls : Value) (d : Option Addr) (pn : List (Addr × Obj)), Zc cls d oe → (∃ vs, oe.data = .fields vs) → ∀ c C, X.mg c = some (.ref C) → cls = .ref C → d = none → PSs (X.suite a ((a, oe) :: pn)) (b₀ :: suite) (sP (HoldsE i a) (LS X.K X.mg W0 (ts c)))) :
    PS X (.Try body [.ExceptHandler (some (.Name x np)) (some n) (b₀ :: suite) pos'] [] [] pos) (LS X.K X.mg W (dTryAs m i tb ts)) :=
  (ps_try_as (tb := fun W2 => LS X.K X.mg W2 tb) (ts := fun a cls d => sufTS X.K X.mg i ts a cls d) hs hf hN hi hln hc tk hb (fun a oe cls d pn hz hf2 => pss_suf (X' := X.suite a ((a, oe) :: pn)) (hsu a oe cls d pn hz hf2))).imp fun D' σ H h => i_tryAs hm hr h
def retB : Res D → RS
  | .ok d S => .rt d S
  | _ => .bad
def dRetB (de : DE) (ρ : Env) (S : Sto) : RS := retB (de ρ S)
theorem rets_retB {de : Str → DE} : Rets (fun c => dRetB (de c)) := fun c ρ S => by
  show (∃ d S', retB (de c ρ S) = .rt d S') ∨ retB (de c ρ S) = .bad
  cases de c ρ S with
  | ok d S => exact .inl ⟨d, S, rfl⟩
  | exc c fs S => exact .inr rfl
  | bad => exact .inr rfl
theorem lp_retB (he : PE X e (tP P (LE X.K X.mg W da))) : PS X (.Return (some e) pos) (sP P (LS X.K X.mg W (dRetB da))) := (ps_ret he).imp fun D' σ H z => by
  obtain ⟨hσ, w, ok, rfl, ρ, rr, h⟩ := z
  refine ⟨hσ, w, ok, rfl, ρ, rr, ?_⟩
  have h : FinS X.K X.mg W w (retB (da ρ w.S)) D' := h
  cases e1 : da ρ w.S with
  | ok d S => rw [e1] at h; exact h
  | exc c fs S => rw [e1] at h; exact h.elim
  | bad => rw [e1] at h; exact h
theorem isOk_nil {cv : Value} : isOk K mg cv [] := fun _ _ h => nomatch h
theorem isOk_cons {cv : Value} {x : Str} {b : Bool} {m : IsTab} {C : Addr} (g : mg x = some (.ref C)) (ex : ExcC K C) (h : PySem.W.kitOne K (.ref C) cv = some b) (hm : isOk K mg cv m) : isOk K mg cv ((x, b) :: m) := by
  intro y b2 e C2 g2
  rw [List.lookup_cons] at e
  split at e
  · rename_i e3
    have e3 := eq_of_beq e3
    subst e3
    rw [g] at g2
    cases Option.some.inj g2
    exact ⟨ex, (Option.some.inj e) ▸ h⟩
  · exact hm y b2 e C2 g2
end

/-! ## sorted of a dict -/
section
open PySem PyProof.Rows PySem.Spec
variable {K : PySem.W.Frag} {mg : Str → Option Value}
def keyInts : List (Key × D) → Option (List Int)
  | [] => some []
  | (.inl i, _) :: r => (keyInts r).map (i :: ·)
  | (.inr _, _) :: _ => none
def keyStrs : List (Key × D) → Option (List Str)
  | [] => some []
  | (.inr i, _) :: r => (keyStrs r).map (i :: ·)
  | (.inl _, _) :: _ => none
theorem Rkv.kInts {w : Wo} : ∀ {ps : List (Key × D)} {vs : List (Key × V)} {ks : List Int}, Rkv K mg w ps vs → keyInts ps = some ks → vs.map (·.1) = ks.map Sum.inl
  | [], vs, ks, r, e => by
    have r : vs = [] := r
    have e : ks = [] := (Option.some.inj e).symm
    rw [r, e]
    rfl
  | (.inl i, d) :: ps, vs, ks, r, e => by
    obtain ⟨v, q, rfl, r1, r2⟩ := r
    have e : (keyInts ps).map (i :: ·) = some ks := e
    cases e2 : keyInts ps with
    | none => rw [e2] at e; cases e
    | some ms =>
      rw [e2] at e
      have e : i :: ms = ks := Option.some.inj e
      rw [← e, List.map_cons, List.map_cons, Rkv.kInts r2 e2]
  | (.inr i, d) :: ps, vs, ks, r, e => by cases e
theorem Rkv.kStrs {w : Wo} : ∀ {ps : List (Key × D)} {vs : List (Key × V)} {ks : List Str}, Rkv K mg w ps vs → keyStrs ps = some ks → vs.map (·.1) = ks.map Sum.inr
  | [], vs, ks, r, e => by
    have r : vs = [] := r
    have e : ks = [] := (Option.some.inj e).symm
    rw [r, e]
    rfl
  | (.inr i, d) :: ps, vs, ks, r, e => by
    obtain ⟨v, q, rfl, r1, r2⟩ := r
    have e : (keyStrs ps).map (i :: ·) = some ks := e
    cases e2 : keyStrs ps with
    | none => rw [e2] at e; cases e
    | some ms =>
      rw [e2] at e
      have e : i :: ms = ks := Option.some.inj e
      rw [← e, List.map_cons, List.map_cons, Rkv.kStrs r2 e2]
  | (.inl i, d) :: ps, vs, ks, r, e => by cases e
noncomputable def dSortedDI : DF
  | [.obj n], S => sortR S ((dkOf S n).bind keyInts)
  | _, _ => .bad
abbrev rSortedDI : List V → Hp → VK → Prop := fun xs H Q => ∃ (a : Addr) (kvs : List (Key × V)) (ks : List Int), xs = [.ref a] ∧ Rd H a (.dK kvs) ∧ kvs.map (·.1) = ks.map Sum.inl ∧ ks.length < 64 ∧
    ∀ (ys : List Int) (p : Addr), ys.Perm ks → ys.Pairwise (· ≤ ·) → H p = none → Q (.ref p) (upd H p (.lst (ys.map V.int)))
theorem o_sortedDI : Opn K mg rSortedDI dSortedDI := by
  intro w ds vs Q E ok r h
  unfold dSortedDI at h
  split at h
  · obtain ⟨v, rfl, r1⟩ := r.one
    rename_i n
    cases e : (dkOf w.S n).bind keyInts with
    | none => rw [e] at h; exact h.elim
    | some ns =>
      rw [e] at h
      have h : Fin K mg w (Rv K mg) (if ns.length < 64 then mkLst ((sortI ns).map D.int) w.S else .bad) Q E := h
      by_cases hl : ns.length < 64
      · rw [if_pos hl] at h
        obtain ⟨_, rfl⟩ := r1.obj
        obtain ⟨xs, e1, e2⟩ := Option.bind_eq_some_iff.mp e
        obtain ⟨e3, us, t, r2⟩ := dk_at ok e1
        refine ⟨_, us, ns, rfl, Rd.of t, r2.kInts e2, hl, fun ms p hp ho hn => ?_⟩
        rw [sortI_is ns ms hp ho]
        exact h.newLst ok hn (ints_rvs _)
      · rw [if_neg hl] at h
        exact h.elim
  · exact h.elim
/-- the texts in ascending order -/
def leS (a b : Str) : Bool := !ltCps b.cps.toList a.cps.toList
noncomputable def sortS (xs : List Str) : List Str := xs.mergeSort leS
theorem leS_iff (a b : Str) : leS a b = true ↔ a.cps.toList ≤ b.cps.toList := by
  unfold leS
  rw [ltCps_eq]
  simp
theorem str_cps {a b : Str} (h : a.cps.toList = b.cps.toList) : a = b := by
  cases a; cases b
  congr
  exact Array.toList_inj.mp h
theorem rising_pw : ∀ (p : Str) (l : List Str), risingS p l = true → (p :: l).Pairwise fun a b => leS a b = true
  | p, [], _ => List.pairwise_singleton _ _
  | p, x :: r, h => by
    have h : (leS p x && risingS x r) = true := h
    rw [Bool.and_eq_true] at h
    have ih := rising_pw x r h.2
    refine List.pairwise_cons.mpr ⟨fun y hy => ?_, ih⟩
    rcases List.mem_cons.mp hy with rfl | hy
    · exact h.1
    · have h2 := (List.pairwise_cons.mp ih).1 y hy
      rw [leS_iff] at h2 ⊢
      exact List.le_trans ((leS_iff _ _).mp h.1) h2
theorem sortS_is (xs ys : List Str) (h : ys.Perm xs) (o : sortedS ys = true) : ys = sortS xs := by
  have p : (sortS xs).Perm xs := List.mergeSort_perm _ _
  have s : (sortS xs).Pairwise fun a b => leS a b = true := List.pairwise_mergeSort (le := leS) (by
    intro a b c h1 h2
    rw [leS_iff] at *
    exact List.le_trans h1 h2) (by
    intro a b
    have := List.le_total a.cps.toList b.cps.toList
    rw [Bool.or_eq_true, leS_iff, leS_iff]
    exact this) xs
  have o2 : ys.Pairwise fun a b => leS a b = true := by
    cases ys with
    | nil => exact List.Pairwise.nil
    | cons y r => exact rising_pw y r o
  refine List.Perm.eq_of_pairwise (fun a b _ _ h1 h2 => ?_) o2 s (h.trans p.symm)
  rw [leS_iff] at h1 h2
  exact str_cps (List.le_antisymm h1 h2)
theorem strs_rvs {w : Wo} : ∀ ns : List Str, Rvs K mg w (ns.map D.str) (ns.map V.str)
  | [] => Rvs.nil
  | n :: ns => Rvs.cons (by rw [Rv]) (strs_rvs ns)
noncomputable def sortSR (S : Sto) : Option (List Str) → Res D
  | some ns => if ns.length < 64 then mkLst ((sortS ns).map D.str) S else .bad
  | none => .bad
noncomputable def dSortedDS : DF
  | [.obj n], S => sortSR S ((dkOf S n).bind keyStrs)
  | _, _ => .bad
abbrev rSortedDS : List V → Hp → VK → Prop := fun xs H Q => ∃ (a : Addr) (kvs : List (Key × V)) (ks : List Str), xs = [.ref a] ∧ Rd H a (.dK kvs) ∧ kvs.map (·.1) = ks.map Sum.inr ∧ ks.length < 64 ∧
    ∀ ys p, ys.Perm ks → sortedS ys = true → H p = none → Q (.ref p) (upd H p (.lst (ys.map V.str)))
theorem o_sortedDS : Opn K mg rSortedDS dSortedDS := by
  intro w ds vs Q E ok r h
  unfold dSortedDS at h
  split at h
  · obtain ⟨v, rfl, r1⟩ := r.one
    rename_i n
    cases e : (dkOf w.S n).bind keyStrs with
    | none => rw [e] at h; exact h.elim
    | some ns =>
      rw [e] at h
      have h : Fin K mg w (Rv K mg) (if ns.length < 64 then mkLst ((sortS ns).map D.str) w.S else .bad) Q E := h
      by_cases hl : ns.length < 64
      · rw [if_pos hl] at h
        obtain ⟨_, rfl⟩ := r1.obj
        obtain ⟨xs, e1, e2⟩ := Option.bind_eq_some_iff.mp e
        obtain ⟨e3, us, t, r2⟩ := dk_at ok e1
        refine ⟨_, us, ns, rfl, Rd.of t, r2.kStrs e2, hl, fun ms p hp ho hn => ?_⟩
        rw [sortS_is ns ms hp ho]
        exact h.newLst ok hn (strs_rvs _)
      · rw [if_neg hl] at h
        exact h.elim
  · exact h.elim
end

/-! ## enumerate, zip -/
section
variable {K : PySem.W.Frag} {mg : Str → Option Value} {W : WX}
def enumD (xs : List D) : List D := xs.mapIdx fun i d => .tup [.int ((i : Nat) : Int), d]
def toEnum : List D → Sto → Res Walked
  | [.obj n], S => match lstOf S n with
    | some xs => .ok (enumD xs, sameL n xs) S
    | none => .bad
  | [.kl xs], S => .ok (enumD xs, fun _ => True) S
  | _, _ => .bad
def wE (da : DA) (ρ : Env) (S : Sto) : Res Walked := (da ρ S).bind toEnum
theorem new_tup {w : Wo} (ok : w.Ok K mg) {T : Addr} (hT : w.H T = none) {ds : List D} {vs : List V} (r : Rvs K mg w ds vs) :
    ∃ w3 : Wo, w.Le w3 ∧ w3.Ok K mg ∧ w3.S = w.S ∧ w3.H = upd w.H T (.tup vs) ∧ Rv K mg w3 (.tup ds) (.ref T) := by
  refine ⟨w.heap (upd w.H T (.tup vs)), Wo.new_le hT, Wo.new_ok ok hT, rfl, rfl, ?_⟩
  rw [Rv]
  exact ⟨T, vs, rfl, SqT.of upd_same, Rvs.up ok (Wo.new_le hT) _ _ r⟩
theorem enum_get {xs : List D} {i : Nat} {d : D} (h : (enumD xs)[i]? = some d) : ∃ x, xs[i]? = some x ∧ d = .tup [.int ((i : Nat) : Int), x] := by
  unfold enumD at h
  rw [List.getElem?_mapIdx] at h
  obtain ⟨x, e1, e2⟩ := Option.map_eq_some_iff.mp h
  exact ⟨x, e1, e2.symm⟩
theorem enum_len {xs : List D} : (enumD xs).length = xs.length := by
  unfold enumD
  rw [List.length_mapIdx]
theorem io_enum {da : DA} : IOk K mg W (wE da) (iEnum K (LA K mg W da)) := by
  intro w ρ σ R ok rr h
  refine ⟨w, ok, rfl, ρ, rr, Fin.bind (R' := RI K mg) h fun w1 x v le1 ok1 r1 h1 => ?_⟩
  unfold toEnum at h1
  split at h1
  · rename_i n
    obtain ⟨z, rfl, rz⟩ := r1.one
    obtain ⟨hlt, rfl⟩ := rz.obj
    split at h1
    · rename_i xs e
      obtain ⟨vs, t, rv⟩ := lst_at ok1 e
      refine ⟨_, vs, rfl, t, Fin.now h1 ok1 ⟨e, fun w2 i d le ok2 e2 hi => ?_, fun w2 le ok2 e2 => ?_⟩⟩
      · obtain ⟨us, t2, rv2⟩ := lst_at ok2 (show lstOf w2.S n = some xs from e2)
        rw [le.ag n hlt] at t2
        obtain ⟨x, hx, rfl⟩ := enum_get hi
        obtain ⟨z, ez, rz⟩ := rv2.get hx
        refine ⟨⟨us, z, t2, ez⟩, fun y H' q => ?_⟩
        obtain ⟨T, x', rfl, hT, rfl, hall⟩ := q
        have e3 := (hall us t2).symm.trans ez
        rw [Option.some.inj e3]
        exact new_tup ok2 hT (Rvs.cons (mk_int) (Rvs.cons rz Rvs.nil))
      · obtain ⟨us, t2, rv2⟩ := lst_at ok2 (show lstOf w2.S n = some xs from e2)
        rw [le.ag n hlt] at t2
        exact ⟨us, t2, by rw [rv2.len, enum_len]; exact Nat.le_refl _⟩
    · exact h1.elim
  · rename_i xs
    obtain ⟨z, rfl, rz⟩ := r1.one
    obtain ⟨p, vs, rfl, t, rv⟩ := rz.kl
    refine ⟨_, vs, rfl, t.L, Fin.now h1 ok1 ⟨trivial, fun w2 i d le ok2 e2 hi => ?_, fun w2 le ok2 e2 => ?_⟩⟩
    · have t2 := (le.kl ok1 t).L
      obtain ⟨x, hx, rfl⟩ := enum_get hi
      obtain ⟨z, ez, rz⟩ := (rv.up ok1 le).get hx
      refine ⟨⟨vs, z, t2, ez⟩, fun y H' q => ?_⟩
      obtain ⟨T, x', rfl, hT, rfl, hall⟩ := q
      have e3 := (hall vs t2).symm.trans ez
      rw [Option.some.inj e3]
      exact new_tup ok2 hT (Rvs.cons (mk_int) (Rvs.cons rz Rvs.nil))
    · exact ⟨vs, (le.kl ok1 t).L, by rw [rv.len, enum_len]; exact Nat.le_refl _⟩
  · exact h1.elim
def zipD (xs ys : List D) : List D := List.zipWith (fun x y => .tup [x, y]) xs ys
theorem zip_get {xs ys : List D} {i : Nat} {d : D} (h : (zipD xs ys)[i]? = some d) : ∃ x y, xs[i]? = some x ∧ ys[i]? = some y ∧ d = .tup [x, y] := by
  unfold zipD at h
  rw [List.getElem?_zipWith] at h
  cases e1 : xs[i]? with
  | none => rw [e1] at h; simp at h
  | some x =>
    cases e2 : ys[i]? with
    | none => rw [e1, e2] at h; simp at h
    | some y =>
      rw [e1, e2] at h
      exact ⟨x, y, rfl, rfl, (Option.some.inj h).symm⟩
theorem zip_len {xs ys : List D} {us vs : List V} (h1 : us.length = xs.length) (h2 : vs.length = ys.length) : us.length ≤ (zipD xs ys).length ∨ vs.length ≤ (zipD xs ys).length := by
  unfold zipD
  rw [List.length_zipWith]
  omega
def toZip : List D → Sto → Res Walked
  | [.obj n, .obj m], S => match lstOf S n, lstOf S m with
    | some xs, some ys => .ok (zipD xs ys, fun S => sameL n xs S ∧ sameL m ys S) S
    | _, _ => .bad
  | [.tup xs, .tup ys], S => .ok (zipD xs ys, fun _ => True) S
  | _, _ => .bad
def wZ (da : DA) (ρ : Env) (S : Sto) : Res Walked := (da ρ S).bind toZip
theorem io_zip {da : DA} : IOk K mg W (wZ da) (RZ.iZipA K (LA K mg W da)) := by
  intro w ρ σ R ok rr h
  refine ⟨w, ok, rfl, ρ, rr, Fin.bind (R' := RI K mg) h fun w1 x v le1 ok1 r1 h1 => ?_⟩
  unfold toZip at h1
  split at h1
  · rename_i n m
    obtain ⟨z, z', rfl, rz, rz'⟩ := r1.two
    obtain ⟨hlt, rfl⟩ := rz.obj
    obtain ⟨hlt', rfl⟩ := rz'.obj
    split at h1
    · rename_i xs ys e e'
      obtain ⟨vs, t, rv⟩ := lst_at ok1 e
      obtain ⟨us, t', rv'⟩ := lst_at ok1 e'
      refine ⟨_, _, vs, us, rfl, .inl ⟨t, t', Fin.now h1 ok1 ⟨⟨e, e'⟩, fun w2 i d le ok2 e2 hi => ?_, fun w2 le ok2 e2 => ?_⟩⟩⟩
      · obtain ⟨as, t2, rv2⟩ := lst_at ok2 (show lstOf w2.S n = some xs from e2.1)
        obtain ⟨bs, t3, rv3⟩ := lst_at ok2 (show lstOf w2.S m = some ys from e2.2)
        rw [le.ag n hlt] at t2
        rw [le.ag m hlt'] at t3
        obtain ⟨x, y, hx, hy, rfl⟩ := zip_get hi
        obtain ⟨z, ez, rz⟩ := rv2.get hx
        obtain ⟨z', ez', rz'⟩ := rv3.get hy
        refine ⟨⟨as, bs, z, z', t2, t3, ez, ez'⟩, fun v H' q => ?_⟩
        obtain ⟨T, x', y', rfl, hT, rfl, hall, hall'⟩ := q
        rw [Option.some.inj ((hall as t2).symm.trans ez), Option.some.inj ((hall' bs t3).symm.trans ez')]
        exact new_tup ok2 hT (Rvs.cons rz (Rvs.cons rz' Rvs.nil))
      · obtain ⟨as, t2, rv2⟩ := lst_at ok2 (show lstOf w2.S n = some xs from e2.1)
        obtain ⟨bs, t3, rv3⟩ := lst_at ok2 (show lstOf w2.S m = some ys from e2.2)
        rw [le.ag n hlt] at t2
        rw [le.ag m hlt'] at t3
        exact ⟨as, bs, t2, t3, zip_len rv2.len rv3.len⟩
    · exact h1.elim
  · rename_i xs ys
    obtain ⟨z, z', rfl, rz, rz'⟩ := r1.two
    obtain ⟨p, vs, rfl, t, rv⟩ := rz.tup
    obtain ⟨p', us, rfl, t', rv'⟩ := rz'.tup
    refine ⟨_, _, vs, us, rfl, .inr ⟨t, t', Fin.now h1 ok1 ⟨trivial, fun w2 i d le ok2 e2 hi => ?_, fun w2 le ok2 e2 => ?_⟩⟩⟩
    · have t2 := le.tup ok1 t
      have t3 := le.tup ok1 t'
      obtain ⟨x, y, hx, hy, rfl⟩ := zip_get hi
      obtain ⟨z, ez, rz⟩ := (rv.up ok1 le).get hx
      obtain ⟨z', ez', rz'⟩ := (rv'.up ok1 le).get hy
      refine ⟨⟨vs, us, z, z', t2, t3, ez, ez'⟩, fun v H' q => ?_⟩
      obtain ⟨T, x', y', rfl, hT, rfl, hall, hall'⟩ := q
      rw [Option.some.inj ((hall vs t2).symm.trans ez), Option.some.inj ((hall' us t3).symm.trans ez')]
      exact new_tup ok2 hT (Rvs.cons rz (Rvs.cons rz' Rvs.nil))
    · exact ⟨vs, us, le.tup ok1 t, le.tup ok1 t', zip_len rv.len rv'.len⟩
  · exact h1.elim
end

/-! ## a starred part of a display -/
section
variable {K : PySem.W.Frag} {mg : Str → Option Value} {X : Cx} {W : WX} {e : Expr} {es : List Expr} {p : Pos}
def starA (xs ys : List D) (S2 : Sto) : Res (List D) := .ok (xs ++ ys) S2
def starS (da : DA) (ρ : Env) (S1 : Sto) : Option (List D) → Res (List D)
  | some xs => (da ρ S1).bind (starA xs)
  | none => .bad
def starK (da : DA) (ρ : Env) (d : D) (S1 : Sto) : Res (List D) := starS da ρ S1 (seqOf d S1)
def eStar (de : DE) (da : DA) (ρ : Env) (S : Sto) : Res (List D) := (de ρ S).bind (starK da ρ)
theorem i_star {de : DE} {da : DA} {σ : St} {H : Hp} {Q : List V → Hp → Prop} (h : LA K mg W (eStar de da) σ H Q) : StX.tStar K (LE K mg W de) (LA K mg W da) σ H Q := by
  obtain ⟨w, ok, rfl, ρ, rr, h⟩ := h
  refine ⟨w, ok, rfl, ρ, rr, h.bind fun w1 x v le1 ok1 r1 h1 => ?_⟩
  have h1 : Fin K mg w1 (Rvs K mg) (starS da ρ w1.S (seqOf x w1.S)) Q (XW K mg W σ) := h1
  cases e : seqOf x w1.S with
  | none => rw [e] at h1; exact h1.elim
  | some xs =>
    rw [e] at h1
    obtain ⟨q, vs, rfl, t, rv⟩ := seq_at ok1 r1 e
    refine ⟨q, vs, rfl, t.symm, w1, ok1, rfl, ρ, rr.up ok le1, Fin.bind (R' := Rvs K mg) h1 fun w2 ys us le2 ok2 r2 h2 => ?_⟩
    exact Fin.now h2 ok2 ((rv.up ok1 le2).append r2)
theorem la_star {de : DE} {da : DA} (he : PE X e (LE X.K X.mg W de)) (hr : PA X es (LA X.K X.mg W da)) (hs : starEach (.Starred e p :: es) X.env = (true, eval e X.env) :: starEach es X.env := by rfl) : PA X (.Starred e p :: es) (LA X.K X.mg W (eStar de da)) :=
  (StX.pa_star he hr hs).imp fun _ _ _ => i_star
end

theorem nox_isn {i : Nat} : ∀ (ρ : Env) (S : Sto) (c : Str) (fs : List (Str × D)) (ρ2 : Env) (S2 : Sto), dRet (eUn dIsN (eV i)) ρ S = .exc c fs ρ2 S2 → False := by
  intro ρ S c fs ρ2 S2 h
  have h : bindR retK ρ ((slotR S ρ[i]?).bind dIsN) = .exc c fs ρ2 S2 := h
  cases e : ρ[i]? with
  | none => rw [e] at h; cases h
  | some o =>
    cases o with
    | none => rw [e] at h; cases h
    | some d => rw [e] at h; cases d <;> cases h

/-! ## comparing truth values -/
section
variable {K : PySem.W.Frag} {mg : Str → Option Value} {X : Cx}
theorem op_ltB : OpR X (compareOp .Lt) (fun x y H Q => ∃ i j, x = .bl i ∧ y = .bl j ∧ Q (.bl (!i && j)) H) := by
  intro pins s σ H x y v u Q I rx ry h
  obtain ⟨i, j, rfl, rfl, q⟩ := h
  cases rx
  cases ry
  have g : Gives (Builtin.«int.__lt__» ⟨[.bool i, .bool j], []⟩) (.val (.bool (!i && j))) := by cases i <;> cases j <;> exact .of_eq rfl
  exact compareOp_gives (op := .Lt) (T := "bool") rfl rfl F.slot_bool_lt F.entry_int_lt (F.args_int_lt_2 _ _) g (fun x => nomatch x) (fin_bl I q rfl)
theorem op_leB : OpR X (compareOp .LtE) (fun x y H Q => ∃ i j, x = .bl i ∧ y = .bl j ∧ Q (.bl (!i || j)) H) := by
  intro pins s σ H x y v u Q I rx ry h
  obtain ⟨i, j, rfl, rfl, q⟩ := h
  cases rx
  cases ry
  have g : Gives (Builtin.«int.__le__» ⟨[.bool i, .bool j], []⟩) (.val (.bool (!i || j))) := by cases i <;> cases j <;> exact .of_eq rfl
  exact compareOp_gives (op := .LtE) (T := "bool") rfl rfl F.slot_bool_le F.entry_int_le (F.args_int_le_2 _ _) g (fun x => nomatch x) (fin_bl I q rfl)
def dRelA (p : Int → Int → Bool) (b : Bool → Bool → Bool) : D → D → Sto → Res D
  | .int i, .int j, S => .ok (.bl (p i j)) S
  | .bl i, .bl j, S => .ok (.bl (b i j)) S
  | _, _, _ => .bad
theorem o_relA (p : Int → Int → Bool) (b : Bool → Bool → Bool) : Op2 K mg (fun x y H Q => (rI0 fun i j => .bl (p i j)) x y H Q ∨ ∃ i j, x = .bl i ∧ y = .bl j ∧ Q (.bl (b i j)) H) (dRelA p b) := by
  intro w a b' v u Q E ok ra rb h
  unfold dRelA at h
  split at h
  · rw [ra.int, rb.int]
    exact .inl ⟨_, _, rfl, rfl, Fin.now h ok mk_bl⟩
  · rw [ra.bl, rb.bl]
    exact .inr ⟨_, _, rfl, rfl, Fin.now h ok mk_bl⟩
  · exact h.elim
def dLtA : D → D → Sto → Res D := dRelA (fun i j => decide (i < j)) (fun i j => !i && j)
def dLeA : D → D → Sto → Res D := dRelA (fun i j => decide (i ≤ j)) (fun i j => !i || j)
theorem op_ltA : OpR X (compareOp .Lt) (fun x y H Q => (rI0 fun i j => .bl (decide (i < j))) x y H Q ∨ ∃ i j, x = .bl i ∧ y = .bl j ∧ Q (.bl (!i && j)) H) := op_lt.or op_ltB
theorem op_leA : OpR X (compareOp .LtE) (fun x y H Q => (rI0 fun i j => .bl (decide (i ≤ j))) x y H Q ∨ ∃ i j, x = .bl i ∧ y = .bl j ∧ Q (.bl (!i || j)) H) := op_le.or op_leB
end

/-! ## methods of texts; a statement that is never reached -/
section
variable {K : PySem.W.Frag} {mg : Str → Option Value} {X : Cx} {W : WX}
theorem ls_bad {st : Stmt} : PS X st (LS X.K X.mg W fun _ _ => .bad) := ⟨fun pins s σ H D' I h => by
  obtain ⟨w, ok, e, ρ, rr, h⟩ := h
  exact h.elim⟩
def dNever (_ : Env) (_ : Sto) : RS := .bad
theorem ls_never {st : Stmt} : PS X st (LS X.K X.mg W dNever) := ls_bad
def mFind3 : DM
  | .str a, [.str b, .int i], S => .ok (.int (Txt.find3 a b i)) S
  | _, _, _ => .bad
theorem om_find3 : Opm K mg (fun x xs H Q => ∃ (a b : Str) (i : Int), x = .str a ∧ xs = [.str b, .int i] ∧ Q (.int (Txt.find3 a b i)) H) mFind3 := by
  intro w x ds v vs Q E ok rx rs h
  unfold mFind3 at h
  split at h
  · obtain ⟨u1, u2, rfl, r1, r2⟩ := rs.two
    exact ⟨_, _, _, rx.str, by rw [r1.str, r2.int], Fin.now h ok mk_int⟩
  · exact h.elim
def mStarts : DM
  | .str a, [.str b], S => .ok (.bl (Txt.startswith a b)) S
  | _, _, _ => .bad
theorem om_starts : Opm K mg (fun x xs H Q => ∃ a b, x = .str a ∧ xs = [.str b] ∧ Q (.bl (Txt.startswith a b)) H) mStarts := by
  intro w x ds v vs Q E ok rx rs h
  unfold mStarts at h
  split at h
  · obtain ⟨u, rfl, ru⟩ := rs.one
    exact ⟨_, _, rx.str, by rw [ru.str], Fin.now h ok mk_bl⟩
  · exact h.elim
/-- a text times 0 or 1 -/
theorem op_mulS : OpR X (binaryOp .Mult) (fun x y H Q => ∃ a, x = .str a ∧ ((y = .int 0 ∧ Q (.str Str.empty) H) ∨ (y = .int 1 ∧ Q (.str a) H))) := by
  intro pins s σ H x y v u Q I rx ry h
  obtain ⟨a, rfl, h⟩ := h
  obtain ⟨t, rfl⟩ := rx
  rcases h with ⟨rfl, q⟩ | ⟨rfl, q⟩
  · obtain ⟨t', rfl⟩ := ry
    exact P.mul_str_none (by decide) (by decide) ⟨.str Str.empty, H, I.tok _, ⟨_, rfl⟩, q⟩
  · obtain ⟨t', rfl⟩ := ry
    refine P.mul_str (by decide) (fun _ h2 => by cases h2) (fun _ h2 => by cases h2) ?_
    rw [if_neg (by decide), if_pos (by rfl)]
    exact ⟨.str a, H, I, ⟨_, rfl⟩, q⟩
def dMulS : D → D → Sto → Res D
  | .str a, .int k, S => if k = 0 then .ok (.str Str.empty) S else if k = 1 then .ok (.str a) S else .bad
  | _, _, _ => .bad
theorem o_mulS : Op2 K mg (fun x y H Q => ∃ a, x = .str a ∧ ((y = .int 0 ∧ Q (.str Str.empty) H) ∨ (y = .int 1 ∧ Q (.str a) H))) dMulS := by
  intro w a b v u Q E ok ra rb h
  unfold dMulS at h
  split at h
  · rename_i a k _
    refine ⟨_, ra.str, ?_⟩
    rw [rb.int]
    split at h
    · rename_i hk
      subst hk
      exact .inl ⟨rfl, Fin.now h ok mk_str⟩
    · split at h
      · rename_i hk
        subst hk
        exact .inr ⟨rfl, Fin.now h ok mk_str⟩
      · exact h.elim
  · exact h.elim
end

/-! ## own classes: fields, methods, instances -/
section
variable {X : Cx} {CX : CXT} {k : Nat} {f C : Addr} {fd : FuncData} {ps : List Str} {sp : Sp} {E : St → XK} {x m : Str} {p pos apos : Pos} {e o : Expr} {es : List Expr} {ta : TE} {t : TA}
def tMethS (C : Addr) (m : Str) (sp : Sp) (E : St → XK) (ta : TE) (t : TA) : TE := fun σ H Q => ta σ H fun x H1 => ∃ a dx fs, x = .ref a ∧ H1 a = some (.ins C dx fs) ∧ fs.lookup m = none ∧
  t σ H1 fun vs H2 => sp (x :: vs) H2 Q (E σ)
theorem pe_methS' {pl : Sem Bool} (he : PE X o ta) (c : Cls X.K C) (hm : Meth X.K C m f) (F : FnOk X.prog X.w X.K X.mg X.base CX k f fd ps sp) (hr : Room k X.A) (hb : Binds X.K fd ps []) (hx : ∀ σ, PassesAt CX X σ (E σ)) (ha : PA X (e :: es) t)
    (hst : starEach (e :: es) X.env = (false, eval e X.env) :: starEach es X.env := by rfl) (hpl : (backTo pos (starEach es X.env)).any (·.1) = false := by rfl)
    (ht : eval (.Call (.Attribute o m apos) (e :: es) [] pos) X.env = (do
      let ov ← eval o X.env
      standAt apos.atName
      let (f, first) ← holding [ov] (getMethod ov m pl)
      callWith pos f first (backTo pos (starEach (e :: es) X.env)) (backToKw pos (keywordEach [] X.env))) := by rfl) :
    PE X (.Call (.Attribute o m apos) (e :: es) [] pos) (tMethS C m sp E ta t) := by
  refine ⟨fun pins s σ H Q I h => ?_⟩
  refine PySem.W.methodCall_KW (pl := pl) (thn (he.run pins s σ H _ I h) fun u s1 ⟨x, H1, I1, rx, a, dx, fs, ex, ea, l, q⟩ => ?_) ht
  subst ex
  obtain rfl : u = Value.ref a := rx
  refine getmeth_ok I1 ea c hm l ?_
  refine PySem.W.callWith_K (first := [.ref a]) (h₀ := X.base) I.ok.mod.kin hm.kp (thn (ha.run pos pins s1 σ H1 _ I1 q) fun us s2 ⟨vs, H2, I2, r, q2⟩ => ⟨I2.kIn, ?_⟩) hst hpl
  exact run_fnS (us := .ref a :: us) (vs := .ref a :: vs) F hr hb (hx σ) I2 (.cons rfl r) q2
theorem pe_methS0' {pl : Sem Bool} (he : PE X o ta) (c : Cls X.K C) (hm : Meth X.K C m f) (F : FnOk X.prog X.w X.K X.mg X.base CX k f fd ps sp) (hr : Room k X.A) (hb : Binds X.K fd ps []) (hx : ∀ σ, PassesAt CX X σ (E σ))
    (ht : eval (.Call (.Attribute o m apos) [] [] pos) X.env = (do
      let ov ← eval o X.env
      standAt apos.atName
      let (f, first) ← holding [ov] (getMethod ov m pl)
      callWith pos f first (backTo pos (starEach [] X.env)) (backToKw pos (keywordEach [] X.env))) := by rfl) :
    PE X (.Call (.Attribute o m apos) [] [] pos) (tMethS C m sp E ta tNil) := by
  refine ⟨fun pins s σ H Q I h => ?_⟩
  refine PySem.W.methodCall_KW (pl := pl) (thn (he.run pins s σ H _ I h) fun u s1 ⟨x, H1, I1, rx, a, dx, fs, ex, ea, l, q⟩ => ?_) ht
  subst ex
  obtain rfl : u = Value.ref a := rx
  refine getmeth_ok I1 ea c hm l ?_
  exact PySem.W.callWith_K0 (first := [.ref a]) I1.kIn hm.kp (run_fnS (us := [.ref a]) (vs := [.ref a]) F hr hb (hx σ) I1 (.cons rfl .nil) q)
/-- C(..) -/
def tMakeS (C : Addr) (sp : Sp) (E : St → XK) (t : TA) : TE := fun σ H Q => t σ H fun vs H1 => ∀ x dx, H1 x = none → H1 dx = none → dx ≠ x →
  sp (.ref x :: vs) (upd (upd H1 dx (.own x)) x (.ins C dx [])) (fun v H2 => v = .non ∧ Q (.ref x) H2) (E σ)
theorem run_makeS {pins : List (Addr × Obj)} {σ : St} {H : Hp} {s : Shared} {Q : VK} {us : List Value} {vs : List V} (M : Mk X.K C f) (F : FnOk X.prog X.w X.K X.mg X.base CX k f fd ps sp) (hr : Room (k + 1) X.A) (hb : Binds X.K fd ps [])
    (hx : PassesAt CX X σ (E σ)) (I : Inv X pins σ H s) (r : Vals vs us)
    (h : ∀ x dx, H x = none → H dx = none → dx ≠ x → sp (.ref x :: vs) (upd (upd H dx (.own x)) x (.ins C dx [])) (fun v H2 => v = .non ∧ Q (.ref x) H2) (E σ)) :
    wpAny (model X.prog X.w) X.A (call (.ref C) us) (EP X pins σ Q) X.xe s := by
  have hq := h (s.heap.objs.size + 1) s.heap.objs.size (I.hok.fresh (Nat.le_succ _)) (I.hok.fresh (Nat.le_refl _)) (Nat.ne_of_lt (Nat.lt_succ_self _))
  have I2 := Inv.made (C := C) I
  have r2 : Vals (V.ref (s.heap.objs.size + 1) :: vs) (Value.ref (s.heap.objs.size + 1) :: us) := .cons rfl r
  have hl : (Value.ref (s.heap.objs.size + 1) :: us).length = ps.length := by
    have e := r2.length
    rw [F.len _ _ _ _ hq] at e
    exact e.symm
  have hl2 : ((Value.ref (s.heap.objs.size + 1) :: us) ++ []).length = ps.length := by rw [List.append_nil]; exact hl
  have b := hb _ (Value.ref (s.heap.objs.size + 1) :: us) I2.kIn hl2
  rw [List.append_nil] at b
  refine wpAny_call (make_map (f := f) I.kIn M.makes M.init (beq_iff_eq.mp M.fn) (codeAny_mono (F.run _ X.stack _ _ ⟨Value.ref (s.heap.objs.size + 1) :: us, []⟩ (Value.ref (s.heap.objs.size + 1) :: us) _ _ (E σ) (hr.make C us [])
    (I2.env0.make C us []) b r2 hq) fun r s' hq' => ?_))
  cases r with
  | error e => exact hx pins _ _ e s' I2 hq'
  | ok fl =>
    cases fl with
    | ret u =>
      obtain ⟨v, H', I3, rv, ev, q3⟩ := I2.after hq'
      subst ev
      exact ⟨rv, ⟨V.ref (s.heap.objs.size + 1), H', I3, rfl, q3⟩⟩
    | next => exact False.elim hq'
    | brk => exact False.elim hq'
    | cont => exact False.elim hq'
theorem pe_makeS (M : Mk X.K C f) (F : FnOk X.prog X.w X.K X.mg X.base CX k f fd ps sp) (hr : Room (k + 1) X.A) (hg : Gl X x) (hm : X.mg x = some (.ref C)) (hb : Binds X.K fd ps []) (hx : ∀ σ, PassesAt CX X σ (E σ))
    (ha : PA X (e :: es) t) (hdb : (x == ("__debug__" : Str)) = false := by decide) (he : starEach (e :: es) X.env = (false, eval e X.env) :: starEach es X.env := by rfl) (hpl : (backTo pos (starEach es X.env)).any (·.1) = false := by rfl) :
    PE X (.Call (.Name x p) (e :: es) [] pos) (tMakeS C sp E t) := by
  refine ⟨fun pins s σ H Q I h => ?_⟩
  refine wpAny_Call_Name_kw (ld_glob I hg hm ?_ hdb)
  refine PySem.W.callWith_K (h₀ := X.base) I.ok.mod.kin M.kp (thn (ha.run pos pins s σ H _ I h) fun us s1 ⟨vs, H1, I1, r, q⟩ => ⟨I1.kIn, ?_⟩) he hpl
  exact run_makeS M F hr hb (hx σ) I1 r q
theorem pe_makeS0 (M : Mk X.K C f) (F : FnOk X.prog X.w X.K X.mg X.base CX k f fd ps sp) (hr : Room (k + 1) X.A) (hg : Gl X x) (hm : X.mg x = some (.ref C)) (hb : Binds X.K fd ps []) (hx : ∀ σ, PassesAt CX X σ (E σ))
    (hdb : (x == ("__debug__" : Str)) = false := by decide) : PE X (.Call (.Name x p) [] [] pos) (tMakeS C sp E tNil) := by
  refine ⟨fun pins s σ H Q I h => ?_⟩
  refine wpAny_Call_Name_kw (ld_glob I hg hm ?_ hdb)
  exact PySem.W.callWith_K0 I.kIn M.kp (run_makeS (us := []) M F hr hb (hx σ) I .nil h)
end
section
variable {K : PySem.W.Frag} {mg : Str → Option Value} {X : Cx} {W : WX} {pos pos' apos p : Pos} {e o value : Expr} {es : List Expr} {f m x C : Str} {Ca : Addr} {da dv : DE} {dr : DA}
/-- a class of the text -/
structure ClsT (K : PySem.W.Frag) (mg : Str → Option Value) (C : Str) (Ca : Addr) : Prop where
  g : mg C = some (.ref Ca)
  c : Cls K Ca
/-- an attribute -/
def fldL : List (Str × D) → Str → Option D
  | [], _ => none
  | p :: r, f => if p.1 = f then some p.2 else fldL r f
/-- an attribute is put -/
def putFD (f : Str) (d : D) : List (Str × D) → List (Str × D)
  | [] => [(f, d)]
  | p :: r => if p.1 = f then (p.1, d) :: r else p :: putFD f d r
theorem beq_str {a b : Str} : (a == b) = decide (a = b) := by
  rw [Bool.eq_iff_iff, beq_iff_eq, decide_eq_true_eq]
theorem Rfs.fld {w : Wo} (f : Str) : ∀ {fs : List (Str × D)} {vs : List (Str × V)}, Rfs K mg w fs vs → (∀ d, fldL fs f = some d → ∃ v, vs.lookup f = some v ∧ Rv K mg w d v) ∧ (fldL fs f = none → vs.lookup f = none)
  | [], vs, r => by
    have e : vs = [] := r
    subst e
    exact ⟨fun d h => (nomatch h), fun _ => rfl⟩
  | p :: ps, vs, ⟨v, q, e, r1, r2⟩ => by
    subst e
    have ih := Rfs.fld f r2
    unfold fldL
    rw [List.lookup_cons, beq_str]
    by_cases h : p.1 = f
    · rw [if_pos h, decide_eq_true h.symm]
      exact ⟨fun d e => ⟨v, rfl, by rw [← Option.some.inj e]; exact r1⟩, fun e => (nomatch e)⟩
    · rw [if_neg h, decide_eq_false fun z => h z.symm]
      exact ih
theorem Rfs.len {w : Wo} : ∀ {fs : List (Str × D)} {vs : List (Str × V)}, Rfs K mg w fs vs → vs.length = fs.length
  | [], vs, r => by
    have e : vs = [] := r
    rw [e]
    rfl
  | p :: ps, vs, ⟨v, q, e, r1, r2⟩ => by rw [e, List.length_cons, List.length_cons, Rfs.len r2]
theorem Rfs.putF {w : Wo} (f : Str) {d : D} {v : V} (h : Rv K mg w d v) : ∀ {fs : List (Str × D)} {vs : List (Str × V)}, Rfs K mg w fs vs → Rfs K mg w (putFD f d fs) (L2.putF f v vs)
  | [], vs, r => by
    have e : vs = [] := r
    subst e
    exact ⟨v, [], rfl, h, rfl⟩
  | p :: ps, vs, ⟨u, q, e, r1, r2⟩ => by
    subst e
    unfold putFD
    by_cases hf : p.1 = f
    · rw [if_pos hf]
      have e2 : L2.putF f v ((p.1, u) :: q) = (p.1, v) :: q := by
        unfold L2.putF
        rw [if_pos hf]
        try rw [hf]
      rw [e2]
      exact ⟨v, q, rfl, h, r2⟩
    · rw [if_neg hf]
      have e2 : L2.putF f v ((p.1, u) :: q) = (p.1, u) :: L2.putF f v q := by
        conv => lhs; unfold L2.putF
        rw [if_neg hf]
      rw [e2]
      exact ⟨u, _, rfl, r1, Rfs.putF f h r2⟩
/-! ### o.f -/
def fldR (S : Sto) : Option D → Res D
  | some d => .ok d S
  | none => .bad
def fldO (C f : Str) (S : Sto) : Option Ob → Res D
  | some (.ins C' fs) => if C' = C then fldR S (fldL fs f) else .bad
  | _ => .bad
def dFld (C f : Str) : D → Sto → Res D
  | .obj n, S => fldO C f S S[n]?
  | _, _ => .bad
def eFld (C f : Str) (da : DE) : DE := eUn (dFld C f) da
theorem ins_at {w : Wo} (ok : w.Ok K mg) {n : Nat} {fs : List (Str × D)} (h : w.S[n]? = some (.ins C fs)) (T : ClsT K mg C Ca) : ∃ dx vs, w.H (w.m n) = some (.ins Ca dx vs) ∧ Rfs K mg w fs vs := by
  obtain ⟨Cb, dx, vs, e, h1, r⟩ := ok.has n _ h
  rw [T.g] at e
  cases Option.some.inj e
  exact ⟨dx, vs, h1, r⟩
theorem l_fld (T : ClsT X.K X.mg C Ca) (n : NoAttr X.K Ca f) (he : PE X e (LE X.K X.mg W da)) (hb : attributeBase e f X.env (eval e X.env) = eval e X.env := by rfl) : PE X (.Attribute e f pos) (LE X.K X.mg W (eFld C f da)) :=
  (pe_fld he hb).imp fun σ H Q h => by
    obtain ⟨w, ok, rfl, ρ, rr, h⟩ := h
    refine ⟨w, ok, rfl, ρ, rr, h.bind fun w1 a v le1 ok1 r1 h1 => ?_⟩
    cases a with
    | obj i =>
      obtain ⟨hi, rfl⟩ := r1.obj
      have h3 : Fin X.K X.mg w1 (Rv X.K X.mg) (fldO C f w1.S w1.S[i]?) Q (XW X.K X.mg W σ) := h1
      clear h1 h
      cases e1 : w1.S[i]? with
      | none => rw [e1] at h3; exact h3.elim
      | some ob =>
        rw [e1] at h3
        cases ob with
        | ins C' fs =>
          unfold fldO at h3
          dsimp only at h3
          by_cases hC : C' = C
          · rw [if_pos hC] at h3
            subst hC
            obtain ⟨dx, vs, hH, r⟩ := ins_at ok1 e1 T
            cases e2 : fldL fs f with
            | none => rw [e2] at h3; exact h3.elim
            | some d =>
              rw [e2] at h3
              obtain ⟨v, hv, rv⟩ := (r.fld f).1 d e2
              exact ⟨_, Ca, dx, vs, v, rfl, hH, T.c, n, hv, Fin.now h3 ok1 rv⟩
          · rw [if_neg hC] at h3
            exact h3.elim
        | _ => exact h3.elim
    | _ => exact h1.elim
/-! ### o.f = e -/
theorem Wo.putIns {w : Wo} (ok : w.Ok K mg) {n : Nat} {fs : List (Str × D)} {vs : List (Str × V)} {dx : Addr} (hn : n < w.S.length) (T : ClsT K mg C Ca) (r : Rfs K mg w fs vs) : (w.put n (.ins C fs) (.ins Ca dx vs)).Ok K mg :=
  Wo.put_ok ok hn ⟨Ca, dx, vs, T.g, upd_same, r.up ok (Wo.put_le hn)⟩
def setFO (C f : Str) (d : D) (ρ : Env) (S : Sto) (n : Nat) : Option Ob → RS
  | some (.ins C' fs) => if C' = C ∧ fs.length < 1000 then .nx ρ (S.set n (.ins C (putFD f d fs))) else .bad
  | _ => .bad
def setF2 (C f : Str) (d : D) : D → Env → Sto → RS
  | .obj n, ρ, S => setFO C f d ρ S n S[n]?
  | _, _, _ => .bad
def setF1 (C f : Str) (da : DE) (d : D) (ρ : Env) (S : Sto) : RS := bindR (setF2 C f d) ρ (da ρ S)
def dSetF (C f : Str) (da dv : DE) (ρ : Env) (S : Sto) : RS := bindR (setF1 C f da) ρ (dv ρ S)
theorem ls_setF (T : ClsT X.K X.mg C Ca) (n : NoAttr X.K Ca f) (ha : PE X o (LE X.K X.mg W da)) (hv : PE X value (LE X.K X.mg W dv)) (hs : swapsWith value (some (.Attribute o f pos')) pos.line X.env = pure false := by rfl) :
    PS X (.Assign [.Attribute o f pos'] value pos) (LS X.K X.mg W (dSetF C f da dv)) := (ps_fld ha hv hs).imp fun D' σ H h => by
  obtain ⟨w, ok, rfl, ρ, rr, h⟩ := h
  refine ⟨w, ok, rfl, ρ, rr, FinS.ofBind ok rr h fun w1 d v le1 ok1 r1 rr1 h1 => ?_⟩
  refine ⟨w1, ok1, rfl, ρ, rr1, FinS.ofBind ok1 rr1 h1 fun w2 d2 v2 le2 ok2 r2 rr2 h2 => ?_⟩
  cases d2 with
  | obj i =>
    obtain ⟨hi, rfl⟩ := r2.obj
    have h2 : FinS X.K X.mg W w2 (setFO C f d ρ w2.S i w2.S[i]?) D' := h2
    cases e1 : w2.S[i]? with
    | none => rw [e1] at h2; exact h2.elim
    | some ob =>
      rw [e1] at h2
      cases ob with
      | ins C' fs =>
        unfold setFO at h2
        dsimp only at h2
        by_cases hC : C' = C ∧ fs.length < 1000
        · rw [if_pos hC] at h2
          obtain ⟨rfl, hl⟩ := hC
          obtain ⟨dx, vs, hH, r⟩ := ins_at ok2 e1 T
          refine ⟨_, Ca, dx, vs, rfl, hH, T.c, n, by rw [r.len]; exact hl, ?_⟩
          exact h2 (w2.put i _ _) σ (Wo.put_le hi) (Wo.putIns ok2 hi T (Rfs.putF f (r1.up ok1 le2) r)) rfl (rr2.up ok2 (Wo.put_le hi))
        · rw [if_neg hC] at h2
          exact h2.elim
      | _ => exact h2.elim
  | _ => exact h2.elim
/-! ### o.m(..) -/
def metO (C m : Str) : Option Ob → Bool
  | some (.ins C' fs) => decide (C' = C) && (fldL fs m).isNone
  | _ => false
def isMet (C m : Str) (d : D) (S : Sto) : Bool := match d with
  | .obj n => metO C m S[n]?
  | _ => false
def metK (h : DF) (d : D) (xs : List D) (S : Sto) : Res D := h (d :: xs) S
def eMet1 (C m : Str) (h : DF) (dr : DA) (ρ : Env) (d : D) (S : Sto) : Res D := if isMet C m d S = true then (dr ρ S).bind (metK h d) else .bad
def eMet (C m : Str) (h : DF) (da : DE) (dr : DA) (ρ : Env) (S : Sto) : Res D := (da ρ S).bind (eMet1 C m h dr ρ)
theorem i_met {h : DF} (T : ClsT K mg C Ca) {σ : St} {H : Hp} {Q : VK} (z : LE K mg W (eMet C m h da dr) σ H Q) : tMethS Ca m (spD K mg h) (WE W) (LE K mg W da) (LA K mg W dr) σ H Q := by
  obtain ⟨w, ok, rfl, ρ, rr, z⟩ := z
  refine ⟨w, ok, rfl, ρ, rr, z.bind fun w1 a v le1 ok1 r1 z1 => ?_⟩
  unfold eMet1 at z1
  by_cases hm : isMet C m a w1.S = true
  · rw [if_pos hm] at z1
    cases a with
    | obj i =>
      obtain ⟨hi, rfl⟩ := r1.obj
      have hm : metO C m w1.S[i]? = true := hm
      cases e1 : w1.S[i]? with
      | none => rw [e1] at hm; cases hm
      | some ob =>
        rw [e1] at hm
        cases ob with
        | ins C' fs =>
          have hm : (decide (C' = C) && (fldL fs m).isNone) = true := hm
          rw [Bool.and_eq_true, decide_eq_true_eq] at hm
          obtain ⟨rfl, hn⟩ := hm
          obtain ⟨dx, vs, hH, r⟩ := ins_at ok1 e1 T
          refine ⟨_, dx, vs, rfl, hH, (r.fld m).2 (Option.isNone_iff_eq_none.mp hn), w1, ok1, rfl, ρ, rr.up ok le1, z1.bind fun w2 xs us le2 ok2 r2 z2 => ?_⟩
          refine ⟨w2, .obj i :: xs, ok2, rfl, Rvs.cons ((show Rv K mg w1 (.obj i) (.ref (w1.m i)) from r1).up ok1 le2) r2, z2⟩
        | _ => cases hm
    | _ => cases hm
  · rw [if_neg hm] at z1
    exact z1.elim
theorem l_met {pl : Sem Bool} {k : Nat} {g : Addr} {fd : FuncData} {ps : List Str} {h : DF} (T : ClsT X.K X.mg C Ca) (hm : Meth X.K Ca m g) (F : FnOk X.prog X.w X.K X.mg X.base (L2.CX X.prog X.w) k g fd ps (spD X.K X.mg h)) (hr : Room k X.A) (hb : Binds X.K fd ps []) (tk : Takes X W)
    (he : PE X o (LE X.K X.mg W da)) (ha : PA X (e :: es) (LA X.K X.mg W dr))
    (hst : starEach (e :: es) X.env = (false, eval e X.env) :: starEach es X.env := by rfl) (hpl : (backTo pos (starEach es X.env)).any (·.1) = false := by rfl)
    (ht : eval (.Call (.Attribute o m apos) (e :: es) [] pos) X.env = (do
      let ov ← eval o X.env
      standAt apos.atName
      let (f, first) ← holding [ov] (getMethod ov m pl)
      callWith pos f first (backTo pos (starEach (e :: es) X.env)) (backToKw pos (keywordEach [] X.env))) := by rfl) :
    PE X (.Call (.Attribute o m apos) (e :: es) [] pos) (LE X.K X.mg W (eMet C m h da dr)) :=
  (pe_methS' (pl := pl) he T.c hm F hr hb (fun σ => passAt tk σ) ha hst hpl ht).imp fun _ _ _ => i_met T
theorem l_met0 {pl : Sem Bool} {k : Nat} {g : Addr} {fd : FuncData} {ps : List Str} {h : DF} (T : ClsT X.K X.mg C Ca) (hm : Meth X.K Ca m g) (F : FnOk X.prog X.w X.K X.mg X.base (L2.CX X.prog X.w) k g fd ps (spD X.K X.mg h)) (hr : Room k X.A) (hb : Binds X.K fd ps []) (tk : Takes X W)
    (he : PE X o (LE X.K X.mg W da))
    (ht : eval (.Call (.Attribute o m apos) [] [] pos) X.env = (do
      let ov ← eval o X.env
      standAt apos.atName
      let (f, first) ← holding [ov] (getMethod ov m pl)
      callWith pos f first (backTo pos (starEach [] X.env)) (backToKw pos (keywordEach [] X.env))) := by rfl) :
    PE X (.Call (.Attribute o m apos) [] [] pos) (LE X.K X.mg W (eMet C m h da eNil)) :=
  (pe_methS0' (pl := pl) he T.c hm F hr hb (fun σ => passAt tk σ) ht).imp fun σ H Q z => by
    obtain ⟨w, ok, rfl, ρ, rr, z⟩ := z
    have z2 := i_met (W := W) T ⟨w, ok, rfl, ρ, rr, z⟩
    refine LE.monoQ z2 fun v H1 ⟨a, dx, fs, e1, e2, e3, e4⟩ => ⟨a, dx, fs, e1, e2, e3, ?_⟩
    exact i_nil e4
/-! ### C(..) -/
def mkEnd (n : Nat) : D → Sto → Res D
  | .non, S => .ok (.obj n) S
  | _, _ => .bad
def eMake1 (C : Str) (h : DF) (xs : List D) (S : Sto) : Res D := (h (.obj S.length :: xs) (S ++ [.ins C []])).bind (mkEnd S.length)
def eMake (C : Str) (h : DF) (dr : DA) (ρ : Env) (S : Sto) : Res D := (dr ρ S).bind (eMake1 C h)
theorem Wo.make {w : Wo} (ok : w.Ok K mg) (T : ClsT K mg C Ca) {x dx : Addr} (hx : w.H x = none) (hd : w.H dx = none) (ne : dx ≠ x) :
    ∃ w' : Wo, w.Le w' ∧ w'.Ok K mg ∧ w'.S = w.S ++ [.ins C []] ∧ w'.H = upd (upd w.H dx (.own x)) x (.ins Ca dx []) ∧ w'.m w.S.length = x := by
  have le1 := Wo.new_le (o := HO.own x) hd
  have ok1 := Wo.new_ok (o := HO.own x) ok hd
  have hx1 : (w.heap (upd w.H dx (.own x))).H x = none := by
    show upd w.H dx (.own x) x = none
    rw [upd_ne ne.symm]
    exact hx
  have le2 := Wo.add_le (o := Ob.ins C []) (u := HO.ins Ca dx []) hx1
  exact ⟨_, Wo.Le.trans ok1 le1 le2, Wo.add_ok ok1 hx1 ⟨Ca, dx, [], T.g, upd_same, rfl⟩, rfl, rfl, Wo.add_m⟩
theorem i_make {h : DF} (T : ClsT K mg C Ca) {σ : St} {H : Hp} {Q : VK} (z : LE K mg W (eMake C h dr) σ H Q) : tMakeS Ca (spD K mg h) (WE W) (LA K mg W dr) σ H Q := by
  obtain ⟨w, ok, rfl, ρ, rr, z⟩ := z
  refine ⟨w, ok, rfl, ρ, rr, z.bind fun w1 xs vs le1 ok1 r1 z1 => fun x dx hx hd ne => ?_⟩
  obtain ⟨w2, le2, ok2, eS, eH, em⟩ := Wo.make ok1 T hx hd ne
  have hlen : w1.S.length < w2.S.length := by rw [eS, List.length_append]; exact Nat.lt_succ_self _
  have ro : Rv K mg w2 (.obj w1.S.length) (.ref x) := by
    rw [Rv]
    exact ⟨hlen, by rw [em]⟩
  refine ⟨w2, .obj w1.S.length :: xs, ok2, eH, Rvs.cons ro (r1.up ok1 le2), ?_⟩
  have z2 : Fin K mg w2 (Rv K mg) ((h (.obj w1.S.length :: xs) w2.S).bind (mkEnd w1.S.length)) Q (XW K mg W σ) := by
    rw [eS]
    exact z1.up ok2 le2
  refine z2.bind fun w3 a v le3 ok3 r3 z3 => ?_
  cases a with
  | non =>
    refine ⟨r3.non, ?_⟩
    exact Fin.now z3 ok3 (ro.up ok2 le3)
  | _ => exact z3.elim
theorem l_make {k : Nat} {g : Addr} {fd : FuncData} {ps : List Str} {h : DF} (T : ClsT X.K X.mg C Ca) (M : Mk X.K Ca g) (F : FnOk X.prog X.w X.K X.mg X.base (L2.CX X.prog X.w) k g fd ps (spD X.K X.mg h)) (hr : Room (k + 1) X.A) (hg : Gl X C) (hb : Binds X.K fd ps []) (tk : Takes X W)
    (ha : PA X (e :: es) (LA X.K X.mg W dr)) (hdb : (C == ("__debug__" : Str)) = false := by decide) (he : starEach (e :: es) X.env = (false, eval e X.env) :: starEach es X.env := by rfl) (hpl : (backTo pos (starEach es X.env)).any (·.1) = false := by rfl) :
    PE X (.Call (.Name C p) (e :: es) [] pos) (LE X.K X.mg W (eMake C h dr)) :=
  (pe_makeS M F hr hg T.g hb (fun σ => passAt tk σ) ha hdb he hpl).imp fun _ _ _ => i_make T
theorem l_make0 {k : Nat} {g : Addr} {fd : FuncData} {ps : List Str} {h : DF} (T : ClsT X.K X.mg C Ca) (M : Mk X.K Ca g) (F : FnOk X.prog X.w X.K X.mg X.base (L2.CX X.prog X.w) k g fd ps (spD X.K X.mg h)) (hr : Room (k + 1) X.A) (hg : Gl X C) (hb : Binds X.K fd ps []) (tk : Takes X W)
    (hdb : (C == ("__debug__" : Str)) = false := by decide) : PE X (.Call (.Name C p) [] [] pos) (LE X.K X.mg W (eMake C h eNil)) :=
  (pe_makeS0 M F hr hg T.g hb (fun σ => passAt tk σ) hdb).imp fun σ H Q z => by
    have z2 := i_make T z
    exact i_nil (K := X.K) (mg := X.mg) (W := W) z2
end

/-! ## ==, != of data at any depth -/
section
variable {K : PySem.W.Frag} {mg : Str → Option Value} {X : Cx} {W : WX}
open PySem (PyData)
def datL (f : D → Option PyData) : List D → Option (List PyData)
  | [] => some []
  | d :: r => match f d, datL f r with
    | some p, some ps => some (p :: ps)
    | _, _ => none
def datK : Key → PyData
  | .inl i => .int i
  | .inr x => .str x
/-- what a value is, as data -/
def dat (S : Sto) : Nat → D → Option PyData
  | _, .non => some .none
  | _, .bl b => some (.bool b)
  | _, .int i => some (.int i)
  | _, .str x => some (.str x)
  | _, .tk ks => some (.tuple (ks.map datK))
  | n + 1, .tup ds => (datL (dat S n) ds).map .tuple
  | n + 1, .obj m => ((lstOf S m).bind (datL (dat S n))).map .list
  | n + 1, .kl ds => (datL (dat S n) ds).map .list
  | _, _ => none
theorem dpAll_of {w : Wo} {H : Hp} {f : D → Option PyData} (hf : ∀ d v p, Rv K mg w d v → f d = some p → Dp K H v p) : ∀ {ds : List D} {vs : List V} {ps : List PyData}, Rvs K mg w ds vs → datL f ds = some ps → DpAll K H vs ps
  | [], vs, ps, r, e => by
    rw [Rvs] at r
    cases Option.some.inj (show some [] = some ps from e)
    rw [r]
    exact .nil
  | d :: ds, vs, ps, r, e => by
    rw [Rvs] at r
    obtain ⟨v, q, e1, r1, r2⟩ := r
    subst e1
    unfold datL at e
    split at e
    · rename_i p ps' e2 e3
      cases Option.some.inj e
      exact .cons (hf _ _ _ r1 e2) (dpAll_of hf r2 e3)
    · cases e
theorem dpAll_keys {H : Hp} : ∀ ks : List Key, DpAll K H (ks.map kV) (ks.map datK)
  | [] => .nil
  | .inl i :: ks => .cons (.int i) (dpAll_keys ks)
  | .inr i :: ks => .cons (.str i) (dpAll_keys ks)
theorem dat_dp {w : Wo} (ok : w.Ok K mg) : ∀ (n : Nat) (d : D) (v : V) (p : PyData), Rv K mg w d v → dat w.S n d = some p → Dp K w.H v p := by
  intro n
  induction n with
  | zero =>
    intro d v p r e
    cases d with
    | non => cases Option.some.inj (show some PyData.none = some p from e); rw [r.non]; exact .non
    | bl b => cases Option.some.inj (show some (PyData.bool b) = some p from e); rw [r.bl]; exact .bl b
    | int b => cases Option.some.inj (show some (PyData.int b) = some p from e); rw [r.int]; exact .int b
    | str b => cases Option.some.inj (show some (PyData.str b) = some p from e); rw [r.str]; exact .str b
    | tk ks =>
      cases Option.some.inj (show some (PyData.tuple (ks.map datK)) = some p from e)
      rw [Rv] at r
      obtain ⟨a, rfl, h⟩ := r
      exact .tup (SqT.of h) (dpAll_keys ks)
    | _ => simp [dat] at e
  | succ n ih =>
    intro d v p r e
    cases d with
    | non => cases Option.some.inj (show some PyData.none = some p from e); rw [r.non]; exact .non
    | bl b => cases Option.some.inj (show some (PyData.bool b) = some p from e); rw [r.bl]; exact .bl b
    | int b => cases Option.some.inj (show some (PyData.int b) = some p from e); rw [r.int]; exact .int b
    | str b => cases Option.some.inj (show some (PyData.str b) = some p from e); rw [r.str]; exact .str b
    | tk ks =>
      cases Option.some.inj (show some (PyData.tuple (ks.map datK)) = some p from e)
      rw [Rv] at r
      obtain ⟨a, rfl, h⟩ := r
      exact .tup (SqT.of h) (dpAll_keys ks)
    | tup ds =>
      obtain ⟨ps, e1, rfl⟩ := Option.map_eq_some_iff.mp (show (datL (dat w.S n) ds).map PyData.tuple = some p from e)
      obtain ⟨a, vs, rfl, t, r2⟩ := r.tup
      exact .tup t (dpAll_of ih r2 e1)
    | kl ds =>
      obtain ⟨ps, e1, rfl⟩ := Option.map_eq_some_iff.mp (show (datL (dat w.S n) ds).map PyData.list = some p from e)
      obtain ⟨a, vs, rfl, t, r2⟩ := r.kl
      exact .lst t.L (dpAll_of ih r2 e1)
    | obj m =>
      obtain ⟨ps, e1, rfl⟩ := Option.map_eq_some_iff.mp (show ((lstOf w.S m).bind (datL (dat w.S n))).map PyData.list = some p from e)
      obtain ⟨ds, e2, e3⟩ := Option.bind_eq_some_iff.mp e1
      obtain ⟨vs, t, r2⟩ := lst_at ok e2
      obtain ⟨_, rfl⟩ := r.obj
      exact .lst t (dpAll_of ih r2 e3)
    | _ => simp [dat] at e
def eqPR (neg : Bool) (S : Sto) : Option PyData → Option PyData → Res D
  | some d, some e => if PySem.SeqAt.shaped d = true ∧ PySem.SeqAt.shaped e = true then .ok (.bl (if neg then !PyData.eqv d e else PyData.eqv d e)) S else .bad
  | _, _ => .bad
def dEqP (neg : Bool) (a b : D) (S : Sto) : Res D := eqPR neg S (dat S 60 a) (dat S 60 b)
theorem o_eqP : Op2 K mg (rEqD K) (dEqP false) := by
  intro w a b v u Q E ok ra rb h
  unfold dEqP at h
  cases e1 : dat w.S 60 a with
  | none => rw [e1] at h; exact h.elim
  | some d =>
    cases e2 : dat w.S 60 b with
    | none => rw [e1, e2] at h; exact h.elim
    | some e =>
      rw [e1, e2] at h
      unfold eqPR at h
      dsimp only at h
      split at h
      · rename_i hs
        exact ⟨d, e, dat_dp ok _ _ _ _ ra e1, dat_dp ok _ _ _ _ rb e2, hs.1, hs.2, Fin.now h ok mk_bl⟩
      · exact h.elim
theorem o_neP : Op2 K mg (rNeD K) (dEqP true) := by
  intro w a b v u Q E ok ra rb h
  unfold dEqP at h
  cases e1 : dat w.S 60 a with
  | none => rw [e1] at h; exact h.elim
  | some d =>
    cases e2 : dat w.S 60 b with
    | none => rw [e1, e2] at h; exact h.elim
    | some e =>
      rw [e1, e2] at h
      unfold eqPR at h
      dsimp only at h
      split at h
      · rename_i hs
        exact ⟨d, e, dat_dp ok _ _ _ _ ra e1, dat_dp ok _ _ _ _ rb e2, hs.1, hs.2, Fin.now h ok mk_bl⟩
      · exact h.elim
/-- lists of numbers -/
theorem datL_ints (S : Sto) (n : Nat) : ∀ ns : List Int, datL (dat S n) (ns.map D.int) = some (ns.map PyData.int)
  | [] => rfl
  | i :: ns => by
    have e : dat S n (.int i) = some (.int i) := by cases n <;> rfl
    rw [List.map_cons, List.map_cons]
    unfold datL
    rw [e, datL_ints S n ns]
theorem shaped_ints : ∀ ns : List Int, PySem.SeqAt.shaped (.list (ns.map PyData.int)) = true := by
  intro ns
  have h1 : ∀ ms : List Int, PyData.canLayAll0 (ms.map PyData.int) = true := fun ms => by
    induction ms with
    | nil => rfl
    | cons i ms ih => rw [List.map_cons, PyData.canLayAll0, ih]; rfl
  have h2 : ∀ ms : List Int, PyData.depthAll (ms.map PyData.int) = 0 := fun ms => by
    induction ms with
    | nil => rfl
    | cons i ms ih => rw [List.map_cons, PyData.depthAll, ih]; rfl
  unfold PySem.SeqAt.shaped
  rw [Bool.and_eq_true]
  refine ⟨by rw [PyData.canLay0]; exact h1 ns, decide_eq_true ?_⟩
  rw [PyData.depth, h2]
  decide
theorem eqvAll_ints : ∀ ns ms : List Int, PyData.eqvAll (ns.map PyData.int) (ms.map PyData.int) = decide (ns = ms)
  | [], [] => rfl
  | [], _ :: _ => rfl
  | _ :: _, [] => rfl
  | i :: ns, j :: ms => by
    rw [List.map_cons, List.map_cons, PyData.eqvAll, eqvAll_ints ns ms, PyData.eqv]
    rw [Bool.eq_iff_iff, Bool.and_eq_true, beq_iff_eq, decide_eq_true_eq, decide_eq_true_eq, List.cons.injEq]
theorem eqP_ints {S : Sto} {n m : Nat} {ns ms : List Int} (neg : Bool) (h1 : lstOf S n = some (ns.map D.int)) (h2 : lstOf S m = some (ms.map D.int)) : dEqP neg (.obj n) (.obj m) S = .ok (.bl (if neg then !decide (ns = ms) else decide (ns = ms))) S := by
  have e : ∀ {n : Nat} {ns : List Int}, lstOf S n = some (ns.map D.int) → dat S 60 (.obj n) = some (.list (ns.map PyData.int)) := fun {n ns} h => by
    show ((lstOf S n).bind (datL (dat S 59))).map PyData.list = _
    rw [h, Option.bind_some, datL_ints]
    rfl
  unfold dEqP
  rw [e h1, e h2]
  unfold eqPR
  dsimp only
  rw [if_pos ⟨shaped_ints ns, shaped_ints ms⟩, PyData.eqv, eqvAll_ints]
/-- lists of truth values -/
theorem datL_bls (S : Sto) (n : Nat) : ∀ ns : List Bool, datL (dat S n) (ns.map D.bl) = some (ns.map PyData.bool)
  | [] => rfl
  | i :: ns => by
    have e : dat S n (.bl i) = some (.bool i) := by cases n <;> rfl
    rw [List.map_cons, List.map_cons]
    unfold datL
    rw [e, datL_bls S n ns]
theorem shaped_bls : ∀ ns : List Bool, PySem.SeqAt.shaped (.list (ns.map PyData.bool)) = true := by
  intro ns
  have h1 : ∀ ms : List Bool, PyData.canLayAll0 (ms.map PyData.bool) = true := fun ms => by
    induction ms with
    | nil => rfl
    | cons i ms ih => rw [List.map_cons, PyData.canLayAll0, ih]; rfl
  have h2 : ∀ ms : List Bool, PyData.depthAll (ms.map PyData.bool) = 0 := fun ms => by
    induction ms with
    | nil => rfl
    | cons i ms ih => rw [List.map_cons, PyData.depthAll, ih]; rfl
  unfold PySem.SeqAt.shaped
  rw [Bool.and_eq_true]
  refine ⟨by rw [PyData.canLay0]; exact h1 ns, decide_eq_true ?_⟩
  rw [PyData.depth, h2]
  decide
theorem eqvAll_bls : ∀ ns ms : List Bool, PyData.eqvAll (ns.map PyData.bool) (ms.map PyData.bool) = decide (ns = ms)
  | [], [] => rfl
  | [], _ :: _ => rfl
  | _ :: _, [] => rfl
  | i :: ns, j :: ms => by
    rw [List.map_cons, List.map_cons, PyData.eqvAll, eqvAll_bls ns ms, PyData.eqv]
    rw [Bool.eq_iff_iff, Bool.and_eq_true, beq_iff_eq, decide_eq_true_eq, decide_eq_true_eq, List.cons.injEq]
theorem eqP_bls {S : Sto} {n m : Nat} {ns ms : List Bool} (neg : Bool) (h1 : lstOf S n = some (ns.map D.bl)) (h2 : lstOf S m = some (ms.map D.bl)) : dEqP neg (.obj n) (.obj m) S = .ok (.bl (if neg then !decide (ns = ms) else decide (ns = ms))) S := by
  have e : ∀ {n : Nat} {ns : List Bool}, lstOf S n = some (ns.map D.bl) → dat S 60 (.obj n) = some (.list (ns.map PyData.bool)) := fun {n ns} h => by
    show ((lstOf S n).bind (datL (dat S 59))).map PyData.list = _
    rw [h, Option.bind_some, datL_bls]
    rfl
  unfold dEqP
  rw [e h1, e h2]
  unfold eqPR
  dsimp only
  rw [if_pos ⟨shaped_bls ns, shaped_bls ms⟩, PyData.eqv, eqvAll_bls]
/-! ## << >> & | -/
def dShl : D → D → Sto → Res D
  | .int i, .int j, S => if 0 ≤ j ∧ j ≤ 1000000 ∧ i.natAbs < 2 ^ 64 then .ok (.int (i * 2 ^ j.toNat)) S else .bad
  | _, _, _ => .bad
theorem o_shl : Op2 K mg (rI CPow fun i j => .int (i * 2 ^ j.toNat)) dShl := by
  intro w a b v u Q E ok ra rb h
  unfold dShl at h
  split at h
  · rw [ra.int, rb.int]
    split at h
    · rename_i hc
      exact ⟨_, _, rfl, rfl, hc, Fin.now h ok mk_int⟩
    · exact h.elim
  · exact h.elim
def dShr : D → D → Sto → Res D
  | .int i, .int j, S => if 0 ≤ j then .ok (.int (i / 2 ^ j.toNat)) S else .bad
  | _, _, _ => .bad
theorem o_shr : Op2 K mg (rI (fun _ j => 0 ≤ j) fun i j => .int (i / 2 ^ j.toNat)) dShr := by
  intro w a b v u Q E ok ra rb h
  unfold dShr at h
  split at h
  · rw [ra.int, rb.int]
    split at h
    · rename_i hc
      exact ⟨_, _, rfl, rfl, hc, Fin.now h ok mk_int⟩
    · exact h.elim
  · exact h.elim
def dAndI : D → D → Sto → Res D
  | .int i, .int j, S => .ok (.int (PySem.Builtin.bitAnd i j)) S
  | _, _, _ => .bad
theorem o_andI : Op2 K mg (rI0 fun i j => .int (PySem.Builtin.bitAnd i j)) dAndI := by
  intro w a b v u Q E ok ra rb h
  unfold dAndI at h
  split at h
  · rw [ra.int, rb.int]
    exact ⟨_, _, rfl, rfl, Fin.now h ok mk_int⟩
  · exact h.elim
def dOrI : D → D → Sto → Res D
  | .int i, .int j, S => .ok (.int (PySem.Builtin.bitOr i j)) S
  | _, _, _ => .bad
theorem o_orI : Op2 K mg (rI0 fun i j => .int (PySem.Builtin.bitOr i j)) dOrI := by
  intro w a b v u Q E ok ra rb h
  unfold dOrI at h
  split at h
  · rw [ra.int, rb.int]
    exact ⟨_, _, rfl, rfl, Fin.now h ok mk_int⟩
  · exact h.elim
end
/-! ## o.f op= e -/
section
variable {X : Cx} {W : WX} {pos tpos : Pos} {o value : Expr} {f C : Str} {Ca : Addr} {da dv : DE}
def augF2 (C f : Str) (g : D → D → Sto → Res D) (dv : DE) (n : Nat) (ρ : Env) (x : D) (S1 : Sto) : RS := bindR (fun y ρ S2 => bindR (fun z ρ S3 => setFO C f z ρ S3 n S3[n]?) ρ (g x y S2)) ρ (dv ρ S1)
def augFO (C f : Str) (g : D → D → Sto → Res D) (dv : DE) (n : Nat) (ρ : Env) (S1 : Sto) : Option Ob → RS
  | some (.ins C' fs) => if C' = C then (match fldL fs f with | some x => augF2 C f g dv n ρ x S1 | none => .bad) else .bad
  | _ => .bad
def augF1 (C f : Str) (g : D → D → Sto → Res D) (dv : DE) : D → Env → Sto → RS
  | .obj n, ρ, S1 => augFO C f g dv n ρ S1 S1[n]?
  | _, _, _ => .bad
def dAugF (C f : Str) (g : D → D → Sto → Res D) (da dv : DE) (ρ : Env) (S : Sto) : RS := bindR (augF1 C f g dv) ρ (da ρ S)
def OpIn (K : PySem.W.Frag) (mg : Str → Option Value) (rd : V → V → Hp → VK → Prop) (g : D → D → Sto → Res D) : Prop := ∀ (w : Wo) (a b : D) (v u : V) (Q : VK) (E : Str → List (Str × D) → Wo → Prop), w.Ok K mg → Rv K mg w a v → Rv K mg w b u → Fin K mg w (Rv K mg) (g a b w.S) Q E → rd v u w.H Q
def dAdd2 : D → D → Sto → Res D
  | .int i, .int j, S => .ok (.int (i + j)) S
  | _, _, _ => .bad
theorem on_add {K : PySem.W.Frag} {mg : Str → Option Value} : OpIn K mg rAdd dAdd2 := by
  intro w a b v u Q E ok ra rb h
  unfold dAdd2 at h
  split at h
  · rw [ra.int, rb.int]
    exact ⟨_, _, rfl, rfl, Fin.now h ok mk_int⟩
  · exact h.elim
theorem ls_augF {op : Operator} {rd : V → V → Hp → VK → Prop} {g : D → D → Sto → Res D} (T : ClsT X.K X.mg C Ca) (n : NoAttr X.K Ca f) (hop : InOp X op rd) (oi : OpIn X.K X.mg rd g) (ha : PE X o (LE X.K X.mg W da)) (hv : PE X value (LE X.K X.mg W dv)) :
    PS X (.AugAssign (.Attribute o f tpos) op value pos) (LS X.K X.mg W (dAugF C f g da dv)) := (ps_fldaug ha hv hop).imp fun D' σ H h => by
  obtain ⟨w, ok, rfl, ρ, rr, h⟩ := h
  refine ⟨w, ok, rfl, ρ, rr, FinS.ofBind ok rr h fun w1 d v le1 ok1 r1 rr1 h1 => ?_⟩
  cases d with
  | obj i =>
    obtain ⟨hi, rfl⟩ := r1.obj
    have h2 : FinS X.K X.mg W w1 (augFO C f g dv i ρ w1.S w1.S[i]?) D' := h1
    clear h1
    cases e1 : w1.S[i]? with
    | none => rw [e1] at h2; exact h2.elim
    | some ob =>
      rw [e1] at h2
      cases ob with
      | ins C' fs =>
        unfold augFO at h2
        dsimp only at h2
        by_cases hC : C' = C
        · rw [if_pos hC] at h2
          subst hC
          obtain ⟨dx, vs, hH, r⟩ := ins_at ok1 e1 T
          cases e2 : fldL fs f with
          | none => rw [e2] at h2; exact h2.elim
          | some x =>
            rw [e2] at h2
            obtain ⟨u, hu, ru⟩ := (r.fld f).1 x e2
            have h2 : FinS X.K X.mg W w1 (augF2 C' f g dv i ρ x w1.S) D' := h2
            refine ⟨_, Ca, dx, vs, u, rfl, hH, T.c, n, hu, w1, ok1, rfl, ρ, rr1, FinS.ofBind ok1 rr1 h2 fun w2 y v2 le2 ok2 r2 rr2 h3 => ?_⟩
            refine oi w2 x y u v2 _ (XW X.K X.mg W σ) ok2 (ru.up ok1 le2) r2 (FinS.ofBind ok2 rr2 h3 fun w3 z v3 le3 ok3 r3 rr3 h4 => ?_)
            have hi3 : i < w3.S.length := Nat.lt_of_lt_of_le (Nat.lt_of_lt_of_le hi le2.len) le3.len
            have em : w3.m i = w1.m i := (le3.ag i (Nat.lt_of_lt_of_le hi le2.len)).trans (le2.ag i hi)
            cases e5 : w3.S[i]? with
            | none => rw [e5] at h4; exact h4.elim
            | some ob3 =>
              rw [e5] at h4
              cases ob3 with
              | ins C3 fs3 =>
                unfold setFO at h4
                dsimp only at h4
                by_cases hc3 : C3 = C' ∧ fs3.length < 1000
                · rw [if_pos hc3] at h4
                  obtain ⟨rfl, hl⟩ := hc3
                  obtain ⟨dx3, vs3, hH3, r5⟩ := ins_at ok3 e5 T
                  rw [em] at hH3
                  refine ⟨dx3, vs3, hH3, by rw [r5.len]; exact hl, ?_⟩
                  have q := h4 (w3.put i _ _) σ (Wo.put_le hi3) (Wo.putIns (vs := L2.putF f v3 vs3) (dx := dx3) ok3 hi3 T (Rfs.putF f r3 r5)) rfl (rr3.up ok3 (Wo.put_le hi3))
                  show D'.nx σ (upd w3.H (w1.m i) _)
                  rw [← em]
                  exact q
                · rw [if_neg hc3] at h4
                  exact h4.elim
              | _ => exact h4.elim
        · rw [if_neg hC] at h2
          exact h2.elim
      | _ => exact h2.elim
  | _ => exact h1.elim
end
/-! ## x, y = a, b without a tuple -/
section
variable {X : Cx} {W : WX}
def par2K (i j : Nat) (ρ : Env) : List D → Sto → RS
  | [a, b], S => .nx ((ρ.set i (some a)).set j (some b)) S
  | _, _ => .bad
def parR (k : List D → Sto → RS) (ρ : Env) : Res (List D) → RS
  | .ok xs S => k xs S
  | .exc c fs S => .exc c fs ρ S
  | .bad => .bad
def dPar2 (i j : Nat) (da : DA) (ρ : Env) (S : Sto) : RS := parR (par2K i j ρ) ρ (da ρ S)
def par3K (i j l : Nat) (ρ : Env) : List D → Sto → RS
  | [a, b, c], S => .nx (((ρ.set i (some a)).set j (some b)).set l (some c)) S
  | _, _ => .bad
def dPar3 (i j l : Nat) (da : DA) (ρ : Env) (S : Sto) : RS := parR (par3K i j l ρ) ρ (da ρ S)
theorem FinS.ofPar {w : Wo} {r : Res (List D)} {k : List D → Sto → RS} {ρ : Env} {σ : St} {D' : Ends} {P : List V → Hp → Prop} (ok : w.Ok X.K X.mg) (rr : Rσ X.K X.mg w ρ σ) (h : FinS X.K X.mg W w (parR k ρ r) D')
    (hk : ∀ (w' : Wo) (xs : List D) (vs : List V), w.Le w' → w'.Ok X.K X.mg → Rvs X.K X.mg w' xs vs → Rσ X.K X.mg w' ρ σ → FinS X.K X.mg W w' (k xs w'.S) D' → P vs w'.H) : Fin X.K X.mg w (Rvs X.K X.mg) r P (XW X.K X.mg W σ) := by
  cases r with
  | ok d S => exact fun w' v le ok' es r => hk w' d v le ok' r (rr.up ok le) (FinS.up ok' le (by rw [es]; exact h))
  | exc c fs S => exact fun w' le ok' es => h w' σ le ok' es (rr.up ok le)
  | bad => exact h
theorem ls_par2 {i j : Nat} {x y : Str} {a b : Expr} {da : DA} {px py pt pos : Pos} {kt k2 pt2} (hc : X.calm = true) (hN : X.N.Nodup) (hi : X.N[i]? = some x) (hj : X.N[j]? = some y) (hij : i ≠ j)
    (hx : X.env.scope.names.lookup x = some .local) (hy : X.env.scope.names.lookup y = some .local) (ha : PA X [a, b] (LA X.K X.mg W da))
    (hw : swappedStores [.Tuple [.Name x px, .Name y py] kt pt] (.Tuple [a, b] k2 pt2) X.env = pure (some [x, y]))
    (hs : swapsWithSole [.Tuple [.Name x px, .Name y py] kt pt] (.Tuple [a, b] k2 pt2) pos.line X.env = pure false := by rfl) :
    PS X (.Assign [.Tuple [.Name x px, .Name y py] kt pt] (.Tuple [a, b] k2 pt2) pos) (LS X.K X.mg W (dPar2 i j da)) := (ps_par hc hN hi hj hij hx hy ha hw hs).imp fun D' σ H h => by
  obtain ⟨w, ok, rfl, ρ, rr, h⟩ := h
  refine ⟨w, ok, rfl, ρ, rr, FinS.ofPar ok rr h fun w1 xs vs le1 ok1 r1 rr1 h1 => ?_⟩
  unfold par2K at h1
  split at h1
  · obtain ⟨v, u, rfl, rv, ru⟩ := r1.two
    exact ⟨v, u, rfl, h1 w1 _ (Wo.Le.refl _) ok1 rfl ((rr1.set rv i).set ru j)⟩
  · exact h1.elim
theorem ls_par3 {i j l : Nat} {x y z : Str} {a b c : Expr} {da : DA} {px py pz pt pos : Pos} {kt k2 pt2} (hc : X.calm = true) (hN : X.N.Nodup) (hi : X.N[i]? = some x) (hj : X.N[j]? = some y) (hl : X.N[l]? = some z) (hij : i ≠ j) (hil : i ≠ l) (hjl : j ≠ l)
    (hx : X.env.scope.names.lookup x = some .local) (hy : X.env.scope.names.lookup y = some .local) (hz : X.env.scope.names.lookup z = some .local) (ha : PA X [a, b, c] (LA X.K X.mg W da))
    (hw : swappedStores [.Tuple [.Name x px, .Name y py, .Name z pz] kt pt] (.Tuple [a, b, c] k2 pt2) X.env = pure (some [x, y, z]))
    (hs : swapsWithSole [.Tuple [.Name x px, .Name y py, .Name z pz] kt pt] (.Tuple [a, b, c] k2 pt2) pos.line X.env = pure false := by rfl) :
    PS X (.Assign [.Tuple [.Name x px, .Name y py, .Name z pz] kt pt] (.Tuple [a, b, c] k2 pt2) pos) (LS X.K X.mg W (dPar3 i j l da)) := (ps_par3 hc hN hi hj hl hij hil hjl hx hy hz ha hw hs).imp fun D' σ H h => by
  obtain ⟨w, ok, rfl, ρ, rr, h⟩ := h
  refine ⟨w, ok, rfl, ρ, rr, FinS.ofPar ok rr h fun w1 xs vs le1 ok1 r1 rr1 h1 => ?_⟩
  unfold par3K at h1
  split at h1
  · rw [Rvs] at r1
    obtain ⟨v, q, rfl, rv, r2⟩ := r1
    obtain ⟨u, z, rfl, ru, rz⟩ := r2.two
    exact ⟨v, u, z, rfl, h1 w1 _ (Wo.Le.refl _) ok1 rfl (((rr1.set rv i).set ru j).set rz l)⟩
  · exact h1.elim
end
/-! ## a list times a number -/
section
variable {K : PySem.W.Frag} {mg : Str → Option Value}
def mulLR (k : Int) (S : Sto) : Option Ob → Res D
  | some (.lst xs) => if 0 ≤ k ∧ k ≤ 1000000 ∧ xs.length * k.toNat ≤ sizeLine then mkLst (List.replicate k.toNat xs).flatten S else .bad
  | _ => .bad
def dMulL : D → D → Sto → Res D
  | .obj n, .int k, S => mulLR k S S[n]?
  | _, _, _ => .bad
theorem o_mulL : Op2 K mg rRep dMulL := by
  intro w a b v u Q E ok ra rb h
  unfold dMulL at h
  split at h
  · rename_i n k
    obtain ⟨hn, rfl⟩ := ra.obj
    rw [rb.int]
    cases e : w.S[n]? with
    | none => rw [e] at h; exact h.elim
    | some o =>
      rw [e] at h
      cases o with
      | lst xs =>
        unfold mulLR at h
        dsimp only at h
        split at h
        · rename_i hz
          obtain ⟨us, h1, r1⟩ := lst_mut ok e
          refine ⟨_, k, us, rfl, rfl, h1, by omega, by omega, by rw [r1.len]; exact hz.2.2, fun p hp => h.newLst ok hp (r1.rep _)⟩
        · exact h.elim
      | _ => exact h.elim
  · exact h.elim
end

/-! ## xs[::-1] -/
section
variable {K : PySem.W.Frag} {mg : Str → Option Value} {W : WX} {X : Cx}
theorem Rvs.reverse {w : Wo} : ∀ {ds : List D} {vs : List V}, Rvs K mg w ds vs → Rvs K mg w ds.reverse vs.reverse
  | [], vs, h => by
    rw [Rvs] at h
    rw [h]
    exact Rvs.nil
  | d :: ds, vs, h => by
    rw [Rvs] at h
    obtain ⟨v, us, rfl, r1, r2⟩ := h
    rw [List.reverse_cons, List.reverse_cons]
    exact (Rvs.reverse r2).append (Rvs.cons r1 Rvs.nil)
def revO (S : Sto) : Option Ob → Res D
  | some (.lst xs) => mkLst xs.reverse S
  | _ => .bad
def dRev : D → Sto → Res D
  | .obj n, S => revO S S[n]?
  | _, _ => .bad
theorem l_rev {e : Expr} {k : Nat} {p1 p2 p3 pos : Pos} {da : DE} (ha : PE X e (LE X.K X.mg W da)) : PE X (.Subscript e (.Slice none none (some (.UnaryOp .USub (.Constant (.int 1) k p1) p2)) p3) pos) (LE X.K X.mg W (eUn dRev da)) := (pe_revL ha).imp fun _ _ _ h => by
  obtain ⟨w, ok, rfl, ρ, rr, h⟩ := h
  refine ⟨w, ok, rfl, ρ, rr, h.bind fun w1 x v le1 ok1 r1 h1 => ?_⟩
  unfold dRev at h1
  split at h1
  · rename_i n
    obtain ⟨hn, rfl⟩ := r1.obj
    cases e : w1.S[n]? with
    | none => rw [e] at h1; exact h1.elim
    | some o =>
      rw [e] at h1
      cases o with
      | lst xs =>
        obtain ⟨us, h2, r2⟩ := lst_mut ok1 e
        exact ⟨_, us, rfl, .inl (.inl h2), fun p hp => h1.newLst ok1 hp r2.reverse⟩
      | _ => exact h1.elim
  · exact h1.elim
/-! ## list(range(n)) -/
def dLrg : D → Sto → Res D
  | .int j, S => if 0 ≤ j ∧ j ≤ 1000000 then mkLst (rng 0 j.toNat) S else .bad
  | _, _ => .bad
theorem l_listRg {a : Expr} {p pos p2 pos2 : Pos} {da : DE} (hc : X.calm = true) (hg : Gl X "list") (hm : X.mg "list" = none) (hg2 : Gl X "range") (hm2 : X.mg "range" = none) (ha : PE X a (LE X.K X.mg W da))
    (n1 : starEach [a] X.env = (false, eval a X.env) :: starEach [] X.env := by rfl) (n2 : starEach [Expr.Call (.Name "range" p2) [a] [] pos2] X.env = (false, eval (Expr.Call (.Name "range" p2) [a] [] pos2) X.env) :: starEach [] X.env := by rfl) :
    PE X (.Call (.Name "list" p) [.Call (.Name "range" p2) [a] [] pos2] [] pos) (LE X.K X.mg W (eUn dLrg da)) := (pe_listRg hc hg hm (prg_1 hg2 hm2 ha n1) n2).imp fun _ _ _ h => by
  obtain ⟨w, ok, rfl, ρ, rr, h⟩ := h
  refine ⟨w, ok, rfl, ρ, rr, h.bind fun w1 x v le1 ok1 r1 h1 => ?_⟩
  unfold dLrg at h1
  split at h1
  · rename_i j
    split at h1
    · rename_i hj
      refine ⟨j, r1.int, RgOk.of_le (by omega) (by omega) (by omega) (by omega), fun q hq => h1.newLst ok1 hq ?_⟩
      have e := ints_rvs (K := X.K) (mg := X.mg) (w := w1) ((List.range j.toNat).map fun i : Nat => (0 : Int) + (i : Int))
      rw [List.map_map, List.map_map] at e
      unfold rgV rng
      rw [Int.sub_zero]
      exact e
    · exact h1.elim
  · exact h1.elim
end

/-! ### suites that raise nothing -/
def NoXE (de : DE) : Prop := ∀ ρ S c fs S', de ρ S = .exc c fs S' → False
def NoXT (t : DT) : Prop := ∀ ρ S c fs S', t ρ S = .exc c fs S' → False
def NoXS (d : DS) : Prop := ∀ ρ S c fs ρ' S', d ρ S = .exc c fs ρ' S' → False
def NoX2 (f : D → D → Sto → Res D) : Prop := ∀ a b S c fs S', f a b S = .exc c fs S' → False
def NoX1 (f : D → Sto → Res D) : Prop := ∀ a S c fs S', f a S = .exc c fs S' → False
theorem nox_bind {α β : Type} {r : Res α} {k : α → Sto → Res β} (h1 : ∀ c fs S', r = .exc c fs S' → False) (h2 : ∀ a S c fs S', k a S = .exc c fs S' → False) (c : Str) (fs : List (Str × D)) (S' : Sto) (h : r.bind k = .exc c fs S') : False := by
  cases r with
  | ok a S => exact h2 _ _ _ _ _ h
  | exc c fs S => exact h1 _ _ _ rfl
  | bad => cases h
theorem nox_v {i : Nat} : NoXE (eV i) := fun ρ S c fs S' h => by
  unfold eV at h
  cases e : ρ[i]? with
  | none => rw [e] at h; cases h
  | some o => cases o <;> (rw [e] at h; cases h)
theorem nox_c {d : D} : NoXE (eC d) := fun ρ S c fs S' h => by cases h
theorem nox_op {f : D → D → Sto → Res D} {a b : DE} (hf : NoX2 f) (ha : NoXE a) (hb : NoXE b) : NoXE (eOp f a b) := fun ρ S c fs S' h =>
  nox_bind (ha ρ S) (fun x S1 c fs S' h => nox_bind (hb ρ S1) (fun y S2 c fs S' h => hf x y S2 c fs S' h) c fs S' h) c fs S' h
theorem nox_un {f : D → Sto → Res D} {a : DE} (hf : NoX1 f) (ha : NoXE a) : NoXE (eUn f a) := fun ρ S c fs S' h => nox_bind (ha ρ S) (fun x S1 c fs S' h => hf x S1 c fs S' h) c fs S' h
theorem nox_t {a : DE} (ha : NoXE a) : NoXT (eT a) := fun ρ S c fs S' h => nox_bind (ha ρ S) (fun x S1 c fs S' h => by cases x <;> cases h) c fs S' h
theorem nox_ret {a : DE} (ha : NoXE a) : NoXS (dRet a) := fun ρ S c fs ρ' S' h => by
  unfold dRet dBind at h
  cases e : a ρ S with
  | ok d S1 => rw [e] at h; cases h
  | exc c fs S1 => exact ha _ _ _ _ _ e
  | bad => rw [e] at h; cases h
theorem nox_next : NoXS dNext := fun ρ S c fs ρ' S' h => by cases h
theorem nox_if {t : DT} {a b : DS} (ht : NoXT t) (ha : NoXS a) (hb : NoXS b) : NoXS (dIfS t a b) := fun ρ S c fs ρ' S' h => by
  unfold dIfS at h
  cases e : t ρ S with
  | ok x S1 =>
    rw [e] at h
    cases x
    · exact hb _ _ _ _ _ _ h
    · exact ha _ _ _ _ _ _ h
  | exc c fs S1 => exact ht _ _ _ _ _ e
  | bad => rw [e] at h; cases h
theorem nox_eq : NoX2 dEq := fun a b S c fs S' h => by
  rcases dEq_sc (a := a) (b := b) (S := S) with e | ⟨x, y, _, _, _, e⟩ <;> (rw [e] at h; cases h)
theorem nox_ne : NoX2 dNe := fun a b S c fs S' h => nox_bind (nox_eq a b S) (fun x S1 c fs S' h => by cases x <;> cases h) c fs S' h
theorem nox_ix : NoX2 dIx := fun a b S c fs S' h => by
  unfold dIx at h
  split at h <;> first | (cases h; done) | (split at h <;> first | (cases h; done) | (split at h <;> cases h))
theorem nox_use {d : DS} (hd : NoXS d) : ∀ ρ S, ∀ c fs ρ' S', d ρ S ≠ .exc c fs ρ' S' := fun ρ S c fs ρ' S' h => hd ρ S c fs ρ' S' h
/-! ### a, b = a list -/
def tgL (n : Nat) (gs : DGs) : DG
  | .obj m, ρ, S => match lstOf S m with
    | some ds => if ds.length = n then gs ds ρ S else none
    | none => none
  | _, _, _ => none
section
variable {K : PySem.W.Frag} {mg : Str → Option Value}
theorem g_unl {vs : List Nat} {n : Nat} {gs : DGs} {u : TGs} (h : GsOk K mg vs gs u) : GOk K mg vs (tgL n gs) (gUnl K n u) := by
  intro w d v ρ ρ' σ Q ok rr r e k
  cases d with
  | obj m =>
    unfold tgL at e
    dsimp only at e
    cases em : lstOf w.S m with
    | none => rw [em] at e; cases e
    | some ds =>
      rw [em] at e
      dsimp only at e
      by_cases hl : ds.length = n
      · rw [if_pos hl] at e
        obtain ⟨xs, t, r2⟩ := lst_at ok em
        have rv : v = .ref (w.m m) := by rw [Rv] at r; exact r.2
        exact ⟨_, xs, rv, t, by rw [r2.len]; exact hl, h w _ xs ρ ρ' σ Q ok rr r2 e k⟩
      · rw [if_neg hl] at e
        cases e
  | _ => cases e
end

/-! ### {e for x in xs} of numbers -/
open PpSet (newSet_ok compLoopS_any codeAny_compStart_set eval_SetComp) in
section
def tSci (w : World) (wi : TI) (g : TG) (tt : TT) (te : TE) (vs : List Nat) : TE := fun σ H Q =>
  wi σ H fun J H1 => ∀ D, H1 D = none →
    ∃ W : Nat → Nat → Hp → Prop, (∃ m, W 0 m (upd H1 D (SetO w D (fun _ => false) 0))) ∧
      ∀ i m H, W i m H → (J.stop i H ∧ Q (.ref D) H) ∨
        (J.go i H ∧ ∃ Nx : Hp → Prop, (∀ H', Nx H' → ∃ m', m' < m ∧ W (i + 1) m' H') ∧
          ∀ x H', J.yld i H x H' → g x (wipe σ vs) H' fun σ2 H2 => wipe σ2 vs = wipe σ vs ∧ tt σ2 H2 fun b H3 =>
            if b = true then te σ2 H3 fun y H4 => ∃ (c : Int) (S : Int → Bool) (n : Nat), y = .int c ∧ H4 D = some (SetO w D S n) ∧ n + 1 < scanBound ∧
              Nx (upd H4 D (SetO w D (fun j => S j || decide (j = c)) (if S c = true then n else n + 1)))
            else Nx H3)
theorem sci_core {X : Cx} {pins : List (Addr × Obj)} {s : Shared} {σ : St} {H : Hp} {Q : VK} {elt tg iter : Expr} {ifs : List Expr} {scope : Scope} {own : List (Str × Nat)} {pos pos' : Pos} {wi : TI} {g : TG} {tt : TT} {te : TE} {use : Option (Value → Sem Unit)} {Qf : Value → Shared → Prop}
    (hc : X.calm = true) (hN : X.N.Nodup) (I : Inv X pins σ H s) (hi : PI X tg iter wi) (ok : BlkOk X.N X.env.scope scope own)
    (hg : ∀ (s : Shared) (H : Hp) (C : Addr) (cl : List (Str × Addr)) (fp : List Addr), PG (X.blk s H scope (compEnvC scope cl C X.env) fp) tg g)
    (ht : ∀ (s : Shared) (H : Hp) (C : Addr) (cl : List (Str × Addr)) (fp : List Addr), PTs (X.blk s H scope (compEnvC scope cl C X.env) fp) ifs tt)
    (he : ∀ (s : Shared) (H : Hp) (C : Addr) (cl : List (Str × Addr)) (fp : List Addr), PE (X.blk s H scope (compEnvC scope cl C X.env) fp) elt te)
    (hs : ∀ x : Value, foldedSetIterable iter X.env x = pure x) (h : tSci X.w wi g tt te (own.map (·.2)) σ H Q)
    (hRR : ∀ (D C : Addr) (s' : Shared) (m : Str → Option Value) (H' : Hp), Inv X pins σ H' s' → Q (.ref D) H' → s'.heap.Ns C m → FpOk X pins H' C → compPost (model X.prog X.w) X.A X.xe use Qf (.ref D) C (.ok .next) s') :
    wpAny (model X.prog X.w) X.A (comprehension (.SetComp elt [⟨tg, iter, ifs, 0⟩] scope pos) scope X.env pos' (newSet (.type "set")) false (eval iter X.env) use) Qf X.xe s := by
  refine wpAny_comprehension_free rfl hs (closure_ok fun y hy e => (ok.free y hy e).elim (fun k => I.ok.has y.1 (Or.inl k)) fun k => I.ok.has y.1 (Or.inr k)) ok.kind (fun y hy e => by rw [ok.uniq y hy, e]) ?_
  refine thn (hi.run pins s σ H _ I h) fun xv s1 hx => thn hx fun itv s2 h2 => ?_
  obtain ⟨it, fp, tn, J, H2, e, I2, T, st2, f2, q⟩ := h2
  subst e
  refine newSet_ok (newEnv_comp ?_)
  have hDn := HOk.fresh I2.hok (Nat.le_refl s2.heap.objs.size)
  obtain ⟨W, ⟨m0, w0⟩, turn⟩ := q s2.heap.objs.size hDn
  have I3 := Inv.laid (t' := s2.toks) I2 (fun b o e => Heap.get?_push_of_some _ e) (Nat.le_refl s2.heap.objs.size) (setO_new (P := X.prog) (H := upd H2 s2.heap.objs.size (SetO X.w s2.heap.objs.size (fun _ => false) 0)) (setR_fresh (h := s2.heap) X.w))
  have sz : ∀ b, b ∈ fp → b < s2.heap.objs.size := fun b hb => by
    obtain ⟨o, e, _⟩ := T.obj 0 s2.heap st2 b hb
    exact Heap.lt_size e
  generalize hS3 : ({ heap := s2.heap.push { cls := Value.type "set", data := Data.set #[] 0 (SetTable.fresh 0 0 !X.w.params.followText "set-order") }, gens := s2.gens, drawn := s2.drawn, toks := s2.toks, os := s2.os } : Shared) = S3 at I3 ⊢
  have h3 : S3.heap = s2.heap.push { cls := Value.type "set", data := Data.set #[] 0 (SetTable.fresh 0 0 !X.w.params.followText "set-order") } := by rw [← hS3]
  have f3 : ∀ b, b ∈ fp → FpOk X pins (upd H2 s2.heap.objs.size (SetO X.w s2.heap.objs.size (fun _ => false) 0)) b ∧ b < S3.heap.objs.size := fun b hb => by
    have hlt := sz b hb
    refine ⟨⟨?_, (f2 b hb).2⟩, ?_⟩
    · rw [upd_ne (Nat.ne_of_lt hlt)]
      exact (f2 b hb).1
    · rw [h3, Heap.size_push]
      exact Nat.lt_succ_of_lt hlt
  have st3 := T.keep 0 s2.heap S3.heap st2 fun b x o e => by
    rw [h3]
    exact Heap.get?_push_of_some _ e
  generalize hH3 : upd H2 s2.heap.objs.size (SetO X.w s2.heap.objs.size (fun _ => false) 0) = H3 at *
  generalize hDD : s2.heap.objs.size = DD at *
  have I4 := block_start I3 ok hN f3
  have pg := hg S3 H3 S3.heap.objs.size (cellsFrom (S3.heap.objs.size + 1) scope.names (cloFrom X.env.cells scope.names [])) fp
  have pt := ht S3 H3 S3.heap.objs.size (cellsFrom (S3.heap.objs.size + 1) scope.names (cloFrom X.env.cells scope.names [])) fp
  have pe := he S3 H3 S3.heap.objs.size (cellsFrom (S3.heap.objs.size + 1) scope.names (cloFrom X.env.cells scope.names [])) fp
  have nfp : ∀ b, b ∈ fp → H3 b = none := fun b hb => (f3 b hb).1.1
  change codeAny (model X.prog X.w) X.A (Code.compStart (.SetComp elt [⟨tg, iter, ifs, 0⟩] scope pos) 0 (.ref it) (.ref DD) (compEnvC scope (cellsFrom (S3.heap.objs.size + 1) scope.names (cloFrom X.env.cells scope.names [])) S3.heap.objs.size X.env)) (compPost (model X.prog X.w) X.A X.xe use Qf (.ref DD) S3.heap.objs.size) { heap := pushCells (S3.heap.push { cls := .type "dict", data := .dict #[] }) scope.names, gens := S3.gens, drawn := S3.drawn, toks := S3.toks, os := S3.os }
  have cL : (compEnvC scope (cellsFrom (S3.heap.objs.size + 1) scope.names (cloFrom X.env.cells scope.names [])) S3.heap.objs.size X.env).locals = S3.heap.objs.size := rfl
  generalize compEnvC scope (cellsFrom (S3.heap.objs.size + 1) scope.names (cloFrom X.env.cells scope.names [])) S3.heap.objs.size X.env = ce at I4 pg pt pe cL ⊢
  generalize hs4 : ({ heap := pushCells (S3.heap.push { cls := .type "dict", data := .dict #[] }) scope.names, gens := S3.gens, drawn := S3.drawn, toks := S3.toks, os := S3.os } : Shared) = s4 at I4 ⊢
  have st4 : tn 0 s4.heap := T.keep 0 S3.heap s4.heap st3 fun b x o e => by
    rw [← hs4]
    exact pushCells_keeps scope.names _ b o (Heap.get?_push_of_some _ e)
  have stat : ∀ {σ' : St} {H' : Hp} {s' : Shared}, Inv (X.blk S3 H3 scope ce fp) [] σ' H' s' → (∀ b, b ∈ fp → H' b = none) → ∀ b, b ∈ fp → FpOk (X.blk S3 H3 scope ce fp) [] H' b := fun I' hn b hb =>
    ⟨hn b hb, (I'.ok.exf b hb).1, I'.ok.exfs b hb, .inl hb, fun x c e => (I'.ok.exf b hb).2 x c e, fun p hp => by
      have hp : p ∈ ([] : List (Addr × Obj)) := hp
      cases hp⟩
  refine (fun loop => codeAny_compStart_set loop (T.self X.A 0 s4 _ _ st4 loop)) (compLoopS_any (fun n s' => ∃ (i : Nat) (H' : Hp), Inv (X.blk S3 H3 scope ce fp) [] (wipe σ (own.map (·.2))) H' s' ∧ tn i s'.heap ∧ (∀ b, b ∈ fp → H' b = none) ∧ W i n H') ?_ m0 ⟨0, H3, I4, st4, nfp, w0⟩)
  rintro n s5 ⟨i, H5, I5, st5, n5, w5⟩
  rcases turn i n H5 w5 with ⟨stop, qq⟩ | ⟨go, Nx, hNx, step⟩
  · have td := T.done (X.blk S3 H3 scope ce fp) rfl rfl rfl hc i [] s5 (wipe σ (own.map (·.2))) H5 (fun _ _ => False) I5 (stat I5 n5) st5 stop
    refine thnF td fun r s6 x => ?_
    obtain ⟨rfl, I6⟩ := x
    have I7 := Inv.call' I3 I6.os I6.base I6.hok I6.bare fun b hb => ⟨(f3 b hb).1.2.2.2.1, (f3 b hb).1.2.1, (f3 b hb).1.2.2.2.2.1, (f3 b hb).1.2.2.2.2.2⟩
    have nC : H5 S3.heap.objs.size = none := by
      have z := I6.free
      have z : H5 ce.locals = none := z
      rw [cL] at z
      exact z
    obtain ⟨m, hn, _⟩ := I6.loc
    have hn : s6.heap.Ns ce.locals m := hn
    rw [cL] at hn
    exact hRR DD S3.heap.objs.size s6 m H5 I7 qq hn (Inv.fpOk I3 (Nat.le_refl _) nC)
  · have ti := T.item (X.blk S3 H3 scope ce fp) rfl rfl rfl hc i [] s5 (wipe σ (own.map (·.2))) H5 (fun _ _ => False) I5 (stat I5 n5) st5 go
    refine thnF ti fun r s6 x => ?_
    obtain ⟨u, rfl, h6⟩ := x
    refine thnF h6 fun x s7 x_1 => ?_
    obtain ⟨x, H7, I7, r7, y7, st7, n7⟩ := x_1
    have I7' := Inv.pinned I7 (stat I7 n7) (T.obj (i + 1) s7.heap st7)
    refine thnF (pg.run ([] ++ pinsAt fp s7.heap) s7 (wipe σ (own.map (·.2))) H7 x u _ I7' r7 (step x H7 y7)) fun x s8 x_2 => ?_
    obtain ⟨σ8, H8, I8, hw8, q8⟩ := x_2
    refine thnF (pt.run ([] ++ pinsAt fp s7.heap) s8 σ8 H8 _ I8 q8) fun b s9 x => ?_
    obtain ⟨H9, I9, q9⟩ := x
    have fin : ∀ {s' : Shared} {H' : Hp}, Inv (X.blk S3 H3 scope ce fp) ([] ++ pinsAt fp s7.heap) σ8 H' s' → Nx H' → ∃ m, m < n ∧ ∃ (i : Nat) (H' : Hp), Inv (X.blk S3 H3 scope ce fp) [] (wipe σ (own.map (·.2))) H' s' ∧ tn i s'.heap ∧ (∀ b, b ∈ fp → H' b = none) ∧ W i m H' := fun {s' H'} I' nx => by
      obtain ⟨m', hm, w'⟩ := hNx _ nx
      have pin' : ∀ b, b ∈ fp → ∀ o, s7.heap.get? b = some o → s'.heap.get? b = some o ∧ H' b = none := fun b hb o e => by
        have z := I'.pin (b, o) (List.mem_append_right _ (List.mem_append_right [] (mem_pinsAt hb e)))
        exact ⟨z.1, z.2.1⟩
      have hl : (wipe σ (own.map (·.2))).length = σ8.length := by rw [← hw8, wipe_length]
      exact ⟨m', hm, i + 1, _, Inv.weak (Inv.unpinned I') hl fun j v e => (wipe_some (by rw [hw8]; exact e)).1, T.keep (i + 1) s7.heap s'.heap st7 fun b hb o e => (pin' b hb o e).1, fun b hb => by
        obtain ⟨o, e, _⟩ := T.obj (i + 1) s7.heap st7 b hb
        exact (pin' b hb o e).2, w'⟩
    cases b with
    | false =>
      rw [if_neg (by decide)] at q9 ⊢
      exact fin I9 q9
    | true =>
      rw [if_pos rfl] at q9 ⊢
      refine thnF (pe.run ([] ++ pinsAt fp s7.heap) s9 σ8 H9 _ I9 q9) fun z s10 x => ?_
      obtain ⟨yv, H10, I10, r10, cb, S0, n0, rfl, hD10, hz10, nx⟩ := x
      refine thnF (mt_sadd (X := X.blk S3 H3 scope ce fp) ([] ++ pinsAt fp s7.heap) s10 σ8 H10 (.ref DD) [.int cb] (.ref DD) [z] (fun _ H => Nx H) I10 rfl (Paired.cons r10 Paired.nil) ⟨DD, cb, S0, n0, rfl, rfl, hD10, hz10, nx⟩) fun v s11 e => ?_
      obtain ⟨_, H11, I11, _, nx⟩ := e
      exact fin I11 nx
theorem pe_sci {X : Cx} {elt tg iter : Expr} {ifs : List Expr} {scope : Scope} {own : List (Str × Nat)} {pos : Pos} {wi : TI} {g : TG} {tt : TT} {te : TE}
    (hc : X.calm = true) (hN : X.N.Nodup) (hi : PI X tg iter wi) (ok : BlkOk X.N X.env.scope scope own)
    (hg : ∀ (s : Shared) (H : Hp) (C : Addr) (cl : List (Str × Addr)) (fp : List Addr), PG (X.blk s H scope (compEnvC scope cl C X.env) fp) tg g)
    (ht : ∀ (s : Shared) (H : Hp) (C : Addr) (cl : List (Str × Addr)) (fp : List Addr), PTs (X.blk s H scope (compEnvC scope cl C X.env) fp) ifs tt)
    (he : ∀ (s : Shared) (H : Hp) (C : Addr) (cl : List (Str × Addr)) (fp : List Addr), PE (X.blk s H scope (compEnvC scope cl C X.env) fp) elt te)
    (hs : ∀ x : Value, foldedSetIterable iter X.env x = pure x := by intro x; rfl) : PE X (.SetComp elt [⟨tg, iter, ifs, 0⟩] scope pos) (tSci X.w wi g tt te (own.map (·.2))) := by
  refine ⟨fun pins s σ H Q I h => ?_⟩
  rw [eval_SetComp]
  refine sci_core hc hN I hi ok hg ht he hs h fun D C s' m H' I' q hn f => ?_
  obtain ⟨f0, f1, f2, f3, f4, f5⟩ := f
  exact ⟨m, hn, fun h'' sb => ⟨.ref D, H', Inv.turned I' (fun b o hb e => (sb.2 b hb).trans e) f0 f1 f3 f4 f5, rfl, q⟩⟩
end
section
variable {K : PySem.W.Frag} {mg : Str → Option Value}
/-- an untracked set changes -/
theorem Wo.hidx_sqt {w : Wo} {p : Addr} {xs ys : Heap → Prop} (hp : w.H p = some (.ext xs)) {a : Addr} {zs : List V} (t : SqT K w.H a zs) : SqT K (upd w.H p (.ext ys)) a zs := by
  rcases t with (t | ⟨o, t⟩) | t
  · exact .inl (.inl (by rw [upd_ne (ne_of t hp (by intro z; cases z))]; exact t))
  · exact .inl (.inr ⟨o, by rw [upd_ne (ne_of t hp (by intro z; cases z))]; exact t⟩)
  · exact .inr t
theorem Wo.hidx_sqf {w : Wo} {p : Addr} {xs ys : Heap → Prop} (hp : w.H p = some (.ext xs)) {a : Addr} {zs : List V} (t : SqF K w.H a zs) : SqF K (upd w.H p (.ext ys)) a zs := by
  rcases t with ⟨o, t⟩ | t
  · exact .inl ⟨o, by rw [upd_ne (ne_of t hp (by intro z; cases z))]; exact t⟩
  · exact .inr t
mutual
theorem Wo.hidx_rv {w : Wo} {p : Addr} {xs ys : Heap → Prop} (hp : w.H p = some (.ext xs)) : ∀ (d : D) (v : V), Rv K mg w d v → Rv K mg (w.heap (upd w.H p (.ext ys))) d v
  | .non, v, r => by rw [Rv] at r ⊢; exact r
  | .bl b, v, r => by rw [Rv] at r ⊢; exact r
  | .int i, v, r => by rw [Rv] at r ⊢; exact r
  | .str x, v, r => by rw [Rv] at r ⊢; exact r
  | .tup ds, v, r => by
    rw [Rv] at r ⊢
    obtain ⟨a, vs, e, t, q⟩ := r
    exact ⟨a, vs, e, Wo.hidx_sqt hp t, Wo.hidx_rvs hp ds vs q⟩
  | .obj n, v, r => by rw [Rv] at r ⊢; exact r
  | .fn x, v, r => by rw [Rv] at r ⊢; exact r
  | .ty n, v, r => by rw [Rv] at r ⊢; exact r
  | .raw n, v, r => by rw [Rv] at r ⊢; exact r
  | .kl ds, v, r => by
    rw [Rv] at r ⊢
    obtain ⟨a, vs, e, t, q⟩ := r
    exact ⟨a, vs, e, Wo.hidx_sqf hp t, Wo.hidx_rvs hp ds vs q⟩
  | .tk ks, v, r => by
    rw [Rv] at r ⊢
    obtain ⟨a, e, t⟩ := r
    refine ⟨a, e, ?_⟩
    show upd w.H p (.ext ys) a = some _
    rw [upd_ne fun z => ?_]
    · exact t
    · rw [z, hp] at t
      cases t
theorem Wo.hidx_rvs {w : Wo} {p : Addr} {xs ys : Heap → Prop} (hp : w.H p = some (.ext xs)) : ∀ (ds : List D) (vs : List V), Rvs K mg w ds vs → Rvs K mg (w.heap (upd w.H p (.ext ys))) ds vs
  | [], vs, r => by rw [Rvs] at r ⊢; exact r
  | d :: ds, vs, r => by
    rw [Rvs] at r ⊢
    obtain ⟨v, q, e, r1, r2⟩ := r
    exact ⟨v, q, e, Wo.hidx_rv hp d v r1, Wo.hidx_rvs hp ds q r2⟩
end
theorem Wo.hidx_rkv {κ : Type} {w : Wo} {p : Addr} {xs ys : Heap → Prop} (hp : w.H p = some (.ext xs)) : ∀ {ps : List (κ × D)} {vs : List (κ × V)}, Rkv K mg w ps vs → Rkv K mg (w.heap (upd w.H p (.ext ys))) ps vs
  | [], vs, r => r
  | q :: ps, vs, r => by
    obtain ⟨v, z, e, r1, r2⟩ := r
    exact ⟨v, z, e, Wo.hidx_rv hp _ v r1, Wo.hidx_rkv hp r2⟩
theorem Wo.hidx_rfs {w : Wo} {p : Addr} {xs ys : Heap → Prop} (hp : w.H p = some (.ext xs)) : ∀ {ps : List (Str × D)} {vs : List (Str × V)}, Rfs K mg w ps vs → Rfs K mg (w.heap (upd w.H p (.ext ys))) ps vs
  | [], vs, r => r
  | q :: ps, vs, r => by
    obtain ⟨v, z, e, r1, r2⟩ := r
    exact ⟨v, z, e, Wo.hidx_rv hp _ v r1, Wo.hidx_rfs hp r2⟩
theorem Wo.hidx_ok {w : Wo} (ok : w.Ok K mg) {p : Addr} {xs ys : Heap → Prop} (hp : w.H p = some (.ext xs)) (hn : ∀ i, i < w.S.length → w.m i ≠ p) : (w.heap (upd w.H p (.ext ys))).Ok K mg := by
  refine ⟨ok.inj, fun i o h => ?_⟩
  have r := ok.has i o h
  have hi := hn i (lt_of_get h)
  have keep : ∀ x, w.H (w.m i) = some x → (upd w.H p (.ext ys)) (w.m i) = some x := fun x e => by rw [upd_ne hi]; exact e
  cases o with
  | lst ds =>
    obtain ⟨vs, h1, h2⟩ := r
    exact ⟨vs, keep _ h1, Wo.hidx_rvs hp _ _ h2⟩
  | dk ds =>
    obtain ⟨vs, h1, h2⟩ := r
    exact ⟨vs, keep _ h1, Wo.hidx_rkv hp h2⟩
  | dt ds =>
    obtain ⟨vs, h1, h2⟩ := r
    exact ⟨vs, keep _ h1, Wo.hidx_rkv hp h2⟩
  | ins C fs =>
    obtain ⟨Ca, dx, vs, h0, h1, h2⟩ := r
    exact ⟨Ca, dx, vs, h0, keep _ h1, Wo.hidx_rfs hp h2⟩
theorem Wo.hidx_le {w0 w : Wo} (le : w0.Le w) {p : Addr} {ys : Heap → Prop} (h0 : w0.H p = none) : w0.Le (w.heap (upd w.H p (.ext ys))) := by
  refine ⟨le.len, le.ag, fun a x e n => ?_, le.nw⟩
  show upd w.H p (.ext ys) a = some x
  rw [upd_ne (ne_of_none e h0)]
  exact le.fr a x e n
end

/-! ### sorted({e for x in xs}) -/
def addI (ks : List Int) (c : Int) : List Int := if c ∈ ks then ks else ks ++ [c]
def dedI (is : List Int) : List Int := is.foldl addI []
theorem addI_mem {ks : List Int} {c k : Int} : k ∈ addI ks c ↔ k ∈ ks ∨ k = c := by
  unfold addI
  split
  · rename_i h
    exact ⟨.inl, fun z => z.elim id fun e => by rw [e]; exact h⟩
  · rw [List.mem_append, List.mem_singleton]
theorem addI_nodup {ks : List Int} {c : Int} (h : ks.Nodup) : (addI ks c).Nodup := by
  unfold addI
  split
  · exact h
  · rename_i hn
    exact List.nodup_append.mpr ⟨h, by simp, fun a ha b hb => by rw [List.mem_singleton.mp hb]; intro z; exact hn (z ▸ ha)⟩
theorem addI_len {ks : List Int} {c : Int} : (addI ks c).length = if c ∈ ks then ks.length else ks.length + 1 := by
  unfold addI
  split
  · rfl
  · rw [List.length_append]; rfl
theorem dedI_snoc (is : List Int) (c : Int) : dedI (is ++ [c]) = addI (dedI is) c := by unfold dedI; rw [List.foldl_append]; rfl
theorem dedI_len (is : List Int) : (dedI is).length ≤ is.length := by
  have key : ∀ (is ks : List Int), (is.foldl addI ks).length ≤ ks.length + is.length := fun is => by
    induction is with
    | nil => intro ks; exact Nat.le_refl _
    | cons c is ih =>
      intro ks
      have h1 := ih (addI ks c)
      have h2 : (addI ks c).length ≤ ks.length + 1 := by rw [addI_len]; split <;> omega
      rw [List.foldl_cons, List.length_cons]
      omega
  have := key is []
  rw [List.length_nil, Nat.zero_add] at this
  exact this
theorem dedI_mem (is : List Int) {k : Int} : k ∈ dedI is ↔ k ∈ is := by
  have key : ∀ (is ks : List Int), k ∈ is.foldl addI ks ↔ k ∈ ks ∨ k ∈ is := fun is => by
    induction is with
    | nil => intro ks; exact ⟨.inl, fun z => z.elim id nofun⟩
    | cons c is ih =>
      intro ks
      rw [List.foldl_cons, ih, addI_mem, List.mem_cons]
      exact ⟨fun z => by rcases z with (z | z) | z; exact .inl z; exact .inr (.inl z); exact .inr (.inr z), fun z => by rcases z with z | z | z; exact .inl (.inl z); exact .inl (.inr z); exact .inr z⟩
  unfold dedI
  rw [key]
  exact ⟨fun z => z.elim nofun id, .inr⟩
theorem dedI_nodup (is : List Int) : (dedI is).Nodup := by
  have key : ∀ (is ks : List Int), ks.Nodup → (is.foldl addI ks).Nodup := fun is => by
    induction is with
    | nil => intro ks h; exact h
    | cons c is ih => intro ks h; exact ih _ (addI_nodup h)
  exact key is [] List.nodup_nil
theorem sortI_set (ks ms : List Int) (nd : ks.Nodup) (asc : ms.Pairwise (· < ·)) (hm : ∀ k, k ∈ ms ↔ k ∈ ks) : ms = sortI ks := by
  have p : ms.Perm ks := (List.perm_ext_iff_of_nodup (asc.imp fun h => by omega) nd).mpr hm
  exact sortI_is ks ms p (asc.imp fun h => by omega)
noncomputable def dSetS (xs : List D) (S : Sto) : Res D := match asInts xs with
  | some is => if is.length < 1000 ∧ (dedI is).length < 64 then mkLst ((sortI (dedI is)).map D.int) S else .bad
  | none => .bad
noncomputable def sEnd : Res (List D) → Res D
  | .ok xs S2 => dSetS xs S2
  | .exc _ _ _ => .bad
  | .bad => .bad
noncomputable def dSetC1 (g : DG) (t : DT) (e : DE) (ρ : Env) : Walked → Sto → Res D
  | (items, still), S1 => sEnd (cLoop still g t e ρ items S1)
noncomputable def dSetC (di : DI) (g : DG) (vs : List Nat) (t : DT) (e : DE) (ρ : Env) (S : Sto) : Res D := (di ρ S).bind (dSetC1 g t e (wipeE ρ vs))

theorem asInts_app : ∀ {xs ys : List D} {is : List Int}, asInts (xs ++ ys) = some is → ∃ ks js, asInts xs = some ks ∧ asInts ys = some js ∧ is = ks ++ js
  | [], ys, is, h => ⟨[], is, rfl, h, rfl⟩
  | x :: xs, ys, is, h => by
    cases x with
    | int i =>
      have h : (asInts (xs ++ ys)).map (i :: ·) = some is := h
      obtain ⟨ms, h1, rfl⟩ := Option.map_eq_some_iff.mp h
      obtain ⟨ks, js, e1, e2, rfl⟩ := asInts_app h1
      refine ⟨i :: ks, js, ?_, e2, rfl⟩
      show (asInts xs).map (i :: ·) = _
      rw [e1]; rfl
    | _ => cases h
theorem asInts_ints : ∀ is : List Int, asInts (is.map D.int) = some is
  | [] => rfl
  | i :: is => by
    show (asInts (is.map D.int)).map (i :: ·) = _
    rw [asInts_ints is]; rfl
section
variable {K : PySem.W.Frag} {mg : Str → Option Value} {W : WX}
theorem i_setc {ww : World} {di : DI} {wi : TI} {g : DG} {tg : TG} {us vs : List Nat} {t : DT} {de : DE} (hi : IOk K mg W di wi) (hg : GOk K mg us g tg) (hu : ∀ i ∈ us, i ∈ vs) {σ : St} {H : Hp} {Q : VK} (h : LE K mg W (dSetC di g vs t de) σ H Q) :
    tCB (rSortedSet ww) (tCons (tSci ww wi tg (LT K mg W0 t) (LE K mg W0 de) vs) tNil) σ H Q := by
  obtain ⟨w, ok, rfl, ρ, rr, h⟩ := h
  show tSci ww wi tg (LT K mg W0 t) (LE K mg W0 de) vs σ w.H (fun x H1 => rSortedSet ww [x] H1 Q)
  refine hi w ρ σ _ ok rr (h.bind fun w1 p J le1 ok1 ri h1 => ?_)
  obtain ⟨items, still⟩ := p
  intro q hq
  have rr1 := (rr.up ok le1).wipe vs
  have base : w1.Le (w1.heap (upd w1.H q (SetO ww q (fun _ => false) 0))) := Wo.new_le hq
  have okb : (w1.heap (upd w1.H q (SetO ww q (fun _ => false) 0))).Ok K mg := Wo.new_ok ok1 hq
  refine ⟨fun i m H => m = items.length - i ∧ i ≤ items.length ∧ ∃ (w2 : Wo) (is : List Int) (xs : List D) (S' : Sto), w1.Le w2 ∧ w2.Ok K mg ∧ w2.H = H ∧ still w2.S ∧ w2.H q = some (SetO ww q (fun j => decide (j ∈ dedI is)) (dedI is).length) ∧ (∀ j, j < w2.S.length → w2.m j ≠ q) ∧
      cLoop still g t de (wipeE ρ vs) (items.drop i) w2.S = .ok xs S' ∧ Fin K mg w1 (Rv K mg) (dSetS (is.map D.int ++ xs) S') Q (XW K mg W σ), ?_, ?_⟩
  · cases e : cLoop still g t de (wipeE ρ vs) items w1.S with
    | bad =>
      unfold dSetC1 at h1
      dsimp only at h1
      rw [e] at h1
      exact h1.elim
    | exc c fs S =>
      unfold dSetC1 at h1
      dsimp only at h1
      rw [e] at h1
      exact h1.elim
    | ok xs S' =>
      unfold dSetC1 at h1
      dsimp only at h1
      rw [e] at h1
      refine ⟨items.length, rfl, Nat.zero_le _, w1.heap (upd w1.H q (SetO ww q (fun _ => false) 0)), [], xs, S', base, okb, rfl, ri.now, ?_, fun j hj z => ?_, e, h1⟩
      · show upd w1.H q (SetO ww q (fun _ => false) 0) q = _
        rw [upd_same]
        rfl
      · obtain ⟨o, h2, _⟩ := ok1.at (show j < w1.S.length from hj)
        have z : w1.m j = q := z
        rw [z, hq] at h2
        cases h2
  · rintro i m H2 ⟨rfl, hil, w2, is, xs, S', le2, ok2, rfl, st2, hl2, hn2, ec, hf⟩
    by_cases hlt : i < items.length
    · have ei := List.getElem?_eq_getElem hlt
      rw [List.drop_eq_getElem_cons hlt] at ec
      generalize items[i] = d at ei ec
      obtain ⟨go, yl⟩ := ri.step w2 i d le2 ok2 st2 ei
      refine .inr ⟨go, fun H' => ∃ (w2 : Wo) (is : List Int) (xs : List D) (S' : Sto), w1.Le w2 ∧ w2.Ok K mg ∧ w2.H = H' ∧ still w2.S ∧ w2.H q = some (SetO ww q (fun j => decide (j ∈ dedI is)) (dedI is).length) ∧ (∀ j, j < w2.S.length → w2.m j ≠ q) ∧
        cLoop still g t de (wipeE ρ vs) (items.drop (i + 1)) w2.S = .ok xs S' ∧ Fin K mg w1 (Rv K mg) (dSetS (is.map D.int ++ xs) S') Q (XW K mg W σ), fun H' n => ⟨items.length - (i + 1), by omega, rfl, hlt, n⟩, fun x H' y => ?_⟩
      obtain ⟨w3, le3, ok3, es3, rfl, r3⟩ := yl x H' y
      -- the hidden set is still there, and still hidden
      have hid : ∀ {wa wb : Wo} {o : HO}, wa.Ok K mg → wa.Le wb → wa.H q = some o → (∀ j, j < wa.S.length → wa.m j ≠ q) → wb.H q = some o ∧ ∀ j, j < wb.S.length → wb.m j ≠ q := fun {wa wb o} oka le hq2 hn => by
        refine ⟨le.fr _ _ hq2 hn, fun j hj z => ?_⟩
        by_cases hja : j < wa.S.length
        · rw [le.ag j hja] at z
          exact hn j hja z
        · have := le.nw j (Nat.le_of_not_lt hja) hj
          rw [z, hq2] at this
          cases this
      obtain ⟨hl3, hn3⟩ := hid ok2 le3 hl2 hn2
      have le13 := le2.trans ok2 le3
      have rr3 := (rr.up ok (le1.trans ok1 le13)).wipe vs
      unfold cLoop at ec
      rw [← es3] at ec
      cases eg : g d (wipeE ρ vs) w3.S with
      | none => rw [eg] at ec; cases ec
      | some ρ3 =>
        rw [eg] at ec
        refine hg w3 d x _ ρ3 _ _ ok3 rr3 r3 eg fun σ3 rr4 hw => ⟨?_, w3, ok3, rfl, ρ3, rr4, ?_⟩
        · rw [hw vs hu]
          have wip : ∀ us : List Nat, (∀ i ∈ us, i ∈ vs) → L2.wipe (L2.wipe σ us) vs = L2.wipe σ vs := by
            intro us
            induction us with
            | nil => intro _; rfl
            | cons u us ih =>
              intro hus
              show L2.wipe ((L2.wipe σ us).set u none) vs = _
              rw [wipe_set (hus u List.mem_cons_self), ih fun i hi => hus i (List.mem_cons_of_mem _ hi)]
          exact wip vs fun _ hi => hi
        · unfold cTg at ec
          dsimp only at ec
          cases et : t ρ3 w3.S with
          | bad => rw [et] at ec; cases ec
          | exc c fs S => rw [et] at ec; cases ec
          | ok k S4 =>
            rw [et] at ec
            intro w4 v4 le4 ok4 es4 r4
            have r4 : k = v4 := r4
            subst r4
            subst es4
            obtain ⟨hl4, hn4⟩ := hid ok3 le4 hl3 hn3
            have le14 := le13.trans ok3 le4
            have rr5 := rr4.up ok3 le4
            cases k with
            | false =>
              refine iteF ?_
              unfold cTest cSkip at ec
              dsimp only at ec
              by_cases hs : still w4.S
              · rw [if_pos hs] at ec
                exact ⟨w4, is, xs, S', le14, ok4, rfl, hs, hl4, hn4, ec, hf⟩
              · rw [if_neg hs] at ec
                cases ec
            | true =>
              refine iteT ⟨w4, ok4, rfl, ρ3, rr5, ?_⟩
              unfold cTest at ec
              dsimp only at ec
              cases ee : de ρ3 w4.S with
              | bad => rw [ee] at ec; cases ec
              | exc c fs S => rw [ee] at ec; cases ec
              | ok z S5 =>
                rw [ee] at ec
                intro w5 v5 le5 ok5 es5 r5
                subst es5
                obtain ⟨hl5, hn5⟩ := hid ok4 le5 hl4 hn4
                have le15 := le14.trans ok4 le5
                unfold cElt cSkip at ec
                dsimp only at ec
                by_cases hs : still w5.S
                · rw [if_pos hs] at ec
                  cases er : cLoop still g t de (wipeE ρ vs) (items.drop (i + 1)) w5.S with
                  | bad => rw [er] at ec; cases ec
                  | exc c fs S => rw [er] at ec; cases ec
                  | ok ys S6 =>
                    rw [er] at ec
                    unfold cHead at ec
                    injection ec with ec1 ec2
                    subst ec1 ec2
                    -- what the end asks for
                    unfold dSetS at hf
                    cases ea : asInts (is.map D.int ++ z :: ys) with
                    | none => rw [ea] at hf; exact hf.elim
                    | some all =>
                      rw [ea] at hf
                      dsimp only at hf
                      by_cases hb : all.length < 1000 ∧ (dedI all).length < 64
                      · rw [if_pos hb] at hf
                        obtain ⟨ks, js, e1, e2, e3⟩ := asInts_app ea
                        rw [asInts_ints] at e1
                        cases Option.some.inj e1
                        cases z with
                        | int c =>
                          have rv5 : v5 = V.int c := by rw [Rv] at r5; exact r5
                          have len : is.length < 1000 := by
                            have := hb.1
                            rw [e3, List.length_append] at this
                            omega
                          have le0 := dedI_len is
                          have eS : (fun j => decide (j ∈ dedI is) || decide (j = c)) = fun j => decide (j ∈ dedI (is ++ [c])) := by
                            funext j
                            rw [dedI_snoc, Bool.eq_iff_iff, Bool.or_eq_true, decide_eq_true_eq, decide_eq_true_eq, decide_eq_true_eq, addI_mem]
                          have eN : (if decide (c ∈ dedI is) = true then (dedI is).length else (dedI is).length + 1) = (dedI (is ++ [c])).length := by
                            rw [dedI_snoc, addI_len]
                            by_cases hm : c ∈ dedI is
                            · rw [if_pos hm, if_pos (decide_eq_true hm)]
                            · rw [if_neg hm, if_neg (by rw [decide_eq_false hm]; decide)]
                          refine ⟨c, _, _, rv5, hl5, by unfold scanBound; omega, ?_⟩
                          dsimp only
                          rw [eS, eN]
                          refine ⟨w5.heap (upd w5.H q (SetO ww q (fun j => decide (j ∈ dedI (is ++ [c]))) (dedI (is ++ [c])).length)), is ++ [c], ys, S6, Wo.hidx_le le15 hq, Wo.hidx_ok ok5 hl5 hn5, rfl, hs, upd_same, hn5, er, ?_⟩
                          unfold dSetS
                          rw [List.map_append, List.append_assoc]
                          show Fin K mg w1 (Rv K mg) (match asInts (is.map D.int ++ D.int c :: ys) with | some is => if is.length < 1000 ∧ (dedI is).length < 64 then mkLst ((sortI (dedI is)).map D.int) S6 else .bad | none => .bad) Q (XW K mg W σ)
                          rw [ea]
                          dsimp only
                          rw [if_pos hb]
                          exact hf
                        | _ => cases e2
                      · rw [if_neg hb] at hf
                        exact hf.elim
                · rw [if_neg hs] at ec
                  cases ec
    · have e1 : i = items.length := by omega
      subst e1
      rw [List.drop_length] at ec
      unfold cLoop at ec
      injection ec with ec1 ec2
      subst ec1 ec2
      refine .inl ⟨ri.stop w2 le2 ok2 st2, ?_⟩
      rw [List.append_nil] at hf
      unfold dSetS at hf
      rw [asInts_ints] at hf
      dsimp only at hf
      by_cases hb : is.length < 1000 ∧ (dedI is).length < 64
      · rw [if_pos hb] at hf
        refine ⟨q, _, _, rfl, hl2, hb.2, fun ns p asc hm hln hp => ?_⟩
        rw [sortI_set (dedI is) ns (dedI_nodup is) asc fun k => by rw [hm, decide_eq_true_eq]]
        exact (Fin.up ok2 le2 hf).newLst ok2 hp (ints_rvs _)
      · rw [if_neg hb] at hf
        exact hf.elim
end
section
variable {X : Cx} {W : WX} {pos p : Pos}
theorem l_setc {cpos : Pos} {elt tg iter : Expr} {ifs : List Expr} {scope : Scope} {own : List (Str × Nat)} {wi : TI} {g : DG} {t : TG} {us : List Nat} {di : DI} {dt : DT} {de : DE} (hgl : Gl X "sorted") (hm : X.mg "sorted" = none) (hv : bootBuiltins "sorted" = some (.builtin "sorted")) (hc : X.calm = true) (hN : X.N.Nodup) (hi : PI X tg iter wi) (oi : IOk X.K X.mg W di wi) (ok : BlkOk X.N X.env.scope scope own)
    (hg : ∀ (s : Shared) (H : Hp) (C : Addr) (cl : List (Str × Addr)) (fp : List Addr), PG (X.blk s H scope (compEnvC scope cl C X.env) fp) tg t) (og : GOk X.K X.mg us g t) (hu : ∀ i ∈ us, i ∈ own.map (·.2))
    (ht : ∀ (s : Shared) (H : Hp) (C : Addr) (cl : List (Str × Addr)) (fp : List Addr), PTs (X.blk s H scope (compEnvC scope cl C X.env) fp) ifs (LT X.K X.mg W0 dt))
    (he : ∀ (s : Shared) (H : Hp) (C : Addr) (cl : List (Str × Addr)) (fp : List Addr), PE (X.blk s H scope (compEnvC scope cl C X.env) fp) elt (LE X.K X.mg W0 de)) (hs : ∀ x, foldedSetIterable iter X.env x = pure x := by intro _; rfl) :
    PE X (.Call (.Name "sorted" p) [.SetComp elt [⟨tg, iter, ifs, 0⟩] scope cpos] [] pos) (LE X.K X.mg W (dSetC di g (own.map (·.2)) dt de)) :=
  (pe_callB (cr_sortedSet hc) hgl hm hv (pa_cons (pe_sci hc hN hi ok hg ht he hs) pa_nil (by rfl)) (by decide) (by decide) (by rfl) (by rfl)).imp fun _ _ _ => i_setc oi og hu
end
/-! ### xs.pop(i) -/
def mPopAt : DM
  | .obj n, [.int i], S => match S[n]? with
    | some (.lst xs) => if 0 ≤ i ∧ i < 2 ^ 63 then (match xs[i.toNat]? with
      | some d => .ok d (S.set n (.lst (xs.eraseIdx i.toNat)))
      | none => .bad) else .bad
    | _ => .bad
  | _, _, _ => .bad
section
variable {K : PySem.W.Frag} {mg : Str → Option Value}
theorem om_popAt : Opm K mg rPopAt mPopAt := by
  intro w x ds v vs Q E ok rx rs h
  unfold mPopAt at h
  split at h
  · rename_i n i
    obtain ⟨u, rfl, ru⟩ := rs.one
    obtain ⟨hn, rfl⟩ := rx.obj
    split at h
    · rename_i e1
      split at h
      · rename_i hi
        split at h
        · rename_i e2
          obtain ⟨us, h1, r1⟩ := lst_mut ok e1
          obtain ⟨z, e3, rz⟩ := r1.get e2
          have hl := lt_of_get e3
          refine ⟨_, us, i, i.toNat, z, rfl, by rw [ru.int], h1, by omega, hi.2, ?_, e3, ?_⟩
          · unfold seqIndex?
            simp only [if_neg (show ¬ i < 0 by omega)]
            rw [if_pos (by rw [Bool.and_eq_true, decide_eq_true_eq, decide_eq_true_eq]; omega)]
          · refine h.putLst (us := us.eraseIdx i.toNat) ok hn ?_ rz
            rw [List.eraseIdx_eq_take_drop_succ, List.eraseIdx_eq_take_drop_succ]
            exact (r1.take _).append (r1.drop _)
        · exact h.elim
      · exact h.elim
    · exact h.elim
  · exact h.elim
end

/-! ### sorted(d) of a dict of numbers, as many as there are -/
abbrev rSortedDB : List V → Hp → VK → Prop := fun xs H Q => ∃ (d : Addr) (kv : List (Key × V)) (ms : List Int), xs = [.ref d] ∧ Rd H d (.dK kv) ∧ kv.map (·.1) = ms.map Sum.inl ∧ ms.length ≤ sizeLine ∧
    ∀ (zs : List Int) (p : Addr), zs.Perm ms → zs.Pairwise (· ≤ ·) → H p = none → Q (.ref p) (upd H p (.lst (zs.map V.int)))
theorem keyed_ints {kvs : List (Key × Value)} {acc : List Value} {ms : List Int} (hm : kvs.map (·.1) = ms.map Sum.inl) (ha : acc.length = ms.length)
    (hi : ∀ (j : Nat) (v : Value), acc[j]? = some v → ∃ (k : Key) (x : Value), kvs[j]? = some (k, x) ∧ keyIs k v = true) : PyProof.Rows.IntsAre acc ms := by
  refine ints_each ha fun j v ev => ?_
  obtain ⟨k, x, g1, g2⟩ := hi j v ev
  have g3 : (ms.map (Sum.inl : Int → Key))[j]? = some k := by
    rw [← hm, List.getElem?_map, g1]; rfl
  rw [List.getElem?_map] at g3
  obtain ⟨y, g4, g5⟩ := Option.map_eq_some_iff.mp g3
  rcases keyIs_shape g2 with ⟨i, t, g6, g7⟩ | ⟨z, t, g6, g7⟩
  · rw [g6] at g5
    rw [Sum.inl.inj g5] at g4
    exact ⟨i, t, g4, g7⟩
  · rw [g6] at g5
    cases g5
theorem call_sortedDB {X : Cx} (calm : X.calm = true) : CallR X (.builtin "sorted") rSortedDB := by
  rintro pins s σ H xs us Q I r ⟨d, kv, ms, rfl, rd, km, lim, go⟩
  obtain ⟨u, rfl, ru⟩ := vals1 r
  cases ru
  obtain ⟨z, lo, kvs, rel, dd⟩ := dk_rd I.hok rd
  obtain ⟨ep, hd⟩ := dd.dictAt
  have hm : kvs.map (·.1) = ms.map Sum.inl := by rw [← rel.keys]; exact km
  have hl : kvs.length = ms.length := by
    have := congrArg List.length hm
    simpa only [List.length_map] using this
  refine Calls.call_function_entry PyProof.Rows.kind_sorted PyProof.Rows.plain_sorted PyProof.Rows.entry_sorted (PyProof.Rows.args_sorted1 _) ?step1
  case step1 =>
  unfold Builtin.«sorted»
  refine wpAny_bind (m := checkCount "sorted" 1 1 _) (wpAny_pure ?step2)
  case step2 =>
  refine wpAny_bind ?step3
  case step3 =>
  refine PySem.W.kdu_collect (A := X.A.in1) (PySem.W.kdl_dict (knd := mixKind X.prog X.w) (kvs := kvs) (ep := ep) lo) (I.ok.hd calm) hd (by rw [hl]; exact lim) ?_
  intro h1 tk acc keep items
  have ha : acc.toList.length = ms.length := Array.length_toList.trans (items.1.trans hl)
  have hI : PyProof.Rows.IntsAre acc.toList ms := keyed_ints hm ha fun j v ev => items.2 j v (by rw [Array.getElem?_toList] at ev; exact ev)
  have I1 : Inv X pins σ H { s with heap := h1, toks := tk } := I.kept keep
  apply wpAny_bind
  refine wpAny_newList ?_ (by rw [ha]; exact lim)
  have hN : (h1.push (PyProof.Rows.seqObj "list" acc.toList.toArray 0)).get? h1.objs.size = some (PyProof.Rows.seqObj "list" acc.toList.toArray 0) := Heap.get?_push_size _ rfl
  show wpAny _ _ _ _ _ (Shared.mk (h1.push (PyProof.Rows.seqObj "list" acc.toList.toArray 0)) s.gens s.drawn tk s.os)
  apply wpAny_bind
  apply wpAny_holding
  refine wpAny_call_entry PyProof.Rows.slot_list_sort ⟨_, hN, rfl⟩ PyProof.Rows.entry_list_sort ?_ (PyProof.Rows.args_list_sort _)
  refine SrtO.list_sort_ord SrtO.swo_int hN (by rw [ha]; exact lim) (fun two => SrtO.ints_sortable hI two) fun out o1 o2 => ⟨.none, rfl, ?_⟩
  obtain ⟨k1, k2, k3⟩ := SrtO.ints_out hI o1 o2
  obtain ⟨e2, at2⟩ := PyProof.Rows.sortedHeap_at (vs := acc.toList) (out := out.toArray) hN
  have len : ((out.map SrtO.iv).map V.int).length ≤ sizeLine := by
    rw [List.length_map, k2.length_eq]; exact lim
  refine wpAny_pure ⟨_, rfl, .ref h1.objs.size, upd H h1.objs.size (.lst ((out.map SrtO.iv).map V.int)), I1.laid (t' := tk) (fun b o e => ?_) (Nat.le_refl _)
    (show ObjOk X.prog X.w _ _ _ (.lst ((out.map SrtO.iv).map V.int)) from ⟨len, out, e2, vals_of_ints k1, at2⟩), rfl, go _ _ k2 k3 (I1.hok.fresh (Nat.le_refl _))⟩
  have lt : b < h1.objs.size := Heap.lt_size e
  rw [PyProof.Rows.sortedHeap_old (Nat.ne_of_lt lt) (by rw [PyProof.Rows.size_push']; exact Nat.lt_succ_of_lt lt)]
  apply Heap.get?_push_of_some
  exact e
noncomputable def sortBR (S : Sto) : Option (List Int) → Res D
  | some ns => if ns.length ≤ sizeLine then mkLst ((sortI ns).map D.int) S else .bad
  | none => .bad
noncomputable def dSortedDB : DF
  | [.obj n], S => sortBR S ((dkOf S n).bind keyInts)
  | _, _ => .bad
section
variable {K : PySem.W.Frag} {mg : Str → Option Value}
theorem o_sortedDB : Opn K mg rSortedDB dSortedDB := by
  intro w ds vs Q E ok r h
  unfold dSortedDB at h
  split at h
  · obtain ⟨v, rfl, r1⟩ := r.one
    rename_i n
    cases hk : (dkOf w.S n).bind keyInts with
    | none => rw [hk] at h; exact h.elim
    | some ms =>
      rw [hk] at h
      have h : Fin K mg w (Rv K mg) (if ms.length ≤ sizeLine then mkLst ((sortI ms).map D.int) w.S else .bad) Q E := h
      by_cases hl : ms.length ≤ sizeLine
      · rw [if_pos hl] at h
        obtain ⟨_, rfl⟩ := r1.obj
        obtain ⟨xs, e1, e2⟩ := Option.bind_eq_some_iff.mp hk
        obtain ⟨_, us, t, r2⟩ := dk_at ok e1
        refine ⟨_, us, ms, rfl, Rd.of t, r2.kInts e2, hl, fun zs p hp ho hn => ?_⟩
        rw [sortI_is ms zs hp ho]
        exact h.newLst ok hn (ints_rvs _)
      · rw [if_neg hl] at h
        exact h.elim
  · exact h.elim
end

/-! ### xs[::2], xs[1::2] -/
def picks {α : Type} (xs : List α) (ks : List Nat) : List α := ks.filterMap (xs[·]?)
def evens (a n : Nat) : List Nat := (List.range ((n - a + 1) / 2)).map fun k => a + 2 * k
/-- every second one, from a on -/
def stp {α : Type} (a : Nat) (xs : List α) : List α := picks xs (evens a xs.length)
theorem picks_nil {α : Type} {xs : List α} : picks xs [] = [] := rfl
theorem picks_cons {α : Type} {xs : List α} {k : Nat} {ks : List Nat} : picks xs (k :: ks) = match xs[k]? with | some x => x :: picks xs ks | none => picks xs ks := by
  unfold picks
  rw [List.filterMap_cons]
  cases xs[k]? <;> rfl
theorem vals_picks {xs : List V} {us : List Value} (r : Vals xs us) : ∀ ks : List Nat, Vals (picks xs ks) (picks us ks)
  | [] => .nil
  | k :: ks => by
    rw [picks_cons, picks_cons]
    cases h : xs[k]? with
    | none => rw [Vals.none_of r h]; exact vals_picks r ks
    | some x =>
      obtain ⟨u, h1, h2⟩ := r.get h
      rw [h1]
      exact .cons h2 (vals_picks r ks)
theorem stp_len {α : Type} (a : Nat) (xs : List α) : (stp a xs).length ≤ xs.length := by
  have h1 : (stp a xs).length ≤ (evens a xs.length).length := List.length_filterMap_le _ _
  have h2 : (evens a xs.length).length = (xs.length - a + 1) / 2 := by unfold evens; rw [List.length_map, List.length_range]
  by_cases h : xs.length = 0
  · have : xs = [] := List.eq_nil_of_length_eq_zero h
    subst this
    have : stp a ([] : List α) = [] := by
      unfold stp picks
      exact List.filterMap_eq_nil_iff.mpr fun _ _ => rfl
    rw [this]
    exact Nat.le_refl _
  · omega
theorem vals_stp {xs : List V} {us : List Value} (r : Vals xs us) (a : Nat) : Vals (stp a xs) (stp a us) := by
  unfold stp
  rw [← r.length]
  exact vals_picks r _
theorem range_step {start n : Int} {a m : Nat} (hs : start = (a : Int)) (hn : n = (m : Int)) (h : a ≤ m) : sliceRange start n 2 = evens a m := by
  subst hs hn
  unfold sliceRange evens
  dsimp only
  rw [if_pos (show (2 : Int) > 0 by decide)]
  have e : (if (a : Int) < (m : Int) then ((m : Int) - (a : Int) + 2 - 1) / 2 else 0).toNat = (m - a + 1) / 2 := by
    split
    · omega
    · have : m - a = 0 := by omega
      rw [this]; rfl
  rw [e]
  exact List.map_congr_left fun k _ => by omega
theorem pick_even (its : List Value) : slicePick its.toArray none none (some 2) = (stp 0 its).toArray := by
  unfold slicePick stp picks
  have e := range_step (start := (sliceBounds none none (some 2) its.toArray.size).1) (n := (sliceBounds none none (some 2) its.toArray.size).2.1) (a := 0) (m := its.length) rfl (by rw [← List.size_toArray]; rfl) (Nat.zero_le _)
  have e2 : (sliceBounds none none (some 2) its.toArray.size).2.2 = 2 := rfl
  rw [e2, e]
  rw [show (fun i : Nat => its.toArray[i]?) = fun i : Nat => its[i]? from funext fun i => by simp]
theorem pick_odd (its : List Value) : slicePick its.toArray (some 1) none (some 2) = (stp 1 its).toArray := by
  unfold slicePick stp picks
  have e2 : (sliceBounds (some 1) none (some 2) its.toArray.size).2.2 = 2 := rfl
  have e3 : (sliceBounds (some 1) none (some 2) its.toArray.size).2.1 = (its.length : Int) := by rw [← List.size_toArray]; rfl
  have e4 : (sliceBounds (some 1) none (some 2) its.toArray.size).1 = max 0 (min 1 (its.length : Int)) := by rw [← List.size_toArray]; rfl
  rw [e2, e3, e4]
  by_cases h : its.length = 0
  · have : its = [] := List.eq_nil_of_length_eq_zero h
    subst this
    rfl
  · rw [range_step (a := 1) (m := its.length) (by omega) rfl (by omega)]
    rw [show (fun i : Nat => its.toArray[i]?) = fun i : Nat => its[i]? from funext fun i => by simp]
def tStp (K : PySem.W.Frag) (n : Nat) (te : TE) : TE := fun σ H Q => te σ H fun x H1 => ∃ a xs, x = .ref a ∧ SqL K H1 a xs ∧ ∀ p, H1 p = none → Q (.ref p) (upd H1 p (.lst (stp n xs)))
theorem pe_stp {X : Cx} {e : Expr} {te : TE} {lo : Option Expr} {n k : Nat} {i : Option Int} {p1 p3 pos : Pos} (he : PE X e te)
    (hlo : ∀ (pins : List (Addr × Obj)) (s : Shared) (σ : St) (H : Hp), Inv X pins σ H s → wpAny (model X.prog X.w) X.A (evalPart lo X.env) (fun u s' => ∃ H', Inv X pins σ H' s' ∧ IsPart u i ∧ H' = H) X.xe s)
    (hp : ∀ its : List Value, slicePick its.toArray i none (some 2) = (stp n its).toArray)
    (hshape : ∀ (l sl : Addr), subscripted (.Slice lo none (some (.Constant (.int 2) k p1)) p3) false (.ref l) (.ref sl) = operate [.ref l, .ref sl] (getItem (.ref l) (.ref sl))) :
    PE X (.Subscript e (.Slice lo none (some (.Constant (.int 2) k p1)) p3) pos) (tStp X.K n te) := by
  refine ⟨fun pins s σ H Q I h => ?_⟩
  refine PyProof.Rows.Subscript_ (thn (he.run pins s σ H _ I h) fun v s1 g => ?_)
  obtain ⟨x, H1, I1, r1, a, xs, rfl, hx, q⟩ := g
  cases r1
  have two : PO X (some (.Constant (.int 2) k p1)) (tPart (tC (.int 2))) := po_some pe_int
  refine wpAny_Slice (thn (hlo pins s1 σ H1 I1) fun vl s2 g2 => ?_)
  obtain ⟨_, I2, pl, rfl⟩ := g2
  refine thn (po_none.run pins s2 σ _ (fun o G => o = none ∧ G = _) I2 ⟨rfl, rfl⟩) fun vu s3 g3 => ?_
  obtain ⟨_, _, I3, pu, rfl, rfl⟩ := g3
  refine thn (two.run pins s3 σ _ (fun o G => o = some 2 ∧ G = _) I3 ⟨2, rfl, rfl, rfl⟩) fun vs s4 g4 => ?_
  obtain ⟨_, _, I4, ps, rfl, rfl⟩ := g4
  have I5 : Inv X pins σ _ { s4 with heap := s4.heap.push { cls := .type "slice", data := .fields #[vl, vu, vs] } } := I4.kept (t' := s4.toks) fun b ob q => Heap.get?_push_of_some _ q
  obtain ⟨its, r, ht, hz⟩ := I5.list hx
  have hlen := r.length
  show wpAny (model X.prog X.w) X.A (PyProof.Rows.subscriptTail e (.Slice lo none (some (.Constant (.int 2) k p1)) p3) (.ref a) (.ref s4.heap.objs.size)) (EP X pins σ Q) X.xe (Shared.mk (s4.heap.push { cls := .type "slice", data := .fields #[vl, vu, vs] }) s4.gens s4.drawn s4.toks s4.os)
  refine PyProof.Rows.tail_any (ops := [.ref a, .ref s4.heap.objs.size]) ht.isList.typeIs (PySem.slot_list_getitem.lookup) ?_ (by with_unfolding_all exact hshape _ _)
  refine wpAny_getItem_list_slice ht.isList (Heap.IsSliceOf.new _ vl vu vs) pl pu ps (by decide) ?_ (by rw [List.size_toArray]; omega)
  rw [hp]
  refine ⟨.ref _, _, I5.laid (t' := s4.toks) (o := .lst (stp n xs)) (fun b ob q => Heap.get?_push_of_some _ q) (Nat.le_refl _) ?_, rfl, q _ (I5.hok.fresh (Nat.le_refl _))⟩
  exact ⟨Nat.le_trans (stp_len n xs) hz, _, 0, vals_stp r n, Heap.get?_push_size _ rfl⟩
section
variable {K : PySem.W.Frag} {mg : Str → Option Value} {W : WX} {X : Cx}
theorem rvs_picks {w : Wo} {ds : List D} {vs : List V} (r : Rvs K mg w ds vs) : ∀ ks : List Nat, Rvs K mg w (picks ds ks) (picks vs ks)
  | [] => Rvs.nil
  | k :: ks => by
    rw [picks_cons, picks_cons]
    cases h : ds[k]? with
    | none =>
      have : vs[k]? = none := List.getElem?_eq_none_iff.mpr (by rw [r.len]; exact List.getElem?_eq_none_iff.mp h)
      rw [this]
      exact rvs_picks r ks
    | some d =>
      obtain ⟨v, h1, h2⟩ := r.get h
      rw [h1]
      exact Rvs.cons h2 (rvs_picks r ks)
theorem rvs_stp {w : Wo} {ds : List D} {vs : List V} (r : Rvs K mg w ds vs) (a : Nat) : Rvs K mg w (stp a ds) (stp a vs) := by
  unfold stp
  rw [r.len]
  exact rvs_picks r _
def stpO (a : Nat) (S : Sto) : Option Ob → Res D
  | some (.lst xs) => mkLst (stp a xs) S
  | _ => .bad
def dStp (a : Nat) : D → Sto → Res D
  | .obj n, S => stpO a S S[n]?
  | _, _ => .bad
theorem l_stp {e : Expr} {lo : Option Expr} {a k : Nat} {p1 p3 pos : Pos} {da : DE} (hp : PE X (.Subscript e (.Slice lo none (some (.Constant (.int 2) k p1)) p3) pos) (tStp X.K a (LE X.K X.mg W da))) :
    PE X (.Subscript e (.Slice lo none (some (.Constant (.int 2) k p1)) p3) pos) (LE X.K X.mg W (eUn (dStp a) da)) := hp.imp fun _ _ _ h => by
  obtain ⟨w, ok, rfl, ρ, rr, h⟩ := h
  refine ⟨w, ok, rfl, ρ, rr, h.bind fun w1 x v le1 ok1 r1 h1 => ?_⟩
  unfold dStp at h1
  split at h1
  · rename_i n
    obtain ⟨hn, rfl⟩ := r1.obj
    cases e : w1.S[n]? with
    | none => rw [e] at h1; exact h1.elim
    | some o =>
      rw [e] at h1
      cases o with
      | lst xs =>
        obtain ⟨us, h2, r2⟩ := lst_mut ok1 e
        exact ⟨_, us, rfl, .inl (.inl h2), fun p hp => h1.newLst ok1 hp (rvs_stp r2 a)⟩
      | _ => exact h1.elim
  · exact h1.elim
theorem l_evens {e : Expr} {k : Nat} {p1 p3 pos : Pos} {da : DE} (ha : PE X e (LE X.K X.mg W da)) :
    PE X (.Subscript e (.Slice none none (some (.Constant (.int 2) k p1)) p3) pos) (LE X.K X.mg W (eUn (dStp 0) da)) :=
  l_stp (pe_stp (i := none) ha (fun pins s σ H I => thn (po_none.run pins s σ H (fun o G => o = none ∧ G = H) I ⟨rfl, rfl⟩) fun u s' g => by
    obtain ⟨_, G, I', pu, rfl, e⟩ := g
    exact ⟨G, I', pu, e⟩) pick_even fun _ _ => by with_unfolding_all rfl)
theorem l_odds {e : Expr} {k j : Nat} {p0 p1 p3 pos : Pos} {da : DE} (ha : PE X e (LE X.K X.mg W da)) :
    PE X (.Subscript e (.Slice (some (.Constant (.int 1) j p0)) none (some (.Constant (.int 2) k p1)) p3) pos) (LE X.K X.mg W (eUn (dStp 1) da)) :=
  l_stp (pe_stp (i := some 1) ha (fun pins s σ H I => thn ((po_some pe_int : PO X (some (.Constant (.int 1) j p0)) (tPart (tC (.int 1)))).run pins s σ H (fun o G => o = some 1 ∧ G = H) I ⟨1, rfl, rfl, rfl⟩) fun u s' g => by
    obtain ⟨_, G, I', pu, rfl, e⟩ := g
    exact ⟨G, I', pu, e⟩) pick_odd fun _ _ => by with_unfolding_all rfl)
end

/-! ### x not in xs, whole lists -/
theorem hu65 {k : Nat} {A : Around} (r : Room k A) : A.units + 65 < cLine := by have := r.un; omega
section
variable {K : PySem.W.Frag} {mg : Str → Option Value}
def inPR (neg : Bool) (S : Sto) : Option PyData → Option PyData → Res D
  | some d, some (.list ds) => if PySem.SeqAt.shaped d = true ∧ PySem.SeqAt.shaped (.list ds) = true then .ok (.bl (if neg then !(ds.any fun z => PyData.eqv z d) else ds.any fun z => PyData.eqv z d)) S else .bad
  | _, _ => .bad
def dInP (neg : Bool) (a b : D) (S : Sto) : Res D := inPR neg S (dat S 60 a) (dat S 60 b)
theorem inP_use {w : Wo} {neg : Bool} {a b : D} {Q : D → Wo → Prop} {R : Res D} {E : Prop} (h : R = inPR neg w.S (dat w.S 60 a) (dat w.S 60 b)) (bad : R ≠ .bad) :
    ∃ d ds, dat w.S 60 a = some d ∧ dat w.S 60 b = some (.list ds) ∧ PySem.SeqAt.shaped d = true ∧ PySem.SeqAt.shaped (.list ds) = true ∧ R = .ok (.bl (if neg then !(ds.any fun z => PyData.eqv z d) else ds.any fun z => PyData.eqv z d)) w.S := by
  cases e1 : dat w.S 60 a with
  | none => rw [e1] at h; exact absurd h bad
  | some d =>
    cases e2 : dat w.S 60 b with
    | none => rw [e1, e2] at h; exact absurd h bad
    | some e =>
      rw [e1, e2] at h
      cases e with
      | list ds =>
        unfold inPR at h
        dsimp only at h
        split at h
        · rename_i hs
          exact ⟨d, ds, rfl, rfl, hs.1, hs.2, h⟩
        · exact absurd h bad
      | _ => exact absurd h bad
theorem o_notInP : Op2 K mg (rNotInD K) (dInP true) := by
  intro w a b v u Q E ok ra rb h
  unfold dInP at h
  by_cases bad : inPR true w.S (dat w.S 60 a) (dat w.S 60 b) = .bad
  · rw [bad] at h; exact h.elim
  · obtain ⟨d, ds, e1, e2, s1, s2, e3⟩ := inP_use (Q := fun _ _ => True) (E := True) rfl bad
    rw [e3] at h
    exact ⟨d, ds, dat_dp ok _ _ _ _ ra e1, dat_dp ok _ _ _ _ rb e2, s1, s2, Fin.now h ok mk_bl⟩
theorem o_inP : Op2 K mg (rInD K) (dInP false) := by
  intro w a b v u Q E ok ra rb h
  unfold dInP at h
  by_cases bad : inPR false w.S (dat w.S 60 a) (dat w.S 60 b) = .bad
  · rw [bad] at h; exact h.elim
  · obtain ⟨d, ds, e1, e2, s1, s2, e3⟩ := inP_use (Q := fun _ _ => True) (E := True) rfl bad
    rw [e3] at h
    exact ⟨d, ds, dat_dp ok _ _ _ _ ra e1, dat_dp ok _ _ _ _ rb e2, s1, s2, Fin.now h ok mk_bl⟩
end

/-! ### d[k] += e, numbers -/
def augI (a k v y : D) (ρ : Env) (S : Sto) : RS := match v, y with
  | .int i, .int j => putQ3 (.int (i + j)) a k ρ S
  | _, _ => .bad
def augV (dx : DE) (a k v : D) (ρ : Env) (S : Sto) : RS := bindR (augI a k v) ρ (dx ρ S)
def augG (dx : DE) (a k : D) (ρ : Env) (S : Sto) : RS := bindR (augV dx a k) ρ (dDGet a k S)
def augK (dk dx : DE) (a : D) (ρ : Env) (S : Sto) : RS := bindR (augG dx a) ρ (dk ρ S)
def dAugD (da dk dx : DE) (ρ : Env) (S : Sto) : RS := bindR (augK dk dx) ρ (da ρ S)
section
variable {W : WX} {X : Cx} {o i e : Expr} {pos tpos : Pos} {da dk dx : DE}
theorem ls_augD (hu : X.A.units + 1 < cLine) (ho : PE X o (LE X.K X.mg W da)) (hi : PE X i (LE X.K X.mg W dk)) (hv : PE X e (LE X.K X.mg W dx))
    (ha : ∀ ov iv new, augStore i ov iv new = (do holding [new, ov, iv] (setItem ov iv new); release [new, ov, iv] []; pure .next)) :
    PS X (.AugAssign (.Subscript o i tpos) .Add e pos) (LS X.K X.mg W (dAugD da dk dx)) := (ps_daug hu ho hi hv in_add ha).imp fun D' σ H h => by
  obtain ⟨w, ok, rfl, ρ, rr, h⟩ := h
  refine ⟨w, ok, rfl, ρ, rr, FinS.ofBind ok rr h fun w1 x v le1 ok1 r1 rr1 h1 => ?_⟩
  refine ⟨w1, ok1, rfl, ρ, rr1, FinS.ofBind ok1 rr1 h1 fun w2 y u le2 ok2 r2 rr2 h2 => ?_⟩
  have h2 : FinS X.K X.mg W w2 (bindR (augV dx x y) ρ (getR w2.S (look x y w2.S))) D' := h2
  cases el : look x y w2.S with
  | none => rw [el] at h2; exact h2.elim
  | some od =>
    cases od with
    | none => rw [el] at h2; exact h2.elim
    | some d =>
      rw [el] at h2
      obtain ⟨b, r, rfl, g, g1, _⟩ := look_at ok2 (r1.up ok1 le2) r2 el
      obtain ⟨z, rfl, rz⟩ := g1 d rfl
      have h2 : FinS X.K X.mg W w2 (augV dx x y d ρ w2.S) D' := h2
      refine ⟨b, z, rfl, g, w2, ok2, rfl, ρ, rr2, FinS.ofBind ok2 rr2 h2 fun w3 t c le3 ok3 r3 rr3 h3 => ?_⟩
      have rz3 := rz.up ok2 le3
      cases d with
      | int i =>
        cases t with
        | int j =>
          refine ⟨i, j, rz3.int, r3.int, ?_⟩
          have ry := r2.up ok2 le3
          have rx := (r1.up ok1 le2).up ok2 le3
          have h3 : FinS X.K X.mg W w3 (putQ ρ w3.S (.int (i + j)) x y) D' := h3
          cases x with
          | obj n =>
            obtain ⟨hn, eb⟩ := rx.obj
            have h3 : FinS X.K X.mg W w3 (match dkOf w3.S n, keyOf y with | some kvs, some q => if kvs.length < sizeLine then .nx ρ (w3.S.set n (.dk (putD kvs q (.int (i + j))))) else .bad | _, _ => .bad) D' := h3
            cases e1 : dkOf w3.S n with
            | none => rw [e1] at h3; exact h3.elim
            | some kvs =>
              cases e2 : keyOf y with
              | none => rw [e1, e2] at h3; exact h3.elim
              | some q =>
                rw [e1, e2] at h3
                have h3 : FinS X.K X.mg W w3 (if kvs.length < sizeLine then .nx ρ (w3.S.set n (.dk (putD kvs q (.int (i + j))))) else .bad) D' := h3
                obtain ⟨e3, vs, hv, rk⟩ := dk_at ok3 e1
                by_cases hl : kvs.length < sizeLine
                · rw [if_pos hl] at h3
                  rw [ry.key e2]
                  have eb : b = w3.m n := V.ref.inj eb
                  subst eb
                  refine ⟨_, DPut.k hv (by rw [Rkv.len rk]; exact hl), ?_⟩
                  have le4 := Wo.put_le (o := .dk (putD kvs q (.int (i + j)))) (u := .dK (putK vs q (.int (i + j)))) hn
                  exact h3 (w3.put n (.dk (putD kvs q (.int (i + j)))) (.dK (putK vs q (.int (i + j))))) σ le4 (Wo.put_ok ok3 hn ⟨_, upd_same, (rk.put mk_int).up ok3 le4⟩) rfl (rr3.up ok3 le4)
                · rw [if_neg hl] at h3
                  exact h3.elim
          | _ => exact h3.elim
        | _ => exact h3.elim
      | _ => exact h3.elim
end

/-! ### shifts of great numbers -/
def CShB (i j : Int) : Prop := 0 ≤ j ∧ j ≤ 1000000 ∧ i.natAbs.log2 < 1000000
theorem bits_of_log {i : Int} (h : i.natAbs.log2 < 1000000) : Builtin.Int.intBits i ≤ 1000000 := by
  unfold Builtin.Int.intBits
  split
  · omega
  · omega
theorem op_shlB {X : Cx} : OpR X (binaryOp .LShift) (rI CShB fun i j => .int (i * 2 ^ j.toNat)) := opI fun _ _ _ _ _ _ _ hc q => PyProof.Rows.lshift_int hc.1 (by have h1 := bits_of_log hc.2.2; have h2 := hc.2.1; omega) q
def dShlB : D → D → Sto → Res D
  | .int i, .int j, S => if 0 ≤ j ∧ j ≤ 1000000 ∧ i.natAbs.log2 < 1000000 then .ok (.int (i * 2 ^ j.toNat)) S else .bad
  | _, _, _ => .bad
section
variable {K : PySem.W.Frag} {mg : Str → Option Value}
theorem o_shlB : Op2 K mg (rI CShB fun i j => .int (i * 2 ^ j.toNat)) dShlB := by
  intro w a b v u Q E ok ra rb h
  unfold dShlB at h
  split at h
  · rw [ra.int, rb.int]
    split at h
    · rename_i hz
      exact ⟨_, _, rfl, rfl, hz, Fin.now h ok mk_int⟩
    · exact h.elim
  · exact h.elim
end

/-! ## list comprehensions of two clauses -/
def cAppd (xs : List D) : Res (List D) → Res (List D)
  | .ok ys S => .ok (xs ++ ys) S
  | .exc _ _ _ => .bad
  | .bad => .bad
noncomputable def cOut (still : Sto → Prop) (k : Sto → Res (List D)) : Res (List D) → Res (List D)
  | .ok xs S2 => cAppd xs (cSkip still k S2)
  | .exc _ _ _ => .bad
  | .bad => .bad
noncomputable def cTest2 (still : Sto → Prop) (inn : Env → Sto → Res (List D)) (k : Sto → Res (List D)) (ρ1 : Env) : Res Bool → Res (List D)
  | .ok true S1 => cOut still k (inn ρ1 S1)
  | .ok false S1 => cSkip still k S1
  | .exc _ _ _ => .bad
  | .bad => .bad
noncomputable def cTg2 (still : Sto → Prop) (t : DT) (inn : Env → Sto → Res (List D)) (k : Sto → Res (List D)) (S : Sto) : Option Env → Res (List D)
  | none => .bad
  | some ρ1 => cTest2 still inn k ρ1 (t ρ1 S)
noncomputable def cLoop2 (still : Sto → Prop) (g : DG) (t : DT) (inn : Env → Sto → Res (List D)) (ρ : Env) : List D → Sto → Res (List D)
  | [], S => .ok [] S
  | d :: r, S => cTg2 still t inn (cLoop2 still g t inn ρ r) S (g d ρ S)
noncomputable def inC (g1 : DG) (t1 : DT) (e : DE) (ρ1 : Env) : Walked → Sto → Res (List D)
  | (items, still), S => cLoop still g1 t1 e ρ1 items S
noncomputable def cInn (di1 : DI) (g1 : DG) (vs1 : List Nat) (t1 : DT) (e : DE) (ρ1 : Env) (S : Sto) : Res (List D) := (di1 ρ1 S).bind (inC g1 t1 e (wipeE ρ1 vs1))
noncomputable def dComp21 (g : DG) (t : DT) (inn : Env → Sto → Res (List D)) (ρ : Env) : Walked → Sto → Res D
  | (items, still), S1 => cEnd (cLoop2 still g t inn ρ items S1)
noncomputable def dComp2 (di : DI) (g : DG) (vs : List Nat) (t : DT) (di1 : DI) (g1 : DG) (vs1 : List Nat) (t1 : DT) (e : DE) (ρ : Env) (S : Sto) : Res D := (di ρ S).bind (dComp21 g t (cInn di1 g1 vs1 t1 e) (wipeE ρ vs))
section
variable {K : PySem.W.Frag} {mg : Str → Option Value} {X : Cx} {W : WX} {pos : Pos}
/-- the world with the hidden list as it was -/
abbrev Wo.as (w : Wo) (q : Addr) (av : List V) : Wo := w.heap (upd w.H q (.lst av))
theorem Wo.as_as {w : Wo} {q : Addr} {av bv : List V} : (w.as q av).as q bv = w.as q bv := by
  show Wo.mk w.m w.S (upd (upd w.H q _) q _) = Wo.mk w.m w.S _
  rw [upd_upd]
theorem Wo.as_self {w : Wo} {q : Addr} {av : List V} (h : w.H q = some (.lst av)) : w.as q av = w := by
  show Wo.mk w.m w.S (upd w.H q _) = w
  have : upd w.H q (.lst av) = w.H := by
    funext b
    unfold upd
    split
    · rename_i e; rw [e, h]
    · rfl
  rw [this]
theorem Wo.as_le {wa wb : Wo} {q : Addr} {av : List V} (le : wa.Le wb) (hb : ∀ j, j < wb.S.length → wb.m j ≠ q) : (wa.as q av).Le (wb.as q av) := by
  refine ⟨le.len, le.ag, fun a o e n => ?_, fun i h1 h2 => ?_⟩
  · have e : upd wa.H q (.lst av) a = some o := e
    show upd wb.H q (.lst av) a = some o
    by_cases h : a = q
    · subst h
      rw [upd_same] at e ⊢
      exact e
    · rw [upd_ne h] at e ⊢
      exact le.fr a o e n
  · show upd wa.H q (.lst av) (wb.m i) = none
    rw [upd_ne (hb i h2)]
    exact le.nw i h1 h2
theorem Rσ.hid {w : Wo} {p : Addr} {xs ys : List V} (hp : w.H p = some (.lst xs)) : ∀ {ρ : Env} {σ : St}, Rσ K mg w ρ σ → Rσ K mg (w.heap (upd w.H p (.lst ys))) ρ σ
  | [], σ, r => r
  | x :: ρ, σ, r => by
    obtain ⟨y, τ, e, r1, r2⟩ := r
    refine ⟨y, τ, e, ?_, Rσ.hid hp r2⟩
    cases x with
    | none => trivial
    | some d =>
      obtain ⟨v, e2, r3⟩ := r1
      exact ⟨v, e2, Wo.hid_rv hp _ _ r3⟩
structure RIq (K : PySem.W.Frag) (mg : Str → Option Value) (q : Addr) (av : List V) (w : Wo) (p : Walked) (J : It) : Prop where
  now : p.2 w.S
  step : ∀ (w' : Wo) (i : Nat) (d : D) (bv : List V), w.Le (w'.as q av) → (w'.as q av).Ok K mg → w'.Ok K mg → w'.H q = some (.lst bv) → p.2 w'.S → p.1[i]? = some d → J.go i w'.H ∧ ∀ x H', J.yld i w'.H x H' → ∃ w3 : Wo, w'.Le w3 ∧ w3.Ok K mg ∧ w3.S = w'.S ∧ w3.H = H' ∧ Rv K mg w3 d x
  stop : ∀ (w' : Wo) (bv : List V), w.Le (w'.as q av) → (w'.as q av).Ok K mg → w'.Ok K mg → w'.H q = some (.lst bv) → p.2 w'.S → J.stop p.1.length w'.H
def IOkq (K : PySem.W.Frag) (mg : Str → Option Value) (di : DI) (wi : TI) : Prop := ∀ (w : Wo) (q : Addr) (av : List V) (ρ : Env) (σ : St) (R : It → Hp → Prop), w.Ok K mg → w.H q = some (.lst av) → (∀ j, j < w.S.length → w.m j ≠ q) → Rσ K mg w ρ σ →
  (∃ p S', di ρ w.S = .ok p S' ∧ ∀ (w' : Wo) (J : It), w.Le w' → w'.Ok K mg → w'.S = S' → RIq K mg q av w' p J → R J w'.H) → wi σ w.H R
theorem iq_list {de : DE} : IOkq K mg (wL de) (iList K (LE K mg W0 de)) := by
  intro w q av ρ σ R ok hq hn rr ⟨p, S', e0, h0⟩
  refine ⟨w, ok, rfl, ρ, rr, ?_⟩
  unfold wL at e0
  cases e1 : de ρ w.S with
  | bad => rw [e1] at e0; cases e0
  | exc c fs S => rw [e1] at e0; cases e0
  | ok x S1 =>
  rw [e1] at e0
  intro w1 v le1 ok1 es r1
  subst es
  replace e0 : toWalk x w1.S = .ok p S' := e0
  have hq1 : w1.H q = some (.lst av) := le1.fr _ _ hq hn
  unfold toWalk at e0
  split at e0
  · split at e0
    · rename_i n _ xs e
      injection e0 with a1 a2
      subst a1 a2
      obtain ⟨_, rfl⟩ := r1.obj
      obtain ⟨vs, t, rv⟩ := lst_at ok1 e
      refine ⟨_, rfl, ⟨vs, t⟩, h0 w1 _ le1 ok1 rfl ⟨e, fun w2 i d bv le oka ok2 hb e2 hi => ?_, fun w2 bv le oka ok2 hb e2 => ?_⟩⟩
      · obtain ⟨us, t2, rv2⟩ := lst_at ok2 (show lstOf w2.S n = some xs from e2)
        rw [show w2.m n = w1.m n from le.ag n r1.obj.1] at t2
        obtain ⟨z, ez, rz⟩ := rv2.get hi
        refine ⟨⟨us, z, t2, ez⟩, fun x H' y => ⟨w2, Wo.Le.refl _, ok2, rfl, y.1.symm, ?_⟩⟩
        have e3 := (y.2 us t2).symm.trans ez
        rw [Option.some.inj e3]
        exact rz
      · obtain ⟨us, t2, rv2⟩ := lst_at ok2 (show lstOf w2.S n = some xs from e2)
        rw [show w2.m n = w1.m n from le.ag n r1.obj.1] at t2
        exact ⟨us, t2, by rw [rv2.len]; exact Nat.le_refl _⟩
    · cases e0
  · rename_i xs
    injection e0 with a1 a2
    subst a1 a2
    obtain ⟨p, vs, rfl, t, rv⟩ := r1.kl
    have back : ∀ {w2 : Wo} {bv : List V}, w1.Le (w2.as q av) → w2.H q = some (.lst bv) → SqF K w2.H p vs ∧ Rvs K mg w2 xs vs := fun {w2 bv} le hb => by
      have t2 := Wo.hid_sqf (w := w2.as q av) (p := q) (ys := bv) upd_same (le.kl ok1 t)
      have r2 := Wo.hid_rvs (w := w2.as q av) (p := q) (ys := bv) upd_same _ _ (rv.up ok1 le)
      have e : (w2.as q av).as q bv = w2 := by rw [Wo.as_as, Wo.as_self hb]
      have e' : upd (w2.as q av).H q (.lst bv) = w2.H := congrArg Wo.H e
      exact ⟨by rw [← e']; exact t2, by have r2 : Rvs K mg ((w2.as q av).as q bv) xs vs := r2; rw [e] at r2; exact r2⟩
    refine ⟨_, rfl, ⟨vs, t.L⟩, h0 w1 _ le1 ok1 rfl ⟨trivial, fun w2 i d bv le oka ok2 hb e2 hi => ?_, fun w2 bv le oka ok2 hb e2 => ?_⟩⟩
    · obtain ⟨t2, r2⟩ := back le hb
      have t2 := t2.L
      obtain ⟨z, ez, rz⟩ := r2.get hi
      refine ⟨⟨vs, z, t2, ez⟩, fun x H' y => ⟨w2, Wo.Le.refl _, ok2, rfl, y.1.symm, ?_⟩⟩
      have e3 := (y.2 vs t2).symm.trans ez
      rw [Option.some.inj e3]
      exact rz
    · obtain ⟨t2, r2⟩ := back le hb
      exact ⟨vs, t2.L, by rw [rv.len]; exact Nat.le_refl _⟩
  · cases e0
theorem iq_tup {de : DE} : IOkq K mg (wT de) (iTup K (LE K mg W0 de)) := by
  intro w q av ρ σ R ok hq hn rr ⟨p, S', e0, h0⟩
  refine ⟨w, ok, rfl, ρ, rr, ?_⟩
  unfold wT at e0
  cases e1 : de ρ w.S with
  | bad => rw [e1] at e0; cases e0
  | exc c fs S => rw [e1] at e0; cases e0
  | ok x S1 =>
  rw [e1] at e0
  intro w1 v le1 ok1 es r1
  subst es
  replace e0 : toWalkT x w1.S = .ok p S' := e0
  unfold toWalkT at e0
  split at e0
  · rename_i xs
    injection e0 with a1 a2
    subst a1 a2
    obtain ⟨p, vs, rfl, t, rv⟩ := r1.tup
    have back : ∀ {w2 : Wo} {bv : List V}, w1.Le (w2.as q av) → w2.H q = some (.lst bv) → SqT K w2.H p vs ∧ Rvs K mg w2 xs vs := fun {w2 bv} le hb => by
      have t2 := Wo.hid_sqt (w := w2.as q av) (p := q) (ys := bv) upd_same (le.tup ok1 t)
      have r2 := Wo.hid_rvs (w := w2.as q av) (p := q) (ys := bv) upd_same _ _ (rv.up ok1 le)
      have e : (w2.as q av).as q bv = w2 := by rw [Wo.as_as, Wo.as_self hb]
      have e' : upd (w2.as q av).H q (.lst bv) = w2.H := congrArg Wo.H e
      exact ⟨by rw [← e']; exact t2, by have r2 : Rvs K mg ((w2.as q av).as q bv) xs vs := r2; rw [e] at r2; exact r2⟩
    refine ⟨_, rfl, ⟨vs, t⟩, h0 w1 _ le1 ok1 rfl ⟨trivial, fun w2 i d bv le oka ok2 hb e2 hi => ?_, fun w2 bv le oka ok2 hb e2 => ?_⟩⟩
    · obtain ⟨t2, r2⟩ := back le hb
      obtain ⟨z, ez, rz⟩ := r2.get hi
      refine ⟨⟨vs, z, t2, ez⟩, fun x H' y => ⟨w2, Wo.Le.refl _, ok2, rfl, y.1.symm, ?_⟩⟩
      have e3 := (y.2 vs t2).symm.trans ez
      rw [Option.some.inj e3]
      exact rz
    · obtain ⟨t2, r2⟩ := back le hb
      exact ⟨vs, t2, by rw [rv.len]; exact Nat.le_refl _⟩
  · cases e0
theorem i_comp2 {di di1 : DI} {wi wi1 : TI} {g g1 : DG} {tg tg1 : TG} {us us1 vs vs1 : List Nat} {t t1 : DT} {de : DE} (hi : IOk K mg W di wi) (hg : GOk K mg us g tg) (hu : ∀ i ∈ us, i ∈ vs) (hi1 : IOkq K mg di1 wi1) (hg1 : GOk K mg us1 g1 tg1) (hu1 : ∀ i ∈ us1, i ∈ vs1) {σ : St} {H : Hp} {Q : VK} (h : LE K mg W (dComp2 di g vs t di1 g1 vs1 t1 de) σ H Q) :
    tLc2 wi tg (LT K mg W0 t) wi1 tg1 (LT K mg W0 t1) (LE K mg W0 de) vs vs1 σ H Q := by
  obtain ⟨w, ok, rfl, ρ, rr, h⟩ := h
  refine hi w ρ σ _ ok rr (h.bind fun w1 p J le1 ok1 ri h1 => ?_)
  obtain ⟨items, still⟩ := p
  intro q hq
  have ww : ∀ (vs us : List Nat) (σ : St), (∀ i ∈ us, i ∈ vs) → L2.wipe (L2.wipe σ us) vs = L2.wipe σ vs := by
    intro vs us σ
    induction us with
    | nil => intro _; rfl
    | cons u us ih =>
      intro hus
      show L2.wipe ((L2.wipe σ us).set u none) vs = _
      rw [wipe_set (hus u List.mem_cons_self), ih fun i hi => hus i (List.mem_cons_of_mem _ hi)]
  -- the hidden list is still there, and still hidden
  have hid : ∀ {wa wb : Wo} {bv : List V}, wa.Ok K mg → wa.Le wb → wa.H q = some (.lst bv) → (∀ j, j < wa.S.length → wa.m j ≠ q) → wb.H q = some (.lst bv) ∧ ∀ j, j < wb.S.length → wb.m j ≠ q := fun {wa wb bv} oka le hq2 hn => by
    refine ⟨le.fr _ _ hq2 hn, fun j hj z => ?_⟩
    by_cases hja : j < wa.S.length
    · rw [le.ag j hja] at z
      exact hn j hja z
    · have := le.nw j (Nat.le_of_not_lt hja) hj
      rw [z, hq2] at this
      cases this
  generalize hinn : cInn di1 g1 vs1 t1 de = inn at h1
  have rr1 := (rr.up ok le1).wipe vs
  have len1 : (upd w1.H q (.lst [])) q = some (.lst []) := upd_same
  have base : w1.Le (w1.heap (upd w1.H q (.lst []))) := Wo.new_le hq
  have okb : (w1.heap (upd w1.H q (.lst []))).Ok K mg := Wo.new_ok ok1 hq
  refine ⟨fun i m H => m = items.length - i ∧ i ≤ items.length ∧ ∃ (w2 : Wo) (acc : List D) (av : List V) (xs : List D) (S' : Sto), w1.Le w2 ∧ w2.Ok K mg ∧ w2.H = H ∧ still w2.S ∧ w2.H q = some (.lst av) ∧ (∀ j, j < w2.S.length → w2.m j ≠ q) ∧ Rvs K mg w2 acc av ∧
      cLoop2 still g t inn (wipeE ρ vs) (items.drop i) w2.S = .ok xs S' ∧ Fin K mg w1 (Rv K mg) (mkLst (acc ++ xs) S') Q (XW K mg W σ), ?_, ?_⟩
  · cases e : cLoop2 still g t inn (wipeE ρ vs) items w1.S with
    | bad =>
      unfold dComp21 at h1
      dsimp only at h1
      rw [e] at h1
      exact h1.elim
    | exc c fs S =>
      unfold dComp21 at h1
      dsimp only at h1
      rw [e] at h1
      exact h1.elim
    | ok xs S' =>
      unfold dComp21 at h1
      dsimp only at h1
      rw [e] at h1
      refine ⟨items.length, rfl, Nat.zero_le _, w1.heap (upd w1.H q (.lst [])), [], [], xs, S', base, okb, rfl, ri.now, upd_same, fun j hj z => ?_, Rvs.nil, e, h1⟩
      obtain ⟨o, h2, _⟩ := ok1.at (show j < w1.S.length from hj)
      have z : w1.m j = q := z
      rw [z, hq] at h2
      cases h2
  · rintro i m H2 ⟨rfl, hil, w2, acc, av, xs, S', le2, ok2, rfl, st2, hl2, hn2, ra, ec, hf⟩
    by_cases hlt : i < items.length
    · have ei := List.getElem?_eq_getElem hlt
      rw [List.drop_eq_getElem_cons hlt] at ec
      generalize items[i] = d at ei ec
      obtain ⟨go, yl⟩ := ri.step w2 i d le2 ok2 st2 ei
      refine .inr ⟨go, fun H' => ∃ (w2 : Wo) (acc : List D) (av : List V) (xs : List D) (S' : Sto), w1.Le w2 ∧ w2.Ok K mg ∧ w2.H = H' ∧ still w2.S ∧ w2.H q = some (.lst av) ∧ (∀ j, j < w2.S.length → w2.m j ≠ q) ∧ Rvs K mg w2 acc av ∧
        cLoop2 still g t inn (wipeE ρ vs) (items.drop (i + 1)) w2.S = .ok xs S' ∧ Fin K mg w1 (Rv K mg) (mkLst (acc ++ xs) S') Q (XW K mg W σ), fun H' n => ⟨items.length - (i + 1), by omega, rfl, hlt, n⟩, fun x H' y => ?_⟩
      obtain ⟨w3, le3, ok3, es3, rfl, r3⟩ := yl x H' y
      obtain ⟨hl3, hn3⟩ := hid ok2 le3 hl2 hn2
      have le13 := le2.trans ok2 le3
      have rr3 := (rr.up ok (le1.trans ok1 le13)).wipe vs
      unfold cLoop2 at ec
      rw [← es3] at ec
      cases eg : g d (wipeE ρ vs) w3.S with
      | none => rw [eg] at ec; cases ec
      | some ρ3 =>
        rw [eg] at ec
        refine hg w3 d x _ ρ3 _ _ ok3 rr3 r3 eg fun σ3 rr4 hw => ⟨?_, w3, ok3, rfl, ρ3, rr4, ?_⟩
        · rw [hw vs hu]
          exact ww vs vs σ fun _ hi => hi
        · unfold cTg2 at ec
          dsimp only at ec
          cases et : t ρ3 w3.S with
          | bad => rw [et] at ec; cases ec
          | exc c fs S => rw [et] at ec; cases ec
          | ok k S4 =>
            rw [et] at ec
            intro w4 v4 le4 ok4 es4 r4
            have r4 : k = v4 := r4
            subst r4
            subst es4
            obtain ⟨hl4, hn4⟩ := hid ok3 le4 hl3 hn3
            have le14 := le13.trans ok3 le4
            have ra4 := ((ra.up ok2 le3).up ok3 le4)
            have rr5 := rr4.up ok3 le4
            cases k with
            | false =>
              refine iteF ?_
              unfold cTest2 cSkip at ec
              dsimp only at ec
              by_cases hs : still w4.S
              · rw [if_pos hs] at ec
                exact ⟨w4, acc, av, xs, S', le14, ok4, rfl, hs, hl4, hn4, ra4, ec, hf⟩
              · rw [if_neg hs] at ec
                cases ec
            | true =>
              refine iteT ?_
              unfold cTest2 at ec
              dsimp only at ec
              have hin : inn ρ3 w4.S = (di1 ρ3 w4.S).bind (inC g1 t1 de (wipeE ρ3 vs1)) := by rw [← hinn]; rfl
              rw [hin] at ec
              cases e1 : di1 ρ3 w4.S with
              | bad => rw [e1] at ec; cases ec
              | exc c fs S => rw [e1] at ec; cases ec
              | ok p1 S5 =>
              rw [e1] at ec
              obtain ⟨items1, still1⟩ := p1
              have ec : cOut still (cLoop2 still g t inn (wipeE ρ vs) (items.drop (i + 1))) (cLoop still1 g1 t1 de (wipeE ρ3 vs1) items1 S5) = .ok xs S' := ec
              refine hi1 w4 q av ρ3 σ3 _ ok4 hl4 hn4 rr5 ⟨_, _, e1, fun w5 J1 le5 ok5 es5 ri1 => ?_⟩
              subst es5
              obtain ⟨hl5, hn5⟩ := hid ok4 le5 hl4 hn4
              have le15 := le14.trans ok4 le5
              have ra5 := ra4.up ok4 le5
              have rr6 := rr5.up ok4 le5
              have self5 : w5.Le (w5.as q av) := by rw [Wo.as_self hl5]; exact Wo.Le.refl _
              refine ⟨fun j k H => k = items1.length - j ∧ j ≤ items1.length ∧ ∃ (wa : Wo) (acc2 : List D) (bv : List V) (xs1 ys : List D) (S6 S7 : Sto), w1.Le wa ∧ w5.Le (wa.as q av) ∧ wa.Ok K mg ∧ wa.H = H ∧ still1 wa.S ∧ wa.H q = some (.lst bv) ∧ (∀ j, j < wa.S.length → wa.m j ≠ q) ∧ Rvs K mg wa acc2 bv ∧ Rσ K mg wa ρ3 σ3 ∧
                cLoop still1 g1 t1 de (wipeE ρ3 vs1) (items1.drop j) wa.S = .ok xs1 S6 ∧ cSkip still (cLoop2 still g t inn (wipeE ρ vs) (items.drop (i + 1))) S6 = .ok ys S7 ∧ Fin K mg w1 (Rv K mg) (mkLst (acc2 ++ (xs1 ++ ys)) S7) Q (XW K mg W σ), ?_, ?_⟩
              · cases e6 : cLoop still1 g1 t1 de (wipeE ρ3 vs1) items1 w5.S with
                | bad => rw [e6] at ec; cases ec
                | exc c fs S => rw [e6] at ec; cases ec
                | ok xs1 S6 =>
                  rw [e6] at ec
                  unfold cOut at ec
                  dsimp only at ec
                  cases e7 : cSkip still (cLoop2 still g t inn (wipeE ρ vs) (items.drop (i + 1))) S6 with
                  | bad => rw [e7] at ec; cases ec
                  | exc c fs S => rw [e7] at ec; cases ec
                  | ok ys S7 =>
                    rw [e7] at ec
                    have ec : Res.ok (xs1 ++ ys) S7 = .ok xs S' := ec
                    injection ec with a1 a2
                    subst a1 a2
                    exact ⟨items1.length, rfl, Nat.zero_le _, w5, acc, av, xs1, ys, S6, S7, le15, self5, ok5, rfl, ri1.now, hl5, hn5, ra5, rr6, e6, e7, hf⟩
              · rintro j k Hj ⟨rfl, hjl, wa, acc2, bv, xs1, ys, S6, S7, le1a, lea, oka, rfl, sta, hla, hna, raa, rra, eca, esk, hfa⟩
                have oks : (wa.as q av).Ok K mg := Wo.hid_ok oka hla hna
                by_cases hlt1 : j < items1.length
                · have ei1 := List.getElem?_eq_getElem hlt1
                  rw [List.drop_eq_getElem_cons hlt1] at eca
                  generalize items1[j] = d1 at ei1 eca
                  obtain ⟨go1, yl1⟩ := ri1.step wa j d1 bv lea oks oka hla sta ei1
                  refine .inr ⟨go1, fun H' => ∃ (wa : Wo) (acc2 : List D) (bv : List V) (xs1 ys : List D) (S6 S7 : Sto), w1.Le wa ∧ w5.Le (wa.as q av) ∧ wa.Ok K mg ∧ wa.H = H' ∧ still1 wa.S ∧ wa.H q = some (.lst bv) ∧ (∀ j, j < wa.S.length → wa.m j ≠ q) ∧ Rvs K mg wa acc2 bv ∧ Rσ K mg wa ρ3 σ3 ∧
                    cLoop still1 g1 t1 de (wipeE ρ3 vs1) (items1.drop (j + 1)) wa.S = .ok xs1 S6 ∧ cSkip still (cLoop2 still g t inn (wipeE ρ vs) (items.drop (i + 1))) S6 = .ok ys S7 ∧ Fin K mg w1 (Rv K mg) (mkLst (acc2 ++ (xs1 ++ ys)) S7) Q (XW K mg W σ), fun H' n => ⟨items1.length - (j + 1), by omega, rfl, hlt1, n⟩, fun x1 H' y1 => ?_⟩
                  obtain ⟨wb, leb, okb2, esb, rfl, rb⟩ := yl1 x1 H' y1
                  obtain ⟨hlb, hnb⟩ := hid oka leb hla hna
                  have le1b := le1a.trans oka leb
                  have le5b := lea.trans oks (Wo.as_le leb hnb)
                  have rrb := rra.up oka leb
                  unfold cLoop at eca
                  rw [← esb] at eca
                  cases eg1 : g1 d1 (wipeE ρ3 vs1) wb.S with
                  | none => rw [eg1] at eca; cases eca
                  | some ρ7 =>
                    rw [eg1] at eca
                    refine hg1 wb d1 x1 _ ρ7 _ _ okb2 (rrb.wipe vs1) rb eg1 fun σ7 rr7 hw7 => ⟨?_, wb, okb2, rfl, ρ7, rr7, ?_⟩
                    · rw [hw7 vs1 hu1]
                      exact ww vs1 vs1 σ3 fun _ hi => hi
                    · unfold cTg at eca
                      dsimp only at eca
                      cases et1 : t1 ρ7 wb.S with
                      | bad => rw [et1] at eca; cases eca
                      | exc c fs S => rw [et1] at eca; cases eca
                      | ok k1 S8 =>
                        rw [et1] at eca
                        intro wc vc lec okc esc rc
                        have rc : k1 = vc := rc
                        subst rc
                        subst esc
                        obtain ⟨hlc, hnc⟩ := hid okb2 lec hlb hnb
                        have le1c := le1b.trans okb2 lec
                        have okbs : (wb.as q av).Ok K mg := Wo.hid_ok okb2 hlb hnb
                        have le5c := le5b.trans okbs (Wo.as_le lec hnc)
                        have rac := ((raa.up oka leb).up okb2 lec)
                        have rrc := rrb.up okb2 lec
                        have rr8 := rr7.up okb2 lec
                        cases k1 with
                        | false =>
                          refine iteF ?_
                          unfold cTest cSkip at eca
                          dsimp only at eca
                          by_cases hs : still1 wc.S
                          · rw [if_pos hs] at eca
                            exact ⟨wc, acc2, bv, xs1, ys, S6, S7, le1c, le5c, okc, rfl, hs, hlc, hnc, rac, rrc, eca, esk, hfa⟩
                          · rw [if_neg hs] at eca
                            cases eca
                        | true =>
                          refine iteT ⟨wc, okc, rfl, ρ7, rr8, ?_⟩
                          unfold cTest at eca
                          dsimp only at eca
                          cases ee : de ρ7 wc.S with
                          | bad => rw [ee] at eca; cases eca
                          | exc c fs S => rw [ee] at eca; cases eca
                          | ok z S9 =>
                            rw [ee] at eca
                            intro wd vd led okd esd rd
                            subst esd
                            obtain ⟨hld, hnd⟩ := hid okc led hlc hnc
                            have le1d := le1c.trans okc led
                            have okcs : (wc.as q av).Ok K mg := Wo.hid_ok okc hlc hnc
                            have le5d := le5c.trans okcs (Wo.as_le led hnd)
                            have rad := rac.up okc led
                            have rrd := rrc.up okc led
                            unfold cElt cSkip at eca
                            dsimp only at eca
                            by_cases hs : still1 wd.S
                            · rw [if_pos hs] at eca
                              cases er : cLoop still1 g1 t1 de (wipeE ρ3 vs1) (items1.drop (j + 1)) wd.S with
                              | bad => rw [er] at eca; cases eca
                              | exc c fs S => rw [er] at eca; cases eca
                              | ok zs S10 =>
                                rw [er] at eca
                                unfold cHead at eca
                                injection eca with a1 a2
                                subst a1 a2
                                have hlen := hfa.lstLen
                                rw [List.length_append, List.length_append, List.length_cons] at hlen
                                refine ⟨bv, hld, by rw [rad.len]; omega, wd.heap (upd wd.H q (.lst (bv ++ [vd]))), acc2 ++ [z], bv ++ [vd], zs, ys, S10, S7, Wo.hid_le le1d hq, ?_, Wo.hid_ok okd hld hnd, rfl, hs, upd_same, hnd, Wo.hid_rvs hld _ _ (rad.append (Rvs.cons rd Rvs.nil)), Rσ.hid hld rrd, er, esk, ?_⟩
                                · show w5.Le ((wd.as q (bv ++ [vd])).as q av)
                                  rw [Wo.as_as]
                                  exact le5d
                                · rw [List.append_assoc]
                                  exact hfa
                            · rw [if_neg hs] at eca
                              cases eca
                · have e1 : j = items1.length := by omega
                  subst e1
                  rw [List.drop_length] at eca
                  unfold cLoop at eca
                  injection eca with a1 a2
                  subst a1 a2
                  refine .inl ⟨ri1.stop wa bv lea oks oka hla sta, ?_⟩
                  unfold cSkip at esk
                  by_cases hs : still wa.S
                  · rw [if_pos hs] at esk
                    exact ⟨wa, acc2, bv, ys, S7, le1a, oka, rfl, hs, hla, hna, raa, esk, hfa⟩
                  · rw [if_neg hs] at esk
                    cases esk
    · have e1 : i = items.length := by omega
      subst e1
      rw [List.drop_length] at ec
      unfold cLoop2 at ec
      injection ec with ec1 ec2
      subst ec1 ec2
      refine .inl ⟨ri.stop w2 le2 ok2 st2, ?_⟩
      rw [List.append_nil] at hf
      unfold mkLst at hf
      by_cases hl : acc.length ≤ sizeLine
      · rw [if_pos hl] at hf
        have ad := Wo.adopt ok2 hl2 hn2 ra
        have le : w1.Le (Wo.mk (fun i => if i = w2.S.length then q else w2.m i) (w2.S ++ [Ob.lst acc]) w2.H) := by
          refine ⟨?_, fun i hi => ?_, le2.fr, fun i hi hi2 => ?_⟩
          · show w1.S.length ≤ (w2.S ++ [Ob.lst acc]).length
            rw [List.length_append]
            have := le2.len
            omega
          · show (if i = w2.S.length then q else w2.m i) = w1.m i
            rw [if_neg (Nat.ne_of_lt (Nat.lt_of_lt_of_le hi le2.len))]
            exact le2.ag i hi
          · show w1.H (if i = w2.S.length then q else w2.m i) = none
            by_cases h1 : i = w2.S.length
            · rw [if_pos h1]
              exact hq
            · rw [if_neg h1]
              have hi2 : i < (w2.S ++ [Ob.lst acc]).length := hi2
              rw [List.length_append] at hi2
              have hi2 : i < w2.S.length + 1 := hi2
              exact le2.nw i hi (by omega)
        refine hf (Wo.mk (fun i => if i = w2.S.length then q else w2.m i) (w2.S ++ [Ob.lst acc]) w2.H) (.ref q) le ad rfl ?_
        rw [Rv]
        exact ⟨by show w2.S.length < (w2.S ++ [Ob.lst acc]).length; rw [List.length_append]; exact Nat.lt_succ_self _, by show V.ref q = V.ref (if w2.S.length = w2.S.length then q else w2.m w2.S.length); rw [if_pos rfl]⟩
      · rw [if_neg hl] at hf
        exact hf.elim
section
variable {elt tg iter tg1 iter1 : Expr} {ifs ifs1 : List Expr} {scope : Scope} {own : List (Str × Nat)} {wi wi1 : TI} {g g1 : DG} {t t1 : TG} {us us1 vs1 : List Nat} {di di1 : DI} {dt dt1 : DT} {de : DE}
theorem l_comp2 (hc : X.calm = true) (hN : X.N.Nodup) (hi : PI X tg iter wi) (oi : IOk X.K X.mg W di wi) (ok : BlkOk X.N X.env.scope scope own) (hv : ∀ i ∈ vs1, i ∈ own.map (·.2))
    (hg : ∀ (s : Shared) (H : Hp) (C : Addr) (cl : List (Str × Addr)) (fp : List Addr), PG (X.blk s H scope (compEnvC scope cl C X.env) fp) tg t) (og : GOk X.K X.mg us g t) (hu : ∀ i ∈ us, i ∈ own.map (·.2))
    (ht : ∀ (s : Shared) (H : Hp) (C : Addr) (cl : List (Str × Addr)) (fp : List Addr), PTs (X.blk s H scope (compEnvC scope cl C X.env) fp) ifs (LT X.K X.mg W0 dt))
    (hi1 : ∀ (s : Shared) (H : Hp) (C : Addr) (cl : List (Str × Addr)) (fp : List Addr), PI (X.blk s H scope (compEnvC scope cl C X.env) fp) tg1 iter1 wi1) (oi1 : IOkq X.K X.mg di1 wi1)
    (hg1 : ∀ (s : Shared) (H : Hp) (C : Addr) (cl : List (Str × Addr)) (fp : List Addr), PG (X.blk s H scope (compEnvC scope cl C X.env) fp) tg1 t1) (og1 : GOk X.K X.mg us1 g1 t1) (hu1 : ∀ i ∈ us1, i ∈ vs1)
    (ht1 : ∀ (s : Shared) (H : Hp) (C : Addr) (cl : List (Str × Addr)) (fp : List Addr), PTs (X.blk s H scope (compEnvC scope cl C X.env) fp) ifs1 (LT X.K X.mg W0 dt1))
    (he : ∀ (s : Shared) (H : Hp) (C : Addr) (cl : List (Str × Addr)) (fp : List Addr), PE (X.blk s H scope (compEnvC scope cl C X.env) fp) elt (LE X.K X.mg W0 de)) (hs : ∀ x, foldedSetIterable iter X.env x = pure x := by intro _; rfl) (hs1 : ∀ env x, foldedSetIterable iter1 env x = pure x := by intro _ _; rfl) :
    PE X (.ListComp elt [⟨tg, iter, ifs, 0⟩, ⟨tg1, iter1, ifs1, 0⟩] scope pos) (LE X.K X.mg W (dComp2 di g (own.map (·.2)) dt di1 g1 vs1 dt1 de)) := (pe_lc2 hc hN hi ok hv hg ht hi1 hg1 ht1 he hs hs1).imp fun _ _ _ => i_comp2 oi og hu oi1 og1 hu1
theorem ls_setComp2 {i : Nat} {y : Str} {py spos : Pos} (hc : X.calm = true) (hN : X.N.Nodup) (hy : X.N[i]? = some y) (hyl : X.env.scope.names.lookup y = some .local)
    (hsw : swapsWith (.ListComp elt [⟨tg, iter, ifs, 0⟩, ⟨tg1, iter1, ifs1, 0⟩] scope pos) (some (.Name y py)) spos.line X.env = pure true) (hi : PI X tg iter wi) (oi : IOk X.K X.mg W di wi) (ok : BlkOk X.N X.env.scope scope own) (hv : ∀ i ∈ vs1, i ∈ own.map (·.2))
    (hg : ∀ (s : Shared) (H : Hp) (C : Addr) (cl : List (Str × Addr)) (fp : List Addr), PG (X.blk s H scope (compEnvC scope cl C X.env) fp) tg t) (og : GOk X.K X.mg us g t) (hu : ∀ i ∈ us, i ∈ own.map (·.2))
    (ht : ∀ (s : Shared) (H : Hp) (C : Addr) (cl : List (Str × Addr)) (fp : List Addr), PTs (X.blk s H scope (compEnvC scope cl C X.env) fp) ifs (LT X.K X.mg W0 dt))
    (hi1 : ∀ (s : Shared) (H : Hp) (C : Addr) (cl : List (Str × Addr)) (fp : List Addr), PI (X.blk s H scope (compEnvC scope cl C X.env) fp) tg1 iter1 wi1) (oi1 : IOkq X.K X.mg di1 wi1)
    (hg1 : ∀ (s : Shared) (H : Hp) (C : Addr) (cl : List (Str × Addr)) (fp : List Addr), PG (X.blk s H scope (compEnvC scope cl C X.env) fp) tg1 t1) (og1 : GOk X.K X.mg us1 g1 t1) (hu1 : ∀ i ∈ us1, i ∈ vs1)
    (ht1 : ∀ (s : Shared) (H : Hp) (C : Addr) (cl : List (Str × Addr)) (fp : List Addr), PTs (X.blk s H scope (compEnvC scope cl C X.env) fp) ifs1 (LT X.K X.mg W0 dt1))
    (he : ∀ (s : Shared) (H : Hp) (C : Addr) (cl : List (Str × Addr)) (fp : List Addr), PE (X.blk s H scope (compEnvC scope cl C X.env) fp) elt (LE X.K X.mg W0 de)) (hs : ∀ x, foldedSetIterable iter X.env x = pure x := by intro _; rfl) (hs1 : ∀ env x, foldedSetIterable iter1 env x = pure x := by intro _ _; rfl) :
    PS X (.Assign [.Name y py] (.ListComp elt [⟨tg, iter, ifs, 0⟩, ⟨tg1, iter1, ifs1, 0⟩] scope pos) spos) (LS X.K X.mg W (dSet i (dComp2 di g (own.map (·.2)) dt di1 g1 vs1 dt1 de))) := (ps_setLc2 hc hN hy hyl hsw hi ok hv hg ht hi1 hg1 ht1 he hs hs1).imp fun D' σ H h => by
  obtain ⟨w, ok, rfl, ρ, rr, h⟩ := h
  have h2 : LE X.K X.mg W (dComp2 di g (own.map (·.2)) dt di1 g1 vs1 dt1 de) σ w.H (fun x H1 => gName i x σ H1 D'.nx) := i_bind (de := dComp2 di g (own.map (·.2)) dt di1 g1 vs1 dt1 de) (D' := D') ⟨w, ok, rfl, ρ, rr, h⟩ fun w d v ρ ok r rr h => h.now ok (rr.set r i)
  exact i_comp2 oi og hu oi1 og1 hu1 h2
end
end

/-! ## chains of three comparisons -/
section
variable {K : PySem.W.Frag} {mg : Str → Option Value} {W : WX} {X : Cx} {pos : Pos} {a b c d : Expr} {ta tb tc td : TE}
def tChainQ (r r' r'' : R2) (ta tb tc td : TE) : TE := fun σ H Q => ta σ H fun x H1 => tb σ H1 fun y H2 => r x y H2 fun z H3 => ∃ k, z = .bl k ∧
  (if k = true then tc σ H3 fun w' H4 => r' y w' H4 fun z2 H5 => ∃ k2, z2 = .bl k2 ∧ (if k2 = true then td σ H5 fun u' H6 => r'' w' u' H6 Q else Q (.bl false) H5) else Q (.bl false) H3)
theorem pt_chainQ {op op' op'' : CmpOp} {r r' r'' : R2} (ho : OpR X (compareOp op) r) (ho' : OpR X (compareOp op') r') (ho'' : OpR X (compareOp op'') r'') (ha : PE X a ta) (hb : PE X b tb) (hc : PE X c tc) (hd : PE X d td)
    (hm : lastMarks [op, op', op''] [b, c, d] = false := by with_unfolding_all rfl) : PT X (.Compare a [op, op', op''] [b, c, d] pos) (tTest (tChainQ r r' r'' ta tb tc td)) := by
  refine ⟨fun pins s σ H Q I h => ?_⟩
  refine PyProof.Rows.isTrue_chain (thn (ha.run pins s σ H _ I h) fun v s1 ⟨x, H1, I1, r1, q1⟩ => PyProof.Rows.test_link (thn (hb.run pins s1 σ H1 _ I1 q1) fun u s2 ⟨y, H2, I2, r2, q2⟩ =>
    thn (ho pins s2 σ H2 x y v u _ I2 r1 r2 q2) fun d s3 ⟨z, H3, I3, r3, k, e, q3⟩ => ?_)) hm
  subst e
  cases r3
  refine wpAny_truthy_bool ?_
  cases k with
  | false =>
    obtain ⟨k', e', q'⟩ := q3
    cases e'
    exact iteF ⟨H3, I3, q'⟩
  | true =>
    refine iteT (PyProof.Rows.test_link (thn (hc.run pins s3 σ H3 _ I3 q3) fun w' s4 ⟨z', H4, I4, r4, q4⟩ => thn (ho' pins s4 σ H4 y z' u w' _ I4 r2 r4 q4) fun d' s5 ⟨z2, H5, I5, r5, k2, e2, q5⟩ => ?_))
    subst e2
    cases r5
    refine wpAny_truthy_bool ?_
    cases k2 with
    | false =>
      obtain ⟨k', e', q'⟩ := q5
      cases e'
      exact iteF ⟨H5, I5, q'⟩
    | true =>
      refine iteT (PyProof.Rows.test_last (thn (hd.run pins s5 σ H5 _ I5 q5) fun w2 s6 ⟨z3, H6, I6, r6, q6⟩ => thn (ho'' pins s6 σ H6 z' z3 w' w2 _ I6 r4 r6 q6) fun d2 s7 ⟨z4, H7, I7, r7, k3, e3, q7⟩ => ?_))
      subst e3
      cases r7
      exact wpAny_truthy_bool ⟨H7, I7, q7⟩
def eQ4 (g h : D → D → Sto → Res D) (dd : DE) (ρ : Env) (y z : D) (S : Sto) : Res D := (g y z S).bind (eChain3 h dd ρ z)
def eQ3 (g h : D → D → Sto → Res D) (dc dd : DE) (ρ : Env) (y : D) : D → Sto → Res D
  | .bl true, S3 => (dc ρ S3).bind (eQ4 g h dd ρ y)
  | .bl false, S3 => .ok (.bl false) S3
  | _, _ => .bad
def eQ2 (f g h : D → D → Sto → Res D) (dc dd : DE) (ρ : Env) (x y : D) (S2 : Sto) : Res D := (f x y S2).bind (eQ3 g h dc dd ρ y)
def eQ1 (f g h : D → D → Sto → Res D) (db dc dd : DE) (ρ : Env) (x : D) (S1 : Sto) : Res D := (db ρ S1).bind (eQ2 f g h dc dd ρ x)
def eChainQ (f g h : D → D → Sto → Res D) (da db dc dd : DE) (ρ : Env) (S : Sto) : Res D := (da ρ S).bind (eQ1 f g h db dc dd ρ)
theorem i_chainQ {r r' r'' : R2} {f g h : D → D → Sto → Res D} {da db dc dd : DE} (o : Op2 K mg r f) (o' : Op2 K mg r' g) (o'' : Op2 K mg r'' h) {σ : St} {H : Hp} {Q : VK} (hh : LE K mg W (eChainQ f g h da db dc dd) σ H Q) :
    tChainQ r r' r'' (LE K mg W da) (LE K mg W db) (LE K mg W dc) (LE K mg W dd) σ H Q := by
  obtain ⟨w, ok, rfl, ρ, rr, hh⟩ := hh
  refine ⟨w, ok, rfl, ρ, rr, hh.bind fun w1 x v le1 ok1 r1 h1 => ?_⟩
  have rr1 := rr.up ok le1
  refine ⟨w1, ok1, rfl, ρ, rr1, h1.bind fun w2 y u le2 ok2 r2 h2 => ?_⟩
  have rr2 := rr1.up ok1 le2
  refine o w2 x y v u _ _ ok2 (r1.up ok1 le2) r2 (h2.bind fun w3 z t le3 ok3 r3 h3 => ?_)
  have rr3 := rr2.up ok2 le3
  cases z with
  | bl k =>
    rw [Rv] at r3
    refine ⟨k, r3, ?_⟩
    cases k with
    | true =>
      refine iteT ⟨w3, ok3, rfl, ρ, rr3, h3.bind fun w4 z2 t2 le4 ok4 r4 h4 => ?_⟩
      refine o' w4 y z2 u t2 _ _ ok4 ((r2.up ok2 le3).up ok3 le4) r4 (h4.bind fun w5 z3 t3 le5 ok5 r5 h5 => ?_)
      have rr5 := (rr3.up ok3 le4).up ok4 le5
      cases z3 with
      | bl k2 =>
        rw [Rv] at r5
        refine ⟨k2, r5, ?_⟩
        cases k2 with
        | true =>
          refine iteT ⟨w5, ok5, rfl, ρ, rr5, h5.bind fun w6 z4 t4 le6 ok6 r6 h6 => ?_⟩
          exact o'' w6 z2 z4 t2 t4 Q _ ok6 ((r4.up ok4 le5).up ok5 le6) r6 h6
        | false => exact iteF (Fin.now h5 ok5 (by rw [Rv]))
      | _ => exact h5.elim
    | false => exact iteF (Fin.now h3 ok3 (by rw [Rv]))
  | _ => exact h3.elim
theorem lt_chainQ {op op' op'' : CmpOp} {r r' r'' : R2} {f g h : D → D → Sto → Res D} {da db dc dd : DE} (ho : OpR X (compareOp op) r) (o : Op2 X.K X.mg r f) (ho' : OpR X (compareOp op') r') (o' : Op2 X.K X.mg r' g) (ho'' : OpR X (compareOp op'') r'') (o'' : Op2 X.K X.mg r'' h) (ha : PE X a (LE X.K X.mg W da)) (hb : PE X b (LE X.K X.mg W db)) (hc : PE X c (LE X.K X.mg W dc)) (hd : PE X d (LE X.K X.mg W dd))
    (hm : lastMarks [op, op', op''] [b, c, d] = false := by with_unfolding_all rfl) : PT X (.Compare a [op, op', op''] [b, c, d] pos) (LT X.K X.mg W (eT (eChainQ f g h da db dc dd))) := (pt_chainQ ho ho' ho'' ha hb hc hd hm).imp fun _ _ _ hh => i_test (fun _ _ _ => i_chainQ o o' o'') hh
/-! ## list(range(a, b)) -/
structure OkR2 (i j : Int) : Prop where
  lo : OkR i
  hi : OkR j
  sz : (j - i).toNat ≤ 1000000
noncomputable instance (i j : Int) : Decidable (OkR2 i j) := Classical.propDecidable _
noncomputable def dLrg2 : D → D → Sto → Res D
  | .int i, .int j, S => if OkR2 i j then mkLst (rng i (j - i).toNat) S else .bad
  | _, _, _ => .bad
theorem l_listRg2 {a b : Expr} {p pos p2 pos2 : Pos} {da db : DE} (hc : X.calm = true) (hg : Gl X "list") (hm : X.mg "list" = none) (hg2 : Gl X "range") (hm2 : X.mg "range" = none) (ha : PE X a (LE X.K X.mg W da)) (hb : PE X b (LE X.K X.mg W db))
    (n1 : starEach [a, b] X.env = (false, eval a X.env) :: starEach [b] X.env := by rfl) (n3 : starEach [b] X.env = (false, eval b X.env) :: starEach [] X.env := by rfl) (hp : (backTo pos2 (starEach [b] X.env)).any (·.1) = false := by rfl) (n2 : starEach [Expr.Call (.Name "range" p2) [a, b] [] pos2] X.env = (false, eval (Expr.Call (.Name "range" p2) [a, b] [] pos2) X.env) :: starEach [] X.env := by rfl) :
    PE X (.Call (.Name "list" p) [.Call (.Name "range" p2) [a, b] [] pos2] [] pos) (LE X.K X.mg W (eOp dLrg2 da db)) := (pe_listRg hc hg hm (prg_2 hg2 hm2 ha hb n1 n3 hp) n2).imp fun _ _ _ h => by
  obtain ⟨w, ok, rfl, ρ, rr, h⟩ := h
  refine ⟨w, ok, rfl, ρ, rr, h.bind fun w1 x v le1 ok1 r1 h1 => ?_⟩
  refine ⟨w1, ok1, rfl, ρ, rr.up ok le1, h1.bind fun w2 y u le2 ok2 r2 h2 => ?_⟩
  unfold dLrg2 at h2
  split at h2
  · rename_i i j
    split at h2
    · rename_i hj
      refine ⟨i, j, (r1.up ok1 le2).int, r2.int, ⟨hj.lo.lo, hj.lo.hi, hj.hi.lo, hj.hi.hi, Nat.le_trans hj.sz (by decide)⟩, fun q hq => h2.newLst ok2 hq ?_⟩
      have e := ints_rvs (K := X.K) (mg := X.mg) (w := w2) ((List.range (j - i).toNat).map fun k : Nat => i + (k : Int))
      rw [List.map_map, List.map_map] at e
      unfold rgV rng
      exact e
    · exact h2.elim
  · exact h2.elim
end

/-! ## working out what a denotation gives -/
namespace Ev
def numR (f : List Int → D) (S : Sto) : Option (List Int) → Res D
  | some ns => .ok (f ns) S
  | none => .bad
def numR1 (f : List Int → D) (S : Sto) : Option (List Int) → Res D
  | some ns => if 0 < ns.length then .ok (f ns) S else .bad
  | none => .bad
def dkOO : Option Ob → Option (List (Key × D))
  | some (.dk kvs) => some kvs
  | _ => none
def putR (ρ : Env) (S : Sto) (n : Nat) (x : D) (q : Key) : Option (List (Key × D)) → RS
  | some kvs => if kvs.length < sizeLine then .nx ρ (S.set n (.dk (putD kvs q x))) else .bad
  | none => .bad
def dtOO : Option Ob → Option (List (List Key × D))
  | some (.dt kvs) => some kvs
  | _ => none
def keyC (k : Key) : Option (List Key) → Option (List Key)
  | some ks => some (k :: ks)
  | none => none
def augFL (C f : Str) (g : D → D → Sto → Res D) (dv : DE) (n : Nat) (ρ : Env) (S1 : Sto) : Option D → RS
  | some x => augF2 C f g dv n ρ x S1
  | none => .bad
def callR (da : DA) (ρ : Env) (S : Sto) : Option DF → Res D
  | some h => (da ρ S).bind h
  | none => .bad
def keysR (k : Key) (d : D) : Option (List (Key × D)) → Option (List (Key × D))
  | some r => some ((k, d) :: r)
  | none => none
def ixA (S : Sto) : Option D → Res D
  | some d => .ok d S
  | none => .bad
def ixO (i : Int) (S : Sto) : Option Ob → Res D
  | some (.lst xs) => ixA S (atI xs i)
  | _ => .bad
def lenO (S : Sto) : Option Ob → Res D
  | some (.lst xs) => .ok (.int xs.length) S
  | some (.dk xs) => .ok (.int xs.length) S
  | some (.dt xs) => .ok (.int xs.length) S
  | _ => .bad
def lstOO : Option Ob → Option (List D)
  | some (.lst xs) => some xs
  | _ => none
def isiR (S : Sto) : Option Bool → Res D
  | some b => .ok (.bl b) S
  | none => .bad
def tyO : Option (List D) → Option String
  | some _ => some "list"
  | none => none
def lstR (S : Sto) : Option (List D) → Res D
  | some xs => mkLst xs S
  | none => .bad
def tupR (S : Sto) : Option (List D) → Res D
  | some xs => .ok (.tup xs) S
  | none => .bad
def slR (lo hi : Option Int) (S : Sto) : Option (List D) → Res D
  | some xs => mkLst (cutL xs lo hi) S
  | none => .bad
def appO (n : Nat) (d : D) (S : Sto) : Option Ob → Res D
  | some (.lst xs) => if xs.length < sizeLine then .ok .non (S.set n (.lst (xs ++ [d]))) else .bad
  | _ => .bad
def tymO (T : String) : Option Ob → Bool
  | some (.lst _) => T == "list"
  | some (.dk _) => T == "dict"
  | _ => false
def inR (neg : Bool) (S : Sto) : Option V → Option (List V) → Res D
  | some v, some vs => .ok (.bl (if neg then !inV v vs else inV v vs)) S
  | _, _ => .bad
def walkR (n : Nat) (S : Sto) : Option (List D) → Res Walked
  | some xs => .ok (xs, sameL n xs) S
  | none => .bad
theorem in_strs (x : Str) : ∀ ss : List Str, inV (.str x) (ss.map V.str) = decide (x ∈ ss)
  | [] => by simp [inV]
  | y :: ss => by
    have ih := in_strs x ss
    show (eqV (.str y) (.str x) || inV (.str x) (ss.map V.str)) = _
    rw [ih]
    show ((y == x) || decide (x ∈ ss)) = _
    rw [Bool.eq_iff_iff, Bool.or_eq_true, beq_iff_eq, decide_eq_true_eq, decide_eq_true_eq, List.mem_cons]
    constructor
    · rintro (h | h)
      · exact .inl h.symm
      · exact .inr h
    · rintro (h | h)
      · exact .inl h.symm
      · exact .inr h
def enumR (n : Nat) (S : Sto) : Option (List D) → Res Walked
  | some xs => .ok (enumD xs, sameL n xs) S
  | none => .bad
def zipR (n m : Nat) (S : Sto) : Option (List D) → Option (List D) → Res Walked
  | some xs, some ys => .ok (zipD xs ys, fun S => sameL n xs S ∧ sameL m ys S) S
  | _, _ => .bad
def ixS (S : Sto) : Option Nat → Res D
  | some c => .ok (.str ⟨#[c]⟩) S
  | none => .bad
def joinR (z : Str) (S : Sto) : Option (List Str) → Res D
  | some ys => if (ys.map (·.length)).sum + ys.length * z.length ≤ 16777216 then .ok (.str (Txt.join z ys)) S else .bad
  | none => .bad
def tgLR (n : Nat) (gs : DGs) (ρ : Env) (S : Sto) : Option (List D) → Option Env
  | some ds => if ds.length = n then gs ds ρ S else none
  | none => none
theorem seq1 {t : DS} {ρ : Env} {S : Sto} : (seqR t (.nx ρ S)) = (t ρ S) := rfl
theorem seq2 {t : DS} {d : D} {S : Sto} : (seqR t (.rt d S)) = (.rt d S) := rfl
theorem seq3 {t : DS} {ρ : Env} {S : Sto} : (seqR t (.bk ρ S)) = (.bk ρ S) := rfl
theorem seq4 {t : DS} {ρ : Env} {S : Sto} : (seqR t (.ct ρ S)) = (.ct ρ S) := rfl
theorem seq5 {t : DS} {c : Str} {fs : List (Str × D)} {ρ : Env} {S : Sto} : (seqR t (.exc c fs ρ S)) = (.exc c fs ρ S) := rfl
theorem bnd1 {k : D → Env → Sto → RS} {d : D} {ρ : Env} {S : Sto} : (bindR k ρ (.ok d S)) = (k d ρ S) := rfl
theorem bnd2 {k : D → Env → Sto → RS} {c : Str} {fs : List (Str × D)} {ρ : Env} {S : Sto} : (bindR k ρ (.exc c fs S)) = (.exc c fs ρ S) := rfl
theorem if1 {s u : DS} {ρ : Env} {S : Sto} : (ifR s u ρ (.ok true S)) = (s ρ S) := rfl
theorem if2 {s u : DS} {ρ : Env} {S : Sto} : (ifR s u ρ (.ok false S)) = (u ρ S) := rfl
theorem if3 {s u : DS} {c : Str} {fs : List (Str × D)} {ρ : Env} {S : Sto} : (ifR s u ρ (.exc c fs S)) = (.exc c fs ρ S) := rfl
theorem asg1 {ρ : Env} {S : Sto} : (asgR S (some ρ)) = (.nx ρ S) := rfl
theorem putK31 {x : D} {n : Nat} {k : Int} {ρ : Env} {S : Sto} : (putK3 x (.obj n) (.int k) ρ S) = (putO ρ S n k x S[n]?) := rfl
theorem putO1 {x : D} {n : Nat} {k : Int} {xs : List D} {ρ : Env} {S : Sto} : (putO ρ S n k x (some (.lst xs))) = (putJ ρ S n xs x (ixN xs.length k)) := rfl
theorem putJ1 {x : D} {n j : Nat} {xs : List D} {ρ : Env} {S : Sto} : (putJ ρ S n xs x (some j)) = (.nx ρ (S.set n (.lst (xs.set j x)))) := rfl
theorem aug1 {i : Nat} {f : D → D → Sto → Res D} {de : DE} {x : D} {ρ : Env} {S : Sto} : (augR i f de ρ S (some (some x))) = (bindR (setK i) ρ ((de ρ S).bind (f x))) := rfl
theorem slot1 {d : D} {S : Sto} : (slotR S (some (some d))) = (.ok d S) := rfl
theorem and1 {tb : DT} {ρ : Env} {S : Sto} : (eAnd1 tb ρ true S) = (tb ρ S) := rfl
theorem and2 {tb : DT} {ρ : Env} {S : Sto} : (eAnd1 tb ρ false S) = (.ok false S) := rfl
theorem or1 {tb : DT} {ρ : Env} {S : Sto} : (eOr1 tb ρ true S) = (.ok true S) := rfl
theorem or2 {tb : DT} {ρ : Env} {S : Sto} : (eOr1 tb ρ false S) = (tb ρ S) := rfl
theorem andV1 {db : DE} {ρ : Env} {S : Sto} : (eAndV1 db ρ (.bl true) S) = (db ρ S) := rfl
theorem andV2 {db : DE} {ρ : Env} {S : Sto} : (eAndV1 db ρ (.bl false) S) = (.ok (.bl false) S) := rfl
theorem orV1 {db : DE} {ρ : Env} {S : Sto} : (eOrV1 db ρ (.bl true) S) = (.ok (.bl true) S) := rfl
theorem orV2 {db : DE} {ρ : Env} {S : Sto} : (eOrV1 db ρ (.bl false) S) = (db ρ S) := rfl
theorem notV1 {k : Bool} {S : Sto} : (eNotV1 (.bl k) S) = (.ok (.bl (!k)) S) := rfl
theorem ifx1 {da db : DE} {ρ : Env} {S : Sto} : (eIf1 da db ρ true S) = (da ρ S) := rfl
theorem ifx2 {da db : DE} {ρ : Env} {S : Sto} : (eIf1 da db ρ false S) = (db ρ S) := rfl
theorem ch1 {g : D → D → Sto → Res D} {dc : DE} {y : D} {ρ : Env} {S : Sto} : (eChain3 g dc ρ y (.bl true) S) = ((dc ρ S).bind (g y)) := rfl
theorem ch2 {g : D → D → Sto → Res D} {dc : DE} {y : D} {ρ : Env} {S : Sto} : (eChain3 g dc ρ y (.bl false) S) = (.ok (.bl false) S) := rfl
theorem toB1 {b : Bool} {S : Sto} : (toB (.bl b) S) = (.ok b S) := rfl
theorem rb1 {α β : Type} {a : α} {S : Sto} {k : α → Sto → Res β} : ((Res.ok a S).bind k) = (k a S) := rfl
theorem rb2 {α β : Type} {c : Str} {fs : List (Str × D)} {S : Sto} {k : α → Sto → Res β} : ((Res.exc c fs S).bind k) = (.exc c fs S) := rfl
theorem end1 {ρ : Env} {S : Sto} : (endR (.nx ρ S)) = (.ok .non S) := rfl
theorem end2 {d : D} {S : Sto} : (endR (.rt d S)) = (.ok d S) := rfl
theorem end3 {c : Str} {fs : List (Str × D)} {ρ : Env} {S : Sto} : (endR (.exc c fs ρ S)) = (.exc c fs S) := rfl
theorem add1 {i j : Int} {S : Sto} : (dAdd (.int i) (.int j) S) = (.ok (.int (i + j)) S) := rfl
theorem add2 {x y : Str} {S : Sto} : (dAdd (.str x) (.str y) S) = ((if x.length + y.length ≤ sizeLine then .ok (.str (x ++ y)) S else .bad)) := id rfl
theorem add3 {xs ys : List D} {S : Sto} : (dAdd (.tup xs) (.tup ys) S) = ((if xs.length + ys.length ≤ sizeLine then .ok (.tup (xs ++ ys)) S else .bad)) := id rfl
theorem sub1 {i j : Int} {S : Sto} : (dSub (.int i) (.int j) S) = (.ok (.int (i - j)) S) := rfl
theorem mul1 {i j : Int} {S : Sto} : (dMul (.int i) (.int j) S) = ((if MulOk i j then .ok (.int (i * j)) S else .bad)) := id rfl
theorem mul2 {xs : List D} {k : Int} {S : Sto} : (dMul (.tup xs) (.int k) S) = ((if k = 1 then .ok (.tup xs) S else if xs ≠ [] ∧ 2 ≤ k ∧ k ≤ 1000 ∧ xs.length ≤ 1000 then .ok (.tup (List.replicate k.toNat xs).flatten) S else .bad)) := id rfl
theorem sum1 {d : D} {S : Sto} : (dSum [d] S) = (numR (fun ns => .int ns.sum) S (intsOf d S)) := by show (match intsOf d S with | some ns => Res.ok (D.int ns.sum) S | none => .bad) = _; cases intsOf d S <;> rfl
theorem minl1 {d : D} {S : Sto} : (dMinL [d] S) = (numR1 (fun ns => .int (least ns)) S (intsOf d S)) := by show (match intsOf d S with | some ns => if 0 < ns.length then Res.ok (D.int (least ns)) S else .bad | none => .bad) = _; cases intsOf d S <;> rfl
theorem maxl1 {d : D} {S : Sto} : (dMaxL [d] S) = (numR1 (fun ns => .int (greatest ns)) S (intsOf d S)) := by show (match intsOf d S with | some ns => if 0 < ns.length then Res.ok (D.int (greatest ns)) S else .bad | none => .bad) = _; cases intsOf d S <;> rfl
theorem numR1a {f : List Int → D} {ns : List Int} {S : Sto} : (numR f S (some ns)) = (.ok (f ns) S) := rfl
theorem numR1b {f : List Int → D} {ns : List Int} {S : Sto} : (numR1 f S (some ns)) = ((if 0 < ns.length then .ok (f ns) S else .bad)) := id rfl
theorem intsOf1 {xs : List D} {S : Sto} : (intsOf (.tup xs) S) = (asInts xs) := rfl
theorem intsOf2 {n : Nat} {S : Sto} : (intsOf (.obj n) S) = ((lstOf S n).bind asInts) := rfl
theorem pow1 {i j : Int} {S : Sto} : (dPow (.int i) (.int j) S) = ((if 0 ≤ j ∧ j ≤ 1000000 ∧ i.natAbs < 2 ^ 64 then .ok (.int (i ^ j.toNat)) S else .bad)) := id rfl
theorem dkOf1 {n : Nat} {S : Sto} : (dkOf S n) = (dkOO S[n]?) := by unfold dkOf; cases S[n]? with | none => rfl | some o => cases o <;> rfl
theorem dkOO1 {kvs : List (Key × D)} : (dkOO (some (.dk kvs))) = (some kvs) := rfl
theorem look1 {n : Nat} {x : Str} {S : Sto} : (look (.obj n) (.str x) S) = ((dkOf S n).map fun kvs => getD kvs (.inr x)) := rfl
theorem look2 {n : Nat} {x : Int} {S : Sto} : (look (.obj n) (.int x) S) = ((dkOf S n).map fun kvs => getD kvs (.inl x)) := rfl
theorem mapSome2 {kvs : List (Key × D)} {f : List (Key × D) → Option D} : ((some kvs).map f) = (some (f kvs)) := rfl
theorem dget1 {a k : D} {S : Sto} : (dDGet a k S) = (getR S (look a k S)) := rfl
theorem getR1 {d : D} {S : Sto} : (getR S (some (some d))) = (.ok d S) := rfl
theorem ddin1 {b : Bool} {a k : D} {S : Sto} : (dDIn b k a S) = (hasR b S (look a k S)) := rfl
theorem hasR1 {o : Option D} {S : Sto} : (hasR false S (some o)) = (.ok (.bl o.isSome) S) := rfl
theorem hasR2 {o : Option D} {S : Sto} : (hasR true S (some o)) = (.ok (.bl (!o.isSome)) S) := rfl
theorem asd1 {n : Nat} {S : Sto} : (asDict (.obj n) S) = ((dkOf S n).isSome || (dtOf S n).isSome) := rfl
theorem dtOf1 {n : Nat} {S : Sto} : (dtOf S n) = (dtOO S[n]?) := by unfold dtOf; cases S[n]? with | none => rfl | some o => cases o <;> rfl
theorem dtOO1 {kvs : List (List Key × D)} : (dtOO (some (.dt kvs))) = (some kvs) := rfl
theorem dtOO2 {kvs : List (Key × D)} : (dtOO (some (.dk kvs))) = (none) := rfl
theorem dkOO2 {kvs : List (List Key × D)} : (dkOO (some (.dt kvs))) = (none) := rfl
theorem look3 {n : Nat} {x : List Key} {S : Sto} : (look (.obj n) (.tk x) S) = ((dtOf S n).map fun kvs => getD kvs x) := rfl
theorem mapSome3 {kvs : List (List Key × D)} {f : List (List Key × D) → Option D} : ((some kvs).map f) = (some (f kvs)) := rfl
theorem keyL0  : (keyL []) = (some []) := rfl
theorem keyL1 {i : Int} {r : List D} : (keyL (.int i :: r)) = (keyC (.inl i) (keyL r)) := by rw [keyL]; cases keyL r <;> rfl
theorem keyL2 {i : Str} {r : List D} : (keyL (.str i :: r)) = (keyC (.inr i) (keyL r)) := by rw [keyL]; cases keyL r <;> rfl
theorem keyC1 {k : Key} {ks : List Key} : (keyC k (some ks)) = (some (k :: ks)) := rfl
theorem mkTk1 {xs : List D} {S : Sto} : (mkTk xs S) = ((if xs.length ≤ sizeLine then tkR S (keyL xs) else .bad)) := id rfl
theorem tkR1 {ks : List Key} {S : Sto} : (tkR S (some ks)) = (.ok (.tk ks) S) := rfl
theorem putT31 {n : Nat} {x : D} {ks : List Key} {ρ : Env} {S : Sto} : (putT3 x (.obj n) (.tk ks) ρ S) = (putTK ρ S n x ks (dtOf S n)) := rfl
theorem putTK1 {n : Nat} {x : D} {ks : List Key} {kvs : List (List Key × D)} {ρ : Env} {S : Sto} : (putTK ρ S n x ks (some kvs)) = ((if kvs.length < sizeLine then .nx ρ (S.set n (.dt (putD kvs ks x))) else .bad)) := id rfl
theorem unTk1 {ks : List Key} : (unTk (.tk ks)) = (.tup (ks.map ofKey)) := rfl
theorem unTk2 {xs : List D} : (unTk (.tup xs)) = (.tup xs) := rfl
theorem ofKey1 {i : Int} : (ofKey (.inl i)) = (.int i) := rfl
theorem ofKey2 {i : Str} : (ofKey (.inr i)) = (.str i) := rfl
theorem fld1 {C f : Str} {n : Nat} {S : Sto} : (dFld C f (.obj n) S) = (fldO C f S S[n]?) := rfl
theorem fldO1 {C f : Str} {fs : List (Str × D)} {S : Sto} : (fldO C f S (some (.ins C fs))) = (fldR S (fldL fs f)) := if_pos rfl
theorem fldR1 {d : D} {S : Sto} : (fldR S (some d)) = (.ok d S) := rfl
theorem fldL1 {f : Str} {d : D} {r : List (Str × D)} : (fldL ((f, d) :: r) f) = (some d) := if_pos rfl
theorem setF21 {C f : Str} {d : D} {n : Nat} {ρ : Env} {S : Sto} : (setF2 C f d (.obj n) ρ S) = (setFO C f d ρ S n S[n]?) := rfl
theorem setFO1 {C f : Str} {d : D} {n : Nat} {fs : List (Str × D)} {ρ : Env} {S : Sto} (h : fs.length < 1000) : (setFO C f d ρ S n (some (.ins C fs))) = (.nx ρ (S.set n (.ins C (putFD f d fs)))) := if_pos ⟨rfl, h⟩
theorem isMet1 {C m : Str} {n : Nat} {S : Sto} : (isMet C m (.obj n) S) = (metO C m S[n]?) := rfl
theorem metO1 {C m : Str} {fs : List (Str × D)} : (metO C m (some (.ins C fs))) = ((fldL fs m).isNone) := by show (decide (C = C) && _) = _; rw [decide_eq_true rfl, Bool.true_and]
theorem shl1 {i j : Int} {S : Sto} : (dShl (.int i) (.int j) S) = ((if 0 ≤ j ∧ j ≤ 1000000 ∧ i.natAbs < 2 ^ 64 then .ok (.int (i * 2 ^ j.toNat)) S else .bad)) := id rfl
theorem shr1 {i j : Int} {S : Sto} : (dShr (.int i) (.int j) S) = ((if 0 ≤ j then .ok (.int (i / 2 ^ j.toNat)) S else .bad)) := id rfl
theorem andI1 {i j : Int} {S : Sto} : (dAndI (.int i) (.int j) S) = (.ok (.int (PySem.Builtin.bitAnd i j)) S) := rfl
theorem orI1 {i j : Int} {S : Sto} : (dOrI (.int i) (.int j) S) = (.ok (.int (PySem.Builtin.bitOr i j)) S) := rfl
theorem add21 {i j : Int} {S : Sto} : (dAdd2 (.int i) (.int j) S) = (.ok (.int (i + j)) S) := rfl
theorem augF11 {C f : Str} {g : D → D → Sto → Res D} {dv : DE} {n : Nat} {ρ : Env} {S : Sto} : (augF1 C f g dv (.obj n) ρ S) = (augFO C f g dv n ρ S S[n]?) := rfl
theorem augFO1 {C f : Str} {g : D → D → Sto → Res D} {dv : DE} {n : Nat} {fs : List (Str × D)} {ρ : Env} {S : Sto} : (augFO C f g dv n ρ S (some (.ins C fs))) = (augFL C f g dv n ρ S (fldL fs f)) := by show (if C = C then _ else _) = _; rw [if_pos rfl]; cases fldL fs f <;> rfl
theorem augFL1 {C f : Str} {g : D → D → Sto → Res D} {dv : DE} {n : Nat} {x : D} {ρ : Env} {S : Sto} : (augFL C f g dv n ρ S (some x)) = (augF2 C f g dv n ρ x S) := rfl
theorem mulL1 {n : Nat} {k : Int} {S : Sto} : (dMulL (.obj n) (.int k) S) = (mulLR k S S[n]?) := rfl
theorem mulLR1 {k : Int} {xs : List D} {S : Sto} : (mulLR k S (some (.lst xs))) = ((if 0 ≤ k ∧ k ≤ 1000000 ∧ xs.length * k.toNat ≤ sizeLine then mkLst (List.replicate k.toNat xs).flatten S else .bad)) := id rfl
theorem rev1 {n : Nat} {S : Sto} : (dRev (.obj n) S) = (revO S S[n]?) := rfl
theorem revO1 {xs : List D} {S : Sto} : (revO S (some (.lst xs))) = (mkLst xs.reverse S) := rfl
theorem lrg1 {j : Int} {S : Sto} : (dLrg (.int j) S) = ((if 0 ≤ j ∧ j ≤ 1000000 then mkLst (rng 0 j.toNat) S else .bad)) := id rfl
theorem parR1 {k : List D → Sto → RS} {ρ : Env} {xs : List D} {S : Sto} : (parR k ρ (.ok xs S)) = (k xs S) := rfl
theorem par2K1 {i j : Nat} {a b : D} {ρ : Env} {S : Sto} : (par2K i j ρ [a, b] S) = (.nx ((ρ.set i (some a)).set j (some b)) S) := rfl
theorem par3K1 {i j l : Nat} {a b c : D} {ρ : Env} {S : Sto} : (par3K i j l ρ [a, b, c] S) = (.nx (((ρ.set i (some a)).set j (some b)).set l (some c)) S) := rfl
theorem mkEnd1 {n : Nat} {S : Sto} : (mkEnd n .non S) = (.ok (.obj n) S) := rfl
theorem isS1 {kvs : List (Key × D)} : ((some kvs).isSome) = (true) := rfl
theorem isS2 {d : D} : ((some d).isSome) = (true) := rfl
theorem isS3  : ((none : Option D).isSome) = (false) := rfl
theorem dg1 {a k : D} {S : Sto} : (dDGet1 a k S) = (get1R S (look a k S)) := rfl
theorem dg1a {d : D} {S : Sto} : (get1R S (some (some d))) = (.ok d S) := rfl
theorem dg1b {S : Sto} : (get1R S (some none)) = (.ok .non S) := rfl
theorem dg2 {a k x : D} {S : Sto} : (dDGet2 a k x S) = (get2R x S (look a k S)) := rfl
theorem dg2a {d x : D} {S : Sto} : (get2R x S (some (some d))) = (.ok d S) := rfl
theorem dg2b {x : D} {S : Sto} : (get2R x S (some none)) = (.ok x S) := rfl
theorem putQ1 {n : Nat} {x : D} {k : Str} {ρ : Env} {S : Sto} : (putQ3 x (.obj n) (.str k) ρ S) = (putR ρ S n x (.inr k) (dkOf S n)) := by show (match dkOf S n, keyOf (.str k) with | some kvs, some q => if kvs.length < sizeLine then RS.nx ρ (S.set n (.dk (putD kvs q x))) else .bad | _, _ => .bad) = _; cases dkOf S n <;> rfl
theorem putQi {n : Nat} {x : D} {k : Int} {ρ : Env} {S : Sto} : (putQ3 x (.obj n) (.int k) ρ S) = (putR ρ S n x (.inl k) (dkOf S n)) := by show (match dkOf S n, keyOf (.int k) with | some kvs, some q => if kvs.length < sizeLine then RS.nx ρ (S.set n (.dk (putD kvs q x))) else .bad | _, _ => .bad) = _; cases dkOf S n <;> rfl
theorem putR1 {n : Nat} {x : D} {q : Key} {kvs : List (Key × D)} {ρ : Env} {S : Sto} : (putR ρ S n x q (some kvs)) = ((if kvs.length < sizeLine then .nx ρ (S.set n (.dk (putD kvs q x))) else .bad)) := id rfl
theorem kd1 {kds : List (Str × D)} {x : Str} {S : Sto} : (dKD kds (.str x) S) = (kdR S (lookS kds x)) := rfl
theorem kdR1 {d : D} {S : Sto} : (kdR S (some d)) = (.ok d S) := rfl
theorem kdi1 {kds : List (Str × D)} {x : Str} {S : Sto} : (dKDIn false kds (.str x) S) = (.ok (.bl (lookS kds x).isSome) S) := rfl
theorem kdi2 {kds : List (Str × D)} {x : Str} {S : Sto} : (dKDIn true kds (.str x) S) = (.ok (.bl (!(lookS kds x).isSome)) S) := rfl
theorem kg1 {kds : List (Str × D)} {x : Str} {d : D} {S : Sto} : (dKGet2 kds (.str x) d S) = (kdR2 d S (lookS kds x)) := rfl
theorem kg2 {e d : D} {S : Sto} : (kdR2 d S (some e)) = (.ok e S) := rfl
theorem kg3 {d : D} {S : Sto} : (kdR2 d S none) = (.ok d S) := rfl
theorem callF1 {fs : List (Str × DF)} {da : DA} {y : Str} {ρ : Env} {S : Sto} : (callF fs da ρ (.fn y) S) = (callR da ρ S (fs.lookup y)) := by show (match fs.lookup y with | some h => (da ρ S).bind h | none => .bad) = _; cases fs.lookup y <;> rfl
theorem callR1 {da : DA} {ρ : Env} {S : Sto} {h : DF} : (callR da ρ S (some h)) = ((da ρ S).bind h) := rfl
theorem tru_bl {x : Bool} {S : Sto} : (truthOf (.bl x) S) = (some x) := rfl
theorem tru_int {x : Int} {S : Sto} : (truthOf (.int x) S) = (some (x != 0)) := rfl
theorem tru_tup {x : List D} {S : Sto} : (truthOf (.tup x) S) = (some (!x.isEmpty)) := rfl
theorem tru_obj {x : Nat} {S : Sto} : (truthOf (.obj x) S) = (truO S[x]?) := rfl
theorem tru_non {S : Sto} : (truthOf .non S) = (some false) := rfl
theorem tru_str {x : Str} {S : Sto} : (truthOf (.str x) S) = ((if x.length ≤ sizeLine then some ((x.length : Int) != 0) else none)) := id rfl
theorem truO1 {xs : List D} : (truO (some (.lst xs))) = (some (!xs.isEmpty)) := rfl
theorem truO2 {xs : List (Key × D)} : (truO (some (.dk xs))) = (some (!xs.isEmpty)) := rfl
theorem dtru1 {d : D} {S : Sto} : (dTru d S) = (truR S (truthOf d S)) := rfl
theorem truR1 {b : Bool} {S : Sto} : (truR S (some b)) = (.ok b S) := rfl
theorem isE1 {d : D} {xs : List D} : ((d :: xs).isEmpty) = (false) := rfl
theorem isE2  : (([] : List D).isEmpty) = (true) := rfl
theorem eqL1 {n m : Nat} {S : Sto} : (dEqL (.obj n) (.obj m) S) = (eqLR S (sclOf S n) (sclOf S m)) := rfl
theorem sclOf1 {n : Nat} {S : Sto} : (sclOf S n) = ((lstOf S n).bind scs) := rfl
theorem eqLR1 {xs : List V} {S : Sto} : (eqLR S (some xs) (some xs)) = (.ok (.bl true) S) := by exact if_pos rfl
theorem all1 {d : D} {S : Sto} : (dAll [d] S) = (boolR (fun bs => bs.all id) S (boolsOf d S)) := rfl
theorem any1 {d : D} {S : Sto} : (dAny [d] S) = (boolR (fun bs => bs.any id) S (boolsOf d S)) := rfl
theorem boolsOf1 {n : Nat} {S : Sto} : (boolsOf (.obj n) S) = ((lstOf S n).bind asBools) := rfl
theorem boolR1 {f : List Bool → Bool} {bs : List Bool} {S : Sto} : (boolR f S (some bs)) = (.ok (.bl (f bs)) S) := rfl
theorem sorted1 {n : Nat} {S : Sto} : (dSorted [.obj n] S) = (sortR S ((lstOf S n).bind asInts)) := rfl
theorem sortedDI1 {n : Nat} {S : Sto} : (dSortedDI [.obj n] S) = (sortR S ((dkOf S n).bind keyInts)) := rfl
theorem augI1 {i j : Int} {a k : D} {ρ : Env} {S : Sto} : (augI a k (.int i) (.int j) ρ S) = (putQ3 (.int (i + j)) a k ρ S) := rfl
theorem shlB1 {i j : Int} {S : Sto} : (dShlB (.int i) (.int j) S) = ((if 0 ≤ j ∧ j ≤ 1000000 ∧ i.natAbs.log2 < 1000000 then .ok (.int (i * 2 ^ j.toNat)) S else .bad)) := by unfold dShlB; rfl
theorem stp1 {a n : Nat} {S : Sto} : (dStp a (.obj n) S) = (stpO a S S[n]?) := rfl
theorem stpO1 {a : Nat} {xs : List D} {S : Sto} : (stpO a S (some (.lst xs))) = (mkLst (stp a xs) S) := rfl
theorem sortedDB1 {n : Nat} {S : Sto} : (dSortedDB [.obj n] S) = (sortBR S ((dkOf S n).bind keyInts)) := rfl
theorem sortBR1 {ns : List Int} {S : Sto} : (sortBR S (some ns)) = ((if ns.length ≤ sizeLine then mkLst ((sortI ns).map D.int) S else .bad)) := id rfl
theorem sortedDS1 {n : Nat} {S : Sto} : (dSortedDS [.obj n] S) = (sortSR S ((dkOf S n).bind keyStrs)) := rfl
theorem sortR1 {ns : List Int} {S : Sto} : (sortR S (some ns)) = ((if ns.length < 64 then mkLst ((sortI ns).map D.int) S else .bad)) := id rfl
theorem evPn {ρ : Env} {S : Sto} : (evP [] ρ S) = (.ok [] S) := rfl
theorem evPc {a b : DE} {r : List (DE × DE)} {ρ : Env} {S : Sto} : (evP ((a, b) :: r) ρ S) = ((a ρ S).bind (evP1 b ρ (evP r ρ))) := rfl
theorem dispR1 {n : Nat} {kds : List (Key × D)} {S : Sto} : (dispR n S (some (.dk [])) (some kds)) = ((if kds.length ≤ 15 then .ok (.obj n) (S.set n (.dk (mergeD [] kds))) else .bad)) := id rfl
theorem keysD0  : (keysD []) = (some []) := rfl
theorem keysD1 {x : Str} {d : D} {ps : List (D × D)} : (keysD ((.str x, d) :: ps)) = (keysR (.inr x) d (keysD ps)) := by show (match keyOf (.str x), keysD ps with | some k, some r => some ((k, d) :: r) | _, _ => none) = _; cases keysD ps <;> rfl
theorem keysD2 {x : Int} {d : D} {ps : List (D × D)} : (keysD ((.int x, d) :: ps)) = (keysR (.inl x) d (keysD ps)) := by show (match keyOf (.int x), keysD ps with | some k, some r => some ((k, d) :: r) | _, _ => none) = _; cases keysD ps <;> rfl
theorem keysR1 {k : Key} {d : D} {r : List (Key × D)} : (keysR k d (some r)) = (some ((k, d) :: r)) := rfl
theorem tas1 {m : Mat} {i : Nat} {s : DSuite} {c : Str} {ρ : Env} {S : Sto} : (tryAR m i s (.exc c [] ρ S)) = (tryA s i c [] ρ S (m.lookup c)) := rfl
theorem tas2 {m : Mat} {i : Nat} {s : DSuite} {ρ : Env} {S : Sto} : (tryAR m i s (.nx ρ S)) = (.nx ρ S) := rfl
theorem tas3 {m : Mat} {i : Nat} {s : DSuite} {d : D} {S : Sto} : (tryAR m i s (.rt d S)) = (.rt d S) := rfl
theorem tas4 {i : Nat} {s : DSuite} {c : Str} {fs : List (Str × D)} {ρ : Env} {S : Sto} : (tryA s i c fs ρ S (some true)) = ((if i < ρ.length then s c (ρ.set i none) S else .bad)) := id rfl
theorem tas5 {i : Nat} {s : DSuite} {c : Str} {fs : List (Str × D)} {ρ : Env} {S : Sto} : (tryA s i c fs ρ S (some false)) = (.exc c fs ρ S) := rfl
theorem eis1 {b : Bool} {ρ : Env} {S : Sto} : (eIsE (some b) ρ S) = (.ok (.bl b) S) := rfl
theorem retB1 {d : D} {S : Sto} : (retB (.ok d S)) = (.rt d S) := rfl
theorem lkHit {β : Type} {a : Str} {b : β} {l : List (Str × β)} : (List.lookup a ((a, b) :: l)) = (some b) := by simp [List.lookup_cons]
theorem lkMiss {β : Type} {a k : Str} {b : β} {l : List (Str × β)} (h : (a == k) = false) : (List.lookup a ((k, b) :: l)) = (List.lookup a l) := by rw [List.lookup_cons, h]
theorem gcd1 {i j : Int} {S : Sto} : (dGcd [.int i, .int j] S) = (.ok (.int ((Nat.gcd i.natAbs j.natAbs : Nat) : Int)) S) := rfl
theorem bits1 {i : Int} {S : Sto} : (dBits (.int i) S) = (.ok (.int (Builtin.Int.intBits i : Nat)) S) := rfl
theorem div1 {i j : Int} {S : Sto} : (dDiv (.int i) (.int j) S) = ((if j ≠ 0 ∧ j.natAbs.log2 < 9000 then .ok (.int (i.fdiv j)) S else .bad)) := id rfl
theorem mod1 {i j : Int} {S : Sto} : (dMod (.int i) (.int j) S) = ((if j ≠ 0 then .ok (.int (i.fmod j)) S else .bad)) := id rfl
theorem rel1 {p : Int → Int → Bool} {i j : Int} {S : Sto} : (dRel p (.int i) (.int j) S) = (.ok (.bl (p i j)) S) := rfl
theorem eq1 {i j : Int} {S : Sto} : (dEq (.int i) (.int j) S) = (.ok (.bl (decide (i = j))) S) := rfl
theorem eq2 {i j : Str} {S : Sto} : (dEq (.str i) (.str j) S) = (.ok (.bl (decide (i = j))) S) := rfl
theorem eq3 {i j : Bool} {S : Sto} : (dEq (.bl i) (.bl j) S) = (.ok (.bl (decide (i = j))) S) := rfl
theorem ix1 {xs : List D} {i : Int} {S : Sto} : (dIx (.tup xs) (.int i) S) = (ixA S (atI xs i)) := by show (match atI xs i with | some d => Res.ok d S | none => .bad) = _; cases atI xs i <;> rfl
theorem ixA1 {d : D} {S : Sto} : (ixA S (some d)) = (.ok d S) := rfl
theorem ix2 {n : Nat} {i : Int} {S : Sto} : (dIx (.obj n) (.int i) S) = (ixO i S S[n]?) := by
  show (match (lstOf S n).bind fun xs => atI xs i with | some d => Res.ok d S | none => .bad) = _
  unfold lstOf
  cases S[n]? with
  | none => rfl
  | some o => cases o with
    | lst xs => show (match atI xs i with | some d => Res.ok d S | none => .bad) = ixA S (atI xs i); cases atI xs i <;> rfl
    | _ => rfl
theorem ixO1 {xs : List D} {i : Int} {S : Sto} : (ixO i S (some (.lst xs))) = (ixA S (atI xs i)) := rfl
theorem lstOf1 {n : Nat} {S : Sto} : (lstOf S n) = (lstOO S[n]?) := by unfold lstOf; cases S[n]? with | none => rfl | some o => cases o <;> rfl
theorem lstOO1 {xs : List D} : (lstOO (some (.lst xs))) = (some xs) := rfl
theorem len3 {n : Nat} {S : Sto} : (dLen [.obj n] S) = (lenO S S[n]?) := by show (match S[n]? with | some (.lst xs) => Res.ok (D.int xs.length) S | some (.dk xs) => .ok (D.int xs.length) S | some (.dt xs) => .ok (D.int xs.length) S | _ => .bad) = _; cases S[n]? with | none => rfl | some o => cases o <;> rfl
theorem lenO4 {xs : List (List Key × D)} {S : Sto} : (lenO S (some (.dt xs))) = (.ok (.int xs.length) S) := rfl
theorem lenO1 {xs : List D} {S : Sto} : (lenO S (some (.lst xs))) = (.ok (.int xs.length) S) := rfl
theorem lenO3 {xs : List (Key × D)} {S : Sto} : (lenO S (some (.dk xs))) = (.ok (.int xs.length) S) := rfl
theorem isi1 {d : D} {T : String} {S : Sto} : (dIsi [d, .ty T] S) = (isiR S ((tyOf d S).bind fun t => kitB t T)) := by show (match (tyOf d S).bind fun t => kitB t T with | some b => Res.ok (D.bl b) S | none => .bad) = _; cases (tyOf d S).bind fun t => kitB t T <;> rfl
theorem isiR1 {b : Bool} {S : Sto} : (isiR S (some b)) = (.ok (.bl b) S) := rfl
theorem ty_bl {x : Bool} {S : Sto} : (tyOf (.bl x) S) = (some "bool") := rfl
theorem ty_int {x : Int} {S : Sto} : (tyOf (.int x) S) = (some "int") := rfl
theorem ty_str {x : Str} {S : Sto} : (tyOf (.str x) S) = (some "str") := rfl
theorem ty_tup {x : List D} {S : Sto} : (tyOf (.tup x) S) = (some "tuple") := rfl
theorem ty_non {S : Sto} : (tyOf .non S) = (some "NoneType") := rfl
theorem ty_obj {n : Nat} {S : Sto} : (tyOf (.obj n) S) = (tyO (lstOf S n)) := by show (match lstOf S n with | some _ => some "list" | none => none) = _; cases lstOf S n <;> rfl
theorem tyO1 {xs : List D} : (tyO (some xs)) = (some "list") := rfl
theorem kit_NoneType_bool  : (kitB "NoneType" "bool") = (some false) := by decide +kernel
theorem kit_NoneType_int  : (kitB "NoneType" "int") = (some false) := by decide +kernel
theorem kit_NoneType_str  : (kitB "NoneType" "str") = (some false) := by decide +kernel
theorem kit_NoneType_tuple  : (kitB "NoneType" "tuple") = (some false) := by decide +kernel
theorem kit_NoneType_list  : (kitB "NoneType" "list") = (some false) := by decide +kernel
theorem kit_bool_bool  : (kitB "bool" "bool") = (some true) := by decide +kernel
theorem kit_bool_int  : (kitB "bool" "int") = (some true) := by decide +kernel
theorem kit_bool_str  : (kitB "bool" "str") = (some false) := by decide +kernel
theorem kit_bool_tuple  : (kitB "bool" "tuple") = (some false) := by decide +kernel
theorem kit_bool_list  : (kitB "bool" "list") = (some false) := by decide +kernel
theorem kit_int_bool  : (kitB "int" "bool") = (some false) := by decide +kernel
theorem kit_int_int  : (kitB "int" "int") = (some true) := by decide +kernel
theorem kit_int_str  : (kitB "int" "str") = (some false) := by decide +kernel
theorem kit_int_tuple  : (kitB "int" "tuple") = (some false) := by decide +kernel
theorem kit_int_list  : (kitB "int" "list") = (some false) := by decide +kernel
theorem kit_str_bool  : (kitB "str" "bool") = (some false) := by decide +kernel
theorem kit_str_int  : (kitB "str" "int") = (some false) := by decide +kernel
theorem kit_str_str  : (kitB "str" "str") = (some true) := by decide +kernel
theorem kit_str_tuple  : (kitB "str" "tuple") = (some false) := by decide +kernel
theorem kit_str_list  : (kitB "str" "list") = (some false) := by decide +kernel
theorem kit_tuple_bool  : (kitB "tuple" "bool") = (some false) := by decide +kernel
theorem kit_tuple_int  : (kitB "tuple" "int") = (some false) := by decide +kernel
theorem kit_tuple_str  : (kitB "tuple" "str") = (some false) := by decide +kernel
theorem kit_tuple_tuple  : (kitB "tuple" "tuple") = (some true) := by decide +kernel
theorem kit_tuple_list  : (kitB "tuple" "list") = (some false) := by decide +kernel
theorem kit_list_bool  : (kitB "list" "bool") = (some false) := by decide +kernel
theorem kit_list_int  : (kitB "list" "int") = (some false) := by decide +kernel
theorem kit_list_str  : (kitB "list" "str") = (some false) := by decide +kernel
theorem kit_list_tuple  : (kitB "list" "tuple") = (some false) := by decide +kernel
theorem kit_list_list  : (kitB "list" "list") = (some true) := by decide +kernel
theorem list1 {d : D} {S : Sto} : (dList [d] S) = (lstR S (seqOf d S)) := by show (match seqOf d S with | some xs => mkLst xs S | none => .bad) = _; cases seqOf d S <;> rfl
theorem lstR1 {xs : List D} {S : Sto} : (lstR S (some xs)) = (mkLst xs S) := rfl
theorem sq1 {xs : List D} {S : Sto} : (seqOf (.tup xs) S) = (some xs) := rfl
theorem sq3 {xs : List D} {S : Sto} : (seqOf (.kl xs) S) = (some xs) := rfl
theorem sl4 {xs : List D} {l h : Option Int} {S : Sto} : (dSl (.kl xs) l h S) = (mkLst (cutL xs l h) S) := rfl
theorem wk4 {xs : List D} {S : Sto} : (toWalk (.kl xs) S) = (.ok (xs, fun _ => True) S) := rfl
theorem sq2 {n : Nat} {S : Sto} : (seqOf (.obj n) S) = (lstOf S n) := rfl
theorem tup2 {n : Nat} {S : Sto} : (dTuple [.obj n] S) = (tupR S (lstOf S n)) := by show (match lstOf S n with | some xs => Res.ok (D.tup xs) S | none => .bad) = _; cases lstOf S n <;> rfl
theorem tupR1 {xs : List D} {S : Sto} : (tupR S (some xs)) = (.ok (.tup xs) S) := rfl
theorem sl2 {n : Nat} {l h : Option Int} {S : Sto} : (dSl (.obj n) l h S) = (slR l h S (lstOf S n)) := by show (match lstOf S n with | some xs => mkLst (cutL xs l h) S | none => .bad) = _; cases lstOf S n <;> rfl
theorem slR1 {xs : List D} {l h : Option Int} {S : Sto} : (slR l h S (some xs)) = (mkLst (cutL xs l h) S) := rfl
theorem app1 {n : Nat} {d : D} {S : Sto} : (mAppend (.obj n) [d] S) = (appO n d S S[n]?) := by show (match S[n]? with | some (.lst xs) => if xs.length < sizeLine then Res.ok D.non (S.set n (.lst (xs ++ [d]))) else .bad | _ => .bad) = _; cases S[n]? with | none => rfl | some o => cases o <;> rfl
theorem appO1 {n : Nat} {d : D} {xs : List D} {S : Sto} : (appO n d S (some (.lst xs))) = ((if xs.length < sizeLine then .ok .non (S.set n (.lst (xs ++ [d]))) else .bad)) := id rfl
theorem tym1 {T : String} {n : Nat} {S : Sto} : (tyM T (.obj n) S) = (tymO T S[n]?) := by show (match S[n]? with | some (.lst _) => T == "list" | some (.dk _) => T == "dict" | _ => false) = _; cases S[n]? with | none => rfl | some o => cases o <;> rfl
theorem tymO1 {T : String} {xs : List D} : (tymO T (some (.lst xs))) = ((T == "list")) := rfl
theorem tymO3 {T : String} {xs : List (Key × D)} : (tymO T (some (.dk xs))) = ((T == "dict")) := rfl
theorem tym2 {T : String} {z : Str} {S : Sto} : (tyM T (.str z) S) = ((T == "str")) := rfl
theorem scsS0  : (scs []) = (some []) := rfl
theorem scsS1 {y0 : Str} : (scs [D.str y0]) = (some [V.str y0]) := rfl
theorem scsS2 {y0 y1 : Str} : (scs [D.str y0, D.str y1]) = (some [V.str y0, V.str y1]) := rfl
theorem scsS3 {y0 y1 y2 : Str} : (scs [D.str y0, D.str y1, D.str y2]) = (some [V.str y0, V.str y1, V.str y2]) := rfl
theorem scsS4 {y0 y1 y2 y3 : Str} : (scs [D.str y0, D.str y1, D.str y2, D.str y3]) = (some [V.str y0, V.str y1, V.str y2, V.str y3]) := rfl
theorem scsS5 {y0 y1 y2 y3 y4 : Str} : (scs [D.str y0, D.str y1, D.str y2, D.str y3, D.str y4]) = (some [V.str y0, V.str y1, V.str y2, V.str y3, V.str y4]) := rfl
theorem scsS6 {y0 y1 y2 y3 y4 y5 : Str} : (scs [D.str y0, D.str y1, D.str y2, D.str y3, D.str y4, D.str y5]) = (some [V.str y0, V.str y1, V.str y2, V.str y3, V.str y4, V.str y5]) := rfl
theorem scsS7 {y0 y1 y2 y3 y4 y5 y6 : Str} : (scs [D.str y0, D.str y1, D.str y2, D.str y3, D.str y4, D.str y5, D.str y6]) = (some [V.str y0, V.str y1, V.str y2, V.str y3, V.str y4, V.str y5, V.str y6]) := rfl
theorem scsS8 {y0 y1 y2 y3 y4 y5 y6 y7 : Str} : (scs [D.str y0, D.str y1, D.str y2, D.str y3, D.str y4, D.str y5, D.str y6, D.str y7]) = (some [V.str y0, V.str y1, V.str y2, V.str y3, V.str y4, V.str y5, V.str y6, V.str y7]) := rfl
theorem scsS9 {y0 y1 y2 y3 y4 y5 y6 y7 y8 : Str} : (scs [D.str y0, D.str y1, D.str y2, D.str y3, D.str y4, D.str y5, D.str y6, D.str y7, D.str y8]) = (some [V.str y0, V.str y1, V.str y2, V.str y3, V.str y4, V.str y5, V.str y6, V.str y7, V.str y8]) := rfl
theorem inVS1 {t y0 : Str} : (inV (V.str t) [V.str y0]) = (decide (t ∈ [y0])) := in_strs t [y0]
theorem inVS2 {t y0 y1 : Str} : (inV (V.str t) [V.str y0, V.str y1]) = (decide (t ∈ [y0, y1])) := in_strs t [y0, y1]
theorem inVS3 {t y0 y1 y2 : Str} : (inV (V.str t) [V.str y0, V.str y1, V.str y2]) = (decide (t ∈ [y0, y1, y2])) := in_strs t [y0, y1, y2]
theorem inVS4 {t y0 y1 y2 y3 : Str} : (inV (V.str t) [V.str y0, V.str y1, V.str y2, V.str y3]) = (decide (t ∈ [y0, y1, y2, y3])) := in_strs t [y0, y1, y2, y3]
theorem inVS5 {t y0 y1 y2 y3 y4 : Str} : (inV (V.str t) [V.str y0, V.str y1, V.str y2, V.str y3, V.str y4]) = (decide (t ∈ [y0, y1, y2, y3, y4])) := in_strs t [y0, y1, y2, y3, y4]
theorem inVS6 {t y0 y1 y2 y3 y4 y5 : Str} : (inV (V.str t) [V.str y0, V.str y1, V.str y2, V.str y3, V.str y4, V.str y5]) = (decide (t ∈ [y0, y1, y2, y3, y4, y5])) := in_strs t [y0, y1, y2, y3, y4, y5]
theorem inVS7 {t y0 y1 y2 y3 y4 y5 y6 : Str} : (inV (V.str t) [V.str y0, V.str y1, V.str y2, V.str y3, V.str y4, V.str y5, V.str y6]) = (decide (t ∈ [y0, y1, y2, y3, y4, y5, y6])) := in_strs t [y0, y1, y2, y3, y4, y5, y6]
theorem inVS8 {t y0 y1 y2 y3 y4 y5 y6 y7 : Str} : (inV (V.str t) [V.str y0, V.str y1, V.str y2, V.str y3, V.str y4, V.str y5, V.str y6, V.str y7]) = (decide (t ∈ [y0, y1, y2, y3, y4, y5, y6, y7])) := in_strs t [y0, y1, y2, y3, y4, y5, y6, y7]
theorem inVS9 {t y0 y1 y2 y3 y4 y5 y6 y7 y8 : Str} : (inV (V.str t) [V.str y0, V.str y1, V.str y2, V.str y3, V.str y4, V.str y5, V.str y6, V.str y7, V.str y8]) = (decide (t ∈ [y0, y1, y2, y3, y4, y5, y6, y7, y8])) := in_strs t [y0, y1, y2, y3, y4, y5, y6, y7, y8]
theorem in1 {k : Bool} {x : D} {ys : List D} {S : Sto} : (dIn k x (.tup ys) S) = (inR k S x.sc (scs ys)) := by cases h : scs ys <;> cases x <;> simp only [dIn, D.sc, h, inR]
theorem in2 {k : Bool} {x : D} {n : Nat} {S : Sto} : (dIn k x (.obj n) S) = (inR k S x.sc ((lstOf S n).bind scs)) := by cases h : (lstOf S n).bind scs <;> cases x <;> simp only [dIn, D.sc, h, inR]
theorem inR1 {k : Bool} {v : V} {vs : List V} {S : Sto} : (inR k S (some v) (some vs)) = (.ok (.bl (if k then !inV v vs else inV v vs)) S) := rfl
theorem sc1 {x : Str} : ((D.str x).sc) = (some (.str x)) := rfl
theorem sc2 {x : Int} : ((D.int x).sc) = (some (.int x)) := rfl
theorem wkL {n : Nat} {S : Sto} : (toWalk (.obj n) S) = (walkR n S (lstOf S n)) := by show (match lstOf S n with | some xs => Res.ok (xs, sameL n xs) S | none => .bad) = _; cases lstOf S n <;> rfl
theorem walkR1 {n : Nat} {xs : List D} {S : Sto} : (walkR n S (some xs)) = (.ok (xs, sameL n xs) S) := rfl
theorem setSelf {S : Sto} {n : Nat} {o : Ob} : ((S.set n o)[n]?) = (S[n]?.map fun _ => o) := by rw [List.getElem?_set_self']; rfl
theorem mapSome {o o' : Ob} : ((some o').map fun (_ : Ob) => o) = (some o) := rfl
theorem setNe {S : Sto} {n m : Nat} {o : Ob} (h : n ≠ m) : ((S.set n o)[m]?) = (S[m]?) := List.getElem?_set_ne h
theorem setSet {S : Sto} {n : Nat} {o o' : Ob} : ((S.set n o).set n o') = (S.set n o') := List.set_set ..
theorem appNew {S : Sto} {o : Ob} : ((S ++ [o])[S.length]?) = (some o) := List.getElem?_concat_length
theorem appOld {S : Sto} {o : Ob} {n : Nat} (h : n < S.length) : ((S ++ [o])[n]?) = (S[n]?) := List.getElem?_append_left h
theorem mkLst1 {xs : List D} {S : Sto} : (mkLst xs S) = ((if xs.length ≤ sizeLine then .ok (.obj S.length) (S ++ [.lst xs]) else .bad)) := id rfl
theorem mkTup1 {xs : List D} {S : Sto} : (mkTup xs S) = ((if xs.length ≤ sizeLine then .ok (.tup xs) S else .bad)) := id rfl
theorem ixN5_0  : (ixN 5 (0 : Int)) = (some 0) := rfl
theorem ixN5_1  : (ixN 5 (1 : Int)) = (some 1) := rfl
theorem ixN5_2  : (ixN 5 (2 : Int)) = (some 2) := rfl
theorem ixN5_3  : (ixN 5 (3 : Int)) = (some 3) := rfl
theorem ixN5_4  : (ixN 5 (4 : Int)) = (some 4) := rfl
theorem int1 {i : Int} {S : Sto} : (dInt [.int i] S) = (.ok (.int i) S) := rfl
theorem int2 {k : Bool} {S : Sto} : (dInt [.bl k] S) = (.ok (.int (if k then 1 else 0)) S) := rfl
theorem len1 {xs : List D} {S : Sto} : (dLen [.tup xs] S) = (.ok (.int xs.length) S) := rfl
theorem len2 {z : Str} {S : Sto} : (dLen [.str z] S) = ((if z.length ≤ sizeLine then .ok (.int z.length) S else .bad)) := id rfl
theorem ix3 {z : Str} {i : Int} {S : Sto} : (dIx (.str z) (.int i) S) = ((if z.length ≤ sizeLine then ixS S (atI z.cps.toList i) else .bad)) := by show (if z.length ≤ sizeLine then (match atI z.cps.toList i with | some c => Res.ok (D.str ⟨#[c]⟩) S | none => .bad) else .bad) = _; cases atI z.cps.toList i <;> rfl
theorem ixS1 {c : Nat} {S : Sto} : (ixS S (some c)) = (.ok (.str ⟨#[c]⟩) S) := rfl
theorem find3a {a b : Str} {i : Int} {S : Sto} : (mFind3 (.str a) [.str b, .int i] S) = (.ok (.int (Txt.find3 a b i)) S) := rfl
theorem starts1 {a b : Str} {S : Sto} : (mStarts (.str a) [.str b] S) = (.ok (.bl (Txt.startswith a b)) S) := rfl
theorem mulS1 {a : Str} {k : Int} {S : Sto} : (dMulS (.str a) (.int k) S) = ((if k = 0 then .ok (.str Str.empty) S else if k = 1 then .ok (.str a) S else .bad)) := id rfl
theorem join1 {z : Str} {d : D} {S : Sto} : (mJoin (.str z) d S) = (joinR z S ((seqOf d S).bind asStrs)) := by unfold mJoin; cases (seqOf d S).bind asStrs <;> rfl
theorem joinR1 {z : Str} {ys : List Str} {S : Sto} : (joinR z S (some ys)) = ((if (ys.map (·.length)).sum + ys.length * z.length ≤ 16777216 then .ok (.str (Txt.join z ys)) S else .bad)) := id rfl
theorem neg1 {i : Int} {S : Sto} : (dNeg (.int i) S) = (.ok (.int (-i)) S) := rfl
theorem so1 {i : Int} {S : Sto} : (eSo1 (.int i) S) = (.ok (some i) S) := rfl
theorem sl1 {xs : List D} {l h : Option Int} {S : Sto} : (dSl (.tup xs) l h S) = (.ok (.tup (cutL xs l h)) S) := rfl
theorem sl3 {z : Str} {l h : Option Int} {S : Sto} : (dSl (.str z) l h S) = ((if z.length ≤ sizeLine then .ok (.str (cutS z l h)) S else .bad)) := id rfl
theorem abs1 {i : Int} {S : Sto} : (dAbs [.int i] S) = (.ok (.int (if i < 0 then -i else i)) S) := rfl
theorem max1 {i j : Int} {S : Sto} : (dMax2 [.int i, .int j] S) = (.ok (.int (if j > i then j else i)) S) := rfl
theorem min1 {i j : Int} {S : Sto} : (dMin2 [.int i, .int j] S) = (.ok (.int (if j < i then j else i)) S) := rfl
theorem str1 {i : Int} {S : Sto} : (dStr [.int i] S) = ((if i.natAbs.log2 < 1920 then .ok (.str (toString i)) S else .bad)) := id rfl
theorem ipI1 {g : Int → Int → Int} {i j : Int} {S : Sto} : (dIpI g (.int i) (.int j) S) = (.ok (.int (g i j)) S) := rfl
theorem for1 {g : DG} {body : DS} {items : List D} {still : Sto → Prop} {ρ : Env} {S : Sto} : (forR g body ρ (.ok (items, still) S)) = (dLoop still g body items ρ S) := rfl
theorem tgc1 {g : DG} {gs : DGs} {d : D} {r : List D} {ρ : Env} {S : Sto} : (tgCons g gs (d :: r) ρ S) = ((g d ρ S).bind (tgCons1 gs r S)) := rfl
theorem tgn1 {ρ : Env} {S : Sto} : (tgNil [] ρ S) = (some ρ) := rfl
theorem tgt1 {n : Nat} {gs : DGs} {ds : List D} {ρ : Env} {S : Sto} : (tgT n gs (.tup ds) ρ S) = ((if ds.length = n then gs ds ρ S else none)) := id rfl
theorem setc1 {g : DG} {t : DT} {e : DE} {ρ : Env} {items : List D} {still : Sto → Prop} {S : Sto} : (dSetC1 g t e ρ (items, still) S) = (sEnd (cLoop still g t e ρ items S)) := rfl
theorem send1 {xs : List D} {S : Sto} : (sEnd (.ok xs S)) = (dSetS xs S) := rfl
theorem tgl1 {n m : Nat} {gs : DGs} {ρ : Env} {S : Sto} : (tgL n gs (.obj m) ρ S) = (tgLR n gs ρ S (lstOf S m)) := by show (match lstOf S m with | some ds => if ds.length = n then gs ds ρ S else none | none => none) = _; cases lstOf S m <;> rfl
theorem tgl2 {n : Nat} {gs : DGs} {ds : List D} {ρ : Env} {S : Sto} : (tgLR n gs ρ S (some ds)) = ((if ds.length = n then gs ds ρ S else none)) := id rfl
theorem rng1 {j : Int} {S : Sto} : (toRng1 [.int j] S) = ((if OkR j then .ok (rng 0 j.toNat, fun _ => True) S else .bad)) := id rfl
theorem rng2 {i j : Int} {S : Sto} : (toRng2 [.int i, .int j] S) = ((if OkR i ∧ OkR j then .ok (rng i (j - i).toNat, fun _ => True) S else .bad)) := id rfl
theorem okr_0  : (OkR 0) = (True) := by exact eq_true ⟨by decide, by decide⟩
theorem okr_1  : (OkR 1) = (True) := by exact eq_true ⟨by decide, by decide⟩
theorem okr_2  : (OkR 2) = (True) := by exact eq_true ⟨by decide, by decide⟩
theorem okr_3  : (OkR 3) = (True) := by exact eq_true ⟨by decide, by decide⟩
theorem okr_4  : (OkR 4) = (True) := by exact eq_true ⟨by decide, by decide⟩
theorem okr_5  : (OkR 5) = (True) := by exact eq_true ⟨by decide, by decide⟩
theorem okr_6  : (OkR 6) = (True) := by exact eq_true ⟨by decide, by decide⟩
theorem okr_7  : (OkR 7) = (True) := by exact eq_true ⟨by decide, by decide⟩
theorem okr_8  : (OkR 8) = (True) := by exact eq_true ⟨by decide, by decide⟩
theorem okr_9  : (OkR 9) = (True) := by exact eq_true ⟨by decide, by decide⟩
theorem okr_10  : (OkR 10) = (True) := by exact eq_true ⟨by decide, by decide⟩
theorem okr_11  : (OkR 11) = (True) := by exact eq_true ⟨by decide, by decide⟩
theorem okr_12  : (OkR 12) = (True) := by exact eq_true ⟨by decide, by decide⟩
theorem okr_13  : (OkR 13) = (True) := by exact eq_true ⟨by decide, by decide⟩
theorem okr_14  : (OkR 14) = (True) := by exact eq_true ⟨by decide, by decide⟩
theorem okr_15  : (OkR 15) = (True) := by exact eq_true ⟨by decide, by decide⟩
theorem okr_16  : (OkR 16) = (True) := by exact eq_true ⟨by decide, by decide⟩
theorem okr_17  : (OkR 17) = (True) := by exact eq_true ⟨by decide, by decide⟩
theorem okr_18  : (OkR 18) = (True) := by exact eq_true ⟨by decide, by decide⟩
theorem okr_19  : (OkR 19) = (True) := by exact eq_true ⟨by decide, by decide⟩
theorem okr_20  : (OkR 20) = (True) := by exact eq_true ⟨by decide, by decide⟩
theorem okr_21  : (OkR 21) = (True) := by exact eq_true ⟨by decide, by decide⟩
theorem okr_22  : (OkR 22) = (True) := by exact eq_true ⟨by decide, by decide⟩
theorem okr_23  : (OkR 23) = (True) := by exact eq_true ⟨by decide, by decide⟩
theorem okr_24  : (OkR 24) = (True) := by exact eq_true ⟨by decide, by decide⟩
theorem okr_25  : (OkR 25) = (True) := by exact eq_true ⟨by decide, by decide⟩
theorem okr_26  : (OkR 26) = (True) := by exact eq_true ⟨by decide, by decide⟩
theorem okr_27  : (OkR 27) = (True) := by exact eq_true ⟨by decide, by decide⟩
theorem okr_28  : (OkR 28) = (True) := by exact eq_true ⟨by decide, by decide⟩
theorem okr_29  : (OkR 29) = (True) := by exact eq_true ⟨by decide, by decide⟩
theorem okr_30  : (OkR 30) = (True) := by exact eq_true ⟨by decide, by decide⟩
theorem okr_31  : (OkR 31) = (True) := by exact eq_true ⟨by decide, by decide⟩
theorem okr_32  : (OkR 32) = (True) := by exact eq_true ⟨by decide, by decide⟩
theorem okr_33  : (OkR 33) = (True) := by exact eq_true ⟨by decide, by decide⟩
theorem okr_34  : (OkR 34) = (True) := by exact eq_true ⟨by decide, by decide⟩
theorem okr_35  : (OkR 35) = (True) := by exact eq_true ⟨by decide, by decide⟩
theorem okr_36  : (OkR 36) = (True) := by exact eq_true ⟨by decide, by decide⟩
theorem okr_37  : (OkR 37) = (True) := by exact eq_true ⟨by decide, by decide⟩
theorem okr_38  : (OkR 38) = (True) := by exact eq_true ⟨by decide, by decide⟩
theorem okr_39  : (OkR 39) = (True) := by exact eq_true ⟨by decide, by decide⟩
theorem okr_40  : (OkR 40) = (True) := by exact eq_true ⟨by decide, by decide⟩
theorem okr_41  : (OkR 41) = (True) := by exact eq_true ⟨by decide, by decide⟩
theorem okr_42  : (OkR 42) = (True) := by exact eq_true ⟨by decide, by decide⟩
theorem okr_43  : (OkR 43) = (True) := by exact eq_true ⟨by decide, by decide⟩
theorem okr_44  : (OkR 44) = (True) := by exact eq_true ⟨by decide, by decide⟩
theorem okr_45  : (OkR 45) = (True) := by exact eq_true ⟨by decide, by decide⟩
theorem okr_46  : (OkR 46) = (True) := by exact eq_true ⟨by decide, by decide⟩
theorem okr_47  : (OkR 47) = (True) := by exact eq_true ⟨by decide, by decide⟩
theorem okr_48  : (OkR 48) = (True) := by exact eq_true ⟨by decide, by decide⟩
theorem okr_49  : (OkR 49) = (True) := by exact eq_true ⟨by decide, by decide⟩
theorem okr_50  : (OkR 50) = (True) := by exact eq_true ⟨by decide, by decide⟩
theorem okr_51  : (OkR 51) = (True) := by exact eq_true ⟨by decide, by decide⟩
theorem okr_52  : (OkR 52) = (True) := by exact eq_true ⟨by decide, by decide⟩
theorem okr_53  : (OkR 53) = (True) := by exact eq_true ⟨by decide, by decide⟩
theorem okr_54  : (OkR 54) = (True) := by exact eq_true ⟨by decide, by decide⟩
theorem okr_55  : (OkR 55) = (True) := by exact eq_true ⟨by decide, by decide⟩
theorem okr_56  : (OkR 56) = (True) := by exact eq_true ⟨by decide, by decide⟩
theorem okr_57  : (OkR 57) = (True) := by exact eq_true ⟨by decide, by decide⟩
theorem okr_58  : (OkR 58) = (True) := by exact eq_true ⟨by decide, by decide⟩
theorem okr_59  : (OkR 59) = (True) := by exact eq_true ⟨by decide, by decide⟩
theorem okr_60  : (OkR 60) = (True) := by exact eq_true ⟨by decide, by decide⟩
theorem okr_61  : (OkR 61) = (True) := by exact eq_true ⟨by decide, by decide⟩
theorem okr_62  : (OkR 62) = (True) := by exact eq_true ⟨by decide, by decide⟩
theorem okr_63  : (OkR 63) = (True) := by exact eq_true ⟨by decide, by decide⟩
theorem okr_64  : (OkR 64) = (True) := by exact eq_true ⟨by decide, by decide⟩
theorem okr_65  : (OkR 65) = (True) := by exact eq_true ⟨by decide, by decide⟩
theorem okr_66  : (OkR 66) = (True) := by exact eq_true ⟨by decide, by decide⟩
theorem okr_67  : (OkR 67) = (True) := by exact eq_true ⟨by decide, by decide⟩
theorem okr_68  : (OkR 68) = (True) := by exact eq_true ⟨by decide, by decide⟩
theorem okr_69  : (OkR 69) = (True) := by exact eq_true ⟨by decide, by decide⟩
theorem okr_70  : (OkR 70) = (True) := by exact eq_true ⟨by decide, by decide⟩
theorem okr_71  : (OkR 71) = (True) := by exact eq_true ⟨by decide, by decide⟩
theorem okr_72  : (OkR 72) = (True) := by exact eq_true ⟨by decide, by decide⟩
theorem okr_73  : (OkR 73) = (True) := by exact eq_true ⟨by decide, by decide⟩
theorem okr_74  : (OkR 74) = (True) := by exact eq_true ⟨by decide, by decide⟩
theorem okr_75  : (OkR 75) = (True) := by exact eq_true ⟨by decide, by decide⟩
theorem okr_76  : (OkR 76) = (True) := by exact eq_true ⟨by decide, by decide⟩
theorem okr_77  : (OkR 77) = (True) := by exact eq_true ⟨by decide, by decide⟩
theorem okr_78  : (OkR 78) = (True) := by exact eq_true ⟨by decide, by decide⟩
theorem okr_79  : (OkR 79) = (True) := by exact eq_true ⟨by decide, by decide⟩
theorem okr_80  : (OkR 80) = (True) := by exact eq_true ⟨by decide, by decide⟩
theorem okr_81  : (OkR 81) = (True) := by exact eq_true ⟨by decide, by decide⟩
theorem okr_82  : (OkR 82) = (True) := by exact eq_true ⟨by decide, by decide⟩
theorem okr_83  : (OkR 83) = (True) := by exact eq_true ⟨by decide, by decide⟩
theorem okr_84  : (OkR 84) = (True) := by exact eq_true ⟨by decide, by decide⟩
theorem okr_85  : (OkR 85) = (True) := by exact eq_true ⟨by decide, by decide⟩
theorem okr_86  : (OkR 86) = (True) := by exact eq_true ⟨by decide, by decide⟩
theorem okr_87  : (OkR 87) = (True) := by exact eq_true ⟨by decide, by decide⟩
theorem okr_88  : (OkR 88) = (True) := by exact eq_true ⟨by decide, by decide⟩
theorem okr_89  : (OkR 89) = (True) := by exact eq_true ⟨by decide, by decide⟩
theorem okr_90  : (OkR 90) = (True) := by exact eq_true ⟨by decide, by decide⟩
theorem okr_91  : (OkR 91) = (True) := by exact eq_true ⟨by decide, by decide⟩
theorem okr_92  : (OkR 92) = (True) := by exact eq_true ⟨by decide, by decide⟩
theorem okr_93  : (OkR 93) = (True) := by exact eq_true ⟨by decide, by decide⟩
theorem okr_94  : (OkR 94) = (True) := by exact eq_true ⟨by decide, by decide⟩
theorem okr_95  : (OkR 95) = (True) := by exact eq_true ⟨by decide, by decide⟩
theorem okr_96  : (OkR 96) = (True) := by exact eq_true ⟨by decide, by decide⟩
theorem okr_97  : (OkR 97) = (True) := by exact eq_true ⟨by decide, by decide⟩
theorem okr_98  : (OkR 98) = (True) := by exact eq_true ⟨by decide, by decide⟩
theorem okr_99  : (OkR 99) = (True) := by exact eq_true ⟨by decide, by decide⟩
theorem okr_100  : (OkR 100) = (True) := by exact eq_true ⟨by decide, by decide⟩
theorem okr_101  : (OkR 101) = (True) := by exact eq_true ⟨by decide, by decide⟩
theorem okr_102  : (OkR 102) = (True) := by exact eq_true ⟨by decide, by decide⟩
theorem okr_103  : (OkR 103) = (True) := by exact eq_true ⟨by decide, by decide⟩
theorem okr_104  : (OkR 104) = (True) := by exact eq_true ⟨by decide, by decide⟩
theorem okr_105  : (OkR 105) = (True) := by exact eq_true ⟨by decide, by decide⟩
theorem okr_106  : (OkR 106) = (True) := by exact eq_true ⟨by decide, by decide⟩
theorem okr_107  : (OkR 107) = (True) := by exact eq_true ⟨by decide, by decide⟩
theorem okr_108  : (OkR 108) = (True) := by exact eq_true ⟨by decide, by decide⟩
theorem okr_109  : (OkR 109) = (True) := by exact eq_true ⟨by decide, by decide⟩
theorem okr_110  : (OkR 110) = (True) := by exact eq_true ⟨by decide, by decide⟩
theorem okr_111  : (OkR 111) = (True) := by exact eq_true ⟨by decide, by decide⟩
theorem okr_112  : (OkR 112) = (True) := by exact eq_true ⟨by decide, by decide⟩
theorem okr_113  : (OkR 113) = (True) := by exact eq_true ⟨by decide, by decide⟩
theorem okr_114  : (OkR 114) = (True) := by exact eq_true ⟨by decide, by decide⟩
theorem okr_115  : (OkR 115) = (True) := by exact eq_true ⟨by decide, by decide⟩
theorem okr_116  : (OkR 116) = (True) := by exact eq_true ⟨by decide, by decide⟩
theorem okr_117  : (OkR 117) = (True) := by exact eq_true ⟨by decide, by decide⟩
theorem okr_118  : (OkR 118) = (True) := by exact eq_true ⟨by decide, by decide⟩
theorem okr_119  : (OkR 119) = (True) := by exact eq_true ⟨by decide, by decide⟩
theorem okr_120  : (OkR 120) = (True) := by exact eq_true ⟨by decide, by decide⟩
theorem okr_121  : (OkR 121) = (True) := by exact eq_true ⟨by decide, by decide⟩
theorem okr_122  : (OkR 122) = (True) := by exact eq_true ⟨by decide, by decide⟩
theorem okr_123  : (OkR 123) = (True) := by exact eq_true ⟨by decide, by decide⟩
theorem okr_124  : (OkR 124) = (True) := by exact eq_true ⟨by decide, by decide⟩
theorem okr_125  : (OkR 125) = (True) := by exact eq_true ⟨by decide, by decide⟩
theorem okr_126  : (OkR 126) = (True) := by exact eq_true ⟨by decide, by decide⟩
theorem okr_127  : (OkR 127) = (True) := by exact eq_true ⟨by decide, by decide⟩
theorem okr_128  : (OkR 128) = (True) := by exact eq_true ⟨by decide, by decide⟩
theorem okr_129  : (OkR 129) = (True) := by exact eq_true ⟨by decide, by decide⟩
theorem okr_150  : (OkR 150) = (True) := by exact eq_true ⟨by decide, by decide⟩
theorem okr_200  : (OkR 200) = (True) := by exact eq_true ⟨by decide, by decide⟩
theorem okr_250  : (OkR 250) = (True) := by exact eq_true ⟨by decide, by decide⟩
theorem okr_256  : (OkR 256) = (True) := by exact eq_true ⟨by decide, by decide⟩
theorem okr_300  : (OkR 300) = (True) := by exact eq_true ⟨by decide, by decide⟩
theorem okr_400  : (OkR 400) = (True) := by exact eq_true ⟨by decide, by decide⟩
theorem okr_500  : (OkR 500) = (True) := by exact eq_true ⟨by decide, by decide⟩
theorem okr_1000  : (OkR 1000) = (True) := by exact eq_true ⟨by decide, by decide⟩
theorem okr2 {n : Nat} (h : n ≤ sizeLine) : (OkR ((n : Nat) : Int)) = (True) := by rw [sizeLine_eq] at h; exact eq_true ⟨by omega, by omega⟩
theorem wkT {xs : List D} {S : Sto} : (toWalkT (.tup xs) S) = (.ok (xs, fun _ => True) S) := rfl
theorem enum1 {n : Nat} {S : Sto} : (toEnum [.obj n] S) = (enumR n S (lstOf S n)) := by show (match lstOf S n with | some xs => Res.ok (enumD xs, sameL n xs) S | none => .bad) = _; cases lstOf S n <;> rfl
theorem enum2 {xs : List D} {S : Sto} : (toEnum [.kl xs] S) = (.ok (enumD xs, fun _ => True) S) := rfl
theorem enumR1 {n : Nat} {xs : List D} {S : Sto} : (enumR n S (some xs)) = (.ok (enumD xs, sameL n xs) S) := rfl
theorem zip1 {xs ys : List D} {S : Sto} : (toZip [.tup xs, .tup ys] S) = (.ok (zipD xs ys, fun _ => True) S) := rfl
theorem zip2 {n m : Nat} {S : Sto} : (toZip [.obj n, .obj m] S) = (zipR n m S (lstOf S n) (lstOf S m)) := by show (match lstOf S n, lstOf S m with | some xs, some ys => Res.ok (zipD xs ys, fun S => sameL n xs S ∧ sameL m ys S) S | _, _ => .bad) = _; cases lstOf S n <;> cases lstOf S m <;> rfl
theorem zipR1 {n m : Nat} {xs ys : List D} {S : Sto} : (zipR n m S (some xs) (some ys)) = (.ok (zipD xs ys, fun S => sameL n xs S ∧ sameL m ys S) S) := rfl
theorem starS1 {da : DA} {xs : List D} {ρ : Env} {S : Sto} : (starS da ρ S (some xs)) = ((da ρ S).bind (starA xs)) := rfl
theorem starA1 {xs ys : List D} {S : Sto} : (starA xs ys S) = (.ok (xs ++ ys) S) := rfl
theorem ltA1 {i j : Int} {S : Sto} : (dLtA (.int i) (.int j) S) = (.ok (.bl (decide (i < j))) S) := rfl
theorem leA1 {i j : Int} {S : Sto} : (dLeA (.int i) (.int j) S) = (.ok (.bl (decide (i ≤ j))) S) := rfl
theorem ltA2 {i j : Bool} {S : Sto} : (dLtA (.bl i) (.bl j) S) = (.ok (.bl (!i && j)) S) := rfl
theorem leA2 {i j : Bool} {S : Sto} : (dLeA (.bl i) (.bl j) S) = (.ok (.bl (!i || j)) S) := rfl
theorem wkS {z : Str} {S : Sto} : (toWalkS (.str z) S) = (.ok (signs z, fun _ => True) S) := rfl
theorem wh1 {k : DS} {ρ : Env} {S : Sto} : (whR k (.nx ρ S)) = (k ρ S) := rfl
theorem wh2 {k : DS} {ρ : Env} {S : Sto} : (whR k (.ct ρ S)) = (k ρ S) := rfl
theorem wh3 {k : DS} {ρ : Env} {S : Sto} : (whR k (.bk ρ S)) = (.nx ρ S) := rfl
theorem wh4 {k : DS} {d : D} {S : Sto} : (whR k (.rt d S)) = (.rt d S) := rfl
theorem wt1 {b k : DS} {ρ : Env} {S : Sto} : (whT b k ρ (.ok true S)) = (whR k (b ρ S)) := rfl
theorem wt2 {b k : DS} {ρ : Env} {S : Sto} : (whT b k ρ (.ok false S)) = (.nx ρ S) := rfl
theorem tr1 {m : Mat} {s : DS} {c : Str} {fs : List (Str × D)} {ρ : Env} {S : Sto} : (tryR m s (.exc c fs ρ S)) = (tryM s c fs ρ S (m.lookup c)) := rfl
theorem tr2 {m : Mat} {s : DS} {ρ : Env} {S : Sto} : (tryR m s (.nx ρ S)) = (.nx ρ S) := rfl
theorem tr3 {m : Mat} {s : DS} {d : D} {S : Sto} : (tryR m s (.rt d S)) = (.rt d S) := rfl
theorem tm1 {s : DS} {c : Str} {fs : List (Str × D)} {ρ : Env} {S : Sto} : (tryM s c fs ρ S (some true)) = (s ρ S) := rfl
theorem tm2 {s : DS} {c : Str} {fs : List (Str × D)} {ρ : Env} {S : Sto} : (tryM s c fs ρ S (some false)) = (.exc c fs ρ S) := rfl
theorem cend1 {xs : List D} {S : Sto} : (cEnd (.ok xs S)) = (mkLst xs S) := rfl
theorem ccmp1 {g : DG} {t : DT} {e : DE} {ρ : Env} {items : List D} {still : Sto → Prop} {S : Sto} : (dComp1 g t e ρ (items, still) S) = (cEnd (cLoop still g t e ρ items S)) := rfl
theorem chd1 {x : D} {xs : List D} {S : Sto} : (cHead x (.ok xs S)) = (.ok (x :: xs) S) := rfl
theorem cel1 {still : Sto → Prop} {k : Sto → Res (List D)} {x : D} {S : Sto} : (cElt still k (.ok x S)) = (cHead x (cSkip still k S)) := rfl
theorem cts1 {still : Sto → Prop} {e : DE} {k : Sto → Res (List D)} {ρ : Env} {S : Sto} : (cTest still e k ρ (.ok true S)) = (cElt still k (e ρ S)) := rfl
theorem cts2 {still : Sto → Prop} {e : DE} {k : Sto → Res (List D)} {ρ : Env} {S : Sto} : (cTest still e k ρ (.ok false S)) = (cSkip still k S) := rfl
theorem ctg1 {still : Sto → Prop} {t : DT} {e : DE} {k : Sto → Res (List D)} {ρ : Env} {S : Sto} : (cTg still t e k S (some ρ)) = (cTest still e k ρ (t ρ S)) := rfl
theorem m11 {f : D → D → Sto → Res D} {da : DE} {z : Str} {ρ : Env} {S : Sto} : (eM11 f da ρ (.str z) S) = ((da ρ S).bind (f (.str z))) := rfl
theorem mulr {i j : Int} (h : j.natAbs < 2 ^ 64) : (MulOk i j) = (True) := by exact eq_true (.inr (.inl h))
theorem mull {i j : Int} (h : i.natAbs < 2 ^ 64) : (MulOk i j) = (True) := by exact eq_true (.inl h)
theorem get0 {α : Type} {x : α} {l : List α} : ((x :: l)[0]?) = (some x) := rfl
theorem at0 {x0 : D} {l : List D} : (atI (x0 :: l) 0) = (some x0) := atI_nat (j := 0) rfl
theorem get1 {α : Type} {x0 x1 : α} {l : List α} : ((x0 :: x1 :: l)[1]?) = (some x1) := rfl
theorem at1 {x0 x1 : D} {l : List D} : (atI (x0 :: x1 :: l) 1) = (some x1) := atI_nat (j := 1) rfl
theorem get2 {α : Type} {x0 x1 x2 : α} {l : List α} : ((x0 :: x1 :: x2 :: l)[2]?) = (some x2) := rfl
theorem at2 {x0 x1 x2 : D} {l : List D} : (atI (x0 :: x1 :: x2 :: l) 2) = (some x2) := atI_nat (j := 2) rfl
theorem get3 {α : Type} {x0 x1 x2 x3 : α} {l : List α} : ((x0 :: x1 :: x2 :: x3 :: l)[3]?) = (some x3) := rfl
theorem at3 {x0 x1 x2 x3 : D} {l : List D} : (atI (x0 :: x1 :: x2 :: x3 :: l) 3) = (some x3) := atI_nat (j := 3) rfl
theorem get4 {α : Type} {x0 x1 x2 x3 x4 : α} {l : List α} : ((x0 :: x1 :: x2 :: x3 :: x4 :: l)[4]?) = (some x4) := rfl
theorem at4 {x0 x1 x2 x3 x4 : D} {l : List D} : (atI (x0 :: x1 :: x2 :: x3 :: x4 :: l) 4) = (some x4) := atI_nat (j := 4) rfl
theorem get5 {α : Type} {x0 x1 x2 x3 x4 x5 : α} {l : List α} : ((x0 :: x1 :: x2 :: x3 :: x4 :: x5 :: l)[5]?) = (some x5) := rfl
theorem at5 {x0 x1 x2 x3 x4 x5 : D} {l : List D} : (atI (x0 :: x1 :: x2 :: x3 :: x4 :: x5 :: l) 5) = (some x5) := atI_nat (j := 5) rfl
theorem get6 {α : Type} {x0 x1 x2 x3 x4 x5 x6 : α} {l : List α} : ((x0 :: x1 :: x2 :: x3 :: x4 :: x5 :: x6 :: l)[6]?) = (some x6) := rfl
theorem at6 {x0 x1 x2 x3 x4 x5 x6 : D} {l : List D} : (atI (x0 :: x1 :: x2 :: x3 :: x4 :: x5 :: x6 :: l) 6) = (some x6) := atI_nat (j := 6) rfl
theorem get7 {α : Type} {x0 x1 x2 x3 x4 x5 x6 x7 : α} {l : List α} : ((x0 :: x1 :: x2 :: x3 :: x4 :: x5 :: x6 :: x7 :: l)[7]?) = (some x7) := rfl
theorem at7 {x0 x1 x2 x3 x4 x5 x6 x7 : D} {l : List D} : (atI (x0 :: x1 :: x2 :: x3 :: x4 :: x5 :: x6 :: x7 :: l) 7) = (some x7) := atI_nat (j := 7) rfl
theorem get8 {α : Type} {x0 x1 x2 x3 x4 x5 x6 x7 x8 : α} {l : List α} : ((x0 :: x1 :: x2 :: x3 :: x4 :: x5 :: x6 :: x7 :: x8 :: l)[8]?) = (some x8) := rfl
theorem at8 {x0 x1 x2 x3 x4 x5 x6 x7 x8 : D} {l : List D} : (atI (x0 :: x1 :: x2 :: x3 :: x4 :: x5 :: x6 :: x7 :: x8 :: l) 8) = (some x8) := atI_nat (j := 8) rfl
theorem get9 {α : Type} {x0 x1 x2 x3 x4 x5 x6 x7 x8 x9 : α} {l : List α} : ((x0 :: x1 :: x2 :: x3 :: x4 :: x5 :: x6 :: x7 :: x8 :: x9 :: l)[9]?) = (some x9) := rfl
theorem at9 {x0 x1 x2 x3 x4 x5 x6 x7 x8 x9 : D} {l : List D} : (atI (x0 :: x1 :: x2 :: x3 :: x4 :: x5 :: x6 :: x7 :: x8 :: x9 :: l) 9) = (some x9) := atI_nat (j := 9) rfl
theorem get10 {α : Type} {x0 x1 x2 x3 x4 x5 x6 x7 x8 x9 x10 : α} {l : List α} : ((x0 :: x1 :: x2 :: x3 :: x4 :: x5 :: x6 :: x7 :: x8 :: x9 :: x10 :: l)[10]?) = (some x10) := rfl
theorem at10 {x0 x1 x2 x3 x4 x5 x6 x7 x8 x9 x10 : D} {l : List D} : (atI (x0 :: x1 :: x2 :: x3 :: x4 :: x5 :: x6 :: x7 :: x8 :: x9 :: x10 :: l) 10) = (some x10) := atI_nat (j := 10) rfl
theorem get11 {α : Type} {x0 x1 x2 x3 x4 x5 x6 x7 x8 x9 x10 x11 : α} {l : List α} : ((x0 :: x1 :: x2 :: x3 :: x4 :: x5 :: x6 :: x7 :: x8 :: x9 :: x10 :: x11 :: l)[11]?) = (some x11) := rfl
theorem at11 {x0 x1 x2 x3 x4 x5 x6 x7 x8 x9 x10 x11 : D} {l : List D} : (atI (x0 :: x1 :: x2 :: x3 :: x4 :: x5 :: x6 :: x7 :: x8 :: x9 :: x10 :: x11 :: l) 11) = (some x11) := atI_nat (j := 11) rfl
theorem get12 {α : Type} {x0 x1 x2 x3 x4 x5 x6 x7 x8 x9 x10 x11 x12 : α} {l : List α} : ((x0 :: x1 :: x2 :: x3 :: x4 :: x5 :: x6 :: x7 :: x8 :: x9 :: x10 :: x11 :: x12 :: l)[12]?) = (some x12) := rfl
theorem at12 {x0 x1 x2 x3 x4 x5 x6 x7 x8 x9 x10 x11 x12 : D} {l : List D} : (atI (x0 :: x1 :: x2 :: x3 :: x4 :: x5 :: x6 :: x7 :: x8 :: x9 :: x10 :: x11 :: x12 :: l) 12) = (some x12) := atI_nat (j := 12) rfl
theorem get13 {α : Type} {x0 x1 x2 x3 x4 x5 x6 x7 x8 x9 x10 x11 x12 x13 : α} {l : List α} : ((x0 :: x1 :: x2 :: x3 :: x4 :: x5 :: x6 :: x7 :: x8 :: x9 :: x10 :: x11 :: x12 :: x13 :: l)[13]?) = (some x13) := rfl
theorem at13 {x0 x1 x2 x3 x4 x5 x6 x7 x8 x9 x10 x11 x12 x13 : D} {l : List D} : (atI (x0 :: x1 :: x2 :: x3 :: x4 :: x5 :: x6 :: x7 :: x8 :: x9 :: x10 :: x11 :: x12 :: x13 :: l) 13) = (some x13) := atI_nat (j := 13) rfl
theorem get14 {α : Type} {x0 x1 x2 x3 x4 x5 x6 x7 x8 x9 x10 x11 x12 x13 x14 : α} {l : List α} : ((x0 :: x1 :: x2 :: x3 :: x4 :: x5 :: x6 :: x7 :: x8 :: x9 :: x10 :: x11 :: x12 :: x13 :: x14 :: l)[14]?) = (some x14) := rfl
theorem at14 {x0 x1 x2 x3 x4 x5 x6 x7 x8 x9 x10 x11 x12 x13 x14 : D} {l : List D} : (atI (x0 :: x1 :: x2 :: x3 :: x4 :: x5 :: x6 :: x7 :: x8 :: x9 :: x10 :: x11 :: x12 :: x13 :: x14 :: l) 14) = (some x14) := atI_nat (j := 14) rfl
theorem get15 {α : Type} {x0 x1 x2 x3 x4 x5 x6 x7 x8 x9 x10 x11 x12 x13 x14 x15 : α} {l : List α} : ((x0 :: x1 :: x2 :: x3 :: x4 :: x5 :: x6 :: x7 :: x8 :: x9 :: x10 :: x11 :: x12 :: x13 :: x14 :: x15 :: l)[15]?) = (some x15) := rfl
theorem at15 {x0 x1 x2 x3 x4 x5 x6 x7 x8 x9 x10 x11 x12 x13 x14 x15 : D} {l : List D} : (atI (x0 :: x1 :: x2 :: x3 :: x4 :: x5 :: x6 :: x7 :: x8 :: x9 :: x10 :: x11 :: x12 :: x13 :: x14 :: x15 :: l) 15) = (some x15) := atI_nat (j := 15) rfl
theorem get16 {α : Type} {x0 x1 x2 x3 x4 x5 x6 x7 x8 x9 x10 x11 x12 x13 x14 x15 x16 : α} {l : List α} : ((x0 :: x1 :: x2 :: x3 :: x4 :: x5 :: x6 :: x7 :: x8 :: x9 :: x10 :: x11 :: x12 :: x13 :: x14 :: x15 :: x16 :: l)[16]?) = (some x16) := rfl
theorem at16 {x0 x1 x2 x3 x4 x5 x6 x7 x8 x9 x10 x11 x12 x13 x14 x15 x16 : D} {l : List D} : (atI (x0 :: x1 :: x2 :: x3 :: x4 :: x5 :: x6 :: x7 :: x8 :: x9 :: x10 :: x11 :: x12 :: x13 :: x14 :: x15 :: x16 :: l) 16) = (some x16) := atI_nat (j := 16) rfl
theorem get17 {α : Type} {x0 x1 x2 x3 x4 x5 x6 x7 x8 x9 x10 x11 x12 x13 x14 x15 x16 x17 : α} {l : List α} : ((x0 :: x1 :: x2 :: x3 :: x4 :: x5 :: x6 :: x7 :: x8 :: x9 :: x10 :: x11 :: x12 :: x13 :: x14 :: x15 :: x16 :: x17 :: l)[17]?) = (some x17) := rfl
theorem at17 {x0 x1 x2 x3 x4 x5 x6 x7 x8 x9 x10 x11 x12 x13 x14 x15 x16 x17 : D} {l : List D} : (atI (x0 :: x1 :: x2 :: x3 :: x4 :: x5 :: x6 :: x7 :: x8 :: x9 :: x10 :: x11 :: x12 :: x13 :: x14 :: x15 :: x16 :: x17 :: l) 17) = (some x17) := atI_nat (j := 17) rfl
theorem get18 {α : Type} {x0 x1 x2 x3 x4 x5 x6 x7 x8 x9 x10 x11 x12 x13 x14 x15 x16 x17 x18 : α} {l : List α} : ((x0 :: x1 :: x2 :: x3 :: x4 :: x5 :: x6 :: x7 :: x8 :: x9 :: x10 :: x11 :: x12 :: x13 :: x14 :: x15 :: x16 :: x17 :: x18 :: l)[18]?) = (some x18) := rfl
theorem at18 {x0 x1 x2 x3 x4 x5 x6 x7 x8 x9 x10 x11 x12 x13 x14 x15 x16 x17 x18 : D} {l : List D} : (atI (x0 :: x1 :: x2 :: x3 :: x4 :: x5 :: x6 :: x7 :: x8 :: x9 :: x10 :: x11 :: x12 :: x13 :: x14 :: x15 :: x16 :: x17 :: x18 :: l) 18) = (some x18) := atI_nat (j := 18) rfl
theorem get19 {α : Type} {x0 x1 x2 x3 x4 x5 x6 x7 x8 x9 x10 x11 x12 x13 x14 x15 x16 x17 x18 x19 : α} {l : List α} : ((x0 :: x1 :: x2 :: x3 :: x4 :: x5 :: x6 :: x7 :: x8 :: x9 :: x10 :: x11 :: x12 :: x13 :: x14 :: x15 :: x16 :: x17 :: x18 :: x19 :: l)[19]?) = (some x19) := rfl
theorem at19 {x0 x1 x2 x3 x4 x5 x6 x7 x8 x9 x10 x11 x12 x13 x14 x15 x16 x17 x18 x19 : D} {l : List D} : (atI (x0 :: x1 :: x2 :: x3 :: x4 :: x5 :: x6 :: x7 :: x8 :: x9 :: x10 :: x11 :: x12 :: x13 :: x14 :: x15 :: x16 :: x17 :: x18 :: x19 :: l) 19) = (some x19) := atI_nat (j := 19) rfl
theorem get20 {α : Type} {x0 x1 x2 x3 x4 x5 x6 x7 x8 x9 x10 x11 x12 x13 x14 x15 x16 x17 x18 x19 x20 : α} {l : List α} : ((x0 :: x1 :: x2 :: x3 :: x4 :: x5 :: x6 :: x7 :: x8 :: x9 :: x10 :: x11 :: x12 :: x13 :: x14 :: x15 :: x16 :: x17 :: x18 :: x19 :: x20 :: l)[20]?) = (some x20) := rfl
theorem at20 {x0 x1 x2 x3 x4 x5 x6 x7 x8 x9 x10 x11 x12 x13 x14 x15 x16 x17 x18 x19 x20 : D} {l : List D} : (atI (x0 :: x1 :: x2 :: x3 :: x4 :: x5 :: x6 :: x7 :: x8 :: x9 :: x10 :: x11 :: x12 :: x13 :: x14 :: x15 :: x16 :: x17 :: x18 :: x19 :: x20 :: l) 20) = (some x20) := atI_nat (j := 20) rfl
theorem get21 {α : Type} {x0 x1 x2 x3 x4 x5 x6 x7 x8 x9 x10 x11 x12 x13 x14 x15 x16 x17 x18 x19 x20 x21 : α} {l : List α} : ((x0 :: x1 :: x2 :: x3 :: x4 :: x5 :: x6 :: x7 :: x8 :: x9 :: x10 :: x11 :: x12 :: x13 :: x14 :: x15 :: x16 :: x17 :: x18 :: x19 :: x20 :: x21 :: l)[21]?) = (some x21) := rfl
theorem at21 {x0 x1 x2 x3 x4 x5 x6 x7 x8 x9 x10 x11 x12 x13 x14 x15 x16 x17 x18 x19 x20 x21 : D} {l : List D} : (atI (x0 :: x1 :: x2 :: x3 :: x4 :: x5 :: x6 :: x7 :: x8 :: x9 :: x10 :: x11 :: x12 :: x13 :: x14 :: x15 :: x16 :: x17 :: x18 :: x19 :: x20 :: x21 :: l) 21) = (some x21) := atI_nat (j := 21) rfl
theorem get22 {α : Type} {x0 x1 x2 x3 x4 x5 x6 x7 x8 x9 x10 x11 x12 x13 x14 x15 x16 x17 x18 x19 x20 x21 x22 : α} {l : List α} : ((x0 :: x1 :: x2 :: x3 :: x4 :: x5 :: x6 :: x7 :: x8 :: x9 :: x10 :: x11 :: x12 :: x13 :: x14 :: x15 :: x16 :: x17 :: x18 :: x19 :: x20 :: x21 :: x22 :: l)[22]?) = (some x22) := rfl
theorem at22 {x0 x1 x2 x3 x4 x5 x6 x7 x8 x9 x10 x11 x12 x13 x14 x15 x16 x17 x18 x19 x20 x21 x22 : D} {l : List D} : (atI (x0 :: x1 :: x2 :: x3 :: x4 :: x5 :: x6 :: x7 :: x8 :: x9 :: x10 :: x11 :: x12 :: x13 :: x14 :: x15 :: x16 :: x17 :: x18 :: x19 :: x20 :: x21 :: x22 :: l) 22) = (some x22) := atI_nat (j := 22) rfl
theorem get23 {α : Type} {x0 x1 x2 x3 x4 x5 x6 x7 x8 x9 x10 x11 x12 x13 x14 x15 x16 x17 x18 x19 x20 x21 x22 x23 : α} {l : List α} : ((x0 :: x1 :: x2 :: x3 :: x4 :: x5 :: x6 :: x7 :: x8 :: x9 :: x10 :: x11 :: x12 :: x13 :: x14 :: x15 :: x16 :: x17 :: x18 :: x19 :: x20 :: x21 :: x22 :: x23 :: l)[23]?) = (some x23) := rfl
theorem at23 {x0 x1 x2 x3 x4 x5 x6 x7 x8 x9 x10 x11 x12 x13 x14 x15 x16 x17 x18 x19 x20 x21 x22 x23 : D} {l : List D} : (atI (x0 :: x1 :: x2 :: x3 :: x4 :: x5 :: x6 :: x7 :: x8 :: x9 :: x10 :: x11 :: x12 :: x13 :: x14 :: x15 :: x16 :: x17 :: x18 :: x19 :: x20 :: x21 :: x22 :: x23 :: l) 23) = (some x23) := atI_nat (j := 23) rfl
theorem isn1 {S : Sto} : (dIsN .non S) = (.ok (.bl true) S) := rfl
theorem isn_bl {x : Bool} {S : Sto} : (dIsN (.bl x) S) = (.ok (.bl false) S) := rfl
theorem ntn_bl {x : Bool} {S : Sto} : (dNotN (.bl x) S) = (.ok (.bl true) S) := rfl
theorem isn_int {x : Int} {S : Sto} : (dIsN (.int x) S) = (.ok (.bl false) S) := rfl
theorem ntn_int {x : Int} {S : Sto} : (dNotN (.int x) S) = (.ok (.bl true) S) := rfl
theorem isn_str {x : Str} {S : Sto} : (dIsN (.str x) S) = (.ok (.bl false) S) := rfl
theorem ntn_str {x : Str} {S : Sto} : (dNotN (.str x) S) = (.ok (.bl true) S) := rfl
theorem isn_tup {x : List D} {S : Sto} : (dIsN (.tup x) S) = (.ok (.bl false) S) := rfl
theorem ntn_tup {x : List D} {S : Sto} : (dNotN (.tup x) S) = (.ok (.bl true) S) := rfl
theorem isn_obj {x : Nat} {S : Sto} : (dIsN (.obj x) S) = (.ok (.bl false) S) := rfl
theorem ntn_obj {x : Nat} {S : Sto} : (dNotN (.obj x) S) = (.ok (.bl true) S) := rfl
theorem ntn1 {S : Sto} : (dNotN .non S) = (.ok (.bl false) S) := rfl
theorem tup1 {xs : List D} {S : Sto} : (dTuple [.tup xs] S) = (.ok (.tup xs) S) := rfl
theorem ccmp2 {g : DG} {t : DT} {inn : Env → Sto → Res (List D)} {ρ : Env} {items : List D} {still : Sto → Prop} {S : Sto} : (dComp21 g t inn ρ (items, still) S) = (cEnd (cLoop2 still g t inn ρ items S)) := rfl
theorem inc1 {g : DG} {t : DT} {e : DE} {ρ : Env} {items : List D} {still : Sto → Prop} {S : Sto} : (inC g t e ρ (items, still) S) = (cLoop still g t e ρ items S) := rfl
theorem capp1 {xs ys : List D} {S : Sto} : (cAppd xs (.ok ys S)) = (.ok (xs ++ ys) S) := rfl
theorem cout1 {still : Sto → Prop} {k : Sto → Res (List D)} {xs : List D} {S : Sto} : (cOut still k (.ok xs S)) = (cAppd xs (cSkip still k S)) := rfl
theorem ct21 {still : Sto → Prop} {inn : Env → Sto → Res (List D)} {k : Sto → Res (List D)} {ρ : Env} {S : Sto} : (cTest2 still inn k ρ (.ok true S)) = (cOut still k (inn ρ S)) := rfl
theorem ct22 {still : Sto → Prop} {inn : Env → Sto → Res (List D)} {k : Sto → Res (List D)} {ρ : Env} {S : Sto} : (cTest2 still inn k ρ (.ok false S)) = (cSkip still k S) := rfl
theorem ctg21 {still : Sto → Prop} {t : DT} {inn : Env → Sto → Res (List D)} {k : Sto → Res (List D)} {ρ : Env} {S : Sto} : (cTg2 still t inn k S (some ρ)) = (cTest2 still inn k ρ (t ρ S)) := rfl
theorem q31 {g h : D → D → Sto → Res D} {dc dd : DE} {y : D} {ρ : Env} {S : Sto} : (eQ3 g h dc dd ρ y (.bl true) S) = ((dc ρ S).bind (eQ4 g h dd ρ y)) := rfl
theorem q32 {g h : D → D → Sto → Res D} {dc dd : DE} {y : D} {ρ : Env} {S : Sto} : (eQ3 g h dc dd ρ y (.bl false) S) = (.ok (.bl false) S) := rfl
theorem lrg2 {i j : Int} {S : Sto} : (dLrg2 (.int i) (.int j) S) = ((if OkR2 i j then mkLst (rng i (j - i).toNat) S else .bad)) := id rfl
end Ev
theorem get_put {S : Sto} {p : Nat} {o o' : Ob} (h : S[p]? = some o) : (S.set p o')[p]? = some o' := List.getElem?_set_self (lt_of_get h)
theorem get_put_ne {S : Sto} {p q : Nat} {o' : Ob} (h : p ≠ q) : (S.set p o')[q]? = S[q]? := List.getElem?_set_ne h
theorem put_put {S : Sto} {p : Nat} {o o' : Ob} : (S.set p o).set p o' = S.set p o' := List.set_set ..
theorem lstOf_lst {S : Sto} {n : Nat} {xs : List D} (h : S[n]? = some (.lst xs)) : lstOf S n = some xs := by unfold lstOf; rw [h]
theorem ixN_nat {n j : Nat} (h : j < n) : ixN n (j : Int) = some j := by
  unfold ixN
  rw [if_pos (by omega), if_pos (by omega), Int.toNat_natCast]
theorem ix_lst {S : Sto} {n : Nat} {i : Int} {xs : List D} (h : S[n]? = some (.lst xs)) : dIx (.obj n) (.int i) S = Ev.ixA S (atI xs i) := by
  rw [Ev.ix2, h]; rfl
theorem len_lst {S : Sto} {n : Nat} {xs : List D} (h : S[n]? = some (.lst xs)) : dLen [.obj n] S = .ok (.int xs.length) S := by
  show (match S[n]? with | some (.lst xs) => Res.ok (D.int xs.length) S | some (.dk xs) => .ok (D.int xs.length) S | some (.dt xs) => .ok (D.int xs.length) S | _ => .bad) = _
  rw [h]
theorem ixN_lit (n i : Nat) : ixN n (i : Int) = if i < n then some i else none := by
  unfold ixN
  rw [if_pos (by omega)]
  by_cases h : i < n
  · rw [if_pos (by omega), if_pos h, Int.toNat_natCast]
  · rw [if_neg (by omega), if_neg h]

theorem run0 {m : Nat} {body : DS} {S : Sto} : runD 0 m body [] S = endR (body ([] ++ List.replicate (m - 0) none) S) := if_pos rfl
theorem run1 {m : Nat} {body : DS} {a0 : D} {S : Sto} : runD 1 m body [a0] S = endR (body ([some a0] ++ List.replicate (m - 1) none) S) := if_pos rfl
theorem run2 {m : Nat} {body : DS} {a0 a1 : D} {S : Sto} : runD 2 m body [a0, a1] S = endR (body ([some a0, some a1] ++ List.replicate (m - 2) none) S) := if_pos rfl
theorem run3 {m : Nat} {body : DS} {a0 a1 a2 : D} {S : Sto} : runD 3 m body [a0, a1, a2] S = endR (body ([some a0, some a1, some a2] ++ List.replicate (m - 3) none) S) := if_pos rfl
theorem run4 {m : Nat} {body : DS} {a0 a1 a2 a3 : D} {S : Sto} : runD 4 m body [a0, a1, a2, a3] S = endR (body ([some a0, some a1, some a2, some a3] ++ List.replicate (m - 4) none) S) := if_pos rfl
theorem run5 {m : Nat} {body : DS} {a0 a1 a2 a3 a4 : D} {S : Sto} : runD 5 m body [a0, a1, a2, a3, a4] S = endR (body ([some a0, some a1, some a2, some a3, some a4] ++ List.replicate (m - 5) none) S) := if_pos rfl
theorem seq_cut {s t : DS} {ρ : Env} {S : Sto} (G : RS → Prop) (P : Env → Sto → Prop) (h1 : ∃ ρ' S', s ρ S = .nx ρ' S' ∧ P ρ' S') (h2 : ∀ ρ' S', P ρ' S' → G (t ρ' S')) : G (dSeq s t ρ S) := by
  obtain ⟨ρ', S', e, p⟩ := h1
  unfold dSeq
  rw [e]
  exact h2 ρ' S' p
theorem seqR_cut {r : RS} {t : DS} (G : RS → Prop) (P : Env → Sto → Prop) (h1 : ∃ ρ' S', r = .nx ρ' S' ∧ P ρ' S') (h2 : ∀ ρ' S', P ρ' S' → G (t ρ' S')) : G (seqR t r) := by
  obtain ⟨ρ', S', e, p⟩ := h1
  rw [e]
  exact h2 ρ' S' p
/-- a loop that goes to its end -/
theorem loop_nx {still : Sto → Prop} {g : DG} {body : DS} (P : List D → Env → Sto → Prop)
    (turn : ∀ d r ρ S, P (d :: r) ρ S → ∃ ρ1, g d ρ S = some ρ1 ∧ ∃ ρ2 S2, (body ρ1 S = .nx ρ2 S2 ∨ body ρ1 S = .ct ρ2 S2) ∧ still S2 ∧ P r ρ2 S2) :
    ∀ (items : List D) (ρ : Env) (S : Sto), P items ρ S → ∃ ρ' S', dLoop still g body items ρ S = .nx ρ' S' ∧ P [] ρ' S'
  | [], ρ, S, h => ⟨ρ, S, rfl, h⟩
  | d :: r, ρ, S, h => by
    obtain ⟨ρ1, e1, ρ2, S2, e2, hs, p⟩ := turn d r ρ S h
    obtain ⟨ρ', S', e3, p3⟩ := loop_nx P turn r ρ2 S2 p
    refine ⟨ρ', S', ?_, p3⟩
    unfold dLoop
    rw [e1]
    unfold turnG
    dsimp only
    rcases e2 with e2 | e2
    · rw [e2]
      unfold turnR
      dsimp only
      rw [if_pos hs]
      exact e3
    · rw [e2]
      unfold turnR
      dsimp only
      rw [if_pos hs]
      exact e3
/-- a loop that may be left by a return or a break -/
theorem loop_out {still : Sto → Prop} {g : DG} {body : DS} (P : List D → Env → Sto → Prop) (R : RS → Prop)
    (turn : ∀ d r ρ S, P (d :: r) ρ S → ∃ ρ1, g d ρ S = some ρ1 ∧ ((∃ ρ2 S2, (body ρ1 S = .nx ρ2 S2 ∨ body ρ1 S = .ct ρ2 S2) ∧ still S2 ∧ P r ρ2 S2) ∨ (∃ ρ2 S2, body ρ1 S = .bk ρ2 S2 ∧ R (.nx ρ2 S2)) ∨ (∃ d2 S2, body ρ1 S = .rt d2 S2 ∧ R (.rt d2 S2)) ∨ ∃ c fs ρ2 S2, body ρ1 S = .exc c fs ρ2 S2 ∧ R (.exc c fs ρ2 S2)))
    (fin : ∀ ρ S, P [] ρ S → R (.nx ρ S)) :
    ∀ (items : List D) (ρ : Env) (S : Sto), P items ρ S → R (dLoop still g body items ρ S)
  | [], ρ, S, h => fin ρ S h
  | d :: r, ρ, S, h => by
    obtain ⟨ρ1, e1, h2⟩ := turn d r ρ S h
    unfold dLoop
    rw [e1]
    unfold turnG
    dsimp only
    rcases h2 with ⟨ρ2, S2, e2, hs, p⟩ | ⟨ρ2, S2, e2, p⟩ | ⟨d2, S2, e2, p⟩ | ⟨c, fs, ρ2, S2, e2, p⟩
    · rcases e2 with e2 | e2
      · rw [e2]
        unfold turnR
        dsimp only
        rw [if_pos hs]
        exact loop_out P R turn fin r ρ2 S2 p
      · rw [e2]
        unfold turnR
        dsimp only
        rw [if_pos hs]
        exact loop_out P R turn fin r ρ2 S2 p
    · rw [e2]; exact p
    · rw [e2]; exact p
    · rw [e2]; exact p
/-- a comprehension's turns -/
theorem cLoop_ok {still : Sto → Prop} {g : DG} {t : DT} {e : DE} {ρ : Env} (P : List D → List D → Sto → Prop)
    (turn : ∀ d r acc S, P (d :: r) acc S → ∃ ρ1, g d ρ S = some ρ1 ∧ ((∃ S1 x S2, t ρ1 S = .ok true S1 ∧ e ρ1 S1 = .ok x S2 ∧ still S2 ∧ P r (acc ++ [x]) S2) ∨ ∃ S1, t ρ1 S = .ok false S1 ∧ still S1 ∧ P r acc S1)) :
    ∀ (items acc : List D) (S : Sto), P items acc S → ∃ xs S', cLoop still g t e ρ items S = .ok xs S' ∧ P [] (acc ++ xs) S'
  | [], acc, S, h => ⟨[], S, rfl, by rw [List.append_nil]; exact h⟩
  | d :: r, acc, S, h => by
    obtain ⟨ρ1, e1, h2⟩ := turn d r acc S h
    unfold cLoop
    rw [e1]
    rcases h2 with ⟨S1, x, S2, h3, h4, hs, p⟩ | ⟨S1, h3, hs, p⟩
    · obtain ⟨xs, S', e5, p5⟩ := cLoop_ok P turn r (acc ++ [x]) S2 p
      refine ⟨x :: xs, S', ?_, by rw [List.append_assoc] at p5; exact p5⟩
      show cTest still e _ ρ1 (t ρ1 S) = _
      rw [h3]
      show cElt still _ (e ρ1 S1) = _
      rw [h4]
      show cHead x (cSkip still _ S2) = _
      unfold cSkip
      rw [if_pos hs, e5]
      rfl
    · obtain ⟨xs, S', e5, p5⟩ := cLoop_ok P turn r acc S1 p
      refine ⟨xs, S', ?_, p5⟩
      show cTest still e _ ρ1 (t ρ1 S) = _
      rw [h3]
      show cSkip still _ S1 = _
      unfold cSkip
      rw [if_pos hs]
      exact e5
/-- a while by a measure -/
theorem while_nx {t : DT} {body : DS} (P : Env → Sto → Prop) (μ : Env → Sto → Nat)
    (turn : ∀ ρ S, P ρ S → (∃ S1, t ρ S = .ok false S1 ∧ True) ∨ ∃ S1 ρ2 S2, t ρ S = .ok true S1 ∧ (body ρ S1 = .nx ρ2 S2 ∨ body ρ S1 = .ct ρ2 S2) ∧ μ ρ2 S2 < μ ρ S ∧ P ρ2 S2) :
    ∀ (n : Nat) (ρ : Env) (S : Sto), μ ρ S < n → P ρ S → ∃ ρ0 S0 S', dWhile n t body ρ S = .nx ρ0 S' ∧ P ρ0 S0 ∧ t ρ0 S0 = .ok false S'
  | 0, ρ, S, h, _ => absurd h (Nat.not_lt_zero _)
  | n + 1, ρ, S, h, p => by
    rcases turn ρ S p with ⟨S1, e, _⟩ | ⟨S1, ρ2, S2, e, e2, hm, p2⟩
    · refine ⟨ρ, S, S1, ?_, p, e⟩
      unfold dWhile
      rw [e]
      rfl
    · obtain ⟨ρ0, S0, S', e3, p3, e4⟩ := while_nx P μ turn n ρ2 S2 (by omega) p2
      refine ⟨ρ0, S0, S', ?_, p3, e4⟩
      unfold dWhile
      rw [e]
      show whR _ (body ρ S1) = _
      rcases e2 with e2 | e2
      · rw [e2]; exact e3
      · rw [e2]; exact e3
/-- a turn of a comprehension -/
def cTurn (still : Sto → Prop) (e : DE) (ρ1 : Env) (N : List D → Sto → Prop) (acc : List D) : Res Bool → Prop
  | .ok true S1 => ∃ x S2, e ρ1 S1 = .ok x S2 ∧ still S2 ∧ N (acc ++ [x]) S2
  | .ok false S1 => still S1 ∧ N acc S1
  | _ => False
theorem cTurn1 {still : Sto → Prop} {e : DE} {ρ1 : Env} {N : List D → Sto → Prop} {acc : List D} {S1 : Sto} : cTurn still e ρ1 N acc (.ok true S1) = (∃ x S2, e ρ1 S1 = .ok x S2 ∧ still S2 ∧ N (acc ++ [x]) S2) := rfl
theorem cTurn2 {still : Sto → Prop} {e : DE} {ρ1 : Env} {N : List D → Sto → Prop} {acc : List D} {S1 : Sto} : cTurn still e ρ1 N acc (.ok false S1) = (still S1 ∧ N acc S1) := rfl
theorem cLoop_use {still : Sto → Prop} {g : DG} {t : DT} {e : DE} {ρ : Env} {items : List D} {S : Sto} {r : Res (List D)} (h : cLoop still g t e ρ items S = r) (P : List D → List D → Sto → Prop) (h0 : P items [] S)
    (turn : ∀ d r acc S, P (d :: r) acc S → ∃ ρ1, g d ρ S = some ρ1 ∧ cTurn still e ρ1 (P r) acc (t ρ1 S)) :
    ∃ xs S', r = .ok xs S' ∧ P [] xs S' := by
  obtain ⟨xs, S', e1, p⟩ := cLoop_ok (still := still) (g := g) (t := t) (e := e) (ρ := ρ) P (fun d r acc S hp => by
    obtain ⟨ρ1, e1, h1⟩ := turn d r acc S hp
    refine ⟨ρ1, e1, ?_⟩
    generalize e2 : t ρ1 S = y at h1
    cases y with
    | ok b S1 =>
      cases b with
      | true =>
        obtain ⟨x, S2, e3, h3, h4⟩ := h1
        exact .inl ⟨S1, x, S2, rfl, e3, h3, h4⟩
      | false => exact .inr ⟨S1, rfl, h1.1, h1.2⟩
    | exc c fs S => exact h1.elim
    | bad => exact h1.elim) items [] S h0
  exact ⟨xs, S', h.symm.trans e1, p⟩
/-- a turn of a loop -/
def bTurn (still : Sto → Prop) (N : Env → Sto → Prop) (R : RS → Prop) : RS → Prop
  | .nx ρ2 S2 => still S2 ∧ N ρ2 S2
  | .ct ρ2 S2 => still S2 ∧ N ρ2 S2
  | .bk ρ2 S2 => R (.nx ρ2 S2)
  | .rt d S2 => R (.rt d S2)
  | .exc c fs ρ2 S2 => R (.exc c fs ρ2 S2)
  | .bad => False
section
variable {still : Sto → Prop} {N : Env → Sto → Prop} {R : RS → Prop} {ρ2 : Env} {S2 : Sto}
theorem bTurn1 : bTurn still N R (.nx ρ2 S2) = (still S2 ∧ N ρ2 S2) := rfl
theorem bTurn2 : bTurn still N R (.ct ρ2 S2) = (still S2 ∧ N ρ2 S2) := rfl
theorem bTurn3 : bTurn still N R (.bk ρ2 S2) = R (.nx ρ2 S2) := rfl
theorem bTurn4 {d : D} : bTurn still N R (.rt d S2) = R (.rt d S2) := rfl
theorem bTurn5 {c : Str} {fs : List (Str × D)} : bTurn still N R (.exc c fs ρ2 S2) = R (.exc c fs ρ2 S2) := rfl
end
theorem loop_use2 {still : Sto → Prop} {g : DG} {body : DS} {items : List D} {ρ : Env} {S : Sto} {r : RS} (h : dLoop still g body items ρ S = r) (P : List D → Env → Sto → Prop) (R : RS → Prop) (h0 : P items ρ S)
    (turn : ∀ d r ρ S, P (d :: r) ρ S → ∃ ρ1, g d ρ S = some ρ1 ∧ bTurn still (P r) R (body ρ1 S))
    (fin : ∀ ρ S, P [] ρ S → R (.nx ρ S)) : R r := by
  rw [← h]
  refine loop_out P R (fun d r ρ S hp => ?_) fin items ρ S h0
  obtain ⟨ρ1, e1, h1⟩ := turn d r ρ S hp
  refine ⟨ρ1, e1, ?_⟩
  generalize body ρ1 S = y at h1
  cases y with
  | nx ρ2 S2 => exact .inl ⟨ρ2, S2, .inl rfl, h1.1, h1.2⟩
  | ct ρ2 S2 => exact .inl ⟨ρ2, S2, .inr rfl, h1.1, h1.2⟩
  | bk ρ2 S2 => exact .inr (.inl ⟨ρ2, S2, rfl, h1⟩)
  | rt d S2 => exact .inr (.inr (.inl ⟨d, S2, rfl, h1⟩))
  | exc c fs ρ2 S2 => exact .inr (.inr (.inr ⟨c, fs, ρ2, S2, rfl, h1⟩))
  | bad => exact h1.elim
theorem loop_use {still : Sto → Prop} {g : DG} {body : DS} {items : List D} {ρ : Env} {S : Sto} {r : RS} (h : dLoop still g body items ρ S = r) (P : List D → Env → Sto → Prop) (h0 : P items ρ S)
    (turn : ∀ d r ρ S, P (d :: r) ρ S → ∃ ρ1, g d ρ S = some ρ1 ∧ bTurn still (P r) (fun q => ∃ ρ' S', q = .nx ρ' S' ∧ P [] ρ' S') (body ρ1 S)) :
    ∃ ρ' S', r = .nx ρ' S' ∧ P [] ρ' S' :=
  loop_use2 h P (fun q => ∃ ρ' S', q = .nx ρ' S' ∧ P [] ρ' S') h0 turn fun ρ S hp => ⟨ρ, S, rfl, hp⟩
theorem at_in {α : Type} {xs : List α} {i : Int} (h0 : 0 ≤ i) (h1 : i < xs.length) : ∃ d, atI xs i = some d ∧ d ∈ xs := by
  obtain ⟨j, rfl⟩ := Int.eq_ofNat_of_zero_le h0
  have hj : j < xs.length := by omega
  exact ⟨xs[j], atI_nat (List.getElem?_eq_getElem hj), List.getElem_mem hj⟩
theorem rng_ints {lo : Int} {n : Nat} {d : D} (h : d ∈ rng lo n) : ∃ i, d = .int i := by
  unfold rng at h
  obtain ⟨i, _, e⟩ := List.mem_map.mp h
  exact ⟨_, e.symm⟩
theorem rng_len {lo : Int} {n : Nat} : (rng lo n).length = n := by unfold rng; rw [List.length_map, List.length_range]
/-- what a range still holds -/
def rngF (lo : Int) : Nat → List D
  | 0 => []
  | n + 1 => .int lo :: rngF (lo + 1) n
theorem rng_eq (n : Nat) : ∀ lo : Int, rng lo n = rngF lo n := by
  induction n with
  | zero => intro lo; rfl
  | succ n ih =>
    intro lo
    unfold rngF
    rw [← ih (lo + 1)]
    unfold rng
    rw [List.range_succ_eq_map, List.map_cons, List.map_map]
    congr 1
    · show D.int (lo + ((0 : Nat) : Int)) = _
      simp
    · refine List.map_congr_left fun i _ => ?_
      show D.int (lo + ((i + 1 : Nat) : Int)) = D.int (lo + 1 + (i : Int))
      congr 1
      omega
/-! ### loops by place -/
theorem drop_step {α : Type} {xs : List α} {i : Nat} {d : α} {r : List α} (h : d :: r = xs.drop i) : xs[i]? = some d ∧ r = xs.drop (i + 1) := by
  have e : (xs.drop i)[0]? = some d := by rw [← h]; rfl
  rw [List.getElem?_drop] at e
  refine ⟨e, ?_⟩
  have e2 : (xs.drop i).drop 1 = r := by rw [← h]; rfl
  rw [List.drop_drop] at e2
  exact e2.symm
theorem drop_end {α : Type} {xs : List α} {i : Nat} (h : [] = xs.drop i) (hi : i ≤ xs.length) : i = xs.length := by
  have e := congrArg List.length h
  rw [List.length_drop, List.length_nil] at e
  omega
theorem loop_idx {still : Sto → Prop} {g : DG} {body : DS} {items : List D} {ρ : Env} {S : Sto} {r : RS} (h : dLoop still g body items ρ S = r) (P : Nat → Env → Sto → Prop) (R : RS → Prop) (h0 : P 0 ρ S)
    (turn : ∀ i d ρ S, items[i]? = some d → P i ρ S → ∃ ρ1, g d ρ S = some ρ1 ∧ bTurn still (P (i + 1)) R (body ρ1 S))
    (fin : ∀ ρ S, P items.length ρ S → R (.nx ρ S)) : R r := by
  refine loop_use2 h (fun xs ρ S => ∃ i, xs = items.drop i ∧ i ≤ items.length ∧ P i ρ S) R ⟨0, rfl, Nat.zero_le _, h0⟩ ?_ ?_
  · rintro d r ρ S ⟨i, e, hi, hp⟩
    obtain ⟨e1, e2⟩ := drop_step e
    obtain ⟨ρ1, e3, h2⟩ := turn i d ρ S e1 hp
    refine ⟨ρ1, e3, ?_⟩
    have hi2 := lt_of_get e1
    generalize body ρ1 S = y at h2
    cases y with
    | nx ρ2 S2 => exact ⟨h2.1, i + 1, e2, hi2, h2.2⟩
    | ct ρ2 S2 => exact ⟨h2.1, i + 1, e2, hi2, h2.2⟩
    | bk ρ2 S2 => exact h2
    | rt d S2 => exact h2
    | exc c fs ρ2 S2 => exact h2
    | bad => exact h2
  · rintro ρ S ⟨i, e, hi, hp⟩
    have := drop_end e hi
    subst this
    exact fin ρ S hp
theorem loop_idx_nx {still : Sto → Prop} {g : DG} {body : DS} {items : List D} {ρ : Env} {S : Sto} {r : RS} (h : dLoop still g body items ρ S = r) (P : Nat → Env → Sto → Prop) (h0 : P 0 ρ S)
    (turn : ∀ i d ρ S, items[i]? = some d → P i ρ S → ∃ ρ1, g d ρ S = some ρ1 ∧ bTurn still (P (i + 1)) (fun q => ∃ ρ' S', q = .nx ρ' S' ∧ P items.length ρ' S') (body ρ1 S)) :
    ∃ ρ' S', r = .nx ρ' S' ∧ P items.length ρ' S' :=
  loop_idx h P (fun q => ∃ ρ' S', q = .nx ρ' S' ∧ P items.length ρ' S') h0 turn fun ρ S hp => ⟨ρ, S, rfl, hp⟩
theorem cLoop_idx {still : Sto → Prop} {g : DG} {t : DT} {e : DE} {ρ : Env} {items : List D} {S : Sto} {r : Res (List D)} (h : cLoop still g t e ρ items S = r) (P : Nat → List D → Sto → Prop) (h0 : P 0 [] S)
    (turn : ∀ i d acc S, items[i]? = some d → P i acc S → ∃ ρ1, g d ρ S = some ρ1 ∧ cTurn still e ρ1 (P (i + 1)) acc (t ρ1 S)) :
    ∃ xs S', r = .ok xs S' ∧ P items.length xs S' := by
  obtain ⟨xs, S', e1, i, e2, hi, hp⟩ := cLoop_use h (fun xs acc S => ∃ i, xs = items.drop i ∧ i ≤ items.length ∧ P i acc S) ⟨0, rfl, Nat.zero_le _, h0⟩ (by
    rintro d r acc S ⟨i, e, hi, hp⟩
    obtain ⟨e1, e2⟩ := drop_step e
    obtain ⟨ρ1, e3, h2⟩ := turn i d acc S e1 hp
    refine ⟨ρ1, e3, ?_⟩
    have hi2 := lt_of_get e1
    generalize t ρ1 S = y at h2
    cases y with
    | ok b S1 =>
      cases b with
      | true =>
        obtain ⟨x, S2, e4, h4, h5⟩ := h2
        exact ⟨x, S2, e4, h4, i + 1, e2, hi2, h5⟩
      | false => exact ⟨h2.1, i + 1, e2, hi2, h2.2⟩
    | exc c fs S => exact h2.elim
    | bad => exact h2.elim)
  have := drop_end e2 hi
  subst this
  exact ⟨xs, S', e1, hp⟩
/-- a statement that goes on or ends the whole -/
def oR (P : Env → Sto → Prop) (G : RS → Prop) : RS → Prop
  | .nx ρ S => P ρ S
  | .rt d S => G (.rt d S)
  | .bk ρ S => G (.bk ρ S)
  | .ct ρ S => G (.ct ρ S)
  | .exc c fs ρ S => G (.exc c fs ρ S)
  | .bad => False
section
variable {P : Env → Sto → Prop} {G : RS → Prop} {ρ : Env} {S : Sto}
theorem oR1 : oR P G (.nx ρ S) = P ρ S := rfl
theorem oR2 {d : D} : oR P G (.rt d S) = G (.rt d S) := rfl
theorem oR3 : oR P G (.bk ρ S) = G (.bk ρ S) := rfl
theorem oR4 : oR P G (.ct ρ S) = G (.ct ρ S) := rfl
theorem oR5 {c : Str} {fs : List (Str × D)} : oR P G (.exc c fs ρ S) = G (.exc c fs ρ S) := rfl
end
theorem seqR_or {r : RS} {t : DS} (G : RS → Prop) (P : Env → Sto → Prop) (h1 : oR P G r) (h2 : ∀ ρ' S', P ρ' S' → G (t ρ' S')) : G (seqR t r) := by
  cases r with
  | nx ρ S => exact h2 _ _ h1
  | rt d S => exact h1
  | bk ρ S => exact h1
  | ct ρ S => exact h1
  | exc c fs ρ S => exact h1
  | bad => exact h1.elim
theorem seq_or {s t : DS} {ρ : Env} {S : Sto} (G : RS → Prop) (P : Env → Sto → Prop) (h1 : oR P G (s ρ S)) (h2 : ∀ ρ' S', P ρ' S' → G (t ρ' S')) : G (dSeq s t ρ S) := seqR_or G P h1 h2


def topS (i : Nat) : Stmt := PySem.Challenge.pw_odds_k62_models_and_nodes.main.body.getD i (.Pass ⟨0, 0, 0, 0⟩)
abbrev s_Store___init__ : Stmt := inClass (topS 6) 0
theorem sc_Store___init__ : FnScope ["self"] ["self"] (defScope s_Store___init__) := ⟨rfl, rfl, rfl, by decide +kernel, rfl, by decide +kernel, by decide +kernel⟩
abbrev s_Store_node : Stmt := inClass (topS 6) 1
theorem sc_Store_node : FnScope ["self", "level", "low", "high", "parts"] ["self", "level", "low", "high"] (defScope s_Store_node) := ⟨rfl, rfl, rfl, by decide +kernel, rfl, by decide +kernel, by decide +kernel⟩
abbrev s_Store_coin : Stmt := inClass (topS 6) 2
theorem sc_Store_coin : FnScope ["self", "level"] ["self", "level"] (defScope s_Store_coin) := ⟨rfl, rfl, rfl, by decide +kernel, rfl, by decide +kernel, by decide +kernel⟩
abbrev s_Store_low : Stmt := inClass (topS 6) 4
theorem sc_Store_low : FnScope ["self", "a"] ["self", "a"] (defScope s_Store_low) := ⟨rfl, rfl, rfl, by decide +kernel, rfl, by decide +kernel, by decide +kernel⟩
abbrev s_Store_high : Stmt := inClass (topS 6) 5
theorem sc_Store_high : FnScope ["self", "a"] ["self", "a"] (defScope s_Store_high) := ⟨rfl, rfl, rfl, by decide +kernel, rfl, by decide +kernel, by decide +kernel⟩
abbrev s_Store_choose : Stmt := inClass (topS 6) 6
theorem sc_Store_choose : FnScope ["self", "c", "a", "b", "asked", "pending", "choice", "level", "low_part", "high_part", "low", "high"] ["self", "c", "a", "b"] (defScope s_Store_choose) := ⟨rfl, rfl, rfl, by decide +kernel, rfl, by decide +kernel, by decide +kernel⟩
abbrev s_Store_negate : Stmt := inClass (topS 6) 7
theorem sc_Store_negate : FnScope ["self", "a"] ["self", "a"] (defScope s_Store_negate) := ⟨rfl, rfl, rfl, by decide +kernel, rfl, by decide +kernel, by decide +kernel⟩
abbrev s_Store_both : Stmt := inClass (topS 6) 8
theorem sc_Store_both : FnScope ["self", "a", "b"] ["self", "a", "b"] (defScope s_Store_both) := ⟨rfl, rfl, rfl, by decide +kernel, rfl, by decide +kernel, by decide +kernel⟩
abbrev s_Store_either : Stmt := inClass (topS 6) 9
theorem sc_Store_either : FnScope ["self", "a", "b"] ["self", "a", "b"] (defScope s_Store_either) := ⟨rfl, rfl, rfl, by decide +kernel, rfl, by decide +kernel, by decide +kernel⟩
abbrev s_Store_without : Stmt := inClass (topS 6) 10
theorem sc_Store_without : FnScope ["self", "a", "b"] ["self", "a", "b"] (defScope s_Store_without) := ⟨rfl, rfl, rfl, by decide +kernel, rfl, by decide +kernel, by decide +kernel⟩
abbrev s_Store_either_of : Stmt := inClass (topS 6) 11
theorem sc_Store_either_of : FnScope ["self", "references", "found", "a"] ["self", "references"] (defScope s_Store_either_of) := ⟨rfl, rfl, rfl, by decide +kernel, rfl, by decide +kernel, by decide +kernel⟩
abbrev s_Store_nodes_below : Stmt := inClass (topS 6) 15
theorem sc_Store_nodes_below : FnScope ["self", "a"] ["self", "a"] (defScope s_Store_nodes_below) := ⟨rfl, rfl, rfl, by decide +kernel, rfl, by decide +kernel, by decide +kernel⟩
abbrev s_Store_nodes_below_all : Stmt := inClass (topS 6) 16
theorem sc_Store_nodes_below_all : FnScope ["self", "references", "seen", "waiting", "a"] ["self", "references"] (defScope s_Store_nodes_below_all) := ⟨rfl, rfl, rfl, by decide +kernel, rfl, by decide +kernel, by decide +kernel⟩
abbrev s_Store_models : Stmt := inClass (topS 6) 17
theorem sc_Store_models : FnScope ["self", "a", "levels", "many", "each", "part", "skipped"] ["self", "a", "levels"] (defScope s_Store_models) := ⟨rfl, rfl, rfl, by decide +kernel, rfl, by decide +kernel, by decide +kernel⟩
abbrev s_Store__settled : Stmt := inClass (topS 6) 19
theorem sc_Store__settled : FnScope ["self", "choice", "c", "a", "b"] ["self", "choice"] (defScope s_Store__settled) := ⟨rfl, rfl, rfl, by decide +kernel, rfl, by decide +kernel, by decide +kernel⟩
abbrev s_Store__parts_of : Stmt := inClass (topS 6) 20
theorem sc_Store__parts_of : FnScope ["self", "choice", "levels", "lows", "highs", "c", "a", "b", "level", "low_c", "high_c", "low_a", "high_a", "low_b", "high_b"] ["self", "choice"] (defScope s_Store__parts_of) := ⟨rfl, rfl, rfl, by decide +kernel, rfl, by decide +kernel, by decide +kernel⟩
abbrev s_Store__level_below : Stmt := inClass (topS 6) 21
theorem sc_Store__level_below : FnScope ["self", "a", "levels"] ["self", "a", "levels"] (defScope s_Store__level_below) := ⟨rfl, rfl, rfl, by decide +kernel, rfl, by decide +kernel, by decide +kernel⟩
abbrev s_checked_node : Stmt := topS 7
theorem sc_checked_node : FnScope ["a"] ["a"] (defScope s_checked_node) := ⟨rfl, rfl, rfl, by decide +kernel, rfl, by decide +kernel, by decide +kernel⟩
abbrev s_law_same : Stmt := topS 10
theorem sc_law_same : FnScope ["actual", "due", "k"] ["actual", "due"] (defScope s_law_same) := ⟨rfl, rfl, rfl, by decide +kernel, rfl, by decide +kernel, by decide +kernel⟩
abbrev s_law_pool : Stmt := topS 11
theorem sc_law_pool : FnScope ["script", "salt", "cell"] ["script"] (defScope s_law_pool) := ⟨rfl, rfl, rfl, by decide +kernel, rfl, by decide +kernel, by decide +kernel⟩
abbrev s_law_spread : Stmt := topS 12
theorem sc_law_spread : FnScope ["cell", "mixed", "total", "k"] ["cell"] (defScope s_law_spread) := ⟨rfl, rfl, rfl, by decide +kernel, rfl, by decide +kernel, by decide +kernel⟩
abbrev s_law_draw : Stmt := topS 13
theorem sc_law_draw : FnScope ["pool", "many", "cell", "mixed", "value"] ["pool", "many"] (defScope s_law_draw) := ⟨rfl, rfl, rfl, by decide +kernel, rfl, by decide +kernel, by decide +kernel⟩
abbrev s_law_levels : Stmt := topS 14
theorem sc_law_levels : FnScope ["pool", "many", "levels", "at", "k"] ["pool", "many"] (defScope s_law_levels) := ⟨rfl, rfl, rfl, by decide +kernel, rfl, by decide +kernel, by decide +kernel⟩
abbrev s_law_coin : Stmt := topS 16
theorem sc_law_coin : FnScope ["many", "k", "index"] ["many", "k"] (defScope s_law_coin) := ⟨rfl, rfl, rfl, by decide +kernel, rfl, by decide +kernel, by decide +kernel⟩
abbrev s_law_mixed : Stmt := topS 17
theorem sc_law_mixed : FnScope ["test", "first", "second", "k"] ["test", "first", "second"] (defScope s_law_mixed) := ⟨rfl, rfl, rfl, by decide +kernel, rfl, by decide +kernel, by decide +kernel⟩
abbrev s_law_halves : Stmt := topS 18
theorem sc_law_halves : FnScope ["table", "k", "many", "low", "high", "index"] ["table", "k", "many"] (defScope s_law_halves) := ⟨rfl, rfl, rfl, by decide +kernel, rfl, by decide +kernel, by decide +kernel⟩
abbrev s_law_needs : Stmt := topS 19
theorem sc_law_needs : FnScope ["table", "many", "found", "k", "pair"] ["table", "many"] (defScope s_law_needs) := ⟨rfl, rfl, rfl, by decide +kernel, rfl, by decide +kernel, by decide +kernel⟩
abbrev s_law_deed : Stmt := topS 20
theorem sc_law_deed : FnScope ["pool", "store", "refs", "tables", "levels", "many", "turn", "k", "at", "a", "b", "one", "two", "none", "whole", "rows", "total", "fit", "low", "high", "j", "n"] ["pool", "store", "refs", "tables", "levels"] (defScope s_law_deed) := ⟨rfl, rfl, rfl, by decide +kernel, rfl, by decide +kernel, by decide +kernel⟩
abbrev s_law_made : Stmt := topS 21
theorem sc_law_made : FnScope ["pool", "store", "levels", "most", "size", "refs", "tables", "k", "pair"] ["pool", "store", "levels", "most"] (defScope s_law_made) := ⟨rfl, rfl, rfl, by decide +kernel, rfl, by decide +kernel, by decide +kernel⟩
abbrev s_law_nodes : Stmt := topS 22
theorem sc_law_nodes : FnScope ["table", "rows", "total", "k", "below", "row", "low", "high"] ["table"] (defScope s_law_nodes) := ⟨rfl, rfl, rfl, by decide +kernel, rfl, by decide +kernel, by decide +kernel⟩
abbrev s_law_reached : Stmt := topS 23
theorem sc_law_reached : FnScope ["store", "a", "waiting", "found", "k", "b"] ["store", "a"] (defScope s_law_reached) := ⟨rfl, rfl, rfl, by decide +kernel, rfl, by decide +kernel, by decide +kernel⟩
abbrev s_law : Stmt := topS 24
theorem sc_law : FnScope ["script", "pool", "levels", "many", "store", "made", "least", "k", "a", "table", "total", "due", "told", "bit"] ["script"] (defScope s_law) := ⟨rfl, rfl, rfl, by decide +kernel, rfl, by decide +kernel, by decide +kernel⟩
/-- a def of the text as it stands behind the top -/
structure DefT (K : PySem.W.Frag) (mg : Str → Option Value) (x : Str) (st : Stmt) (ps : List Str) (f : Addr) (fd : FuncData) : Prop where
  F : Fun K x x st f fd
  g : mg x = some (.ref f)
  b : Binds K fd ps []
/-- a method of the text -/
structure MetT (K : PySem.W.Frag) (C : Addr) (m q : Str) (st : Stmt) (ps : List Str) (f : Addr) (fd : FuncData) : Prop where
  F : Fun K m q st f fd
  m : Meth K C m f
  b : Binds K fd ps []
/-- an error class of the text -/
structure ErrT (K : PySem.W.Frag) (mg : Str → Option Value) (x : Str) (C : Addr) : Prop where
  g : mg x = some (.ref C)
  ex : PySem.W.excIn K C [.type "ValueError", .type "Exception", .type "BaseException", .type "object"] "ValueError.__new__" = true
  k : PySem.W.keepIn K (.ref C) = true
  b : PySem.W.subIn K (.ref C) (.type "BaseException") = some true
  t : PySem.W.typeIn K (.ref C) = some (.type "type")
  s : PySem.W.subIn K (.ref C) (.ref C) = some true
  e : ExcC K C
structure At where
  a_Store___init__ : Addr
  d_Store___init__ : FuncData
  a_Store_node : Addr
  d_Store_node : FuncData
  a_Store_coin : Addr
  d_Store_coin : FuncData
  a_Store_low : Addr
  d_Store_low : FuncData
  a_Store_high : Addr
  d_Store_high : FuncData
  a_Store_choose : Addr
  d_Store_choose : FuncData
  a_Store_negate : Addr
  d_Store_negate : FuncData
  a_Store_both : Addr
  d_Store_both : FuncData
  a_Store_either : Addr
  d_Store_either : FuncData
  a_Store_without : Addr
  d_Store_without : FuncData
  a_Store_either_of : Addr
  d_Store_either_of : FuncData
  a_Store_nodes_below : Addr
  d_Store_nodes_below : FuncData
  a_Store_nodes_below_all : Addr
  d_Store_nodes_below_all : FuncData
  a_Store_models : Addr
  d_Store_models : FuncData
  a_Store__settled : Addr
  d_Store__settled : FuncData
  a_Store__parts_of : Addr
  d_Store__parts_of : FuncData
  a_Store__level_below : Addr
  d_Store__level_below : FuncData
  a_checked_node : Addr
  d_checked_node : FuncData
  a_law_same : Addr
  d_law_same : FuncData
  a_law_pool : Addr
  d_law_pool : FuncData
  a_law_spread : Addr
  d_law_spread : FuncData
  a_law_draw : Addr
  d_law_draw : FuncData
  a_law_levels : Addr
  d_law_levels : FuncData
  a_law_coin : Addr
  d_law_coin : FuncData
  a_law_mixed : Addr
  d_law_mixed : FuncData
  a_law_halves : Addr
  d_law_halves : FuncData
  a_law_needs : Addr
  d_law_needs : FuncData
  a_law_deed : Addr
  d_law_deed : FuncData
  a_law_made : Addr
  d_law_made : FuncData
  a_law_nodes : Addr
  d_law_nodes : FuncData
  a_law_reached : Addr
  d_law_reached : FuncData
  a_law : Addr
  d_law : FuncData
  C_OddsError : Addr
  C_NotANode : Addr
  C_Store : Addr
structure Txt (K : PySem.W.Frag) (mg : Str → Option Value) (A : At) : Prop where
  t_Store___init__ : MetT K A.C_Store "__init__" "Store.__init__" s_Store___init__ ["self"] A.a_Store___init__ A.d_Store___init__
  t_Store_node : MetT K A.C_Store "node" "Store.node" s_Store_node ["self", "level", "low", "high"] A.a_Store_node A.d_Store_node
  t_Store_coin : MetT K A.C_Store "coin" "Store.coin" s_Store_coin ["self", "level"] A.a_Store_coin A.d_Store_coin
  t_Store_low : MetT K A.C_Store "low" "Store.low" s_Store_low ["self", "a"] A.a_Store_low A.d_Store_low
  t_Store_high : MetT K A.C_Store "high" "Store.high" s_Store_high ["self", "a"] A.a_Store_high A.d_Store_high
  t_Store_choose : MetT K A.C_Store "choose" "Store.choose" s_Store_choose ["self", "c", "a", "b"] A.a_Store_choose A.d_Store_choose
  t_Store_negate : MetT K A.C_Store "negate" "Store.negate" s_Store_negate ["self", "a"] A.a_Store_negate A.d_Store_negate
  t_Store_both : MetT K A.C_Store "both" "Store.both" s_Store_both ["self", "a", "b"] A.a_Store_both A.d_Store_both
  t_Store_either : MetT K A.C_Store "either" "Store.either" s_Store_either ["self", "a", "b"] A.a_Store_either A.d_Store_either
  t_Store_without : MetT K A.C_Store "without" "Store.without" s_Store_without ["self", "a", "b"] A.a_Store_without A.d_Store_without
  t_Store_either_of : MetT K A.C_Store "either_of" "Store.either_of" s_Store_either_of ["self", "references"] A.a_Store_either_of A.d_Store_either_of
  t_Store_nodes_below : MetT K A.C_Store "nodes_below" "Store.nodes_below" s_Store_nodes_below ["self", "a"] A.a_Store_nodes_below A.d_Store_nodes_below
  t_Store_nodes_below_all : MetT K A.C_Store "nodes_below_all" "Store.nodes_below_all" s_Store_nodes_below_all ["self", "references"] A.a_Store_nodes_below_all A.d_Store_nodes_below_all
  t_Store_models : MetT K A.C_Store "models" "Store.models" s_Store_models ["self", "a", "levels"] A.a_Store_models A.d_Store_models
  t_Store__settled : MetT K A.C_Store "_settled" "Store._settled" s_Store__settled ["self", "choice"] A.a_Store__settled A.d_Store__settled
  t_Store__parts_of : MetT K A.C_Store "_parts_of" "Store._parts_of" s_Store__parts_of ["self", "choice"] A.a_Store__parts_of A.d_Store__parts_of
  t_Store__level_below : MetT K A.C_Store "_level_below" "Store._level_below" s_Store__level_below ["self", "a", "levels"] A.a_Store__level_below A.d_Store__level_below
  t_checked_node : DefT K mg "_checked_node" s_checked_node ["a"] A.a_checked_node A.d_checked_node
  t_law_same : DefT K mg "_law_same" s_law_same ["actual", "due"] A.a_law_same A.d_law_same
  t_law_pool : DefT K mg "_law_pool" s_law_pool ["script"] A.a_law_pool A.d_law_pool
  t_law_spread : DefT K mg "_law_spread" s_law_spread ["cell"] A.a_law_spread A.d_law_spread
  t_law_draw : DefT K mg "_law_draw" s_law_draw ["pool", "many"] A.a_law_draw A.d_law_draw
  t_law_levels : DefT K mg "_law_levels" s_law_levels ["pool", "many"] A.a_law_levels A.d_law_levels
  t_law_coin : DefT K mg "_law_coin" s_law_coin ["many", "k"] A.a_law_coin A.d_law_coin
  t_law_mixed : DefT K mg "_law_mixed" s_law_mixed ["test", "first", "second"] A.a_law_mixed A.d_law_mixed
  t_law_halves : DefT K mg "_law_halves" s_law_halves ["table", "k", "many"] A.a_law_halves A.d_law_halves
  t_law_needs : DefT K mg "_law_needs" s_law_needs ["table", "many"] A.a_law_needs A.d_law_needs
  t_law_deed : DefT K mg "_law_deed" s_law_deed ["pool", "store", "refs", "tables", "levels"] A.a_law_deed A.d_law_deed
  t_law_made : DefT K mg "_law_made" s_law_made ["pool", "store", "levels", "most"] A.a_law_made A.d_law_made
  t_law_nodes : DefT K mg "_law_nodes" s_law_nodes ["table"] A.a_law_nodes A.d_law_nodes
  t_law_reached : DefT K mg "_law_reached" s_law_reached ["store", "a"] A.a_law_reached A.d_law_reached
  t_law : DefT K mg "law" s_law ["script"] A.a_law A.d_law
  c_Store : ClsT K mg "Store" A.C_Store
  n_Store__levels : NoAttr K A.C_Store "_levels"
  n_Store__lows : NoAttr K A.C_Store "_lows"
  n_Store__highs : NoAttr K A.C_Store "_highs"
  n_Store__references : NoAttr K A.C_Store "_references"
  n_Store__chosen : NoAttr K A.C_Store "_chosen"
  K_Store : Mk K A.C_Store A.a_Store___init__
  e_OddsError : ErrT K mg "OddsError" A.C_OddsError
  e_NotANode : ErrT K mg "NotANode" A.C_NotANode
  z_len : mg "len" = none
  z_min : mg "min" = none
  z_max : mg "max" = none
  z_list : mg "list" = none
  z_sorted : mg "sorted" = none
  z_isinstance : mg "isinstance" = none
  z_tuple : mg "tuple" = none
  z_range : mg "range" = none
  z_bool : mg "bool" = none
  z_int : mg "int" = none
  z_str : mg "str" = none
  m_MOST_CHOICES : ∃ u, mg "MOST_CHOICES" = some u ∧ RelV (.int 300000) u

local macro_rules | `(tactic| walk_at "env") => `(tactic| simp only [run0, run1, run2, run3, run4, run5, List.cons_append, List.nil_append, List.replicate, Nat.reduceSub, Nat.reduceAdd])
local macro_rules | `(tactic| walk_at "ev") => `(tactic| simp +decide only [dAugD, augK, augG, augV, dSeq, dNext, dBind, setK, exprK, retK, dSet, dExpr, dRet, dRetN, dIfS, dBreak, dCont, dAsg, asgK, dPutL, putK1, putK2, dAug, eV, eC, eOp, eOp1, eCall, eCons, eCons1, eCons2, eNil, eTup, eLst, eT, eAnd, eOr, eNot, eNot1, eAndV, eOrV, eNotV, eIf, eUn, eChain, eChain1, eChain2, eSl, eSl1, eSl2, eNo, eSo, eMeth, eMeth1, eM1, dFor, wL, wT, wR1, wR2, wS, wE, wZ, eStar, starK, tgN, tgCons1, dTry, dRaise, dNe, dComp, eDNew, eDGet, eDIn, eDGet1, eDGet1b, eDGet2, eDGet2b, eDGet2c, dPutD, putQ1, putQ2, eKD, eKDIn, eKGet2, eCallV, eTru, evP1, evP2, evP3, eDisp, dispK, dTryAs, dRetB, eDNewT, eTk, dPutT, putT1, putT2, eUnTk, dUnTk, eFld, dSetF, setF1, eMet, eMet1, metK, eMake, eMake1, dAugF, augF2, dPar2, dPar3, dSetC, dComp2, cInn, eChainQ, eQ1, eQ2, eQ4, oR1, oR2, oR3, oR4, oR5, cTurn1, cTurn2, bTurn1, bTurn2, bTurn3, bTurn4, bTurn5, Ev.seq1, Ev.seq2, Ev.seq3, Ev.seq4, Ev.seq5, Ev.bnd1, Ev.bnd2, Ev.if1, Ev.if2, Ev.if3, Ev.asg1, Ev.putK31, Ev.putO1, Ev.putJ1, Ev.aug1, Ev.slot1, Ev.and1, Ev.and2, Ev.or1, Ev.or2, Ev.andV1, Ev.andV2, Ev.orV1, Ev.orV2, Ev.notV1, Ev.ifx1, Ev.ifx2, Ev.ch1, Ev.ch2, Ev.toB1, Ev.rb1, Ev.rb2, Ev.end1, Ev.end2, Ev.end3, Ev.add1, Ev.add2, Ev.add3, Ev.sub1, Ev.mul1, Ev.sum1, Ev.minl1, Ev.maxl1, Ev.numR1a, Ev.numR1b, Ev.intsOf1, Ev.intsOf2, Ev.pow1, Ev.dkOf1, Ev.dkOO1, Ev.look1, Ev.look2, Ev.mapSome2, Ev.dget1, Ev.getR1, Ev.ddin1, Ev.hasR1, Ev.hasR2, Ev.asd1, Ev.dtOf1, Ev.dtOO1, Ev.dtOO2, Ev.dkOO2, Ev.look3, Ev.mapSome3, Ev.keyL0, Ev.keyL1, Ev.keyL2, Ev.keyC1, Ev.mkTk1, Ev.tkR1, Ev.putT31, Ev.putTK1, Ev.unTk1, Ev.unTk2, Ev.ofKey1, Ev.ofKey2, Ev.fld1, Ev.fldO1, Ev.fldR1, Ev.fldL1, Ev.setF21, Ev.setFO1, Ev.isMet1, Ev.metO1, Ev.shl1, Ev.shr1, Ev.andI1, Ev.orI1, Ev.add21, Ev.augF11, Ev.augFO1, Ev.augFL1, Ev.mulL1, Ev.mulLR1, Ev.rev1, Ev.revO1, Ev.lrg1, Ev.parR1, Ev.par2K1, Ev.par3K1, Ev.mkEnd1, Ev.isS1, Ev.isS2, Ev.isS3, Ev.dg1, Ev.dg1a, Ev.dg1b, Ev.dg2, Ev.dg2a, Ev.dg2b, Ev.putQ1, Ev.putQi, Ev.putR1, Ev.kd1, Ev.kdR1, Ev.kdi1, Ev.kdi2, Ev.kg1, Ev.kg2, Ev.kg3, Ev.callF1, Ev.callR1, Ev.tru_bl, Ev.tru_int, Ev.tru_tup, Ev.tru_obj, Ev.tru_non, Ev.tru_str, Ev.truO1, Ev.truO2, Ev.dtru1, Ev.truR1, Ev.isE1, Ev.isE2, Ev.eqL1, Ev.sclOf1, Ev.eqLR1, Ev.all1, Ev.any1, Ev.boolsOf1, Ev.boolR1, Ev.sorted1, Ev.sortedDI1, Ev.augI1, Ev.shlB1, Ev.stp1, Ev.stpO1, Ev.sortedDB1, Ev.sortBR1, Ev.sortedDS1, Ev.sortR1, Ev.evPn, Ev.evPc, Ev.dispR1, Ev.keysD0, Ev.keysD1, Ev.keysD2, Ev.keysR1, Ev.tas1, Ev.tas2, Ev.tas3, Ev.tas4, Ev.tas5, Ev.eis1, Ev.retB1, Ev.lkHit, Ev.lkMiss, Ev.gcd1, Ev.bits1, Ev.div1, Ev.mod1, Ev.rel1, Ev.eq1, Ev.eq2, Ev.eq3, Ev.ix1, Ev.ixA1, Ev.ix2, Ev.ixO1, Ev.lstOf1, Ev.lstOO1, Ev.len3, Ev.lenO4, Ev.lenO1, Ev.lenO3, Ev.isi1, Ev.isiR1, Ev.ty_bl, Ev.ty_int, Ev.ty_str, Ev.ty_tup, Ev.ty_non, Ev.ty_obj, Ev.tyO1, Ev.kit_NoneType_bool, Ev.kit_NoneType_int, Ev.kit_NoneType_str, Ev.kit_NoneType_tuple, Ev.kit_NoneType_list, Ev.kit_bool_bool, Ev.kit_bool_int, Ev.kit_bool_str, Ev.kit_bool_tuple, Ev.kit_bool_list, Ev.kit_int_bool, Ev.kit_int_int, Ev.kit_int_str, Ev.kit_int_tuple, Ev.kit_int_list, Ev.kit_str_bool, Ev.kit_str_int, Ev.kit_str_str, Ev.kit_str_tuple, Ev.kit_str_list, Ev.kit_tuple_bool, Ev.kit_tuple_int, Ev.kit_tuple_str, Ev.kit_tuple_tuple, Ev.kit_tuple_list, Ev.kit_list_bool, Ev.kit_list_int, Ev.kit_list_str, Ev.kit_list_tuple, Ev.kit_list_list, Ev.list1, Ev.lstR1, Ev.sq1, Ev.sq3, Ev.sl4, Ev.wk4, Ev.sq2, Ev.tup2, Ev.tupR1, Ev.sl2, Ev.slR1, Ev.app1, Ev.appO1, Ev.tym1, Ev.tymO1, Ev.tymO3, Ev.tym2, Ev.scsS0, Ev.scsS1, Ev.scsS2, Ev.scsS3, Ev.scsS4, Ev.scsS5, Ev.scsS6, Ev.scsS7, Ev.scsS8, Ev.scsS9, Ev.inVS1, Ev.inVS2, Ev.inVS3, Ev.inVS4, Ev.inVS5, Ev.inVS6, Ev.inVS7, Ev.inVS8, Ev.inVS9, Ev.in1, Ev.in2, Ev.inR1, Ev.sc1, Ev.sc2, Ev.wkL, Ev.walkR1, Ev.setSelf, Ev.mapSome, Ev.setNe, Ev.setSet, Ev.appNew, Ev.appOld, Ev.mkLst1, Ev.mkTup1, Ev.ixN5_0, Ev.ixN5_1, Ev.ixN5_2, Ev.ixN5_3, Ev.ixN5_4, Ev.int1, Ev.int2, Ev.len1, Ev.len2, Ev.ix3, Ev.ixS1, Ev.find3a, Ev.starts1, Ev.mulS1, Ev.join1, Ev.joinR1, Ev.neg1, Ev.so1, Ev.sl1, Ev.sl3, Ev.abs1, Ev.max1, Ev.min1, Ev.str1, Ev.ipI1, Ev.for1, Ev.tgc1, Ev.tgn1, Ev.tgt1, Ev.setc1, Ev.send1, Ev.tgl1, Ev.tgl2, Ev.rng1, Ev.rng2, Ev.okr_0, Ev.okr_1, Ev.okr_2, Ev.okr_3, Ev.okr_4, Ev.okr_5, Ev.okr_6, Ev.okr_7, Ev.okr_8, Ev.okr_9, Ev.okr_10, Ev.okr_11, Ev.okr_12, Ev.okr_13, Ev.okr_14, Ev.okr_15, Ev.okr_16, Ev.okr_17, Ev.okr_18, Ev.okr_19, Ev.okr_20, Ev.okr_21, Ev.okr_22, Ev.okr_23, Ev.okr_24, Ev.okr_25, Ev.okr_26, Ev.okr_27, Ev.okr_28, Ev.okr_29, Ev.okr_30, Ev.okr_31, Ev.okr_32, Ev.okr_33, Ev.okr_34, Ev.okr_35, Ev.okr_36, Ev.okr_37, Ev.okr_38, Ev.okr_39, Ev.okr_40, Ev.okr_41, Ev.okr_42, Ev.okr_43, Ev.okr_44, Ev.okr_45, Ev.okr_46, Ev.okr_47, Ev.okr_48, Ev.okr_49, Ev.okr_50, Ev.okr_51, Ev.okr_52, Ev.okr_53, Ev.okr_54, Ev.okr_55, Ev.okr_56, Ev.okr_57, Ev.okr_58, Ev.okr_59, Ev.okr_60, Ev.okr_61, Ev.okr_62, Ev.okr_63, Ev.okr_64, Ev.okr_65, Ev.okr_66, Ev.okr_67, Ev.okr_68, Ev.okr_69, Ev.okr_70, Ev.okr_71, Ev.okr_72, Ev.okr_73, Ev.okr_74, Ev.okr_75, Ev.okr_76, Ev.okr_77, Ev.okr_78, Ev.okr_79, Ev.okr_80, Ev.okr_81, Ev.okr_82, Ev.okr_83, Ev.okr_84, Ev.okr_85, Ev.okr_86, Ev.okr_87, Ev.okr_88, Ev.okr_89, Ev.okr_90, Ev.okr_91, Ev.okr_92, Ev.okr_93, Ev.okr_94, Ev.okr_95, Ev.okr_96, Ev.okr_97, Ev.okr_98, Ev.okr_99, Ev.okr_100, Ev.okr_101, Ev.okr_102, Ev.okr_103, Ev.okr_104, Ev.okr_105, Ev.okr_106, Ev.okr_107, Ev.okr_108, Ev.okr_109, Ev.okr_110, Ev.okr_111, Ev.okr_112, Ev.okr_113, Ev.okr_114, Ev.okr_115, Ev.okr_116, Ev.okr_117, Ev.okr_118, Ev.okr_119, Ev.okr_120, Ev.okr_121, Ev.okr_122, Ev.okr_123, Ev.okr_124, Ev.okr_125, Ev.okr_126, Ev.okr_127, Ev.okr_128, Ev.okr_129, Ev.okr_150, Ev.okr_200, Ev.okr_250, Ev.okr_256, Ev.okr_300, Ev.okr_400, Ev.okr_500, Ev.okr_1000, Ev.okr2, Ev.wkT, Ev.enum1, Ev.enum2, Ev.enumR1, Ev.zip1, Ev.zip2, Ev.zipR1, Ev.starS1, Ev.starA1, Ev.ltA1, Ev.leA1, Ev.ltA2, Ev.leA2, Ev.wkS, Ev.wh1, Ev.wh2, Ev.wh3, Ev.wh4, Ev.wt1, Ev.wt2, Ev.tr1, Ev.tr2, Ev.tr3, Ev.tm1, Ev.tm2, Ev.cend1, Ev.ccmp1, Ev.chd1, Ev.cel1, Ev.cts1, Ev.cts2, Ev.ctg1, Ev.m11, Ev.mulr, Ev.mull, Ev.get0, Ev.at0, Ev.get1, Ev.at1, Ev.get2, Ev.at2, Ev.get3, Ev.at3, Ev.get4, Ev.at4, Ev.get5, Ev.at5, Ev.get6, Ev.at6, Ev.get7, Ev.at7, Ev.get8, Ev.at8, Ev.get9, Ev.at9, Ev.get10, Ev.at10, Ev.get11, Ev.at11, Ev.get12, Ev.at12, Ev.get13, Ev.at13, Ev.get14, Ev.at14, Ev.get15, Ev.at15, Ev.get16, Ev.at16, Ev.get17, Ev.at17, Ev.get18, Ev.at18, Ev.get19, Ev.at19, Ev.get20, Ev.at20, Ev.get21, Ev.at21, Ev.get22, Ev.at22, Ev.get23, Ev.at23, Ev.isn1, Ev.isn_bl, Ev.ntn_bl, Ev.isn_int, Ev.ntn_int, Ev.isn_str, Ev.ntn_str, Ev.isn_tup, Ev.ntn_tup, Ev.isn_obj, Ev.ntn_obj, Ev.ntn1, Ev.tup1, Ev.ccmp2, Ev.inc1, Ev.capp1, Ev.cout1, Ev.ct21, Ev.ct22, Ev.ctg21, Ev.q31, Ev.q32, Ev.lrg2, Option.map_some, Ev.mulr, Ev.mull, ne_eq, not_false_eq_true, and_self, and_true, true_and, Bool.not_true, Bool.not_false, decide_true, decide_false, List.set, List.map, List.append, List.replicate, List.length_map, List.length_append, List.length_cons, List.length_nil, List.cons_append, List.nil_append, Nat.reduceAdd, Nat.reduceSub, Nat.reduceEqDiff, ↓reduceIte, Option.bind_some, Option.bind_none, wipeE, Option.isSome_some, Option.isSome_none, Bool.or_true, Bool.true_or, Bool.or_false, Bool.false_or, *])
local macro_rules | `(tactic| walk_at "ev0") => `(tactic| simp +decide only [dAugD, augK, augG, augV, dSeq, dNext, dBind, setK, exprK, retK, dSet, dExpr, dRet, dRetN, dIfS, dBreak, dCont, dAsg, asgK, dPutL, putK1, putK2, dAug, eV, eC, eOp, eOp1, eCall, eCons, eCons1, eCons2, eNil, eTup, eLst, eT, eAnd, eOr, eNot, eNot1, eAndV, eOrV, eNotV, eIf, eUn, eChain, eChain1, eChain2, eSl, eSl1, eSl2, eNo, eSo, eMeth, eMeth1, eM1, dFor, wL, wT, wR1, wR2, wS, wE, wZ, eStar, starK, tgN, tgCons1, dTry, dRaise, dNe, dComp, eDNew, eDGet, eDIn, eDGet1, eDGet1b, eDGet2, eDGet2b, eDGet2c, dPutD, putQ1, putQ2, eKD, eKDIn, eKGet2, eCallV, eTru, evP1, evP2, evP3, eDisp, dispK, dTryAs, dRetB, eDNewT, eTk, dPutT, putT1, putT2, eUnTk, dUnTk, eFld, dSetF, setF1, eMet, eMet1, metK, eMake, eMake1, dAugF, augF2, dPar2, dPar3, dSetC, dComp2, cInn, eChainQ, eQ1, eQ2, eQ4, oR1, oR2, oR3, oR4, oR5, cTurn1, cTurn2, bTurn1, bTurn2, bTurn3, bTurn4, bTurn5, Ev.seq1, Ev.seq2, Ev.seq3, Ev.seq4, Ev.seq5, Ev.bnd1, Ev.bnd2, Ev.if1, Ev.if2, Ev.if3, Ev.asg1, Ev.putK31, Ev.putO1, Ev.putJ1, Ev.aug1, Ev.slot1, Ev.and1, Ev.and2, Ev.or1, Ev.or2, Ev.andV1, Ev.andV2, Ev.orV1, Ev.orV2, Ev.notV1, Ev.ifx1, Ev.ifx2, Ev.ch1, Ev.ch2, Ev.toB1, Ev.rb1, Ev.rb2, Ev.end1, Ev.end2, Ev.end3, Ev.add1, Ev.add2, Ev.add3, Ev.sub1, Ev.mul1, Ev.sum1, Ev.minl1, Ev.maxl1, Ev.numR1a, Ev.numR1b, Ev.intsOf1, Ev.intsOf2, Ev.pow1, Ev.dkOf1, Ev.dkOO1, Ev.look1, Ev.look2, Ev.mapSome2, Ev.dget1, Ev.getR1, Ev.ddin1, Ev.hasR1, Ev.hasR2, Ev.asd1, Ev.dtOf1, Ev.dtOO1, Ev.dtOO2, Ev.dkOO2, Ev.look3, Ev.mapSome3, Ev.keyL0, Ev.keyL1, Ev.keyL2, Ev.keyC1, Ev.mkTk1, Ev.tkR1, Ev.putT31, Ev.putTK1, Ev.unTk1, Ev.unTk2, Ev.ofKey1, Ev.ofKey2, Ev.fld1, Ev.fldO1, Ev.fldR1, Ev.fldL1, Ev.setF21, Ev.setFO1, Ev.isMet1, Ev.metO1, Ev.shl1, Ev.shr1, Ev.andI1, Ev.orI1, Ev.add21, Ev.augF11, Ev.augFO1, Ev.augFL1, Ev.mulL1, Ev.mulLR1, Ev.rev1, Ev.revO1, Ev.lrg1, Ev.parR1, Ev.par2K1, Ev.par3K1, Ev.mkEnd1, Ev.isS1, Ev.isS2, Ev.isS3, Ev.dg1, Ev.dg1a, Ev.dg1b, Ev.dg2, Ev.dg2a, Ev.dg2b, Ev.putQ1, Ev.putQi, Ev.putR1, Ev.kd1, Ev.kdR1, Ev.kdi1, Ev.kdi2, Ev.kg1, Ev.kg2, Ev.kg3, Ev.callF1, Ev.callR1, Ev.tru_bl, Ev.tru_int, Ev.tru_tup, Ev.tru_obj, Ev.tru_non, Ev.tru_str, Ev.truO1, Ev.truO2, Ev.dtru1, Ev.truR1, Ev.isE1, Ev.isE2, Ev.eqL1, Ev.sclOf1, Ev.eqLR1, Ev.all1, Ev.any1, Ev.boolsOf1, Ev.boolR1, Ev.sorted1, Ev.sortedDI1, Ev.augI1, Ev.shlB1, Ev.stp1, Ev.stpO1, Ev.sortedDB1, Ev.sortBR1, Ev.sortedDS1, Ev.sortR1, Ev.evPn, Ev.evPc, Ev.dispR1, Ev.keysD0, Ev.keysD1, Ev.keysD2, Ev.keysR1, Ev.tas1, Ev.tas2, Ev.tas3, Ev.tas4, Ev.tas5, Ev.eis1, Ev.retB1, Ev.lkHit, Ev.lkMiss, Ev.gcd1, Ev.bits1, Ev.div1, Ev.mod1, Ev.rel1, Ev.eq1, Ev.eq2, Ev.eq3, Ev.ix1, Ev.ixA1, Ev.ix2, Ev.ixO1, Ev.lstOf1, Ev.lstOO1, Ev.len3, Ev.lenO4, Ev.lenO1, Ev.lenO3, Ev.isi1, Ev.isiR1, Ev.ty_bl, Ev.ty_int, Ev.ty_str, Ev.ty_tup, Ev.ty_non, Ev.ty_obj, Ev.tyO1, Ev.kit_NoneType_bool, Ev.kit_NoneType_int, Ev.kit_NoneType_str, Ev.kit_NoneType_tuple, Ev.kit_NoneType_list, Ev.kit_bool_bool, Ev.kit_bool_int, Ev.kit_bool_str, Ev.kit_bool_tuple, Ev.kit_bool_list, Ev.kit_int_bool, Ev.kit_int_int, Ev.kit_int_str, Ev.kit_int_tuple, Ev.kit_int_list, Ev.kit_str_bool, Ev.kit_str_int, Ev.kit_str_str, Ev.kit_str_tuple, Ev.kit_str_list, Ev.kit_tuple_bool, Ev.kit_tuple_int, Ev.kit_tuple_str, Ev.kit_tuple_tuple, Ev.kit_tuple_list, Ev.kit_list_bool, Ev.kit_list_int, Ev.kit_list_str, Ev.kit_list_tuple, Ev.kit_list_list, Ev.list1, Ev.lstR1, Ev.sq1, Ev.sq3, Ev.sl4, Ev.wk4, Ev.sq2, Ev.tup2, Ev.tupR1, Ev.sl2, Ev.slR1, Ev.app1, Ev.appO1, Ev.tym1, Ev.tymO1, Ev.tymO3, Ev.tym2, Ev.scsS0, Ev.scsS1, Ev.scsS2, Ev.scsS3, Ev.scsS4, Ev.scsS5, Ev.scsS6, Ev.scsS7, Ev.scsS8, Ev.scsS9, Ev.inVS1, Ev.inVS2, Ev.inVS3, Ev.inVS4, Ev.inVS5, Ev.inVS6, Ev.inVS7, Ev.inVS8, Ev.inVS9, Ev.in1, Ev.in2, Ev.inR1, Ev.sc1, Ev.sc2, Ev.wkL, Ev.walkR1, Ev.setSelf, Ev.mapSome, Ev.setNe, Ev.setSet, Ev.appNew, Ev.appOld, Ev.mkLst1, Ev.mkTup1, Ev.ixN5_0, Ev.ixN5_1, Ev.ixN5_2, Ev.ixN5_3, Ev.ixN5_4, Ev.int1, Ev.int2, Ev.len1, Ev.len2, Ev.ix3, Ev.ixS1, Ev.find3a, Ev.starts1, Ev.mulS1, Ev.join1, Ev.joinR1, Ev.neg1, Ev.so1, Ev.sl1, Ev.sl3, Ev.abs1, Ev.max1, Ev.min1, Ev.str1, Ev.ipI1, Ev.for1, Ev.tgc1, Ev.tgn1, Ev.tgt1, Ev.setc1, Ev.send1, Ev.tgl1, Ev.tgl2, Ev.rng1, Ev.rng2, Ev.okr_0, Ev.okr_1, Ev.okr_2, Ev.okr_3, Ev.okr_4, Ev.okr_5, Ev.okr_6, Ev.okr_7, Ev.okr_8, Ev.okr_9, Ev.okr_10, Ev.okr_11, Ev.okr_12, Ev.okr_13, Ev.okr_14, Ev.okr_15, Ev.okr_16, Ev.okr_17, Ev.okr_18, Ev.okr_19, Ev.okr_20, Ev.okr_21, Ev.okr_22, Ev.okr_23, Ev.okr_24, Ev.okr_25, Ev.okr_26, Ev.okr_27, Ev.okr_28, Ev.okr_29, Ev.okr_30, Ev.okr_31, Ev.okr_32, Ev.okr_33, Ev.okr_34, Ev.okr_35, Ev.okr_36, Ev.okr_37, Ev.okr_38, Ev.okr_39, Ev.okr_40, Ev.okr_41, Ev.okr_42, Ev.okr_43, Ev.okr_44, Ev.okr_45, Ev.okr_46, Ev.okr_47, Ev.okr_48, Ev.okr_49, Ev.okr_50, Ev.okr_51, Ev.okr_52, Ev.okr_53, Ev.okr_54, Ev.okr_55, Ev.okr_56, Ev.okr_57, Ev.okr_58, Ev.okr_59, Ev.okr_60, Ev.okr_61, Ev.okr_62, Ev.okr_63, Ev.okr_64, Ev.okr_65, Ev.okr_66, Ev.okr_67, Ev.okr_68, Ev.okr_69, Ev.okr_70, Ev.okr_71, Ev.okr_72, Ev.okr_73, Ev.okr_74, Ev.okr_75, Ev.okr_76, Ev.okr_77, Ev.okr_78, Ev.okr_79, Ev.okr_80, Ev.okr_81, Ev.okr_82, Ev.okr_83, Ev.okr_84, Ev.okr_85, Ev.okr_86, Ev.okr_87, Ev.okr_88, Ev.okr_89, Ev.okr_90, Ev.okr_91, Ev.okr_92, Ev.okr_93, Ev.okr_94, Ev.okr_95, Ev.okr_96, Ev.okr_97, Ev.okr_98, Ev.okr_99, Ev.okr_100, Ev.okr_101, Ev.okr_102, Ev.okr_103, Ev.okr_104, Ev.okr_105, Ev.okr_106, Ev.okr_107, Ev.okr_108, Ev.okr_109, Ev.okr_110, Ev.okr_111, Ev.okr_112, Ev.okr_113, Ev.okr_114, Ev.okr_115, Ev.okr_116, Ev.okr_117, Ev.okr_118, Ev.okr_119, Ev.okr_120, Ev.okr_121, Ev.okr_122, Ev.okr_123, Ev.okr_124, Ev.okr_125, Ev.okr_126, Ev.okr_127, Ev.okr_128, Ev.okr_129, Ev.okr_150, Ev.okr_200, Ev.okr_250, Ev.okr_256, Ev.okr_300, Ev.okr_400, Ev.okr_500, Ev.okr_1000, Ev.okr2, Ev.wkT, Ev.enum1, Ev.enum2, Ev.enumR1, Ev.zip1, Ev.zip2, Ev.zipR1, Ev.starS1, Ev.starA1, Ev.ltA1, Ev.leA1, Ev.ltA2, Ev.leA2, Ev.wkS, Ev.wh1, Ev.wh2, Ev.wh3, Ev.wh4, Ev.wt1, Ev.wt2, Ev.tr1, Ev.tr2, Ev.tr3, Ev.tm1, Ev.tm2, Ev.cend1, Ev.ccmp1, Ev.chd1, Ev.cel1, Ev.cts1, Ev.cts2, Ev.ctg1, Ev.m11, Ev.mulr, Ev.mull, Ev.get0, Ev.at0, Ev.get1, Ev.at1, Ev.get2, Ev.at2, Ev.get3, Ev.at3, Ev.get4, Ev.at4, Ev.get5, Ev.at5, Ev.get6, Ev.at6, Ev.get7, Ev.at7, Ev.get8, Ev.at8, Ev.get9, Ev.at9, Ev.get10, Ev.at10, Ev.get11, Ev.at11, Ev.get12, Ev.at12, Ev.get13, Ev.at13, Ev.get14, Ev.at14, Ev.get15, Ev.at15, Ev.get16, Ev.at16, Ev.get17, Ev.at17, Ev.get18, Ev.at18, Ev.get19, Ev.at19, Ev.get20, Ev.at20, Ev.get21, Ev.at21, Ev.get22, Ev.at22, Ev.get23, Ev.at23, Ev.isn1, Ev.isn_bl, Ev.ntn_bl, Ev.isn_int, Ev.ntn_int, Ev.isn_str, Ev.ntn_str, Ev.isn_tup, Ev.ntn_tup, Ev.isn_obj, Ev.ntn_obj, Ev.ntn1, Ev.tup1, Ev.ccmp2, Ev.inc1, Ev.capp1, Ev.cout1, Ev.ct21, Ev.ct22, Ev.ctg21, Ev.q31, Ev.q32, Ev.lrg2, Option.map_some, Ev.mulr, Ev.mull, ne_eq, not_false_eq_true, and_self, and_true, true_and, Bool.not_true, Bool.not_false, decide_true, decide_false, List.set, List.map, List.append, List.replicate, List.length_map, List.length_append, List.length_cons, List.length_nil, List.cons_append, List.nil_append, Nat.reduceAdd, Nat.reduceSub, Nat.reduceEqDiff, ↓reduceIte, Option.bind_some, Option.bind_none, wipeE, Option.isSome_some, Option.isSome_none, Bool.or_true, Bool.true_or, Bool.or_false, Bool.false_or])

section
variable {P : Program} {wd : World} {K : PySem.W.Frag} {mg : Str → Option Value} {base : Heap} {A : At}
noncomputable def b_Store___init__ : DS := (dSeq (dSetF "Store" "_levels" (eV 0) (eLst (eCons (eUn dNeg (eC (D.int 1))) (eCons (eUn dNeg (eC (D.int 1))) eNil))))
    (dSeq (dSetF "Store" "_lows" (eV 0) (eLst (eCons (eC (D.int 0)) (eCons (eC (D.int 1)) eNil))))
    (dSeq (dSetF "Store" "_highs" (eV 0) (eLst (eCons (eC (D.int 0)) (eCons (eC (D.int 1)) eNil))))
    (dSeq (dSetF "Store" "_references" (eV 0) eDNewT)
    (dSetF "Store" "_chosen" (eV 0) eDNewT)))))
noncomputable def h_Store___init__ : DF := runD 1 1 (b_Store___init__)
theorem ok_Store___init__ (T : Txt K mg A) : FnOk P wd K mg base (L2.CX P wd) (1) A.a_Store___init__ A.d_Store___init__ ["self"] (spD K mg h_Store___init__) := by
  refine d_ok T.t_Store___init__.F sc_Store___init__ (fun cdv AA outer s H E hr tk po => ?_)
  exact (lss_cons (ls_setF T.c_Store T.n_Store__levels (lv 0) (l_lst (la_cons (l_un un_neg o_neg l_int) (la_cons (l_un un_neg o_neg l_int) la_nil))))
      (lss_cons (ls_setF T.c_Store T.n_Store__lows (lv 0) (l_lst (la_cons l_int (la_cons l_int la_nil))))
      (lss_cons (ls_setF T.c_Store T.n_Store__highs (lv 0) (l_lst (la_cons l_int (la_cons l_int la_nil))))
      (lss_cons (ls_setF T.c_Store T.n_Store__references (lv 0) l_dnewT)
      (lss_one (ls_setF T.c_Store T.n_Store__chosen (lv 0) l_dnewT))))))

noncomputable def b_Store_node : DS := (dSeq (dIfS (eT (eOp dEq (eV 2) (eV 3))) (dRet (eV 2)) dNext)
    (dSeq (dSet 4 (eTk (eCons (eV 1) (eCons (eV 2) (eCons (eV 3) eNil)))))
    (dSeq (dIfS (eT (eDIn true (eV 4) (eFld "Store" "_references" (eV 0)))) (dSeq (dPutT (eCall dLen (eCons (eFld "Store" "_levels" (eV 0)) eNil)) (eFld "Store" "_references" (eV 0)) (eV 4))
    (dSeq (dExpr (eMeth "list" mAppend (eFld "Store" "_levels" (eV 0)) (eCons (eV 1) eNil)))
    (dSeq (dExpr (eMeth "list" mAppend (eFld "Store" "_lows" (eV 0)) (eCons (eV 2) eNil)))
    (dExpr (eMeth "list" mAppend (eFld "Store" "_highs" (eV 0)) (eCons (eV 3) eNil)))))) dNext)
    (dRet (eDGet (eFld "Store" "_references" (eV 0)) (eV 4))))))
noncomputable def h_Store_node : DF := runD 4 5 (b_Store_node)
theorem ok_Store_node (T : Txt K mg A) : FnOk P wd K mg base (L2.CX P wd) (1) A.a_Store_node A.d_Store_node ["self", "level", "low", "high"] (spD K mg h_Store_node) := by
  refine d_ok T.t_Store_node.F sc_Store_node (fun cdv AA outer s H E hr tk po => ?_)
  exact (lss_cons (ls_if (lt_cmp op_eq o_eq (lv 2) (lv 3) (nomark _)) (lss_one (ls_ret (lv 2))) lss_nil)
      (lss_cons (ls_set (i := 4) sc_Store_node.nd rfl (Or.inl rfl) (l_tk (la_cons (lv 1) (la_cons (lv 2) (la_cons (lv 3) la_nil)))))
      (lss_cons (ls_if (lt_dnotin (hu_of hr) (lv 4) (l_fld T.c_Store T.n_Store__references (lv 0))) (lss_cons (ls_putT (hu_of hr) (l_callB call_lenA o_len (by rfl) T.z_len PySem.boot_len (la_cons (l_fld T.c_Store T.n_Store__levels (lv 0)) la_nil)) (l_fld T.c_Store T.n_Store__references (lv 0)) (lv 4) (by rfl))
      (lss_cons (ls_expr (l_bm PySem.F.plainAttrs_list PySem.F.slot_list_append PySem.F.type_list_append mt_append om_append (l_fld T.c_Store T.n_Store__levels (lv 0)) (la_cons (lv 1) la_nil)))
      (lss_cons (ls_expr (l_bm PySem.F.plainAttrs_list PySem.F.slot_list_append PySem.F.type_list_append mt_append om_append (l_fld T.c_Store T.n_Store__lows (lv 0)) (la_cons (lv 2) la_nil)))
      (lss_one (ls_expr (l_bm PySem.F.plainAttrs_list PySem.F.slot_list_append PySem.F.type_list_append mt_append om_append (l_fld T.c_Store T.n_Store__highs (lv 0)) (la_cons (lv 3) la_nil))))))) lss_nil)
      (lss_one (ls_ret (l_dget (hu_of hr) (l_fld T.c_Store T.n_Store__references (lv 0)) (lv 4) (fun _ _ => rfl)))))))

noncomputable def b_Store_coin : DS := (dRet (eMet "Store" "node" h_Store_node (eV 0) (eCons (eV 1) (eCons (eC (D.int 0)) (eCons (eC (D.int 1)) eNil)))))
noncomputable def h_Store_coin : DF := runD 2 2 (b_Store_coin)
theorem ok_Store_coin (T : Txt K mg A) : FnOk P wd K mg base (L2.CX P wd) (2) A.a_Store_coin A.d_Store_coin ["self", "level"] (spD K mg h_Store_coin) := by
  have G_Store_node : FnOk P wd K mg base (L2.CX P wd) (1) A.a_Store_node A.d_Store_node ["self", "level", "low", "high"] (spD K mg h_Store_node) := ok_Store_node T
  refine d_ok T.t_Store_coin.F sc_Store_coin (fun cdv AA outer s H E hr tk po => ?_)
  exact (lss_one (ls_ret (l_met T.c_Store T.t_Store_node.m G_Store_node (hr.mono (by omega)) T.t_Store_node.b tk (lv 0) (la_cons (lv 1) (la_cons l_int (la_cons l_int la_nil))))))

noncomputable def b_checked_node : DS := (dSeq (dIfS (eT (eOp dLt (eV 0) (eC (D.int 2)))) (dRaise "NotANode") dNext)
    (dRet (eV 0)))
noncomputable def h_checked_node : DF := runD 1 1 (b_checked_node)
theorem ok_checked_node (T : Txt K mg A) : FnOk P wd K mg base (L2.CX P wd) (1) A.a_checked_node A.d_checked_node ["a"] (spD K mg h_checked_node) := by
  refine d_ok T.t_checked_node.F sc_checked_node (fun cdv AA outer s H E hr tk po => ?_)
  exact (lss_cons (ls_if (lt_cmp op_lt (o_rel _) (lv 0) l_int (nomark _)) (lss_one (ls_raise rfl tk T.e_NotANode.ex T.e_NotANode.g T.e_NotANode.k T.e_NotANode.b T.e_NotANode.t rfl)) lss_nil)
      (lss_one (ls_ret (lv 0))))

noncomputable def b_Store_low : DS := (dRet (eOp dIx (eFld "Store" "_lows" (eV 0)) (eCall h_checked_node (eCons (eV 1) eNil))))
noncomputable def h_Store_low : DF := runD 2 2 (b_Store_low)
theorem ok_Store_low (T : Txt K mg A) : FnOk P wd K mg base (L2.CX P wd) (2) A.a_Store_low A.d_Store_low ["self", "a"] (spD K mg h_Store_low) := by
  have G_checked_node : FnOk P wd K mg base (L2.CX P wd) (1) A.a_checked_node A.d_checked_node ["a"] (spD K mg h_checked_node) := ok_checked_node T
  refine d_ok T.t_Store_low.F sc_Store_low (fun cdv AA outer s H E hr tk po => ?_)
  exact (lss_one (ls_ret (l_ix ixX o_ix (l_fld T.c_Store T.n_Store__lows (lv 0)) (l_call G_checked_node (hr.mono (by omega)) (by rfl) T.t_checked_node.g T.t_checked_node.F.kp T.t_checked_node.b tk (la_cons (lv 1) la_nil)) (fun _ _ => rfl))))

noncomputable def b_Store_high : DS := (dRet (eOp dIx (eFld "Store" "_highs" (eV 0)) (eCall h_checked_node (eCons (eV 1) eNil))))
noncomputable def h_Store_high : DF := runD 2 2 (b_Store_high)
theorem ok_Store_high (T : Txt K mg A) : FnOk P wd K mg base (L2.CX P wd) (2) A.a_Store_high A.d_Store_high ["self", "a"] (spD K mg h_Store_high) := by
  have G_checked_node : FnOk P wd K mg base (L2.CX P wd) (1) A.a_checked_node A.d_checked_node ["a"] (spD K mg h_checked_node) := ok_checked_node T
  refine d_ok T.t_Store_high.F sc_Store_high (fun cdv AA outer s H E hr tk po => ?_)
  exact (lss_one (ls_ret (l_ix ixX o_ix (l_fld T.c_Store T.n_Store__highs (lv 0)) (l_call G_checked_node (hr.mono (by omega)) (by rfl) T.t_checked_node.g T.t_checked_node.F.kp T.t_checked_node.b tk (la_cons (lv 1) la_nil)) (fun _ _ => rfl))))

noncomputable def b_Store__settled : DS := (dSeq (dAsg (eUnTk (eV 1)) (tgT 3 (tgCons (tgN 2) (tgCons (tgN 3) (tgCons (tgN 4) tgNil)))))
    (dSeq (dIfS (eT (eOp dLt (eV 2) (eC (D.int 2)))) (dRet (eIf (eT (eOp dEq (eV 2) (eC (D.int 1)))) (eV 3) (eV 4))) dNext)
    (dSeq (dIfS (eT (eOp dEq (eV 3) (eV 2))) (dSet 3 (eC (D.int 1))) dNext)
    (dSeq (dIfS (eT (eOp dEq (eV 4) (eV 2))) (dSet 4 (eC (D.int 0))) dNext)
    (dSeq (dIfS (eT (eOp dEq (eV 3) (eV 4))) (dRet (eV 3)) dNext)
    (dSeq (dIfS (eAnd (eT (eOp dEq (eV 3) (eC (D.int 1)))) (eT (eOp dEq (eV 4) (eC (D.int 0))))) (dRet (eV 2)) dNext)
    (dRet (eDGet2 (eFld "Store" "_chosen" (eV 0)) (eV 1) (eUn dNeg (eC (D.int 1)))))))))))
noncomputable def h_Store__settled : DF := runD 2 5 (b_Store__settled)
theorem ok_Store__settled (T : Txt K mg A) : FnOk P wd K mg base (L2.CX P wd) (1) A.a_Store__settled A.d_Store__settled ["self", "choice"] (spD K mg h_Store__settled) := by
  refine d_ok T.t_Store__settled.F sc_Store__settled (fun cdv AA outer s H E hr tk po => ?_)
  exact (lss_cons (ls_asg (l_untk (lv 1)) (pg_tup rfl (pgs_cons (pg_name (i := 2) sc_Store__settled.nd rfl (Or.inl rfl)) (pgs_cons (pg_name (i := 3) sc_Store__settled.nd rfl (Or.inl rfl)) (pgs_cons (pg_name (i := 4) sc_Store__settled.nd rfl (Or.inl rfl)) pgs_nil)))) (g_tup (gs_cons (g_name 2) (gs_cons (g_name 3) (gs_cons (g_name 4) gs_nil)))))
      (lss_cons (ls_if (lt_cmp op_lt (o_rel _) (lv 2) l_int (nomark _)) (lss_one (ls_ret (l_ifx (lt_cmp op_eq o_eq (lv 2) l_int (nomark _)) (lv 3) (lv 4)))) lss_nil)
      (lss_cons (ls_if (lt_cmp op_eq o_eq (lv 3) (lv 2) (nomark _)) (lss_one (ls_set (i := 3) sc_Store__settled.nd rfl (Or.inl rfl) l_int)) lss_nil)
      (lss_cons (ls_if (lt_cmp op_eq o_eq (lv 4) (lv 2) (nomark _)) (lss_one (ls_set (i := 4) sc_Store__settled.nd rfl (Or.inl rfl) l_int)) lss_nil)
      (lss_cons (ls_if (lt_cmp op_eq o_eq (lv 3) (lv 4) (nomark _)) (lss_one (ls_ret (lv 3))) lss_nil)
      (lss_cons (ls_if (PW.pt (lw_and (lt_cmp op_eq o_eq (lv 3) l_int (nomark _)) (lw_and1 (lt_cmp op_eq o_eq (lv 4) l_int (nomark _))))) (lss_one (ls_ret (lv 2))) lss_nil)
      (lss_one (ls_ret (l_dget2 (hu_of hr) (l_fld T.c_Store T.n_Store__chosen (lv 0)) (lv 1) (l_un un_neg o_neg l_int) ⟨rfl, rfl, rfl, rfl⟩)))))))))

noncomputable def b_Store__parts_of : DS := (dSeq (dPar3 2 3 4 (eCons (eFld "Store" "_levels" (eV 0)) (eCons (eFld "Store" "_lows" (eV 0)) (eCons (eFld "Store" "_highs" (eV 0)) eNil))))
    (dSeq (dAsg (eUnTk (eV 1)) (tgT 3 (tgCons (tgN 5) (tgCons (tgN 6) (tgCons (tgN 7) tgNil)))))
    (dSeq (dSet 8 (eOp dIx (eV 2) (eV 5)))
    (dSeq (dIfS (eT (eChain dLt dLt (eUn dNeg (eC (D.int 1))) (eOp dIx (eV 2) (eV 6)) (eV 8))) (dSet 8 (eOp dIx (eV 2) (eV 6))) dNext)
    (dSeq (dIfS (eT (eChain dLt dLt (eUn dNeg (eC (D.int 1))) (eOp dIx (eV 2) (eV 7)) (eV 8))) (dSet 8 (eOp dIx (eV 2) (eV 7))) dNext)
    (dSeq (dAsg (eIf (eT (eOp dEq (eOp dIx (eV 2) (eV 5)) (eV 8))) (eTup (eCons (eOp dIx (eV 3) (eV 5)) (eCons (eOp dIx (eV 4) (eV 5)) eNil))) (eTup (eCons (eV 5) (eCons (eV 5) eNil)))) (tgT 2 (tgCons (tgN 9) (tgCons (tgN 10) tgNil))))
    (dSeq (dAsg (eIf (eT (eOp dEq (eOp dIx (eV 2) (eV 6)) (eV 8))) (eTup (eCons (eOp dIx (eV 3) (eV 6)) (eCons (eOp dIx (eV 4) (eV 6)) eNil))) (eTup (eCons (eV 6) (eCons (eV 6) eNil)))) (tgT 2 (tgCons (tgN 11) (tgCons (tgN 12) tgNil))))
    (dSeq (dAsg (eIf (eT (eOp dEq (eOp dIx (eV 2) (eV 7)) (eV 8))) (eTup (eCons (eOp dIx (eV 3) (eV 7)) (eCons (eOp dIx (eV 4) (eV 7)) eNil))) (eTup (eCons (eV 7) (eCons (eV 7) eNil)))) (tgT 2 (tgCons (tgN 13) (tgCons (tgN 14) tgNil))))
    (dRet (eTup (eCons (eV 8) (eCons (eTk (eCons (eV 9) (eCons (eV 11) (eCons (eV 13) eNil)))) (eCons (eTk (eCons (eV 10) (eCons (eV 12) (eCons (eV 14) eNil)))) eNil)))))))))))))
noncomputable def h_Store__parts_of : DF := runD 2 15 (b_Store__parts_of)
theorem ok_Store__parts_of (T : Txt K mg A) : FnOk P wd K mg base (L2.CX P wd) (1) A.a_Store__parts_of A.d_Store__parts_of ["self", "choice"] (spD K mg h_Store__parts_of) := by
  refine d_ok T.t_Store__parts_of.F sc_Store__parts_of (fun cdv AA outer s H E hr tk po => ?_)
  exact (lss_cons (ls_par3 (i := 2) (j := 3) (l := 4) (by rfl) sc_Store__parts_of.nd (by rfl) (by rfl) (by rfl)  (by decide) (by decide) (by decide)  (by rfl) (by rfl) (by rfl)  (la_cons (l_fld T.c_Store T.n_Store__levels (lv 0)) (la_cons (l_fld T.c_Store T.n_Store__lows (lv 0)) (la_cons (l_fld T.c_Store T.n_Store__highs (lv 0)) la_nil))) (by rfl))
      (lss_cons (ls_asg (l_untk (lv 1)) (pg_tup rfl (pgs_cons (pg_name (i := 5) sc_Store__parts_of.nd rfl (Or.inl rfl)) (pgs_cons (pg_name (i := 6) sc_Store__parts_of.nd rfl (Or.inl rfl)) (pgs_cons (pg_name (i := 7) sc_Store__parts_of.nd rfl (Or.inl rfl)) pgs_nil)))) (g_tup (gs_cons (g_name 5) (gs_cons (g_name 6) (gs_cons (g_name 7) gs_nil)))))
      (lss_cons (ls_set (i := 8) sc_Store__parts_of.nd rfl (Or.inl rfl) (l_ix ixX o_ix (lv 2) (lv 5) (fun _ _ => rfl)))
      (lss_cons (ls_if (lt_chain op_lt (o_rel _) op_lt (o_rel _) (l_un un_neg o_neg l_int) (l_ix ixX o_ix (lv 2) (lv 6) (fun _ _ => rfl)) (lv 8)) (lss_one (ls_set (i := 8) sc_Store__parts_of.nd rfl (Or.inl rfl) (l_ix ixX o_ix (lv 2) (lv 6) (fun _ _ => rfl)))) lss_nil)
      (lss_cons (ls_if (lt_chain op_lt (o_rel _) op_lt (o_rel _) (l_un un_neg o_neg l_int) (l_ix ixX o_ix (lv 2) (lv 7) (fun _ _ => rfl)) (lv 8)) (lss_one (ls_set (i := 8) sc_Store__parts_of.nd rfl (Or.inl rfl) (l_ix ixX o_ix (lv 2) (lv 7) (fun _ _ => rfl)))) lss_nil)
      (lss_cons (ls_asg (l_ifx (lt_cmp op_eq o_eq (l_ix ixX o_ix (lv 2) (lv 5) (fun _ _ => rfl)) (lv 8) (nomark _)) (l_tup (la_cons (l_ix ixX o_ix (lv 3) (lv 5) (fun _ _ => rfl)) (la_cons (l_ix ixX o_ix (lv 4) (lv 5) (fun _ _ => rfl)) la_nil))) (l_tup (la_cons (lv 5) (la_cons (lv 5) la_nil)))) (pg_tup rfl (pgs_cons (pg_name (i := 9) sc_Store__parts_of.nd rfl (Or.inl rfl)) (pgs_cons (pg_name (i := 10) sc_Store__parts_of.nd rfl (Or.inl rfl)) pgs_nil))) (g_tup (gs_cons (g_name 9) (gs_cons (g_name 10) gs_nil))))
      (lss_cons (ls_asg (l_ifx (lt_cmp op_eq o_eq (l_ix ixX o_ix (lv 2) (lv 6) (fun _ _ => rfl)) (lv 8) (nomark _)) (l_tup (la_cons (l_ix ixX o_ix (lv 3) (lv 6) (fun _ _ => rfl)) (la_cons (l_ix ixX o_ix (lv 4) (lv 6) (fun _ _ => rfl)) la_nil))) (l_tup (la_cons (lv 6) (la_cons (lv 6) la_nil)))) (pg_tup rfl (pgs_cons (pg_name (i := 11) sc_Store__parts_of.nd rfl (Or.inl rfl)) (pgs_cons (pg_name (i := 12) sc_Store__parts_of.nd rfl (Or.inl rfl)) pgs_nil))) (g_tup (gs_cons (g_name 11) (gs_cons (g_name 12) gs_nil))))
      (lss_cons (ls_asg (l_ifx (lt_cmp op_eq o_eq (l_ix ixX o_ix (lv 2) (lv 7) (fun _ _ => rfl)) (lv 8) (nomark _)) (l_tup (la_cons (l_ix ixX o_ix (lv 3) (lv 7) (fun _ _ => rfl)) (la_cons (l_ix ixX o_ix (lv 4) (lv 7) (fun _ _ => rfl)) la_nil))) (l_tup (la_cons (lv 7) (la_cons (lv 7) la_nil)))) (pg_tup rfl (pgs_cons (pg_name (i := 13) sc_Store__parts_of.nd rfl (Or.inl rfl)) (pgs_cons (pg_name (i := 14) sc_Store__parts_of.nd rfl (Or.inl rfl)) pgs_nil))) (g_tup (gs_cons (g_name 13) (gs_cons (g_name 14) gs_nil))))
      (lss_one (ls_ret (l_tup (la_cons (lv 8) (la_cons (l_tk (la_cons (lv 9) (la_cons (lv 11) (la_cons (lv 13) la_nil)))) (la_cons (l_tk (la_cons (lv 10) (la_cons (lv 12) (la_cons (lv 14) la_nil)))) la_nil))))))))))))))

noncomputable def b_Store_choose (N : Nat) : DS := (dSeq (dIfS (eT (eOp dGt (eCall dLen (eCons (eFld "Store" "_chosen" (eV 0)) eNil)) (eC (D.int 300000)))) (dSetF "Store" "_chosen" (eV 0) eDNewT) dNext)
    (dSeq (dSet 4 (eTk (eCons (eV 1) (eCons (eV 2) (eCons (eV 3) eNil)))))
    (dSeq (dSet 5 (eIf (eT (eOp dLt (eMet "Store" "_settled" h_Store__settled (eV 0) (eCons (eV 4) eNil)) (eC (D.int 0)))) (eLst (eCons (eV 4) eNil)) (eLst eNil)))
    (dSeq (dWhile N (eTru (eV 5)) (dSeq (dSet 6 (eOp dIx (eV 5) (eUn dNeg (eC (D.int 1)))))
    (dSeq (dAsg (eMet "Store" "_parts_of" h_Store__parts_of (eV 0) (eCons (eV 6) eNil)) (tgT 3 (tgCons (tgN 7) (tgCons (tgN 8) (tgCons (tgN 9) tgNil)))))
    (dSeq (dSet 10 (eMet "Store" "_settled" h_Store__settled (eV 0) (eCons (eV 8) eNil)))
    (dSeq (dSet 11 (eMet "Store" "_settled" h_Store__settled (eV 0) (eCons (eV 9) eNil)))
    (dSeq (dIfS (eAnd (eT (eOp dGe (eV 10) (eC (D.int 0)))) (eT (eOp dGe (eV 11) (eC (D.int 0))))) (dSeq (dPutT (eMet "Store" "node" h_Store_node (eV 0) (eCons (eV 7) (eCons (eV 10) (eCons (eV 11) eNil)))) (eFld "Store" "_chosen" (eV 0)) (eV 6))
    (dExpr (eMeth "list" mPop (eV 5) eNil))) dNext)
    (dSeq (dIfS (eT (eOp dLt (eV 11) (eC (D.int 0)))) (dExpr (eMeth "list" mAppend (eV 5) (eCons (eV 9) eNil))) dNext)
    (dIfS (eT (eOp dLt (eV 10) (eC (D.int 0)))) (dExpr (eMeth "list" mAppend (eV 5) (eCons (eV 8) eNil))) dNext))))))))
    (dRet (eMet "Store" "_settled" h_Store__settled (eV 0) (eCons (eV 4) eNil)))))))
noncomputable def h_Store_choose (N : Nat) : DF := runD 4 12 (b_Store_choose N)
theorem ok_Store_choose (T : Txt K mg A) (N : Nat) : FnOk P wd K mg base (L2.CX P wd) (2) A.a_Store_choose A.d_Store_choose ["self", "c", "a", "b"] (spD K mg (h_Store_choose N)) := by
  obtain ⟨u_MOST_CHOICES, g_MOST_CHOICES, r_MOST_CHOICES⟩ := T.m_MOST_CHOICES
  have G_Store_node : FnOk P wd K mg base (L2.CX P wd) (1) A.a_Store_node A.d_Store_node ["self", "level", "low", "high"] (spD K mg h_Store_node) := ok_Store_node T
  have G_Store__settled : FnOk P wd K mg base (L2.CX P wd) (1) A.a_Store__settled A.d_Store__settled ["self", "choice"] (spD K mg h_Store__settled) := ok_Store__settled T
  have G_Store__parts_of : FnOk P wd K mg base (L2.CX P wd) (1) A.a_Store__parts_of A.d_Store__parts_of ["self", "choice"] (spD K mg h_Store__parts_of) := ok_Store__parts_of T
  refine d_ok T.t_Store_choose.F sc_Store_choose (fun cdv AA outer s H E hr tk po => ?_)
  exact (lss_cons (ls_if (lt_cmp op_gt (o_rel _) (l_callB call_lenA o_len (by rfl) T.z_len PySem.boot_len (la_cons (l_fld T.c_Store T.n_Store__chosen (lv 0)) la_nil)) (l_glob rfl g_MOST_CHOICES r_MOST_CHOICES (fun w => mk_int)) (nomark _)) (lss_one (ls_setF T.c_Store T.n_Store__chosen (lv 0) l_dnewT)) lss_nil)
      (lss_cons (ls_set (i := 4) sc_Store_choose.nd rfl (Or.inl rfl) (l_tk (la_cons (lv 1) (la_cons (lv 2) (la_cons (lv 3) la_nil)))))
      (lss_cons (ls_set (i := 5) sc_Store_choose.nd rfl (Or.inl rfl) (l_ifx (lt_cmp op_lt (o_rel _) (l_met T.c_Store T.t_Store__settled.m G_Store__settled (hr.mono (by omega)) T.t_Store__settled.b tk (lv 0) (la_cons (lv 4) la_nil)) l_int (nomark _)) (l_lst (la_cons (lv 4) la_nil)) (l_lst la_nil)))
      (lss_cons (ls_while N po (lt_truth (lv 5) (by intro _; rfl)) (lss_cons (ls_set (i := 6) sc_Store_choose.nd rfl (Or.inl rfl) (l_ix ixX o_ix (lv 5) (l_un un_neg o_neg l_int) (fun _ _ => rfl)))
      (lss_cons (ls_asg (l_met T.c_Store T.t_Store__parts_of.m G_Store__parts_of (hr.mono (by omega)) T.t_Store__parts_of.b tk (lv 0) (la_cons (lv 6) la_nil)) (pg_tup rfl (pgs_cons (pg_name (i := 7) sc_Store_choose.nd rfl (Or.inl rfl)) (pgs_cons (pg_name (i := 8) sc_Store_choose.nd rfl (Or.inl rfl)) (pgs_cons (pg_name (i := 9) sc_Store_choose.nd rfl (Or.inl rfl)) pgs_nil)))) (g_tup (gs_cons (g_name 7) (gs_cons (g_name 8) (gs_cons (g_name 9) gs_nil)))))
      (lss_cons (ls_set (i := 10) sc_Store_choose.nd rfl (Or.inl rfl) (l_met T.c_Store T.t_Store__settled.m G_Store__settled (hr.mono (by omega)) T.t_Store__settled.b tk (lv 0) (la_cons (lv 8) la_nil)))
      (lss_cons (ls_set (i := 11) sc_Store_choose.nd rfl (Or.inl rfl) (l_met T.c_Store T.t_Store__settled.m G_Store__settled (hr.mono (by omega)) T.t_Store__settled.b tk (lv 0) (la_cons (lv 9) la_nil)))
      (lss_cons (ls_if (PW.pt (lw_and (lt_cmp op_ge (o_rel _) (lv 10) l_int (nomark _)) (lw_and1 (lt_cmp op_ge (o_rel _) (lv 11) l_int (nomark _))))) (lss_cons (ls_putT (hu_of hr) (l_met T.c_Store T.t_Store_node.m G_Store_node (hr.mono (by omega)) T.t_Store_node.b tk (lv 0) (la_cons (lv 7) (la_cons (lv 10) (la_cons (lv 11) la_nil)))) (l_fld T.c_Store T.n_Store__chosen (lv 0)) (lv 6) (by rfl))
      (lss_one (ls_expr (l_bm0 PySem.F.plainAttrs_list PySem.F.slot_list_pop PySem.F.type_list_pop mt_pop om_pop (lv 5))))) lss_nil)
      (lss_cons (ls_if (lt_cmp op_lt (o_rel _) (lv 11) l_int (nomark _)) (lss_one (ls_expr (l_bm PySem.F.plainAttrs_list PySem.F.slot_list_append PySem.F.type_list_append mt_append om_append (lv 5) (la_cons (lv 9) la_nil)))) lss_nil)
      (lss_one (ls_if (lt_cmp op_lt (o_rel _) (lv 10) l_int (nomark _)) (lss_one (ls_expr (l_bm PySem.F.plainAttrs_list PySem.F.slot_list_append PySem.F.type_list_append mt_append om_append (lv 5) (la_cons (lv 8) la_nil)))) lss_nil)))))))))
      (lss_one (ls_ret (l_met T.c_Store T.t_Store__settled.m G_Store__settled (hr.mono (by omega)) T.t_Store__settled.b tk (lv 0) (la_cons (lv 4) la_nil))))))))

noncomputable def b_Store_negate (N : Nat) : DS := (dRet (eMet "Store" "choose" (h_Store_choose N) (eV 0) (eCons (eV 1) (eCons (eC (D.int 0)) (eCons (eC (D.int 1)) eNil)))))
noncomputable def h_Store_negate (N : Nat) : DF := runD 2 2 (b_Store_negate N)
theorem ok_Store_negate (T : Txt K mg A) (N : Nat) : FnOk P wd K mg base (L2.CX P wd) (3) A.a_Store_negate A.d_Store_negate ["self", "a"] (spD K mg (h_Store_negate N)) := by
  have G_Store_choose : FnOk P wd K mg base (L2.CX P wd) (2) A.a_Store_choose A.d_Store_choose ["self", "c", "a", "b"] (spD K mg (h_Store_choose N)) := ok_Store_choose T N
  refine d_ok T.t_Store_negate.F sc_Store_negate (fun cdv AA outer s H E hr tk po => ?_)
  exact (lss_one (ls_ret (l_met T.c_Store T.t_Store_choose.m G_Store_choose (hr.mono (by omega)) T.t_Store_choose.b tk (lv 0) (la_cons (lv 1) (la_cons l_int (la_cons l_int la_nil))))))

noncomputable def b_Store_both (N : Nat) : DS := (dRet (eMet "Store" "choose" (h_Store_choose N) (eV 0) (eCons (eCall dMin2 (eCons (eV 1) (eCons (eV 2) eNil))) (eCons (eCall dMax2 (eCons (eV 1) (eCons (eV 2) eNil))) (eCons (eC (D.int 0)) eNil)))))
noncomputable def h_Store_both (N : Nat) : DF := runD 3 3 (b_Store_both N)
theorem ok_Store_both (T : Txt K mg A) (N : Nat) : FnOk P wd K mg base (L2.CX P wd) (3) A.a_Store_both A.d_Store_both ["self", "a", "b"] (spD K mg (h_Store_both N)) := by
  have G_Store_choose : FnOk P wd K mg base (L2.CX P wd) (2) A.a_Store_choose A.d_Store_choose ["self", "c", "a", "b"] (spD K mg (h_Store_choose N)) := ok_Store_choose T N
  refine d_ok T.t_Store_both.F sc_Store_both (fun cdv AA outer s H E hr tk po => ?_)
  exact (lss_one (ls_ret (l_met T.c_Store T.t_Store_choose.m G_Store_choose (hr.mono (by omega)) T.t_Store_choose.b tk (lv 0) (la_cons (l_callB (call_min2 rfl) o_min2 (by rfl) T.z_min (by decide +kernel) (la_cons (lv 1) (la_cons (lv 2) la_nil))) (la_cons (l_callB (call_max2 rfl) o_max2 (by rfl) T.z_max (by decide +kernel) (la_cons (lv 1) (la_cons (lv 2) la_nil))) (la_cons l_int la_nil))))))

noncomputable def b_Store_either (N : Nat) : DS := (dRet (eMet "Store" "choose" (h_Store_choose N) (eV 0) (eCons (eCall dMin2 (eCons (eV 1) (eCons (eV 2) eNil))) (eCons (eC (D.int 1)) (eCons (eCall dMax2 (eCons (eV 1) (eCons (eV 2) eNil))) eNil)))))
noncomputable def h_Store_either (N : Nat) : DF := runD 3 3 (b_Store_either N)
theorem ok_Store_either (T : Txt K mg A) (N : Nat) : FnOk P wd K mg base (L2.CX P wd) (3) A.a_Store_either A.d_Store_either ["self", "a", "b"] (spD K mg (h_Store_either N)) := by
  have G_Store_choose : FnOk P wd K mg base (L2.CX P wd) (2) A.a_Store_choose A.d_Store_choose ["self", "c", "a", "b"] (spD K mg (h_Store_choose N)) := ok_Store_choose T N
  refine d_ok T.t_Store_either.F sc_Store_either (fun cdv AA outer s H E hr tk po => ?_)
  exact (lss_one (ls_ret (l_met T.c_Store T.t_Store_choose.m G_Store_choose (hr.mono (by omega)) T.t_Store_choose.b tk (lv 0) (la_cons (l_callB (call_min2 rfl) o_min2 (by rfl) T.z_min (by decide +kernel) (la_cons (lv 1) (la_cons (lv 2) la_nil))) (la_cons l_int (la_cons (l_callB (call_max2 rfl) o_max2 (by rfl) T.z_max (by decide +kernel) (la_cons (lv 1) (la_cons (lv 2) la_nil))) la_nil))))))

noncomputable def b_Store_without (N : Nat) : DS := (dRet (eMet "Store" "choose" (h_Store_choose N) (eV 0) (eCons (eV 2) (eCons (eC (D.int 0)) (eCons (eV 1) eNil)))))
noncomputable def h_Store_without (N : Nat) : DF := runD 3 3 (b_Store_without N)
theorem ok_Store_without (T : Txt K mg A) (N : Nat) : FnOk P wd K mg base (L2.CX P wd) (3) A.a_Store_without A.d_Store_without ["self", "a", "b"] (spD K mg (h_Store_without N)) := by
  have G_Store_choose : FnOk P wd K mg base (L2.CX P wd) (2) A.a_Store_choose A.d_Store_choose ["self", "c", "a", "b"] (spD K mg (h_Store_choose N)) := ok_Store_choose T N
  refine d_ok T.t_Store_without.F sc_Store_without (fun cdv AA outer s H E hr tk po => ?_)
  exact (lss_one (ls_ret (l_met T.c_Store T.t_Store_choose.m G_Store_choose (hr.mono (by omega)) T.t_Store_choose.b tk (lv 0) (la_cons (lv 2) (la_cons l_int (la_cons (lv 1) la_nil))))))

noncomputable def b_Store_either_of (N : Nat) : DS := (dSeq (dSet 2 (eC (D.int 0)))
    (dSeq (dFor (wL (eV 1)) (tgN 3) (dSet 2 (eMet "Store" "either" (h_Store_either N) (eV 0) (eCons (eV 2) (eCons (eV 3) eNil)))))
    (dRet (eV 2))))
noncomputable def h_Store_either_of (N : Nat) : DF := runD 2 4 (b_Store_either_of N)
theorem ok_Store_either_of (T : Txt K mg A) (N : Nat) : FnOk P wd K mg base (L2.CX P wd) (4) A.a_Store_either_of A.d_Store_either_of ["self", "references"] (spD K mg (h_Store_either_of N)) := by
  have G_Store_either : FnOk P wd K mg base (L2.CX P wd) (3) A.a_Store_either A.d_Store_either ["self", "a", "b"] (spD K mg (h_Store_either N)) := ok_Store_either T N
  refine d_ok T.t_Store_either_of.F sc_Store_either_of (fun cdv AA outer s H E hr tk po => ?_)
  exact (lss_cons (ls_set (i := 2) sc_Store_either_of.nd rfl (Or.inl rfl) l_int)
      (lss_cons (ls_for po rfl (pi_list (lv 1)) io_list (pg_name (i := 3) sc_Store_either_of.nd rfl (Or.inl rfl)) (g_name 3) (lss_one (ls_set (i := 2) sc_Store_either_of.nd rfl (Or.inl rfl) (l_met T.c_Store T.t_Store_either.m G_Store_either (hr.mono (by omega)) T.t_Store_either.b tk (lv 0) (la_cons (lv 2) (la_cons (lv 3) la_nil))))))
      (lss_one (ls_ret (lv 2)))))

noncomputable def b_Store_nodes_below_all (N : Nat) : DS := (dSeq (dSet 2 eDNew)
    (dSeq (dSet 3 (eCall dList (eCons (eV 1) eNil)))
    (dSeq (dWhile N (eTru (eV 3)) (dSeq (dSet 4 (eMeth "list" mPop (eV 3) eNil))
    (dIfS (eAnd (eT (eOp dGt (eV 4) (eC (D.int 1)))) (eT (eDIn true (eV 4) (eV 2)))) (dSeq (dPutD (eC (D.bl true)) (eV 2) (eV 4))
    (dSeq (dExpr (eMeth "list" mAppend (eV 3) (eCons (eOp dIx (eFld "Store" "_lows" (eV 0)) (eV 4)) eNil)))
    (dExpr (eMeth "list" mAppend (eV 3) (eCons (eOp dIx (eFld "Store" "_highs" (eV 0)) (eV 4)) eNil))))) dNext)))
    (dRet (eCall dSortedDI (eCons (eV 2) eNil))))))
noncomputable def h_Store_nodes_below_all (N : Nat) : DF := runD 2 5 (b_Store_nodes_below_all N)
theorem ok_Store_nodes_below_all (T : Txt K mg A) (N : Nat) : FnOk P wd K mg base (L2.CX P wd) (1) A.a_Store_nodes_below_all A.d_Store_nodes_below_all ["self", "references"] (spD K mg (h_Store_nodes_below_all N)) := by
  refine d_ok T.t_Store_nodes_below_all.F sc_Store_nodes_below_all (fun cdv AA outer s H E hr tk po => ?_)
  exact (lss_cons (ls_set (i := 2) sc_Store_nodes_below_all.nd rfl (Or.inl rfl) l_dnew)
      (lss_cons (ls_set (i := 3) sc_Store_nodes_below_all.nd rfl (Or.inl rfl) (l_callTy call_list_of o_list (by rfl) T.z_list PyProof.Rows.boot_list (la_cons (lv 1) la_nil)))
      (lss_cons (ls_while N po (lt_truth (lv 3) (by intro _; rfl)) (lss_cons (ls_set (i := 4) sc_Store_nodes_below_all.nd rfl (Or.inl rfl) (l_bm0 PySem.F.plainAttrs_list PySem.F.slot_list_pop PySem.F.type_list_pop mt_pop om_pop (lv 3)))
      (lss_one (ls_if (PW.pt (lw_and (lt_cmp op_gt (o_rel _) (lv 4) l_int (nomark _)) (lw_and1 (lt_dnotin (hu_of hr) (lv 4) (lv 2))))) (lss_cons (ls_putD (hu_of hr) l_bl (lv 2) (lv 4) (by rfl))
      (lss_cons (ls_expr (l_bm PySem.F.plainAttrs_list PySem.F.slot_list_append PySem.F.type_list_append mt_append om_append (lv 3) (la_cons (l_ix ixX o_ix (l_fld T.c_Store T.n_Store__lows (lv 0)) (lv 4) (fun _ _ => rfl)) la_nil)))
      (lss_one (ls_expr (l_bm PySem.F.plainAttrs_list PySem.F.slot_list_append PySem.F.type_list_append mt_append om_append (lv 3) (la_cons (l_ix ixX o_ix (l_fld T.c_Store T.n_Store__highs (lv 0)) (lv 4) (fun _ _ => rfl)) la_nil)))))) lss_nil))))
      (lss_one (ls_ret (l_callB (call_sortedDI rfl) o_sortedDI (by rfl) T.z_sorted (by decide +kernel) (la_cons (lv 2) la_nil)))))))

noncomputable def b_Store_nodes_below (N : Nat) : DS := (dRet (eMet "Store" "nodes_below_all" (h_Store_nodes_below_all N) (eV 0) (eCons (eLst (eCons (eV 1) eNil)) eNil)))
noncomputable def h_Store_nodes_below (N : Nat) : DF := runD 2 2 (b_Store_nodes_below N)
theorem ok_Store_nodes_below (T : Txt K mg A) (N : Nat) : FnOk P wd K mg base (L2.CX P wd) (2) A.a_Store_nodes_below A.d_Store_nodes_below ["self", "a"] (spD K mg (h_Store_nodes_below N)) := by
  have G_Store_nodes_below_all : FnOk P wd K mg base (L2.CX P wd) (1) A.a_Store_nodes_below_all A.d_Store_nodes_below_all ["self", "references"] (spD K mg (h_Store_nodes_below_all N)) := ok_Store_nodes_below_all T N
  refine d_ok T.t_Store_nodes_below.F sc_Store_nodes_below (fun cdv AA outer s H E hr tk po => ?_)
  exact (lss_one (ls_ret (l_met T.c_Store T.t_Store_nodes_below_all.m G_Store_nodes_below_all (hr.mono (by omega)) T.t_Store_nodes_below_all.b tk (lv 0) (la_cons (l_lst (la_cons (lv 1) la_nil)) la_nil))))

noncomputable def b_Store__level_below : DS := (dRet (eIf (eT (eOp dGt (eV 1) (eC (D.int 1)))) (eOp dIx (eFld "Store" "_levels" (eV 0)) (eV 1)) (eV 2)))
noncomputable def h_Store__level_below : DF := runD 3 3 (b_Store__level_below)
theorem ok_Store__level_below (T : Txt K mg A) : FnOk P wd K mg base (L2.CX P wd) (1) A.a_Store__level_below A.d_Store__level_below ["self", "a", "levels"] (spD K mg h_Store__level_below) := by
  refine d_ok T.t_Store__level_below.F sc_Store__level_below (fun cdv AA outer s H E hr tk po => ?_)
  exact (lss_one (ls_ret (l_ifx (lt_cmp op_gt (o_rel _) (lv 1) l_int (nomark _)) (l_ix ixX o_ix (l_fld T.c_Store T.n_Store__levels (lv 0)) (lv 1) (fun _ _ => rfl)) (lv 2))))

noncomputable def b_Store_models (N : Nat) : DS := (dSeq (dSet 3 (eDisp [((eC (D.int 0)), (eC (D.int 0))), ((eC (D.int 1)), (eC (D.int 1)))]))
    (dSeq (dFor (wL (eMet "Store" "nodes_below" (h_Store_nodes_below N) (eV 0) (eCons (eV 1) eNil))) (tgN 4) (dSeq (dPutD (eC (D.int 0)) (eV 3) (eV 4))
    (dFor (wT (eTup (eCons (eOp dIx (eFld "Store" "_lows" (eV 0)) (eV 4)) (eCons (eOp dIx (eFld "Store" "_highs" (eV 0)) (eV 4)) eNil)))) (tgN 5) (dSeq (dSet 6 (eOp dSub (eOp dSub (eMet "Store" "_level_below" h_Store__level_below (eV 0) (eCons (eV 5) (eCons (eV 2) eNil))) (eOp dIx (eFld "Store" "_levels" (eV 0)) (eV 4))) (eC (D.int 1))))
    (dAugD (eV 3) (eV 4) (eOp dShlB (eDGet (eV 3) (eV 5)) (eV 6)))))))
    (dRet (eOp dShlB (eDGet (eV 3) (eV 1)) (eMet "Store" "_level_below" h_Store__level_below (eV 0) (eCons (eV 1) (eCons (eV 2) eNil)))))))
noncomputable def h_Store_models (N : Nat) : DF := runD 3 7 (b_Store_models N)
theorem ok_Store_models (T : Txt K mg A) (N : Nat) : FnOk P wd K mg base (L2.CX P wd) (3) A.a_Store_models A.d_Store_models ["self", "a", "levels"] (spD K mg (h_Store_models N)) := by
  have G_Store_nodes_below : FnOk P wd K mg base (L2.CX P wd) (2) A.a_Store_nodes_below A.d_Store_nodes_below ["self", "a"] (spD K mg (h_Store_nodes_below N)) := ok_Store_nodes_below T N
  have G_Store__level_below : FnOk P wd K mg base (L2.CX P wd) (1) A.a_Store__level_below A.d_Store__level_below ["self", "a", "levels"] (spD K mg h_Store__level_below) := ok_Store__level_below T
  refine d_ok T.t_Store_models.F sc_Store_models (fun cdv AA outer s H E hr tk po => ?_)
  exact (lss_cons (ls_set (i := 3) sc_Store_models.nd rfl (Or.inl rfl) (l_disp (pps_cons l_int l_int (pps_cons l_int l_int pps_nil)) rfl rfl (by simp) (by decide)))
      (lss_cons (ls_for po rfl (pi_list (l_met T.c_Store T.t_Store_nodes_below.m G_Store_nodes_below (hr.mono (by omega)) T.t_Store_nodes_below.b tk (lv 0) (la_cons (lv 1) la_nil))) io_list (pg_name (i := 4) sc_Store_models.nd rfl (Or.inl rfl)) (g_name 4) (lss_cons (ls_putD (hu_of hr) l_int (lv 3) (lv 4) (by rfl))
      (lss_one (ls_for po rfl (pi_tup (l_tup (la_cons (l_ix ixX o_ix (l_fld T.c_Store T.n_Store__lows (lv 0)) (lv 4) (fun _ _ => rfl)) (la_cons (l_ix ixX o_ix (l_fld T.c_Store T.n_Store__highs (lv 0)) (lv 4) (fun _ _ => rfl)) la_nil)))) io_tup (pg_name (i := 5) sc_Store_models.nd rfl (Or.inl rfl)) (g_name 5) (lss_cons (ls_set (i := 6) sc_Store_models.nd rfl (Or.inl rfl) (l_op op_sub o_sub (l_op op_sub o_sub (l_met T.c_Store T.t_Store__level_below.m G_Store__level_below (hr.mono (by omega)) T.t_Store__level_below.b tk (lv 0) (la_cons (lv 5) (la_cons (lv 2) la_nil))) (l_ix ixX o_ix (l_fld T.c_Store T.n_Store__levels (lv 0)) (lv 4) (fun _ _ => rfl))) l_int))
      (lss_one (ls_augD (hu_of hr) (lv 3) (lv 4) (l_op op_shlB o_shlB (l_dget (hu_of hr) (lv 3) (lv 5) (fun _ _ => rfl)) (lv 6)) (fun _ _ _ => rfl))))))))
      (lss_one (ls_ret (l_op op_shlB o_shlB (l_dget (hu_of hr) (lv 3) (lv 1) (fun _ _ => rfl)) (l_met T.c_Store T.t_Store__level_below.m G_Store__level_below (hr.mono (by omega)) T.t_Store__level_below.b tk (lv 0) (la_cons (lv 1) (la_cons (lv 2) la_nil))))))))

noncomputable def b_law_same (rec : DF) : DS := (dSeq (dIfS (eOr (eT (eCall dIsi (eCons (eV 1) (eCons (eC (.ty "tuple")) eNil)))) (eT (eCall dIsi (eCons (eV 1) (eCons (eC (.ty "list")) eNil))))) (dSeq (dIfS (eOr (eT (eOp dNe (eCall dIsi (eCons (eV 1) (eCons (eC (.ty "tuple")) eNil))) (eCall dIsi (eCons (eV 0) (eCons (eC (.ty "tuple")) eNil))))) (eT (eOp dNe (eCall dIsi (eCons (eV 1) (eCons (eC (.ty "list")) eNil))) (eCall dIsi (eCons (eV 0) (eCons (eC (.ty "list")) eNil)))))) (dRet (eC (D.bl false))) dNext)
    (dSeq (dIfS (eT (eOp dNe (eCall dLen (eCons (eV 0) eNil)) (eCall dLen (eCons (eV 1) eNil)))) (dRet (eC (D.bl false))) dNext)
    (dSeq (dFor (wR1 (eCons (eCall dLen (eCons (eV 1) eNil)) eNil)) (tgN 2) (dIfS (eNot (eT (eCall rec (eCons (eOp dIx (eV 0) (eV 2)) (eCons (eOp dIx (eV 1) (eV 2)) eNil))))) (dRet (eC (D.bl false))) dNext))
    (dRet (eC (D.bl true)))))) dNext)
    (dSeq (dIfS (eT (eUn dIsN (eV 1))) (dRet (eUn dIsN (eV 0))) dNext)
    (dSeq (dIfS (eT (eCall dIsi (eCons (eV 1) (eCons (eC (.ty "bool")) eNil)))) (dRet (eAndV (eCall dIsi (eCons (eV 0) (eCons (eC (.ty "bool")) eNil))) (eOp dEq (eV 0) (eV 1)))) dNext)
    (dSeq (dIfS (eT (eCall dIsi (eCons (eV 1) (eCons (eC (.ty "int")) eNil)))) (dRet (eAndV (eCall dIsi (eCons (eV 0) (eCons (eC (.ty "int")) eNil))) (eAndV (eNotV (eCall dIsi (eCons (eV 0) (eCons (eC (.ty "bool")) eNil)))) (eOp dEq (eV 0) (eV 1))))) dNext)
    (dRet (eAndV (eCall dIsi (eCons (eV 0) (eCons (eC (.ty "str")) eNil))) (eOp dEq (eV 0) (eV 1))))))))
noncomputable def h_law_same : Nat → DF
  | 0 => badF
  | n + 1 => runD 2 3 (b_law_same (h_law_same n))
theorem ok_law_same (T : Txt K mg A) : ∀ n : Nat, FnOk P wd K mg base (L2.CX P wd) (0 + 1 * n) A.a_law_same A.d_law_same ["actual", "due"] (spD K mg (h_law_same n))
  | 0 => bad_ok
  | n + 1 => by
    have Frec : FnOk P wd K mg base (L2.CX P wd) (0 + 1 * n) A.a_law_same A.d_law_same ["actual", "due"] (spD K mg (h_law_same n)) := ok_law_same T n
    refine d_ok (k := 0 + 1 * n + 0) T.t_law_same.F sc_law_same (fun cdv AA outer s H E hr tk po => ?_)
    exact (lss_cons (ls_if (PW.pt (lw_or (lt_val (l_callB call_isi o_isi (by rfl) T.z_isinstance PyProof.Rows.boot_isinstance (la_cons (lv 1) (la_cons (l_ty (by rfl) T.z_tuple PyProof.Rows.boot_tuple) la_nil)))) (lw_or1 (lt_val (l_callB call_isi o_isi (by rfl) T.z_isinstance PyProof.Rows.boot_isinstance (la_cons (lv 1) (la_cons (l_ty (by rfl) T.z_list PyProof.Rows.boot_list) la_nil))))))) (lss_cons (ls_if (PW.pt (lw_or (lt_cmp op_ne o_ne (l_callB call_isi o_isi (by rfl) T.z_isinstance PyProof.Rows.boot_isinstance (la_cons (lv 1) (la_cons (l_ty (by rfl) T.z_tuple PyProof.Rows.boot_tuple) la_nil))) (l_callB call_isi o_isi (by rfl) T.z_isinstance PyProof.Rows.boot_isinstance (la_cons (lv 0) (la_cons (l_ty (by rfl) T.z_tuple PyProof.Rows.boot_tuple) la_nil))) (nomark _)) (lw_or1 (lt_cmp op_ne o_ne (l_callB call_isi o_isi (by rfl) T.z_isinstance PyProof.Rows.boot_isinstance (la_cons (lv 1) (la_cons (l_ty (by rfl) T.z_list PyProof.Rows.boot_list) la_nil))) (l_callB call_isi o_isi (by rfl) T.z_isinstance PyProof.Rows.boot_isinstance (la_cons (lv 0) (la_cons (l_ty (by rfl) T.z_list PyProof.Rows.boot_list) la_nil))) (nomark _))))) (lss_one (ls_ret l_bl)) lss_nil)
        (lss_cons (ls_if (lt_cmp op_ne o_ne (l_callB call_lenA o_len (by rfl) T.z_len PySem.boot_len (la_cons (lv 0) la_nil)) (l_callB call_lenA o_len (by rfl) T.z_len PySem.boot_len (la_cons (lv 1) la_nil)) (nomark _)) (lss_one (ls_ret l_bl)) lss_nil)
        (lss_cons (ls_for po rfl (pi_range1 (by rfl) T.z_range (la_cons (l_callB call_lenA o_len (by rfl) T.z_len PySem.boot_len (la_cons (lv 1) la_nil)) la_nil)) io_rng1 (pg_name (i := 2) sc_law_same.nd rfl (Or.inl rfl)) (g_name 2) (lss_one (ls_if (lt_not (lt_val (l_call Frec (hr.mono (by omega)) (by rfl) T.t_law_same.g T.t_law_same.F.kp T.t_law_same.b tk (la_cons (l_ix ixX o_ix (lv 0) (lv 2) (fun _ _ => rfl)) (la_cons (l_ix ixX o_ix (lv 1) (lv 2) (fun _ _ => rfl)) la_nil))))) (lss_one (ls_ret l_bl)) lss_nil)))
        (lss_one (ls_ret l_bl))))) lss_nil)
        (lss_cons (ls_if (lt_isN (lv 1)) (lss_one (ls_ret (l_isN (lv 0)))) lss_nil)
        (lss_cons (ls_if (lt_val (l_callB call_isi o_isi (by rfl) T.z_isinstance PyProof.Rows.boot_isinstance (la_cons (lv 1) (la_cons (l_ty (by rfl) T.z_bool PyProof.Rows.boot_bool) la_nil)))) (lss_one (ls_ret (l_and (l_callB call_isi o_isi (by rfl) T.z_isinstance PyProof.Rows.boot_isinstance (la_cons (lv 0) (la_cons (l_ty (by rfl) T.z_bool PyProof.Rows.boot_bool) la_nil))) (l_one (l_cmp op_eq o_eq (lv 0) (lv 1) (nomark _)))))) lss_nil)
        (lss_cons (ls_if (lt_val (l_callB call_isi o_isi (by rfl) T.z_isinstance PyProof.Rows.boot_isinstance (la_cons (lv 1) (la_cons (l_ty (by rfl) T.z_int PyProof.Rows.boot_int) la_nil)))) (lss_one (ls_ret (l_and (l_callB call_isi o_isi (by rfl) T.z_isinstance PyProof.Rows.boot_isinstance (la_cons (lv 0) (la_cons (l_ty (by rfl) T.z_int PyProof.Rows.boot_int) la_nil))) (l_and (l_not (l_callB call_isi o_isi (by rfl) T.z_isinstance PyProof.Rows.boot_isinstance (la_cons (lv 0) (la_cons (l_ty (by rfl) T.z_bool PyProof.Rows.boot_bool) la_nil)))) (l_one (l_cmp op_eq o_eq (lv 0) (lv 1) (nomark _))))))) lss_nil)
        (lss_one (ls_ret (l_and (l_callB call_isi o_isi (by rfl) T.z_isinstance PyProof.Rows.boot_isinstance (la_cons (lv 0) (la_cons (l_ty (by rfl) T.z_str PyProof.Rows.boot_str) la_nil))) (l_one (l_cmp op_eq o_eq (lv 0) (lv 1) (nomark _))))))))))

noncomputable def b_law_pool : DS := (dSeq (dSet 1 (eC (D.int 7)))
    (dSeq (dFor (wL (eSl (eV 0) eNo (eSo (eC (D.int 63))))) (tgN 2) (dSet 1 (eOp dMod (eCall dInt (eCons (eOp dAdd (eOp dMul (eV 1) (eC (D.int 31))) (eV 2)) eNil)) (eC (D.int 1000003)))))
    (dRet (eLst (eCons (eCall dList (eCons (eV 0) eNil)) (eCons (eC (D.int 0)) (eCons (eC (D.int 0)) (eCons (eC (D.int 0)) (eCons (eV 1) eNil)))))))))
noncomputable def h_law_pool : DF := runD 1 3 (b_law_pool)
theorem ok_law_pool (T : Txt K mg A) : FnOk P wd K mg base (L2.CX P wd) (1) A.a_law_pool A.d_law_pool ["script"] (spD K mg h_law_pool) := by
  refine d_ok T.t_law_pool.F sc_law_pool (fun cdv AA outer s H E hr tk po => ?_)
  exact (lss_cons (ls_set (i := 1) sc_law_pool.nd rfl (Or.inl rfl) l_int)
      (lss_cons (ls_for po rfl (pi_list (l_slice slX (lv 0) lo_none (lo_some l_int))) io_list (pg_name (i := 2) sc_law_pool.nd rfl (Or.inl rfl)) (g_name 2) (lss_one (ls_set (i := 1) sc_law_pool.nd rfl (Or.inl rfl) (l_op op_modN o_mod (l_callTy call_int1 o_int (by rfl) T.z_int PyProof.Rows.boot_int (la_cons (l_op op_addA o_add (l_op op_mulA o_mul (lv 1) l_int) (lv 2)) la_nil)) l_int))))
      (lss_one (ls_ret (l_lst (la_cons (l_callTy call_list_of o_list (by rfl) T.z_list PyProof.Rows.boot_list (la_cons (lv 0) la_nil)) (la_cons l_int (la_cons l_int (la_cons l_int (la_cons (lv 1) la_nil))))))))))

noncomputable def b_law_spread : DS := (dSeq (dSet 1 (eOp dMod (eCall dInt (eCons (eV 0) eNil)) (eC (D.int 2147483647))))
    (dSeq (dSet 2 (eC (D.int 1)))
    (dSeq (dFor (wR1 (eCons (eC (D.int 4)) eNil)) (tgN 3) (dSeq (dSet 1 (eOp dMod (eCall dInt (eCons (eOp dAdd (eOp dAdd (eOp dMul (eV 1) (eC (D.int 48271))) (eC (D.int 12345))) (eV 3)) eNil)) (eC (D.int 2147483647))))
    (dSet 2 (eOp dAdd (eOp dMul (eV 2) (eC (D.int 2147483647))) (eV 1)))))
    (dRet (eV 2)))))
noncomputable def h_law_spread : DF := runD 1 4 (b_law_spread)
theorem ok_law_spread (T : Txt K mg A) : FnOk P wd K mg base (L2.CX P wd) (1) A.a_law_spread A.d_law_spread ["cell"] (spD K mg h_law_spread) := by
  refine d_ok T.t_law_spread.F sc_law_spread (fun cdv AA outer s H E hr tk po => ?_)
  exact (lss_cons (ls_set (i := 1) sc_law_spread.nd rfl (Or.inl rfl) (l_op op_modN o_mod (l_callTy call_int1 o_int (by rfl) T.z_int PyProof.Rows.boot_int (la_cons (lv 0) la_nil)) l_int))
      (lss_cons (ls_set (i := 2) sc_law_spread.nd rfl (Or.inl rfl) l_int)
      (lss_cons (ls_for po rfl (pi_range1 (by rfl) T.z_range (la_cons l_int la_nil)) io_rng1 (pg_name (i := 3) sc_law_spread.nd rfl (Or.inl rfl)) (g_name 3) (lss_cons (ls_set (i := 1) sc_law_spread.nd rfl (Or.inl rfl) (l_op op_modN o_mod (l_callTy call_int1 o_int (by rfl) T.z_int PyProof.Rows.boot_int (la_cons (l_op op_addA o_add (l_op op_addA o_add (l_op op_mulA o_mul (lv 1) l_int) l_int) (lv 3)) la_nil)) l_int))
      (lss_one (ls_set (i := 2) sc_law_spread.nd rfl (Or.inl rfl) (l_op op_addA o_add (l_op op_mulA o_mul (lv 2) l_int) (lv 1))))))
      (lss_one (ls_ret (lv 2))))))

noncomputable def b_law_draw : DS := (dSeq (dIfS (eAnd (eT (eOp dLe (eOp dIx (eV 0) (eC (D.int 2))) (eC (D.int 0)))) (eT (eOp dLt (eOp dIx (eV 0) (eC (D.int 1))) (eCall dLen (eCons (eOp dIx (eV 0) (eC (D.int 0))) eNil))))) (dSeq (dSet 2 (eOp dIx (eOp dIx (eV 0) (eC (D.int 0))) (eOp dIx (eV 0) (eC (D.int 1)))))
    (dSeq (dPutL (eOp dAdd (eOp dIx (eV 0) (eC (D.int 1))) (eC (D.int 1))) (eV 0) (eC (D.int 1)))
    (dSeq (dPutL (eV 2) (eV 0) (eC (D.int 2)))
    (dIfS (eT (eOp dLt (eV 2) (eC (D.int 1000000000000000000)))) (dPutL (eCall h_law_spread (eCons (eV 2) eNil)) (eV 0) (eC (D.int 2))) dNext)))) dNext)
    (dSeq (dPutL (eOp dAdd (eOp dIx (eV 0) (eC (D.int 3))) (eC (D.int 1))) (eV 0) (eC (D.int 3)))
    (dSeq (dIfS (eT (eOp dLe (eOp dIx (eV 0) (eC (D.int 2))) (eC (D.int 0)))) (dSeq (dSet 3 (eOp dMod (eCall dInt (eCons (eOp dAdd (eOp dAdd (eOp dMul (eOp dIx (eV 0) (eC (D.int 4))) (eC (D.int 48271))) (eOp dMul (eOp dIx (eV 0) (eC (D.int 3))) (eC (D.int 69621)))) (eC (D.int 1))) eNil)) (eC (D.int 2147483647))))
    (dSeq (dSet 3 (eOp dMod (eCall dInt (eCons (eOp dAdd (eOp dMul (eV 3) (eC (D.int 16807))) (eOp dIx (eV 0) (eC (D.int 3)))) eNil)) (eC (D.int 2147483629))))
    (dRet (eOp dMod (eOp dDiv (eV 3) (eC (D.int 5))) (eV 1))))) dNext)
    (dSeq (dSet 4 (eOp dMod (eCall dInt (eCons (eOp dIx (eV 0) (eC (D.int 2))) eNil)) (eV 1)))
    (dSeq (dPutL (eOp dDiv (eOp dIx (eV 0) (eC (D.int 2))) (eV 1)) (eV 0) (eC (D.int 2)))
    (dRet (eV 4)))))))
noncomputable def h_law_draw : DF := runD 2 5 (b_law_draw)
theorem ok_law_draw (T : Txt K mg A) : FnOk P wd K mg base (L2.CX P wd) (2) A.a_law_draw A.d_law_draw ["pool", "many"] (spD K mg h_law_draw) := by
  have G_law_spread : FnOk P wd K mg base (L2.CX P wd) (1) A.a_law_spread A.d_law_spread ["cell"] (spD K mg h_law_spread) := ok_law_spread T
  refine d_ok T.t_law_draw.F sc_law_draw (fun cdv AA outer s H E hr tk po => ?_)
  exact (lss_cons (ls_if (PW.pt (lw_and (lt_cmp op_le (o_rel _) (l_ix ixX o_ix (lv 0) l_int (fun _ _ => rfl)) l_int (nomark _)) (lw_and1 (lt_cmp op_lt (o_rel _) (l_ix ixX o_ix (lv 0) l_int (fun _ _ => rfl)) (l_callB call_lenA o_len (by rfl) T.z_len PySem.boot_len (la_cons (l_ix ixX o_ix (lv 0) l_int (fun _ _ => rfl)) la_nil)) (nomark _))))) (lss_cons (ls_set (i := 2) sc_law_draw.nd rfl (Or.inl rfl) (l_ix ixX o_ix (l_ix ixX o_ix (lv 0) l_int (fun _ _ => rfl)) (l_ix ixX o_ix (lv 0) l_int (fun _ _ => rfl)) (fun _ _ => rfl)))
      (lss_cons (ls_putL (l_op op_addA o_add (l_ix ixX o_ix (lv 0) l_int (fun _ _ => rfl)) l_int) (lv 0) l_int (pg_sub (lv 0) l_int set_list))
      (lss_cons (ls_putL (lv 2) (lv 0) l_int (pg_sub (lv 0) l_int set_list))
      (lss_one (ls_if (lt_cmp op_lt (o_rel _) (lv 2) l_int (nomark _)) (lss_one (ls_putL (l_call G_law_spread (hr.mono (by omega)) (by rfl) T.t_law_spread.g T.t_law_spread.F.kp T.t_law_spread.b tk (la_cons (lv 2) la_nil)) (lv 0) l_int (pg_sub (lv 0) l_int set_list))) lss_nil))))) lss_nil)
      (lss_cons (ls_putL (l_op op_addA o_add (l_ix ixX o_ix (lv 0) l_int (fun _ _ => rfl)) l_int) (lv 0) l_int (pg_sub (lv 0) l_int set_list))
      (lss_cons (ls_if (lt_cmp op_le (o_rel _) (l_ix ixX o_ix (lv 0) l_int (fun _ _ => rfl)) l_int (nomark _)) (lss_cons (ls_set (i := 3) sc_law_draw.nd rfl (Or.inl rfl) (l_op op_modN o_mod (l_callTy call_int1 o_int (by rfl) T.z_int PyProof.Rows.boot_int (la_cons (l_op op_addA o_add (l_op op_addA o_add (l_op op_mulA o_mul (l_ix ixX o_ix (lv 0) l_int (fun _ _ => rfl)) l_int) (l_op op_mulA o_mul (l_ix ixX o_ix (lv 0) l_int (fun _ _ => rfl)) l_int)) l_int) la_nil)) l_int))
      (lss_cons (ls_set (i := 3) sc_law_draw.nd rfl (Or.inl rfl) (l_op op_modN o_mod (l_callTy call_int1 o_int (by rfl) T.z_int PyProof.Rows.boot_int (la_cons (l_op op_addA o_add (l_op op_mulA o_mul (lv 3) l_int) (l_ix ixX o_ix (lv 0) l_int (fun _ _ => rfl))) la_nil)) l_int))
      (lss_one (ls_ret (l_op op_modN o_mod (l_op op_fdivG o_div (lv 3) l_int) (lv 1)))))) lss_nil)
      (lss_cons (ls_set (i := 4) sc_law_draw.nd rfl (Or.inl rfl) (l_op op_modN o_mod (l_callTy call_int1 o_int (by rfl) T.z_int PyProof.Rows.boot_int (la_cons (l_ix ixX o_ix (lv 0) l_int (fun _ _ => rfl)) la_nil)) (lv 1)))
      (lss_cons (ls_putL (l_op op_fdivG o_div (l_ix ixX o_ix (lv 0) l_int (fun _ _ => rfl)) (lv 1)) (lv 0) l_int (pg_sub (lv 0) l_int set_list))
      (lss_one (ls_ret (lv 4))))))))

noncomputable def b_law_levels : DS := (dSeq (dSet 2 (eLst eNil))
    (dSeq (dSet 3 (eCall h_law_draw (eCons (eV 0) (eCons (eC (D.int 3)) eNil))))
    (dSeq (dFor (wR1 (eCons (eV 1) eNil)) (tgN 4) (dSeq (dExpr (eMeth "list" mAppend (eV 2) (eCons (eV 3) eNil)))
    (dSet 3 (eOp dAdd (eOp dAdd (eV 3) (eC (D.int 1))) (eOp dIx (eTup (eCons (eC (D.int 0)) (eCons (eC (D.int 0)) (eCons (eC (D.int 0)) (eCons (eC (D.int 1)) (eCons (eC (D.int 5)) eNil)))))) (eCall h_law_draw (eCons (eV 0) (eCons (eC (D.int 5)) eNil))))))))
    (dRet (eV 2)))))
noncomputable def h_law_levels : DF := runD 2 5 (b_law_levels)
theorem ok_law_levels (T : Txt K mg A) : FnOk P wd K mg base (L2.CX P wd) (3) A.a_law_levels A.d_law_levels ["pool", "many"] (spD K mg h_law_levels) := by
  have G_law_draw : FnOk P wd K mg base (L2.CX P wd) (2) A.a_law_draw A.d_law_draw ["pool", "many"] (spD K mg h_law_draw) := ok_law_draw T
  refine d_ok T.t_law_levels.F sc_law_levels (fun cdv AA outer s H E hr tk po => ?_)
  exact (lss_cons (ls_set (i := 2) sc_law_levels.nd rfl (Or.inl rfl) (l_lst la_nil))
      (lss_cons (ls_set (i := 3) sc_law_levels.nd rfl (Or.inl rfl) (l_call G_law_draw (hr.mono (by omega)) (by rfl) T.t_law_draw.g T.t_law_draw.F.kp T.t_law_draw.b tk (la_cons (lv 0) (la_cons l_int la_nil))))
      (lss_cons (ls_for po rfl (pi_range1 (by rfl) T.z_range (la_cons (lv 1) la_nil)) io_rng1 (pg_name (i := 4) sc_law_levels.nd rfl (Or.inl rfl)) (g_name 4) (lss_cons (ls_expr (l_bm PySem.F.plainAttrs_list PySem.F.slot_list_append PySem.F.type_list_append mt_append om_append (lv 2) (la_cons (lv 3) la_nil)))
      (lss_one (ls_set (i := 3) sc_law_levels.nd rfl (Or.inl rfl) (l_op op_addA o_add (l_op op_addA o_add (lv 3) l_int) (l_ix ixX o_ix (l_tup (la_cons l_int (la_cons l_int (la_cons l_int (la_cons l_int (la_cons l_int la_nil)))))) (l_call G_law_draw (hr.mono (by omega)) (by rfl) T.t_law_draw.g T.t_law_draw.F.kp T.t_law_draw.b tk (la_cons (lv 0) (la_cons l_int la_nil))) (fun _ _ => rfl)))))))
      (lss_one (ls_ret (lv 2))))))

noncomputable def b_law_coin : DS := (dRet (dComp (wR1 (eCons (eOp dShl (eC (D.int 1)) (eV 0)) eNil)) (tgN 2) [2] (fun _ S => .ok true S) (eOp dEq (eOp dAndI (eOp dShr (eV 2) (eV 1)) (eC (D.int 1))) (eC (D.int 1)))))
noncomputable def h_law_coin : DF := runD 2 3 (b_law_coin)
theorem ok_law_coin (T : Txt K mg A) : FnOk P wd K mg base (L2.CX P wd) (1) A.a_law_coin A.d_law_coin ["many", "k"] (spD K mg h_law_coin) := by
  refine d_ok T.t_law_coin.F sc_law_coin (fun cdv AA outer s H E hr tk po => ?_)
  exact (lss_one (ls_ret (l_comp (own := [("index", 2)]) (by rfl) sc_law_coin.nd (pi_range1 (by rfl) T.z_range (la_cons (l_op op_shl o_shl l_int (lv 0)) la_nil)) io_rng1 (blkOk_by (own := [("index", 2)]) (N := ["many", "k", "index"]) (sc := defScope s_law_coin) (by decide +kernel)) (fun _ _ _ _ _ => (pg_name (i := 2) sc_law_coin.nd rfl ((by first | exact Or.inl rfl | exact Or.inr rfl)))) (g_name 2) (by decide) (fun _ _ _ _ _ => lts_nil) (fun _ _ _ _ _ => (l_cmp op_eq o_eq (l_op op_and o_andI (l_op op_shr o_shr (lv 2) (lv 1)) l_int) l_int (nomark _))))))

noncomputable def b_law_mixed : DS := (dRet (dComp (wR1 (eCons (eCall dLen (eCons (eV 0) eNil)) eNil)) (tgN 3) [3] (fun _ S => .ok true S) (eIf (eT (eOp dIx (eV 0) (eV 3))) (eOp dIx (eV 1) (eV 3)) (eOp dIx (eV 2) (eV 3)))))
noncomputable def h_law_mixed : DF := runD 3 4 (b_law_mixed)
theorem ok_law_mixed (T : Txt K mg A) : FnOk P wd K mg base (L2.CX P wd) (1) A.a_law_mixed A.d_law_mixed ["test", "first", "second"] (spD K mg h_law_mixed) := by
  refine d_ok T.t_law_mixed.F sc_law_mixed (fun cdv AA outer s H E hr tk po => ?_)
  exact (lss_one (ls_ret (l_comp (own := [("k", 3)]) (by rfl) sc_law_mixed.nd (pi_range1 (by rfl) T.z_range (la_cons (l_callB call_lenA o_len (by rfl) T.z_len PySem.boot_len (la_cons (lv 0) la_nil)) la_nil)) io_rng1 (blkOk_by (own := [("k", 3)]) (N := ["test", "first", "second", "k"]) (sc := defScope s_law_mixed) (by decide +kernel)) (fun _ _ _ _ _ => (pg_name (i := 3) sc_law_mixed.nd rfl ((by first | exact Or.inl rfl | exact Or.inr rfl)))) (g_name 3) (by decide) (fun _ _ _ _ _ => lts_nil) (fun _ _ _ _ _ => (l_ifx (lt_val (l_ix ixX o_ix (lv 0) (lv 3) (fun _ _ => rfl))) (l_ix ixX o_ix (lv 1) (lv 3) (fun _ _ => rfl)) (l_ix ixX o_ix (lv 2) (lv 3) (fun _ _ => rfl)))))))

noncomputable def b_law_halves : DS := (dSeq (dSet 3 (dComp (wR1 (eCons (eOp dShl (eC (D.int 1)) (eV 2)) eNil)) (tgN 5) [5] (fun _ S => .ok true S) (eOp dIx (eV 0) (eOp dAndI (eV 5) (eOp dSub (eOp dSub (eOp dShl (eC (D.int 1)) (eV 2)) (eC (D.int 1))) (eOp dShl (eC (D.int 1)) (eV 1)))))))
    (dSeq (dSet 4 (dComp (wR1 (eCons (eOp dShl (eC (D.int 1)) (eV 2)) eNil)) (tgN 5) [5] (fun _ S => .ok true S) (eOp dIx (eV 0) (eOp dOrI (eV 5) (eOp dShl (eC (D.int 1)) (eV 1))))))
    (dRet (eLst (eCons (eV 3) (eCons (eV 4) eNil))))))
noncomputable def h_law_halves : DF := runD 3 6 (b_law_halves)
theorem ok_law_halves (T : Txt K mg A) : FnOk P wd K mg base (L2.CX P wd) (1) A.a_law_halves A.d_law_halves ["table", "k", "many"] (spD K mg h_law_halves) := by
  refine d_ok T.t_law_halves.F sc_law_halves (fun cdv AA outer s H E hr tk po => ?_)
  exact (lss_cons (ls_setComp (i := 3) (own := [("index", 5)]) (by rfl) sc_law_halves.nd (by rfl) (by rfl) (sw_true rfl rfl rfl (by decide +kernel)) (pi_range1 (by rfl) T.z_range (la_cons (l_op op_shl o_shl l_int (lv 2)) la_nil)) io_rng1 (blkOk_by (own := [("index", 5)]) (N := ["table", "k", "many", "low", "high", "index"]) (sc := defScope s_law_halves) (by decide +kernel)) (fun _ _ _ _ _ => (pg_name (i := 5) sc_law_halves.nd rfl ((by first | exact Or.inl rfl | exact Or.inr rfl)))) (g_name 5) (by decide) (fun _ _ _ _ _ => lts_nil) (fun _ _ _ _ _ => (l_ix ixX o_ix (lv 0) (l_op op_and o_andI (lv 5) (l_op op_sub o_sub (l_op op_sub o_sub (l_op op_shl o_shl l_int (lv 2)) l_int) (l_op op_shl o_shl l_int (lv 1)))) (fun _ _ => rfl))))
      (lss_cons (ls_setComp (i := 4) (own := [("index", 5)]) (by rfl) sc_law_halves.nd (by rfl) (by rfl) (sw_true rfl rfl rfl (by decide +kernel)) (pi_range1 (by rfl) T.z_range (la_cons (l_op op_shl o_shl l_int (lv 2)) la_nil)) io_rng1 (blkOk_by (own := [("index", 5)]) (N := ["table", "k", "many", "low", "high", "index"]) (sc := defScope s_law_halves) (by decide +kernel)) (fun _ _ _ _ _ => (pg_name (i := 5) sc_law_halves.nd rfl ((by first | exact Or.inl rfl | exact Or.inr rfl)))) (g_name 5) (by decide) (fun _ _ _ _ _ => lts_nil) (fun _ _ _ _ _ => (l_ix ixX o_ix (lv 0) (l_op op_or o_orI (lv 5) (l_op op_shl o_shl l_int (lv 1))) (fun _ _ => rfl))))
      (lss_one (ls_ret (l_lst (la_cons (lv 3) (la_cons (lv 4) la_nil)))))))

noncomputable def b_law_needs : DS := (dSeq (dSet 2 (eLst eNil))
    (dSeq (dFor (wR1 (eCons (eV 1) eNil)) (tgN 3) (dSeq (dSet 4 (eCall h_law_halves (eCons (eV 0) (eCons (eV 3) (eCons (eV 1) eNil)))))
    (dIfS (eT (eOp (dEqP true) (eOp dIx (eV 4) (eC (D.int 0))) (eOp dIx (eV 4) (eC (D.int 1))))) (dExpr (eMeth "list" mAppend (eV 2) (eCons (eV 3) eNil))) dNext)))
    (dRet (eV 2))))
noncomputable def h_law_needs : DF := runD 2 5 (b_law_needs)
theorem ok_law_needs (T : Txt K mg A) : FnOk P wd K mg base (L2.CX P wd) (2) A.a_law_needs A.d_law_needs ["table", "many"] (spD K mg h_law_needs) := by
  have G_law_halves : FnOk P wd K mg base (L2.CX P wd) (1) A.a_law_halves A.d_law_halves ["table", "k", "many"] (spD K mg h_law_halves) := ok_law_halves T
  refine d_ok T.t_law_needs.F sc_law_needs (fun cdv AA outer s H E hr tk po => ?_)
  exact (lss_cons (ls_set (i := 2) sc_law_needs.nd rfl (Or.inl rfl) (l_lst la_nil))
      (lss_cons (ls_for po rfl (pi_range1 (by rfl) T.z_range (la_cons (lv 1) la_nil)) io_rng1 (pg_name (i := 3) sc_law_needs.nd rfl (Or.inl rfl)) (g_name 3) (lss_cons (ls_set (i := 4) sc_law_needs.nd rfl (Or.inl rfl) (l_call G_law_halves (hr.mono (by omega)) (by rfl) T.t_law_halves.g T.t_law_halves.F.kp T.t_law_halves.b tk (la_cons (lv 0) (la_cons (lv 3) (la_cons (lv 1) la_nil)))))
      (lss_one (ls_if (lt_cmp (op_neD hr.units) o_neP (l_ix ixX o_ix (lv 4) l_int (fun _ _ => rfl)) (l_ix ixX o_ix (lv 4) l_int (fun _ _ => rfl)) (nomark _)) (lss_one (ls_expr (l_bm PySem.F.plainAttrs_list PySem.F.slot_list_append PySem.F.type_list_append mt_append om_append (lv 2) (la_cons (lv 3) la_nil)))) lss_nil))))
      (lss_one (ls_ret (lv 2)))))

noncomputable def b_law_deed (N : Nat) : DS := (dSeq (dSet 5 (eCall dLen (eCons (eV 4) eNil)))
    (dSeq (dSet 6 (eCall h_law_draw (eCons (eV 0) (eCons (eC (D.int 9)) eNil))))
    (dSeq (dSet 8 (dComp (wR1 (eCons (eC (D.int 3)) eNil)) (tgN 7) [7] (fun _ S => .ok true S) (eCall h_law_draw (eCons (eV 0) (eCons (eCall dLen (eCons (eV 2) eNil)) eNil)))))
    (dSeq (dSet 9 (eOp dIx (eV 2) (eOp dIx (eV 8) (eC (D.int 0)))))
    (dSeq (dSet 10 (eOp dIx (eV 2) (eOp dIx (eV 8) (eC (D.int 1)))))
    (dSeq (dSet 11 (eOp dIx (eV 3) (eOp dIx (eV 8) (eC (D.int 0)))))
    (dSeq (dSet 12 (eOp dIx (eV 3) (eOp dIx (eV 8) (eC (D.int 1)))))
    (dSeq (dSet 13 (eOp dMulL (eLst (eCons (eC (D.bl false)) eNil)) (eCall dLen (eCons (eV 11) eNil))))
    (dSeq (dSet 14 (eOp dMulL (eLst (eCons (eC (D.bl true)) eNil)) (eCall dLen (eCons (eV 11) eNil))))
    (dSeq (dIfS (eT (eOp dEq (eV 6) (eC (D.int 0)))) (dRet (eTup (eCons (eMet "Store" "negate" (h_Store_negate N) (eV 1) (eCons (eV 9) eNil)) (eCons (eCall h_law_mixed (eCons (eV 11) (eCons (eV 13) (eCons (eV 14) eNil)))) eNil)))) dNext)
    (dSeq (dIfS (eT (eOp dEq (eV 6) (eC (D.int 1)))) (dRet (eTup (eCons (eMet "Store" "both" (h_Store_both N) (eV 1) (eCons (eV 9) (eCons (eV 10) eNil))) (eCons (eCall h_law_mixed (eCons (eV 11) (eCons (eV 12) (eCons (eV 13) eNil)))) eNil)))) dNext)
    (dSeq (dIfS (eT (eOp dEq (eV 6) (eC (D.int 2)))) (dRet (eTup (eCons (eMet "Store" "either" (h_Store_either N) (eV 1) (eCons (eV 9) (eCons (eV 10) eNil))) (eCons (eCall h_law_mixed (eCons (eV 11) (eCons (eV 14) (eCons (eV 12) eNil)))) eNil)))) dNext)
    (dSeq (dIfS (eT (eOp dEq (eV 6) (eC (D.int 3)))) (dRet (eTup (eCons (eMet "Store" "without" (h_Store_without N) (eV 1) (eCons (eV 9) (eCons (eV 10) eNil))) (eCons (eCall h_law_mixed (eCons (eV 12) (eCons (eV 13) (eCons (eV 11) eNil)))) eNil)))) dNext)
    (dSeq (dIfS (eT (eOp dEq (eV 6) (eC (D.int 4)))) (dSeq (dSet 15 (dComp (wR1 (eCons (eCall h_law_draw (eCons (eV 0) (eCons (eC (D.int 4)) eNil))) eNil)) (tgN 7) [7] (fun _ S => .ok true S) (eCall h_law_draw (eCons (eV 0) (eCons (eCall dLen (eCons (eV 2) eNil)) eNil)))))
    (dSeq (dSet 16 (eCall dList (eCons (eV 13) eNil)))
    (dSeq (dFor (wL (eV 15)) (tgN 7) (dSet 16 (eCall h_law_mixed (eCons (eV 16) (eCons (eV 14) (eCons (eOp dIx (eV 3) (eV 7)) eNil))))))
    (dRet (eTup (eCons (eMet "Store" "either_of" (h_Store_either_of N) (eV 1) (eCons (dComp (wL (eV 15)) (tgN 7) [7] (fun _ S => .ok true S) (eOp dIx (eV 2) (eV 7))) eNil)) (eCons (eV 16) eNil))))))) dNext)
    (dSeq (dIfS (eAnd (eT (eOp dEq (eV 6) (eC (D.int 5)))) (eT (eOp dGt (eV 5) (eC (D.int 0))))) (dSeq (dSet 7 (eCall h_law_draw (eCons (eV 0) (eCons (eV 5) eNil))))
    (dRet (eTup (eCons (eMet "Store" "coin" h_Store_coin (eV 1) (eCons (eOp dIx (eV 4) (eV 7)) eNil)) (eCons (eCall h_law_coin (eCons (eV 5) (eCons (eV 7) eNil))) eNil))))) dNext)
    (dSeq (dIfS (eAnd (eT (eOp dEq (eV 6) (eC (D.int 6)))) (eT (eOp dGt (eV 5) (eC (D.int 0))))) (dSeq (dSet 7 (eCall h_law_draw (eCons (eV 0) (eCons (eV 5) eNil))))
    (dSeq (dSet 17 (dComp (wR1 (eCons (eCall dLen (eCons (eV 3) eNil)) eNil)) (tgN 20) [20] (eT (eOp dEq (eCall dLen (eCons (dComp (wL (eCall h_law_needs (eCons (eOp dIx (eV 3) (eV 20)) (eCons (eV 5) eNil)))) (tgN 21) [21] (eT (eOp dLe (eV 21) (eV 7))) (eV 21)) eNil)) (eC (D.int 0)))) (eV 20)))
    (dSeq (dSet 18 (eOp dIx (eV 17) (eCall h_law_draw (eCons (eV 0) (eCons (eCall dLen (eCons (eV 17) eNil)) eNil)))))
    (dSeq (dSet 19 (eOp dIx (eV 17) (eCall h_law_draw (eCons (eV 0) (eCons (eCall dLen (eCons (eV 17) eNil)) eNil)))))
    (dRet (eTup (eCons (eMet "Store" "node" h_Store_node (eV 1) (eCons (eOp dIx (eV 4) (eV 7)) (eCons (eOp dIx (eV 2) (eV 18)) (eCons (eOp dIx (eV 2) (eV 19)) eNil)))) (eCons (eCall h_law_mixed (eCons (eCall h_law_coin (eCons (eV 5) (eCons (eV 7) eNil))) (eCons (eOp dIx (eV 3) (eV 19)) (eCons (eOp dIx (eV 3) (eV 18)) eNil)))) eNil)))))))) dNext)
    (dRet (eTup (eCons (eMet "Store" "choose" (h_Store_choose N) (eV 1) (eCons (eOp dIx (eV 2) (eOp dIx (eV 8) (eC (D.int 2)))) (eCons (eV 9) (eCons (eV 10) eNil)))) (eCons (eCall h_law_mixed (eCons (eOp dIx (eV 3) (eOp dIx (eV 8) (eC (D.int 2)))) (eCons (eV 11) (eCons (eV 12) eNil)))) eNil))))))))))))))))))))
noncomputable def h_law_deed (N : Nat) : DF := runD 5 22 (b_law_deed N)
theorem ok_law_deed (T : Txt K mg A) (N : Nat) : FnOk P wd K mg base (L2.CX P wd) (5) A.a_law_deed A.d_law_deed ["pool", "store", "refs", "tables", "levels"] (spD K mg (h_law_deed N)) := by
  have G_Store_node : FnOk P wd K mg base (L2.CX P wd) (1) A.a_Store_node A.d_Store_node ["self", "level", "low", "high"] (spD K mg h_Store_node) := ok_Store_node T
  have G_Store_coin : FnOk P wd K mg base (L2.CX P wd) (2) A.a_Store_coin A.d_Store_coin ["self", "level"] (spD K mg h_Store_coin) := ok_Store_coin T
  have G_Store_choose : FnOk P wd K mg base (L2.CX P wd) (2) A.a_Store_choose A.d_Store_choose ["self", "c", "a", "b"] (spD K mg (h_Store_choose N)) := ok_Store_choose T N
  have G_Store_negate : FnOk P wd K mg base (L2.CX P wd) (3) A.a_Store_negate A.d_Store_negate ["self", "a"] (spD K mg (h_Store_negate N)) := ok_Store_negate T N
  have G_Store_both : FnOk P wd K mg base (L2.CX P wd) (3) A.a_Store_both A.d_Store_both ["self", "a", "b"] (spD K mg (h_Store_both N)) := ok_Store_both T N
  have G_Store_either : FnOk P wd K mg base (L2.CX P wd) (3) A.a_Store_either A.d_Store_either ["self", "a", "b"] (spD K mg (h_Store_either N)) := ok_Store_either T N
  have G_Store_without : FnOk P wd K mg base (L2.CX P wd) (3) A.a_Store_without A.d_Store_without ["self", "a", "b"] (spD K mg (h_Store_without N)) := ok_Store_without T N
  have G_Store_either_of : FnOk P wd K mg base (L2.CX P wd) (4) A.a_Store_either_of A.d_Store_either_of ["self", "references"] (spD K mg (h_Store_either_of N)) := ok_Store_either_of T N
  have G_law_draw : FnOk P wd K mg base (L2.CX P wd) (2) A.a_law_draw A.d_law_draw ["pool", "many"] (spD K mg h_law_draw) := ok_law_draw T
  have G_law_coin : FnOk P wd K mg base (L2.CX P wd) (1) A.a_law_coin A.d_law_coin ["many", "k"] (spD K mg h_law_coin) := ok_law_coin T
  have G_law_mixed : FnOk P wd K mg base (L2.CX P wd) (1) A.a_law_mixed A.d_law_mixed ["test", "first", "second"] (spD K mg h_law_mixed) := ok_law_mixed T
  have G_law_needs : FnOk P wd K mg base (L2.CX P wd) (2) A.a_law_needs A.d_law_needs ["table", "many"] (spD K mg h_law_needs) := ok_law_needs T
  refine d_ok T.t_law_deed.F sc_law_deed (fun cdv AA outer s H E hr tk po => ?_)
  exact (lss_cons (ls_set (i := 5) sc_law_deed.nd rfl (Or.inr rfl) (l_callB call_lenA o_len (by rfl) T.z_len PySem.boot_len (la_cons (lv 4) la_nil)))
      (lss_cons (ls_set (i := 6) sc_law_deed.nd rfl (Or.inl rfl) (l_call G_law_draw (hr.mono (by omega)) (by rfl) T.t_law_draw.g T.t_law_draw.F.kp T.t_law_draw.b tk (la_cons (lv 0) (la_cons l_int la_nil))))
      (lss_cons (ls_setComp (i := 8) (own := [("k", 7)]) (by rfl) sc_law_deed.nd (by rfl) (by rfl) (sw_true rfl rfl rfl (by decide +kernel)) (pi_range1 (by rfl) T.z_range (la_cons l_int la_nil)) io_rng1 (blkOk_by (own := [("k", 7)]) (N := ["pool", "store", "refs", "tables", "levels", "many", "turn", "k", "at", "a", "b", "one", "two", "none", "whole", "rows", "total", "fit", "low", "high", "j", "n"]) (sc := defScope s_law_deed) (by decide +kernel)) (fun _ _ _ _ _ => (pg_name (i := 7) sc_law_deed.nd rfl ((by first | exact Or.inl rfl | exact Or.inr rfl)))) (g_name 7) (by decide) (fun _ _ _ _ _ => lts_nil) (fun _ _ _ _ _ => (l_call G_law_draw (hr.mono (by omega)) (by rfl) T.t_law_draw.g T.t_law_draw.F.kp T.t_law_draw.b takesW0 (la_cons (lv 0) (la_cons (l_callB call_lenA o_len (by rfl) T.z_len PySem.boot_len (la_cons (lv 2) la_nil)) la_nil)))))
      (lss_cons (ls_set (i := 9) sc_law_deed.nd rfl (Or.inl rfl) (l_ix ixX o_ix (lv 2) (l_ix ixX o_ix (lv 8) l_int (fun _ _ => rfl)) (fun _ _ => rfl)))
      (lss_cons (ls_set (i := 10) sc_law_deed.nd rfl (Or.inl rfl) (l_ix ixX o_ix (lv 2) (l_ix ixX o_ix (lv 8) l_int (fun _ _ => rfl)) (fun _ _ => rfl)))
      (lss_cons (ls_set (i := 11) sc_law_deed.nd rfl (Or.inl rfl) (l_ix ixX o_ix (lv 3) (l_ix ixX o_ix (lv 8) l_int (fun _ _ => rfl)) (fun _ _ => rfl)))
      (lss_cons (ls_set (i := 12) sc_law_deed.nd rfl (Or.inl rfl) (l_ix ixX o_ix (lv 3) (l_ix ixX o_ix (lv 8) l_int (fun _ _ => rfl)) (fun _ _ => rfl)))
      (lss_cons (ls_set (i := 13) sc_law_deed.nd rfl (Or.inl rfl) (l_op op_rep o_mulL (l_lst (la_cons l_bl la_nil)) (l_callB call_lenA o_len (by rfl) T.z_len PySem.boot_len (la_cons (lv 11) la_nil))))
      (lss_cons (ls_set (i := 14) sc_law_deed.nd rfl (Or.inl rfl) (l_op op_rep o_mulL (l_lst (la_cons l_bl la_nil)) (l_callB call_lenA o_len (by rfl) T.z_len PySem.boot_len (la_cons (lv 11) la_nil))))
      (lss_cons (ls_if (lt_cmp op_eq o_eq (lv 6) l_int (nomark _)) (lss_one (ls_ret (l_tup (la_cons (l_met T.c_Store T.t_Store_negate.m G_Store_negate (hr.mono (by omega)) T.t_Store_negate.b tk (lv 1) (la_cons (lv 9) la_nil)) (la_cons (l_call G_law_mixed (hr.mono (by omega)) (by rfl) T.t_law_mixed.g T.t_law_mixed.F.kp T.t_law_mixed.b tk (la_cons (lv 11) (la_cons (lv 13) (la_cons (lv 14) la_nil)))) la_nil))))) lss_nil)
      (lss_cons (ls_if (lt_cmp op_eq o_eq (lv 6) l_int (nomark _)) (lss_one (ls_ret (l_tup (la_cons (l_met T.c_Store T.t_Store_both.m G_Store_both (hr.mono (by omega)) T.t_Store_both.b tk (lv 1) (la_cons (lv 9) (la_cons (lv 10) la_nil))) (la_cons (l_call G_law_mixed (hr.mono (by omega)) (by rfl) T.t_law_mixed.g T.t_law_mixed.F.kp T.t_law_mixed.b tk (la_cons (lv 11) (la_cons (lv 12) (la_cons (lv 13) la_nil)))) la_nil))))) lss_nil)
      (lss_cons (ls_if (lt_cmp op_eq o_eq (lv 6) l_int (nomark _)) (lss_one (ls_ret (l_tup (la_cons (l_met T.c_Store T.t_Store_either.m G_Store_either (hr.mono (by omega)) T.t_Store_either.b tk (lv 1) (la_cons (lv 9) (la_cons (lv 10) la_nil))) (la_cons (l_call G_law_mixed (hr.mono (by omega)) (by rfl) T.t_law_mixed.g T.t_law_mixed.F.kp T.t_law_mixed.b tk (la_cons (lv 11) (la_cons (lv 14) (la_cons (lv 12) la_nil)))) la_nil))))) lss_nil)
      (lss_cons (ls_if (lt_cmp op_eq o_eq (lv 6) l_int (nomark _)) (lss_one (ls_ret (l_tup (la_cons (l_met T.c_Store T.t_Store_without.m G_Store_without (hr.mono (by omega)) T.t_Store_without.b tk (lv 1) (la_cons (lv 9) (la_cons (lv 10) la_nil))) (la_cons (l_call G_law_mixed (hr.mono (by omega)) (by rfl) T.t_law_mixed.g T.t_law_mixed.F.kp T.t_law_mixed.b tk (la_cons (lv 12) (la_cons (lv 13) (la_cons (lv 11) la_nil)))) la_nil))))) lss_nil)
      (lss_cons (ls_if (lt_cmp op_eq o_eq (lv 6) l_int (nomark _)) (lss_cons (ls_setComp (i := 15) (own := [("k", 7)]) (by rfl) sc_law_deed.nd (by rfl) (by rfl) (sw_true rfl rfl rfl (by decide +kernel)) (pi_range1 (by rfl) T.z_range (la_cons (l_call G_law_draw (hr.mono (by omega)) (by rfl) T.t_law_draw.g T.t_law_draw.F.kp T.t_law_draw.b tk (la_cons (lv 0) (la_cons l_int la_nil))) la_nil)) io_rng1 (blkOk_by (own := [("k", 7)]) (N := ["pool", "store", "refs", "tables", "levels", "many", "turn", "k", "at", "a", "b", "one", "two", "none", "whole", "rows", "total", "fit", "low", "high", "j", "n"]) (sc := defScope s_law_deed) (by decide +kernel)) (fun _ _ _ _ _ => (pg_name (i := 7) sc_law_deed.nd rfl ((by first | exact Or.inl rfl | exact Or.inr rfl)))) (g_name 7) (by decide) (fun _ _ _ _ _ => lts_nil) (fun _ _ _ _ _ => (l_call G_law_draw (hr.mono (by omega)) (by rfl) T.t_law_draw.g T.t_law_draw.F.kp T.t_law_draw.b takesW0 (la_cons (lv 0) (la_cons (l_callB call_lenA o_len (by rfl) T.z_len PySem.boot_len (la_cons (lv 2) la_nil)) la_nil)))))
      (lss_cons (ls_set (i := 16) sc_law_deed.nd rfl (Or.inl rfl) (l_callTy call_list_of o_list (by rfl) T.z_list PyProof.Rows.boot_list (la_cons (lv 13) la_nil)))
      (lss_cons (ls_for po rfl (pi_list (lv 15)) io_list (pg_name (i := 7) sc_law_deed.nd rfl (Or.inr rfl)) (g_name 7) (lss_one (ls_set (i := 16) sc_law_deed.nd rfl (Or.inl rfl) (l_call G_law_mixed (hr.mono (by omega)) (by rfl) T.t_law_mixed.g T.t_law_mixed.F.kp T.t_law_mixed.b tk (la_cons (lv 16) (la_cons (lv 14) (la_cons (l_ix ixX o_ix (lv 3) (lv 7) (fun _ _ => rfl)) la_nil)))))))
      (lss_one (ls_ret (l_tup (la_cons (l_met T.c_Store T.t_Store_either_of.m G_Store_either_of (hr.mono (by omega)) T.t_Store_either_of.b tk (lv 1) (la_cons (l_comp (own := [("k", 7)]) (by rfl) sc_law_deed.nd (pi_list (lv 15)) io_list (blkOk_by (own := [("k", 7)]) (N := ["pool", "store", "refs", "tables", "levels", "many", "turn", "k", "at", "a", "b", "one", "two", "none", "whole", "rows", "total", "fit", "low", "high", "j", "n"]) (sc := defScope s_law_deed) (by decide +kernel)) (fun _ _ _ _ _ => (pg_name (i := 7) sc_law_deed.nd rfl ((by first | exact Or.inl rfl | exact Or.inr rfl)))) (g_name 7) (by decide) (fun _ _ _ _ _ => lts_nil) (fun _ _ _ _ _ => (l_ix ixX o_ix (lv 2) (lv 7) (fun _ _ => rfl)))) la_nil)) (la_cons (lv 16) la_nil)))))))) lss_nil)
      (lss_cons (ls_if (PW.pt (lw_and (lt_cmp op_eq o_eq (lv 6) l_int (nomark _)) (lw_and1 (lt_cmp op_gt (o_rel _) (lv 5) l_int (nomark _))))) (lss_cons (ls_set (i := 7) sc_law_deed.nd rfl (Or.inr rfl) (l_call G_law_draw (hr.mono (by omega)) (by rfl) T.t_law_draw.g T.t_law_draw.F.kp T.t_law_draw.b tk (la_cons (lv 0) (la_cons (lv 5) la_nil))))
      (lss_one (ls_ret (l_tup (la_cons (l_met T.c_Store T.t_Store_coin.m G_Store_coin (hr.mono (by omega)) T.t_Store_coin.b tk (lv 1) (la_cons (l_ix ixX o_ix (lv 4) (lv 7) (fun _ _ => rfl)) la_nil)) (la_cons (l_call G_law_coin (hr.mono (by omega)) (by rfl) T.t_law_coin.g T.t_law_coin.F.kp T.t_law_coin.b tk (la_cons (lv 5) (la_cons (lv 7) la_nil))) la_nil)))))) lss_nil)
      (lss_cons (ls_if (PW.pt (lw_and (lt_cmp op_eq o_eq (lv 6) l_int (nomark _)) (lw_and1 (lt_cmp op_gt (o_rel _) (lv 5) l_int (nomark _))))) (lss_cons (ls_set (i := 7) sc_law_deed.nd rfl (Or.inr rfl) (l_call G_law_draw (hr.mono (by omega)) (by rfl) T.t_law_draw.g T.t_law_draw.F.kp T.t_law_draw.b tk (la_cons (lv 0) (la_cons (lv 5) la_nil))))
      (lss_cons (ls_setComp (i := 17) (own := [("j", 20)]) (by rfl) sc_law_deed.nd (by rfl) (by rfl) (sw_true rfl rfl rfl (by decide +kernel)) (pi_range1 (by rfl) T.z_range (la_cons (l_callB call_lenA o_len (by rfl) T.z_len PySem.boot_len (la_cons (lv 3) la_nil)) la_nil)) io_rng1 (blkOk_by (own := [("j", 20)]) (N := ["pool", "store", "refs", "tables", "levels", "many", "turn", "k", "at", "a", "b", "one", "two", "none", "whole", "rows", "total", "fit", "low", "high", "j", "n"]) (sc := defScope s_law_deed) (by decide +kernel)) (fun _ _ _ _ _ => (pg_name (i := 20) sc_law_deed.nd rfl ((by first | exact Or.inl rfl | exact Or.inr rfl)))) (g_name 20) (by decide) (fun _ _ _ _ _ => (lts_one (lt_cmp op_eq o_eq (l_callB call_lenA o_len (by rfl) T.z_len PySem.boot_len (la_cons (l_comp (own := [("n", 21)]) (by rfl) sc_law_deed.nd (pi_list (l_call G_law_needs (hr.mono (by omega)) (by rfl) T.t_law_needs.g T.t_law_needs.F.kp T.t_law_needs.b takesW0 (la_cons (l_ix ixX o_ix (lv 3) (lv 20) (fun _ _ => rfl)) (la_cons (lv 5) la_nil)))) io_list (blkOk_by (own := [("n", 21)]) (N := ["pool", "store", "refs", "tables", "levels", "many", "turn", "k", "at", "a", "b", "one", "two", "none", "whole", "rows", "total", "fit", "low", "high", "j", "n"]) (by kernel_rfl)) (fun _ _ _ _ _ => (pg_name (i := 21) sc_law_deed.nd rfl ((by first | exact Or.inl rfl | exact Or.inr rfl)))) (g_name 21) (by decide) (fun _ _ _ _ _ => (lts_one (lt_cmp op_le (o_rel _) (lv 21) (lv 7) (nomark _)))) (fun _ _ _ _ _ => (lv 21))) la_nil)) l_int (nomark _)))) (fun _ _ _ _ _ => (lv 20)))
      (lss_cons (ls_set (i := 18) sc_law_deed.nd rfl (Or.inl rfl) (l_ix ixX o_ix (lv 17) (l_call G_law_draw (hr.mono (by omega)) (by rfl) T.t_law_draw.g T.t_law_draw.F.kp T.t_law_draw.b tk (la_cons (lv 0) (la_cons (l_callB call_lenA o_len (by rfl) T.z_len PySem.boot_len (la_cons (lv 17) la_nil)) la_nil))) (fun _ _ => rfl)))
      (lss_cons (ls_set (i := 19) sc_law_deed.nd rfl (Or.inl rfl) (l_ix ixX o_ix (lv 17) (l_call G_law_draw (hr.mono (by omega)) (by rfl) T.t_law_draw.g T.t_law_draw.F.kp T.t_law_draw.b tk (la_cons (lv 0) (la_cons (l_callB call_lenA o_len (by rfl) T.z_len PySem.boot_len (la_cons (lv 17) la_nil)) la_nil))) (fun _ _ => rfl)))
      (lss_one (ls_ret (l_tup (la_cons (l_met T.c_Store T.t_Store_node.m G_Store_node (hr.mono (by omega)) T.t_Store_node.b tk (lv 1) (la_cons (l_ix ixX o_ix (lv 4) (lv 7) (fun _ _ => rfl)) (la_cons (l_ix ixX o_ix (lv 2) (lv 18) (fun _ _ => rfl)) (la_cons (l_ix ixX o_ix (lv 2) (lv 19) (fun _ _ => rfl)) la_nil)))) (la_cons (l_call G_law_mixed (hr.mono (by omega)) (by rfl) T.t_law_mixed.g T.t_law_mixed.F.kp T.t_law_mixed.b tk (la_cons (l_call G_law_coin (hr.mono (by omega)) (by rfl) T.t_law_coin.g T.t_law_coin.F.kp T.t_law_coin.b tk (la_cons (lv 5) (la_cons (lv 7) la_nil))) (la_cons (l_ix ixX o_ix (lv 3) (lv 19) (fun _ _ => rfl)) (la_cons (l_ix ixX o_ix (lv 3) (lv 18) (fun _ _ => rfl)) la_nil)))) la_nil))))))))) lss_nil)
      (lss_one (ls_ret (l_tup (la_cons (l_met T.c_Store T.t_Store_choose.m G_Store_choose (hr.mono (by omega)) T.t_Store_choose.b tk (lv 1) (la_cons (l_ix ixX o_ix (lv 2) (l_ix ixX o_ix (lv 8) l_int (fun _ _ => rfl)) (fun _ _ => rfl)) (la_cons (lv 9) (la_cons (lv 10) la_nil)))) (la_cons (l_call G_law_mixed (hr.mono (by omega)) (by rfl) T.t_law_mixed.g T.t_law_mixed.F.kp T.t_law_mixed.b tk (la_cons (l_ix ixX o_ix (lv 3) (l_ix ixX o_ix (lv 8) l_int (fun _ _ => rfl)) (fun _ _ => rfl)) (la_cons (lv 11) (la_cons (lv 12) la_nil)))) la_nil)))))))))))))))))))))

noncomputable def b_law_made (N : Nat) : DS := (dSeq (dSet 4 (eOp dShl (eC (D.int 1)) (eCall dLen (eCons (eV 2) eNil))))
    (dSeq (dSet 5 (eLst (eCons (eC (D.int 0)) (eCons (eC (D.int 1)) eNil))))
    (dSeq (dSet 6 (eLst (eCons (eOp dMulL (eLst (eCons (eC (D.bl false)) eNil)) (eV 4)) (eCons (eOp dMulL (eLst (eCons (eC (D.bl true)) eNil)) (eV 4)) eNil))))
    (dSeq (dFor (wR1 (eCons (eCall dLen (eCons (eV 2) eNil)) eNil)) (tgN 7) (dSeq (dExpr (eMeth "list" mAppend (eV 5) (eCons (eMet "Store" "coin" h_Store_coin (eV 1) (eCons (eOp dIx (eV 2) (eV 7)) eNil)) eNil)))
    (dExpr (eMeth "list" mAppend (eV 6) (eCons (eCall h_law_coin (eCons (eCall dLen (eCons (eV 2) eNil)) (eCons (eV 7) eNil))) eNil)))))
    (dSeq (dFor (wR1 (eCons (eCall h_law_draw (eCons (eV 0) (eCons (eOp dAdd (eV 3) (eC (D.int 1))) eNil))) eNil)) (tgN 7) (dSeq (dSet 8 (eCall (h_law_deed N) (eCons (eV 0) (eCons (eV 1) (eCons (eV 5) (eCons (eV 6) (eCons (eV 2) eNil)))))))
    (dSeq (dExpr (eMeth "list" mAppend (eV 5) (eCons (eOp dIx (eV 8) (eC (D.int 0))) eNil)))
    (dExpr (eMeth "list" mAppend (eV 6) (eCons (eOp dIx (eV 8) (eC (D.int 1))) eNil))))))
    (dRet (eLst (eCons (eV 5) (eCons (eV 6) eNil)))))))))
noncomputable def h_law_made (N : Nat) : DF := runD 4 9 (b_law_made N)
theorem ok_law_made (T : Txt K mg A) (N : Nat) : FnOk P wd K mg base (L2.CX P wd) (6) A.a_law_made A.d_law_made ["pool", "store", "levels", "most"] (spD K mg (h_law_made N)) := by
  have G_Store_coin : FnOk P wd K mg base (L2.CX P wd) (2) A.a_Store_coin A.d_Store_coin ["self", "level"] (spD K mg h_Store_coin) := ok_Store_coin T
  have G_law_draw : FnOk P wd K mg base (L2.CX P wd) (2) A.a_law_draw A.d_law_draw ["pool", "many"] (spD K mg h_law_draw) := ok_law_draw T
  have G_law_coin : FnOk P wd K mg base (L2.CX P wd) (1) A.a_law_coin A.d_law_coin ["many", "k"] (spD K mg h_law_coin) := ok_law_coin T
  have G_law_deed : FnOk P wd K mg base (L2.CX P wd) (5) A.a_law_deed A.d_law_deed ["pool", "store", "refs", "tables", "levels"] (spD K mg (h_law_deed N)) := ok_law_deed T N
  refine d_ok T.t_law_made.F sc_law_made (fun cdv AA outer s H E hr tk po => ?_)
  exact (lss_cons (ls_set (i := 4) sc_law_made.nd rfl (Or.inl rfl) (l_op op_shl o_shl l_int (l_callB call_lenA o_len (by rfl) T.z_len PySem.boot_len (la_cons (lv 2) la_nil))))
      (lss_cons (ls_set (i := 5) sc_law_made.nd rfl (Or.inl rfl) (l_lst (la_cons l_int (la_cons l_int la_nil))))
      (lss_cons (ls_set (i := 6) sc_law_made.nd rfl (Or.inl rfl) (l_lst (la_cons (l_op op_rep o_mulL (l_lst (la_cons l_bl la_nil)) (lv 4)) (la_cons (l_op op_rep o_mulL (l_lst (la_cons l_bl la_nil)) (lv 4)) la_nil))))
      (lss_cons (ls_for po rfl (pi_range1 (by rfl) T.z_range (la_cons (l_callB call_lenA o_len (by rfl) T.z_len PySem.boot_len (la_cons (lv 2) la_nil)) la_nil)) io_rng1 (pg_name (i := 7) sc_law_made.nd rfl (Or.inl rfl)) (g_name 7) (lss_cons (ls_expr (l_bm PySem.F.plainAttrs_list PySem.F.slot_list_append PySem.F.type_list_append mt_append om_append (lv 5) (la_cons (l_met T.c_Store T.t_Store_coin.m G_Store_coin (hr.mono (by omega)) T.t_Store_coin.b tk (lv 1) (la_cons (l_ix ixX o_ix (lv 2) (lv 7) (fun _ _ => rfl)) la_nil)) la_nil)))
      (lss_one (ls_expr (l_bm PySem.F.plainAttrs_list PySem.F.slot_list_append PySem.F.type_list_append mt_append om_append (lv 6) (la_cons (l_call G_law_coin (hr.mono (by omega)) (by rfl) T.t_law_coin.g T.t_law_coin.F.kp T.t_law_coin.b tk (la_cons (l_callB call_lenA o_len (by rfl) T.z_len PySem.boot_len (la_cons (lv 2) la_nil)) (la_cons (lv 7) la_nil))) la_nil))))))
      (lss_cons (ls_for po rfl (pi_range1 (by rfl) T.z_range (la_cons (l_call G_law_draw (hr.mono (by omega)) (by rfl) T.t_law_draw.g T.t_law_draw.F.kp T.t_law_draw.b tk (la_cons (lv 0) (la_cons (l_op op_addA o_add (lv 3) l_int) la_nil))) la_nil)) io_rng1 (pg_name (i := 7) sc_law_made.nd rfl (Or.inl rfl)) (g_name 7) (lss_cons (ls_set (i := 8) sc_law_made.nd rfl (Or.inl rfl) (l_call G_law_deed (hr.mono (by omega)) (by rfl) T.t_law_deed.g T.t_law_deed.F.kp T.t_law_deed.b tk (la_cons (lv 0) (la_cons (lv 1) (la_cons (lv 5) (la_cons (lv 6) (la_cons (lv 2) la_nil)))))))
      (lss_cons (ls_expr (l_bm PySem.F.plainAttrs_list PySem.F.slot_list_append PySem.F.type_list_append mt_append om_append (lv 5) (la_cons (l_ix ixX o_ix (lv 8) l_int (fun _ _ => rfl)) la_nil)))
      (lss_one (ls_expr (l_bm PySem.F.plainAttrs_list PySem.F.slot_list_append PySem.F.type_list_append mt_append om_append (lv 6) (la_cons (l_ix ixX o_ix (lv 8) l_int (fun _ _ => rfl)) la_nil)))))))
      (lss_one (ls_ret (l_lst (la_cons (lv 5) (la_cons (lv 6) la_nil))))))))))

noncomputable def b_law_nodes : DS := (dSeq (dSet 1 (eLst (eCons (eV 0) eNil)))
    (dSeq (dSet 2 (eC (D.int 0)))
    (dSeq (dFor (wR1 (eCons (eC (D.int 40)) eNil)) (tgN 3) (dSeq (dIfS (eT (eOp dEq (eCall dLen (eCons (eOp dIx (eV 1) (eC (D.int 0))) eNil)) (eC (D.int 1)))) dBreak dNext)
    (dSeq (dSet 4 (eLst eNil))
    (dSeq (dFor (wL (eV 1)) (tgN 5) (dSeq (dSet 6 (eUn (dStp 0) (eV 5)))
    (dSeq (dSet 7 (eUn (dStp 1) (eV 5)))
    (dSeq (dIfS (eT (eOp (dEqP true) (eV 6) (eV 7))) (dSeq (dSet 2 (eOp dAdd (eV 2) (eC (D.int 1))))
    (dIfS (eT (eOp (dInP true) (eV 7) (eV 4))) (dExpr (eMeth "list" mAppend (eV 4) (eCons (eV 7) eNil))) dNext)) dNext)
    (dIfS (eT (eOp (dInP true) (eV 6) (eV 4))) (dExpr (eMeth "list" mAppend (eV 4) (eCons (eV 6) eNil))) dNext)))))
    (dSet 1 (eV 4))))))
    (dRet (eV 2)))))
noncomputable def h_law_nodes : DF := runD 1 8 (b_law_nodes)
theorem ok_law_nodes (T : Txt K mg A) : FnOk P wd K mg base (L2.CX P wd) (1) A.a_law_nodes A.d_law_nodes ["table"] (spD K mg h_law_nodes) := by
  refine d_ok T.t_law_nodes.F sc_law_nodes (fun cdv AA outer s H E hr tk po => ?_)
  exact (lss_cons (ls_set (i := 1) sc_law_nodes.nd rfl (Or.inl rfl) (l_lst (la_cons (lv 0) la_nil)))
      (lss_cons (ls_set (i := 2) sc_law_nodes.nd rfl (Or.inl rfl) l_int)
      (lss_cons (ls_for po rfl (pi_range1 (by rfl) T.z_range (la_cons l_int la_nil)) io_rng1 (pg_name (i := 3) sc_law_nodes.nd rfl (Or.inl rfl)) (g_name 3) (lss_cons (ls_if (lt_cmp op_eq o_eq (l_callB call_lenA o_len (by rfl) T.z_len PySem.boot_len (la_cons (l_ix ixX o_ix (lv 1) l_int (fun _ _ => rfl)) la_nil)) l_int (nomark _)) (lss_one ls_break) lss_nil)
      (lss_cons (ls_set (i := 4) sc_law_nodes.nd rfl (Or.inl rfl) (l_lst la_nil))
      (lss_cons (ls_for po rfl (pi_list (lv 1)) io_list (pg_name (i := 5) sc_law_nodes.nd rfl (Or.inl rfl)) (g_name 5) (lss_cons (ls_set (i := 6) sc_law_nodes.nd rfl (Or.inl rfl) (l_evens (lv 5)))
      (lss_cons (ls_set (i := 7) sc_law_nodes.nd rfl (Or.inl rfl) (l_odds (lv 5)))
      (lss_cons (ls_if (lt_cmp (op_neD hr.units) o_neP (lv 6) (lv 7) (nomark _)) (lss_cons (ls_set (i := 2) sc_law_nodes.nd rfl (Or.inl rfl) (l_op op_addA o_add (lv 2) l_int))
      (lss_one (ls_if (lt_cmp (op_notInD (hu65 hr)) o_notInP (lv 7) (lv 4) (by rfl)) (lss_one (ls_expr (l_bm PySem.F.plainAttrs_list PySem.F.slot_list_append PySem.F.type_list_append mt_append om_append (lv 4) (la_cons (lv 7) la_nil)))) lss_nil))) lss_nil)
      (lss_one (ls_if (lt_cmp (op_notInD (hu65 hr)) o_notInP (lv 6) (lv 4) (by rfl)) (lss_one (ls_expr (l_bm PySem.F.plainAttrs_list PySem.F.slot_list_append PySem.F.type_list_append mt_append om_append (lv 4) (la_cons (lv 6) la_nil)))) lss_nil))))))
      (lss_one (ls_set (i := 1) sc_law_nodes.nd rfl (Or.inl rfl) (lv 4)))))))
      (lss_one (ls_ret (lv 2))))))

noncomputable def b_law_reached : DS := (dSeq (dSet 2 (eLst (eCons (eV 1) eNil)))
    (dSeq (dSet 3 (eLst eNil))
    (dSeq (dFor (wR1 (eCons (eC (D.int 200)) eNil)) (tgN 4) (dSeq (dIfS (eT (eOp dEq (eCall dLen (eCons (eV 2) eNil)) (eC (D.int 0)))) dBreak dNext)
    (dSeq (dSet 5 (eMeth "list" mPop (eV 2) eNil))
    (dIfS (eAnd (eT (eOp dGt (eV 5) (eC (D.int 1)))) (eT (eOp (dIn true) (eV 5) (eV 3)))) (dSeq (dExpr (eMeth "list" mAppend (eV 3) (eCons (eV 5) eNil)))
    (dSeq (dExpr (eMeth "list" mAppend (eV 2) (eCons (eMet "Store" "low" h_Store_low (eV 0) (eCons (eV 5) eNil)) eNil)))
    (dExpr (eMeth "list" mAppend (eV 2) (eCons (eMet "Store" "high" h_Store_high (eV 0) (eCons (eV 5) eNil)) eNil))))) dNext))))
    (dRet (eCall dSorted (eCons (eV 3) eNil))))))
noncomputable def h_law_reached : DF := runD 2 6 (b_law_reached)
theorem ok_law_reached (T : Txt K mg A) : FnOk P wd K mg base (L2.CX P wd) (3) A.a_law_reached A.d_law_reached ["store", "a"] (spD K mg h_law_reached) := by
  have G_Store_low : FnOk P wd K mg base (L2.CX P wd) (2) A.a_Store_low A.d_Store_low ["self", "a"] (spD K mg h_Store_low) := ok_Store_low T
  have G_Store_high : FnOk P wd K mg base (L2.CX P wd) (2) A.a_Store_high A.d_Store_high ["self", "a"] (spD K mg h_Store_high) := ok_Store_high T
  refine d_ok T.t_law_reached.F sc_law_reached (fun cdv AA outer s H E hr tk po => ?_)
  exact (lss_cons (ls_set (i := 2) sc_law_reached.nd rfl (Or.inl rfl) (l_lst (la_cons (lv 1) la_nil)))
      (lss_cons (ls_set (i := 3) sc_law_reached.nd rfl (Or.inl rfl) (l_lst la_nil))
      (lss_cons (ls_for po rfl (pi_range1 (by rfl) T.z_range (la_cons l_int la_nil)) io_rng1 (pg_name (i := 4) sc_law_reached.nd rfl (Or.inl rfl)) (g_name 4) (lss_cons (ls_if (lt_cmp op_eq o_eq (l_callB call_lenA o_len (by rfl) T.z_len PySem.boot_len (la_cons (lv 2) la_nil)) l_int (nomark _)) (lss_one ls_break) lss_nil)
      (lss_cons (ls_set (i := 5) sc_law_reached.nd rfl (Or.inl rfl) (l_bm0 PySem.F.plainAttrs_list PySem.F.slot_list_pop PySem.F.type_list_pop mt_pop om_pop (lv 2)))
      (lss_one (ls_if (PW.pt (lw_and (lt_cmp op_gt (o_rel _) (lv 5) l_int (nomark _)) (lw_and1 (lt_cmp op_notInA (o_in true) (lv 5) (lv 3) (by rfl))))) (lss_cons (ls_expr (l_bm PySem.F.plainAttrs_list PySem.F.slot_list_append PySem.F.type_list_append mt_append om_append (lv 3) (la_cons (lv 5) la_nil)))
      (lss_cons (ls_expr (l_bm PySem.F.plainAttrs_list PySem.F.slot_list_append PySem.F.type_list_append mt_append om_append (lv 2) (la_cons (l_met T.c_Store T.t_Store_low.m G_Store_low (hr.mono (by omega)) T.t_Store_low.b tk (lv 0) (la_cons (lv 5) la_nil)) la_nil)))
      (lss_one (ls_expr (l_bm PySem.F.plainAttrs_list PySem.F.slot_list_append PySem.F.type_list_append mt_append om_append (lv 2) (la_cons (l_met T.c_Store T.t_Store_high.m G_Store_high (hr.mono (by omega)) T.t_Store_high.b tk (lv 0) (la_cons (lv 5) la_nil)) la_nil)))))) lss_nil)))))
      (lss_one (ls_ret (l_callB cr_sorted o_sorted (by rfl) T.z_sorted (by decide +kernel) (la_cons (lv 3) la_nil)))))))

noncomputable def b_law (N : Nat) : DS := (dSeq (dSet 1 (eCall h_law_pool (eCons (eV 0) eNil)))
    (dSeq (dSet 2 (eCall h_law_levels (eCons (eV 1) (eCons (eCall h_law_draw (eCons (eV 1) (eCons (eC (D.int 6)) eNil))) eNil))))
    (dSeq (dSet 3 (eCall dLen (eCons (eV 2) eNil)))
    (dSeq (dSet 4 (eMake "Store" h_Store___init__ eNil))
    (dSeq (dSet 5 (eCall (h_law_made N) (eCons (eV 1) (eCons (eV 4) (eCons (eV 2) (eCons (eC (D.int 8)) eNil))))))
    (dSeq (dSet 6 (eIf (eT (eOp dGt (eV 3) (eC (D.int 0)))) (eOp dAdd (eOp dIx (eV 2) (eUn dNeg (eC (D.int 1)))) (eC (D.int 1))) (eC (D.int 0))))
    (dSeq (dFor (wR1 (eCons (eCall dLen (eCons (eOp dIx (eV 5) (eC (D.int 0))) eNil)) eNil)) (tgN 7) (dSeq (dSet 8 (eOp dIx (eOp dIx (eV 5) (eC (D.int 0))) (eV 7)))
    (dSeq (dSet 9 (eOp dIx (eOp dIx (eV 5) (eC (D.int 1))) (eV 7)))
    (dSeq (dSet 10 (eOp dAdd (eV 6) (eOp dIx (eTup (eCons (eC (D.int 0)) (eCons (eC (D.int 0)) (eCons (eC (D.int 1)) (eCons (eC (D.int 2)) (eCons (eC (D.int 70)) eNil)))))) (eCall h_law_draw (eCons (eV 1) (eCons (eC (D.int 5)) eNil))))))
    (dSeq (dSet 11 (eOp dMul (eCall dLen (eCons (dComp (wL (eV 9)) (tgN 13) [13] (eT (eV 13)) (eV 13)) eNil)) (eOp dShl (eC (D.int 1)) (eOp dSub (eV 10) (eV 3)))))
    (dSeq (dIfS (eNot (eT (eCall (h_law_same 2) (eCons (eMet "Store" "models" (h_Store_models N) (eV 4) (eCons (eV 8) (eCons (eV 10) eNil))) (eCons (eV 11) eNil))))) (dRet (eC (D.bl false))) dNext)
    (dSeq (dSet 12 (eMet "Store" "nodes_below" (h_Store_nodes_below N) (eV 4) (eCons (eV 8) eNil)))
    (dSeq (dIfS (eOr (eNot (eT (eCall dIsi (eCons (eV 12) (eCons (eC (.ty "list")) eNil))))) (eT (eOp dNe (eCall dLen (eCons (eV 12) eNil)) (eCall h_law_nodes (eCons (eV 9) eNil))))) (dRet (eC (D.bl false))) dNext)
    (dIfS (eNot (eT (eCall (h_law_same 2) (eCons (eV 12) (eCons (eCall h_law_reached (eCons (eV 4) (eCons (eV 8) eNil))) eNil))))) (dRet (eC (D.bl false))) dNext)))))))))
    (dRet (eC (D.bl true))))))))))
noncomputable def h_law (N : Nat) : DF := runD 1 14 (b_law N)
theorem ok_law (T : Txt K mg A) (N : Nat) : FnOk P wd K mg base (L2.CX P wd) (7) A.a_law A.d_law ["script"] (spD K mg (h_law N)) := by
  have G_Store___init__ : FnOk P wd K mg base (L2.CX P wd) (1) A.a_Store___init__ A.d_Store___init__ ["self"] (spD K mg h_Store___init__) := ok_Store___init__ T
  have G_Store_nodes_below : FnOk P wd K mg base (L2.CX P wd) (2) A.a_Store_nodes_below A.d_Store_nodes_below ["self", "a"] (spD K mg (h_Store_nodes_below N)) := ok_Store_nodes_below T N
  have G_Store_models : FnOk P wd K mg base (L2.CX P wd) (3) A.a_Store_models A.d_Store_models ["self", "a", "levels"] (spD K mg (h_Store_models N)) := ok_Store_models T N
  have G_law_same : FnOk P wd K mg base (L2.CX P wd) (2) A.a_law_same A.d_law_same ["actual", "due"] (spD K mg (h_law_same 2)) := ok_law_same T 2
  have G_law_pool : FnOk P wd K mg base (L2.CX P wd) (1) A.a_law_pool A.d_law_pool ["script"] (spD K mg h_law_pool) := ok_law_pool T
  have G_law_draw : FnOk P wd K mg base (L2.CX P wd) (2) A.a_law_draw A.d_law_draw ["pool", "many"] (spD K mg h_law_draw) := ok_law_draw T
  have G_law_levels : FnOk P wd K mg base (L2.CX P wd) (3) A.a_law_levels A.d_law_levels ["pool", "many"] (spD K mg h_law_levels) := ok_law_levels T
  have G_law_made : FnOk P wd K mg base (L2.CX P wd) (6) A.a_law_made A.d_law_made ["pool", "store", "levels", "most"] (spD K mg (h_law_made N)) := ok_law_made T N
  have G_law_nodes : FnOk P wd K mg base (L2.CX P wd) (1) A.a_law_nodes A.d_law_nodes ["table"] (spD K mg h_law_nodes) := ok_law_nodes T
  have G_law_reached : FnOk P wd K mg base (L2.CX P wd) (3) A.a_law_reached A.d_law_reached ["store", "a"] (spD K mg h_law_reached) := ok_law_reached T
  refine d_ok T.t_law.F sc_law (fun cdv AA outer s H E hr tk po => ?_)
  exact (lss_cons (ls_set (i := 1) sc_law.nd rfl (Or.inl rfl) (l_call G_law_pool (hr.mono (by omega)) (by rfl) T.t_law_pool.g T.t_law_pool.F.kp T.t_law_pool.b tk (la_cons (lv 0) la_nil)))
      (lss_cons (ls_set (i := 2) sc_law.nd rfl (Or.inl rfl) (l_call G_law_levels (hr.mono (by omega)) (by rfl) T.t_law_levels.g T.t_law_levels.F.kp T.t_law_levels.b tk (la_cons (lv 1) (la_cons (l_call G_law_draw (hr.mono (by omega)) (by rfl) T.t_law_draw.g T.t_law_draw.F.kp T.t_law_draw.b tk (la_cons (lv 1) (la_cons l_int la_nil))) la_nil))))
      (lss_cons (ls_set (i := 3) sc_law.nd rfl (Or.inl rfl) (l_callB call_lenA o_len (by rfl) T.z_len PySem.boot_len (la_cons (lv 2) la_nil)))
      (lss_cons (ls_set (i := 4) sc_law.nd rfl (Or.inl rfl) (l_make0 T.c_Store T.K_Store G_Store___init__ (hr.mono (by omega)) (by rfl) T.t_Store___init__.b tk))
      (lss_cons (ls_set (i := 5) sc_law.nd rfl (Or.inl rfl) (l_call G_law_made (hr.mono (by omega)) (by rfl) T.t_law_made.g T.t_law_made.F.kp T.t_law_made.b tk (la_cons (lv 1) (la_cons (lv 4) (la_cons (lv 2) (la_cons l_int la_nil))))))
      (lss_cons (ls_set (i := 6) sc_law.nd rfl (Or.inl rfl) (l_ifx (lt_cmp op_gt (o_rel _) (lv 3) l_int (nomark _)) (l_op op_addA o_add (l_ix ixX o_ix (lv 2) (l_un un_neg o_neg l_int) (fun _ _ => rfl)) l_int) l_int))
      (lss_cons (ls_for po rfl (pi_range1 (by rfl) T.z_range (la_cons (l_callB call_lenA o_len (by rfl) T.z_len PySem.boot_len (la_cons (l_ix ixX o_ix (lv 5) l_int (fun _ _ => rfl)) la_nil)) la_nil)) io_rng1 (pg_name (i := 7) sc_law.nd rfl (Or.inl rfl)) (g_name 7) (lss_cons (ls_set (i := 8) sc_law.nd rfl (Or.inl rfl) (l_ix ixX o_ix (l_ix ixX o_ix (lv 5) l_int (fun _ _ => rfl)) (lv 7) (fun _ _ => rfl)))
      (lss_cons (ls_set (i := 9) sc_law.nd rfl (Or.inl rfl) (l_ix ixX o_ix (l_ix ixX o_ix (lv 5) l_int (fun _ _ => rfl)) (lv 7) (fun _ _ => rfl)))
      (lss_cons (ls_set (i := 10) sc_law.nd rfl (Or.inl rfl) (l_op op_addA o_add (lv 6) (l_ix ixX o_ix (l_tup (la_cons l_int (la_cons l_int (la_cons l_int (la_cons l_int (la_cons l_int la_nil)))))) (l_call G_law_draw (hr.mono (by omega)) (by rfl) T.t_law_draw.g T.t_law_draw.F.kp T.t_law_draw.b tk (la_cons (lv 1) (la_cons l_int la_nil))) (fun _ _ => rfl))))
      (lss_cons (ls_set (i := 11) sc_law.nd rfl (Or.inl rfl) (l_op op_mulA o_mul (l_callB call_lenA o_len (by rfl) T.z_len PySem.boot_len (la_cons (l_comp (own := [("bit", 13)]) (by rfl) sc_law.nd (pi_list (lv 9)) io_list (blkOk_by (own := [("bit", 13)]) (N := ["script", "pool", "levels", "many", "store", "made", "least", "k", "a", "table", "total", "due", "told", "bit"]) (sc := defScope s_law) (by decide +kernel)) (fun _ _ _ _ _ => (pg_name (i := 13) sc_law.nd rfl ((by first | exact Or.inl rfl | exact Or.inr rfl)))) (g_name 13) (by decide) (fun _ _ _ _ _ => (lts_one (lt_val (lv 13)))) (fun _ _ _ _ _ => (lv 13))) la_nil)) (l_op op_shl o_shl l_int (l_op op_sub o_sub (lv 10) (lv 3)))))
      (lss_cons (ls_if (lt_not (lt_val (l_call G_law_same (hr.mono (by omega)) (by rfl) T.t_law_same.g T.t_law_same.F.kp T.t_law_same.b tk (la_cons (l_met T.c_Store T.t_Store_models.m G_Store_models (hr.mono (by omega)) T.t_Store_models.b tk (lv 4) (la_cons (lv 8) (la_cons (lv 10) la_nil))) (la_cons (lv 11) la_nil))))) (lss_one (ls_ret l_bl)) lss_nil)
      (lss_cons (ls_set (i := 12) sc_law.nd rfl (Or.inl rfl) (l_met T.c_Store T.t_Store_nodes_below.m G_Store_nodes_below (hr.mono (by omega)) T.t_Store_nodes_below.b tk (lv 4) (la_cons (lv 8) la_nil)))
      (lss_cons (ls_if (PW.pt (lw_or (lt_not (lt_val (l_callB call_isi o_isi (by rfl) T.z_isinstance PyProof.Rows.boot_isinstance (la_cons (lv 12) (la_cons (l_ty (by rfl) T.z_list PyProof.Rows.boot_list) la_nil))))) (lw_or1 (lt_cmp op_ne o_ne (l_callB call_lenA o_len (by rfl) T.z_len PySem.boot_len (la_cons (lv 12) la_nil)) (l_call G_law_nodes (hr.mono (by omega)) (by rfl) T.t_law_nodes.g T.t_law_nodes.F.kp T.t_law_nodes.b tk (la_cons (lv 9) la_nil)) (nomark _))))) (lss_one (ls_ret l_bl)) lss_nil)
      (lss_one (ls_if (lt_not (lt_val (l_call G_law_same (hr.mono (by omega)) (by rfl) T.t_law_same.g T.t_law_same.F.kp T.t_law_same.b tk (la_cons (lv 12) (la_cons (l_call G_law_reached (hr.mono (by omega)) (by rfl) T.t_law_reached.g T.t_law_reached.F.kp T.t_law_reached.b tk (la_cons (lv 4) (la_cons (lv 8) la_nil))) la_nil))))) (lss_one (ls_ret l_bl)) lss_nil))))))))))
      (lss_one (ls_ret l_bl)))))))))

end

/-! ### the pool of draws -/
structure PoolS (S : Sto) (p l : Nat) : Prop where
  at_ : ∃ (ns : List Int) (pos cur cnt salt : Int), S[p]? = some (.lst [.obj l, .int pos, .int cur, .int cnt, .int salt]) ∧ S[l]? = some (.lst (ns.map D.int)) ∧ 0 ≤ pos
  ne : l ≠ p
/-- nothing but X has changed, of what there was -/
structure Fr (X : Nat → Prop) (S S' : Sto) : Prop where
  len : S.length ≤ S'.length
  old : ∀ i, i < S.length → ¬X i → S'[i]? = S[i]?
section
variable {X Y : Nat → Prop} {S S1 S2 : Sto}
theorem Fr.refl : Fr X S S := ⟨Nat.le_refl _, fun _ _ _ => rfl⟩
theorem Fr.trans (a : Fr X S S1) (b : Fr X S1 S2) : Fr X S S2 := ⟨Nat.le_trans a.len b.len, fun i hi h => (b.old i (Nat.lt_of_lt_of_le hi a.len) h).trans (a.old i hi h)⟩
theorem Fr.mono (a : Fr X S S1) (h : ∀ i, i < S.length → X i → Y i) : Fr Y S S1 := ⟨a.len, fun i hi h2 => a.old i hi fun z => h2 (h i hi z)⟩
theorem Fr.set {n : Nat} (a : Fr X S S1) (o : Ob) (h : n < S.length → X n) : Fr X S (S1.set n o) := ⟨by rw [List.length_set]; exact a.len, fun i hi h2 => (List.getElem?_set_ne (fun e => h2 (by subst e; exact h hi))).trans (a.old i hi h2)⟩
theorem Fr.at (a : Fr X S S1) {i : Nat} {o : Ob} (h : S[i]? = some o) (hn : ¬X i) : S1[i]? = some o := (a.old i (lt_of_get h) hn).trans h
theorem Fr.add (a : Fr X S S1) (o : Ob) : Fr X S (S1 ++ [o]) := ⟨by rw [List.length_append]; have := a.len; omega, fun i hi h => by rw [List.getElem?_append_left (Nat.lt_of_lt_of_le hi a.len)]; exact a.old i hi h⟩
theorem Fr.lt (a : Fr X S S1) {n : Nat} (h : n < S.length) : n < S1.length := Nat.lt_of_lt_of_le h a.len
end
theorem PoolS.lp {S : Sto} {p l : Nat} (h : PoolS S p l) : p < S.length := by
  obtain ⟨⟨ns, pos, cur, cnt, salt, hp, hl, hpos⟩, _⟩ := h
  exact lt_of_get hp
theorem PoolS.ll {S : Sto} {p l : Nat} (h : PoolS S p l) : l < S.length := by
  obtain ⟨⟨ns, pos, cur, cnt, salt, hp, hl, hpos⟩, _⟩ := h
  exact lt_of_get hl
theorem PoolS.fr {S S' : Sto} {p l : Nat} {X : Nat → Prop} (h : PoolS S p l) (f : Fr X S S') (hp : ¬X p) (hl : ¬X l) : PoolS S' p l := by
  obtain ⟨⟨ns, pos, cur, cnt, salt, h1, h2, h3⟩, h4⟩ := h
  exact ⟨⟨ns, pos, cur, cnt, salt, f.at h1 hp, f.at h2 hl, h3⟩, h4⟩
theorem PoolS.set {S : Sto} {p l n : Nat} {o : Ob} (h : PoolS S p l) (hp : n ≠ p) (hl : n ≠ l) : PoolS (S.set n o) p l := h.fr (Fr.refl.set (X := fun i => i = n) o fun _ => rfl) (fun e => hp e.symm) (fun e => hl e.symm)
theorem PoolS.add {S : Sto} {p l : Nat} {o : Ob} (h : PoolS S p l) : PoolS (S ++ [o]) p l := h.fr (Fr.refl.add (X := fun _ => False) o) (fun h => h) (fun h => h)
theorem ix_put {S : Sto} {p : Nat} {i : Int} {xs : List D} (h : p < S.length) : dIx (.obj p) (.int i) (S.set p (.lst xs)) = (match atI xs i with | some d => .ok d (S.set p (.lst xs)) | none => .bad) := ix_lst (List.getElem?_set_self h)
theorem get_set {S : Sto} {p : Nat} {o : Ob} (h : p < S.length) : (S.set p o)[p]? = some o := List.getElem?_set_self h
theorem ixN_5 : ixN 5 (0 : Int) = some 0 ∧ ixN 5 (1 : Int) = some 1 ∧ ixN 5 (2 : Int) = some 2 ∧ ixN 5 (3 : Int) = some 3 ∧ ixN 5 (4 : Int) = some 4 := ⟨rfl, rfl, rfl, rfl, rfl⟩
theorem spread_ok (c : Int) (S : Sto) : ∃ v, h_law_spread [.int c] S = .ok (.int v) S := by
  unfold h_law_spread runD b_law_spread
  walk_at "ev"
  generalize e : dLoop _ _ _ _ _ _ = r
  obtain ⟨ρ', S', rfl, rfl, _, m, t, v, rfl⟩ := loop_use e
    (fun items ρ S1 => S1 = S ∧ (∀ d ∈ items, ∃ i, d = .int i) ∧ ∃ (m t : Int) (v : Option D), ρ = [some (.int c), some (.int m), some (.int t), v])
    ⟨rfl, fun d hd => rng_ints hd, _, _, _, rfl⟩ (by
      rintro d r ρ S1 ⟨rfl, hd, m, t, v, rfl⟩
      obtain ⟨i, rfl⟩ := hd d List.mem_cons_self
      refine ⟨_, rfl, ?_⟩
      walk_at "ev0"
      exact ⟨fun x hx => hd x (List.mem_cons_of_mem _ hx), _, _, _, rfl⟩)
  walk_at "ev"
  exact ⟨_, rfl⟩
theorem draw_ok {S : Sto} {p l : Nat} {many : Int} (h : PoolS S p l) (h0 : 0 < many) (h1 : many.natAbs.log2 < 9000) : ∃ v S', h_law_draw [.obj p, .int many] S = .ok (.int v) S' ∧ 0 ≤ v ∧ v < many ∧ PoolS S' p l ∧ Fr (fun i => i = p) S S' := by
  obtain ⟨⟨ns, pos, cur, cnt, salt, hp, hl, hpos⟩, hne⟩ := h
  have hne' : p ≠ l := hne.symm
  have hm : many ≠ 0 := by omega
  unfold h_law_draw
  walk_at "env"
  unfold b_law_draw
  refine seq_cut (fun r => ∃ v S', endR r = .ok (.int v) S' ∧ 0 ≤ v ∧ v < many ∧ PoolS S' p l ∧ Fr (fun i => i = p) S S') (fun ρ S1 => Fr (fun i => i = p) S S1 ∧ ∃ (pos cur : Int) (v2 : Option D), ρ = [some (.obj p), some (.int many), v2, none, none] ∧ S1[p]? = some (.lst [.obj l, .int pos, .int cur, .int cnt, .int salt]) ∧ 0 ≤ pos) ?_ ?_
  · by_cases hc : cur ≤ 0
    · by_cases hc2 : pos < (ns.length : Int)
      · obtain ⟨j, rfl⟩ := Int.eq_ofNat_of_zero_le hpos
        have hj : j < ns.length := by omega
        have ej : atI (ns.map D.int) (j : Int) = some (.int ns[j]) := atI_nat (by rw [List.getElem?_map, List.getElem?_eq_getElem hj]; rfl)
        generalize ns[j] = z at ej
        obtain ⟨z', hz⟩ := spread_ok z (S.set p (Ob.lst [D.obj l, D.int (↑j + 1), D.int z, D.int cnt, D.int salt]))
        by_cases hz2 : z < 1000000000000000000
        · walk_at "ev"
          exact ⟨_, _, rfl, Fr.refl.set _ (fun _ => rfl), _, _, _, rfl, get_put hp, by omega⟩
        · walk_at "ev"
          exact ⟨_, _, rfl, Fr.refl.set _ (fun _ => rfl), _, _, _, rfl, get_put hp, by omega⟩
      · walk_at "ev"
        exact ⟨_, _, rfl, Fr.refl, _, _, _, rfl, hp, hpos⟩
    · walk_at "ev"
      exact ⟨_, _, rfl, Fr.refl, _, _, _, rfl, hp, hpos⟩
  · rintro ρ S1 ⟨fr, pos, cur, v2, rfl, hp1, hpos⟩
    have hl1 : S1[l]? = some (.lst (ns.map D.int)) := fr.at hl hne
    by_cases hc : cur ≤ 0
    · walk_at "ev"
      exact ⟨_, _, rfl, Int.fmod_nonneg_of_pos _ h0, Int.fmod_lt_of_pos _ h0, ⟨⟨ns, _, _, _, _, get_put hp1, (get_put_ne hne').trans hl1, hpos⟩, hne⟩, fr.set _ fun _ => rfl⟩
    · walk_at "ev"
      exact ⟨_, _, rfl, Int.fmod_nonneg_of_pos _ h0, Int.fmod_lt_of_pos _ h0, ⟨⟨ns, _, _, _, _, get_put hp1, (get_put_ne hne').trans hl1, hpos⟩, hne⟩, fr.set _ fun _ => rfl⟩
theorem draw_use {S : Sto} {p l : Nat} {many : Int} {r : Res D} (e : h_law_draw [.obj p, .int many] S = r) (h : PoolS S p l) (h0 : 0 < many) (h1 : many.natAbs.log2 < 9000) : ∃ v S', r = .ok (.int v) S' ∧ 0 ≤ v ∧ v < many ∧ PoolS S' p l ∧ Fr (fun i => i = p) S S' := by
  obtain ⟨v, S', e2, h2⟩ := draw_ok h h0 h1
  exact ⟨v, S', e.symm.trans e2, h2⟩
theorem cutL_map {α β : Type} (f : α → β) (xs : List α) (lo hi : Option Int) : cutL (xs.map f) lo hi = (cutL xs lo hi).map f := by
  unfold cutL
  rw [List.length_map, List.map_take, List.map_drop]
theorem cutL_len {α : Type} (xs : List α) (lo hi : Option Int) : (cutL xs lo hi).length ≤ xs.length := by
  unfold cutL
  rw [List.length_take, List.length_drop]
  omega
theorem pool_ok (ns : List Int) (h : ns.length ≤ sizeLine) : ∃ S', h_law_pool [.kl (ns.map D.int)] [] = .ok (.obj 2) S' ∧ PoolS S' 2 1 ∧ S'.length = 3 := by
  unfold h_law_pool
  walk_at "env"
  unfold b_law_pool
  have h5 : (5 : Nat) ≤ sizeLine := by decide +kernel
  have hc : (cutL (ns.map D.int) none (some 63)).length ≤ sizeLine := Nat.le_trans (cutL_len _ _ _) (by rw [List.length_map]; exact h)
  walk_at "ev"
  rw [cutL_map] at hc ⊢
  generalize cutL ns none (some 63) = ms at hc ⊢
  generalize e : dLoop _ _ _ _ _ _ = r
  obtain ⟨ρ, S', rfl, rfl, _, salt, v, rfl⟩ := loop_use e (fun items ρ S => S = ([Ob.lst (ms.map D.int)] : Sto) ∧ (∀ d ∈ items, ∃ i, d = .int i) ∧ ∃ (salt : Int) (v : Option D), ρ = [some (.kl (ns.map D.int)), some (.int salt), v]) ⟨rfl, fun d hd => (by
      obtain ⟨i, _, e⟩ := List.mem_map.mp hd
      exact ⟨i, e.symm⟩), _, _, rfl⟩ (by
    rintro d r ρ S ⟨rfl, hd, salt, v, rfl⟩
    obtain ⟨i, rfl⟩ := hd d List.mem_cons_self
    refine ⟨_, rfl, ?_⟩
    walk_at "ev0"
    exact ⟨rfl, fun x hx => hd x (List.mem_cons_of_mem _ hx), _, _, rfl⟩)
  walk_at "ev"
  exact ⟨_, rfl, ⟨⟨ns, 0, 0, 0, salt, rfl, rfl, by omega⟩, by decide⟩, rfl⟩

/-! ### being the same -/
theorem same_int (n : Nat) (i : Int) (S : Sto) : h_law_same (n + 1) [.int i, .int i] S = .ok (.bl true) S := by
  show runD 2 3 (b_law_same (h_law_same n)) _ S = _
  walk_at "env"
  unfold b_law_same
  walk_at "ev0"
theorem same_str (n : Nat) (i : Str) (S : Sto) : h_law_same (n + 1) [.str i, .str i] S = .ok (.bl true) S := by
  show runD 2 3 (b_law_same (h_law_same n)) _ S = _
  walk_at "env"
  unfold b_law_same
  walk_at "ev0"
theorem same_bl (n : Nat) (i : Bool) (S : Sto) : h_law_same (n + 1) [.bl i, .bl i] S = .ok (.bl true) S := by
  show runD 2 3 (b_law_same (h_law_same n)) _ S = _
  walk_at "env"
  unfold b_law_same
  walk_at "ev0"
theorem same_non (n : Nat) (S : Sto) : h_law_same (n + 1) [.non, .non] S = .ok (.bl true) S := by
  show runD 2 3 (b_law_same (h_law_same n)) _ S = _
  walk_at "env"
  unfold b_law_same
  walk_at "ev0"
theorem same_tup (n : Nat) {as ds : List D} {S : Sto} (hl : ds.length ≤ sizeLine) (h : as.length = ds.length) (hi : ∀ (i : Nat) (a d : D), as[i]? = some a → ds[i]? = some d → h_law_same n [a, d] S = .ok (.bl true) S) :
    h_law_same (n + 1) [.tup as, .tup ds] S = .ok (.bl true) S := by
  show runD 2 3 (b_law_same (h_law_same n)) _ S = _
  walk_at "env"
  unfold b_law_same
  walk_at "ev0"
  rw [h]
  walk_at "ev0"
  simp only [Ev.okr2 hl]
  walk_at "ev0"
  generalize e : dLoop _ _ _ _ _ _ = r
  obtain ⟨ρ', S', rfl, rfl, v, rfl⟩ := loop_idx_nx e (fun _ ρ S1 => S1 = S ∧ ∃ v : Option D, ρ = [some (.tup as), some (.tup ds), v]) ⟨rfl, _, rfl⟩ (by
    rintro i d ρ S1 hd ⟨rfl, v, rfl⟩
    obtain ⟨hi1, rfl⟩ := rng_get hd
    rw [Int.toNat_natCast] at hi1
    have e1 : as[i]? = some as[i] := List.getElem?_eq_getElem (by omega)
    have e2 : ds[i]? = some ds[i] := List.getElem?_eq_getElem hi1
    have e3 := hi i _ _ e1 e2
    have e4 := atI_nat e1
    have e5 := atI_nat e2
    refine ⟨_, rfl, ?_⟩
    rw [Int.zero_add]
    clear e hd hi
    walk_at "ev"
    exact ⟨_, rfl⟩)
  walk_at "ev0"

theorem same_lst (f : Nat) {n m : Nat} {S : Sto} {xs : List D} (hn : S[n]? = some (.lst xs)) (hm : S[m]? = some (.lst xs)) (hl : xs.length ≤ sizeLine) (hi : ∀ d ∈ xs, h_law_same f [d, d] S = .ok (.bl true) S) : h_law_same (f + 1) [.obj n, .obj m] S = .ok (.bl true) S := by
  show runD 2 3 (b_law_same (h_law_same f)) _ S = _
  walk_at "env"
  unfold b_law_same
  walk_at "ev0"
  iterate 40 (first | simp only [hn, hm] | walk_at "ev0" | skip)

  simp only [Ev.okr2 hl]
  walk_at "ev0"
  generalize e : dLoop _ _ _ _ _ _ = r
  obtain ⟨ρ', S', rfl, rfl, v, rfl⟩ := loop_idx_nx e (fun _ ρ S1 => S1 = S ∧ ∃ v : Option D, ρ = [some (.obj n), some (.obj m), v]) ⟨rfl, _, rfl⟩ (by
    rintro i d ρ S1 hd ⟨rfl, v, rfl⟩
    obtain ⟨hi1, rfl⟩ := rng_get hd
    rw [Int.toNat_natCast] at hi1
    have e1 : xs[i]? = some xs[i] := List.getElem?_eq_getElem hi1
    have e3 := hi xs[i] (List.mem_of_getElem? e1)
    have e4 := atI_nat e1
    refine ⟨_, rfl, ?_⟩
    rw [Int.zero_add]
    clear e hd hi
    walk_at "ev0"
    iterate 30 (first | simp only [hn, hm, e4, e3] | walk_at "ev0" | skip)
    exact ⟨_, rfl⟩)
  walk_at "ev0"

/-! ### a Store -/
abbrev Row := Int × Int × Int
/-- the object of a Store at n whose choices stand at ch -/
def inSt (n ch : Nat) : Ob := .ins "Store" [("_levels", .obj (n + 1)), ("_lows", .obj (n + 2)), ("_highs", .obj (n + 3)), ("_references", .obj (n + 4)), ("_chosen", .obj ch)]
section
variable {n ch : Nat} {S : Sto}
theorem st_levels : fldO "Store" "_levels" S (some (inSt n ch)) = .ok (.obj (n + 1)) S := by unfold inSt; simp +decide only [Ev.fldO1, fldL, Ev.fldR1, if_true, if_false]
theorem st_lows : fldO "Store" "_lows" S (some (inSt n ch)) = .ok (.obj (n + 2)) S := by unfold inSt; simp +decide only [Ev.fldO1, fldL, Ev.fldR1, if_true, if_false]
theorem st_highs : fldO "Store" "_highs" S (some (inSt n ch)) = .ok (.obj (n + 3)) S := by unfold inSt; simp +decide only [Ev.fldO1, fldL, Ev.fldR1, if_true, if_false]
theorem st_refs : fldO "Store" "_references" S (some (inSt n ch)) = .ok (.obj (n + 4)) S := by unfold inSt; simp +decide only [Ev.fldO1, fldL, Ev.fldR1, if_true, if_false]
theorem st_chosen : fldO "Store" "_chosen" S (some (inSt n ch)) = .ok (.obj ch) S := by unfold inSt; simp +decide only [Ev.fldO1, fldL, Ev.fldR1, if_true, if_false]
theorem st_met {m : Str} (h : fldL [("_levels", .obj (n + 1)), ("_lows", .obj (n + 2)), ("_highs", .obj (n + 3)), ("_references", .obj (n + 4)), ("_chosen", .obj ch)] m = none) : metO "Store" m (some (inSt n ch)) = true := by
  unfold inSt
  rw [Ev.metO1, h]
  rfl
theorem stm_node : metO "Store" "node" (some (inSt n ch)) = true := st_met (by simp +decide only [fldL, if_false])
theorem stm_coin : metO "Store" "coin" (some (inSt n ch)) = true := st_met (by simp +decide only [fldL, if_false])
end
/-- a row as a key; the references of rows, the first one's reference k -/
def Row.key (r : Row) : List Key := [.inl r.1, .inl r.2.1, .inl r.2.2]
def refsF : Nat → List Row → List (List Key × D)
  | _, [] => []
  | k, r :: rs => (r.key, .int (k : Int)) :: refsF (k + 1) rs
theorem Row.key_inj {r q : Row} : r.key = q.key ↔ r = q := by
  constructor
  · intro h
    obtain ⟨a, b, c⟩ := r
    obtain ⟨x, y, z⟩ := q
    simp only [Row.key, List.cons.injEq, Sum.inl.injEq, and_true] at h
    obtain ⟨rfl, rfl, rfl⟩ := h
    rfl
  · intro h; rw [h]
/-- the place of a row -/
def rowAt (q : Row) : List Row → Option Nat
  | [] => none
  | r :: rs => if r = q then some 0 else (rowAt q rs).map (· + 1)
theorem rowAt_some {q : Row} : ∀ {rs : List Row} {i : Nat}, rowAt q rs = some i → rs[i]? = some q
  | [], _, h => nomatch h
  | r :: rs, i, h => by
    unfold rowAt at h
    split at h
    · rename_i e
      cases Option.some.inj h
      rw [e]; rfl
    · obtain ⟨j, h1, rfl⟩ := Option.map_eq_some_iff.mp h
      exact rowAt_some (rs := rs) h1
theorem rowAt_none {q : Row} : ∀ {rs : List Row}, rowAt q rs = none → q ∉ rs
  | [], _ => List.not_mem_nil
  | r :: rs, h => by
    unfold rowAt at h
    split at h
    · cases h
    · rename_i e
      intro hm
      rcases List.mem_cons.mp hm with z | z
      · exact e z.symm
      · exact rowAt_none (rs := rs) (by simpa using h) z
theorem rowAt_mem {q : Row} : ∀ {rs : List Row}, q ∈ rs → ∃ i, rowAt q rs = some i
  | r :: rs, h => by
    unfold rowAt
    split
    · exact ⟨0, rfl⟩
    · rename_i e
      rcases List.mem_cons.mp h with z | z
      · exact absurd z.symm e
      · obtain ⟨i, hi⟩ := rowAt_mem z
        exact ⟨i + 1, by rw [hi]; rfl⟩
theorem rowAt_app {q r : Row} : ∀ {rs : List Row} {i : Nat}, rowAt q rs = some i → rowAt q (rs ++ [r]) = some i
  | p :: rs, i, h => by
    rw [List.cons_append]
    unfold rowAt at h ⊢
    split at h
    · rename_i e; rw [if_pos e]; exact h
    · rename_i e
      rw [if_neg e]
      obtain ⟨j, h1, rfl⟩ := Option.map_eq_some_iff.mp h
      rw [rowAt_app h1]; rfl
theorem rowAt_new {q : Row} : ∀ {rs : List Row}, q ∉ rs → rowAt q (rs ++ [q]) = some rs.length
  | [], _ => by unfold rowAt; rw [List.nil_append]; exact if_pos rfl
  | p :: rs, h => by
    rw [List.cons_append]
    unfold rowAt
    rw [if_neg fun e => h (by rw [e]; exact List.mem_cons_self), rowAt_new fun z => h (List.mem_cons_of_mem _ z)]
    rfl
theorem refsF_get (q : Row) : ∀ (rs : List Row) (k : Nat), getD (refsF k rs) q.key = (rowAt q rs).map fun i => D.int ((k + i : Nat) : Int)
  | [], k => rfl
  | r :: rs, k => by
    unfold refsF rowAt
    by_cases h : r = q
    · rw [getD_pos (by show r.key = q.key; rw [h]), if_pos h]
      rfl
    · rw [getD_neg (fun e => h (Row.key_inj.mp e)), if_neg h, refsF_get q rs (k + 1)]
      cases rowAt q rs with
      | none => rfl
      | some i => show some (D.int ((k + 1 + i : Nat) : Int)) = some (D.int ((k + (i + 1) : Nat) : Int)); rw [Nat.add_right_comm, Nat.add_assoc]
theorem refsF_app (r : Row) : ∀ (rs : List Row) (k : Nat), refsF k (rs ++ [r]) = refsF k rs ++ [(r.key, D.int ((k + rs.length : Nat) : Int))]
  | [], k => rfl
  | p :: rs, k => by
    rw [List.cons_append]
    unfold refsF
    rw [refsF_app r rs (k + 1), List.cons_append, List.length_cons, Nat.add_right_comm k 1, Nat.add_assoc k rs.length 1]
theorem refsF_put {q : Row} {rs : List Row} {k : Nat} (h : rowAt q rs = none) : putD (refsF k rs) q.key (D.int ((k + rs.length : Nat) : Int)) = refsF k (rs ++ [q]) := by
  unfold putD
  have e : ((refsF k rs).any fun p => decide (p.1 = q.key)) = false := by
    rw [Bool.eq_false_iff]
    intro z
    have g := refsF_get q rs k
    rw [h] at g
    unfold getD at g
    rw [Option.map_none, Option.map_eq_none_iff, List.find?_eq_none] at g
    obtain ⟨p, hp, hq⟩ := List.any_eq_true.mp z
    exact g p hp hq
  rw [if_neg (by rw [e]; decide), refsF_app]
theorem refsF_len : ∀ (rs : List Row) (k : Nat), (refsF k rs).length = rs.length
  | [], _ => rfl
  | r :: rs, k => by unfold refsF; rw [List.length_cons, List.length_cons, refsF_len rs]
def lvD (rs : List Row) : List D := .int (-1) :: .int (-1) :: rs.map fun r => .int r.1
def loD (rs : List Row) : List D := .int 0 :: .int 1 :: rs.map fun r => .int r.2.1
def hiD (rs : List Row) : List D := .int 0 :: .int 1 :: rs.map fun r => .int r.2.2
/-- a Store at n with the rows rs and the choices cs at ch -/
structure StAt (S : Sto) (n : Nat) (rs : List Row) (ch : Nat) (cs : List (List Key × D)) : Prop where
  ob : S[n]? = some (inSt n ch)
  lv : S[n + 1]? = some (.lst (lvD rs))
  lo : S[n + 2]? = some (.lst (loD rs))
  hi : S[n + 3]? = some (.lst (hiD rs))
  rf : S[n + 4]? = some (.dt (refsF 2 rs))
  cc : S[ch]? = some (.dt cs)
  gt : n + 4 < ch
/-- what of the memory a Store is -/
def StX (n ch : Nat) (i : Nat) : Prop := (n ≤ i ∧ i ≤ n + 4) ∨ i = ch
theorem StAt.fr {S S' : Sto} {n ch : Nat} {rs : List Row} {cs : List (List Key × D)} {X : Nat → Prop} (h : StAt S n rs ch cs) (f : Fr X S S') (hx : ∀ i, StX n ch i → ¬X i) : StAt S' n rs ch cs :=
  ⟨f.at h.ob (hx _ (.inl ⟨by omega, by omega⟩)), f.at h.lv (hx _ (.inl ⟨by omega, by omega⟩)), f.at h.lo (hx _ (.inl ⟨by omega, by omega⟩)), f.at h.hi (hx _ (.inl ⟨by omega, by omega⟩)), f.at h.rf (hx _ (.inl ⟨by omega, by omega⟩)), f.at h.cc (hx _ (.inr rfl)), h.gt⟩
theorem StAt.add {S : Sto} {n ch : Nat} {rs : List Row} {cs : List (List Key × D)} {o : Ob} (h : StAt S n rs ch cs) : StAt (S ++ [o]) n rs ch cs := h.fr (Fr.refl.add (X := fun _ => False) o) fun _ _ z => z
theorem StAt.set {S : Sto} {n ch k : Nat} {rs : List Row} {cs : List (List Key × D)} {o : Ob} (h : StAt S n rs ch cs) (hx : ¬ StX n ch k) : StAt (S.set k o) n rs ch cs := h.fr (Fr.refl.set (X := fun i => i = k) o fun _ => rfl) fun i hi e => hx (by rw [← e]; exact hi)
theorem ap_get {S L : Sto} {i : Nat} : (S ++ L)[S.length + i]? = L[i]? := by
  rw [List.getElem?_append_right (Nat.le_add_right _ _), Nat.add_sub_cancel_left]
theorem ap_get0 {S L : Sto} : (S ++ L)[S.length]? = L[0]? := ap_get (i := 0)
theorem ap_set {S L : Sto} {i : Nat} {o : Ob} : (S ++ L).set (S.length + i) o = S ++ L.set i o := by
  rw [List.set_append_right _ _ (Nat.le_add_right _ _), Nat.add_sub_cancel_left]
theorem ap_set0 {S L : Sto} {o : Ob} : (S ++ L).set S.length o = S ++ L.set 0 o := ap_set (i := 0)
/-- Store() -/
theorem init_ok (S : Sto) : ∃ S', h_Store___init__ [.obj S.length] (S ++ [Ob.ins "Store" []]) = .ok .non S' ∧ StAt S' S.length [] (S.length + 5) [] ∧ Fr (fun _ => False) S S' ∧ S'.length = S.length + 6 := by
  unfold h_Store___init__
  walk_at "env"
  unfold b_Store___init__
  have h2 : (2 : Nat) ≤ sizeLine := by decide +kernel
  repeat (first | simp +decide only [List.append_assoc, ap_get, ap_get0, ap_set, ap_set0, putFD, if_true, if_false, Nat.lt_irrefl, List.length_append, List.length_cons, List.length_nil] | walk_at "ev0")
  refine ⟨_, rfl, ⟨ap_get0, ap_get, ap_get, ap_get, ap_get, ap_get, by omega⟩, ⟨by rw [List.length_append]; omega, fun i hi _ => by rw [List.getElem?_append_left hi]⟩, ?_⟩
  simp only [List.length_append, List.length_cons, List.length_nil]

/-- what node() gives: the reference, and the rows then -/
def nodeR (rs : List Row) (q : Row) : Int × List Row := if q.2.1 = q.2.2 then (q.2.1, rs) else match rowAt q rs with
  | some i => (((2 + i : Nat) : Int), rs)
  | none => (((2 + rs.length : Nat) : Int), rs ++ [q])
theorem nodeR_same {rs : List Row} {q : Row} (h : q.2.1 = q.2.2) : nodeR rs q = (q.2.1, rs) := if_pos h
theorem nodeR_old {rs : List Row} {q : Row} {i : Nat} (h : ¬ q.2.1 = q.2.2) (e : rowAt q rs = some i) : nodeR rs q = (((2 + i : Nat) : Int), rs) := by unfold nodeR; rw [if_neg h, e]
theorem nodeR_new {rs : List Row} {q : Row} (h : ¬ q.2.1 = q.2.2) (e : rowAt q rs = none) : nodeR rs q = (((2 + rs.length : Nat) : Int), rs ++ [q]) := by unfold nodeR; rw [if_neg h, e]
theorem lvD_len (rs : List Row) : (lvD rs).length = 2 + rs.length := by unfold lvD; simp only [List.length_cons, List.length_map]; omega
theorem loD_len (rs : List Row) : (loD rs).length = 2 + rs.length := by unfold loD; simp only [List.length_cons, List.length_map]; omega
theorem hiD_len (rs : List Row) : (hiD rs).length = 2 + rs.length := by unfold hiD; simp only [List.length_cons, List.length_map]; omega
theorem lvD_app (rs : List Row) (q : Row) : lvD rs ++ [.int q.1] = lvD (rs ++ [q]) := by unfold lvD; rw [List.map_append]; rfl
theorem loD_app (rs : List Row) (q : Row) : loD rs ++ [.int q.2.1] = loD (rs ++ [q]) := by unfold loD; rw [List.map_append]; rfl
theorem hiD_app (rs : List Row) (q : Row) : hiD rs ++ [.int q.2.2] = hiD (rs ++ [q]) := by unfold hiD; rw [List.map_append]; rfl
theorem node_ok {S : Sto} {n ch : Nat} {rs : List Row} {cs : List (List Key × D)} (h : StAt S n rs ch cs) (l a b : Int) (hl : rs.length < 16000000) :
    ∃ S', h_Store_node [.obj n, .int l, .int a, .int b] S = .ok (.int (nodeR rs (l, a, b)).1) S' ∧ StAt S' n (nodeR rs (l, a, b)).2 ch cs ∧ Fr (StX n ch) S S' := by
  have sl := sizeLine_eq
  have h3 : (3 : Nat) ≤ sizeLine := by omega
  unfold h_Store_node
  walk_at "env"
  unfold b_Store_node
  by_cases e : a = b
  · subst e
    rw [nodeR_same rfl]
    walk_at "ev0"
    exact ⟨_, rfl, h, Fr.refl⟩
  · have ek : ([Sum.inl l, Sum.inl a, Sum.inl b] : List Key) = Row.key (l, a, b) := rfl
    have g := refsF_get (l, a, b) rs 2
    cases ea0 : rowAt (l, a, b) rs with
    | some i =>
      rw [nodeR_old e ea0]
      rw [ea0] at g
      rw [Option.map_some] at g
      repeat (first | simp only [decide_eq_false e, h.ob, h.rf, st_refs, ek, g] | walk_at "ev0")
      exact ⟨_, rfl, h, Fr.refl⟩
    | none =>
      rw [nodeR_new e ea0]
      rw [ea0] at g
      have l1 : (lvD rs).length < sizeLine := by rw [lvD_len]; omega
      have l2 : (loD rs).length < sizeLine := by rw [loD_len]; omega
      have l3 : (hiD rs).length < sizeLine := by rw [hiD_len]; omega
      have l4 : (refsF 2 rs).length < sizeLine := by rw [refsF_len]; omega
      rw [Option.map_none] at g
      have gt := h.gt
      have n4 : n < S.length := lt_of_get h.ob
      have ea : n + 4 ≠ n := by omega
      have eb : n + 4 ≠ n + 1 := by omega
      have ec : n + 4 ≠ n + 2 := by omega
      have ed : n + 4 ≠ n + 3 := by omega
      have fa : n + 1 ≠ n := by omega
      have fb : n + 1 ≠ n + 2 := by omega
      have fc : n + 1 ≠ n + 3 := by omega
      have fd : n + 1 ≠ n + 4 := by omega
      have ga : n + 2 ≠ n := by omega
      have gb : n + 2 ≠ n + 3 := by omega
      have gd : n + 2 ≠ n + 4 := by omega
      have ha : n + 3 ≠ n := by omega
      have hb : n + 3 ≠ n + 4 := by omega
      have e1 : (lvD rs).length = 2 + rs.length := lvD_len rs
      have l5 : 2 + rs.length < sizeLine := by omega
      have g2 := refsF_get (l, a, b) (rs ++ [(l, a, b)]) 2
      have g3 := refsF_put (k := 2) ea0
      rw [rowAt_new (rowAt_none ea0), Option.map_some] at g2
      repeat (first | simp only [decide_eq_false e, h.ob, h.rf, h.lv, h.lo, h.hi, st_refs, st_levels, st_lows, st_highs, ek, g, g2, g3, e1, if_pos l5, if_pos l4, loD_len, hiD_len, Option.map_none, Ev.setNe, ea, eb, ec, ed, fa, fb, fc, fd, ga, gb, gd, ha, hb, ne_eq, not_false_eq_true] | walk_at "ev0")
      refine ⟨_, rfl, ?_, ?_⟩
      · have z1 : n + 3 ≠ n + 1 := by omega
        have z2 : n + 2 ≠ n + 1 := by omega
        have z3 : n + 3 ≠ n + 2 := by omega
        have q1 := get_put (o' := Ob.lst (lvD rs ++ [D.int l])) ((get_put_ne (o' := Ob.dt (refsF 2 (rs ++ [(l, a, b)]))) eb).trans h.lv)
        have q2 := get_put (o' := Ob.lst (loD rs ++ [D.int a])) ((get_put_ne (o' := Ob.lst (lvD rs ++ [D.int l])) fb).trans ((get_put_ne (o' := Ob.dt (refsF 2 (rs ++ [(l, a, b)]))) ec).trans h.lo))
        have q3 := get_put (o' := Ob.lst (hiD rs ++ [D.int b])) ((get_put_ne (o' := Ob.lst (loD rs ++ [D.int a])) gb).trans ((get_put_ne (o' := Ob.lst (lvD rs ++ [D.int l])) fc).trans ((get_put_ne (o' := Ob.dt (refsF 2 (rs ++ [(l, a, b)]))) ed).trans h.hi)))
        refine ⟨?_, ?_, ?_, ?_, ?_, ?_, gt⟩
        · exact (get_put_ne ha).trans ((get_put_ne ga).trans ((get_put_ne fa).trans ((get_put_ne ea).trans h.ob)))
        · rw [get_put_ne z1, get_put_ne z2, q1, ← lvD_app]
        · rw [get_put_ne z3, q2, ← loD_app]
        · rw [q3, ← hiD_app]
        · exact (get_put_ne hb).trans ((get_put_ne gd).trans ((get_put_ne fd).trans (get_put h.rf)))
        · exact (get_put_ne (by omega)).trans ((get_put_ne (by omega)).trans ((get_put_ne (by omega)).trans ((get_put_ne (by omega)).trans h.cc)))
      · exact (((Fr.refl.set _ fun _ => .inl ⟨by omega, by omega⟩).set _ fun _ => .inl ⟨by omega, by omega⟩).set _ fun _ => .inl ⟨by omega, by omega⟩).set _ fun _ => .inl ⟨by omega, by omega⟩
theorem coin_ok {S : Sto} {n ch : Nat} {rs : List Row} {cs : List (List Key × D)} (h : StAt S n rs ch cs) (l : Int) (hl : rs.length < 16000000) :
    ∃ S', h_Store_coin [.obj n, .int l] S = .ok (.int (nodeR rs (l, 0, 1)).1) S' ∧ StAt S' n (nodeR rs (l, 0, 1)).2 ch cs ∧ Fr (StX n ch) S S' := by
  obtain ⟨S', e, h', f⟩ := node_ok h l 0 1 hl
  unfold h_Store_coin
  walk_at "env"
  unfold b_Store_coin
  repeat (first | simp only [h.ob, stm_node, e, if_true] | walk_at "ev0")
  exact ⟨_, rfl, h', f⟩
/-- the place of a node -/
theorem lvD_at {rs : List Row} {i : Nat} {q : Row} (h : rs[i]? = some q) : atI (lvD rs) ((2 + i : Nat) : Int) = some (.int q.1) := atI_nat (by
  unfold lvD
  rw [Nat.add_comm 2 i, List.getElem?_cons_succ, List.getElem?_cons_succ, List.getElem?_map, h]; rfl)
theorem loD_at {rs : List Row} {i : Nat} {q : Row} (h : rs[i]? = some q) : atI (loD rs) ((2 + i : Nat) : Int) = some (.int q.2.1) := atI_nat (by
  unfold loD
  rw [Nat.add_comm 2 i, List.getElem?_cons_succ, List.getElem?_cons_succ, List.getElem?_map, h]; rfl)
theorem hiD_at {rs : List Row} {i : Nat} {q : Row} (h : rs[i]? = some q) : atI (hiD rs) ((2 + i : Nat) : Int) = some (.int q.2.2) := atI_nat (by
  unfold hiD
  rw [Nat.add_comm 2 i, List.getElem?_cons_succ, List.getElem?_cons_succ, List.getElem?_map, h]; rfl)

/-! ### rows as functions -/
def evStep (β : Int → Bool) (acc : List Bool) (q : Row) : List Bool := acc ++ [acc.getD (if β q.1 = true then q.2.2 else q.2.1).toNat false]
def evs (β : Int → Bool) (rs : List Row) : List Bool := rs.foldl (evStep β) [false, true]
theorem getD_left {l m : List Bool} {i : Nat} (h : i < l.length) : (l ++ m).getD i false = l.getD i false := by
  rw [List.getD_eq_getElem?_getD, List.getD_eq_getElem?_getD, List.getElem?_append_left h]
theorem getD_right {l m : List Bool} {i : Nat} (h : l.length ≤ i) : (l ++ m).getD i false = m.getD (i - l.length) false := by
  rw [List.getD_eq_getElem?_getD, List.getD_eq_getElem?_getD, List.getElem?_append_right h]
/-- the value of a reference -/
def val (rs : List Row) (β : Int → Bool) (r : Int) : Bool := (evs β rs).getD r.toNat false
theorem evs_app {β : Int → Bool} {rs : List Row} {q : Row} : evs β (rs ++ [q]) = evStep β (evs β rs) q := by
  unfold evs
  rw [List.foldl_append]
  rfl
theorem evs_len (β : Int → Bool) (rs : List Row) : (evs β rs).length = 2 + rs.length := by
  have key : ∀ (rs : List Row) (acc : List Bool), (rs.foldl (evStep β) acc).length = acc.length + rs.length := by
    intro rs
    induction rs with
    | nil => intro acc; rfl
    | cons q rs ih =>
      intro acc
      rw [List.foldl_cons, ih]
      unfold evStep
      rw [List.length_append, List.length_cons]
      show acc.length + 1 + rs.length = acc.length + (rs.length + 1)
      omega
  exact key rs _
theorem evs_pre (β : Int → Bool) (rs : List Row) : ∀ ts : List Row, ∃ zs, evs β (rs ++ ts) = evs β rs ++ zs := by
  intro ts
  unfold evs
  rw [List.foldl_append]
  generalize rs.foldl (evStep β) [false, true] = acc
  induction ts generalizing acc with
  | nil => exact ⟨[], (List.append_nil _).symm⟩
  | cons q ts ih =>
    obtain ⟨zs, h⟩ := ih (evStep β acc q)
    rw [List.foldl_cons, h]
    unfold evStep
    exact ⟨_, List.append_assoc _ _ _⟩
/-- a reference of the rows -/
structure Rf (rs : List Row) (r : Int) : Prop where
  lo : 0 ≤ r
  hi : r < ((2 + rs.length : Nat) : Int)
theorem Rf.zero {rs : List Row} : Rf rs 0 := ⟨by omega, by omega⟩
theorem Rf.one {rs : List Row} : Rf rs 1 := ⟨by omega, by omega⟩
theorem Rf.ext {rs ts : List Row} {r : Int} (h : Rf rs r) : Rf (rs ++ ts) r := ⟨h.lo, by rw [List.length_append]; have := h.hi; omega⟩
theorem Rf.cases {rs : List Row} {r : Int} (h : Rf rs r) : r = 0 ∨ r = 1 ∨ ∃ (i : Nat) (q : Row), r = ((2 + i : Nat) : Int) ∧ rs[i]? = some q := by
  by_cases h2 : r < 2
  · have := h.lo
    omega
  · right; right
    obtain ⟨j, rfl⟩ := Int.eq_ofNat_of_zero_le h.lo
    have hj : 2 ≤ j := by omega
    have hl : j - 2 < rs.length := by have := h.hi; omega
    exact ⟨j - 2, _, by congr 1; omega, List.getElem?_eq_getElem hl⟩
theorem Rf.node {rs : List Row} {i : Nat} {q : Row} (h : rs[i]? = some q) : Rf rs ((2 + i : Nat) : Int) := ⟨by omega, by have := lt_of_get h; omega⟩
theorem val_ext {rs ts : List Row} {β : Int → Bool} {r : Int} (h : Rf rs r) : val (rs ++ ts) β r = val rs β r := by
  obtain ⟨zs, e⟩ := evs_pre β rs ts
  unfold val
  rw [e, getD_left (by rw [evs_len]; have := h.lo; have := h.hi; omega)]
theorem val_zero {rs : List Row} {β : Int → Bool} : val rs β 0 = false := by
  have := val_ext (ts := rs) (β := β) (Rf.zero (rs := []))
  rw [List.nil_append] at this
  rw [this]
  rfl
theorem val_one {rs : List Row} {β : Int → Bool} : val rs β 1 = true := by
  have := val_ext (ts := rs) (β := β) (Rf.one (rs := []))
  rw [List.nil_append] at this
  rw [this]
  rfl
/-- the level of a reference -/
def lvl (rs : List Row) (r : Int) : Option Int := if r < 2 then none else (rs[(r - 2).toNat]?).map (·.1)
theorem lvl_const {rs : List Row} {r : Int} (h : r < 2) : lvl rs r = none := if_pos h
theorem lvl_node {rs : List Row} {i : Nat} {q : Row} (h : rs[i]? = some q) : lvl rs ((2 + i : Nat) : Int) = some q.1 := by
  unfold lvl
  rw [if_neg (by omega), show (((2 + i : Nat) : Int) - 2).toNat = i by omega, h]
  rfl
theorem lvl_ext {rs ts : List Row} {r : Int} (h : Rf rs r) : lvl (rs ++ ts) r = lvl rs r := by
  rcases h.cases with rfl | rfl | ⟨i, q, rfl, hq⟩
  · rfl
  · rfl
  · rw [lvl_node hq, lvl_node (by rw [List.getElem?_append_left (lt_of_get hq)]; exact hq)]
/-- all that a reference asks for stands behind the level l -/
def Above (rs : List Row) (l : Int) (r : Int) : Prop := ∀ l', lvl rs r = some l' → l < l'
theorem Above.ext {rs ts : List Row} {l r : Int} (h : Above rs l r) (hr : Rf rs r) : Above (rs ++ ts) l r := fun l' e => h l' (by rw [← lvl_ext hr]; exact e)
theorem Above.const {rs : List Row} {l r : Int} (h : r < 2) : Above rs l r := fun l' e => by rw [lvl_const h] at e; cases e
theorem Above.mono {rs : List Row} {l k r : Int} (h : Above rs l r) (hk : k ≤ l) : Above rs k r := fun l' e => Int.lt_of_le_of_lt hk (h l' e)
structure Wf (rs : List Row) : Prop where
  nodup : rs.Nodup
  pos : ∀ (i : Nat) (q : Row), rs[i]? = some q → 0 ≤ q.1
  lo : ∀ (i : Nat) (q : Row), rs[i]? = some q → 0 ≤ q.2.1 ∧ q.2.1 < ((2 + i : Nat) : Int)
  hi : ∀ (i : Nat) (q : Row), rs[i]? = some q → 0 ≤ q.2.2 ∧ q.2.2 < ((2 + i : Nat) : Int)
  ne : ∀ (i : Nat) (q : Row), rs[i]? = some q → q.2.1 ≠ q.2.2
  alo : ∀ (i : Nat) (q : Row), rs[i]? = some q → Above rs q.1 q.2.1
  ahi : ∀ (i : Nat) (q : Row), rs[i]? = some q → Above rs q.1 q.2.2
theorem Wf.nil : Wf [] := ⟨List.nodup_nil, nofun, nofun, nofun, nofun, nofun, nofun⟩
theorem Wf.rlo {rs : List Row} (w : Wf rs) {i : Nat} {q : Row} (h : rs[i]? = some q) : Rf rs q.2.1 := ⟨(w.lo i q h).1, by have := (w.lo i q h).2; have := lt_of_get h; omega⟩
theorem Wf.rhi {rs : List Row} (w : Wf rs) {i : Nat} {q : Row} (h : rs[i]? = some q) : Rf rs q.2.2 := ⟨(w.hi i q h).1, by have := (w.hi i q h).2; have := lt_of_get h; omega⟩
theorem val_node {rs : List Row} (w : Wf rs) {i : Nat} {q : Row} (h : rs[i]? = some q) (β : Int → Bool) : val rs β ((2 + i : Nat) : Int) = if β q.1 = true then val rs β q.2.2 else val rs β q.2.1 := by
  have hi := lt_of_get h
  have e1 : rs = (rs.take i ++ [q]) ++ rs.drop (i + 1) := by
    conv => lhs; rw [← List.take_append_drop (i + 1) rs]
    rw [List.take_add_one, h]
    rfl
  have l1 : (rs.take i).length = i := by rw [List.length_take]; omega
  have key : ∀ r : Int, Rf (rs.take i) r → val rs β r = val (rs.take i) β r := fun r hr => by
    conv => lhs; rw [e1]
    rw [List.append_assoc]
    exact val_ext hr
  have rl : Rf (rs.take i) q.2.1 := ⟨(w.lo i q h).1, by rw [l1]; exact (w.lo i q h).2⟩
  have rh : Rf (rs.take i) q.2.2 := ⟨(w.hi i q h).1, by rw [l1]; exact (w.hi i q h).2⟩
  rw [key _ rl, key _ rh]
  conv => lhs; rw [e1]
  rw [val_ext ⟨by omega, by rw [List.length_append, l1]; show _ < ((2 + (i + 1) : Nat) : Int); omega⟩]
  unfold val
  rw [evs_app]
  unfold evStep
  rw [getD_right (by rw [evs_len, l1]; omega), evs_len, l1, show (((2 + i : Nat) : Int).toNat - (2 + i)) = 0 by omega]
  by_cases hb : β q.1 = true
  · rw [if_pos hb, if_pos hb]; rfl
  · rw [if_neg hb, if_neg hb]; rfl
/-- an assignment with another value at a level -/
def bput (β : Int → Bool) (l : Int) (x : Bool) : Int → Bool := fun k => if k = l then x else β k
theorem indep {rs : List Row} (w : Wf rs) (l : Int) : ∀ (n : Nat) (r : Int), r.toNat < n → Rf rs r → Above rs l r → ∀ β γ : Int → Bool, (∀ k, l < k → β k = γ k) → val rs β r = val rs γ r
  | 0, _, h, _, _, _, _, _ => absurd h (Nat.not_lt_zero _)
  | n + 1, r, h, hr, ha, β, γ, e => by
    rcases hr.cases with rfl | rfl | ⟨i, q, rfl, hq⟩
    · rw [val_zero, val_zero]
    · rw [val_one, val_one]
    · have hl := ha _ (lvl_node hq)
      rw [val_node w hq, val_node w hq, e _ hl]
      have h1 := indep w l n q.2.1 (by have := w.lo i q hq; omega) (w.rlo hq) ((w.alo i q hq).mono (Int.le_of_lt hl)) β γ e
      have h2 := indep w l n q.2.2 (by have := w.hi i q hq; omega) (w.rhi hq) ((w.ahi i q hq).mono (Int.le_of_lt hl)) β γ e
      rw [h1, h2]
theorem val_bput {rs : List Row} (w : Wf rs) {l r : Int} (hr : Rf rs r) (ha : Above rs l r) (β : Int → Bool) (x : Bool) : val rs (bput β l x) r = val rs β r :=
  indep w l _ r (Nat.lt_succ_self _) hr ha _ _ fun k hk => if_neg (by omega)
/-- a reference for each function -/
theorem canon {rs : List Row} (w : Wf rs) : ∀ (n : Nat) (r s : Int), r.toNat < n → s.toNat < n → Rf rs r → Rf rs s → (∀ β, val rs β r = val rs β s) → r = s := by
  intro n
  induction n with
  | zero => intro r s h; exact absurd h (Nat.not_lt_zero _)
  | succ n ih =>
    -- a node whose other one stands behind its level
    have one : ∀ (i : Nat) (q : Row) (s : Int), rs[i]? = some q → ((2 + i : Nat) : Int).toNat < n + 1 → Rf rs s → Above rs q.1 s → (∀ β, val rs β ((2 + i : Nat) : Int) = val rs β s) → False := by
      intro i q s hq hi hs ha e
      refine w.ne i q hq (ih q.2.1 q.2.2 (by have := w.lo i q hq; omega) (by have := w.hi i q hq; omega) (w.rlo hq) (w.rhi hq) fun β => ?_)
      have h1 := e (bput β q.1 false)
      have h2 := e (bput β q.1 true)
      rw [val_node w hq, val_bput w hs ha] at h1 h2
      rw [if_neg (by unfold bput; rw [if_pos rfl]; decide), val_bput w (w.rlo hq) (w.alo i q hq)] at h1
      rw [if_pos (by unfold bput; rw [if_pos rfl]), val_bput w (w.rhi hq) (w.ahi i q hq)] at h2
      rw [h1, h2]
    intro r s hr hs fr fs e
    rcases fr.cases with rfl | rfl | ⟨i, q, rfl, hq⟩
    · rcases fs.cases with rfl | rfl | ⟨j, p, rfl, hp⟩
      · rfl
      · have := e fun _ => false
        rw [val_zero, val_one] at this
        cases this
      · exact (one j p 0 hp hs fr (Above.const (by decide)) fun β => (e β).symm).elim
    · rcases fs.cases with rfl | rfl | ⟨j, p, rfl, hp⟩
      · have := e fun _ => false
        rw [val_zero, val_one] at this
        cases this
      · rfl
      · exact (one j p 1 hp hs fr (Above.const (by decide)) fun β => (e β).symm).elim
    · rcases fs.cases with rfl | rfl | ⟨j, p, rfl, hp⟩
      · exact (one i q 0 hq hr fs (Above.const (by decide)) e).elim
      · exact (one i q 1 hq hr fs (Above.const (by decide)) e).elim
      · rcases Int.lt_trichotomy q.1 p.1 with h | h | h
        · exact (one i q _ hq hr fs (fun l' el => by rw [lvl_node hp] at el; cases Option.some.inj el; exact h) e).elim
        · have e2 : ∀ (x : Bool) (β : Int → Bool), (if x = true then val rs β q.2.2 else val rs β q.2.1) = (if x = true then val rs β p.2.2 else val rs β p.2.1) := fun x β => by
            have h1 := e (bput β q.1 x)
            rw [val_node w hq, val_node w hp, ← h] at h1
            have hx : bput β q.1 x q.1 = x := if_pos rfl
            rw [hx, val_bput w (w.rlo hq) (w.alo i q hq), val_bput w (w.rhi hq) (w.ahi i q hq), val_bput w (w.rlo hp) (h ▸ w.alo j p hp), val_bput w (w.rhi hp) (h ▸ w.ahi j p hp)] at h1
            exact h1
          have k1 := ih q.2.1 p.2.1 (by have := w.lo i q hq; omega) (by have := w.lo j p hp; omega) (w.rlo hq) (w.rlo hp) fun β => by simpa using e2 false β
          have k2 := ih q.2.2 p.2.2 (by have := w.hi i q hq; omega) (by have := w.hi j p hp; omega) (w.rhi hq) (w.rhi hp) fun β => by simpa using e2 true β
          have eq : q = p := Prod.ext h (Prod.ext k1 k2)
          subst eq
          have hij : i = j := (List.getElem?_inj (lt_of_get hq) w.nodup).mp (hq.trans hp.symm)
          rw [hij]
        · exact (one j p _ hp hs fr (fun l' el => by rw [lvl_node hq] at el; cases Option.some.inj el; exact h) fun β => (e β).symm).elim
theorem canon' {rs : List Row} (w : Wf rs) {r s : Int} (fr : Rf rs r) (fs : Rf rs s) (e : ∀ β, val rs β r = val rs β s) : r = s :=
  canon w (max r.toNat s.toNat + 1) r s (by omega) (by omega) fr fs e
/-- what does not hang on the levels up to l stands behind l -/
theorem above_of {rs : List Row} (w : Wf rs) {r l : Int} (hr : Rf rs r) (h : ∀ β γ : Int → Bool, (∀ k, l < k → β k = γ k) → val rs β r = val rs γ r) : Above rs l r := by
  rcases hr.cases with rfl | rfl | ⟨i, q, rfl, hq⟩
  · exact Above.const (by decide)
  · exact Above.const (by decide)
  · intro l' el
    rw [lvl_node hq] at el
    cases Option.some.inj el
    apply Classical.byContradiction
    intro hn
    refine w.ne i q hq (canon' w (w.rlo hq) (w.rhi hq) fun β => ?_)
    have h1 := h (bput β q.1 false) (bput β q.1 true) fun k hk => by unfold bput; rw [if_neg (by omega), if_neg (by omega)]
    rw [val_node w hq, val_node w hq, if_neg (by unfold bput; rw [if_pos rfl]; decide), if_pos (by unfold bput; rw [if_pos rfl]), val_bput w (w.rlo hq) (w.alo i q hq), val_bput w (w.rhi hq) (w.ahi i q hq)] at h1
    exact h1
/-- node() -/
theorem nodeR_ext (rs : List Row) (q : Row) : ∃ ts, (nodeR rs q).2 = rs ++ ts ∧ ts.length ≤ 1 := by
  unfold nodeR
  split
  · exact ⟨[], (List.append_nil _).symm, by decide⟩
  · split
    · exact ⟨[], (List.append_nil _).symm, by decide⟩
    · exact ⟨[q], rfl, Nat.le_refl _⟩
structure NodeOk (rs : List Row) (q : Row) : Prop where
  l0 : 0 ≤ q.1
  ra : Rf rs q.2.1
  rb : Rf rs q.2.2
  aa : Above rs q.1 q.2.1
  ab : Above rs q.1 q.2.2
theorem node_wf {rs : List Row} (w : Wf rs) {q : Row} (h : NodeOk rs q) : Wf (nodeR rs q).2 := by
  by_cases e : q.2.1 = q.2.2
  · rw [nodeR_same e]; exact w
  · cases ea : rowAt q rs with
    | some i => rw [nodeR_old e ea]; exact w
    | none =>
      rw [nodeR_new e ea]
      have hn := rowAt_none ea
      have get : ∀ (i : Nat) (p : Row), (rs ++ [q])[i]? = some p → rs[i]? = some p ∨ (i = rs.length ∧ p = q) := fun i p hp => by
        by_cases hi : i < rs.length
        · rw [List.getElem?_append_left hi] at hp; exact .inl hp
        · have hl := lt_of_get hp
          rw [List.length_append] at hl
          have hl : i < rs.length + 1 := hl
          have : i = rs.length := by omega
          subst this
          rw [List.getElem?_append_right (Nat.le_refl _), Nat.sub_self] at hp
          exact .inr ⟨rfl, (Option.some.inj hp).symm⟩
      refine ⟨?_, fun i p hp => ?_, fun i p hp => ?_, fun i p hp => ?_, fun i p hp => ?_, fun i p hp => ?_, fun i p hp => ?_⟩
      · rw [List.nodup_append]
        exact ⟨w.nodup, by simp, fun a ha b hb => by rw [List.mem_singleton.mp hb]; intro z; exact hn (z ▸ ha)⟩
      · rcases get i p hp with hp | ⟨rfl, rfl⟩
        · exact w.pos i p hp
        · exact h.l0
      · rcases get i p hp with hp | ⟨rfl, rfl⟩
        · exact w.lo i p hp
        · exact ⟨h.ra.lo, h.ra.hi⟩
      · rcases get i p hp with hp | ⟨rfl, rfl⟩
        · exact w.hi i p hp
        · exact ⟨h.rb.lo, h.rb.hi⟩
      · rcases get i p hp with hp | ⟨rfl, rfl⟩
        · exact w.ne i p hp
        · exact e
      · rcases get i p hp with hp | ⟨rfl, rfl⟩
        · exact (w.alo i p hp).ext (w.rlo hp)
        · exact h.aa.ext h.ra
      · rcases get i p hp with hp | ⟨rfl, rfl⟩
        · exact (w.ahi i p hp).ext (w.rhi hp)
        · exact h.ab.ext h.rb
theorem node_at {rs : List Row} {q : Row} (e : ¬ q.2.1 = q.2.2) : ∃ i : Nat, (nodeR rs q).1 = ((2 + i : Nat) : Int) ∧ (nodeR rs q).2[i]? = some q := by
  cases ea : rowAt q rs with
  | some i => rw [nodeR_old e ea]; exact ⟨i, rfl, rowAt_some ea⟩
  | none => rw [nodeR_new e ea]; exact ⟨rs.length, rfl, by rw [List.getElem?_append_right (Nat.le_refl _), Nat.sub_self]; rfl⟩
theorem node_rf {rs : List Row} {q : Row} (h : NodeOk rs q) : Rf (nodeR rs q).2 (nodeR rs q).1 := by
  by_cases e : q.2.1 = q.2.2
  · rw [nodeR_same e]; exact h.ra
  · obtain ⟨i, h1, h2⟩ := node_at (rs := rs) e
    rw [h1]; exact Rf.node h2
theorem node_val {rs : List Row} (w : Wf rs) {q : Row} (h : NodeOk rs q) (β : Int → Bool) : val (nodeR rs q).2 β (nodeR rs q).1 = if β q.1 = true then val rs β q.2.2 else val rs β q.2.1 := by
  have w2 := node_wf w h
  obtain ⟨ts, et, _⟩ := nodeR_ext rs q
  by_cases e : q.2.1 = q.2.2
  · rw [nodeR_same e]
    dsimp only
    rw [e]
    split <;> rfl
  · obtain ⟨i, h1, h2⟩ := node_at (rs := rs) e
    rw [h1, val_node w2 h2, et, val_ext h.ra, val_ext h.rb]
theorem node_above {rs : List Row} {q : Row} (h : NodeOk rs q) {l : Int} (hl : l < q.1) : Above (nodeR rs q).2 l (nodeR rs q).1 := by
  by_cases e : q.2.1 = q.2.2
  · rw [nodeR_same e]
    exact h.aa.mono (Int.le_of_lt hl)
  · obtain ⟨i, h1, h2⟩ := node_at (rs := rs) e
    rw [h1]
    intro l' el
    rw [lvl_node h2] at el
    cases Option.some.inj el
    exact hl

/-! ### choices -/
def lookC (t : Row) : List (Row × Int) → Option Int
  | [] => none
  | p :: r => if p.1 = t then some p.2 else lookC t r
def putC (cs : List (Row × Int)) (t : Row) (r : Int) : List (Row × Int) :=
  if (cs.any fun p => decide (p.1 = t)) = true then cs.map (fun p => if p.1 = t then (p.1, r) else p) else cs ++ [(t, r)]
def csD (cs : List (Row × Int)) : List (List Key × D) := cs.map fun p => (p.1.key, D.int p.2)
theorem csD_get (t : Row) : ∀ cs : List (Row × Int), getD (csD cs) t.key = (lookC t cs).map D.int
  | [] => rfl
  | p :: cs => by
    show getD ((p.1.key, D.int p.2) :: csD cs) t.key = _
    unfold lookC
    by_cases h : p.1 = t
    · rw [getD_pos (by show p.1.key = t.key; rw [h]), if_pos h]; rfl
    · rw [getD_neg (fun e => h (Row.key_inj.mp e)), if_neg h]; exact csD_get t cs
theorem csD_any (t : Row) : ∀ cs : List (Row × Int), ((csD cs).any fun p => decide (p.1 = t.key)) = cs.any fun p => decide (p.1 = t)
  | [] => rfl
  | p :: cs => by
    show ((p.1.key, D.int p.2) :: csD cs).any _ = _
    rw [List.any_cons, List.any_cons, csD_any t cs]
    congr 1
    exact decide_eq_decide.mpr Row.key_inj
theorem csD_put (t : Row) (r : Int) (cs : List (Row × Int)) : putD (csD cs) t.key (D.int r) = csD (putC cs t r) := by
  unfold putD putC
  rw [csD_any]
  split
  · unfold csD
    rw [List.map_map, List.map_map]
    refine List.map_congr_left fun p _ => ?_
    by_cases h : p.1 = t
    · simp [h]
    · have h2 : ¬ p.1.key = t.key := fun e => h (Row.key_inj.mp e)
      simp [h, h2]
  · unfold csD
    rw [List.map_append]
    rfl
theorem csD_len (cs : List (Row × Int)) : (csD cs).length = cs.length := by unfold csD; rw [List.length_map]
theorem putC_len (cs : List (Row × Int)) (t : Row) (r : Int) : (putC cs t r).length ≤ cs.length + 1 := by
  unfold putC
  split
  · rw [List.length_map]; exact Nat.le_succ _
  · rw [List.length_append]; exact Nat.le_refl _
theorem lookC_put (t u : Row) (r : Int) : ∀ cs : List (Row × Int), lookC u (putC cs t r) = if u = t then some r else lookC u cs := by
  intro cs
  have miss : ∀ cs : List (Row × Int), (cs.any fun p => decide (p.1 = t)) = false → lookC u (cs ++ [(t, r)]) = if u = t then some r else lookC u cs := by
    intro cs
    induction cs with
    | nil =>
      intro _
      show (if t = u then some r else none) = if u = t then some r else none
      by_cases h : u = t
      · rw [if_pos h, if_pos h.symm]
      · rw [if_neg h, if_neg fun z => h z.symm]
    | cons p cs ih =>
      intro h
      rw [List.any_cons, Bool.or_eq_false_iff, decide_eq_false_iff_not] at h
      rw [List.cons_append]
      unfold lookC
      by_cases hu : p.1 = u
      · rw [if_pos hu, if_pos hu, if_neg fun z => h.1 (hu.trans z)]
      · rw [if_neg hu, if_neg hu]; exact ih h.2
  have hit : ∀ cs : List (Row × Int), (cs.any fun p => decide (p.1 = t)) = true → lookC u (cs.map (fun p => if p.1 = t then (p.1, r) else p)) = if u = t then some r else lookC u cs := by
    have base : ∀ cs : List (Row × Int), ¬ u = t → lookC u (cs.map (fun p => if p.1 = t then (p.1, r) else p)) = lookC u cs := by
      intro cs hut
      induction cs with
      | nil => rfl
      | cons p cs ih =>
        rw [List.map_cons]
        by_cases hp : p.1 = t
        · rw [if_pos hp]
          unfold lookC
          dsimp only
          rw [if_neg fun z => hut (z.symm.trans hp), if_neg fun z => hut (z.symm.trans hp)]
          exact ih
        · rw [if_neg hp]
          unfold lookC
          rw [ih]
    intro cs
    induction cs with
    | nil => intro h; cases h
    | cons p cs ih =>
      intro h
      by_cases hut : u = t
      · rw [if_pos hut, List.map_cons]
        by_cases hp : p.1 = t
        · rw [if_pos hp]
          unfold lookC
          dsimp only
          rw [if_pos (hp.trans hut.symm)]
        · rw [if_neg hp]
          unfold lookC
          rw [if_neg fun z => hp (z.trans hut)]
          rw [List.any_cons, decide_eq_false hp, Bool.false_or] at h
          rw [ih h, if_pos hut]
      · rw [if_neg hut]
        exact base _ hut
  unfold putC
  cases h : cs.any fun p => decide (p.1 = t) with
  | true => rw [if_pos rfl]; exact hit cs h
  | false => rw [if_neg (by decide)]; exact miss cs h
def sA (t : Row) : Int := if t.2.1 = t.1 then 1 else t.2.1
def sB (t : Row) : Int := if t.2.2 = t.1 then 0 else t.2.2
/-- what a choice is known to be, or -1 -/
def settledF (cs : List (Row × Int)) (t : Row) : Int :=
  if t.1 < 2 then (if t.1 = 1 then t.2.1 else t.2.2)
  else if sA t = sB t then sA t
  else if sA t = 1 ∧ sB t = 0 then t.1
  else (lookC t cs).getD (-1)
structure Tv (rs : List Row) (t : Row) : Prop where
  c : Rf rs t.1
  a : Rf rs t.2.1
  b : Rf rs t.2.2
structure Ta (rs : List Row) (l : Int) (t : Row) : Prop where
  c : Above rs l t.1
  a : Above rs l t.2.1
  b : Above rs l t.2.2
def ITE (rs : List Row) (β : Int → Bool) (t : Row) : Bool := if val rs β t.1 = true then val rs β t.2.1 else val rs β t.2.2
theorem Tv.ext {rs ts : List Row} {t : Row} (h : Tv rs t) : Tv (rs ++ ts) t := ⟨h.c.ext, h.a.ext, h.b.ext⟩
theorem Ta.ext {rs ts : List Row} {l : Int} {t : Row} (h : Ta rs l t) (v : Tv rs t) : Ta (rs ++ ts) l t := ⟨h.c.ext v.c, h.a.ext v.a, h.b.ext v.b⟩
theorem ITE_ext {rs ts : List Row} {t : Row} {β : Int → Bool} (v : Tv rs t) : ITE (rs ++ ts) β t = ITE rs β t := by unfold ITE; rw [val_ext v.c, val_ext v.a, val_ext v.b]
/-- r is what the choice t is -/
structure Is (rs : List Row) (t : Row) (r : Int) : Prop where
  rf : Rf rs r
  eq : ∀ β, val rs β r = ITE rs β t
  ab : ∀ l, Ta rs l t → Above rs l r
theorem Above.unext {rs ts : List Row} {l r : Int} (hr : Rf rs r) (h : Above (rs ++ ts) l r) : Above rs l r := fun l' e => h l' (by rw [lvl_ext hr]; exact e)
theorem Is.ext {rs ts : List Row} {t : Row} {r : Int} (v : Tv rs t) (h : Is rs t r) : Is (rs ++ ts) t r :=
  ⟨h.rf.ext, fun β => by rw [val_ext h.rf, ITE_ext v]; exact h.eq β, fun l a => (h.ab l ⟨a.c.unext v.c, a.a.unext v.a, a.b.unext v.b⟩).ext h.rf⟩
/-- the choices that are known are right -/
def ChOk (rs : List Row) (cs : List (Row × Int)) : Prop := ∀ t r, lookC t cs = some r → Tv rs t ∧ Is rs t r
theorem ChOk.nil {rs : List Row} : ChOk rs [] := fun _ _ h => nomatch h
theorem ChOk.ext {rs ts : List Row} {cs : List (Row × Int)} (h : ChOk rs cs) : ChOk (rs ++ ts) cs := fun t r e => ⟨(h t r e).1.ext, (h t r e).2.ext (h t r e).1⟩
theorem ChOk.put {rs : List Row} {cs : List (Row × Int)} (h : ChOk rs cs) {t : Row} {r : Int} (v : Tv rs t) (i : Is rs t r) : ChOk rs (putC cs t r) := fun u x e => by
  rw [lookC_put] at e
  by_cases hu : u = t
  · rw [if_pos hu] at e
    cases Option.some.inj e
    rw [hu]; exact ⟨v, i⟩
  · rw [if_neg hu] at e
    exact h u x e
theorem settled_is {rs : List Row} {cs : List (Row × Int)} {t : Row} (h : ChOk rs cs) (v : Tv rs t) (h0 : 0 ≤ settledF cs t) : Is rs t (settledF cs t) := by
  have ra : Rf rs (sA t) := by unfold sA; split; exact Rf.one; exact v.a
  have ea : ∀ β, val rs β t.1 = true → val rs β (sA t) = val rs β t.2.1 := fun β hc => by
    unfold sA
    split
    · rename_i e; rw [e, hc, val_one]
    · rfl
  have eb : ∀ β, val rs β t.1 = false → val rs β (sB t) = val rs β t.2.2 := fun β hc => by
    unfold sB
    split
    · rename_i e; rw [e, hc, val_zero]
    · rfl
  have aa : ∀ l, Ta rs l t → Above rs l (sA t) := fun l a => by
    unfold sA
    split
    · exact Above.const (by decide)
    · exact a.a
  unfold settledF at h0 ⊢
  by_cases h1 : t.1 < 2
  · rw [if_pos h1]
    by_cases h2 : t.1 = 1
    · rw [if_pos h2]
      exact ⟨v.a, fun β => by unfold ITE; rw [h2, val_one]; rfl, fun l a => a.a⟩
    · rw [if_neg h2]
      have h3 : t.1 = 0 := by have := v.c.lo; omega
      exact ⟨v.b, fun β => by unfold ITE; rw [h3, val_zero]; rfl, fun l a => a.b⟩
  · rw [if_neg h1] at h0 ⊢
    by_cases h2 : sA t = sB t
    · rw [if_pos h2]
      refine ⟨ra, fun β => ?_, aa⟩
      unfold ITE
      cases hc : val rs β t.1 with
      | true => rw [if_pos rfl]; exact ea β hc
      | false => rw [if_neg (by simp), h2]; exact eb β hc
    · rw [if_neg h2] at h0 ⊢
      by_cases h3 : sA t = 1 ∧ sB t = 0
      · rw [if_pos h3]
        refine ⟨v.c, fun β => ?_, fun l a => a.c⟩
        unfold ITE
        cases hc : val rs β t.1 with
        | true => rw [if_pos rfl, ← ea β hc, h3.1, val_one]
        | false => rw [if_neg (by simp), ← eb β hc, h3.2, val_zero]
      · rw [if_neg h3] at h0 ⊢
        cases e : lookC t cs with
        | none => rw [e] at h0; exact absurd h0 (by decide)
        | some r => exact (h t r e).2
theorem settled_mono {cs : List (Row × Int)} {t u : Row} {r : Int} (hr : 0 ≤ r) (h : 0 ≤ settledF cs u) : 0 ≤ settledF (putC cs t r) u := by
  unfold settledF at h ⊢
  by_cases h1 : u.1 < 2
  · rw [if_pos h1] at h ⊢; exact h
  · rw [if_neg h1] at h ⊢
    by_cases h2 : sA u = sB u
    · rw [if_pos h2] at h ⊢; exact h
    · rw [if_neg h2] at h ⊢
      by_cases h3 : sA u = 1 ∧ sB u = 0
      · rw [if_pos h3] at h ⊢; exact h
      · rw [if_neg h3] at h ⊢
        rw [lookC_put]
        by_cases h4 : u = t
        · rw [if_pos h4]; exact hr
        · rw [if_neg h4]; exact h
theorem settled_put {rs : List Row} {cs : List (Row × Int)} {t : Row} {r : Int} (v : Tv rs t) (hr : 0 ≤ r) : 0 ≤ settledF (putC cs t r) t := by
  have h1 := v.c.lo
  have h2 := v.a.lo
  have h3 := v.b.lo
  have h4 : 0 ≤ sA t := by unfold sA; split <;> omega
  unfold settledF
  rw [lookC_put, if_pos rfl]
  by_cases k1 : t.1 < 2
  · rw [if_pos k1]; split <;> assumption
  · rw [if_neg k1]
    by_cases k2 : sA t = sB t
    · rw [if_pos k2]; exact h4
    · rw [if_neg k2]
      split
      · exact h1
      · exact hr
/-! ### the parts of a choice -/
def lvI (rs : List Row) (r : Int) : Int := (lvl rs r).getD (-1)
def loI (rs : List Row) (r : Int) : Int := if r < 2 then r else ((rs[(r - 2).toNat]?).map (·.2.1)).getD 0
def hiI (rs : List Row) (r : Int) : Int := if r < 2 then r else ((rs[(r - 2).toNat]?).map (·.2.2)).getD 0
theorem lvI_const {rs : List Row} {r : Int} (h : r < 2) : lvI rs r = -1 := by unfold lvI; rw [lvl_const h]; rfl
theorem lvI_node {rs : List Row} {i : Nat} {q : Row} (h : rs[i]? = some q) : lvI rs ((2 + i : Nat) : Int) = q.1 := by unfold lvI; rw [lvl_node h]; rfl
theorem loI_node {rs : List Row} {i : Nat} {q : Row} (h : rs[i]? = some q) : loI rs ((2 + i : Nat) : Int) = q.2.1 := by
  unfold loI
  rw [if_neg (by omega), show (((2 + i : Nat) : Int) - 2).toNat = i by omega, h]
  rfl
theorem hiI_node {rs : List Row} {i : Nat} {q : Row} (h : rs[i]? = some q) : hiI rs ((2 + i : Nat) : Int) = q.2.2 := by
  unfold hiI
  rw [if_neg (by omega), show (((2 + i : Nat) : Int) - 2).toNat = i by omega, h]
  rfl
theorem lv_at {rs : List Row} {r : Int} (h : Rf rs r) : atI (lvD rs) r = some (.int (lvI rs r)) := by
  rcases h.cases with rfl | rfl | ⟨i, q, rfl, hq⟩
  · unfold lvD; rw [Ev.at0]; rfl
  · unfold lvD; rw [Ev.at1]; rfl
  · rw [lvI_node hq]; exact lvD_at hq
theorem lo_at {rs : List Row} {r : Int} (h : Rf rs r) : atI (loD rs) r = some (.int (loI rs r)) := by
  rcases h.cases with rfl | rfl | ⟨i, q, rfl, hq⟩
  · unfold loD; rw [Ev.at0]; rfl
  · unfold loD; rw [Ev.at1]; rfl
  · rw [loI_node hq]; exact loD_at hq
theorem hi_at {rs : List Row} {r : Int} (h : Rf rs r) : atI (hiD rs) r = some (.int (hiI rs r)) := by
  rcases h.cases with rfl | rfl | ⟨i, q, rfl, hq⟩
  · unfold hiD; rw [Ev.at0]; rfl
  · unfold hiD; rw [Ev.at1]; rfl
  · rw [hiI_node hq]; exact hiD_at hq
def minL (l m : Int) : Int := if -1 < m ∧ m < l then m else l
def topF (rs : List Row) (t : Row) : Int := minL (minL (lvI rs t.1) (lvI rs t.2.1)) (lvI rs t.2.2)
def cofL (rs : List Row) (l r : Int) : Int := if lvI rs r = l then loI rs r else r
def cofH (rs : List Row) (l r : Int) : Int := if lvI rs r = l then hiI rs r else r
def loP (rs : List Row) (t : Row) : Row := (cofL rs (topF rs t) t.1, cofL rs (topF rs t) t.2.1, cofL rs (topF rs t) t.2.2)
def hiP (rs : List Row) (t : Row) : Row := (cofH rs (topF rs t) t.1, cofH rs (topF rs t) t.2.1, cofH rs (topF rs t) t.2.2)
/-- l is not behind the level of r -/
def AtOr (rs : List Row) (l r : Int) : Prop := lvl rs r = some l ∨ Above rs l r
theorem atOr_of {rs : List Row} (w : Wf rs) {l r : Int} (hr : Rf rs r) (h : lvI rs r = -1 ∨ l ≤ lvI rs r) : AtOr rs l r := by
  rcases hr.cases with rfl | rfl | ⟨i, q, rfl, hq⟩
  · exact .inr (Above.const (by decide))
  · exact .inr (Above.const (by decide))
  · rw [lvI_node hq] at h
    have := w.pos i q hq
    by_cases e : q.1 = l
    · exact .inl (by rw [lvl_node hq, e])
    · refine .inr fun l' el => ?_
      rw [lvl_node hq] at el
      cases Option.some.inj el
      omega
theorem lvI_ge {rs : List Row} (w : Wf rs) {r : Int} (hr : Rf rs r) : -1 ≤ lvI rs r := by
  rcases hr.cases with rfl | rfl | ⟨i, q, rfl, hq⟩
  · rw [lvI_const (by decide)]; decide
  · rw [lvI_const (by decide)]; decide
  · rw [lvI_node hq]; have := w.pos i q hq; omega
/-- the top of a choice whose first is a node -/
theorem top_ok {rs : List Row} (w : Wf rs) {t : Row} (v : Tv rs t) (hc : ¬ t.1 < 2) :
    0 ≤ topF rs t ∧ AtOr rs (topF rs t) t.1 ∧ AtOr rs (topF rs t) t.2.1 ∧ AtOr rs (topF rs t) t.2.2 ∧ (∃ r, Rf rs r ∧ lvl rs r = some (topF rs t) ∧ (r = t.1 ∨ r = t.2.1 ∨ r = t.2.2)) := by
  have hc0 : 0 ≤ lvI rs t.1 ∧ lvl rs t.1 = some (lvI rs t.1) := by
    rcases v.c.cases with e | e | ⟨i, q, e, hq⟩
    · omega
    · omega
    · rw [e, lvI_node hq, lvl_node hq]; exact ⟨w.pos i q hq, rfl⟩
  have node : ∀ r, Rf rs r → -1 < lvI rs r → lvl rs r = some (lvI rs r) := fun r hr h => by
    rcases hr.cases with rfl | rfl | ⟨i, q, rfl, hq⟩
    · rw [lvI_const (by decide)] at h; exact absurd h (by decide)
    · rw [lvI_const (by decide)] at h; exact absurd h (by decide)
    · rw [lvI_node hq, lvl_node hq]
  have ga := lvI_ge w v.a
  have gb := lvI_ge w v.b
  have na := node t.2.1 v.a
  have nb := node t.2.2 v.b
  have a1 := fun l => atOr_of (l := l) w v.c
  have a2 := fun l => atOr_of (l := l) w v.a
  have a3 := fun l => atOr_of (l := l) w v.b
  unfold topF
  obtain ⟨hc1, hc2⟩ := hc0
  generalize lvI rs t.1 = x at *
  generalize lvI rs t.2.1 = y at *
  generalize lvI rs t.2.2 = z at *
  unfold minL
  by_cases h1 : -1 < y ∧ y < x
  · rw [if_pos h1]
    by_cases h2 : -1 < z ∧ z < y
    · rw [if_pos h2]
      exact ⟨by omega, a1 z (by omega), a2 z (by omega), a3 z (by omega), t.2.2, v.b, nb h2.1, .inr (.inr rfl)⟩
    · rw [if_neg h2]
      exact ⟨by omega, a1 y (by omega), a2 y (by omega), a3 y (by omega), t.2.1, v.a, na h1.1, .inr (.inl rfl)⟩
  · rw [if_neg h1]
    by_cases h2 : -1 < z ∧ z < x
    · rw [if_pos h2]
      exact ⟨by omega, a1 z (by omega), a2 z (by omega), a3 z (by omega), t.2.2, v.b, nb h2.1, .inr (.inr rfl)⟩
    · rw [if_neg h2]
      exact ⟨hc1, a1 x (by omega), a2 x (by omega), a3 x (by omega), t.1, v.c, hc2, .inl rfl⟩
theorem cof_ok {rs : List Row} (w : Wf rs) {l r : Int} (h0 : 0 ≤ l) (hr : Rf rs r) (h : AtOr rs l r) :
    Rf rs (cofL rs l r) ∧ Rf rs (cofH rs l r) ∧ Above rs l (cofL rs l r) ∧ Above rs l (cofH rs l r) ∧ ∀ β, val rs β r = if β l = true then val rs β (cofH rs l r) else val rs β (cofL rs l r) := by
  unfold cofL cofH
  by_cases e : lvI rs r = l
  · rw [if_pos e, if_pos e]
    rcases hr.cases with rfl | rfl | ⟨i, q, rfl, hq⟩
    · rw [lvI_const (by decide)] at e; omega
    · rw [lvI_const (by decide)] at e; omega
    · rw [lvI_node hq] at e
      rw [loI_node hq, hiI_node hq, ← e]
      exact ⟨w.rlo hq, w.rhi hq, w.alo i q hq, w.ahi i q hq, fun β => val_node w hq β⟩
  · rw [if_neg e, if_neg e]
    have ha : Above rs l r := by
      rcases h with h | h
      · exfalso; apply e; unfold lvI; rw [h]; rfl
      · exact h
    exact ⟨hr, hr, ha, ha, fun β => by split <;> rfl⟩
theorem parts_math {rs : List Row} (w : Wf rs) {t : Row} (v : Tv rs t) (hc : ¬ t.1 < 2) :
    Tv rs (loP rs t) ∧ Tv rs (hiP rs t) ∧ Ta rs (topF rs t) (loP rs t) ∧ Ta rs (topF rs t) (hiP rs t) ∧ ∀ β, ITE rs β t = if β (topF rs t) = true then ITE rs β (hiP rs t) else ITE rs β (loP rs t) := by
  obtain ⟨h0, h1, h2, h3, _⟩ := top_ok w v hc
  obtain ⟨c1, c2, c3, c4, c5⟩ := cof_ok w h0 v.c h1
  obtain ⟨a1, a2, a3, a4, a5⟩ := cof_ok w h0 v.a h2
  obtain ⟨b1, b2, b3, b4, b5⟩ := cof_ok w h0 v.b h3
  refine ⟨⟨c1, a1, b1⟩, ⟨c2, a2, b2⟩, ⟨c3, a3, b3⟩, ⟨c4, a4, b4⟩, fun β => ?_⟩
  unfold ITE loP hiP
  rw [c5 β, a5 β, b5 β]
  split <;> rfl
/-- the node of a choice whose parts are known -/
theorem made_is {rs : List Row} (w : Wf rs) {t : Row} (v : Tv rs t) (hc : ¬ t.1 < 2) {x y : Int} (hx : Is rs (loP rs t) x) (hy : Is rs (hiP rs t) y) :
    NodeOk rs (topF rs t, x, y) ∧ Is (nodeR rs (topF rs t, x, y)).2 t (nodeR rs (topF rs t, x, y)).1 := by
  obtain ⟨h0, h1, h2, h3, r, rr, hl, hr⟩ := top_ok w v hc
  obtain ⟨p1, p2, p3, p4, p5⟩ := parts_math w v hc
  have no : NodeOk rs (topF rs t, x, y) := ⟨h0, hx.rf, hy.rf, hx.ab _ p3, hy.ab _ p4⟩
  obtain ⟨ts, et, _⟩ := nodeR_ext rs (topF rs t, x, y)
  refine ⟨no, node_rf no, fun β => ?_, fun l a => ?_⟩
  · rw [node_val w no, et, ITE_ext v, p5 β]
    dsimp only
    rw [hx.eq β, hy.eq β]
  · refine node_above no ?_
    rw [et] at a
    have a1 := a.c.unext v.c
    have a2 := a.a.unext v.a
    have a3 := a.b.unext v.b
    show l < topF rs t
    rcases hr with rfl | rfl | rfl
    · exact a1 _ hl
    · exact a2 _ hl
    · exact a3 _ hl

section
variable {S : Sto} {n ch : Nat} {rs : List Row} {cs : List (Row × Int)} {t : Row}
theorem key_un (t : Row) : unTk (.tk t.key) = .tup [.int t.1, .int t.2.1, .int t.2.2] := rfl
theorem key_len (t : Row) : t.key.length = 3 := rfl
theorem key_map (t : Row) : t.key.map ofKey = [.int t.1, .int t.2.1, .int t.2.2] := rfl
theorem settled_ok (h : StAt S n rs ch (csD cs)) (t : Row) : h_Store__settled [.obj n, .tk t.key] S = .ok (.int (settledF cs t)) S := by
  unfold h_Store__settled
  walk_at "env"
  unfold b_Store__settled
  unfold settledF
  have g := csD_get t cs
  by_cases h1 : t.1 < 2
  · rw [if_pos h1]
    by_cases h2 : t.1 = 1
    · rw [if_pos h2]
      repeat (first | simp only [key_len, key_map, decide_eq_true h1, decide_eq_true h2] | walk_at "ev0")
    · rw [if_neg h2]
      repeat (first | simp only [key_len, key_map, decide_eq_true h1, decide_eq_false h2] | walk_at "ev0")
  · rw [if_neg h1]
    repeat (first | simp only [key_len, key_map, decide_eq_false h1] | walk_at "ev0")
    refine seqR_cut (fun r => endR r = _) (fun ρ S' => S' = S ∧ ρ = [some (.obj n), some (.tk t.key), some (.int t.1), some (.int (sA t)), some (.int t.2.2)]) ?_ ?_
    · unfold sA
      by_cases h2 : t.2.1 = t.1
      · rw [if_pos h2]
        repeat (first | simp only [decide_eq_true h2] | walk_at "ev0")
        exact ⟨_, _, rfl, rfl, rfl⟩
      · rw [if_neg h2]
        repeat (first | simp only [decide_eq_false h2] | walk_at "ev0")
        exact ⟨_, _, rfl, rfl, rfl⟩
    rintro ρ S2 ⟨e1, rfl⟩
    obtain rfl := e1.symm
    repeat walk_at "ev0"
    refine seqR_cut (fun r => endR r = _) (fun ρ S' => S' = S ∧ ρ = [some (.obj n), some (.tk t.key), some (.int t.1), some (.int (sA t)), some (.int (sB t))]) ?_ ?_
    · unfold sB
      by_cases h2 : t.2.2 = t.1
      · rw [if_pos h2]
        repeat (first | simp only [decide_eq_true h2] | walk_at "ev0")
        exact ⟨_, _, rfl, rfl, rfl⟩
      · rw [if_neg h2]
        repeat (first | simp only [decide_eq_false h2] | walk_at "ev0")
        exact ⟨_, _, rfl, rfl, rfl⟩
    rintro ρ S2 ⟨e1, rfl⟩
    obtain rfl := e1.symm
    by_cases h2 : sA t = sB t
    · rw [if_pos h2]
      repeat (first | simp only [decide_eq_true h2] | walk_at "ev0")
    · rw [if_neg h2]
      by_cases h3 : sA t = 1
      · by_cases h4 : sB t = 0
        · rw [if_pos ⟨h3, h4⟩]
          repeat (first | simp only [decide_eq_false h2, decide_eq_true h3, decide_eq_true h4] | walk_at "ev0")
        · rw [if_neg fun z => h4 z.2]
          cases e : lookC t cs with
          | none =>
            rw [e] at g
            repeat (first | simp only [decide_eq_false h2, decide_eq_true h3, decide_eq_false h4, h.ob, h.cc, st_chosen, g, Option.map_none] | walk_at "ev0")
            rfl
          | some r =>
            rw [e] at g
            repeat (first | simp only [decide_eq_false h2, decide_eq_true h3, decide_eq_false h4, h.ob, h.cc, st_chosen, g, Option.map_some] | walk_at "ev0")
            rfl
      · rw [if_neg fun z => h3 z.1]
        cases e : lookC t cs with
        | none =>
          rw [e] at g
          repeat (first | simp only [decide_eq_false h2, decide_eq_false h3, h.ob, h.cc, st_chosen, g, Option.map_none] | walk_at "ev0")
          rfl
        | some r =>
          rw [e] at g
          repeat (first | simp only [decide_eq_false h2, decide_eq_false h3, h.ob, h.cc, st_chosen, g, Option.map_some] | walk_at "ev0")
          rfl
theorem parts_ok (h : StAt S n rs ch (csD cs)) (v : Tv rs t) : h_Store__parts_of [.obj n, .tk t.key] S = .ok (.tup [.int (topF rs t), .tk (loP rs t).key, .tk (hiP rs t).key]) S := by
  have sl := sizeLine_eq
  have s2 : (2 : Nat) ≤ sizeLine := by omega
  have s3 : (3 : Nat) ≤ sizeLine := by omega
  unfold h_Store__parts_of
  walk_at "env"
  unfold b_Store__parts_of
  have c1 := lv_at v.c
  have c2 := lo_at v.c
  have c3 := hi_at v.c
  have a1 := lv_at v.a
  have a2 := lo_at v.a
  have a3 := hi_at v.a
  have b1 := lv_at v.b
  have b2 := lo_at v.b
  have b3 := hi_at v.b
  repeat (first | simp only [key_len, key_map, h.ob, h.lv, st_levels, st_lows, st_highs, c1, a1] | walk_at "ev0")
  refine seqR_cut (fun r => endR r = _) (fun ρ S' => S' = S ∧ ρ = [some (.obj n), some (.tk t.key), some (.obj (n + 1)), some (.obj (n + 2)), some (.obj (n + 3)), some (.int t.1), some (.int t.2.1), some (.int t.2.2), some (.int (minL (lvI rs t.1) (lvI rs t.2.1))), none, none, none, none, none, none]) ?_ ?_
  · unfold minL
    by_cases h1 : -1 < lvI rs t.2.1
    · by_cases h2 : lvI rs t.2.1 < lvI rs t.1
      · rw [if_pos ⟨h1, h2⟩]
        repeat (first | simp only [decide_eq_true h1, decide_eq_true h2, h.lv, a1] | walk_at "ev0")
        exact ⟨_, _, rfl, rfl, rfl⟩
      · rw [if_neg fun z => h2 z.2]
        repeat (first | simp only [decide_eq_true h1, decide_eq_false h2, h.lv, a1] | walk_at "ev0")
        exact ⟨_, _, rfl, rfl, rfl⟩
    · rw [if_neg fun z => h1 z.1]
      repeat (first | simp only [decide_eq_false h1, h.lv, a1] | walk_at "ev0")
      exact ⟨_, _, rfl, rfl, rfl⟩
  rintro ρ S2 ⟨e1, rfl⟩
  obtain rfl := e1.symm
  repeat (first | simp only [h.lv, b1] | walk_at "ev0")
  refine seqR_cut (fun r => endR r = _) (fun ρ S' => S' = S ∧ ρ = [some (.obj n), some (.tk t.key), some (.obj (n + 1)), some (.obj (n + 2)), some (.obj (n + 3)), some (.int t.1), some (.int t.2.1), some (.int t.2.2), some (.int (topF rs t)), none, none, none, none, none, none]) ?_ ?_
  · unfold topF
    generalize minL (lvI rs t.1) (lvI rs t.2.1) = x
    unfold minL
    by_cases h1 : -1 < lvI rs t.2.2
    · by_cases h2 : lvI rs t.2.2 < x
      · rw [if_pos ⟨h1, h2⟩]
        repeat (first | simp only [decide_eq_true h1, decide_eq_true h2, h.lv, b1] | walk_at "ev0")
        exact ⟨_, _, rfl, rfl, rfl⟩
      · rw [if_neg fun z => h2 z.2]
        repeat (first | simp only [decide_eq_true h1, decide_eq_false h2, h.lv, b1] | walk_at "ev0")
        exact ⟨_, _, rfl, rfl, rfl⟩
    · rw [if_neg fun z => h1 z.1]
      repeat (first | simp only [decide_eq_false h1, h.lv, b1] | walk_at "ev0")
      exact ⟨_, _, rfl, rfl, rfl⟩
  rintro ρ S2 ⟨e1, rfl⟩
  obtain rfl := e1.symm
  unfold loP hiP
  generalize topF rs t = x
  repeat (first | simp only [h.lv, c1] | walk_at "ev0")
  refine seqR_cut (fun r => endR r = _) (fun ρ S' => S' = S ∧ ρ = [some (.obj n), some (.tk t.key), some (.obj (n + 1)), some (.obj (n + 2)), some (.obj (n + 3)), some (.int t.1), some (.int t.2.1), some (.int t.2.2), some (.int x), some (.int (cofL rs x t.1)), some (.int (cofH rs x t.1)), none, none, none, none]) ?_ ?_
  · unfold cofL cofH
    by_cases h1 : lvI rs t.1 = x
    · rw [if_pos h1, if_pos h1]
      repeat (first | simp only [decide_eq_true h1, h.lo, h.hi, c2, c3, if_pos s2] | walk_at "ev0")
      exact ⟨_, _, rfl, rfl, rfl⟩
    · rw [if_neg h1, if_neg h1]
      repeat (first | simp only [decide_eq_false h1, if_pos s2] | walk_at "ev0")
      exact ⟨_, _, rfl, rfl, rfl⟩
  rintro ρ S2 ⟨e1, rfl⟩
  obtain rfl := e1.symm
  repeat (first | simp only [h.lv, a1] | walk_at "ev0")
  refine seqR_cut (fun r => endR r = _) (fun ρ S' => S' = S ∧ ρ = [some (.obj n), some (.tk t.key), some (.obj (n + 1)), some (.obj (n + 2)), some (.obj (n + 3)), some (.int t.1), some (.int t.2.1), some (.int t.2.2), some (.int x), some (.int (cofL rs x t.1)), some (.int (cofH rs x t.1)), some (.int (cofL rs x t.2.1)), some (.int (cofH rs x t.2.1)), none, none]) ?_ ?_
  · generalize cofL rs x t.1 = y1
    generalize cofH rs x t.1 = y2
    unfold cofL cofH
    by_cases h1 : lvI rs t.2.1 = x
    · rw [if_pos h1, if_pos h1]
      repeat (first | simp only [decide_eq_true h1, h.lo, h.hi, a2, a3, if_pos s2] | walk_at "ev0")
      exact ⟨_, _, rfl, rfl, rfl⟩
    · rw [if_neg h1, if_neg h1]
      repeat (first | simp only [decide_eq_false h1, if_pos s2] | walk_at "ev0")
      exact ⟨_, _, rfl, rfl, rfl⟩
  rintro ρ S2 ⟨e1, rfl⟩
  obtain rfl := e1.symm
  repeat (first | simp only [h.lv, b1] | walk_at "ev0")
  refine seqR_cut (fun r => endR r = _) (fun ρ S' => S' = S ∧ ρ = [some (.obj n), some (.tk t.key), some (.obj (n + 1)), some (.obj (n + 2)), some (.obj (n + 3)), some (.int t.1), some (.int t.2.1), some (.int t.2.2), some (.int x), some (.int (cofL rs x t.1)), some (.int (cofH rs x t.1)), some (.int (cofL rs x t.2.1)), some (.int (cofH rs x t.2.1)), some (.int (cofL rs x t.2.2)), some (.int (cofH rs x t.2.2))]) ?_ ?_
  · generalize cofL rs x t.1 = y1
    generalize cofH rs x t.1 = y2
    generalize cofL rs x t.2.1 = y3
    generalize cofH rs x t.2.1 = y4
    unfold cofL cofH
    by_cases h1 : lvI rs t.2.2 = x
    · rw [if_pos h1, if_pos h1]
      repeat (first | simp only [decide_eq_true h1, h.lo, h.hi, b2, b3, if_pos s2] | walk_at "ev0")
      exact ⟨_, _, rfl, rfl, rfl⟩
    · rw [if_neg h1, if_neg h1]
      repeat (first | simp only [decide_eq_false h1, if_pos s2] | walk_at "ev0")
      exact ⟨_, _, rfl, rfl, rfl⟩
  rintro ρ S2 ⟨e1, rfl⟩
  obtain rfl := e1.symm
  repeat (first | simp only [if_pos s3] | walk_at "ev0")
  rfl
end

/-! ### while, in place -/
def wBody (P : Env → Sto → Prop) (μ : Env → Sto → Nat) (m : Nat) : RS → Prop
  | .nx ρ S => μ ρ S < m ∧ P ρ S
  | .ct ρ S => μ ρ S < m ∧ P ρ S
  | _ => False
def wStep (P : Env → Sto → Prop) (μ : Env → Sto → Nat) (m : Nat) (body : DS) (ρ : Env) : Res Bool → Prop
  | .ok true S1 => wBody P μ m (body ρ S1)
  | .ok false _ => True
  | _ => False
theorem wStep1 {P : Env → Sto → Prop} {μ : Env → Sto → Nat} {m : Nat} {body : DS} {ρ : Env} {S : Sto} : wStep P μ m body ρ (.ok true S) = wBody P μ m (body ρ S) := rfl
theorem wStep2 {P : Env → Sto → Prop} {μ : Env → Sto → Nat} {m : Nat} {body : DS} {ρ : Env} {S : Sto} : wStep P μ m body ρ (.ok false S) = True := rfl
theorem wBody1 {P : Env → Sto → Prop} {μ : Env → Sto → Nat} {m : Nat} {ρ : Env} {S : Sto} : wBody P μ m (.nx ρ S) = (μ ρ S < m ∧ P ρ S) := rfl
theorem wBody2 {P : Env → Sto → Prop} {μ : Env → Sto → Nat} {m : Nat} {ρ : Env} {S : Sto} : wBody P μ m (.ct ρ S) = (μ ρ S < m ∧ P ρ S) := rfl
theorem while_use {t : DT} {body : DS} {N : Nat} {ρ : Env} {S : Sto} {r : RS} (e : dWhile N t body ρ S = r) (P : Env → Sto → Prop) (μ : Env → Sto → Nat) (h0 : P ρ S) (hN : μ ρ S < N)
    (turn : ∀ ρ S, P ρ S → wStep P μ (μ ρ S) body ρ (t ρ S)) : ∃ ρ0 S0 S', r = .nx ρ0 S' ∧ P ρ0 S0 ∧ t ρ0 S0 = .ok false S' := by
  subst e
  refine while_nx P μ (fun ρ S hp => ?_) N ρ S hN h0
  have q := turn ρ S hp
  cases h : t ρ S with
  | ok b S1 =>
    rw [h] at q
    cases b with
    | false => exact .inl ⟨S1, rfl, trivial⟩
    | true =>
      rw [wStep1] at q
      refine .inr ?_
      cases h2 : body ρ S1 with
      | nx ρ2 S2 => rw [h2] at q; exact ⟨S1, ρ2, S2, rfl, .inl h2, q⟩
      | ct ρ2 S2 => rw [h2] at q; exact ⟨S1, ρ2, S2, rfl, .inr h2, q⟩
      | _ => rw [h2] at q; exact q.elim
  | exc c fs S1 => rw [h] at q; exact q.elim
  | bad => rw [h] at q; exact q.elim

/-- the loop of choose -/
noncomputable def chBody : DS := (dSeq (dSet 6 (eOp dIx (eV 5) (eUn dNeg (eC (D.int 1)))))
    (dSeq (dAsg (eMet "Store" "_parts_of" h_Store__parts_of (eV 0) (eCons (eV 6) eNil)) (tgT 3 (tgCons (tgN 7) (tgCons (tgN 8) (tgCons (tgN 9) tgNil)))))
    (dSeq (dSet 10 (eMet "Store" "_settled" h_Store__settled (eV 0) (eCons (eV 8) eNil)))
    (dSeq (dSet 11 (eMet "Store" "_settled" h_Store__settled (eV 0) (eCons (eV 9) eNil)))
    (dSeq (dIfS (eAnd (eT (eOp dGe (eV 10) (eC (D.int 0)))) (eT (eOp dGe (eV 11) (eC (D.int 0))))) (dSeq (dPutT (eMet "Store" "node" h_Store_node (eV 0) (eCons (eV 7) (eCons (eV 10) (eCons (eV 11) eNil)))) (eFld "Store" "_chosen" (eV 0)) (eV 6))
    (dExpr (eMeth "list" mPop (eV 5) eNil))) dNext)
    (dSeq (dIfS (eT (eOp dLt (eV 11) (eC (D.int 0)))) (dExpr (eMeth "list" mAppend (eV 5) (eCons (eV 9) eNil))) dNext)
    (dIfS (eT (eOp dLt (eV 10) (eC (D.int 0)))) (dExpr (eMeth "list" mAppend (eV 5) (eCons (eV 8) eNil))) dNext)))))))
def tks (ts : List Row) : List D := ts.map fun t => .tk t.key
structure ChS (S : Sto) (n ch P : Nat) (rs : List Row) (cs : List (Row × Int)) (pend : List Row) : Prop where
  st : StAt S n rs ch (csD cs)
  pl : S[P]? = some (.lst (tks pend))
  nP : ¬ StX n ch P
/-- the slots of choose -/
def chEnv (n P : Nat) (x1 x2 x3 : D) (ask : Row) (v6 v7 v8 v9 v10 v11 : Option D) : Env := [some (.obj n), some x1, some x2, some x3, some (.tk ask.key), some (.obj P), v6, v7, v8, v9, v10, v11]
theorem tks_app (st : List Row) (t : Row) : tks (st ++ [t]) = tks st ++ [D.tk t.key] := by unfold tks; rw [List.map_append]; rfl
theorem tks_last (st : List Row) (t : Row) : atI (tks (st ++ [t])) (-1) = some (.tk t.key) := by rw [tks_app]; exact atI_last _ _
theorem tks_len (st : List Row) : (tks st).length = st.length := by unfold tks; rw [List.length_map]
theorem pop_ok {S : Sto} {n : Nat} {xs : List D} {d : D} (h : S[n]? = some (.lst (xs ++ [d]))) : mPop (.obj n) [] S = .ok d (S.set n (.lst xs)) := by
  unfold mPop
  dsimp only
  rw [h]
  dsimp only
  rw [List.length_append, List.length_singleton, Nat.add_sub_cancel, List.getElem?_append_right (Nat.le_refl _), Nat.sub_self, List.dropLast_concat]
  rfl
theorem StAt.putC {S : Sto} {n ch : Nat} {rs : List Row} {cs : List (List Key × D)} (h : StAt S n rs ch cs) (cs' : List (List Key × D)) : StAt (S.set ch (.dt cs')) n rs ch cs' := by
  have gt := h.gt
  exact ⟨(get_put_ne (by omega)).trans h.ob, (get_put_ne (by omega)).trans h.lv, (get_put_ne (by omega)).trans h.lo, (get_put_ne (by omega)).trans h.hi, (get_put_ne (by omega)).trans h.rf, get_put h.cc, gt⟩
/-- a turn of the loop: both parts are known -/
theorem turn_known {S : Sto} {n ch P : Nat} {rs : List Row} {cs : List (Row × Int)} {st : List Row} {t : Row} (h : ChS S n ch P rs cs (st ++ [t])) (v : Tv rs t) (b1 : rs.length < 16000000) (b2 : cs.length < 16000000)
    (hl : 0 ≤ settledF cs (loP rs t)) (hh : 0 ≤ settledF cs (hiP rs t)) (x1 x2 x3 : D) (ask : Row) (v6 v7 v8 v9 v10 v11 : Option D) :
    ∃ (u6 u7 u8 u9 u10 u11 : Option D) (S' : Sto), chBody (chEnv n P x1 x2 x3 ask v6 v7 v8 v9 v10 v11) S = .nx (chEnv n P x1 x2 x3 ask u6 u7 u8 u9 u10 u11) S' ∧
      ChS S' n ch P (nodeR rs (topF rs t, settledF cs (loP rs t), settledF cs (hiP rs t))).2 (putC cs t (nodeR rs (topF rs t, settledF cs (loP rs t), settledF cs (hiP rs t))).1) st ∧ Fr (fun i => StX n ch i ∨ i = P) S S' := by
  have sl := sizeLine_eq
  have m1 : metO "Store" "_parts_of" (some (inSt n ch)) = true := st_met (by simp +decide only [fldL, if_false])
  have m2 : metO "Store" "_settled" (some (inSt n ch)) = true := st_met (by simp +decide only [fldL, if_false])
  have e1 := parts_ok h.st v
  have e2 := settled_ok h.st (loP rs t)
  have e3 := settled_ok h.st (hiP rs t)
  have tl := tks_last st t
  have pl := h.pl
  generalize settledF cs (loP rs t) = x at *
  generalize settledF cs (hiP rs t) = y at *
  obtain ⟨S1, e4, st1, f1⟩ := node_ok h.st (topF rs t) x y b1
  have pl1 := f1.at pl h.nP
  generalize nodeR rs (topF rs t, x, y) = R at *
  have l4 : (csD cs).length < sizeLine := by rw [csD_len]; omega
  have g3 := csD_put t R.1 cs
  have nl : ¬ x < 0 := by omega
  have nh : ¬ y < 0 := by omega
  have gt := st1.gt
  have cP : ch ≠ P := fun e => h.nP (.inr e.symm)
  have pc1 := (get_put_ne (o' := Ob.dt (csD (putC cs t R.1))) cP).trans pl1
  rw [tks_app] at pc1
  have ep := pop_ok pc1
  unfold chBody chEnv
  repeat (first | simp only [h.st.ob, m1, m2, stm_node, pl, tl, e1, e2, e3, e4, if_true, decide_eq_true (show x ≥ 0 from hl), decide_eq_true (show y ≥ 0 from hh), decide_eq_false nl, decide_eq_false nh, st1.ob, st1.cc, st_chosen, g3, if_pos l4, pc1, ep] | walk_at "ev0")
  refine ⟨_, _, _, _, _, _, _, rfl, ⟨?_, get_put pc1, h.nP⟩, ?_⟩
  · exact (st1.putC _).set h.nP
  · exact ((f1.mono fun i _ z => .inl z).set _ fun _ => .inl (.inr rfl)).set _ fun _ => .inr rfl
/-- a turn of the loop: a part is not known yet -/
def more (cs : List (Row × Int)) (rs : List Row) (t : Row) : List Row := (if settledF cs (hiP rs t) < 0 then [hiP rs t] else []) ++ (if settledF cs (loP rs t) < 0 then [loP rs t] else [])
theorem turn_more {S : Sto} {n ch P : Nat} {rs : List Row} {cs : List (Row × Int)} {st : List Row} {t : Row} (h : ChS S n ch P rs cs (st ++ [t])) (v : Tv rs t) (b : (st ++ [t]).length < 1000)
    (hn : ¬ (0 ≤ settledF cs (loP rs t) ∧ 0 ≤ settledF cs (hiP rs t))) (x1 x2 x3 : D) (ask : Row) (v6 v7 v8 v9 v10 v11 : Option D) :
    ∃ (u6 u7 u8 u9 u10 u11 : Option D) (S' : Sto), chBody (chEnv n P x1 x2 x3 ask v6 v7 v8 v9 v10 v11) S = .nx (chEnv n P x1 x2 x3 ask u6 u7 u8 u9 u10 u11) S' ∧
      ChS S' n ch P rs cs (st ++ [t] ++ more cs rs t) ∧ Fr (fun i => StX n ch i ∨ i = P) S S' := by
  have sl := sizeLine_eq
  have m1 : metO "Store" "_parts_of" (some (inSt n ch)) = true := st_met (by simp +decide only [fldL, if_false])
  have m2 : metO "Store" "_settled" (some (inSt n ch)) = true := st_met (by simp +decide only [fldL, if_false])
  have e1 := parts_ok h.st v
  have e2 := settled_ok h.st (loP rs t)
  have e3 := settled_ok h.st (hiP rs t)
  have tl := tks_last st t
  have pl := h.pl
  have ln := tks_len (st ++ [t])
  have tA := fun u => tks_app (st ++ [t]) u
  have tB := fun u w => tks_app (st ++ [t] ++ [u]) w
  have l1 : (st ++ [t]).length < sizeLine := by omega
  have l2 : (st ++ [t]).length + 1 < sizeLine := by omega
  have l3 : st.length + 1 < sizeLine := by rw [List.length_append] at l1; exact l1
  have l4 : st.length + 1 + 1 < sizeLine := by rw [List.length_append] at l2; exact l2
  have sP : ∀ ts : List Row, ChS (S.set P (.lst (tks ts))) n ch P rs cs ts := fun ts => ⟨h.st.set h.nP, get_put pl, h.nP⟩
  have fP : ∀ o : Ob, Fr (fun i => StX n ch i ∨ i = P) S (S.set P o) := fun o => Fr.refl.set _ fun _ => .inr rfl
  unfold more
  generalize settledF cs (loP rs t) = x at *
  generalize settledF cs (hiP rs t) = y at *
  unfold chBody chEnv
  by_cases hx : x < 0
  · have hx' : ¬ x ≥ 0 := by omega
    by_cases hy : y < 0
    · rw [if_pos hx, if_pos hy]
      have q := sP (st ++ [t] ++ [hiP rs t])
      have pl2 := q.pl
      rw [tA] at pl2
      repeat (first | simp only [h.st.ob, m1, m2, pl, tl, e1, e2, e3, if_true, decide_eq_false hx', decide_eq_true hx, decide_eq_true hy, ln, if_pos l1, if_pos l2, if_pos l3, if_pos l4, pl2, List.length_append, List.length_singleton] | walk_at "ev0")
      refine ⟨_, _, _, _, _, _, _, rfl, ?_, fP _⟩
      rw [← tA, ← tB]
      show ChS _ n ch P rs cs (st ++ [t] ++ [hiP rs t, loP rs t])
      rw [show st ++ [t] ++ [hiP rs t, loP rs t] = st ++ [t] ++ [hiP rs t] ++ [loP rs t] by simp]
      exact sP _
    · have hy' : y ≥ 0 := by omega
      rw [if_pos hx, if_neg hy, List.nil_append]
      repeat (first | simp only [h.st.ob, m1, m2, pl, tl, e1, e2, e3, if_true, decide_eq_false hx', decide_eq_true hx, decide_eq_false hy, ln, if_pos l1, if_pos l3, List.length_append, List.length_singleton] | walk_at "ev0")
      refine ⟨_, _, _, _, _, _, _, rfl, ?_, fP _⟩
      rw [← tA]
      exact sP _
  · have hx' : x ≥ 0 := by omega
    have hy : y < 0 := by omega
    have hy' : ¬ y ≥ 0 := by omega
    rw [if_neg hx, if_pos hy, List.append_nil]
    repeat (first | simp only [h.st.ob, m1, m2, pl, tl, e1, e2, e3, if_true, decide_eq_true hx', decide_eq_false hx, decide_eq_false hy', decide_eq_true hy, ln, if_pos l1, if_pos l3, List.length_append, List.length_singleton] | walk_at "ev0")
    refine ⟨_, _, _, _, _, _, _, rfl, ?_, fP _⟩
    rw [← tA]
    exact sP _

theorem lvI_ext {rs ts : List Row} {r : Int} (h : Rf rs r) : lvI (rs ++ ts) r = lvI rs r := by unfold lvI; rw [lvl_ext h]
theorem loI_ext {rs ts : List Row} {r : Int} (h : Rf rs r) : loI (rs ++ ts) r = loI rs r := by
  rcases h.cases with rfl | rfl | ⟨i, q, rfl, hq⟩
  · rfl
  · rfl
  · rw [loI_node hq, loI_node (by rw [List.getElem?_append_left (lt_of_get hq)]; exact hq)]
theorem hiI_ext {rs ts : List Row} {r : Int} (h : Rf rs r) : hiI (rs ++ ts) r = hiI rs r := by
  rcases h.cases with rfl | rfl | ⟨i, q, rfl, hq⟩
  · rfl
  · rfl
  · rw [hiI_node hq, hiI_node (by rw [List.getElem?_append_left (lt_of_get hq)]; exact hq)]
theorem topF_ext {rs ts : List Row} {t : Row} (v : Tv rs t) : topF (rs ++ ts) t = topF rs t := by unfold topF; rw [lvI_ext v.c, lvI_ext v.a, lvI_ext v.b]
theorem loP_ext {rs ts : List Row} {t : Row} (v : Tv rs t) : loP (rs ++ ts) t = loP rs t := by
  unfold loP cofL
  rw [topF_ext v, lvI_ext v.c, lvI_ext v.a, lvI_ext v.b, loI_ext v.c, loI_ext v.a, loI_ext v.b]
theorem hiP_ext {rs ts : List Row} {t : Row} (v : Tv rs t) : hiP (rs ++ ts) t = hiP rs t := by
  unfold hiP cofH
  rw [topF_ext v, lvI_ext v.c, lvI_ext v.a, lvI_ext v.b, hiI_ext v.c, hiI_ext v.a, hiI_ext v.b]
theorem settled_neg {rs : List Row} {cs : List (Row × Int)} {t : Row} (v : Tv rs t) (h : settledF cs t < 0) : ¬ t.1 < 2 := fun z => by
  have h2 := v.a.lo
  have h3 := v.b.lo
  unfold settledF at h
  rw [if_pos z] at h
  split at h <;> omega
theorem filter_less {p q : Int → Bool} (h : ∀ x, p x = true → q x = true) {y : Int} (hp : p y = false) (hq : q y = true) : ∀ l : List Int, y ∈ l → (l.filter p).length < (l.filter q).length := by
  have le : ∀ l : List Int, (l.filter p).length ≤ (l.filter q).length := fun l => by
    induction l with
    | nil => exact Nat.le_refl _
    | cons x l ih =>
      rw [List.filter_cons, List.filter_cons]
      by_cases hx : p x = true
      · rw [if_pos hx, if_pos (h x hx), List.length_cons, List.length_cons]; omega
      · rw [if_neg hx]; split
        · rw [List.length_cons]; omega
        · exact ih
  intro l
  induction l with
  | nil => intro z; cases z
  | cons x l ih =>
    intro z
    rw [List.filter_cons, List.filter_cons]
    by_cases hxy : x = y
    · subst hxy
      rw [if_neg (by rw [hp]; decide), if_pos hq, List.length_cons]
      have := le l
      omega
    · have ih := ih ((List.mem_cons.mp z).resolve_left fun e => hxy e.symm)
      by_cases hx : p x = true
      · rw [if_pos hx, if_pos (h x hx), List.length_cons, List.length_cons]; omega
      · rw [if_neg hx]; split
        · rw [List.length_cons]; omega
        · exact ih
/-- the levels behind l -/
inductive Rch (rs : List Row) (refs : List Int) : Int → Prop
  | base {r : Int} (h : r ∈ refs) : Rch rs refs r
  | lo {i : Nat} {q : Row} (h : rs[i]? = some q) (z : Rch rs refs ((2 + i : Nat) : Int)) : Rch rs refs q.2.1
  | hi {i : Nat} {q : Row} (h : rs[i]? = some q) (z : Rch rs refs ((2 + i : Nat) : Int)) : Rch rs refs q.2.2
theorem Rch.trans {rs : List Row} {refs : List Int} {r x : Int} (h : Rch rs [r] x) (hr : Rch rs refs r) : Rch rs refs x := by
  induction h with
  | base h => rw [List.mem_singleton.mp h]; exact hr
  | lo hq _ ih => exact Rch.lo hq ih
  | hi hq _ ih => exact Rch.hi hq ih
/-- all levels that a reference asks for are in lw -/
def Ov (lw : List Int) (rs : List Row) (r : Int) : Prop := ∀ x, Rch rs [r] x → ∀ l, lvl rs x = some l → l ∈ lw
theorem Ov.all {lw : List Int} {rs : List Row} (h : ∀ (i : Nat) (q : Row), rs[i]? = some q → q.1 ∈ lw) (r : Int) : Ov lw rs r := fun x _ l hl => by
  unfold lvl at hl
  split at hl
  · cases hl
  · obtain ⟨q, hq, rfl⟩ := Option.map_eq_some_iff.mp hl
    exact h _ q hq
theorem Ov.const {lw : List Int} {rs : List Row} (w : Wf rs) {r : Int} (hr : r = 0 ∨ r = 1) : Ov lw rs r := by
  have key : ∀ x, Rch rs [r] x → x = r := fun x h => by
    induction h with
    | base h => exact List.mem_singleton.mp h
    | lo hq _ ih => omega
    | hi hq _ ih => omega
  intro x hx l hl
  rw [key x hx, lvl_const (by omega)] at hl
  cases hl
theorem Ov.ext {lw : List Int} {rs ts : List Row} (w : Wf rs) {r : Int} (hr : Rf rs r) (h : Ov lw rs r) : Ov lw (rs ++ ts) r := by
  have key : ∀ x, Rch (rs ++ ts) [r] x → Rch rs [r] x ∧ Rf rs x := fun x hx => by
    induction hx with
    | base h => exact ⟨Rch.base h, by rw [List.mem_singleton.mp h]; exact hr⟩
    | @lo i q hq _ ih =>
      have hi : i < rs.length := by have := ih.2.hi; omega
      rw [List.getElem?_append_left hi] at hq
      exact ⟨Rch.lo hq ih.1, w.rlo hq⟩
    | @hi i q hq _ ih =>
      have hi : i < rs.length := by have := ih.2.hi; omega
      rw [List.getElem?_append_left hi] at hq
      exact ⟨Rch.hi hq ih.1, w.rhi hq⟩
  intro x hx l hl
  obtain ⟨k1, k2⟩ := key x hx
  rw [lvl_ext k2] at hl
  exact h x k1 l hl
theorem Ov.part {lw : List Int} {rs : List Row} {r s : Int} (h : Ov lw rs r) (hs : Rch rs [r] s) : Ov lw rs s := fun x hx l hl => h x (hx.trans hs) l hl
structure OvT (lw : List Int) (rs : List Row) (t : Row) : Prop where
  c : Ov lw rs t.1
  a : Ov lw rs t.2.1
  b : Ov lw rs t.2.2
theorem OvT.ext {lw : List Int} {rs ts : List Row} {t : Row} (w : Wf rs) (v : Tv rs t) (h : OvT lw rs t) : OvT lw (rs ++ ts) t := ⟨h.c.ext w v.c, h.a.ext w v.a, h.b.ext w v.b⟩
theorem Ov.cofL {lw : List Int} {rs : List Row} {r l : Int} (hr : Rf rs r) (h : Ov lw rs r) : Ov lw rs (cofL rs l r) := by
  unfold O.cofL
  split
  · rcases hr.cases with rfl | rfl | ⟨i, q, rfl, hq⟩
    · exact h
    · exact h
    · rw [loI_node hq]; exact h.part (Rch.lo hq (Rch.base (List.mem_singleton.mpr rfl)))
  · exact h
theorem Ov.cofH {lw : List Int} {rs : List Row} {r l : Int} (hr : Rf rs r) (h : Ov lw rs r) : Ov lw rs (cofH rs l r) := by
  unfold O.cofH
  split
  · rcases hr.cases with rfl | rfl | ⟨i, q, rfl, hq⟩
    · exact h
    · exact h
    · rw [hiI_node hq]; exact h.part (Rch.hi hq (Rch.base (List.mem_singleton.mpr rfl)))
  · exact h
theorem OvT.lo {lw : List Int} {rs : List Row} {t : Row} (v : Tv rs t) (h : OvT lw rs t) : OvT lw rs (loP rs t) := ⟨h.c.cofL v.c, h.a.cofL v.a, h.b.cofL v.b⟩
theorem OvT.hi {lw : List Int} {rs : List Row} {t : Row} (v : Tv rs t) (h : OvT lw rs t) : OvT lw rs (hiP rs t) := ⟨h.c.cofH v.c, h.a.cofH v.a, h.b.cofH v.b⟩
def rank (lv : List Int) (l : Int) : Nat := (lv.filter fun x => decide (l < x)).length
theorem rank_less {lv : List Int} {l m : Int} (h : l < m) (hm : m ∈ lv) : rank lv m < rank lv l :=
  filter_less (y := m) (fun x hx => by rw [decide_eq_true_eq] at hx ⊢; omega) (decide_eq_false (by omega)) (decide_eq_true h) lv hm
/-- so many turns at most -/
def mT : Nat → Nat
  | 0 => 0
  | k + 1 => 2 * mT k + 2
structure Out (lv : List Int) (n ch P : Nat) (rs : List Row) (cs : List (Row × Int)) (S : Sto) (rs' : List Row) (cs' : List (Row × Int)) (S' : Sto) (m : Nat) : Prop where
  ext : ∃ ts, rs' = rs ++ ts
  wf : Wf rs'
  lv : ∀ (i : Nat) (q : Row), rs'[i]? = some q → q.1 ∈ lv
  ok : ChOk rs' cs'
  mono : ∀ u, 0 ≤ settledF cs u → 0 ≤ settledF cs' u
  fr : Fr (fun i => StX n ch i ∨ i = P) S S'
  lr : rs'.length ≤ rs.length + m
  lc : cs'.length ≤ cs.length + m
theorem Out.trans {lv : List Int} {n ch P : Nat} {rs rs1 rs2 : List Row} {cs cs1 cs2 : List (Row × Int)} {S S1 S2 : Sto} {m1 m2 : Nat} (a : Out lv n ch P rs cs S rs1 cs1 S1 m1) (b : Out lv n ch P rs1 cs1 S1 rs2 cs2 S2 m2) : Out lv n ch P rs cs S rs2 cs2 S2 (m1 + m2) := by
  obtain ⟨t1, e1⟩ := a.ext
  obtain ⟨t2, e2⟩ := b.ext
  have := a.lr
  have := b.lr
  have := a.lc
  have := b.lc
  exact ⟨⟨t1 ++ t2, by rw [e2, e1, List.append_assoc]⟩, b.wf, b.lv, b.ok, fun u h => b.mono u (a.mono u h), a.fr.trans b.fr, by omega, by omega⟩
noncomputable abbrev chT : DT := eTru (eV 5)
theorem test_true {S : Sto} {n ch P : Nat} {rs : List Row} {cs : List (Row × Int)} {st : List Row} {t : Row} (h : ChS S n ch P rs cs (st ++ [t])) (x1 x2 x3 : D) (ask : Row) (v6 v7 v8 v9 v10 v11 : Option D) : chT (chEnv n P x1 x2 x3 ask v6 v7 v8 v9 v10 v11) S = .ok true S := by
  have pl := h.pl
  have e : (tks (st ++ [t])).isEmpty = false := by
    rw [tks_app]
    cases tks st <;> rfl
  unfold chT chEnv
  repeat (first | simp only [pl, e] | walk_at "ev0")
theorem test_false {S : Sto} {n ch P : Nat} {rs : List Row} {cs : List (Row × Int)} (h : ChS S n ch P rs cs []) (x1 x2 x3 : D) (ask : Row) (v6 v7 v8 v9 v10 v11 : Option D) : chT (chEnv n P x1 x2 x3 ask v6 v7 v8 v9 v10 v11) S = .ok false S := by
  have pl := h.pl
  have e : (tks []).isEmpty = true := rfl
  unfold chT chEnv
  repeat (first | simp only [pl, e] | walk_at "ev0")
theorem while_step {N : Nat} {T : DT} {b : DS} {ρ ρ2 : Env} {S S2 : Sto} (h : T ρ S = .ok true S) (e : b ρ S = .nx ρ2 S2) : dWhile (N + 1) T b ρ S = dWhile N T b ρ2 S2 := by
  show whT b (dWhile N T b) ρ (T ρ S) = _
  rw [h]
  show whR (dWhile N T b) (b ρ S) = _
  rw [e]
  rfl
/-- one turn, all parts known -/
theorem known_out {lv : List Int} {S : Sto} {n ch P : Nat} {rs : List Row} {cs : List (Row × Int)} {st : List Row} {t : Row} (w : Wf rs) (hlv : ∀ (i : Nat) (q : Row), rs[i]? = some q → q.1 ∈ lv) (ok : ChOk rs cs) (h : ChS S n ch P rs cs (st ++ [t])) (v : Tv rs t) (hc : ¬ t.1 < 2)
    (b1 : rs.length < 16000000) (b2 : cs.length < 16000000) (hl : 0 ≤ settledF cs (loP rs t)) (hh : 0 ≤ settledF cs (hiP rs t)) (x1 x2 x3 : D) (ask : Row) (v6 v7 v8 v9 v10 v11 : Option D) :
    ∃ (u6 u7 u8 u9 u10 u11 : Option D) (rs' : List Row) (cs' : List (Row × Int)) (S' : Sto), (∀ N, dWhile (N + 1) chT chBody (chEnv n P x1 x2 x3 ask v6 v7 v8 v9 v10 v11) S = dWhile N chT chBody (chEnv n P x1 x2 x3 ask u6 u7 u8 u9 u10 u11) S') ∧
      Out lv n ch P rs cs S rs' cs' S' 1 ∧ ChS S' n ch P rs' cs' st ∧ 0 ≤ settledF cs' t := by
  obtain ⟨u6, u7, u8, u9, u10, u11, S', e, hS, f⟩ := turn_known h v b1 b2 hl hh x1 x2 x3 ask v6 v7 v8 v9 v10 v11
  obtain ⟨p1, p2, _⟩ := parts_math w v hc
  obtain ⟨no, is⟩ := made_is w v hc (settled_is ok p1 hl) (settled_is ok p2 hh)
  have w2 := node_wf w no
  obtain ⟨h0, h1, h2, h3, r, rr, hl2, hr⟩ := top_ok w v hc
  have top_in : topF rs t ∈ lv := by
    rcases rr.cases with e | e | ⟨i, q, e, hq⟩
    · rw [e, lvl_const (by decide)] at hl2; cases hl2
    · rw [e, lvl_const (by decide)] at hl2; cases hl2
    · rw [e, lvl_node hq] at hl2
      rw [← Option.some.inj hl2]
      exact hlv i q hq
  have nlv : ∀ (i : Nat) (q : Row), (nodeR rs (topF rs t, settledF cs (loP rs t), settledF cs (hiP rs t))).2[i]? = some q → q.1 ∈ lv := fun i q hq => by
    unfold nodeR at hq
    split at hq
    · exact hlv i q hq
    · split at hq
      · exact hlv i q hq
      · by_cases hi : i < rs.length
        · exact hlv i q (by rw [← hq, List.getElem?_append_left hi])
        · have l := lt_of_get hq
          rw [List.length_append] at l
          have l : i < rs.length + 1 := l
          have : i = rs.length := by omega
          subst this
          have hq : (rs ++ [(topF rs t, settledF cs (loP rs t), settledF cs (hiP rs t))])[rs.length]? = some q := hq
          rw [List.getElem?_append_right (Nat.le_refl _), Nat.sub_self] at hq
          rw [← Option.some.inj hq]
          exact top_in
  obtain ⟨ts, et, lt⟩ := nodeR_ext rs (topF rs t, settledF cs (loP rs t), settledF cs (hiP rs t))
  have v2 : Tv (nodeR rs (topF rs t, settledF cs (loP rs t), settledF cs (hiP rs t))).2 t := by rw [et]; exact v.ext
  have ok2 : ChOk (nodeR rs (topF rs t, settledF cs (loP rs t), settledF cs (hiP rs t))).2 cs := by rw [et]; exact ok.ext
  have r0 := is.rf.lo
  refine ⟨u6, u7, u8, u9, u10, u11, _, _, S', fun N => while_step (test_true h ..) e, ⟨⟨ts, et⟩, w2, nlv, ok2.put v2 is, fun u hu => settled_mono r0 hu, f, by rw [et, List.length_append]; omega, putC_len _ _ _⟩, hS, settled_put v r0⟩
theorem proc {n ch P : Nat} (lv lw : List Int) (x1 x2 x3 : D) (ask : Row) : ∀ (k : Nat) (l : Int) (t : Row) (st : List Row) (rs : List Row) (cs : List (Row × Int)) (S : Sto) (v6 v7 v8 v9 v10 v11 : Option D), rank lw l ≤ k → Wf rs → (∀ (i : Nat) (q : Row), rs[i]? = some q → q.1 ∈ lv) → ChOk rs cs → Tv rs t → ¬ t.1 < 2 → Ta rs l t → OvT lw rs t →
    ChS S n ch P rs cs (st ++ [t]) → rs.length + mT k < 16000000 → cs.length + mT k < 16000000 → st.length + 2 * k < 990 →
    ∃ (u6 u7 u8 u9 u10 u11 : Option D) (rs' : List Row) (cs' : List (Row × Int)) (S' : Sto) (m : Nat), m ≤ mT k ∧ (∀ N, dWhile (N + m) chT chBody (chEnv n P x1 x2 x3 ask v6 v7 v8 v9 v10 v11) S = dWhile N chT chBody (chEnv n P x1 x2 x3 ask u6 u7 u8 u9 u10 u11) S') ∧
      Out lv n ch P rs cs S rs' cs' S' m ∧ ChS S' n ch P rs' cs' st ∧ 0 ≤ settledF cs' t := by
  intro k
  induction k with
  | zero =>
    intro l t st rs cs S v6 v7 v8 v9 v10 v11 hk w hlv ok v hc ta ov
    exfalso
    rcases v.c.cases with e | e | ⟨i, q, e, hq⟩
    · omega
    · omega
    · have h1 := ta.c q.1 (by rw [e]; exact lvl_node hq)
      have := rank_less h1 (ov.c _ (Rch.base (List.mem_singleton.mpr rfl)) q.1 (by rw [e]; exact lvl_node hq))
      omega
  | succ k ih =>
    intro l t st rs cs S v6 v7 v8 v9 v10 v11 hk w hlv ok v hc ta ov h b1 b2 b3
    have hm : mT (k + 1) = 2 * mT k + 2 := rfl
    obtain ⟨h0, h1, h2, h3, r, rr, hl2, hr⟩ := top_ok w v hc
    obtain ⟨p1, p2, p3, p4, _⟩ := parts_math w v hc
    have top_in : topF rs t ∈ lw := by
      rcases hr with rfl | rfl | rfl
      · exact ov.c _ (Rch.base (List.mem_singleton.mpr rfl)) _ hl2
      · exact ov.a _ (Rch.base (List.mem_singleton.mpr rfl)) _ hl2
      · exact ov.b _ (Rch.base (List.mem_singleton.mpr rfl)) _ hl2
    have ltop : l < topF rs t := by
      rcases hr with rfl | rfl | rfl
      · exact ta.c _ hl2
      · exact ta.a _ hl2
      · exact ta.b _ hl2
    have hr2 : rank lw (topF rs t) ≤ k := by have := rank_less ltop top_in; omega
    by_cases hs : 0 ≤ settledF cs (loP rs t) ∧ 0 ≤ settledF cs (hiP rs t)
    · obtain ⟨u6, u7, u8, u9, u10, u11, rs', cs', S', e, o, c, s⟩ := known_out (lv := lv) w hlv ok h v hc (by omega) (by omega) hs.1 hs.2 x1 x2 x3 ask v6 v7 v8 v9 v10 v11
      exact ⟨u6, u7, u8, u9, u10, u11, rs', cs', S', 1, by omega, e, o, c, s⟩
    · obtain ⟨a6, a7, a8, a9, a10, a11, S1, e1, c1, f1⟩ := turn_more h v (by rw [List.length_append, List.length_singleton]; omega) hs x1 x2 x3 ask v6 v7 v8 v9 v10 v11
      have o1 : Out lv n ch P rs cs S rs cs S1 0 := ⟨⟨[], (List.append_nil _).symm⟩, w, hlv, ok, fun _ h => h, f1, Nat.le_refl _, Nat.le_refl _⟩
      -- the low part
      have low : ∃ (u6 u7 u8 u9 u10 u11 : Option D) (rs2 : List Row) (cs2 : List (Row × Int)) (S2 : Sto) (m : Nat), m ≤ mT k ∧ (∀ N, dWhile (N + m) chT chBody (chEnv n P x1 x2 x3 ask a6 a7 a8 a9 a10 a11) S1 = dWhile N chT chBody (chEnv n P x1 x2 x3 ask u6 u7 u8 u9 u10 u11) S2) ∧
          Out lv n ch P rs cs S1 rs2 cs2 S2 m ∧ ChS S2 n ch P rs2 cs2 (st ++ [t] ++ (if settledF cs (hiP rs t) < 0 then [hiP rs t] else [])) ∧ 0 ≤ settledF cs2 (loP rs t) := by
        unfold more at c1
        by_cases hx : settledF cs (loP rs t) < 0
        · rw [if_pos hx, ← List.append_assoc] at c1
          refine ih (topF rs t) (loP rs t) _ rs cs S1 a6 a7 a8 a9 a10 a11 hr2 w hlv ok p1 (settled_neg p1 hx) p3 (ov.lo v) c1 (by omega) (by omega) ?_
          rw [List.length_append, List.length_append, List.length_singleton]
          split
          · rw [List.length_singleton]; omega
          · rw [List.length_nil]; omega
        · rw [if_neg hx, List.append_nil] at c1
          exact ⟨a6, a7, a8, a9, a10, a11, rs, cs, S1, 0, Nat.zero_le _, fun _ => rfl, ⟨⟨[], (List.append_nil _).symm⟩, w, hlv, ok, fun _ h => h, Fr.refl, Nat.le_refl _, Nat.le_refl _⟩, c1, by omega⟩
      obtain ⟨g6, g7, g8, g9, g10, g11, rs2, cs2, S2, m2, hm2, e2, o2, c2, s2⟩ := low
      obtain ⟨ts, et⟩ := o2.ext
      have lr2 := o2.lr
      have lc2 := o2.lc
      -- the high part
      have high : ∃ (u6 u7 u8 u9 u10 u11 : Option D) (rs3 : List Row) (cs3 : List (Row × Int)) (S3 : Sto) (m : Nat), m ≤ mT k ∧ (∀ N, dWhile (N + m) chT chBody (chEnv n P x1 x2 x3 ask g6 g7 g8 g9 g10 g11) S2 = dWhile N chT chBody (chEnv n P x1 x2 x3 ask u6 u7 u8 u9 u10 u11) S3) ∧
          Out lv n ch P rs2 cs2 S2 rs3 cs3 S3 m ∧ ChS S3 n ch P rs3 cs3 (st ++ [t]) ∧ 0 ≤ settledF cs3 (hiP rs t) := by
        by_cases hx : settledF cs (hiP rs t) < 0
        · rw [if_pos hx] at c2
          refine ih (topF rs t) (hiP rs t) _ rs2 cs2 S2 g6 g7 g8 g9 g10 g11 hr2 o2.wf o2.lv o2.ok (by rw [et]; exact p2.ext) (settled_neg p2 hx) (by rw [et]; exact p4.ext p2) (by rw [et]; exact (ov.hi v).ext w p2) c2 (by omega) (by omega) ?_
          rw [List.length_append, List.length_singleton]
          omega
        · rw [if_neg hx, List.append_nil] at c2
          exact ⟨g6, g7, g8, g9, g10, g11, rs2, cs2, S2, 0, Nat.zero_le _, fun _ => rfl, ⟨⟨[], (List.append_nil _).symm⟩, o2.wf, o2.lv, o2.ok, fun _ h => h, Fr.refl, Nat.le_refl _, Nat.le_refl _⟩, c2, o2.mono _ (by omega)⟩
      obtain ⟨d6, d7, d8, d9, d10, d11, rs3, cs3, S3, m3, hm3, e3, o3, c3, s3⟩ := high
      have o23 := (o1.trans o2).trans o3
      obtain ⟨ts3, et3⟩ := o23.ext
      have lr3 := o3.lr
      have lc3 := o3.lc
      have v3 : Tv rs3 t := by rw [et3]; exact v.ext
      have ep : loP rs3 t = loP rs t := by rw [et3]; exact loP_ext v
      have eh : hiP rs3 t = hiP rs t := by rw [et3]; exact hiP_ext v
      obtain ⟨u6, u7, u8, u9, u10, u11, rs', cs', S', e4, o4, c4, s4⟩ := known_out (lv := lv) o3.wf o3.lv o3.ok c3 v3 hc (by omega) (by omega) (by rw [ep]; exact o3.mono _ s2) (by rw [eh]; exact s3) x1 x2 x3 ask d6 d7 d8 d9 d10 d11
      refine ⟨u6, u7, u8, u9, u10, u11, rs', cs', S', 0 + m2 + m3 + 1 + 1, by omega, fun N => ?_, ?_, c4, s4⟩
      · have q1 := while_step (N := N + (0 + m2 + m3 + 1)) (test_true h x1 x2 x3 ask v6 v7 v8 v9 v10 v11) e1
        rw [show N + (0 + m2 + m3 + 1 + 1) = N + (0 + m2 + m3 + 1) + 1 by omega, q1, show N + (0 + m2 + m3 + 1) = N + 1 + m3 + m2 by omega, e2, e3, e4]
      · have o5 := o23.trans o4
        obtain ⟨q1, q2, q3, q4, q5, q6, q7, q8⟩ := o5
        exact ⟨q1, q2, q3, q4, q5, q6, by omega, by omega⟩

/-- what an operation of a Store gives: the reference r, in the rows rs' -/
structure Gives (lv : List Int) (n ch : Nat) (S : Sto) (rs : List Row) (S' : Sto) (rs' : List Row) (cs' : List (Row × Int)) (b : Nat) : Prop where
  st : StAt S' n rs' ch (csD cs')
  ext : ∃ ts, rs' = rs ++ ts
  wf : Wf rs'
  lv : ∀ (i : Nat) (q : Row), rs'[i]? = some q → q.1 ∈ lv
  ok : ChOk rs' cs'
  fr : Fr (StX n ch) S S'
  lr : rs'.length ≤ b
  lc : cs'.length ≤ b
/-- a Store in good order -/
structure Good (lv : List Int) (n ch : Nat) (S : Sto) (rs : List Row) (cs : List (Row × Int)) (b : Nat) : Prop where
  st : StAt S n rs ch (csD cs)
  wf : Wf rs
  lv : ∀ (i : Nat) (q : Row), rs[i]? = some q → q.1 ∈ lv
  ok : ChOk rs cs
  lr : rs.length ≤ b
  lc : cs.length ≤ b
theorem Gives.good {lv : List Int} {n ch : Nat} {S S' : Sto} {rs rs' : List Row} {cs' : List (Row × Int)} {b : Nat} (g : Gives lv n ch S rs S' rs' cs' b) : Good lv n ch S' rs' cs' b := ⟨g.st, g.wf, g.lv, g.ok, g.lr, g.lc⟩
theorem choose_ov {lv lw : List Int} {n ch N b : Nat} {S : Sto} {rs : List Row} {cs : List (Row × Int)} (g : Good lv n ch S rs cs b) {t : Row} (v : Tv rs t) (ov : OvT lw rs t) (hlv : lw.length ≤ 30) (hb : b + mT lw.length < 300000) (hN : mT lw.length < N) :
    ∃ (r : Int) (S' : Sto) (rs' : List Row) (cs' : List (Row × Int)), h_Store_choose N [.obj n, .int t.1, .int t.2.1, .int t.2.2] S = .ok (.int r) S' ∧ Gives lv n ch S rs S' rs' cs' (b + mT lw.length) ∧ Is rs' t r := by
  have sl := sizeLine_eq
  have s1 : (1 : Nat) ≤ sizeLine := by omega
  have s0 : (0 : Nat) ≤ sizeLine := by omega
  have h := g.st
  have m2 : metO "Store" "_settled" (some (inSt n ch)) = true := st_met (by simp +decide only [fldL, if_false])
  have e2 := settled_ok h t
  have hlen := g.lc
  have hlr := g.lr
  have nl : ¬ ((cs.length : Nat) : Int) > 300000 := by omega
  have ek : ([Sum.inl t.1, Sum.inl t.2.1, Sum.inl t.2.2] : List Key) = t.key := rfl
  unfold h_Store_choose
  walk_at "env"
  unfold b_Store_choose
  show ∃ (r : Int) (S' : Sto) (rs' : List Row) (cs' : List (Row × Int)), endR ((dSeq _ (dSeq _ (dSeq _ (dSeq (dWhile N chT chBody) _)))) _ S) = .ok (.int r) S' ∧ _
  repeat (first | simp only [h.ob, h.cc, st_chosen, csD_len, decide_eq_false nl, ek, m2, e2, if_true] | walk_at "ev0")
  have nP : ¬ StX n ch S.length := fun z => by
    have l1 := lt_of_get h.rf
    have l2 := lt_of_get h.cc
    rcases z with ⟨_, _⟩ | z <;> omega
  obtain ⟨M, rfl⟩ : ∃ M, N = M + 1 := ⟨N - 1, by omega⟩
  -- behind the loop
  have fin : ∀ (u6 u7 u8 u9 u10 u11 : Option D) (S1 S2 : Sto) (rs2 : List Row) (cs2 : List (Row × Int)) (m k : Nat), m ≤ mT lw.length → k + m = M + 1 → 0 < k → (∀ N, dWhile (N + m) chT chBody (chEnv n S.length (.int t.1) (.int t.2.1) (.int t.2.2) t none none none none none none) S1 = dWhile N chT chBody (chEnv n S.length (.int t.1) (.int t.2.1) (.int t.2.2) t u6 u7 u8 u9 u10 u11) S2) → Fr (StX n ch) S S1 → S1.length = S.length + 1 →
      Out lv n ch S.length rs cs S1 rs2 cs2 S2 m → ChS S2 n ch S.length rs2 cs2 [] → 0 ≤ settledF cs2 t →
      ∃ (r : Int) (S' : Sto) (rs' : List Row) (cs' : List (Row × Int)), endR (seqR (dRet (eMet "Store" "_settled" h_Store__settled (eV 0) (eCons (eV 4) eNil))) (dWhile (M + 1) chT chBody (chEnv n S.length (.int t.1) (.int t.2.1) (.int t.2.2) t none none none none none none) S1)) = .ok (.int r) S' ∧ Gives lv n ch S rs S' rs' cs' (b + mT lw.length) ∧ Is rs' t r := by
    intro u6 u7 u8 u9 u10 u11 S1 S2 rs2 cs2 m k hm hk k0 ew f1 l1 o c hs
    obtain ⟨j, rfl⟩ : ∃ j, k = j + 1 := ⟨k - 1, by omega⟩
    rw [← hk, ew (j + 1)]
    have q : dWhile (j + 1) chT chBody (chEnv n S.length (.int t.1) (.int t.2.1) (.int t.2.2) t u6 u7 u8 u9 u10 u11) S2 = .nx (chEnv n S.length (.int t.1) (.int t.2.1) (.int t.2.2) t u6 u7 u8 u9 u10 u11) S2 := by
      show whT chBody (dWhile j chT chBody) _ (chT _ S2) = _
      rw [test_false c]
      rfl
    rw [q]
    have e3 := settled_ok c.st t
    unfold chEnv
    repeat (first | simp only [c.st.ob, m2, e3, if_true] | walk_at "ev0")
    obtain ⟨ts, et⟩ := o.ext
    have v2 : Tv rs2 t := by rw [et]; exact v.ext
    have lr := o.lr
    have lc := o.lc
    have fr : Fr (StX n ch) S S2 := ⟨by have := o.fr.len; omega, fun i hi hx => (o.fr.old i (by omega) fun z => by rcases z with z | z; exact hx z; omega).trans (f1.old i hi hx)⟩
    exact ⟨_, _, _, _, rfl, ⟨c.st, ⟨ts, et⟩, o.wf, o.lv, o.ok, fr, by omega, by omega⟩, settled_is o.ok v2 hs⟩
  by_cases hs : settledF cs t < 0
  · have hc := settled_neg v hs
    have c1 : ChS (S ++ [Ob.lst (tks [t])]) n ch S.length rs cs ([] ++ [t]) := ⟨h.add, Ev.appNew, nP⟩
    have ta : Ta rs (-1) t := by
      have key : ∀ r, Rf rs r → Above rs (-1) r := fun r hr l' el => by
        rcases hr.cases with rfl | rfl | ⟨i, q, rfl, hq⟩
        · rw [lvl_const (by decide)] at el; cases el
        · rw [lvl_const (by decide)] at el; cases el
        · rw [lvl_node hq] at el
          cases Option.some.inj el
          have := g.wf.pos i q hq
          omega
      exact ⟨key _ v.c, key _ v.a, key _ v.b⟩
    have rk : rank lw (-1) ≤ lw.length := List.length_filter_le _ _
    obtain ⟨u6, u7, u8, u9, u10, u11, rs2, cs2, S2, m, hm, ew, o, c, s⟩ := proc (n := n) (ch := ch) (P := S.length) lv lw (.int t.1) (.int t.2.1) (.int t.2.2) t lw.length (-1) t [] rs cs _ none none none none none none rk g.wf g.lv g.ok v hc ta ov c1 (by omega) (by omega) (by rw [List.length_nil]; omega)
    have q := fin u6 u7 u8 u9 u10 u11 _ S2 rs2 cs2 m (M + 1 - m) hm (by omega) (by omega) ew (Fr.refl.add _) (by rw [List.length_append]; rfl) o c s
    repeat (first | simp only [decide_eq_true hs, if_pos s1] | walk_at "ev0")
    exact q
  · have c1 : ChS (S ++ [Ob.lst (tks [])]) n ch S.length rs cs [] := ⟨h.add, Ev.appNew, nP⟩
    have q := fin none none none none none none _ _ rs cs 0 (M + 1) (Nat.zero_le _) (by omega) (by omega) (fun _ => rfl) (Fr.refl.add (Ob.lst (tks []))) (by rw [List.length_append]; rfl) ⟨⟨[], (List.append_nil _).symm⟩, g.wf, g.lv, g.ok, fun _ h => h, Fr.refl, Nat.le_refl _, Nat.le_refl _⟩ c1 (by omega)
    repeat (first | simp only [decide_eq_false hs, if_pos s0] | walk_at "ev0")
    exact q

theorem choose_ok {lv : List Int} {n ch N b : Nat} {S : Sto} {rs : List Row} {cs : List (Row × Int)} (g : Good lv n ch S rs cs b) {t : Row} (v : Tv rs t) (hlv : lv.length ≤ 30) (hb : b + mT lv.length < 300000) (hN : mT lv.length < N) :
    ∃ (r : Int) (S' : Sto) (rs' : List Row) (cs' : List (Row × Int)), h_Store_choose N [.obj n, .int t.1, .int t.2.1, .int t.2.2] S = .ok (.int r) S' ∧ Gives lv n ch S rs S' rs' cs' (b + mT lv.length) ∧ Is rs' t r :=
  choose_ov g v ⟨Ov.all g.lv _, Ov.all g.lv _, Ov.all g.lv _⟩ hlv hb hN

section
variable {lv : List Int} {n ch N b : Nat} {S : Sto} {rs : List Row} {cs : List (Row × Int)}
theorem Gives.ite {S' : Sto} {rs' : List Row} {cs' : List (Row × Int)} {c : Nat} (g : Gives lv n ch S rs S' rs' cs' c) {t : Row} {r : Int} (v : Tv rs t) (i : Is rs' t r) (β : Int → Bool) : val rs' β r = if val rs β t.1 = true then val rs β t.2.1 else val rs β t.2.2 := by
  obtain ⟨ts, et⟩ := g.ext
  rw [i.eq β, et, ITE_ext v]
  rfl
theorem stm_choose {n ch : Nat} : metO "Store" "choose" (some (inSt n ch)) = true := st_met (by simp +decide only [fldL, if_false])
theorem negate_ok (g : Good lv n ch S rs cs b) {x : Int} (hx : Rf rs x) (hlv : lv.length ≤ 30) (hb : b + mT lv.length < 300000) (hN : mT lv.length < N) :
    ∃ (r : Int) (S' : Sto) (rs' : List Row) (cs' : List (Row × Int)), h_Store_negate N [.obj n, .int x] S = .ok (.int r) S' ∧ Gives lv n ch S rs S' rs' cs' (b + mT lv.length) ∧ Rf rs' r ∧ ∀ β, val rs' β r = !val rs β x := by
  obtain ⟨r, S', rs', cs', e, gv, i⟩ := choose_ok g (t := (x, 0, 1)) ⟨hx, Rf.zero, Rf.one⟩ hlv hb hN
  dsimp only at e
  unfold h_Store_negate
  walk_at "env"
  unfold b_Store_negate
  repeat (first | simp only [g.st.ob, stm_choose, e, if_true] | walk_at "ev0")
  refine ⟨_, _, _, _, rfl, gv, i.rf, fun β => ?_⟩
  rw [gv.ite ⟨hx, Rf.zero, Rf.one⟩ i β, val_zero, val_one]
  cases val rs β x <;> rfl
theorem both_ok (g : Good lv n ch S rs cs b) {x y : Int} (hx : Rf rs x) (hy : Rf rs y) (hlv : lv.length ≤ 30) (hb : b + mT lv.length < 300000) (hN : mT lv.length < N) :
    ∃ (r : Int) (S' : Sto) (rs' : List Row) (cs' : List (Row × Int)), h_Store_both N [.obj n, .int x, .int y] S = .ok (.int r) S' ∧ Gives lv n ch S rs S' rs' cs' (b + mT lv.length) ∧ Rf rs' r ∧ ∀ β, val rs' β r = (val rs β x && val rs β y) := by
  have v : Tv rs ((if y < x then y else x), (if y > x then y else x), 0) := ⟨by dsimp only; split <;> assumption, by dsimp only; split <;> assumption, Rf.zero⟩
  obtain ⟨r, S', rs', cs', e, gv, i⟩ := choose_ok g v hlv hb hN
  dsimp only at e
  unfold h_Store_both
  walk_at "env"
  unfold b_Store_both
  repeat (first | simp only [g.st.ob, stm_choose, e, if_true] | walk_at "ev0")
  refine ⟨_, _, _, _, rfl, gv, i.rf, fun β => ?_⟩
  rw [gv.ite v i β]
  dsimp only
  rw [val_zero]
  by_cases h1 : y < x
  · have h2 : ¬ y > x := by omega
    simp only [if_pos h1, if_neg h2]
    cases val rs β x <;> cases val rs β y <;> rfl
  · by_cases h2 : y > x
    · simp only [if_neg h1, if_pos h2]
      cases val rs β x <;> cases val rs β y <;> rfl
    · have : x = y := by omega
      subst this
      simp only [if_neg h1]
      cases val rs β x <;> rfl
theorem either_ok (g : Good lv n ch S rs cs b) {x y : Int} (hx : Rf rs x) (hy : Rf rs y) (hlv : lv.length ≤ 30) (hb : b + mT lv.length < 300000) (hN : mT lv.length < N) :
    ∃ (r : Int) (S' : Sto) (rs' : List Row) (cs' : List (Row × Int)), h_Store_either N [.obj n, .int x, .int y] S = .ok (.int r) S' ∧ Gives lv n ch S rs S' rs' cs' (b + mT lv.length) ∧ Rf rs' r ∧ ∀ β, val rs' β r = (val rs β x || val rs β y) := by
  have v : Tv rs ((if y < x then y else x), 1, (if y > x then y else x)) := ⟨by dsimp only; split <;> assumption, Rf.one, by dsimp only; split <;> assumption⟩
  obtain ⟨r, S', rs', cs', e, gv, i⟩ := choose_ok g v hlv hb hN
  dsimp only at e
  unfold h_Store_either
  walk_at "env"
  unfold b_Store_either
  repeat (first | simp only [g.st.ob, stm_choose, e, if_true] | walk_at "ev0")
  refine ⟨_, _, _, _, rfl, gv, i.rf, fun β => ?_⟩
  rw [gv.ite v i β]
  dsimp only
  rw [val_one]
  by_cases h1 : y < x
  · have h2 : ¬ y > x := by omega
    simp only [if_pos h1, if_neg h2]
    cases val rs β x <;> cases val rs β y <;> rfl
  · by_cases h2 : y > x
    · simp only [if_neg h1, if_pos h2]
      cases val rs β x <;> cases val rs β y <;> rfl
    · have : x = y := by omega
      subst this
      simp only [if_neg h1]
      cases val rs β x <;> rfl
theorem without_ok (g : Good lv n ch S rs cs b) {x y : Int} (hx : Rf rs x) (hy : Rf rs y) (hlv : lv.length ≤ 30) (hb : b + mT lv.length < 300000) (hN : mT lv.length < N) :
    ∃ (r : Int) (S' : Sto) (rs' : List Row) (cs' : List (Row × Int)), h_Store_without N [.obj n, .int x, .int y] S = .ok (.int r) S' ∧ Gives lv n ch S rs S' rs' cs' (b + mT lv.length) ∧ Rf rs' r ∧ ∀ β, val rs' β r = (val rs β x && !val rs β y) := by
  have v : Tv rs (y, 0, x) := ⟨hy, Rf.zero, hx⟩
  obtain ⟨r, S', rs', cs', e, gv, i⟩ := choose_ok g v hlv hb hN
  dsimp only at e
  unfold h_Store_without
  walk_at "env"
  unfold b_Store_without
  repeat (first | simp only [g.st.ob, stm_choose, e, if_true] | walk_at "ev0")
  refine ⟨_, _, _, _, rfl, gv, i.rf, fun β => ?_⟩
  rw [gv.ite v i β]
  dsimp only
  rw [val_zero]
  cases val rs β x <;> cases val rs β y <;> rfl
theorem Gives.trans {S1 S2 : Sto} {rs1 rs2 : List Row} {cs1 cs2 : List (Row × Int)} {c d : Nat} (a : Gives lv n ch S rs S1 rs1 cs1 c) (e : Gives lv n ch S1 rs1 S2 rs2 cs2 d) : Gives lv n ch S rs S2 rs2 cs2 d := by
  obtain ⟨t1, e1⟩ := a.ext
  obtain ⟨t2, e2⟩ := e.ext
  exact ⟨e.st, ⟨t1 ++ t2, by rw [e2, e1, List.append_assoc]⟩, e.wf, e.lv, e.ok, a.fr.trans e.fr, e.lr, e.lc⟩
theorem Gives.refl (g : Good lv n ch S rs cs b) : Gives lv n ch S rs S rs cs b := ⟨g.st, ⟨[], (List.append_nil _).symm⟩, g.wf, g.lv, g.ok, Fr.refl, g.lr, g.lc⟩
theorem Good.up {c : Nat} (g : Good lv n ch S rs cs b) (h : b ≤ c) : Good lv n ch S rs cs c := ⟨g.st, g.wf, g.lv, g.ok, Nat.le_trans g.lr h, Nat.le_trans g.lc h⟩
theorem Gives.up {S' : Sto} {rs' : List Row} {cs' : List (Row × Int)} {c d : Nat} (g : Gives lv n ch S rs S' rs' cs' c) (h : c ≤ d) : Gives lv n ch S rs S' rs' cs' d := ⟨g.st, g.ext, g.wf, g.lv, g.ok, g.fr, Nat.le_trans g.lr h, Nat.le_trans g.lc h⟩
theorem Good.fr {S' : Sto} {X : Nat → Prop} (g : Good lv n ch S rs cs b) (f : Fr X S S') (hx : ∀ i, StX n ch i → ¬X i) : Good lv n ch S' rs cs b := ⟨g.st.fr f hx, g.wf, g.lv, g.ok, g.lr, g.lc⟩
/-- one of a list -/
theorem either_of_ok (g : Good lv n ch S rs cs b) {A : Nat} {xs : List Int} (hA : S[A]? = some (.lst (xs.map D.int))) (nA : ¬ StX n ch A) (hx : ∀ x ∈ xs, Rf rs x) (hl : xs.length ≤ 3) (hlv : lv.length ≤ 30) (hb : b + 3 * mT lv.length < 300000) (hN : mT lv.length < N) :
    ∃ (r : Int) (S' : Sto) (rs' : List Row) (cs' : List (Row × Int)), h_Store_either_of N [.obj n, .obj A] S = .ok (.int r) S' ∧ Gives lv n ch S rs S' rs' cs' (b + 3 * mT lv.length) ∧ Rf rs' r ∧ ∀ β, val rs' β r = xs.any fun x => val rs β x := by
  unfold h_Store_either_of
  walk_at "env"
  unfold b_Store_either_of
  have m1 : metO "Store" "either" (some (inSt n ch)) = true := st_met (by simp +decide only [fldL, if_false])
  repeat (first | simp only [hA] | walk_at "ev0")
  generalize e : dLoop _ _ _ _ _ _ = r
  obtain ⟨ρ, S1, rfl, r, v3, rs1, cs1, rfl, gv, rf, ev⟩ := loop_idx_nx e (fun i ρ S1 => ∃ (r : Int) (v3 : Option D) (rs1 : List Row) (cs1 : List (Row × Int)), ρ = [some (.obj n), some (.obj A), some (.int r), v3] ∧ Gives lv n ch S rs S1 rs1 cs1 (b + i * mT lv.length) ∧ Rf rs1 r ∧ ∀ β, val rs1 β r = (xs.take i).any fun x => val rs β x)
    ⟨0, none, rs, cs, rfl, by rw [Nat.zero_mul, Nat.add_zero]; exact Gives.refl g, Rf.zero, fun β => val_zero⟩ (by
    rintro i d ρ S1 hd ⟨r, v3, rs1, cs1, rfl, gv, rf, ev⟩
    rw [List.getElem?_map] at hd
    obtain ⟨x, hx2, rfl⟩ := Option.map_eq_some_iff.mp hd
    have hi : i < xs.length := lt_of_get hx2
    have hxr := hx x (List.mem_of_getElem? hx2)
    obtain ⟨ts, et⟩ := gv.ext
    have b1 : i * mT lv.length ≤ 2 * mT lv.length := Nat.mul_le_mul_right _ (by omega)
    have b2 : (i + 1) * mT lv.length = i * mT lv.length + mT lv.length := Nat.succ_mul _ _
    obtain ⟨r2, S2, rs2, cs2, e2, gv2, rf2, ev2⟩ := either_ok gv.good rf (y := x) (by rw [et]; exact hxr.ext) hlv (by omega) hN
    refine ⟨_, rfl, ?_⟩
    clear e hd
    repeat (first | simp only [gv.st.ob, m1, e2, if_true] | walk_at "ev0")
    refine ⟨?_, _, _, rs2, cs2, rfl, (gv.trans gv2).up (by omega), rf2, fun β => ?_⟩
    · exact lstOf_lst ((gv.trans gv2).fr.at hA nA)
    · rw [ev2, ev, et, val_ext hxr, List.take_add_one, hx2, List.any_append]
      simp)
  repeat walk_at "ev0"
  rw [List.length_map] at gv ev
  rw [List.take_length] at ev
  have b1 : xs.length * mT lv.length ≤ 3 * mT lv.length := Nat.mul_le_mul_right _ hl
  exact ⟨_, _, _, _, rfl, gv.up (by omega), rf, ev⟩
end

/-! ### & and | of numbers from nought -/
theorem band_nat (a b : Nat) : Builtin.bitAnd (a : Int) (b : Int) = ((a &&& b : Nat) : Int) := by
  unfold Builtin.bitAnd
  rw [decide_eq_true (Int.natCast_nonneg a), decide_eq_true (Int.natCast_nonneg b)]
  dsimp only
  rw [Int.toNat_natCast, Int.toNat_natCast]
theorem bor_nat (a b : Nat) : Builtin.bitOr (a : Int) (b : Int) = ((a ||| b : Nat) : Int) := by
  unfold Builtin.bitOr Builtin.bitAnd Builtin.bitNot
  rw [decide_eq_false (by omega), decide_eq_false (by omega)]
  dsimp only
  rw [show (-(-(a : Int) - 1) - 1).toNat = a by omega, show (-(-(b : Int) - 1) - 1).toNat = b by omega]
  omega
theorem shr_nat (a k : Nat) : (a : Int) / 2 ^ k = ((a / 2 ^ k : Nat) : Int) := by
  rw [Int.natCast_ediv, Int.natCast_pow]; rfl
theorem bit_nat (a k : Nat) : decide (Builtin.bitAnd ((a : Int) / 2 ^ ((k : Int).toNat)) 1 = 1) = a.testBit k := by
  rw [Int.toNat_natCast, shr_nat, show (1 : Int) = ((1 : Nat) : Int) from rfl, band_nat, Nat.and_one_is_mod, Nat.testBit_eq_decide_div_mod_eq]
  exact decide_eq_decide.mpr (by omega)
theorem two_nat (k : Nat) : (1 : Int) * 2 ^ ((k : Int).toNat) = ((2 ^ k : Nat) : Int) := by rw [Int.one_mul, Int.toNat_natCast, Int.natCast_pow]; rfl
/-- with a bit cleared, with a bit set -/
def clr (m k i : Nat) : Nat := i &&& (2 ^ m - (2 ^ k + 1))
def sett (k i : Nat) : Nat := i ||| 2 ^ k
theorem pow_lt {k m : Nat} (h : k < m) : 2 ^ k < 2 ^ m := Nat.pow_lt_pow_right (by decide) h
theorem clr_bit {m k i : Nat} (h : k < m) (hi : i < 2 ^ m) (j : Nat) : (clr m k i).testBit j = (i.testBit j && decide (j ≠ k)) := by
  unfold clr
  rw [Nat.testBit_and, Nat.testBit_two_pow_sub_succ (pow_lt h), Nat.testBit_two_pow]
  by_cases hj : j < m
  · rw [decide_eq_true hj, Bool.true_and]
    congr 1
    by_cases e : k = j
    · simp [e]
    · have e2 : ¬ j = k := fun z => e z.symm
      simp [e, e2]
  · have : i.testBit j = false := Nat.testBit_lt_two_pow (Nat.lt_of_lt_of_le hi (Nat.pow_le_pow_right (by decide) (by omega)))
    rw [this, Bool.false_and, Bool.false_and]
theorem sett_bit {k i : Nat} (j : Nat) : (sett k i).testBit j = (i.testBit j || decide (j = k)) := by
  unfold sett
  rw [Nat.testBit_or, Nat.testBit_two_pow]
  congr 1
  exact decide_eq_decide.mpr ⟨fun h => h.symm, fun h => h.symm⟩
theorem clr_lt {m k i : Nat} (h : k < m) : clr m k i < 2 ^ m := Nat.and_lt_two_pow _ (Nat.sub_lt (Nat.two_pow_pos m) (Nat.succ_pos _))
theorem sett_lt {m k i : Nat} (h : k < m) (hi : i < 2 ^ m) : sett k i < 2 ^ m := Nat.or_lt_two_pow hi (pow_lt h)
theorem clr_or {m k i : Nat} (h : k < m) (hi : i < 2 ^ m) : i = clr m k i ∨ i = sett k i := by
  cases e : i.testBit k with
  | false =>
    left
    refine Nat.eq_of_testBit_eq fun j => ?_
    rw [clr_bit h hi]
    by_cases hj : j = k
    · subst hj; rw [e]; rfl
    · rw [decide_eq_true hj, Bool.and_true]
  | true =>
    right
    refine Nat.eq_of_testBit_eq fun j => ?_
    rw [sett_bit]
    by_cases hj : j = k
    · subst hj; rw [e]; rfl
    · rw [decide_eq_false hj, Bool.or_false]
theorem mask_nat {m k : Nat} (h : k < m) : ((2 ^ m : Nat) : Int) - 1 - ((2 ^ k : Nat) : Int) = ((2 ^ m - (2 ^ k + 1) : Nat) : Int) := by
  have := pow_lt h
  omega
/-- the number whose bits below m are f -/
def numOf (f : Nat → Bool) : Nat → Nat
  | 0 => 0
  | m + 1 => if f m = true then sett m (numOf f m) else numOf f m
theorem numOf_bit (f : Nat → Bool) : ∀ m j : Nat, (numOf f m).testBit j = (f j && decide (j < m))
  | 0, j => by
    show (0 : Nat).testBit j = _
    rw [Nat.zero_testBit, decide_eq_false (Nat.not_lt_zero j), Bool.and_false]
  | m + 1, j => by
    have ih := numOf_bit f m j
    unfold numOf
    by_cases h : f m = true
    · rw [if_pos h, sett_bit, ih]
      by_cases e : j = m
      · subst e; simp [h]
      · rw [decide_eq_false e, Bool.or_false]
        congr 1
        exact decide_eq_decide.mpr (by omega)
    · rw [if_neg h, ih]
      by_cases e : j = m
      · subst e
        have : f j = false := by simpa using h
        rw [this, Bool.false_and, Bool.false_and]
      · congr 1
        exact decide_eq_decide.mpr (by omega)
theorem numOf_lt (f : Nat → Bool) (m : Nat) : numOf f m < 2 ^ m :=
  Nat.lt_pow_two_of_testBit _ fun i hi => by rw [numOf_bit, decide_eq_false (by omega), Bool.and_false]
/-! ### truth tables -/
/-- β gives the levels the bits of i -/
def Agr (lv : List Int) (i : Nat) (β : Int → Bool) : Prop := ∀ (k : Nat) (l : Int), lv[k]? = some l → β l = i.testBit k
def idxOf (lv : List Int) (β : Int → Bool) : Nat := numOf (fun k => match lv[k]? with | some l => β l | none => false) lv.length
theorem idx_lt (lv : List Int) (β : Int → Bool) : idxOf lv β < 2 ^ lv.length := numOf_lt _ _
theorem idx_agr (lv : List Int) (β : Int → Bool) : Agr lv (idxOf lv β) β := fun k l h => by
  unfold idxOf
  rw [numOf_bit, decide_eq_true (lt_of_get h), Bool.and_true, h]
theorem agr_eq {lv : List Int} {i j : Nat} {β : Int → Bool} (hi : i < 2 ^ lv.length) (hj : j < 2 ^ lv.length) (a : Agr lv i β) (b : Agr lv j β) : i = j := by
  refine Nat.eq_of_testBit_eq fun k => ?_
  by_cases h : k < lv.length
  · have e := List.getElem?_eq_getElem h
    rw [← a k _ e, b k _ e]
  · rw [Nat.testBit_lt_two_pow (Nat.lt_of_lt_of_le hi (Nat.pow_le_pow_right (by decide) (by omega))), Nat.testBit_lt_two_pow (Nat.lt_of_lt_of_le hj (Nat.pow_le_pow_right (by decide) (by omega)))]
/-- an assignment for each number -/
def asg (lv : List Int) (i : Nat) : Int → Bool := fun l => i.testBit (lv.idxOf l)
theorem asg_agr {lv : List Int} (nd : lv.Nodup) (i : Nat) : Agr lv i (asg lv i) := fun k l h => by
  unfold asg
  have hk := lt_of_get h
  have e := List.getElem?_eq_getElem hk
  rw [e] at h
  cases Option.some.inj h
  rw [nd.idxOf_getElem k hk]
/-- tb is the truth table of r -/
structure Tb (rs : List Row) (lv : List Int) (r : Int) (tb : List Bool) : Prop where
  rf : Rf rs r
  len : tb.length = 2 ^ lv.length
  eq : ∀ i, i < 2 ^ lv.length → ∀ β, Agr lv i β → tb[i]? = some (val rs β r)
theorem Tb.ext {rs ts : List Row} {lv : List Int} {r : Int} {tb : List Bool} (h : Tb rs lv r tb) : Tb (rs ++ ts) lv r tb :=
  ⟨h.rf.ext, h.len, fun i hi β a => by rw [val_ext h.rf]; exact h.eq i hi β a⟩
/-- the table does not hang on the bit k -/
def Free (m : Nat) (tb : List Bool) (k : Nat) : Prop := ∀ i, i < 2 ^ m → tb[clr m k i]? = tb[sett k i]?
theorem free_clr {m : Nat} {tb : List Bool} {k : Nat} (h : Free m tb k) (hk : k < m) {i : Nat} (hi : i < 2 ^ m) : tb[i]? = tb[clr m k i]? := by
  rcases clr_or hk hi with e | e
  · rw [← e]
  · rw [h i hi, ← e]
theorem Tb.above {rs : List Row} {lv : List Int} {r : Int} {tb : List Bool} (w : Wf rs) (asc : lv.Pairwise (· < ·)) (h : Tb rs lv r tb) {k : Nat} {l : Int} (hk : lv[k]? = some l) (hf : ∀ n, n ≤ k → Free lv.length tb n) : Above rs l r := by
  refine above_of w h.rf fun β γ e => ?_
  have hkl := lt_of_get hk
  have key : ∀ n, n ≤ k + 1 → ∀ i, i < 2 ^ lv.length → ∃ j, j < 2 ^ lv.length ∧ tb[i]? = tb[j]? ∧ ∀ q, j.testBit q = (i.testBit q && decide (n ≤ q)) := by
    intro n
    induction n with
    | zero => intro _ i hi; exact ⟨i, hi, rfl, fun q => by rw [decide_eq_true (Nat.zero_le q), Bool.and_true]⟩
    | succ n ih =>
      intro hn i hi
      obtain ⟨j, hj, ej, bj⟩ := ih (by omega) i hi
      refine ⟨clr lv.length n j, clr_lt (by omega), ej.trans (free_clr (hf n (by omega)) (by omega) hj), fun q => ?_⟩
      rw [clr_bit (by omega) hj, bj, Bool.and_assoc]
      congr 1
      rw [Bool.eq_iff_iff, Bool.and_eq_true, decide_eq_true_eq, decide_eq_true_eq, decide_eq_true_eq]
      omega
  obtain ⟨i, hi, ei, bi⟩ := key (k + 1) (Nat.le_refl _) _ (idx_lt lv β)
  obtain ⟨j, hj, ej, bj⟩ := key (k + 1) (Nat.le_refl _) _ (idx_lt lv γ)
  have eij : i = j := by
    refine Nat.eq_of_testBit_eq fun q => ?_
    rw [bi, bj]
    by_cases hq : k + 1 ≤ q
    · rw [decide_eq_true hq, Bool.and_true, Bool.and_true]
      by_cases hl : q < lv.length
      · have eq := List.getElem?_eq_getElem hl
        rw [← idx_agr lv β q _ eq, ← idx_agr lv γ q _ eq]
        refine e _ ?_
        have e2 := List.getElem?_eq_getElem hkl
        rw [hk] at e2
        cases Option.some.inj e2
        exact List.pairwise_iff_getElem.mp asc k q hkl hl (by omega)
      · rw [Nat.testBit_lt_two_pow (Nat.lt_of_lt_of_le (idx_lt lv β) (Nat.pow_le_pow_right (by decide) (by omega))), Nat.testBit_lt_two_pow (Nat.lt_of_lt_of_le (idx_lt lv γ) (Nat.pow_le_pow_right (by decide) (by omega)))]
    · rw [decide_eq_false hq, Bool.and_false, Bool.and_false]
  have h1 := h.eq _ (idx_lt lv β) β (idx_agr lv β)
  have h2 := h.eq _ (idx_lt lv γ) γ (idx_agr lv γ)
  rw [ei, eij, ← ej, h2] at h1
  exact (Option.some.inj h1).symm
theorem tb_ext {l m : List Bool} {n : Nat} (hl : l.length = n) (hm : m.length = n) (h : ∀ i, i < n → l[i]? = m[i]?) : l = m := by
  refine List.ext_getElem? fun i => ?_
  by_cases hi : i < n
  · exact h i hi
  · rw [List.getElem?_eq_none (by omega), List.getElem?_eq_none (by omega)]
/-- mixed tables -/
def mixT (test first second : List Bool) : List Bool := (List.range test.length).map fun k => if test.getD k false = true then first.getD k false else second.getD k false
theorem mixT_len {a b c : List Bool} : (mixT a b c).length = a.length := by unfold mixT; rw [List.length_map, List.length_range]
theorem mixT_at {a b c : List Bool} {i : Nat} (h : i < a.length) : (mixT a b c)[i]? = some (if a.getD i false = true then b.getD i false else c.getD i false) := by
  unfold mixT
  rw [List.getElem?_map, List.getElem?_range h]
  rfl
theorem getD_of {l : List Bool} {i : Nat} {b : Bool} (h : l[i]? = some b) : l.getD i false = b := by rw [List.getD_eq_getElem?_getD, h]; rfl
/-- a table of a mixture -/
theorem Tb.mix {rs : List Row} {lv : List Int} {r : Int} {a b c : List Bool} (hr : Rf rs r) (la : a.length = 2 ^ lv.length)
    (h : ∀ i, i < 2 ^ lv.length → ∀ β, Agr lv i β → (if a.getD i false = true then b.getD i false else c.getD i false) = val rs β r) : Tb rs lv r (mixT a b c) :=
  ⟨hr, by rw [mixT_len, la], fun i hi β ag => by rw [mixT_at (by rw [la]; exact hi), h i hi β ag]⟩
theorem Tb.at {rs : List Row} {lv : List Int} {r : Int} {tb : List Bool} (h : Tb rs lv r tb) {i : Nat} (hi : i < 2 ^ lv.length) {β : Int → Bool} (a : Agr lv i β) : tb.getD i false = val rs β r := getD_of (h.eq i hi β a)
theorem rep_at {n i : Nat} {b : Bool} (h : i < n) : (List.replicate n b).getD i false = b := by
  rw [List.getD_eq_getElem?_getD, List.getElem?_replicate, if_pos h]; rfl
/-- the table of a coin -/
def coinT (m k : Nat) : List Bool := (List.range (2 ^ m)).map fun i => i.testBit k
theorem coinT_len {m k : Nat} : (coinT m k).length = 2 ^ m := by unfold coinT; rw [List.length_map, List.length_range]
theorem coinT_at {m k i : Nat} (h : i < 2 ^ m) : (coinT m k)[i]? = some (i.testBit k) := by unfold coinT; rw [List.getElem?_map, List.getElem?_range h]; rfl

/-! ### the law's helpers over tables -/
def bls (tb : List Bool) : Ob := .lst (tb.map D.bl)
theorem bls_at {tb : List Bool} {i : Nat} (h : i < tb.length) : atI (tb.map D.bl) (i : Int) = some (.bl (tb.getD i false)) := atI_nat (by
  rw [List.getElem?_map, List.getD_eq_getElem?_getD, List.getElem?_eq_getElem h]; rfl)
theorem okr_nat {n : Nat} (h : n ≤ 16000000) : OkR ((n : Nat) : Int) := ⟨by omega, by omega⟩
theorem mixed_ok {S : Sto} {A B C : Nat} {a b c : List Bool} (hA : S[A]? = some (bls a)) (hB : S[B]? = some (bls b)) (hC : S[C]? = some (bls c)) (lb : b.length = a.length) (lc : c.length = a.length) (hl : a.length ≤ 1000) :
    h_law_mixed [.obj A, .obj B, .obj C] S = .ok (.obj S.length) (S ++ [bls (mixT a b c)]) := by
  have sl := sizeLine_eq
  unfold h_law_mixed
  walk_at "env"
  unfold b_law_mixed
  unfold bls at hA hB hC
  have o1 := okr_nat (n := a.length) (by omega)
  repeat (first | simp only [hA, List.length_map, o1, if_true] | walk_at "ev0")
  generalize e : cLoop _ _ _ _ _ _ _ = r
  obtain ⟨xs, S1, rfl, rfl, rfl⟩ := cLoop_idx e (fun i acc S' => S' = S ∧ acc = (List.range i).map fun k => D.bl (if a.getD k false = true then b.getD k false else c.getD k false)) ⟨rfl, rfl⟩ (by
    rintro i d acc S' hd ⟨rfl, rfl⟩
    obtain ⟨hi, rfl⟩ := rng_get hd
    rw [Int.toNat_natCast] at hi
    refine ⟨_, rfl, ?_⟩
    clear e hd
    have e1 := bls_at hi
    have e2 := bls_at (tb := b) (i := i) (by omega)
    have e3 := bls_at (tb := c) (i := i) (by omega)
    rw [Int.zero_add]
    rw [List.range_succ, List.map_append, List.map_singleton]
    cases hc : a.getD i false with
    | true =>
      rw [hc] at e1
      rw [if_pos rfl]
      repeat (first | simp only [hA, hB, hC, e1, e2, e3] | walk_at "ev0")
      exact ⟨_, _, rfl, rfl, rfl⟩
    | false =>
      rw [hc] at e1
      rw [if_neg (by simp)]
      repeat (first | simp only [hA, hB, hC, e1, e2, e3] | walk_at "ev0")
      exact ⟨_, _, rfl, rfl, rfl⟩)
  clear e
  rw [rng_len, Int.toNat_natCast]
  have l1 : ((List.range a.length).map fun k => D.bl (if a.getD k false = true then b.getD k false else c.getD k false)).length ≤ sizeLine := by rw [List.length_map, List.length_range]; omega
  have e2 : ((List.range a.length).map fun k => D.bl (if a.getD k false = true then b.getD k false else c.getD k false)) = (mixT a b c).map D.bl := by
    unfold mixT
    rw [List.map_map]
    rfl
  rw [e2]
  have l2 : (mixT a b c).length ≤ sizeLine := by rw [mixT_len]; omega
  repeat (first | simp only [List.length_map, if_pos l2] | walk_at "ev0")
  rfl
theorem coinL_ok {S : Sto} {m k : Nat} (hm : m ≤ 9) (hk : k ≤ 60) : h_law_coin [.int (m : Int), .int (k : Int)] S = .ok (.obj S.length) (S ++ [bls (coinT m k)]) := by
  have sl := sizeLine_eq
  have hp : 2 ^ m ≤ 512 := Nat.pow_le_pow_right (n := 2) (by decide) hm
  unfold h_law_coin
  walk_at "env"
  unfold b_law_coin
  have c1 : 0 ≤ (m : Int) ∧ (m : Int) ≤ 1000000 := ⟨by omega, by omega⟩
  have c2 : 0 ≤ (k : Int) := by omega
  have o1 := okr_nat (n := 2 ^ m) (by omega)
  repeat (first | simp only [if_pos c1, two_nat, o1, if_true] | walk_at "ev0")
  generalize e : cLoop _ _ _ _ _ _ _ = r
  obtain ⟨xs, S1, rfl, rfl, rfl⟩ := cLoop_idx e (fun i acc S' => S' = S ∧ acc = (List.range i).map fun j => D.bl (j.testBit k)) ⟨rfl, rfl⟩ (by
    rintro i d acc S' hd ⟨rfl, rfl⟩
    obtain ⟨hi, rfl⟩ := rng_get hd
    refine ⟨_, rfl, ?_⟩
    clear e hd
    rw [Int.zero_add]
    rw [List.range_succ, List.map_append, List.map_singleton]
    repeat (first | simp only [if_pos c2, bit_nat] | walk_at "ev0")
    exact ⟨_, _, rfl, rfl, rfl⟩)
  clear e
  rw [rng_len, Int.toNat_natCast]
  have e2 : ((List.range (2 ^ m)).map fun j => D.bl (j.testBit k)) = (coinT m k).map D.bl := by
    unfold coinT
    rw [List.map_map]
    rfl
  have l2 : (coinT m k).length ≤ sizeLine := by rw [coinT_len]; omega
  rw [e2]
  repeat (first | simp only [List.length_map, if_pos l2] | walk_at "ev0")
  rfl
/-- the two halves -/
def lowT (m k : Nat) (tb : List Bool) : List Bool := (List.range (2 ^ m)).map fun i => tb.getD (clr m k i) false
def highT (m k : Nat) (tb : List Bool) : List Bool := (List.range (2 ^ m)).map fun i => tb.getD (sett k i) false
theorem halves_ok {S : Sto} {A m k : Nat} {tb : List Bool} (hA : S[A]? = some (bls tb)) (hl : tb.length = 2 ^ m) (hm : m ≤ 9) (hk : k < m) :
    h_law_halves [.obj A, .int (k : Int), .int (m : Int)] S = .ok (.obj (S.length + 2)) (S ++ [bls (lowT m k tb)] ++ [bls (highT m k tb)] ++ [.lst [.obj S.length, .obj (S.length + 1)]]) := by
  have sl := sizeLine_eq
  have s2 : (2 : Nat) ≤ sizeLine := by omega
  have hp : 2 ^ m ≤ 512 := Nat.pow_le_pow_right (n := 2) (by decide) hm
  unfold h_law_halves
  walk_at "env"
  unfold b_law_halves
  unfold bls at hA
  have c1 : 0 ≤ (m : Int) ∧ (m : Int) ≤ 1000000 := ⟨by omega, by omega⟩
  have c2 : 0 ≤ (k : Int) ∧ (k : Int) ≤ 1000000 := ⟨by omega, by omega⟩
  have o1 := okr_nat (n := 2 ^ m) (by omega)
  repeat (first | simp only [if_pos c1, two_nat, o1, if_true] | walk_at "ev0")
  generalize e : cLoop _ _ _ _ _ _ _ = r
  obtain ⟨xs, S1, rfl, rfl, rfl⟩ := cLoop_idx e (fun i acc S' => S' = S ∧ acc = (List.range i).map fun j => D.bl (tb.getD (clr m k j) false)) ⟨rfl, rfl⟩ (by
    rintro i d acc S' hd ⟨rfl, rfl⟩
    obtain ⟨hi, rfl⟩ := rng_get hd
    refine ⟨_, rfl, ?_⟩
    clear e hd
    rw [Int.zero_add]
    rw [List.range_succ, List.map_append, List.map_singleton]
    have e1 := bls_at (tb := tb) (i := clr m k i) (by rw [hl]; exact clr_lt hk)
    have e2 : Builtin.bitAnd (i : Int) (((2 ^ m : Nat) : Int) - 1 - ((2 ^ k : Nat) : Int)) = ((clr m k i : Nat) : Int) := by rw [mask_nat hk, band_nat]; rfl
    repeat (first | simp only [if_pos c1, if_pos c2, two_nat, hA, e2, e1] | walk_at "ev0")
    exact ⟨_, _, rfl, rfl, rfl⟩)
  clear e
  rw [rng_len, Int.toNat_natCast]
  have e2 : ((List.range (2 ^ m)).map fun j => D.bl (tb.getD (clr m k j) false)) = (lowT m k tb).map D.bl := by
    unfold lowT
    rw [List.map_map]
    rfl
  have l2 : (lowT m k tb).length ≤ sizeLine := by unfold lowT; rw [List.length_map, List.length_range]; omega
  rw [e2]
  have hA2 : (S1 ++ [Ob.lst ((lowT m k tb).map D.bl)])[A]? = some (.lst (tb.map D.bl)) := by rw [List.getElem?_append_left (lt_of_get hA)]; exact hA
  have lS : (S1 ++ [Ob.lst ((lowT m k tb).map D.bl)]).length = S1.length + 1 := by rw [List.length_append]; rfl
  repeat (first | simp only [List.length_map, if_pos l2, if_pos c1, two_nat, o1, if_true] | walk_at "ev0")
  generalize hS2 : S1 ++ [Ob.lst ((lowT m k tb).map D.bl)] = S2 at *
  generalize e : cLoop _ _ _ _ _ _ _ = r
  obtain ⟨xs, S3, rfl, rfl, rfl⟩ := cLoop_idx e (fun i acc S' => S' = S2 ∧ acc = (List.range i).map fun j => D.bl (tb.getD (sett k j) false)) ⟨rfl, rfl⟩ (by
    rintro i d acc S' hd ⟨rfl, rfl⟩
    obtain ⟨hi, rfl⟩ := rng_get hd
    rw [Int.toNat_natCast] at hi
    refine ⟨_, rfl, ?_⟩
    clear e hd
    rw [Int.zero_add]
    rw [List.range_succ, List.map_append, List.map_singleton]
    have e1 := bls_at (tb := tb) (i := sett k i) (by rw [hl]; exact sett_lt hk hi)
    have e2 : Builtin.bitOr (i : Int) ((2 ^ k : Nat) : Int) = ((sett k i : Nat) : Int) := by rw [bor_nat]; rfl
    repeat (first | simp only [if_pos c1, if_pos c2, two_nat, hA2, e2, e1] | walk_at "ev0")
    exact ⟨_, _, rfl, rfl, rfl⟩)
  clear e
  rw [rng_len, Int.toNat_natCast]
  have e3 : ((List.range (2 ^ m)).map fun j => D.bl (tb.getD (sett k j) false)) = (highT m k tb).map D.bl := by
    unfold highT
    rw [List.map_map]
    rfl
  have l3 : (highT m k tb).length ≤ sizeLine := by unfold highT; rw [List.length_map, List.length_range]; omega
  rw [e3]
  have lS2 : (S3 ++ [Ob.lst ((highT m k tb).map D.bl)]).length = S1.length + 2 := by rw [List.length_append, lS]; rfl
  repeat (first | simp only [List.length_map, if_pos l3, if_pos s2, lS, lS2] | walk_at "ev0")
  rw [← hS2]
  rfl
theorem half_free {m k : Nat} {tb : List Bool} (hl : tb.length = 2 ^ m) (hk : k < m) : lowT m k tb = highT m k tb ↔ Free m tb k := by
  constructor
  · intro h i hi
    have e : (lowT m k tb)[i]? = (highT m k tb)[i]? := by rw [h]
    unfold lowT highT at e
    rw [List.getElem?_map, List.getElem?_map, List.getElem?_range hi] at e
    have e := Option.some.inj e
    have e : tb.getD (clr m k i) false = tb.getD (sett k i) false := e
    have h1 : clr m k i < tb.length := by rw [hl]; exact clr_lt hk
    have h2 : sett k i < tb.length := by rw [hl]; exact sett_lt hk hi
    rw [List.getD_eq_getElem?_getD, List.getD_eq_getElem?_getD, List.getElem?_eq_getElem h1, List.getElem?_eq_getElem h2] at e
    rw [List.getElem?_eq_getElem h1, List.getElem?_eq_getElem h2]
    exact congrArg some e
  · intro h
    unfold lowT highT
    refine List.map_congr_left fun i hi => ?_
    rw [List.mem_range] at hi
    rw [List.getD_eq_getElem?_getD, List.getD_eq_getElem?_getD, h i hi]
noncomputable def needsF (m : Nat) (tb : List Bool) : List Nat := (List.range m).filter fun k => !decide (lowT m k tb = highT m k tb)
theorem needs_ok {S : Sto} {A m : Nat} {tb : List Bool} (hA : S[A]? = some (bls tb)) (hl : tb.length = 2 ^ m) (hm : m ≤ 9) :
    ∃ S', h_law_needs [.obj A, .int (m : Int)] S = .ok (.obj S.length) S' ∧ S'[S.length]? = some (.lst ((needsF m tb).map fun k : Nat => D.int (k : Int))) ∧ Fr (fun _ => False) S S' := by
  have sl := sizeLine_eq
  unfold h_law_needs
  walk_at "env"
  unfold b_law_needs
  have o1 := okr_nat (n := m) (by omega)
  have s0 : (0 : Nat) ≤ sizeLine := by omega
  repeat (first | simp only [o1, if_true, if_pos s0] | walk_at "ev0")
  generalize e : dLoop _ _ _ _ _ _ = r
  obtain ⟨ρ, S1, rfl, v3, v4, rfl, hN, f⟩ := loop_idx_nx e (fun i ρ S1 => ∃ (v3 v4 : Option D), ρ = [some (.obj A), some (.int (m : Int)), some (.obj S.length), v3, v4] ∧ S1[S.length]? = some (.lst (((List.range i).filter fun k => !decide (lowT m k tb = highT m k tb)).map fun k : Nat => D.int (k : Int))) ∧ Fr (fun _ => False) S S1)
    ⟨none, none, rfl, Ev.appNew, Fr.refl.add _⟩ (by
    rintro i d ρ S1 hd ⟨v3, v4, rfl, hN, f⟩
    obtain ⟨hi, rfl⟩ := rng_get hd
    rw [Int.toNat_natCast] at hi
    refine ⟨_, rfl, ?_⟩
    clear e hd
    rw [Int.zero_add]
    have hA1 := f.at hA (fun z => z)
    have e1 := halves_ok (k := i) hA1 hl hm hi
    generalize hS2 : S1 ++ [bls (lowT m i tb)] ++ [bls (highT m i tb)] ++ [.lst [.obj S1.length, .obj (S1.length + 1)]] = S2 at *
    have f2 : Fr (fun _ => False) S1 S2 := by rw [← hS2]; exact ((Fr.refl.add _).add _).add _
    have g1 : S2[S1.length]? = some (.lst ((lowT m i tb).map D.bl)) := by
      rw [← hS2, List.append_assoc, List.append_assoc]
      exact ap_get0
    have g2 : S2[S1.length + 1]? = some (.lst ((highT m i tb).map D.bl)) := by
      rw [← hS2, List.append_assoc, List.append_assoc]
      exact ap_get (i := 1)
    have g3 : S2[S1.length + 2]? = some (.lst [.obj S1.length, .obj (S1.length + 1)]) := by
      rw [← hS2, List.append_assoc, List.append_assoc]
      exact ap_get (i := 2)
    have hN2 := f2.at hN (fun z => z)
    have e2 := eqP_bls true (lstOf_lst g1) (lstOf_lst g2)
    simp only [if_true] at e2
    have lf : ((List.range i).filter fun k => !decide (lowT m k tb = highT m k tb)).length < sizeLine := Nat.lt_of_le_of_lt (List.length_filter_le _ _) (by rw [List.length_range]; omega)
    rw [List.range_succ, List.filter_append]
    by_cases hc : lowT m i tb = highT m i tb
    · rw [decide_eq_true hc] at e2
      have hf : [i].filter (fun k => !decide (lowT m k tb = highT m k tb)) = [] := by simp [hc]
      rw [hf, List.append_nil]
      repeat (first | simp only [e1, g3, e2] | walk_at "ev0")
      exact ⟨_, _, rfl, hN2, f.trans f2⟩
    · rw [decide_eq_false hc] at e2
      have hf : [i].filter (fun k => !decide (lowT m k tb = highT m k tb)) = [i] := by simp [hc]
      rw [hf, List.map_append]
      repeat (first | simp only [e1, g3, e2, hN2, List.length_map, if_pos lf] | walk_at "ev0")
      exact ⟨_, _, rfl, (f.trans f2).set _ fun h => absurd h (Nat.lt_irrefl _)⟩)
  clear e
  rw [rng_len, Int.toNat_natCast] at hN
  repeat walk_at "ev0"
  exact ⟨_, rfl, hN, f⟩
theorem needs_free {m : Nat} {tb : List Bool} (hl : tb.length = 2 ^ m) {k : Nat} (hk : k < m) (h : ∀ n ∈ needsF m tb, ¬ n ≤ k) : ∀ n, n ≤ k → Free m tb n := fun n hn => by
  refine (half_free hl (by omega)).mp (Classical.byContradiction fun hc => h n ?_ hn)
  unfold needsF
  rw [List.mem_filter, List.mem_range]
  exact ⟨by omega, by rw [decide_eq_false hc]; rfl⟩

/-- the law's references and their tables -/
structure Tabs (S : Sto) (rs : List Row) (lv : List Int) (A B : Nat) (refs : List Int) (os : List Nat) (tbs : List (List Bool)) : Prop where
  ra : S[A]? = some (.lst (refs.map D.int))
  ta : S[B]? = some (.lst (os.map D.obj))
  l1 : refs.length = tbs.length
  l2 : os.length = tbs.length
  tb : ∀ (i o : Nat) (t : List Bool), os[i]? = some o → tbs[i]? = some t → S[o]? = some (bls t)
  ok : ∀ (i : Nat) (r : Int) (t : List Bool), refs[i]? = some r → tbs[i]? = some t → Tb rs lv r t
theorem Tabs.fr {S S' : Sto} {rs : List Row} {lv : List Int} {A B : Nat} {refs : List Int} {os : List Nat} {tbs : List (List Bool)} {X : Nat → Prop} (h : Tabs S rs lv A B refs os tbs) (f : Fr X S S') (hA : ¬X A) (hB : ¬X B) (ho : ∀ o ∈ os, ¬X o) : Tabs S' rs lv A B refs os tbs :=
  ⟨f.at h.ra hA, f.at h.ta hB, h.l1, h.l2, fun i o t e1 e2 => f.at (h.tb i o t e1 e2) (ho o (List.mem_of_getElem? e1)), h.ok⟩
theorem Tabs.ext {S : Sto} {rs ts : List Row} {lv : List Int} {A B : Nat} {refs : List Int} {os : List Nat} {tbs : List (List Bool)} (h : Tabs S rs lv A B refs os tbs) : Tabs S (rs ++ ts) lv A B refs os tbs :=
  ⟨h.ra, h.ta, h.l1, h.l2, h.tb, fun i r t e1 e2 => (h.ok i r t e1 e2).ext⟩
/-- the i-th of them -/
theorem Tabs.get {S : Sto} {rs : List Row} {lv : List Int} {A B : Nat} {refs : List Int} {os : List Nat} {tbs : List (List Bool)} (h : Tabs S rs lv A B refs os tbs) {i : Nat} (hi : i < refs.length) :
    ∃ (r : Int) (o : Nat) (t : List Bool), atI (refs.map D.int) (i : Int) = some (.int r) ∧ atI (os.map D.obj) (i : Int) = some (.obj o) ∧ o ∈ os ∧ S[o]? = some (bls t) ∧ Tb rs lv r t ∧ tbs[i]? = some t ∧ refs[i]? = some r := by
  have e1 := List.getElem?_eq_getElem hi
  have e2 := List.getElem?_eq_getElem (show i < os.length by rw [h.l2, ← h.l1]; exact hi)
  have e3 := List.getElem?_eq_getElem (show i < tbs.length by rw [← h.l1]; exact hi)
  exact ⟨_, _, _, atI_nat (by rw [List.getElem?_map, e1]; rfl), (atI_nat (by rw [List.getElem?_map, e2]; rfl)), List.mem_of_getElem? e2, h.tb i _ _ e2 e3, h.ok i _ _ e1 e3, e3, e1⟩
/-- where the law's things stand -/
structure Apart (n ch p l L A B : Nat) (os : List Nat) : Prop where
  xp : ¬ StX n ch p
  xl : ¬ StX n ch l
  xL : ¬ StX n ch L
  xA : ¬ StX n ch A
  xB : ¬ StX n ch B
  xo : ∀ o ∈ os, ¬ StX n ch o
  pL : L ≠ p
  pA : A ≠ p
  pB : B ≠ p
  po : ∀ o ∈ os, o ≠ p
structure Deed (lv : List Int) (n ch p l : Nat) (S : Sto) (rs : List Row) (b : Nat) (S' : Sto) (rs' : List Row) (cs' : List (Row × Int)) (r : Int) (o : Nat) (t : List Bool) : Prop where
  good : Good lv n ch S' rs' cs' b
  ext : ∃ ts, rs' = rs ++ ts
  fr : Fr (fun i => StX n ch i ∨ i = p) S S'
  tb : S'[o]? = some (bls t)
  new : S.length ≤ o
  ok : Tb rs' lv r t
  pool : PoolS S' p l
theorem mT_mono : ∀ {a b : Nat}, a ≤ b → mT a ≤ mT b := by
  intro a b h
  induction h with
  | refl => exact Nat.le_refl _
  | step _ ih => refine Nat.le_trans ih ?_; show mT _ ≤ 2 * mT _ + 2; omega

section
variable {lv : List Int} {n ch N b p l L A B : Nat} {S : Sto} {rs : List Row} {cs : List (Row × Int)} {refs : List Int} {os : List Nat} {tbs : List (List Bool)}
/-- draws of places -/
theorem places_ok {S : Sto} (po : PoolS S p l) {A : Nat} {xs : List D} (hA : S[A]? = some (.lst xs)) (nA : A ≠ p) (h0 : 0 < xs.length) (h1 : xs.length < 1000) {ρ : Env} {ip iA ik : Nat} (hp : (wipeE ρ [ik])[ip]? = some (some (.obj p))) (hiA : (wipeE ρ [ik])[iA]? = some (some (.obj A))) (np : ip ≠ ik) (nA2 : iA ≠ ik) (hk : ik < ρ.length) {m : Nat} {items : List D} (hm : items.length = m) {r : Res (List D)}
    (e : cLoop (fun _ => True) (tgN ik) (fun _ S => .ok true S) (eCall h_law_draw (eCons (eV ip) (eCons (eCall dLen (eCons (eV iA) eNil)) eNil))) (wipeE ρ [ik]) items S = r) :
    ∃ (vs : List Nat) (S' : Sto), r = .ok (vs.map fun v : Nat => D.int (v : Int)) S' ∧ vs.length = m ∧ (∀ v ∈ vs, v < xs.length) ∧ PoolS S' p l ∧ Fr (fun i => i = p) S S' := by
  obtain ⟨ys, S1, rfl, vs, rfl, hl, hv, po1, f1⟩ := cLoop_idx e (fun i acc S' => ∃ vs : List Nat, acc = (vs.map fun v : Nat => D.int (v : Int)) ∧ vs.length = i ∧ (∀ v ∈ vs, v < xs.length) ∧ PoolS S' p l ∧ Fr (fun i => i = p) S S') ⟨[], rfl, rfl, fun _ h => (nomatch h), po, Fr.refl⟩ (by
    rintro i d acc S' hd ⟨vs, rfl, hl, hv, po1, f1⟩
    refine ⟨_, rfl, ?_⟩
    clear e hd
    have hA1 := f1.at hA nA
    have g1 : ((wipeE ρ [ik]).set ik (some d))[ip]? = some (some (.obj p)) := by rw [List.getElem?_set_ne (fun z => np z.symm)]; exact hp
    have g2 : ((wipeE ρ [ik]).set ik (some d))[iA]? = some (some (.obj A)) := by rw [List.getElem?_set_ne (fun z => nA2 z.symm)]; exact hiA
    generalize (wipeE ρ [ik]).set ik (some d) = ρ2 at *
    repeat (first | simp only [g1, g2, hA1] | walk_at "ev0")
    generalize e1 : h_law_draw _ _ = r
    obtain ⟨v, S2, rfl, v0, v1, po2, f2⟩ := draw_use e1 po1 (by omega) (by rw [Int.natAbs_natCast]; exact Nat.lt_of_le_of_lt (Nat.log2_le_self _) (by omega))
    clear e1
    obtain ⟨j, rfl⟩ := Int.eq_ofNat_of_zero_le v0
    repeat walk_at "ev0"
    exact ⟨_, _, rfl, vs ++ [j], by rw [List.map_append]; rfl, by rw [List.length_append, hl]; rfl, fun x hx => by
      rcases List.mem_append.mp hx with h | h
      · exact hv x h
      · rw [List.mem_singleton.mp h]; omega, po2, f1.trans f2⟩)
  exact ⟨vs, S1, rfl, hl.trans hm, hv, po1, f1⟩
/-- an operation on functions and its table -/
theorem mix_end {S1 : Sto} {rs1 : List Row} {cs1 : List (Row × Int)} (f0 : Fr (fun i => StX n ch i ∨ i = p) S S1) (g : Good lv n ch S1 rs1 cs1 b) (ext : ∃ ts, rs1 = rs ++ ts) (po : PoolS S1 p l) {oa ob oc : Nat} {a t2 c : List Bool} (ha : S1[oa]? = some (bls a)) (hb : S1[ob]? = some (bls t2)) (hc : S1[oc]? = some (bls c))
    (la : a.length = 2 ^ lv.length) (lb : t2.length = 2 ^ lv.length) (lc : c.length = 2 ^ lv.length) (h5 : lv.length ≤ 5) {r : Int} (hr : Rf rs1 r) (hv : ∀ i, i < 2 ^ lv.length → ∀ β, Agr lv i β → (if a.getD i false = true then t2.getD i false else c.getD i false) = val rs1 β r) :
    h_law_mixed [.obj oa, .obj ob, .obj oc] S1 = .ok (.obj S1.length) (S1 ++ [bls (mixT a t2 c)]) ∧ Deed lv n ch p l S rs b (S1 ++ [bls (mixT a t2 c)]) rs1 cs1 r S1.length (mixT a t2 c) := by
  have hp : 2 ^ lv.length ≤ 32 := Nat.pow_le_pow_right (n := 2) (by decide) h5
  refine ⟨mixed_ok ha hb hc (by omega) (by omega) (by omega), ?_⟩
  exact ⟨g.fr (Fr.refl.add (X := fun _ => False) _) (fun _ _ z => z), ext, f0.add _, Ev.appNew, f0.len, Tb.mix hr la hv, po.add⟩
theorem rep_list {x : D} (n : Nat) : (List.replicate n [x]).flatten = List.replicate n x := by
  induction n with
  | zero => rfl
  | succ n ih => rw [List.replicate_succ, List.flatten_cons, ih, List.replicate_succ]; rfl
theorem deed_end {S1 : Sto} {rs1 : List Row} {cs1 : List (Row × Int)} (f0 : Fr (fun i => StX n ch i ∨ i = p) S S1) (g : Good lv n ch S1 rs1 cs1 b) (ext : ∃ ts, rs1 = rs ++ ts) (po : PoolS S1 p l) {r : Int} {t : List Bool} (ok : Tb rs1 lv r t) :
    Deed lv n ch p l S rs b (S1 ++ [bls t]) rs1 cs1 r S1.length t :=
  ⟨g.fr (Fr.refl.add (X := fun _ => False) _) (fun _ _ z => z), ext, f0.add _, Ev.appNew, f0.len, ok, po.add⟩
/-- node() of good parts -/
theorem node_gives (g : Good lv n ch S rs cs b) {q : Row} (no : NodeOk rs q) (hq : q.1 ∈ lv) (hb : b < 15000000) :
    ∃ S', h_Store_node [.obj n, .int q.1, .int q.2.1, .int q.2.2] S = .ok (.int (nodeR rs q).1) S' ∧ Gives lv n ch S rs S' (nodeR rs q).2 cs (b + 1) := by
  have lr := g.lr
  obtain ⟨S', e, st, f⟩ := node_ok g.st q.1 q.2.1 q.2.2 (by omega)
  obtain ⟨ts, et, lt⟩ := nodeR_ext rs q
  refine ⟨S', e, st, ⟨ts, et⟩, node_wf g.wf no, fun i p hp => ?_, by rw [et]; exact g.ok.ext, f, by rw [et, List.length_append]; omega, Nat.le_succ_of_le g.lc⟩
  unfold nodeR at hp
  split at hp
  · exact g.lv i p hp
  · split at hp
    · exact g.lv i p hp
    · by_cases hi : i < rs.length
      · exact g.lv i p (by rw [← hp, List.getElem?_append_left hi])
      · have l := lt_of_get hp
        rw [List.length_append] at l
        have l : i < rs.length + 1 := l
        have : i = rs.length := by omega
        subst this
        have hp : (rs ++ [q])[rs.length]? = some p := hp
        rw [List.getElem?_append_right (Nat.le_refl _), Nat.sub_self] at hp
        rw [← Option.some.inj hp]
        exact hq
theorem coin_gives (g : Good lv n ch S rs cs b) {x : Int} (h0 : 0 ≤ x) (hx : x ∈ lv) (hb : b < 15000000) :
    ∃ (r : Int) (S' : Sto) (rs' : List Row), h_Store_coin [.obj n, .int x] S = .ok (.int r) S' ∧ Gives lv n ch S rs S' rs' cs (b + 1) ∧ Rf rs' r ∧ ∀ β, val rs' β r = β x := by
  have no : NodeOk rs (x, 0, 1) := ⟨h0, Rf.zero, Rf.one, Above.const (by show (0 : Int) < 2; decide), Above.const (by show (1 : Int) < 2; decide)⟩
  obtain ⟨S', e, gv⟩ := node_gives g no hx hb
  dsimp only at e
  refine ⟨(nodeR rs (x, 0, 1)).1, S', _, ?_, gv, node_rf no, fun β => ?_⟩
  · unfold h_Store_coin
    walk_at "env"
    unfold b_Store_coin
    repeat (first | simp only [g.st.ob, stm_node, e, if_true] | walk_at "ev0")
  · rw [node_val g.wf no]
    dsimp only
    rw [val_zero, val_one]
    cases β x <;> rfl
theorem const_free (nd : lv.Nodup) {t : List Bool} (h : Tb rs lv 0 t) : needsF lv.length t = [] := by
  have key : ∀ i, i < 2 ^ lv.length → t[i]? = some false := fun i hi => by
    rw [h.eq i hi _ (asg_agr nd i), val_zero]
  unfold needsF
  rw [List.filter_eq_nil_iff]
  intro k hk
  rw [List.mem_range] at hk
  have : lowT lv.length k t = highT lv.length k t := (half_free h.len hk).mpr fun i hi => by rw [key _ (clr_lt hk), key _ (sett_lt hk hi)]
  rw [decide_eq_true this]
  decide
end

/-- the places whose tables do not hang on levels up to the k-th -/
noncomputable def fitB (m k : Nat) (t : List Bool) : Bool := ((needsF m t).filter fun q => decide (q ≤ k)).isEmpty
noncomputable def fitF (m k : Nat) (tbs : List (List Bool)) : List Nat := (List.range tbs.length).filter fun j => fitB m k (tbs.getD j [])
theorem fitB_no {m k : Nat} {t : List Bool} (h : fitB m k t = true) : ∀ q ∈ needsF m t, ¬ q ≤ k := fun q hq hk => by
  unfold fitB at h
  rw [List.isEmpty_iff] at h
  have : q ∈ (needsF m t).filter fun q => decide (q ≤ k) := List.mem_filter.mpr ⟨hq, decide_eq_true hk⟩
  rw [h] at this
  cases this
section
variable {lv : List Int} {n ch N b p l L A B : Nat} {S : Sto} {rs : List Row} {cs : List (Row × Int)} {refs : List Int} {os : List Nat} {tbs : List (List Bool)}
theorem fit_ok (T : Tabs S rs lv A B refs os tbs) (h5 : lv.length ≤ 5) (l50 : refs.length ≤ 100) {v0 v1 v2 v4 v6 v8 v9 v10 v11 v12 v13 v14 v15 v16 v17 v18 v19 v21 : Option D} {k : Nat} {M : Nat} (hM : M = tbs.length) {r : Res (List D)}
    (e : cLoop (fun _ => True) (tgN 20) (eT (eOp dEq (eCall dLen (eCons (dComp (wL (eCall h_law_needs (eCons (eOp dIx (eV 3) (eV 20)) (eCons (eV 5) eNil)))) (tgN 21) [21] (eT (eOp dLe (eV 21) (eV 7))) (eV 21)) eNil)) (eC (D.int 0)))) (eV 20) [v0, v1, v2, some (.obj B), v4, some (.int (lv.length : Int)), v6, some (.int (k : Int)), v8, v9, v10, v11, v12, v13, v14, v15, v16, v17, v18, v19, none, v21] (rng 0 M) S = r) :
    ∃ (S' : Sto), r = .ok ((fitF lv.length k tbs).map fun j : Nat => D.int (j : Int)) S' ∧ Fr (fun _ => False) S S' := by
  have sl := sizeLine_eq
  subst hM
  obtain ⟨xs, S1, rfl, rfl, f1⟩ := cLoop_idx e (fun i acc S' => acc = ((List.range i).filter fun j => fitB lv.length k (tbs.getD j [])).map (fun j : Nat => D.int (j : Int)) ∧ Fr (fun _ => False) S S') ⟨rfl, Fr.refl⟩ (by
    rintro i d acc S' hd ⟨rfl, f1⟩
    obtain ⟨hi, rfl⟩ := rng_get hd
    refine ⟨_, rfl, ?_⟩
    clear e hd
    rw [Int.zero_add]
    rw [List.range_succ, List.filter_append]
    have T1 := T.fr f1 (fun z => z) (fun z => z) (fun _ _ z => z)
    obtain ⟨r1, o1, t1, q1, q2, q3, q4, q5, q6, q7⟩ := T1.get (i := i) (by rw [T.l1]; exact hi)
    obtain ⟨S2, e2, hN2, f2⟩ := needs_ok q4 q5.len (by omega)
    have gd : tbs.getD i [] = t1 := by rw [List.getD_eq_getElem?_getD, q6]; rfl
    repeat (first | simp only [T1.ta, q2, e2, hN2] | walk_at "ev0")
    generalize e3 : cLoop _ _ _ _ _ _ _ = r3
    obtain ⟨ys, S3, rfl, rfl, rfl⟩ := cLoop_idx e3 (fun j acc S' => S' = S2 ∧ acc = (((needsF lv.length t1).take j).filter fun q => decide (q ≤ k)).map fun q : Nat => D.int (q : Int)) ⟨rfl, rfl⟩ (by
      rintro j d acc S' hd ⟨rfl, rfl⟩
      rw [List.getElem?_map] at hd
      obtain ⟨v, hv, rfl⟩ := Option.map_eq_some_iff.mp hd
      refine ⟨_, rfl, ?_⟩
      clear e3 hd
      rw [List.take_add_one, hv, List.filter_append, List.map_append]
      by_cases hc : v ≤ k
      · have hc2 : (v : Int) ≤ (k : Int) := by omega
        have hf : (some v).toList.filter (fun q => decide (q ≤ k)) = [v] := by show [v].filter _ = _; simp [hc]
        rw [hf]
        repeat (first | simp only [decide_eq_true hc2] | walk_at "ev0")
        exact ⟨_, _, rfl, lstOf_lst hN2, rfl, rfl⟩
      · have hc2 : ¬ (v : Int) ≤ (k : Int) := by omega
        have hf : (some v).toList.filter (fun q => decide (q ≤ k)) = [] := by show [v].filter _ = _; simp [hc]
        rw [hf]
        repeat (first | simp only [decide_eq_false hc2] | walk_at "ev0")
        first | exact ⟨lstOf_lst hN2, rfl, List.append_nil _⟩ | exact lstOf_lst hN2 | exact ⟨lstOf_lst hN2, (List.append_nil _).symm⟩)
    clear e3
    rw [List.length_map, List.take_length]
    have ln : ((needsF lv.length t1).filter fun q => decide (q ≤ k)).length ≤ 5 := Nat.le_trans (List.length_filter_le _ _) (Nat.le_trans (List.length_filter_le _ _) (by rw [List.length_range]; exact h5))
    have ls : ((needsF lv.length t1).filter fun q => decide (q ≤ k)).length ≤ sizeLine := by omega
    have fb : fitB lv.length k t1 = decide ((((needsF lv.length t1).filter fun q => decide (q ≤ k)).length : Int) = 0) := by
      unfold fitB
      rw [Bool.eq_iff_iff, List.isEmpty_iff, decide_eq_true_eq]
      constructor
      · intro h; rw [h]; rfl
      · intro h; exact List.length_eq_zero_iff.mp (by omega)
    have f3 := (f1.trans f2).add (.lst (((needsF lv.length t1).filter fun q => decide (q ≤ k)).map fun q : Nat => D.int (q : Int)))
    by_cases hc : fitB lv.length k t1 = true
    · have hf : [i].filter (fun j => fitB lv.length k (tbs.getD j [])) = [i] := by rw [List.filter_cons, gd, if_pos hc]; rfl
      rw [hf, List.map_append]
      rw [fb] at hc
      repeat (first | simp only [List.length_map, if_pos ls, hc] | walk_at "ev0")
      exact ⟨_, _, rfl, rfl, f3⟩
    · have hf : [i].filter (fun j => fitB lv.length k (tbs.getD j [])) = [] := by rw [List.filter_cons, gd, if_neg hc]; rfl
      rw [hf, List.append_nil]
      rw [fb, Bool.not_eq_true] at hc
      repeat (first | simp only [List.length_map, if_pos ls, hc] | walk_at "ev0")
      exact f3)
  rw [rng_len] at *
  exact ⟨_, rfl, f1⟩
end

section
variable {lv : List Int} {n ch N b p l L A B : Nat} {S : Sto} {rs : List Row} {cs : List (Row × Int)} {refs : List Int} {os : List Nat} {tbs : List (List Bool)}
theorem stm_neg {n ch : Nat} : metO "Store" "negate" (some (inSt n ch)) = true := st_met (by simp +decide only [fldL, if_false])
theorem stm_both {n ch : Nat} : metO "Store" "both" (some (inSt n ch)) = true := st_met (by simp +decide only [fldL, if_false])
theorem stm_either {n ch : Nat} : metO "Store" "either" (some (inSt n ch)) = true := st_met (by simp +decide only [fldL, if_false])
theorem stm_without {n ch : Nat} : metO "Store" "without" (some (inSt n ch)) = true := st_met (by simp +decide only [fldL, if_false])
theorem stm_eitherof {n ch : Nat} : metO "Store" "either_of" (some (inSt n ch)) = true := st_met (by simp +decide only [fldL, if_false])
theorem deed_ok (po : PoolS S p l) (g : Good lv n ch S rs cs b) (hL : S[L]? = some (.lst (lv.map D.int))) (asc : lv.Pairwise (· < ·)) (h0 : ∀ x ∈ lv, 0 ≤ x) (h5 : lv.length ≤ 5) (T : Tabs S rs lv A B refs os tbs) (ap : Apart n ch p l L A B os) (r2 : 2 ≤ refs.length) (r50 : refs.length ≤ 50) (r0 : refs[0]? = some 0) (hb : b + 3 * mT lv.length + 1 < 300000) (hN : mT lv.length < N) :
    ∃ (r : Int) (o : Nat) (S' : Sto) (rs' : List Row) (cs' : List (Row × Int)) (t : List Bool), h_law_deed N [.obj p, .obj n, .obj A, .obj B, .obj L] S = .ok (.tup [.int r, .obj o]) S' ∧ Deed lv n ch p l S rs (b + 3 * mT lv.length + 1) S' rs' cs' r o t := by
  have sl := sizeLine_eq
  have s1 : (1 : Nat) ≤ sizeLine := by omega
  have s2 : (2 : Nat) ≤ sizeLine := by omega
  have s3 : (3 : Nat) ≤ sizeLine := by omega
  have hm : mT lv.length ≤ 3 * mT lv.length := by omega
  have lv30 : lv.length ≤ 30 := by omega
  have hp : 2 ^ lv.length ≤ 32 := Nat.pow_le_pow_right (n := 2) (by decide) h5
  have hp0 : 0 < 2 ^ lv.length := Nat.two_pow_pos _
  have hosl : os.length = refs.length := by rw [T.l2, T.l1]
  unfold h_law_deed
  walk_at "env"
  unfold b_law_deed
  repeat (first | simp only [hL, List.length_map] | walk_at "ev0")
  generalize e1 : h_law_draw _ _ = r
  obtain ⟨turn, S1, rfl, t0, t1, po1, f1⟩ := draw_use e1 po (by decide) (by decide)
  clear e1
  have fx1 : Fr (fun i => StX n ch i ∨ i = p) S S1 := f1.mono fun i _ h => .inr h
  have T1 := T.fr f1 ap.pA ap.pB ap.po
  have L1 := f1.at hL ap.pL
  have g1 : Good lv n ch S1 rs cs b := g.fr f1 fun i hi e => ap.xp (by rw [← e]; exact hi)
  repeat walk_at "ev0"
  generalize e1 : cLoop _ _ _ _ _ _ _ = r
  obtain ⟨vs, S2, rfl, lvs, hvs, po2, f2⟩ := places_ok (ip := 0) (iA := 2) (ik := 7) (ρ := [some (.obj p), some (.obj n), some (.obj A), some (.obj B), some (.obj L), some (.int (lv.length : Int)), some (.int turn), none, none, none, none, none, none, none, none, none, none, none, none, none, none, none]) po1 T1.ra ap.pA (by rw [List.length_map]; omega) (by rw [List.length_map]; omega) rfl rfl (by decide) (by decide) (by show 7 < 22; decide) (m := 3) (by rw [rng_len]; rfl) e1
  clear e1
  rw [List.length_map] at hvs
  obtain ⟨i0, i1, i2, rfl⟩ : ∃ a b c, vs = [a, b, c] := by
    match vs, lvs with
    | [a, b, c], _ => exact ⟨a, b, c, rfl⟩
  have hi0 := hvs i0 (by simp)
  have hi1 := hvs i1 (by simp)
  have hi2 := hvs i2 (by simp)
  have fx2 := fx1.trans (f2.mono fun i _ h => .inr h)
  have T2 := T1.fr f2 ap.pA ap.pB ap.po
  have L2 := f2.at L1 ap.pL
  have g2 : Good lv n ch S2 rs cs b := g1.fr f2 fun i hi e => ap.xp (by rw [← e]; exact hi)
  clear fx1 T1 L1 g1 po1 f1 f2 hvs lvs
  -- the list of places
  have hQ : (S2 ++ [Ob.lst [D.int (i0 : Int), .int (i1 : Int), .int (i2 : Int)]])[S2.length]? = some (Ob.lst [D.int (i0 : Int), .int (i1 : Int), .int (i2 : Int)]) := Ev.appNew
  have fa : Fr (fun _ => False) S2 (S2 ++ [Ob.lst [D.int (i0 : Int), .int (i1 : Int), .int (i2 : Int)]]) := Fr.refl.add _
  have T3 := T2.fr fa (fun z => z) (fun z => z) (fun _ _ z => z)
  have g3 := g2.fr fa (fun _ _ z => z)
  have L3 := fa.at L2 (fun z => z)
  have po3 : PoolS (S2 ++ [Ob.lst [D.int (i0 : Int), .int (i1 : Int), .int (i2 : Int)]]) p l := po2.add
  have fx3 := fx2.trans (fa.mono fun _ _ z => z.elim)
  repeat (first | simp only [List.map_cons, List.map_nil, if_pos s3] | walk_at "ev0")
  generalize S2 ++ [Ob.lst [D.int (i0 : Int), .int (i1 : Int), .int (i2 : Int)]] = S3 at *
  have nQ : ¬ StX n ch S2.length := fun z => by
    have l1 := lt_of_get g2.st.rf
    have l2 := lt_of_get g2.st.cc
    rcases z with ⟨_, _⟩ | z <;> omega
  generalize S2.length = Q at *
  clear fx2 T2 g2 L2 po2 fa
  obtain ⟨ra, oa, ta, ea1, ea2, ea3, ea4, ea5, _⟩ := T3.get hi0
  obtain ⟨rb, ob, tb, eb1, eb2, eb3, eb4, eb5, _⟩ := T3.get hi1
  obtain ⟨rc, oc, tc, ec1, ec2, ec3, ec4, ec5, _⟩ := T3.get hi2
  have ta3 : S3[oa]? = some (.lst (ta.map D.bl)) := ea4
  repeat (first | simp only [hQ, T3.ra, T3.ta, ea1, ea2, eb1, eb2, if_pos s1] | walk_at "ev0")
  have lta := ea5.len
  have ta4 : (S3 ++ [Ob.lst [D.bl false]])[oa]? = some (.lst (ta.map D.bl)) := by rw [List.getElem?_append_left (lt_of_get ta3)]; exact ta3
  have c1 : 0 ≤ ((ta.length : Nat) : Int) ∧ ((ta.length : Nat) : Int) ≤ 1000000 := by rw [lta]; omega
  have c3 : ta.length ≤ sizeLine := by omega
  have er : ∀ x : Bool, [Ob.lst (List.replicate ta.length (D.bl x))] = [bls (List.replicate ta.length x)] := fun x => by unfold bls; rw [List.map_replicate]
  have la : (S3 ++ [Ob.lst [D.bl false]]).length = S3.length + 1 := by rw [List.length_append]; rfl
  repeat (first | simp only [ta4, List.length_map, Int.toNat_natCast, rep_list, List.length_replicate, if_pos c3, c3, if_pos c1, true_and, Nat.one_mul, er] | walk_at "ev0")
  have fb : Fr (fun _ => False) S3 (S3 ++ [Ob.lst [D.bl false]] ++ [bls (List.replicate ta.length false)]) := (Fr.refl.add _).add _
  have hnone : (S3 ++ [Ob.lst [D.bl false]] ++ [bls (List.replicate ta.length false)])[S3.length + 1]? = some (bls (List.replicate ta.length false)) := by rw [← la]; exact Ev.appNew
  have po4 : PoolS (S3 ++ [Ob.lst [D.bl false]] ++ [bls (List.replicate ta.length false)]) p l := po3.add.add
  have xnew : ∀ k, ¬ StX n ch (S3.length + k) := fun k z => by
    have l1 := lt_of_get g3.st.rf
    have l2 := lt_of_get g3.st.cc
    rcases z with ⟨_, _⟩ | z <;> omega
  have nW0 : ¬ StX n ch (S3.length + 1) := xnew 1
  have nW1 : ¬ StX n ch (S3.length + 1 + 1 + 1) := xnew 3
  clear xnew
  have pW0 : S3.length + 1 ≠ p := by have := po3.lp; omega
  have pW1 : S3.length + 1 + 1 + 1 ≠ p := by have := po3.lp; omega
  have l4 : (S3 ++ [Ob.lst [D.bl false]] ++ [bls (List.replicate ta.length false)]).length = S3.length + 1 + 1 := by rw [List.length_append, List.length_append]; rfl
  generalize S3 ++ [Ob.lst [D.bl false]] ++ [bls (List.replicate ta.length false)] = S4 at *
  generalize S3.length + 1 = W0 at *
  have ta5 := fb.at ta3 (fun z => z)
  have ta6 : (S4 ++ [Ob.lst [D.bl true]])[oa]? = some (.lst (ta.map D.bl)) := by rw [List.getElem?_append_left (lt_of_get ta5)]; exact ta5
  have la4 : (S4 ++ [Ob.lst [D.bl true]]).length = W0 + 1 + 1 := by rw [List.length_append, l4]; rfl
  have g4 : (S4 ++ [Ob.lst [D.bl true]])[W0 + 1]? = some (Ob.lst [D.bl true]) := by rw [← l4]; exact Ev.appNew
  repeat (first | simp only [ta5, ta6, l4, g4, List.length_map, Int.toNat_natCast, rep_list, List.length_replicate, if_pos c3, c3, if_pos c1, true_and, Nat.one_mul, er] | walk_at "ev0")
  have fc : Fr (fun _ => False) S4 (S4 ++ [Ob.lst [D.bl true]] ++ [bls (List.replicate ta.length true)]) := (Fr.refl.add _).add _
  have hwhole : (S4 ++ [Ob.lst [D.bl true]] ++ [bls (List.replicate ta.length true)])[W0 + 1 + 1]? = some (bls (List.replicate ta.length true)) := by rw [← la4]; exact Ev.appNew
  have hnone := fc.at hnone (fun z => z)
  have po5 : PoolS (S4 ++ [Ob.lst [D.bl true]] ++ [bls (List.replicate ta.length true)]) p l := po4.add.add
  generalize S4 ++ [Ob.lst [D.bl true]] ++ [bls (List.replicate ta.length true)] = S5 at *
  generalize W0 + 1 + 1 = W1 at *
  have f35 := fb.trans fc
  have T5 := T3.fr f35 (fun z => z) (fun z => z) (fun _ _ z => z)
  have g5 := g3.fr f35 (fun _ _ z => z)
  have L5 := f35.at L3 (fun z => z)
  have hQ := f35.at hQ (fun z => z)
  have fx5 := fx3.trans (f35.mono fun _ _ z => z.elim)
  have ha := f35.at ea4 (fun z => z)
  have hbb := f35.at eb4 (fun z => z)
  have hcc := f35.at ec4 (fun z => z)
  clear f35 fb fc T3 g3 L3 po3 po4 fx3 ta3 ta4 ta5 ta6 la la4 l4 g4
  rw [lta] at hnone hwhole c1 c3
  clear er
  have lrep : ∀ x : Bool, (List.replicate (2 ^ lv.length) x).length = 2 ^ lv.length := fun x => List.length_replicate
  have opE : ∀ {r : Int} {S6 : Sto} {rs6 : List Row} {cs6 : List (Row × Int)} {c xa xb xc : Nat} {A1 B1 C1 : List Bool}, Gives lv n ch S5 rs S6 rs6 cs6 c → c ≤ b + 3 * mT lv.length + 1 → Rf rs6 r → S5[xa]? = some (bls A1) → S5[xb]? = some (bls B1) → S5[xc]? = some (bls C1) → ¬ StX n ch xa → ¬ StX n ch xb → ¬ StX n ch xc → A1.length = 2 ^ lv.length → B1.length = 2 ^ lv.length → C1.length = 2 ^ lv.length →
      (∀ i, i < 2 ^ lv.length → ∀ β, Agr lv i β → (if A1.getD i false = true then B1.getD i false else C1.getD i false) = val rs6 β r) →
      h_law_mixed [.obj xa, .obj xb, .obj xc] S6 = .ok (.obj S6.length) (S6 ++ [bls (mixT A1 B1 C1)]) ∧ Deed lv n ch p l S rs (b + 3 * mT lv.length + 1) (S6 ++ [bls (mixT A1 B1 C1)]) rs6 cs6 r S6.length (mixT A1 B1 C1) :=
    fun gv hc rf h1 h2 h3 n1 n2 n3 l1 l2 l3 hv => mix_end (fx5.trans (gv.fr.mono fun _ _ z => .inl z)) (gv.good.up hc) gv.ext (po5.fr gv.fr ap.xp ap.xl) (gv.fr.at h1 n1) (gv.fr.at h2 n2) (gv.fr.at h3 n3) l1 l2 l3 h5 rf hv
  have xoa := ap.xo oa ea3
  have xob := ap.xo ob eb3
  have xoc := ap.xo oc ec3
  by_cases t0 : turn = 0
  · obtain ⟨r, S6, rs6, cs6, e6, gv, rf, ev⟩ := negate_ok g5 ea5.rf lv30 (by omega) hN
    obtain ⟨e7, dd⟩ := opE gv (by omega) rf ha hnone hwhole xoa nW0 nW1 lta (lrep _) (lrep _) fun i hi β ag => by
      rw [rep_at hi, rep_at hi, ev, ea5.at hi ag]
      cases val rs β ra <;> rfl
    repeat (first | simp only [decide_eq_true t0, g5.st.ob, stm_neg, e6, e7, if_true, if_pos s2] | walk_at "ev0")
    exact ⟨_, _, _, _, _, _, rfl, dd⟩
  by_cases t1 : turn = 1
  · obtain ⟨r, S6, rs6, cs6, e6, gv, rf, ev⟩ := both_ok g5 ea5.rf eb5.rf lv30 (by omega) hN
    obtain ⟨e7, dd⟩ := opE gv (by omega) rf ha hbb hnone xoa xob nW0 lta eb5.len (lrep _) fun i hi β ag => by
      rw [rep_at hi, ev, ea5.at hi ag, eb5.at hi ag]
      cases val rs β ra <;> rfl
    repeat (first | simp only [decide_eq_false t0, decide_eq_true t1, g5.st.ob, stm_both, e6, e7, if_true, if_pos s2] | walk_at "ev0")
    exact ⟨_, _, _, _, _, _, rfl, dd⟩
  by_cases t2 : turn = 2
  · obtain ⟨r, S6, rs6, cs6, e6, gv, rf, ev⟩ := either_ok g5 ea5.rf eb5.rf lv30 (by omega) hN
    obtain ⟨e7, dd⟩ := opE gv (by omega) rf ha hwhole hbb xoa nW1 xob lta (lrep _) eb5.len fun i hi β ag => by
      rw [rep_at hi, ev, ea5.at hi ag, eb5.at hi ag]
      cases val rs β ra <;> rfl
    repeat (first | simp only [decide_eq_false t0, decide_eq_false t1, decide_eq_true t2, g5.st.ob, stm_either, e6, e7, if_true, if_pos s2] | walk_at "ev0")
    exact ⟨_, _, _, _, _, _, rfl, dd⟩
  by_cases t3 : turn = 3
  · obtain ⟨r, S6, rs6, cs6, e6, gv, rf, ev⟩ := without_ok g5 ea5.rf eb5.rf lv30 (by omega) hN
    obtain ⟨e7, dd⟩ := opE gv (by omega) rf hbb hnone ha xob nW0 xoa eb5.len (lrep _) lta fun i hi β ag => by
      rw [rep_at hi, ev, ea5.at hi ag, eb5.at hi ag]
      cases val rs β ra <;> cases val rs β rb <;> rfl
    repeat (first | simp only [decide_eq_false t0, decide_eq_false t1, decide_eq_false t2, decide_eq_true t3, g5.st.ob, stm_without, e6, e7, if_true, if_pos s2] | walk_at "ev0")
    exact ⟨_, _, _, _, _, _, rfl, dd⟩
  by_cases t4 : turn = 4
  · repeat (first | simp only [decide_eq_false t0, decide_eq_false t1, decide_eq_false t2, decide_eq_false t3, decide_eq_true t4] | walk_at "ev0")
    generalize e1 : h_law_draw _ _ = r
    obtain ⟨q, S6, rfl, q0, q1, po6, f6⟩ := draw_use e1 po5 (by decide) (by decide)
    clear e1
    obtain ⟨m, rfl⟩ := Int.eq_ofNat_of_zero_le q0
    have o1 := okr_nat (n := m) (by omega)
    have T6 := T5.fr f6 ap.pA ap.pB ap.po
    repeat (first | simp only [o1, if_true] | walk_at "ev0")
    generalize e1 : cLoop _ _ _ _ _ _ _ = r
    obtain ⟨vs, S7, rfl, lvs, hvs, po7, f7⟩ := places_ok (ip := 0) (iA := 2) (ik := 7) (ρ := [some (.obj p), some (.obj n), some (.obj A), some (.obj B), some (.obj L), some (.int (lv.length : Int)), some (.int turn), none, some (.obj Q), some (.int ra), some (.int rb), some (.obj oa), some (.obj ob), some (.obj W0), some (.obj W1), none, none, none, none, none, none, none]) po6 T6.ra ap.pA (by rw [List.length_map]; omega) (by rw [List.length_map]; omega) rfl rfl (by decide) (by decide) (by show 7 < 22; decide) (m := m) (by rw [rng_len]; rfl) e1
    clear e1
    rw [List.length_map] at hvs
    have f57 : Fr (fun i => i = p) S5 S7 := f6.trans f7
    have T7 := T6.fr f7 ap.pA ap.pB ap.po
    have g7 : Good lv n ch S7 rs cs b := g5.fr f57 fun i hi e => ap.xp (by rw [← e]; exact hi)
    have hn7 := f57.at hnone pW0
    have hw7 := f57.at hwhole pW1
    have hn8 : S7[W0]? = some (.lst ((List.replicate (2 ^ lv.length) false).map D.bl)) := hn7
    have lvs3 : vs.length ≤ sizeLine := by omega
    have l2m : 2 ^ lv.length ≤ sizeLine := by omega
    -- the list of places
    have hV : (S7 ++ [Ob.lst (vs.map fun v : Nat => D.int (v : Int))])[S7.length]? = some (Ob.lst (vs.map fun v : Nat => D.int (v : Int))) := Ev.appNew
    have fv : Fr (fun _ => False) S7 (S7 ++ [Ob.lst (vs.map fun v : Nat => D.int (v : Int))]) := Fr.refl.add _
    have T8 := T7.fr fv (fun z => z) (fun z => z) (fun _ _ z => z)
    have g8 := g7.fr fv (fun _ _ z => z)
    have hn8 := fv.at hn8 (fun z => z)
    have hw8 := fv.at hw7 (fun z => z)
    have po8 : PoolS (S7 ++ [Ob.lst (vs.map fun v : Nat => D.int (v : Int))]) p l := po7.add
    have nV : ¬ StX n ch S7.length := fun z => by
      have l1 := lt_of_get g7.st.rf
      have l2 := lt_of_get g7.st.cc
      rcases z with ⟨_, _⟩ | z <;> omega
    have fx8 := (fx5.trans (f57.mono fun i _ h => .inr h)).trans (fv.mono fun _ _ z => z.elim)
    repeat (first | simp only [List.length_map, if_pos lvs3] | walk_at "ev0")
    generalize S7 ++ [Ob.lst (vs.map fun v : Nat => D.int (v : Int))] = S8 at *
    generalize S7.length = V at *
    -- the total
    have hT0 : (S8 ++ [bls (List.replicate (2 ^ lv.length) false)])[S8.length]? = some (bls (List.replicate (2 ^ lv.length) false)) := Ev.appNew
    have ft : Fr (fun _ => False) S8 (S8 ++ [bls (List.replicate (2 ^ lv.length) false)]) := Fr.refl.add _
    have T9 := T8.fr ft (fun z => z) (fun z => z) (fun _ _ z => z)
    have g9 := g8.fr ft (fun _ _ z => z)
    have hw9 := ft.at hw8 (fun z => z)
    have hV9 := ft.at hV (fun z => z)
    have po9 : PoolS (S8 ++ [bls (List.replicate (2 ^ lv.length) false)]) p l := po8.add
    have fx9 := fx8.trans (ft.mono fun _ _ z => z.elim)
    have eb0 : [Ob.lst ((List.replicate (2 ^ lv.length) false).map D.bl)] = [bls (List.replicate (2 ^ lv.length) false)] := rfl
    have lS8 : S.length ≤ S8.length := fx8.len
    have nTot : ∀ k, ¬ StX n ch (S8.length + k) := fun k z => by
      have l1 := lt_of_get g8.st.rf
      have l2 := lt_of_get g8.st.cc
      rcases z with ⟨_, _⟩ | z <;> omega
    repeat (first | simp only [hn8, List.length_map, List.length_replicate, if_pos l2m, eb0] | walk_at "ev0")
    generalize hS9 : S8 ++ [bls (List.replicate (2 ^ lv.length) false)] = S9 at *
    have len9 : S9.length = S8.length + 1 := by rw [← hS9, List.length_append]; rfl
    clear hn8 hw8 T8 g8 po8 fx8 fv f57 f6 f7 T6 T7 g7 hn7 hw7 po6 po7
    repeat (first | simp only [hV9] | walk_at "ev0")
    generalize e1 : dLoop _ _ _ _ _ _ = r
    obtain ⟨ρ, S10, rfl, o, v7, tt, rfl, ho, lo, ltt, htt, f10⟩ := loop_idx_nx e1 (fun j ρ S10 => ∃ (o : Nat) (v7 : Option D) (tt : List Bool), ρ = [some (.obj p), some (.obj n), some (.obj A), some (.obj B), some (.obj L), some (.int (lv.length : Int)), some (.int turn), v7, some (.obj Q), some (.int ra), some (.int rb), some (.obj oa), some (.obj ob), some (.obj W0), some (.obj W1), some (.obj V), some (.obj o), none, none, none, none, none] ∧ S10[o]? = some (bls tt) ∧ S8.length ≤ o ∧ tt.length = 2 ^ lv.length ∧ (∀ i, i < 2 ^ lv.length → ∀ β, Agr lv i β → tt.getD i false = (vs.take j).any fun v => val rs β (refs.getD v 0)) ∧ Fr (fun _ => False) S9 S10)
      ⟨S8.length, none, _, rfl, hT0, Nat.le_refl _, lrep _, fun i hi β ag => by rw [rep_at hi]; rfl, Fr.refl⟩ (by
      rintro j d ρ S10 hd ⟨o, v7, tt, rfl, ho, lo, ltt, htt, f10⟩
      rw [List.getElem?_map] at hd
      obtain ⟨v, hv, rfl⟩ := Option.map_eq_some_iff.mp hd
      have hvl := hvs v (List.mem_of_getElem? hv)
      have T10 := T9.fr f10 (fun z => z) (fun z => z) (fun _ _ z => z)
      obtain ⟨r1, o1, t1', q1, q2, q3, q4, q5, _, q7⟩ := T10.get hvl
      have hw10 := f10.at hw9 (fun z => z)
      have hV10 := f10.at hV9 (fun z => z)
      have em := mixed_ok ho hw10 q4 (by rw [lrep, ltt]) (by rw [q5.len, ltt]) (by omega)
      refine ⟨_, rfl, ?_⟩
      clear e1 hd
      repeat (first | simp only [T10.ta, q2, em] | walk_at "ev0")
      refine ⟨?_, S10.length, _, _, rfl, Ev.appNew, by have := f10.len; omega, by rw [mixT_len, ltt], fun i hi β ag => ?_, f10.add _⟩
      · refine lstOf_lst ?_
        rw [List.getElem?_append_left (lt_of_get hV10)]
        exact hV10
      · have hgv : refs.getD v 0 = r1 := by rw [List.getD_eq_getElem?_getD, q7]; rfl
        rw [getD_of (mixT_at (by rw [ltt]; exact hi)), rep_at hi, htt i hi β ag, q5.at hi ag, List.take_add_one, hv, List.any_append, ← hgv]
        show (if ((vs.take j).any fun v => val rs β (refs.getD v 0)) = true then true else val rs β (refs.getD v 0)) = (((vs.take j).any fun v => val rs β (refs.getD v 0)) || (val rs β (refs.getD v 0) || false))
        cases (vs.take j).any fun v => val rs β (refs.getD v 0) with
        | true => rfl
        | false => rw [Bool.or_false, Bool.false_or]; rfl)
    clear e1
    rw [List.length_map, List.take_length] at htt
    have T10 := T9.fr f10 (fun z => z) (fun z => z) (fun _ _ z => z)
    have g10 := g9.fr f10 (fun _ _ z => z)
    have hV10 := f10.at hV9 (fun z => z)
    have po10 := po9.fr f10 (fun z => z) (fun z => z)
    have fx10 := fx9.trans (f10.mono fun _ _ z => z.elim)
    have len10 := f10.len
    repeat (first | simp only [hV10] | walk_at "ev0")
    generalize e1 : cLoop _ _ _ _ _ _ _ = r
    obtain ⟨ys, S11, rfl, rfl, rfl⟩ := cLoop_idx e1 (fun j acc S' => S' = S10 ∧ acc = ((vs.take j).map fun v => refs.getD v 0).map D.int) ⟨rfl, rfl⟩ (by
      rintro j d acc S' hd ⟨rfl, rfl⟩
      rw [List.getElem?_map] at hd
      obtain ⟨v, hv, rfl⟩ := Option.map_eq_some_iff.mp hd
      have hvl := hvs v (List.mem_of_getElem? hv)
      obtain ⟨r1, o1, t1', q1, q2, q3, q4, q5, _, q7⟩ := T10.get hvl
      refine ⟨_, rfl, ?_⟩
      clear e1 hd
      have hs := lstOf_lst hV10
      repeat (first | simp only [T10.ra, q1] | walk_at "ev0")
      refine ⟨_, _, rfl, hs, rfl, ?_⟩
      have hgv : refs.getD v 0 = r1 := by rw [List.getD_eq_getElem?_getD, q7]; rfl
      rw [List.take_add_one, hv, List.map_append, List.map_append, ← hgv]
      rfl)
    clear e1
    rw [List.length_map, List.take_length]
    have hxs : ∀ x ∈ (vs.map fun v => refs.getD v 0), Rf rs x := fun x hx => by
      obtain ⟨v, hv, rfl⟩ := List.mem_map.mp hx
      obtain ⟨r1, o1, t1', q1, q2, q3, q4, q5, _, q7⟩ := T10.get (hvs v hv)
      rw [List.getD_eq_getElem?_getD, q7]
      exact q5.rf
    have lxs : (vs.map fun v => refs.getD v 0).length ≤ 3 := by rw [List.length_map]; omega
    have hany : ∀ β, ((vs.map fun v => refs.getD v 0).any fun x => val rs β x) = vs.any fun v => val rs β (refs.getD v 0) := fun β => by rw [List.any_map]; rfl
    generalize (vs.map fun v => refs.getD v 0) = xs at *
    have hX : (S11 ++ [Ob.lst (xs.map D.int)])[S11.length]? = some (Ob.lst (xs.map D.int)) := Ev.appNew
    have fX : Fr (fun _ => False) S11 (S11 ++ [Ob.lst (xs.map D.int)]) := Fr.refl.add _
    have g12 := g10.fr fX (fun _ _ z => z)
    have po12 : PoolS (S11 ++ [Ob.lst (xs.map D.int)]) p l := po10.add
    have fx12 := fx10.trans (fX.mono fun _ _ z => z.elim)
    have ho12 := fX.at ho (fun z => z)
    have nX : ¬ StX n ch S11.length := by
      have := nTot (S11.length - S8.length)
      rwa [show S8.length + (S11.length - S8.length) = S11.length by omega] at this
    have no12 : ¬ StX n ch o := by
      have := nTot (o - S8.length)
      rwa [show S8.length + (o - S8.length) = o by omega] at this
    obtain ⟨r, S12, rs12, cs12, e12, gv, rf, ev⟩ := either_of_ok g12 hX nX hxs lxs lv30 (by omega) hN
    have lxs2 : xs.length ≤ sizeLine := by omega
    repeat (first | simp only [List.length_map, if_pos lxs2, g10.st.ob, g12.st.ob, stm_eitherof, e12, if_true, if_pos s2] | walk_at "ev0")
    refine ⟨_, _, _, _, _, _, rfl, gv.good.up (by omega), gv.ext, fx12.trans (gv.fr.mono fun _ _ z => .inl z), gv.fr.at ho12 no12, by omega, ⟨rf, ltt, fun i hi β ag => ?_⟩, po12.fr gv.fr ap.xp ap.xl⟩
    rw [ev, hany, ← htt i hi β ag, List.getD_eq_getElem?_getD, List.getElem?_eq_getElem (by rw [ltt]; exact hi)]
    rfl
  by_cases t5 : turn = 5 ∧ 0 < lv.length
  · obtain ⟨t5, hm0⟩ := t5
    have hz : ((lv.length : Nat) : Int) > 0 := by omega
    repeat (first | simp only [decide_eq_false t0, decide_eq_false t1, decide_eq_false t2, decide_eq_false t3, decide_eq_false t4, decide_eq_true t5, decide_eq_true hz] | walk_at "ev0")
    generalize e1 : h_law_draw _ _ = r
    obtain ⟨q, S6, rfl, q0, q1, po6, f6⟩ := draw_use e1 po5 (by omega) (by rw [Int.natAbs_natCast]; exact Nat.lt_of_le_of_lt (Nat.log2_le_self _) (by omega))
    clear e1
    obtain ⟨k, rfl⟩ := Int.eq_ofNat_of_zero_le q0
    have hk : k < lv.length := by omega
    have ek := List.getElem?_eq_getElem hk
    generalize lv[k] = x at ek
    have e2 : atI (lv.map D.int) (k : Int) = some (.int x) := atI_nat (by rw [List.getElem?_map, ek]; rfl)
    have L6 := f6.at L5 ap.pL
    have g6 : Good lv n ch S6 rs cs b := g5.fr f6 fun i hi e => ap.xp (by rw [← e]; exact hi)
    have fx6 := fx5.trans (f6.mono fun i _ h => .inr h)
    obtain ⟨r, S7, rs7, e7, gv, rf, ev⟩ := coin_gives g6 (h0 x (List.mem_of_getElem? ek)) (List.mem_of_getElem? ek) (by omega)
    have e8 := coinL_ok (S := S7) (m := lv.length) (k := k) (by omega) (by omega)
    repeat (first | simp only [L6, e2, g6.st.ob, stm_coin, e7, e8, if_true, if_pos s2] | walk_at "ev0")
    exact ⟨_, _, _, _, _, _, rfl, deed_end (fx6.trans (gv.fr.mono fun _ _ z => .inl z)) (gv.good.up (by omega)) gv.ext (po6.fr gv.fr ap.xp ap.xl) ⟨rf, coinT_len, fun i hi β ag => by rw [coinT_at hi, ev, ag k x ek]⟩⟩
  by_cases t6 : turn = 6 ∧ 0 < lv.length
  · obtain ⟨t6, hm0⟩ := t6
    have hz : ((lv.length : Nat) : Int) > 0 := by omega
    have t5' : ¬ turn = 5 := by omega
    repeat (first | simp only [decide_eq_false t0, decide_eq_false t1, decide_eq_false t2, decide_eq_false t3, decide_eq_false t4, decide_eq_false t5', decide_eq_true t6, decide_eq_true hz] | walk_at "ev0")
    generalize e1 : h_law_draw _ _ = r
    obtain ⟨q, S6, rfl, q0, q1, po6, f6⟩ := draw_use e1 po5 (by omega) (by rw [Int.natAbs_natCast]; exact Nat.lt_of_le_of_lt (Nat.log2_le_self _) (by omega))
    clear e1
    obtain ⟨k, rfl⟩ := Int.eq_ofNat_of_zero_le q0
    have hk : k < lv.length := by omega
    have ek := List.getElem?_eq_getElem hk
    generalize lv[k] = x at ek
    have e2 : atI (lv.map D.int) (k : Int) = some (.int x) := atI_nat (by rw [List.getElem?_map, ek]; rfl)
    have T6 := T5.fr f6 ap.pA ap.pB ap.po
    have L6 := f6.at L5 ap.pL
    have g6 : Good lv n ch S6 rs cs b := g5.fr f6 fun i hi e => ap.xp (by rw [← e]; exact hi)
    have fx6 := fx5.trans (f6.mono fun i _ h => .inr h)
    have o1 := okr_nat (n := os.length) (by omega)
    repeat (first | simp only [T6.ta, List.length_map, o1, if_true] | walk_at "ev0")
    generalize e1 : cLoop _ _ _ _ _ _ _ = r
    obtain ⟨S7, rfl, f7⟩ := fit_ok T6 h5 (by omega) (M := os.length) T.l2 e1
    clear e1
    have T7 := T6.fr f7 (fun z => z) (fun z => z) (fun _ _ z => z)
    have L7 := f7.at L6 (fun z => z)
    have g7 := g6.fr f7 (fun _ _ z => z)
    have po7 := po6.fr f7 (fun z => z) (fun z => z)
    have fx7 := fx6.trans (f7.mono fun _ _ z => z.elim)
    have lF : (fitF lv.length k tbs).length ≤ 50 := Nat.le_trans (List.length_filter_le _ _) (by rw [List.length_range, ← T.l1]; exact r50)
    have lFs : (fitF lv.length k tbs).length ≤ sizeLine := by omega
    have lF0 : 0 < (fitF lv.length k tbs).length := by
      refine List.length_pos_of_mem (a := 0) ?_
      have h1 : 0 < tbs.length := by rw [← T.l1]; omega
      have e4 := List.getElem?_eq_getElem h1
      have e5 := const_free (asc.imp fun h => Int.ne_of_lt h) (T.ok 0 0 _ r0 e4)
      unfold fitF
      rw [List.mem_filter, List.mem_range]
      refine ⟨h1, ?_⟩
      rw [List.getD_eq_getElem?_getD, e4]
      unfold fitB
      rw [show (some tbs[0]).getD [] = tbs[0] from rfl, e5]
      rfl
    have hF : (S7 ++ [Ob.lst ((fitF lv.length k tbs).map fun j : Nat => D.int (j : Int))])[S7.length]? = some (Ob.lst ((fitF lv.length k tbs).map fun j : Nat => D.int (j : Int))) := Ev.appNew
    have ff : Fr (fun _ => False) S7 (S7 ++ [Ob.lst ((fitF lv.length k tbs).map fun j : Nat => D.int (j : Int))]) := Fr.refl.add _
    have T8 := T7.fr ff (fun z => z) (fun z => z) (fun _ _ z => z)
    have L8 := ff.at L7 (fun z => z)
    have g8 := g7.fr ff (fun _ _ z => z)
    have po8 : PoolS (S7 ++ [Ob.lst ((fitF lv.length k tbs).map fun j : Nat => D.int (j : Int))]) p l := po7.add
    have fx8 := fx7.trans (ff.mono fun _ _ z => z.elim)
    have pF : S7.length ≠ p := fun z => by obtain ⟨ns, pos, cur, cnt, salt, h, _⟩ := po7.at_; have := lt_of_get h; omega
    repeat (first | simp only [List.length_map, if_pos lFs] | walk_at "ev0")
    generalize S7 ++ [Ob.lst ((fitF lv.length k tbs).map fun j : Nat => D.int (j : Int))] = S8 at *
    generalize S7.length = F at *
    clear T6 L6 g6 po6 fx6 T7 L7 g7 po7 fx7 f6 f7 ff
    have fm : ∀ i j : Nat, (fitF lv.length k tbs)[i]? = some j → j < refs.length ∧ fitB lv.length k (tbs.getD j []) = true := fun i j h => by
      have h2 := List.mem_of_getElem? h
      unfold fitF at h2
      rw [List.mem_filter, List.mem_range] at h2
      rw [T.l1]
      exact h2
    repeat (first | simp only [hF, List.length_map] | walk_at "ev0")
    generalize e1 : h_law_draw _ _ = r
    obtain ⟨q, S9, rfl, q0, q1, po9, f9⟩ := draw_use e1 po8 (by omega) (by rw [Int.natAbs_natCast]; exact Nat.lt_of_le_of_lt (Nat.log2_le_self _) (by omega))
    clear e1
    obtain ⟨i3, rfl⟩ := Int.eq_ofNat_of_zero_le q0
    have e3 := List.getElem?_eq_getElem (show i3 < (fitF lv.length k tbs).length by omega)
    generalize (fitF lv.length k tbs)[i3] = jl at e3
    have hF9 := f9.at hF pF
    have e4 : atI ((fitF lv.length k tbs).map fun j : Nat => D.int (j : Int)) (i3 : Int) = some (.int (jl : Int)) := atI_nat (by rw [List.getElem?_map, e3]; rfl)
    repeat (first | simp only [hF9, e4, List.length_map] | walk_at "ev0")
    generalize e1 : h_law_draw _ _ = r
    obtain ⟨q, S10, rfl, q0, q1, po10, f10⟩ := draw_use e1 po9 (by omega) (by rw [Int.natAbs_natCast]; exact Nat.lt_of_le_of_lt (Nat.log2_le_self _) (by omega))
    clear e1
    obtain ⟨i4, rfl⟩ := Int.eq_ofNat_of_zero_le q0
    have e5 := List.getElem?_eq_getElem (show i4 < (fitF lv.length k tbs).length by omega)
    generalize (fitF lv.length k tbs)[i4] = jh at e5
    have hF10 := f10.at hF9 pF
    have e6 : atI ((fitF lv.length k tbs).map fun j : Nat => D.int (j : Int)) (i4 : Int) = some (.int (jh : Int)) := atI_nat (by rw [List.getElem?_map, e5]; rfl)
    have f810 := f9.trans f10
    have T10 := T8.fr f810 ap.pA ap.pB ap.po
    have L10 := f810.at L8 ap.pL
    have g10 : Good lv n ch S10 rs cs b := g8.fr f810 fun i hi e => ap.xp (by rw [← e]; exact hi)
    have fx10 := fx8.trans (f810.mono fun i _ h => .inr h)
    obtain ⟨jl1, jl2⟩ := fm _ _ e3
    obtain ⟨jh1, jh2⟩ := fm _ _ e5
    obtain ⟨rl, ol, tl, el1, el2, el3, el4, el5, el6, _⟩ := T10.get jl1
    obtain ⟨rh, oh, th, eh1, eh2, eh3, eh4, eh5, eh6, _⟩ := T10.get jh1
    rw [List.getD_eq_getElem?_getD, el6] at jl2
    rw [List.getD_eq_getElem?_getD, eh6] at jh2
    have abl := el5.above g10.wf asc ek (needs_free el5.len hk (fitB_no jl2))
    have abh := eh5.above g10.wf asc ek (needs_free eh5.len hk (fitB_no jh2))
    have no : NodeOk rs (x, rl, rh) := ⟨h0 x (List.mem_of_getElem? ek), el5.rf, eh5.rf, abl, abh⟩
    obtain ⟨S11, e7, gv⟩ := node_gives g10 no (List.mem_of_getElem? ek) (by omega)
    dsimp only at e7
    have e8 := coinL_ok (S := S11) (m := lv.length) (k := k) (by omega) (by omega)
    have fc : Fr (fun _ => False) S11 (S11 ++ [bls (coinT lv.length k)]) := Fr.refl.add _
    have hc11 : (S11 ++ [bls (coinT lv.length k)])[S11.length]? = some (bls (coinT lv.length k)) := Ev.appNew
    have g11 := gv.good.fr fc (fun _ _ z => z)
    have po11 : PoolS (S11 ++ [bls (coinT lv.length k)]) p l := (po10.fr gv.fr ap.xp ap.xl).add
    have T11 := (T10.fr gv.fr ap.xA ap.xB ap.xo).fr fc (fun z => z) (fun z => z) (fun _ _ z => z)
    have hl11 := fc.at (gv.fr.at el4 (ap.xo _ el3)) (fun z => z)
    have hh11 := fc.at (gv.fr.at eh4 (ap.xo _ eh3)) (fun z => z)
    have fx11 := (fx10.trans (gv.fr.mono fun _ _ z => .inl z)).trans (fc.mono fun _ _ z => z.elim)
    have vv : ∀ i, i < 2 ^ lv.length → ∀ β, Agr lv i β → (if (coinT lv.length k).getD i false = true then th.getD i false else tl.getD i false) = val (nodeR rs (x, rl, rh)).2 β (nodeR rs (x, rl, rh)).1 := fun i hi β ag => by
      rw [node_val g10.wf no, getD_of (coinT_at hi), el5.at hi ag, eh5.at hi ag, ag k x ek]
    obtain ⟨e9, dd⟩ := mix_end fx11 (g11.up (show b + 1 ≤ b + 3 * mT lv.length + 1 by omega)) gv.ext po11 hc11 hh11 hl11 coinT_len eh5.len el5.len h5 (node_rf no) vv
    have Ta10 := T10.ta
    have Ta11 := T11.ta
    repeat (first | simp only [hF10, e6, T10.ra, L10, e2, el1, el2, eh1, eh2, g10.st.ob, stm_node, e7, e8, e9, Ta11, if_true, if_pos s2] | walk_at "ev0")
    rw [List.length_append] at dd
    exact ⟨_, _, _, _, _, _, rfl, dd⟩
  · -- choose
    obtain ⟨r, S6, rs6, cs6, e6, gv, is⟩ := choose_ok g5 (t := (rc, ra, rb)) ⟨ec5.rf, ea5.rf, eb5.rf⟩ lv30 (by omega) hN
    dsimp only at e6
    have T6 := T5.fr gv.fr ap.xA ap.xB ap.xo
    have hQ6 := gv.fr.at hQ nQ
    obtain ⟨e7, dd⟩ := opE gv (by omega) is.rf hcc ha hbb xoc xoa xob ec5.len lta eb5.len fun i hi β ag => by
      rw [gv.ite ⟨ec5.rf, ea5.rf, eb5.rf⟩ is β, ea5.at hi ag, eb5.at hi ag, ec5.at hi ag]
    by_cases h5' : turn = 5
    · have hz : ¬ ((lv.length : Nat) : Int) > 0 := fun z => t5 ⟨h5', by omega⟩
      have h6' : ¬ turn = 6 := by omega
      repeat (first | simp only [decide_eq_false t0, decide_eq_false t1, decide_eq_false t2, decide_eq_false t3, decide_eq_false t4, decide_eq_true h5', decide_eq_false h6', decide_eq_false hz, hQ, hQ6, T5.ra, T6.ta, ec1, ec2, g5.st.ob, stm_choose, e6, e7, if_true, if_pos s2] | walk_at "ev0")
      exact ⟨_, _, _, _, _, _, rfl, dd⟩
    · by_cases h6' : turn = 6
      · have hz : ¬ ((lv.length : Nat) : Int) > 0 := fun z => t6 ⟨h6', by omega⟩
        repeat (first | simp only [decide_eq_false t0, decide_eq_false t1, decide_eq_false t2, decide_eq_false t3, decide_eq_false t4, decide_eq_false h5', decide_eq_true h6', decide_eq_false hz, hQ, hQ6, T5.ra, T6.ta, ec1, ec2, g5.st.ob, stm_choose, e6, e7, if_true, if_pos s2] | walk_at "ev0")
        exact ⟨_, _, _, _, _, _, rfl, dd⟩
      · repeat (first | simp only [decide_eq_false t0, decide_eq_false t1, decide_eq_false t2, decide_eq_false t3, decide_eq_false t4, decide_eq_false h5', decide_eq_false h6', hQ, hQ6, T5.ra, T6.ta, ec1, ec2, g5.st.ob, stm_choose, e6, e7, if_true, if_pos s2] | walk_at "ev0")
        exact ⟨_, _, _, _, _, _, rfl, dd⟩
end

/-! ### levels, and bits -/
theorem pick5 {v : Int} (v0 : 0 ≤ v) (v1 : v < 5) : ∃ d : Int, atI [D.int 0, .int 0, .int 0, .int 1, .int 5] v = some (.int d) ∧ 0 ≤ d ∧ d ≤ 5 := by
  have : v = 0 ∨ v = 1 ∨ v = 2 ∨ v = 3 ∨ v = 4 := by omega
  rcases this with rfl | rfl | rfl | rfl | rfl
  · exact ⟨_, rfl, by decide, by decide⟩
  · exact ⟨_, rfl, by decide, by decide⟩
  · exact ⟨_, rfl, by decide, by decide⟩
  · exact ⟨_, rfl, by decide, by decide⟩
  · exact ⟨_, rfl, by decide, by decide⟩
theorem levels_ok {S : Sto} {p l : Nat} (po : PoolS S p l) {m : Nat} (hm : m ≤ 100) :
    ∃ (lv : List Int) (S' : Sto), h_law_levels [.obj p, .int (m : Int)] S = .ok (.obj S.length) S' ∧ S'[S.length]? = some (.lst (lv.map D.int)) ∧ lv.length = m ∧ lv.Pairwise (· < ·) ∧ (∀ x ∈ lv, 0 ≤ x ∧ x ≤ 1000) ∧ PoolS S' p l ∧ Fr (fun i => i = p) S S' := by
  have sl := sizeLine_eq
  have lp := po.lp
  have ll := po.ll
  unfold h_law_levels
  walk_at "env"
  unfold b_law_levels
  have po1 : PoolS (S ++ [Ob.lst []]) p l := po.add
  have hL : (S ++ [Ob.lst []])[S.length]? = some (Ob.lst []) := Ev.appNew
  have f1 : Fr (fun i => i = p) S (S ++ [Ob.lst []]) := Fr.refl.add _
  have o1 := okr_nat (n := m) (by omega)
  repeat walk_at "ev0"
  generalize S ++ [Ob.lst []] = S1 at *
  generalize e1 : h_law_draw _ _ = r
  obtain ⟨a, S2, rfl, a0, a1, po2, f2⟩ := draw_use e1 po1 (by decide) (by decide)
  clear e1
  have nL : S.length ≠ p := by omega
  have nL2 : S.length ≠ l := by omega
  have hL2 := f2.at hL nL
  have f12 := f1.trans f2
  clear f1 f2 po1 hL
  repeat (first | simp only [o1, if_true] | walk_at "ev0")
  generalize e : dLoop _ _ _ _ _ _ = r
  obtain ⟨ρ, S3, rfl, lv, at_, v4, rfl, hL3, hl, asc, hx, ha0, ha1, po3, f3⟩ := loop_idx_nx e (fun i ρ S3 => ∃ (lv : List Int) (at_ : Int) (v4 : Option D), ρ = [some (.obj p), some (.int (m : Int)), some (.obj S.length), some (.int at_), v4] ∧ S3[S.length]? = some (.lst (lv.map D.int)) ∧ lv.length = i ∧ lv.Pairwise (· < ·) ∧ (∀ x ∈ lv, 0 ≤ x ∧ x < at_) ∧ 0 ≤ at_ ∧ at_ ≤ 2 + 6 * (i : Int) ∧ PoolS S3 p l ∧ Fr (fun i => i = p) S S3)
    ⟨[], a, none, rfl, hL2, rfl, List.Pairwise.nil, fun _ h => (nomatch h), a0, by omega, po2, f12⟩ (by
    rintro i d ρ S3 hd ⟨lv, at_, v4, rfl, hL3, hl, asc, hx, ha0, ha1, po3, f3⟩
    obtain ⟨hi, rfl⟩ := rng_get hd
    rw [Int.toNat_natCast] at hi
    refine ⟨_, rfl, ?_⟩
    clear e hd
    have lvs : lv.length < sizeLine := by omega
    have po4 : PoolS (S3.set S.length (Ob.lst (lv.map D.int ++ [D.int at_]))) p l := po3.set nL nL2
    have hL4 : (S3.set S.length (Ob.lst (lv.map D.int ++ [D.int at_])))[S.length]? = some (Ob.lst ((lv ++ [at_]).map D.int)) := by rw [get_put hL3, List.map_append]; rfl
    have f4 : Fr (fun i => i = p) S (S3.set S.length (Ob.lst (lv.map D.int ++ [D.int at_]))) := f3.set _ fun h => absurd h (Nat.lt_irrefl _)
    repeat (first | simp only [hL3, List.length_map, if_pos lvs] | walk_at "ev0")
    generalize S3.set S.length (Ob.lst (lv.map D.int ++ [D.int at_])) = S4 at *
    generalize e1 : h_law_draw _ _ = r
    obtain ⟨v, S5, rfl, v0, v1, po5, f5⟩ := draw_use e1 po4 (by decide) (by decide)
    clear e1
    obtain ⟨d, ed, d0, d1⟩ := pick5 v0 v1
    repeat (first | simp only [ed] | walk_at "ev0")
    exact ⟨lv ++ [at_], _, _, rfl, f5.at hL4 nL, by rw [List.length_append, hl]; rfl, List.pairwise_append.mpr ⟨asc, List.pairwise_singleton _ _, fun x h y hy => by rw [List.mem_singleton.mp hy]; exact (hx x h).2⟩, fun x h => by
      rcases List.mem_append.mp h with h | h
      · have := hx x h; omega
      · rw [List.mem_singleton.mp h]; omega, by omega, by omega, po5, f4.trans f5⟩)
  clear e
  rw [rng_len, Int.toNat_natCast] at hl ha1
  repeat walk_at "ev0"
  exact ⟨lv, _, rfl, hL3, hl, asc, fun x h => by have := hx x h; omega, po3, f3⟩

/-! ### references and tables, made -/
structure Made (lv : List Int) (n ch p l L A B : Nat) (S : Sto) (b k : Nat) (refs : List Int) (os : List Nat) (tbs : List (List Bool)) (rs : List Row) (cs : List (Row × Int)) : Prop where
  tabs : Tabs S rs lv A B refs os tbs
  good : Good lv n ch S rs cs b
  pool : PoolS S p l
  hL : S[L]? = some (.lst (lv.map D.int))
  ap : Apart n ch p l L A B os
  len : refs.length = k
  r0 : refs[0]? = some 0
  nAB : A ≠ B
  nAL : A ≠ L
  nBL : B ≠ L
  nAl : A ≠ l
  nBl : B ≠ l
  oA : A ∉ os
  oB : B ∉ os
section
variable {lv : List Int} {n ch N b p l L A B : Nat} {S : Sto} {rs : List Row} {cs : List (Row × Int)} {refs : List Int} {os : List Nat} {tbs : List (List Bool)}
theorem Made.push {k b' : Nat} (M : Made lv n ch p l L A B S b k refs os tbs rs cs) {S' : Sto} {rs' : List Row} {cs' : List (Row × Int)} {r : Int} {o : Nat} {t : List Bool} (Q : Deed lv n ch p l S rs b' S' rs' cs' r o t) :
    Made lv n ch p l L A B ((S'.set A (.lst (refs.map D.int ++ [.int r]))).set B (.lst (os.map D.obj ++ [.obj o]))) b' (k + 1) (refs ++ [r]) (os ++ [o]) (tbs ++ [t]) rs' cs' := by
  have fX : ∀ {i : Nat}, ¬ StX n ch i → i ≠ p → ¬ (StX n ch i ∨ i = p) := fun h1 h2 z => by
    rcases z with z | z
    · exact h1 z
    · exact h2 z
  have hA := Q.fr.at M.tabs.ra (fX M.ap.xA M.ap.pA)
  have hB := Q.fr.at M.tabs.ta (fX M.ap.xB M.ap.pB)
  have hL := Q.fr.at M.hL (fX M.ap.xL M.ap.pL)
  have lA := lt_of_get M.tabs.ra
  have lB := lt_of_get M.tabs.ta
  have lo := Q.new
  have lst1 := lt_of_get M.good.st.rf
  have lst2 := lt_of_get M.good.st.cc
  have lp := M.pool.lp
  have no : ¬ StX n ch o := fun z => by rcases z with ⟨_, _⟩ | z <;> omega
  have oA : o ≠ A := by omega
  have oB : o ≠ B := by omega
  have f2 : Fr (fun i => i = A ∨ i = B) S' ((S'.set A (.lst (refs.map D.int ++ [.int r]))).set B (.lst (os.map D.obj ++ [.obj o]))) := (Fr.refl.set _ fun _ => .inl rfl).set _ fun _ => .inr rfl
  obtain ⟨ts, et⟩ := Q.ext
  refine ⟨⟨?_, ?_, ?_, ?_, ?_, ?_⟩, Q.good.fr f2 fun i hi e => by rcases e with rfl | rfl; exact M.ap.xA hi; exact M.ap.xB hi, Q.pool.fr f2 (fun e => by rcases e with e | e; exact M.ap.pA e.symm; exact M.ap.pB e.symm) (fun e => by rcases e with e | e; exact M.nAl e.symm; exact M.nBl e.symm), f2.at hL (fun e => by rcases e with e | e; exact M.nAL e.symm; exact M.nBL e.symm), ⟨M.ap.xp, M.ap.xl, M.ap.xL, M.ap.xA, M.ap.xB, ?_, M.ap.pL, M.ap.pA, M.ap.pB, ?_⟩, ?_, ?_, M.nAB, M.nAL, M.nBL, M.nAl, M.nBl, ?_, ?_⟩
  · rw [get_put_ne M.nAB.symm, get_put hA, List.map_append]; rfl
  · rw [get_put ((get_put_ne M.nAB).trans hB), List.map_append]; rfl
  · rw [List.length_append, List.length_append, M.tabs.l1]; rfl
  · rw [List.length_append, List.length_append, M.tabs.l2]; rfl
  · intro i q u h1 h2
    by_cases hi : i < os.length
    · rw [List.getElem?_append_left hi] at h1
      rw [List.getElem?_append_left (by rw [← M.tabs.l2]; exact hi)] at h2
      have hm := List.mem_of_getElem? h1
      refine f2.at (Q.fr.at (M.tabs.tb i q u h1 h2) (fX (M.ap.xo q hm) (M.ap.po q hm))) fun e => ?_
      rcases e with rfl | rfl
      · exact M.oA hm
      · exact M.oB hm
    · have hj := lt_of_get h1
      rw [List.length_append] at hj
      have hj : i < os.length + 1 := hj
      have : i = os.length := by omega
      subst this
      rw [List.getElem?_append_right (Nat.le_refl _), Nat.sub_self] at h1
      rw [M.tabs.l2, List.getElem?_append_right (Nat.le_refl _), Nat.sub_self] at h2
      cases Option.some.inj h1
      cases Option.some.inj h2
      exact f2.at Q.tb fun e => by rcases e with e | e; exact oA e; exact oB e
  · intro i q u h1 h2
    by_cases hi : i < refs.length
    · rw [List.getElem?_append_left hi] at h1
      rw [List.getElem?_append_left (by rw [← M.tabs.l1]; exact hi)] at h2
      rw [et]
      exact (M.tabs.ok i q u h1 h2).ext
    · have hj := lt_of_get h1
      rw [List.length_append] at hj
      have hj : i < refs.length + 1 := hj
      have : i = refs.length := by omega
      subst this
      rw [List.getElem?_append_right (Nat.le_refl _), Nat.sub_self] at h1
      rw [M.tabs.l1, List.getElem?_append_right (Nat.le_refl _), Nat.sub_self] at h2
      cases Option.some.inj h1
      cases Option.some.inj h2
      exact Q.ok
  · intro q hq
    rcases List.mem_append.mp hq with h | h
    · exact M.ap.xo q h
    · rw [List.mem_singleton.mp h]; exact no
  · intro q hq
    rcases List.mem_append.mp hq with h | h
    · exact M.ap.po q h
    · rw [List.mem_singleton.mp h]; omega
  · rw [List.length_append, M.len]; rfl
  · have h0 := lt_of_get M.r0
    rw [List.getElem?_append_left h0]; exact M.r0
  · intro h
    rcases List.mem_append.mp h with h | h
    · exact M.oA h
    · exact oA (List.mem_singleton.mp h).symm
  · intro h
    rcases List.mem_append.mp h with h | h
    · exact M.oB h
    · exact oB (List.mem_singleton.mp h).symm
theorem mul_ok {S : Sto} {X : Nat} {x : D} (hX : S[X]? = some (.lst [x])) {c : Nat} (hc : c ≤ 1000) : dMulL (.obj X) (.int (c : Int)) S = .ok (.obj S.length) (S ++ [.lst (List.replicate c x)]) := by
  have sl := sizeLine_eq
  have c1 : 0 ≤ ((c : Nat) : Int) ∧ ((c : Nat) : Int) ≤ 1000000 := by omega
  have c3 : c ≤ sizeLine := by omega
  repeat (first | simp only [hX, Int.toNat_natCast, rep_list, List.length_replicate, if_pos c3, c3, if_pos c1, true_and, Nat.one_mul, List.length_cons, List.length_nil] | walk_at "ev0")
theorem made_ok (po : PoolS S p l) (g : Good lv n ch S [] [] 0) (hL : S[L]? = some (.lst (lv.map D.int))) (asc : lv.Pairwise (· < ·)) (h0 : ∀ x ∈ lv, 0 ≤ x ∧ x ≤ 1000) (h5 : lv.length ≤ 5) (xp : ¬ StX n ch p) (xl : ¬ StX n ch l) (xL : ¬ StX n ch L) (pL : L ≠ p) (hN : mT lv.length < N) {most : Int} (hm0 : 0 ≤ most) (hm8 : most ≤ 8) :
    ∃ (M A B : Nat) (refs : List Int) (os : List Nat) (tbs : List (List Bool)) (S' : Sto) (rs : List Row) (cs : List (Row × Int)) (k : Nat), h_law_made N [.obj p, .obj n, .obj L, .int most] S = .ok (.obj M) S' ∧ S'[M]? = some (.lst [.obj A, .obj B]) ∧ Made lv n ch p l L A B S' 3000 k refs os tbs rs cs ∧ (2 ≤ k ∧ k ≤ 15) ∧ M ≠ p ∧ Fr (fun i => StX n ch i ∨ i = p) S S' ∧ S.length ≤ M ∧ S.length ≤ A ∧ S.length ≤ B ∧ ∀ o ∈ os, S.length ≤ o := by
  have sl := sizeLine_eq
  have s1 : (1 : Nat) ≤ sizeLine := by omega
  have s2 : (2 : Nat) ≤ sizeLine := by omega
  have hp : 2 ^ lv.length ≤ 32 := Nat.pow_le_pow_right (n := 2) (by decide) h5
  have c0 : 0 ≤ ((lv.length : Nat) : Int) ∧ ((lv.length : Nat) : Int) ≤ 1000000 := by omega
  unfold h_law_made
  walk_at "env"
  unfold b_law_made
  have c1 : 0 ≤ ((2 ^ lv.length : Nat) : Int) ∧ ((2 ^ lv.length : Nat) : Int) ≤ 1000000 := ⟨Int.natCast_nonneg _, by have := Int.ofNat_le.mpr (show 2 ^ lv.length ≤ 1000000 by omega); exact this⟩
  have c3 : 2 ^ lv.length ≤ sizeLine := by omega
  have er : ∀ x : Bool, Ob.lst (List.replicate (2 ^ lv.length) (D.bl x)) = bls (List.replicate (2 ^ lv.length) x) := fun x => by unfold bls; rw [List.map_replicate]
  have g1 : (S ++ [Ob.lst [D.int 0, D.int 1]] ++ [Ob.lst [D.bl false]])[S.length + 1]? = some (Ob.lst [D.bl false]) := by
    rw [List.append_assoc]; exact ap_get (i := 1)
  have g3 : (S ++ [Ob.lst [D.int 0, D.int 1]] ++ [Ob.lst [D.bl false]] ++ [bls (List.replicate (2 ^ lv.length) false)] ++ [Ob.lst [D.bl true]])[S.length + 1 + 1 + 1]? = some (Ob.lst [D.bl true]) := by
    rw [List.append_assoc, List.append_assoc, List.append_assoc]; exact ap_get (i := 3)
  have hsz : (1 : Int) * 2 ^ ((lv.length : Int).toNat) = ((2 ^ lv.length : Nat) : Int) := two_nat _
  repeat (first | simp only [hL, List.length_map, if_pos c0, hsz, if_pos s2] | walk_at "ev0")
  repeat (first | simp only [g1, g3, if_pos s2, if_pos s1, Int.toNat_natCast, rep_list, List.length_replicate, if_pos c3, c3, if_pos c1, true_and, Nat.one_mul, List.length_cons, List.length_nil, er] | walk_at "ev0")
  have hlm : mT lv.length ≤ 62 := Nat.le_trans (mT_mono h5) (by decide)
  have hS1 : ∃ S1, S1 = S ++ [Ob.lst [D.int 0, D.int 1]] ++ [Ob.lst [D.bl false]] ++ [bls (List.replicate (2 ^ lv.length) false)] ++ [Ob.lst [D.bl true]] ++ [bls (List.replicate (2 ^ lv.length) true)] ++ [Ob.lst [D.obj (S.length + 1 + 1), D.obj (S.length + 1 + 1 + 1 + 1)]] := ⟨_, rfl⟩
  obtain ⟨S1, hS1⟩ := hS1
  have fS : Fr (fun _ => False) S S1 := by rw [hS1]; exact ((((((Fr.refl.add _).add _).add _).add _).add _).add _)
  rw [← hS1]
  have hq : ∀ i, S1[S.length + i]? = [Ob.lst [D.int 0, D.int 1], Ob.lst [D.bl false], bls (List.replicate (2 ^ lv.length) false), Ob.lst [D.bl true], bls (List.replicate (2 ^ lv.length) true), Ob.lst [D.obj (S.length + 1 + 1), D.obj (S.length + 1 + 1 + 1 + 1)]][i]? := fun i => by
    rw [hS1, List.append_assoc, List.append_assoc, List.append_assoc, List.append_assoc, List.append_assoc]; exact ap_get
  clear hS1 g1 g3
  have l1 := lt_of_get g.st.rf
  have l2 := lt_of_get g.st.cc
  have l3 := po.lp
  have l4 := po.ll
  have l5 := lt_of_get hL
  have nx : ∀ i, ¬ StX n ch (S.length + i) := fun i z => by rcases z with ⟨_, _⟩ | z <;> omega
  have rep : ∀ x : Bool, Tb ([] : List Row) lv (if x then 1 else 0) (List.replicate (2 ^ lv.length) x) := fun x => ⟨by cases x; exact Rf.zero; exact Rf.one, List.length_replicate, fun i hi β ag => by
    rw [List.getElem?_replicate, if_pos hi]
    cases x with
    | true => exact congrArg some val_one.symm
    | false => exact congrArg some val_zero.symm⟩
  have M0 : Made lv n ch p l L S.length (S.length + 1 + 1 + 1 + 1 + 1) S1 0 2 [0, 1] [S.length + 1 + 1, S.length + 1 + 1 + 1 + 1] [List.replicate (2 ^ lv.length) false, List.replicate (2 ^ lv.length) true] [] [] := by
    refine ⟨⟨hq 0, hq 5, rfl, rfl, ?_, ?_⟩, g.fr fS (fun _ _ z => z), po.fr fS (fun z => z) (fun z => z), fS.at hL (fun z => z), ⟨xp, xl, xL, nx 0, nx 5, ?_, pL, by omega, by omega, ?_⟩, rfl, rfl, by omega, by omega, by omega, by omega, by omega, ?_, ?_⟩
    · intro i o t h1 h2
      match i with
      | 0 => cases Option.some.inj h1; cases Option.some.inj h2; exact hq 2
      | 1 => cases Option.some.inj h1; cases Option.some.inj h2; exact hq 4
    · intro i r t h1 h2
      match i with
      | 0 => cases Option.some.inj h1; cases Option.some.inj h2; exact rep false
      | 1 => cases Option.some.inj h1; cases Option.some.inj h2; exact rep true
    · intro o ho
      simp only [List.mem_cons, List.not_mem_nil, or_false] at ho
      rcases ho with rfl | rfl
      · exact nx 2
      · exact nx 4
    · intro o ho
      simp only [List.mem_cons, List.not_mem_nil, or_false] at ho
      omega
    · intro ho
      simp only [List.mem_cons, List.not_mem_nil, or_false] at ho
      omega
    · intro ho
      simp only [List.mem_cons, List.not_mem_nil, or_false] at ho
      omega
  have fS' : Fr (fun i => StX n ch i ∨ i = p) S S1 := fS.mono fun _ _ z => z.elim
  have hos0 : ∀ o ∈ [S.length + 1 + 1, S.length + 1 + 1 + 1 + 1], S.length ≤ o := fun o ho => by
    simp only [List.mem_cons, List.not_mem_nil, or_false] at ho
    omega
  have hB0 : S.length ≤ S.length + 1 + 1 + 1 + 1 + 1 := by omega
  have hA0 : S.length ≤ S.length := Nat.le_refl _
  have hl0 : S.length < S1.length := lt_of_get (hq 0)
  generalize S.length + 1 + 1 + 1 + 1 + 1 = B at *
  generalize hAd : S.length = A at hA0 hB0 hos0 M0 ⊢
  clear hq fS nx rep
  have o0 := okr_nat (n := lv.length) (by omega)
  repeat (first | simp only [M0.hL, List.length_map, o0, if_true] | walk_at "ev0")
  generalize e : dLoop _ _ _ _ _ _ = r
  obtain ⟨ρ, S2, rfl, refs, os, tbs, rs, cs, v7, rfl, M1, fM1, hos1⟩ := loop_idx_nx e (fun j ρ S2 => ∃ (refs : List Int) (os : List Nat) (tbs : List (List Bool)) (rs : List Row) (cs : List (Row × Int)) (v7 : Option D), ρ = [some (.obj p), some (.obj n), some (.obj L), some (.int most), some (.int ((2 ^ lv.length : Nat) : Int)), some (.obj A), some (.obj B), v7, none] ∧ Made lv n ch p l L A B S2 j (2 + j) refs os tbs rs cs ∧ Fr (fun i => StX n ch i ∨ i = p) S S2 ∧ ∀ o ∈ os, S.length ≤ o)
    ⟨_, _, _, _, _, none, rfl, M0, fS', by rw [hAd]; exact hos0⟩ (by
    rintro j d ρ S2 hd ⟨refs, os, tbs, rs, cs, v7, rfl, M1, fM1, hos1⟩
    obtain ⟨hj, rfl⟩ := rng_get hd
    rw [Int.toNat_natCast] at hj
    refine ⟨_, rfl, ?_⟩
    clear e hd
    rw [Int.zero_add]
    have ex := List.getElem?_eq_getElem hj
    have hmem := List.getElem_mem hj
    generalize lv[j] = x at *
    have el : atI (lv.map D.int) (j : Int) = some (.int x) := atI_nat (by rw [List.getElem?_map, ex]; rfl)
    obtain ⟨r, S3, rs3, e7, gv, rf, ev⟩ := coin_gives M1.good (h0 x hmem).1 hmem (by omega)
    have e8 := fun S => coinL_ok (S := S) (m := lv.length) (k := j) (by omega) (by omega)
    have hA3 := gv.fr.at M1.tabs.ra M1.ap.xA
    have hB3 := gv.fr.at M1.tabs.ta M1.ap.xB
    have hL3 := gv.fr.at M1.hL M1.ap.xL
    have lA3 := lt_of_get hA3
    have hrl := M1.len
    have hol : os.length = refs.length := by rw [M1.tabs.l2, M1.tabs.l1]
    have c4 : refs.length < sizeLine := by omega
    have c5 : os.length < sizeLine := by omega
    have Q := deed_end (S := S2) (rs := rs) (p := p) (gv.fr.mono fun _ _ z => .inl z) gv.good gv.ext (M1.pool.fr gv.fr M1.ap.xp M1.ap.xl) (t := coinT lv.length j) ⟨rf, coinT_len, fun i hi β ag => by rw [coinT_at hi, ev, ag j x ex]⟩
    have e9 : S3.set A (.lst (refs.map D.int ++ [.int r])) ++ [bls (coinT lv.length j)] = (S3 ++ [bls (coinT lv.length j)]).set A (.lst (refs.map D.int ++ [.int r])) := (List.set_append_left _ _ lA3).symm
    have hL4 : (S3.set A (.lst (refs.map D.int ++ [.int r])))[L]? = some (.lst (lv.map D.int)) := by rw [get_put_ne M1.nAL]; exact hL3
    have hB5 : ((S3 ++ [bls (coinT lv.length j)]).set A (.lst (refs.map D.int ++ [.int r])))[B]? = some (.lst (os.map D.obj)) := by
      rw [get_put_ne M1.nAB, List.getElem?_append_left (lt_of_get hB3)]; exact hB3
    have hB4 : (S3.set A (.lst (refs.map D.int ++ [.int r])))[B]? = some (.lst (os.map D.obj)) := by rw [get_put_ne M1.nAB]; exact hB3
    have MM := M1.push Q
    have Mra := M1.tabs.ra
    repeat (first | simp only [Mra, hB4, M1.hL, el, M1.good.st.ob, stm_coin, e7, e8, e9, hA3, hL4, hB5, List.length_map, List.length_set, if_pos c4, if_pos c5, if_true] | walk_at "ev0")
    exact ⟨_, _, _, _, _, _, rfl, MM, ((fM1.trans Q.fr).set _ fun h => absurd h (by omega)).set _ fun h => absurd h (by omega), fun o ho => by
      rcases List.mem_append.mp ho with h | h
      · exact hos1 o h
      · rw [List.mem_singleton.mp h]; have := Q.new; have := fM1.len; omega⟩)
  clear e M0
  rw [rng_len, Int.toNat_natCast] at M1
  repeat walk_at "ev0"
  generalize e1 : h_law_draw _ _ = r
  obtain ⟨q, S3, rfl, q0, q1, po3, f3⟩ := draw_use e1 M1.pool (by omega) (Nat.lt_of_le_of_lt (Nat.log2_le_self _) (by omega))
  clear e1
  obtain ⟨w, rfl⟩ := Int.eq_ofNat_of_zero_le q0
  have o1 := okr_nat (n := w) (by omega)
  have M3 : Made lv n ch p l L A B S3 lv.length (2 + lv.length) refs os tbs rs cs := ⟨M1.tabs.fr f3 M1.ap.pA M1.ap.pB M1.ap.po, M1.good.fr f3 fun i hi e => M1.ap.xp (by rw [← e]; exact hi), po3, f3.at M1.hL M1.ap.pL, M1.ap, M1.len, M1.r0, M1.nAB, M1.nAL, M1.nBL, M1.nAl, M1.nBl, M1.oA, M1.oB⟩
  have fM3 := fM1.trans (f3.mono fun i _ h => .inr h)
  clear M1 f3 po3 fM1
  repeat (first | simp only [o1, if_true] | walk_at "ev0")
  generalize e : dLoop _ _ _ _ _ _ = r
  obtain ⟨ρ, S4, rfl, refs, os, tbs, rs, cs, v7, v8, rfl, M4, fM4, hos4⟩ := loop_idx_nx e (fun j ρ S2 => ∃ (refs : List Int) (os : List Nat) (tbs : List (List Bool)) (rs : List Row) (cs : List (Row × Int)) (v7 v8 : Option D), ρ = [some (.obj p), some (.obj n), some (.obj L), some (.int most), some (.int ((2 ^ lv.length : Nat) : Int)), some (.obj A), some (.obj B), v7, v8] ∧ Made lv n ch p l L A B S2 (lv.length + j * (3 * mT lv.length + 1)) (2 + lv.length + j) refs os tbs rs cs ∧ Fr (fun i => StX n ch i ∨ i = p) S S2 ∧ ∀ o ∈ os, S.length ≤ o)
    ⟨_, _, _, _, _, _, none, rfl, by rw [Nat.zero_mul]; exact M3, fM3, hos1⟩ (by
    rintro j d ρ S2 hd ⟨refs, os, tbs, rs, cs, v7, v8, rfl, M1, fM1, hos1⟩
    obtain ⟨hj, rfl⟩ := rng_get hd
    rw [Int.toNat_natCast] at hj
    refine ⟨_, rfl, ?_⟩
    clear e hd
    have hrl := M1.len
    have hol : os.length = refs.length := by rw [M1.tabs.l2, M1.tabs.l1]
    have c4 : refs.length < sizeLine := by omega
    have c5 : os.length < sizeLine := by omega
    have bj : j * (3 * mT lv.length + 1) ≤ 8 * 187 := Nat.mul_le_mul (by omega) (by omega)
    obtain ⟨r, o, S5, rs5, cs5, t, e5, Q⟩ := deed_ok M1.pool M1.good M1.hL asc (fun x hx => (h0 x hx).1) h5 M1.tabs M1.ap (by omega) (by omega) M1.r0 (by omega) hN
    have fX : ∀ {i : Nat}, ¬ StX n ch i → i ≠ p → ¬ (StX n ch i ∨ i = p) := fun h1 h2 z => by
      rcases z with z | z
      · exact h1 z
      · exact h2 z
    have hA5 := Q.fr.at M1.tabs.ra (fX M1.ap.xA M1.ap.pA)
    have hB5 : (S5.set A (.lst (refs.map D.int ++ [.int r])))[B]? = some (.lst (os.map D.obj)) := by
      rw [get_put_ne M1.nAB]; exact Q.fr.at M1.tabs.ta (fX M1.ap.xB M1.ap.pB)
    have MM := M1.push Q
    repeat (first | simp only [e5, hA5, hB5, List.length_map, if_pos c4, if_pos c5, if_true] | walk_at "ev0")
    exact ⟨_, _, _, _, _, _, _, rfl, by rw [Nat.succ_mul, ← Nat.add_assoc]; exact MM, ((fM1.trans Q.fr).set _ fun h => absurd h (by omega)).set _ fun h => absurd h (by omega), fun o ho => by
      rcases List.mem_append.mp ho with h | h
      · exact hos1 o h
      · rw [List.mem_singleton.mp h]; have := Q.new; have := fM1.len; omega⟩)
  clear e M3
  rw [rng_len, Int.toNat_natCast] at M4
  repeat (first | simp only [if_pos s2] | walk_at "ev0")
  have bj : w * (3 * mT lv.length + 1) ≤ 8 * 187 := Nat.mul_le_mul (by omega) (by omega)
  refine ⟨_, A, B, refs, os, tbs, _, rs, cs, _, rfl, Ev.appNew, ⟨M4.tabs.fr (Fr.refl.add (X := fun _ => False) _) (fun z => z) (fun z => z) (fun _ _ z => z), (M4.good.up (by omega)).fr (Fr.refl.add (X := fun _ => False) _) (fun _ _ z => z), M4.pool.add, (Fr.refl.add (X := fun _ => False) _).at M4.hL (fun z => z), M4.ap, M4.len, M4.r0, M4.nAB, M4.nAL, M4.nBL, M4.nAl, M4.nBl, M4.oA, M4.oB⟩, by omega, ?_, fM4.add _, by rw [← hAd]; exact fM4.len, Nat.le_refl _, hB0, by rw [← hAd]; exact hos4⟩
  have := M4.pool.lp
  omega
end

/-! ### while, with returns -/
def wBodyR (P : Env → Sto → Prop) (μ : Env → Sto → Nat) (Q : RS → Prop) (m : Nat) : RS → Prop
  | .nx ρ S => μ ρ S < m ∧ P ρ S
  | .ct ρ S => μ ρ S < m ∧ P ρ S
  | .rt d S => Q (.rt d S)
  | _ => False
def wStepR (P : Env → Sto → Prop) (μ : Env → Sto → Nat) (Q : RS → Prop) (m : Nat) (body : DS) (ρ : Env) : Res Bool → Prop
  | .ok true S1 => wBodyR P μ Q m (body ρ S1)
  | .ok false S1 => Q (.nx ρ S1)
  | _ => False
section
variable {P : Env → Sto → Prop} {μ : Env → Sto → Nat} {Q : RS → Prop} {m : Nat} {body : DS} {ρ : Env} {S : Sto}
theorem wStepR1 : wStepR P μ Q m body ρ (.ok true S) = wBodyR P μ Q m (body ρ S) := rfl
theorem wStepR2 : wStepR P μ Q m body ρ (.ok false S) = Q (.nx ρ S) := rfl
theorem wBodyR1 : wBodyR P μ Q m (.nx ρ S) = (μ ρ S < m ∧ P ρ S) := rfl
theorem wBodyR2 : wBodyR P μ Q m (.ct ρ S) = (μ ρ S < m ∧ P ρ S) := rfl
theorem wBodyR3 {d : D} : wBodyR P μ Q m (.rt d S) = Q (.rt d S) := rfl
end
theorem while_ret {t : DT} {body : DS} (P : Env → Sto → Prop) (μ : Env → Sto → Nat) (Q : RS → Prop) (turn : ∀ ρ S, P ρ S → wStepR P μ Q (μ ρ S) body ρ (t ρ S)) : ∀ {N : Nat} {ρ : Env} {S : Sto}, P ρ S → μ ρ S < N → Q (dWhile N t body ρ S)
  | 0, _, _, _, h => absurd h (Nat.not_lt_zero _)
  | N + 1, ρ, S, hp, hN => by
    have q := turn ρ S hp
    show Q (whT body (dWhile N t body) ρ (t ρ S))
    cases h : t ρ S with
    | ok b S1 =>
      rw [h] at q
      cases b with
      | false => exact q
      | true =>
        rw [wStepR1] at q
        show Q (whR (dWhile N t body) (body ρ S1))
        cases h2 : body ρ S1 with
        | nx ρ2 S2 => rw [h2] at q; exact while_ret P μ Q turn q.2 (by have := q.1; omega)
        | ct ρ2 S2 => rw [h2] at q; exact while_ret P μ Q turn q.2 (by have := q.1; omega)
        | rt d S2 => rw [h2] at q; exact q
        | _ => rw [h2] at q; exact q.elim
    | exc c fs S1 => rw [h] at q; exact q.elim
    | bad => rw [h] at q; exact q.elim

/-- what stands to be found -/
def left (K : Nat) (kvs : List (Key × D)) : Nat := ((List.range K).filter fun x => (getD kvs (.inl ((x : Nat) : Int))).isNone).length
theorem filter_lt {α : Type} {p q : α → Bool} : ∀ {l : List α} {a : α}, (∀ x, p x = true → q x = true) → a ∈ l → p a = false → q a = true → (l.filter p).length < (l.filter q).length
  | y :: r, a, h, ha, h1, h2 => by
    have mono : ∀ l : List α, (l.filter p).length ≤ (l.filter q).length := fun l => by
      induction l with
      | nil => exact Nat.le_refl _
      | cons z t ih =>
        rw [List.filter_cons, List.filter_cons]
        by_cases hz : p z = true
        · rw [if_pos hz, if_pos (h z hz)]; exact Nat.succ_le_succ ih
        · rw [if_neg hz]
          split
          · exact Nat.le_succ_of_le ih
          · exact ih
    rw [List.filter_cons, List.filter_cons]
    rcases List.mem_cons.mp ha with e | e
    · subst e
      rw [if_neg (by rw [h1]; decide), if_pos h2]
      exact Nat.lt_succ_of_le (mono r)
    · have ih := filter_lt h e h1 h2
      by_cases hz : p y = true
      · rw [if_pos hz, if_pos (h y hz)]; exact Nat.succ_lt_succ ih
      · rw [if_neg hz]
        split
        · exact Nat.lt_succ_of_lt ih
        · exact ih

/-! ### the nodes below -/
def phi (rs : List Row) (lv : List Int) (r : Int) : Nat := match lvl rs r with
  | some l => 2 ^ (rank lv l + 1) - 1
  | none => 0
def phiS (rs : List Row) (lv : List Int) (ws : List Int) : Nat := (ws.map (phi rs lv)).sum
theorem phiS_app {rs : List Row} {lv : List Int} (a b : List Int) : phiS rs lv (a ++ b) = phiS rs lv a + phiS rs lv b := by
  unfold phiS; rw [List.map_append, List.sum_append_nat]
theorem phiS_one {rs : List Row} {lv : List Int} (a : Int) : phiS rs lv [a] = phi rs lv a := by
  unfold phiS; simp
theorem phi_part {rs : List Row} {lv : List Int} {l r : Int} (ov : Ov lv rs r) (ha : Above rs l r) (hr : Rf rs r) : phi rs lv r + 1 ≤ 2 ^ rank lv l := by
  rcases hr.cases with rfl | rfl | ⟨i, q, rfl, hq⟩
  · unfold phi
    rw [lvl_const (by decide)]
    exact Nat.two_pow_pos _
  · unfold phi
    rw [lvl_const (by decide)]
    exact Nat.two_pow_pos _
  · have h1 := ha _ (lvl_node hq)
    have h2 := rank_less (lv := lv) h1 (ov _ (Rch.base (List.mem_singleton.mpr rfl)) q.1 (lvl_node hq))
    unfold phi
    rw [lvl_node hq]
    dsimp only
    have h3 : 2 ^ (rank lv q.1 + 1) ≤ 2 ^ rank lv l := Nat.pow_le_pow_right (by decide) h2
    have := Nat.two_pow_pos (rank lv q.1 + 1)
    omega
theorem phi_node {rs : List Row} {lv : List Int} (w : Wf rs) {i : Nat} {q : Row} (hq : rs[i]? = some q) (ov : Ov lv rs ((2 + i : Nat) : Int)) : phi rs lv q.2.1 + phi rs lv q.2.2 + 1 ≤ phi rs lv ((2 + i : Nat) : Int) := by
  have h1 := phi_part (ov.part (Rch.lo hq (Rch.base (List.mem_singleton.mpr rfl)))) (w.alo i q hq) (w.rlo hq)
  have h2 := phi_part (ov.part (Rch.hi hq (Rch.base (List.mem_singleton.mpr rfl)))) (w.ahi i q hq) (w.rhi hq)
  have e : phi rs lv ((2 + i : Nat) : Int) = 2 ^ (rank lv q.1 + 1) - 1 := by unfold phi; rw [lvl_node hq]
  rw [e, Nat.pow_succ]
  omega
theorem phi_le {rs : List Row} {lv : List Int} (h5 : lv.length ≤ 5) {r : Int} (ov : Ov lv rs r) (hr : Rf rs r) : phi rs lv r ≤ 31 := by
  have key : ∀ l ∈ lv, rank lv l + 1 ≤ lv.length := fun l hl => by
    unfold rank
    have := filter_lt (p := fun x => decide (l < x)) (q := fun _ => true) (l := lv) (a := l) (fun _ _ => rfl) hl (decide_eq_false (Int.lt_irrefl _)) rfl
    rw [List.filter_eq_self.mpr fun _ _ => rfl] at this
    exact this
  rcases hr.cases with rfl | rfl | ⟨i, q, rfl, hq⟩
  · unfold phi; rw [lvl_const (by decide)]; exact Nat.zero_le _
  · unfold phi; rw [lvl_const (by decide)]; exact Nat.zero_le _
  · unfold phi
    rw [lvl_node hq]
    have h1 : 2 ^ (rank lv q.1 + 1) ≤ 2 ^ 5 := Nat.pow_le_pow_right (by decide) (Nat.le_trans (key _ (ov _ (Rch.base (List.mem_singleton.mpr rfl)) q.1 (lvl_node hq))) h5)
    dsimp only
    omega
/-- the dict of what is seen -/
def sdD (ks : List Int) : List (Key × D) := ks.map fun k => (Sum.inl k, D.bl true)
theorem sdD_get (a : Int) : ∀ ks : List Int, getD (sdD ks) (.inl a) = if a ∈ ks then some (.bl true) else none
  | [] => rfl
  | k :: r => by
    unfold sdD
    rw [List.map_cons]
    by_cases h : k = a
    · rw [getD_pos (by show (Sum.inl k : Key) = .inl a; rw [h]), if_pos (by rw [h]; exact List.mem_cons_self)]
    · rw [getD_neg (fun e => h (Sum.inl.inj e))]
      have ih := sdD_get a r
      unfold sdD at ih
      rw [ih]
      by_cases h2 : a ∈ r
      · rw [if_pos h2, if_pos (List.mem_cons_of_mem _ h2)]
      · rw [if_neg h2, if_neg fun z => by rcases List.mem_cons.mp z with e | e; exact h e.symm; exact h2 e]
theorem sdD_put {a : Int} {ks : List Int} (h : a ∉ ks) : putD (sdD ks) (.inl a) (.bl true) = sdD (ks ++ [a]) := by
  unfold putD
  have e : ((sdD ks).any fun p => decide (p.1 = Sum.inl a)) = false := by
    rw [Bool.eq_false_iff]
    intro z
    have g := sdD_get a ks
    rw [if_neg h] at g
    unfold getD at g
    rw [Option.map_eq_none_iff, List.find?_eq_none] at g
    obtain ⟨p, hp, hq⟩ := List.any_eq_true.mp z
    exact g p hp hq
  rw [if_neg (by rw [e]; decide)]
  unfold sdD
  rw [List.map_append]; rfl
theorem sdD_ints : ∀ ks : List Int, keyInts (sdD ks) = some ks
  | [] => rfl
  | k :: r => by
    show (keyInts (sdD r)).map (k :: ·) = _
    rw [sdD_ints r]; rfl
def InB (ks ws : List Int) (r : Int) : Prop := r < 2 ∨ r ∈ ks ∨ r ∈ ws
theorem Rch.ov {rs : List Row} {lv refs : List Int} (ovr : ∀ r ∈ refs, Ov lv rs r) {x : Int} (h : Rch rs refs x) : Ov lv rs x := by
  induction h with
  | base h => exact ovr _ h
  | lo hq _ ih => exact ih.part (Rch.lo hq (Rch.base (List.mem_singleton.mpr rfl)))
  | hi hq _ ih => exact ih.part (Rch.hi hq (Rch.base (List.mem_singleton.mpr rfl)))
structure Below (rs : List Row) (lv : List Int) (T : Int → Bool) (ψ : Int → Nat) (refs ks ws : List Int) : Prop where
  kr : ∀ k ∈ ks, 2 ≤ k ∧ Rf rs k
  wr : ∀ w ∈ ws, Rf rs w
  nd : ks.Nodup
  cl : ∀ (i : Nat) (q : Row), rs[i]? = some q → ((2 + i : Nat) : Int) ∈ ks → InB ks ws q.2.1 ∧ InB ks ws q.2.2
  rf : ∀ r ∈ refs, InB ks ws r
  sz : ks.length + phiS rs lv ws ≤ phiS rs lv refs
  s3 : (ks.filter T).length + (ws.map ψ).sum ≤ (refs.map ψ).sum
  ck : ∀ k ∈ ks, Rch rs refs k
  cw : ∀ w ∈ ws, Rch rs refs w
section
variable {rs : List Row} {lv refs ks ws : List Int} {T : Int → Bool} {ψ : Int → Nat}
theorem Below.skip {a : Int} (h : Below rs lv T ψ refs ks (ws ++ [a])) (e : a < 2 ∨ a ∈ ks) : Below rs lv T ψ refs ks ws := by
  have ok : ∀ r, InB ks (ws ++ [a]) r → InB ks ws r := fun r hr => by
    rcases hr with k | k | k
    · exact .inl k
    · exact .inr (.inl k)
    · rcases List.mem_append.mp k with k | k
      · exact .inr (.inr k)
      · rw [List.mem_singleton.mp k]
        rcases e with e | e
        · exact .inl e
        · exact .inr (.inl e)
  have sz := h.sz
  rw [phiS_app] at sz
  have s3 := h.s3
  rw [List.map_append, List.sum_append_nat] at s3
  exact ⟨h.kr, fun w hw => h.wr w (List.mem_append_left _ hw), h.nd, fun i q hq hk => ⟨ok _ (h.cl i q hq hk).1, ok _ (h.cl i q hq hk).2⟩, fun r hr => ok _ (h.rf r hr), by omega, by omega, h.ck, fun w hw => h.cw w (List.mem_append_left _ hw)⟩
theorem Below.push (w : Wf rs) (ovr : ∀ r ∈ refs, Ov lv rs r) (hψ : ∀ (i : Nat) (q : Row), rs[i]? = some q → Rch rs refs ((2 + i : Nat) : Int) → ψ q.2.1 + ψ q.2.2 + (if T ((2 + i : Nat) : Int) = true then 1 else 0) ≤ ψ ((2 + i : Nat) : Int)) {i : Nat} {q : Row} (hq : rs[i]? = some q) (h : Below rs lv T ψ refs ks (ws ++ [((2 + i : Nat) : Int)])) (e : ((2 + i : Nat) : Int) ∉ ks) :
    Below rs lv T ψ refs (ks ++ [((2 + i : Nat) : Int)]) (ws ++ [q.2.1] ++ [q.2.2]) := by
  have ok : ∀ r, InB ks (ws ++ [((2 + i : Nat) : Int)]) r → InB (ks ++ [((2 + i : Nat) : Int)]) (ws ++ [q.2.1] ++ [q.2.2]) r := fun r hr => by
    rcases hr with k | k | k
    · exact .inl k
    · exact .inr (.inl (List.mem_append_left _ k))
    · rcases List.mem_append.mp k with k | k
      · exact .inr (.inr (List.mem_append_left _ (List.mem_append_left _ k)))
      · exact .inr (.inl (List.mem_append_right _ k))
  have hc := h.cw _ (List.mem_append_right _ (List.mem_singleton.mpr rfl))
  have ph := phi_node w hq (Rch.ov ovr hc)
  have sz := h.sz
  rw [phiS_app, phiS_one] at sz
  have s3 := h.s3
  have hp := hψ i q hq hc
  rw [List.map_append, List.sum_append_nat] at s3
  have s3 : (ks.filter T).length + ((ws.map ψ).sum + (ψ ((2 + i : Nat) : Int) + 0)) ≤ (refs.map ψ).sum := s3
  refine ⟨fun k hk => ?_, fun r hr => ?_, ?_, fun i' q' hq' hk => ?_, fun r hr => ok _ (h.rf r hr), ?_, ?_, fun k hk => ?_, fun r hr => ?_⟩
  · rcases List.mem_append.mp hk with hk | hk
    · exact h.kr k hk
    · rw [List.mem_singleton.mp hk]; exact ⟨by omega, Rf.node hq⟩
  · rcases List.mem_append.mp hr with hr | hr
    · rcases List.mem_append.mp hr with hr | hr
      · exact h.wr r (List.mem_append_left _ hr)
      · rw [List.mem_singleton.mp hr]; exact w.rlo hq
    · rw [List.mem_singleton.mp hr]; exact w.rhi hq
  · refine List.nodup_append.mpr ⟨h.nd, List.pairwise_singleton _ _, fun x hx y hy => ?_⟩
    rw [List.mem_singleton.mp hy]
    intro z
    exact e (by rw [← z]; exact hx)
  · rcases List.mem_append.mp hk with hk | hk
    · exact ⟨ok _ (h.cl i' q' hq' hk).1, ok _ (h.cl i' q' hq' hk).2⟩
    · have hk := List.mem_singleton.mp hk
      have : i' = i := by omega
      subst this
      rw [hq] at hq'
      cases Option.some.inj hq'
      exact ⟨.inr (.inr (by simp)), .inr (.inr (by simp))⟩
  · rw [phiS_app, phiS_app, phiS_one, phiS_one, List.length_append, List.length_singleton]
    omega
  · rw [List.map_append, List.map_append, List.sum_append_nat, List.sum_append_nat, List.filter_append, List.length_append]
    show (ks.filter T).length + ([((2 + i : Nat) : Int)].filter T).length + ((ws.map ψ).sum + (ψ q.2.1 + 0) + (ψ q.2.2 + 0)) ≤ _
    have e : ([((2 + i : Nat) : Int)].filter T).length = if T ((2 + i : Nat) : Int) = true then 1 else 0 := by
      rw [List.filter_cons]
      split <;> rfl
    rw [e]
    omega
  · rcases List.mem_append.mp hk with hk | hk
    · exact h.ck k hk
    · rw [List.mem_singleton.mp hk]; exact hc
  · rcases List.mem_append.mp hr with hr | hr
    · rcases List.mem_append.mp hr with hr | hr
      · exact h.cw r (List.mem_append_left _ hr)
      · rw [List.mem_singleton.mp hr]; exact Rch.lo hq hc
    · rw [List.mem_singleton.mp hr]; exact Rch.hi hq hc
end
/-- what nodes_below tells -/
structure BelowR (rs : List Row) (refs ns : List Int) : Prop where
  asc : ns.Pairwise (· < ·)
  kr : ∀ k ∈ ns, 2 ≤ k ∧ Rf rs k
  cl : ∀ (i : Nat) (q : Row), rs[i]? = some q → ((2 + i : Nat) : Int) ∈ ns → (q.2.1 < 2 ∨ q.2.1 ∈ ns) ∧ (q.2.2 < 2 ∨ q.2.2 ∈ ns)
  rf : ∀ r ∈ refs, r < 2 ∨ r ∈ ns
  len : ns.length < 64
  rc : ∀ k ∈ ns, Rch rs refs k
theorem Below.done {rs : List Row} {lv refs ks : List Int} {T : Int → Bool} {ψ : Int → Nat} (h : Below rs lv T ψ refs ks []) (hs : ∀ ks : List Int, ks.Nodup → (∀ k ∈ ks, 2 ≤ k ∧ Rf rs k) → (ks.filter T).length ≤ (refs.map ψ).sum → ks.length < 64) : BelowR rs refs (sortI ks) := by
  have p : (sortI ks).Perm ks := List.mergeSort_perm _ _
  have s : (sortI ks).Pairwise (· ≤ ·) := by
    have := List.pairwise_mergeSort (le := fun a b : Int => decide (a ≤ b)) (fun a b c h1 h2 => by rw [decide_eq_true_eq] at *; omega) (fun a b => by rw [Bool.or_eq_true, decide_eq_true_eq, decide_eq_true_eq]; omega) ks
    exact this.imp fun h => by rw [decide_eq_true_eq] at h; exact h
  have nd : (sortI ks).Nodup := p.nodup_iff.mpr h.nd
  have ok : ∀ r, InB ks [] r → r < 2 ∨ r ∈ sortI ks := fun r hr => by
    rcases hr with k | k | k
    · exact .inl k
    · exact .inr (p.mem_iff.mpr k)
    · cases k
  refine ⟨?_, fun k hk => h.kr k (p.mem_iff.mp hk), fun i q hq hk => ⟨ok _ (h.cl i q hq (p.mem_iff.mp hk)).1, ok _ (h.cl i q hq (p.mem_iff.mp hk)).2⟩, fun r hr => ok _ (h.rf r hr), ?_, fun k hk => h.ck k (p.mem_iff.mp hk)⟩
  · exact (List.Pairwise.and s nd).imp fun ⟨h1, h2⟩ => by omega
  · rw [p.length_eq]
    exact hs ks h.nd h.kr (by have := h.s3; exact Nat.le_trans (Nat.le_add_right _ _) this)
section
variable {S : Sto} {n ch N : Nat} {rs : List Row} {cs : List (List Key × D)} {lv refs : List Int}
def mu (rs : List Row) (lv : List Int) : List D → Nat
  | [] => 0
  | .int i :: r => 2 * phi rs lv i + 1 + mu rs lv r
  | _ :: r => mu rs lv r
theorem mu_ints : ∀ ws : List Int, mu rs lv (ws.map D.int) = 2 * phiS rs lv ws + ws.length
  | [] => rfl
  | w :: r => by
    show 2 * phi rs lv w + 1 + mu rs lv (r.map D.int) = _
    rw [mu_ints r, List.length_cons]
    unfold phiS
    rw [List.map_cons, List.sum_cons]
    omega
theorem below_ok (st : StAt S n rs ch cs) (w : Wf rs) (ovr : ∀ r ∈ refs, Ov lv rs r) {R : Nat} (hR : S[R]? = some (.lst (refs.map D.int))) (hr : ∀ r ∈ refs, Rf rs r) {T : Int → Bool} {ψ : Int → Nat} (hψ : ∀ (i : Nat) (q : Row), rs[i]? = some q → Rch rs refs ((2 + i : Nat) : Int) → ψ q.2.1 + ψ q.2.2 + (if T ((2 + i : Nat) : Int) = true then 1 else 0) ≤ ψ ((2 + i : Nat) : Int)) (hs : ∀ ks : List Int, ks.Nodup → (∀ k ∈ ks, 2 ≤ k ∧ Rf rs k) → (ks.filter T).length ≤ (refs.map ψ).sum → ks.length < 64) (hs2 : phiS rs lv refs ≤ 400) (hl : refs.length < 1000) (hN : 2000 ≤ N) :
    ∃ (Y : Nat) (ns : List Int) (S' : Sto), h_Store_nodes_below_all N [.obj n, .obj R] S = .ok (.obj Y) S' ∧ S'[Y]? = some (.lst (ns.map D.int)) ∧ BelowR rs refs ns ∧ Fr (fun _ => False) S S' ∧ S.length ≤ Y := by
  have sl := sizeLine_eq
  have c0 : refs.length ≤ sizeLine := by omega
  unfold h_Store_nodes_below_all
  walk_at "env"
  unfold b_Store_nodes_below_all
  have hR1 : (S ++ [Ob.dk []])[R]? = some (.lst (refs.map D.int)) := by rw [List.getElem?_append_left (lt_of_get hR)]; exact hR
  repeat (first | simp only [hR1, List.length_map, if_pos c0] | walk_at "ev0")
  have hD0 : (S ++ [Ob.dk []] ++ [Ob.lst (refs.map D.int)])[S.length]? = some (.dk (sdD [])) := by
    rw [List.append_assoc]; exact ap_get0
  have hW0 : (S ++ [Ob.dk []] ++ [Ob.lst (refs.map D.int)])[S.length + 1]? = some (.lst (refs.map D.int)) := by
    rw [List.append_assoc]; exact ap_get (i := 1)
  have f0 : Fr (fun _ => False) S (S ++ [Ob.dk []] ++ [Ob.lst (refs.map D.int)]) := (Fr.refl.add _).add _
  generalize S ++ [Ob.dk []] ++ [Ob.lst (refs.map D.int)] = S1 at *
  have nDW : S.length + 1 ≠ S.length := by omega
  have B0 : Below rs lv T ψ refs [] refs := ⟨fun k hk => (by cases hk), hr, List.nodup_nil, fun i q hq hk => (by cases hk), fun r h => .inr (.inr h), (by show 0 + _ ≤ _; omega), (by show 0 + _ ≤ _; omega), fun k hk => (by cases hk), fun w hw => Rch.base hw⟩
  refine while_ret (fun ρ S' => ∃ (v4 : Option D) (ks ws : List Int), ρ = [some (.obj n), some (.obj R), some (.obj S.length), some (.obj (S.length + 1)), v4] ∧ S'[S.length]? = some (.dk (sdD ks)) ∧ S'[S.length + 1]? = some (.lst (ws.map D.int)) ∧ Fr (fun _ => False) S S' ∧ Below rs lv T ψ refs ks ws ∧ ws.length ≤ refs.length + 2 * ks.length)
    (fun _ S' => match S'[S.length + 1]? with | some (.lst w) => mu rs lv w | _ => 0)
    (fun r => ∃ (Y : Nat) (ns : List Int) (S' : Sto), endR (seqR (dRet (eCall dSortedDI (eCons (eV 2) eNil))) r) = .ok (.obj Y) S' ∧ S'[Y]? = some (.lst (ns.map D.int)) ∧ BelowR rs refs ns ∧ Fr (fun _ => False) S S' ∧ S.length ≤ Y) ?_
    ⟨none, [], refs, rfl, hD0, hW0, f0, B0, by omega⟩ (by
      rw [hW0]
      show mu rs lv (refs.map D.int) < N
      rw [mu_ints]
      omega)
  clear hD0 hW0 f0 B0
  rintro ρ S' ⟨v4, ks, ws, rfl, hD, hW, fr, h, b1⟩
  rw [hW]
  dsimp only
  have hk := h.sz
  rcases List.eq_nil_or_concat ws with rfl | ⟨us, c, rfl⟩
  · repeat (first | simp only [hW, List.map_nil, wStepR2] | walk_at "ev0")
    have hd := h.done hs
    have l1 : (sortI ks).length = ks.length := (List.mergeSort_perm _ _).length_eq
    have l2 : ks.length < 64 := by rw [← l1]; exact hd.len
    have l3 : (sortI ks).length ≤ sizeLine := by omega
    repeat (first | simp only [hD, Option.bind_some, sdD_ints, if_pos l2, List.length_map, if_pos l3] | walk_at "ev0")
    exact ⟨_, _, _, rfl, Ev.appNew, hd, fr.add _, fr.len⟩
  · rw [List.concat_eq_append] at *
    have ew : (us ++ [c]).map D.int = us.map D.int ++ [D.int c] := by rw [List.map_append]; rfl
    rw [mu_ints, phiS_app, phiS_one, List.length_append, List.length_singleton]
    rw [ew] at hW
    rw [List.length_append, List.length_singleton] at b1
    have ep := pop_ok hW
    have tr : ∀ l : List D, ∀ d : D, (l ++ [d]).isEmpty = false := fun l d => by cases l <;> rfl
    have eg := sdD_get c ks
    obtain ⟨S2, hS2⟩ : ∃ S2, S'.set (S.length + 1) (.lst (us.map D.int)) = S2 := ⟨_, rfl⟩
    have f2 : Fr (fun _ => False) S S2 := by rw [← hS2]; exact fr.set _ fun h => absurd h (by omega)
    have hD2 : S2[S.length]? = some (.dk (sdD ks)) := by rw [← hS2, get_put_ne nDW]; exact hD
    have hW2 : S2[S.length + 1]? = some (.lst (us.map D.int)) := by rw [← hS2]; exact get_put hW
    rw [hS2] at ep
    by_cases hc : c > 1
    · by_cases hm : c ∈ ks
      · rw [if_pos hm] at eg
        have h2 := h.skip (.inr hm)
        repeat (first | simp only [hW, tr, wStepR1, ep, decide_eq_true hc, hD2, eg] | walk_at "ev0")
        rw [wBodyR1]
        refine ⟨?_, _, ks, us, rfl, hD2, hW2, f2, h2, by omega⟩
        rw [hW2]
        dsimp only
        rw [mu_ints]
        omega
      · rw [if_neg hm] at eg
        obtain ⟨i, q, rfl, hq⟩ : ∃ (i : Nat) (q : Row), c = ((2 + i : Nat) : Int) ∧ rs[i]? = some q := by
          rcases (h.wr c (List.mem_append_right _ List.mem_cons_self)).cases with k | k | k
          · omega
          · omega
          · exact k
        have h2 := h.push w ovr hψ hq hm
        have ph := phi_node w hq (Rch.ov ovr (h.cw _ (List.mem_append_right _ List.mem_cons_self)))
        have h3 := h2.sz
        rw [List.length_append, List.length_singleton] at h3
        have ept := sdD_put hm
        have l2 := loD_at hq
        have l3 := hiD_at hq
        have sdl : (sdD ks).length = ks.length := by unfold sdD; rw [List.length_map]
        have c1 : (sdD ks).length < sizeLine := by rw [sdl]; omega
        have c2 : (us.map D.int).length < sizeLine := by rw [List.length_map]; omega
        have c2' : us.length < sizeLine := by omega
        have c3' : us.length + 1 < sizeLine := by omega
        have c3'' : (us ++ [q.2.1]).length < sizeLine := by rw [List.length_append, List.length_singleton]; omega
        have c1' : ks.length < sizeLine := by omega
        have c3 : ((us ++ [q.2.1]).map D.int).length < sizeLine := by rw [List.length_map, List.length_append, List.length_singleton]; omega
        obtain ⟨S3, hS3⟩ : ∃ S3, S2.set S.length (.dk (sdD (ks ++ [((2 + i : Nat) : Int)]))) = S3 := ⟨_, rfl⟩
        have f3 : Fr (fun _ => False) S S3 := by rw [← hS3]; exact f2.set _ fun h => absurd h (Nat.lt_irrefl _)
        have hD3 : S3[S.length]? = some (.dk (sdD (ks ++ [((2 + i : Nat) : Int)]))) := by rw [← hS3]; exact get_put hD2
        have hW3 : S3[S.length + 1]? = some (.lst (us.map D.int)) := by rw [← hS3, get_put_ne (by omega)]; exact hW2
        have g3 := st.fr f3 (fun _ _ z => z)
        have ea1 : us.map D.int ++ [D.int q.2.1] = (us ++ [q.2.1]).map D.int := by rw [List.map_append]; rfl
        have ea2 : (us ++ [q.2.1]).map D.int ++ [D.int q.2.2] = (us ++ [q.2.1] ++ [q.2.2]).map D.int := by rw [List.map_append (l₂ := [q.2.2])]; rfl
        obtain ⟨S4, hS4⟩ : ∃ S4, S3.set (S.length + 1) (.lst ((us ++ [q.2.1]).map D.int)) = S4 := ⟨_, rfl⟩
        have f4 : Fr (fun _ => False) S S4 := by rw [← hS4]; exact f3.set _ fun h => absurd h (by omega)
        have hD4 : S4[S.length]? = some (.dk (sdD (ks ++ [((2 + i : Nat) : Int)]))) := by rw [← hS4, get_put_ne (by omega)]; exact hD3
        have hW4 : S4[S.length + 1]? = some (.lst ((us ++ [q.2.1]).map D.int)) := by rw [← hS4]; exact get_put hW3
        have g4 := st.fr f4 (fun _ _ z => z)
        obtain ⟨S5, hS5⟩ : ∃ S5, S4.set (S.length + 1) (.lst ((us ++ [q.2.1] ++ [q.2.2]).map D.int)) = S5 := ⟨_, rfl⟩
        have f5 : Fr (fun _ => False) S S5 := by rw [← hS5]; exact f4.set _ fun h => absurd h (by omega)
        have hD5 : S5[S.length]? = some (.dk (sdD (ks ++ [((2 + i : Nat) : Int)]))) := by rw [← hS5, get_put_ne (by omega)]; exact hD4
        have hW5 : S5[S.length + 1]? = some (.lst ((us ++ [q.2.1] ++ [q.2.2]).map D.int)) := by rw [← hS5]; exact get_put hW4
        repeat (first | simp only [hW, tr, wStepR1, ep, decide_eq_true hc, hD2, eg, ept, if_pos c1, hS3, g3.ob, g3.lo, st_lows, st_highs, l2, l3, hW3, if_pos c2, ea1, hS4, g4.ob, g4.hi, hW4, if_pos c3, ea2, hS5, List.length_map, if_pos c2', if_pos c3', if_pos c3''] | walk_at "ev0")
        rw [wBodyR1]
        refine ⟨?_, _, _, us ++ [q.2.1] ++ [q.2.2], rfl, hD5, hW5, f5, h2, ?_⟩
        · rw [hW5]
          dsimp only
          rw [mu_ints, phiS_app, phiS_app, phiS_one, phiS_one, List.length_append, List.length_append, List.length_singleton, List.length_singleton]
          omega
        · rw [List.length_append, List.length_append, List.length_append, List.length_singleton, List.length_singleton, List.length_singleton]
          omega
    · have h2 := h.skip (.inl (by omega))
      repeat (first | simp only [hW, tr, wStepR1, ep, decide_eq_false hc] | walk_at "ev0")
      rw [wBodyR1]
      refine ⟨?_, _, ks, us, rfl, hD2, hW2, f2, h2, by omega⟩
      rw [hW2]
      dsimp only
      rw [mu_ints]
      omega
end

/-! ### masses -/
/-- the mass of what f holds for, over the chances cs of the levels from l on -/
def Ex : List Rat → Int → ((Int → Bool) → Bool) → (Int → Bool) → Rat
  | [], _, f, β => if f β = true then 1 else 0
  | c :: cs, l, f, β => (1 - c) * Ex cs (l + 1) f (bput β l false) + c * Ex cs (l + 1) f (bput β l true)
theorem mix_one (c a : Rat) : (1 - c) * a + c * a = a := by
  rw [← Rat.add_mul, Rat.sub_add_cancel, Rat.one_mul]
theorem mix_mix (c d p q r s : Rat) : (1 - c) * ((1 - d) * p + d * q) + c * ((1 - d) * r + d * s) = (1 - d) * ((1 - c) * p + c * r) + d * ((1 - c) * q + c * s) := by
  grind
/-- f is told by the levels of an assignment apart from x -/
def FreeOf (f : (Int → Bool) → Bool) (x : Int) : Prop := ∀ β b, f (bput β x b) = f β
theorem bput_comm {β : Int → Bool} {x y : Int} {a b : Bool} (h : x ≠ y) : bput (bput β x a) y b = bput (bput β y b) x a := by
  funext k
  unfold bput
  by_cases h1 : k = y
  · rw [if_pos h1, if_neg (by omega), if_pos h1]
  · rw [if_neg h1]
    by_cases h2 : k = x
    · rw [if_pos h2, if_pos h2]
    · rw [if_neg h2, if_neg h2, if_neg h1]
theorem Ex.free {f : (Int → Bool) → Bool} {x : Int} (hf : FreeOf f x) (b : Bool) : ∀ (cs : List Rat) (l : Int) (β : Int → Bool), x < l → Ex cs l f (bput β x b) = Ex cs l f β
  | [], l, β, _ => by unfold Ex; rw [hf]
  | c :: cs, l, β, h => by
    unfold Ex
    rw [bput_comm (by omega), bput_comm (β := β) (x := x) (y := l) (by omega), Ex.free hf b cs (l + 1) _ (by omega), Ex.free hf b cs (l + 1) _ (by omega)]
theorem Ex.same {f g : (Int → Bool) → Bool} {x : Int} {b : Bool} (h : ∀ β, β x = b → f β = g β) : ∀ (cs : List Rat) (l : Int) (β : Int → Bool), x < l → β x = b → Ex cs l f β = Ex cs l g β
  | [], l, β, _, e => by unfold Ex; rw [h β e]
  | c :: cs, l, β, hl, e => by
    have hx : ∀ d, bput β l d x = b := fun d => by unfold bput; rw [if_neg (by omega)]; exact e
    unfold Ex
    rw [Ex.same h cs (l + 1) _ (by omega) (hx _), Ex.same h cs (l + 1) _ (by omega) (hx _)]
/-- a node's mass -/
theorem Ex.node {f g h : (Int → Bool) → Bool} {x : Int} (e : ∀ β, f β = if β x = true then g β else h β) (hg : FreeOf g x) (hh : FreeOf h x) : ∀ (cs : List Rat) (l : Int) (β : Int → Bool) (k : Nat) (c : Rat), x = l + (k : Int) → cs[k]? = some c → Ex cs l f β = (1 - c) * Ex cs l h β + c * Ex cs l g β
  | [], l, β, k, c, _, hk => by cases hk
  | d :: cs, l, β, 0, c, hx, hk => by
    cases Option.some.inj hk
    have hx : x = l := by omega
    subst hx
    have t1 : bput β x true x = true := if_pos rfl
    have t2 : bput β x false x = false := if_pos rfl
    show (1 - d) * Ex cs (x + 1) f (bput β x false) + d * Ex cs (x + 1) f (bput β x true) = _
    rw [Ex.same (f := f) (g := g) (x := x) (b := true) (fun β hb => by rw [e, hb]; rfl) cs (x + 1) _ (by omega) t1, Ex.same (f := f) (g := h) (x := x) (b := false) (fun β hb => by rw [e, hb]; rfl) cs (x + 1) _ (by omega) t2]
    have k1 : ∀ (f : (Int → Bool) → Bool), FreeOf f x → Ex (d :: cs) x f β = Ex cs (x + 1) f β := fun f hf => by
      show (1 - d) * Ex cs (x + 1) f (bput β x false) + d * Ex cs (x + 1) f (bput β x true) = _
      rw [Ex.free hf false cs (x + 1) β (by omega), Ex.free hf true cs (x + 1) β (by omega), mix_one]
    rw [k1 g hg, k1 h hh, Ex.free hg true cs (x + 1) β (by omega), Ex.free hh false cs (x + 1) β (by omega)]
  | d :: cs, l, β, k + 1, c, hx, hk => by
    have hk : cs[k]? = some c := hk
    have ih := fun β => Ex.node e hg hh cs (l + 1) β k c (by omega) hk
    show (1 - d) * Ex cs (l + 1) f (bput β l false) + d * Ex cs (l + 1) f (bput β l true) = _
    rw [ih, ih, mix_mix]
    rfl
/-- the mass of a reference -/
def massR (rs : List Row) (cs : List Rat) (r : Int) : Rat := Ex cs 0 (fun β => val rs β r) fun _ => false
theorem Ex.const {f : (Int → Bool) → Bool} {b : Bool} (h : ∀ β, f β = b) : ∀ (cs : List Rat) (l : Int) (β : Int → Bool), Ex cs l f β = if b = true then 1 else 0
  | [], l, β => by unfold Ex; rw [h]
  | c :: cs, l, β => by unfold Ex; rw [Ex.const h cs, Ex.const h cs, mix_one]
theorem massR.zero {rs : List Row} {cs : List Rat} : massR rs cs 0 = 0 := Ex.const (b := false) (fun _ => val_zero) _ _ _
theorem massR.one {rs : List Row} {cs : List Rat} : massR rs cs 1 = 1 := Ex.const (b := true) (fun _ => val_one) _ _ _
theorem massR.node {rs : List Row} (w : Wf rs) {cs : List Rat} {i k : Nat} {q : Row} (hq : rs[i]? = some q) {c : Rat} (hk : q.1 = (k : Int)) (hc : cs[k]? = some c) : massR rs cs ((2 + i : Nat) : Int) = (1 - c) * massR rs cs q.2.1 + c * massR rs cs q.2.2 :=
  Ex.node (x := q.1) (fun β => val_node w hq β) (fun β b => val_bput w (w.rhi hq) (w.ahi i q hq) β b) (fun β b => val_bput w (w.rlo hq) (w.alo i q hq) β b) cs 0 _ k c (by omega) hc

theorem checked_ok (i : Nat) (S : Sto) : h_checked_node [.int ((2 + i : Nat) : Int)] S = .ok (.int ((2 + i : Nat) : Int)) S := by
  unfold h_checked_node
  walk_at "env"
  unfold b_checked_node
  have e : ¬ ((2 + i : Nat) : Int) < 2 := by omega
  repeat (first | simp only [decide_eq_false e] | walk_at "ev0")
theorem checked_no {a : Int} (ha : a < 2) (S : Sto) : h_checked_node [.int a] S = .exc "NotANode" [] S := by
  unfold h_checked_node
  walk_at "env"
  unfold b_checked_node
  repeat (first | simp only [decide_eq_true ha] | walk_at "ev0")
section
variable {S : Sto} {n ch : Nat} {rs : List Row} {cs : List (List Key × D)} {i : Nat} {q : Row}
theorem low_ok (h : StAt S n rs ch cs) (hi : rs[i]? = some q) : h_Store_low [.obj n, .int ((2 + i : Nat) : Int)] S = .ok (.int q.2.1) S := by
  unfold h_Store_low
  walk_at "env"
  unfold b_Store_low
  repeat (first | simp only [h.ob, h.lo, st_lows, checked_ok, loD_at hi] | walk_at "ev0")
theorem high_ok (h : StAt S n rs ch cs) (hi : rs[i]? = some q) : h_Store_high [.obj n, .int ((2 + i : Nat) : Int)] S = .ok (.int q.2.2) S := by
  unfold h_Store_high
  walk_at "env"
  unfold b_Store_high
  repeat (first | simp only [h.ob, h.hi, st_highs, checked_ok, hiD_at hi] | walk_at "ev0")
theorem low_no (h : StAt S n rs ch cs) {a : Int} (ha : a < 2) : h_Store_low [.obj n, .int a] S = .exc "NotANode" [] S := by
  unfold h_Store_low
  walk_at "env"
  unfold b_Store_low
  repeat (first | simp only [h.ob, h.lo, st_lows, checked_no ha] | walk_at "ev0")
theorem high_no (h : StAt S n rs ch cs) {a : Int} (ha : a < 2) : h_Store_high [.obj n, .int a] S = .exc "NotANode" [] S := by
  unfold h_Store_high
  walk_at "env"
  unfold b_Store_high
  repeat (first | simp only [h.ob, h.hi, st_highs, checked_no ha] | walk_at "ev0")
end

/-! ### reading a dict that has been written to -/
theorem getD_snoc {k k' : Key} {d : D} : ∀ {kvs : List (Key × D)}, getD (kvs ++ [(k, d)]) k' = (getD kvs k').or (if k = k' then some d else none)
  | [] => by
    by_cases h : k = k'
    · rw [if_pos h, List.nil_append, getD_pos (p := (k, d)) h]; rfl
    · rw [if_neg h, List.nil_append, getD_neg (p := (k, d)) h]; rfl
  | p :: r => by
    by_cases h : p.1 = k'
    · rw [List.cons_append, getD_pos h, getD_pos h]; rfl
    · rw [List.cons_append, getD_neg h, getD_neg h, getD_snoc]
theorem getD_map {k k' : Key} {d : D} : ∀ {kvs : List (Key × D)}, getD (kvs.map fun p => if p.1 = k then (p.1, d) else p) k' = if k = k' then (if (kvs.any fun p => decide (p.1 = k)) = true then some d else none) else getD kvs k'
  | [] => by
    by_cases h : k = k'
    · rw [if_pos h]; rfl
    · rw [if_neg h]; rfl
  | p :: r => by
    rw [List.map_cons]
    by_cases h1 : p.1 = k
    · rw [if_pos h1]
      by_cases h : k = k'
      · rw [getD_pos (p := (p.1, d)) (h1.trans h), if_pos h, if_pos (by simp [h1])]
      · have hn : ¬ p.1 = k' := fun z => h (h1.symm.trans z)
        rw [getD_neg (p := (p.1, d)) hn, getD_map, if_neg h, if_neg h, getD_neg hn]
    · rw [if_neg h1]
      by_cases h : k = k'
      · have hn : ¬ p.1 = k' := fun z => h1 (z.trans h.symm)
        rw [getD_neg hn, getD_map, if_pos h, if_pos h, List.any_cons, decide_eq_false h1, Bool.false_or]
      · rw [if_neg h]
        by_cases h2 : p.1 = k'
        · rw [getD_pos h2, getD_pos h2]
        · rw [getD_neg h2, getD_neg h2, getD_map, if_neg h]
theorem getD_none {k : Key} : ∀ {kvs : List (Key × D)}, (kvs.any fun p => decide (p.1 = k)) = false → getD kvs k = none
  | [], _ => rfl
  | p :: r, h => by
    rw [List.any_cons, Bool.or_eq_false_iff] at h
    rw [getD_neg (of_decide_eq_false h.1), getD_none h.2]
theorem getD_putD {kvs : List (Key × D)} {k k' : Key} {d : D} : getD (putD kvs k d) k' = if k = k' then some d else getD kvs k' := by
  unfold putD
  split
  · rename_i h
    rw [getD_map, if_pos h]
  · rename_i h
    have hn := getD_none (Bool.eq_false_iff.mpr h)
    rw [getD_snoc]
    by_cases e : k = k'
    · rw [if_pos e, if_pos e, ← e, hn]; rfl
    · rw [if_neg e, if_neg e]
      cases getD kvs k' <;> rfl

theorem mem_take {ns : List Int} (asc : ns.Pairwise (· < ·)) {i : Nat} {x y : Int} (hy : ns[i]? = some y) (hx : x ∈ ns) (h : x < y) : x ∈ ns.take i := by
  obtain ⟨j, hj⟩ := List.mem_iff_getElem?.mp hx
  have li := lt_of_get hy
  have lj := lt_of_get hj
  have e1 := List.getElem?_eq_getElem li
  have e2 := List.getElem?_eq_getElem lj
  rw [hy] at e1
  rw [hj] at e2
  have hji : j < i := by
    apply Classical.byContradiction
    intro hn
    by_cases e : j = i
    · subst e
      rw [hy] at hj
      cases Option.some.inj hj
      omega
    · have := List.pairwise_iff_getElem.mp asc i j li lj (by omega)
      rw [← Option.some.inj e1, ← Option.some.inj e2] at this
      omega
  refine List.mem_iff_getElem?.mpr ⟨j, ?_⟩
  rw [List.getElem?_take, if_pos hji, hj]

/-! ### nodes_below() and restrict() -/
section
variable {lv : List Int} {n ch b N : Nat} {S : Sto} {rs : List Row} {cs : List (Row × Int)} {a : Int}
theorem nbelow_ov {lw : List Int} (g : Good lv n ch S rs cs b) (h5 : lw.length ≤ 5) (ov : Ov lw rs a) (hr : Rf rs a) (hN : 2000 ≤ N) :
    ∃ (Y : Nat) (ns : List Int) (S' : Sto), h_Store_nodes_below N [.obj n, .int a] S = .ok (.obj Y) S' ∧ S'[Y]? = some (.lst (ns.map D.int)) ∧ BelowR rs [a] ns ∧ Fr (fun _ => False) S S' ∧ S.length ≤ Y := by
  have s1 : (1 : Nat) ≤ sizeLine := by decide +kernel
  have fz : Fr (fun _ => False) S (S ++ [Ob.lst [D.int a]]) := Fr.refl.add _
  have g1 := g.fr fz (fun _ _ z => z)
  have hp := phi_le h5 ov hr
  obtain ⟨Y, ns, S', e, hY, bl, f, lY⟩ := below_ok (N := N) (R := S.length) (refs := [a]) (T := fun _ => true) (ψ := phi rs lw) (lv := lw) g1.st g1.wf (fun r hx => by rw [List.mem_singleton.mp hx]; exact ov) Ev.appNew (fun r hx => by rw [List.mem_singleton.mp hx]; exact hr) (fun i q hq hc => by
    have := phi_node g.wf hq (ov.part hc)
    rw [if_pos rfl]
    exact this) (fun ks a1 a2 a3 => by
    rw [List.filter_eq_self.mpr fun _ _ => rfl] at a3
    have : ([a].map (phi rs lw)).sum = phi rs lw a := by simp
    omega) (by
    unfold phiS
    have : ([a].map (phi rs lw)).sum = phi rs lw a := by simp
    omega) (by show 1 < 1000; decide) hN
  have mt1 : metO "Store" "nodes_below_all" (some (inSt n ch)) = true := st_met (by simp +decide only [fldL, if_false])
  unfold h_Store_nodes_below
  walk_at "env"
  unfold b_Store_nodes_below
  have e' := e
  repeat (first | simp only [g.st.ob, g1.st.ob, mt1, if_pos s1, e', if_true] | walk_at "ev0")
  refine ⟨_, ns, _, rfl, hY, bl, fz.trans f, ?_⟩
  rw [List.length_append] at lY
  omega
theorem nbelow_ok (g : Good lv n ch S rs cs b) (h5 : lv.length ≤ 5) (hr : Rf rs a) (hN : 2000 ≤ N) :
    ∃ (Y : Nat) (ns : List Int) (S' : Sto), h_Store_nodes_below N [.obj n, .int a] S = .ok (.obj Y) S' ∧ S'[Y]? = some (.lst (ns.map D.int)) ∧ BelowR rs [a] ns ∧ Fr (fun _ => False) S S' ∧ S.length ≤ Y := nbelow_ov g h5 (Ov.all g.lv a) hr hN
end

theorem Made.fr {lv : List Int} {n ch b p l L A B k : Nat} {S S' : Sto} {rs : List Row} {cs : List (Row × Int)} {refs : List Int} {os : List Nat} {tbs : List (List Bool)} (M : Made lv n ch p l L A B S b k refs os tbs rs cs) {X : Nat → Prop} (f : Fr X S S') (po : PoolS S' p l) (hX : ∀ i, X i → i = p) : Made lv n ch p l L A B S' b k refs os tbs rs cs :=
  ⟨M.tabs.fr f (fun z => M.ap.pA (hX _ z)) (fun z => M.ap.pB (hX _ z)) (fun o ho z => M.ap.po o ho (hX _ z)), M.good.fr f fun i hi e => M.ap.xp (by rw [← hX _ e]; exact hi), po, f.at M.hL (fun z => M.ap.pL (hX _ z)), M.ap, M.len, M.r0, M.nAB, M.nAL, M.nBL, M.nAl, M.nBl, M.oA, M.oB⟩
theorem Made.gives {lv : List Int} {n ch b c p l L A B k : Nat} {S S' : Sto} {rs rs' : List Row} {cs cs' : List (Row × Int)} {refs : List Int} {os : List Nat} {tbs : List (List Bool)} (M : Made lv n ch p l L A B S b k refs os tbs rs cs) (g : Gives lv n ch S rs S' rs' cs' c) : Made lv n ch p l L A B S' c k refs os tbs rs' cs' := by
  obtain ⟨ts, et⟩ := g.ext
  exact ⟨by rw [et]; exact (M.tabs.fr g.fr M.ap.xA M.ap.xB M.ap.xo).ext, g.good, M.pool.fr g.fr M.ap.xp M.ap.xl, g.fr.at M.hL M.ap.xL, M.ap, M.len, M.r0, M.nAB, M.nAL, M.nBL, M.nAl, M.nBl, M.oA, M.oB⟩
/-- with another's doings -/
theorem Made.fr2 {lv : List Int} {n ch b p l L A B k : Nat} {S S' : Sto} {rs : List Row} {cs : List (Row × Int)} {refs : List Int} {os : List Nat} {tbs : List (List Bool)} (M : Made lv n ch p l L A B S b k refs os tbs rs cs) {X : Nat → Prop} (f : Fr X S S') (hA : ¬ X A) (hB : ¬ X B) (ho : ∀ o ∈ os, ¬ X o) (hs : ∀ i, StX n ch i → ¬ X i) (hp : ¬ X p) (hl : ¬ X l) (hL : ¬ X L) : Made lv n ch p l L A B S' b k refs os tbs rs cs :=
  ⟨M.tabs.fr f hA hB ho, M.good.fr f hs, M.pool.fr f hp hl, f.at M.hL hL, M.ap, M.len, M.r0, M.nAB, M.nAL, M.nBL, M.nAl, M.nBl, M.oA, M.oB⟩
theorem Made.fr0 {lv : List Int} {n ch b p l L A B k : Nat} {S S' : Sto} {rs : List Row} {cs : List (Row × Int)} {refs : List Int} {os : List Nat} {tbs : List (List Bool)} (M : Made lv n ch p l L A B S b k refs os tbs rs cs) (f : Fr (fun _ => False) S S') : Made lv n ch p l L A B S' b k refs os tbs rs cs :=
  M.fr2 f (fun z => z) (fun z => z) (fun _ _ z => z) (fun _ _ z => z) (fun z => z) (fun z => z) (fun z => z)

/-! ### how many assignments -/
/-- of d levels from l on -/
def cN (f : (Int → Bool) → Bool) : Nat → Int → (Int → Bool) → Nat
  | 0, _, β => if f β = true then 1 else 0
  | d + 1, l, β => cN f d (l + 1) (bput β l false) + cN f d (l + 1) (bput β l true)
theorem cN.free {f : (Int → Bool) → Bool} {x : Int} (hf : FreeOf f x) (b : Bool) : ∀ (d : Nat) (l : Int) (β : Int → Bool), x < l → cN f d l (bput β x b) = cN f d l β
  | 0, l, β, _ => by unfold cN; rw [hf]
  | d + 1, l, β, h => by
    unfold cN
    rw [bput_comm (x := x) (y := l) (a := b) (b := false) (by omega), bput_comm (x := x) (y := l) (a := b) (b := true) (by omega), cN.free hf b d (l + 1) _ (by omega), cN.free hf b d (l + 1) _ (by omega)]
theorem cN.same {f g : (Int → Bool) → Bool} {x : Int} {b : Bool} (h : ∀ β, β x = b → f β = g β) : ∀ (d : Nat) (l : Int) (β : Int → Bool), x < l → β x = b → cN f d l β = cN g d l β
  | 0, l, β, _, hb => by unfold cN; rw [h β hb]
  | d + 1, l, β, hl, hb => by
    have k : ∀ c, bput β l c x = b := fun c => by unfold bput; rw [if_neg (by omega)]; exact hb
    unfold cN
    rw [cN.same h d (l + 1) _ (by omega) (k false), cN.same h d (l + 1) _ (by omega) (k true)]
theorem cN.skip1 {f : (Int → Bool) → Bool} {l : Int} (hf : FreeOf f l) (d : Nat) (β : Int → Bool) : cN f (d + 1) l β = 2 * cN f d (l + 1) β := by
  show cN f d (l + 1) (bput β l false) + cN f d (l + 1) (bput β l true) = _
  rw [cN.free hf false d (l + 1) β (by omega), cN.free hf true d (l + 1) β (by omega)]
  omega
theorem cN.skip {f : (Int → Bool) → Bool} {d : Nat} {β : Int → Bool} : ∀ (s : Nat) (l : Int), (∀ x, l ≤ x → x < l + (s : Int) → FreeOf f x) → cN f (s + d) l β = 2 ^ s * cN f d (l + (s : Int)) β
  | 0, l, _ => by rw [Nat.zero_add, Nat.pow_zero, Nat.one_mul, show l + ((0 : Nat) : Int) = l by omega]
  | s + 1, l, h => by
    rw [show s + 1 + d = (s + d) + 1 by omega, cN.skip1 (h l (by omega) (by omega)), cN.skip s (l + 1) fun x h1 h2 => h x (by omega) (by omega)]
    rw [show l + 1 + (s : Int) = l + ((s + 1 : Nat) : Int) by omega, Nat.pow_succ, ← Nat.mul_assoc, Nat.mul_comm 2]
theorem cN.node {f g h : (Int → Bool) → Bool} {l : Int} (e : ∀ β, f β = if β l = true then g β else h β) (hg : FreeOf g l) (hh : FreeOf h l) (d : Nat) (β : Int → Bool) : cN f (d + 1) l β = cN h d (l + 1) β + cN g d (l + 1) β := by
  have t1 : bput β l true l = true := if_pos rfl
  have t2 : bput β l false l = false := if_pos rfl
  show cN f d (l + 1) (bput β l false) + cN f d (l + 1) (bput β l true) = _
  rw [cN.same (f := f) (g := g) (x := l) (b := true) (fun β hb => by rw [e, hb]; rfl) d (l + 1) _ (by omega) t1, cN.same (f := f) (g := h) (x := l) (b := false) (fun β hb => by rw [e, hb]; rfl) d (l + 1) _ (by omega) t2]
  rw [cN.free hg true d (l + 1) β (by omega), cN.free hh false d (l + 1) β (by omega)]
theorem cN.le {f : (Int → Bool) → Bool} : ∀ (d : Nat) (l : Int) (β : Int → Bool), cN f d l β ≤ 2 ^ d
  | 0, _, _ => by unfold cN; split <;> decide
  | d + 1, l, β => by
    have h1 := cN.le (f := f) d (l + 1) (bput β l false)
    have h2 := cN.le (f := f) d (l + 1) (bput β l true)
    unfold cN
    rw [Nat.pow_succ]
    omega
/-- over a list of levels -/
def cS (f : (Int → Bool) → Bool) : List Int → (Int → Bool) → Nat
  | [], β => if f β = true then 1 else 0
  | x :: ls, β => cS f ls (bput β x false) + cS f ls (bput β x true)
theorem cN.of {f : (Int → Bool) → Bool} : ∀ (d : Nat) (l : Int) (ls : List Int) (β : Int → Bool), ls.Pairwise (· < ·) → (∀ x ∈ ls, l ≤ x ∧ x < l + (d : Int)) → (∀ x, l ≤ x → x ∉ ls → FreeOf f x) → ls.length ≤ d ∧ cN f d l β = 2 ^ (d - ls.length) * cS f ls β
  | 0, l, [], β, _, _, _ => ⟨Nat.le_refl _, by unfold cN cS; show _ = 2 ^ 0 * _; rw [Nat.pow_zero, Nat.one_mul]⟩
  | 0, l, x :: ls, β, _, h, _ => by have := h x List.mem_cons_self; omega
  | d + 1, l, ls, β, asc, h, fr => by
    by_cases hl : l ∈ ls
    · match ls, asc, h, fr, hl with
      | x :: ls, asc, h, fr, hl =>
        have ax := List.pairwise_cons.mp asc
        have ex : x = l := by
          rcases List.mem_cons.mp hl with e | e
          · exact e.symm
          · have h1 := ax.1 l e
            have h2 := (h x List.mem_cons_self).1
            omega
        subst ex
        have ih := fun β => cN.of (f := f) d (x + 1) ls β ax.2 (fun y hy => by
          have h1 := ax.1 y hy
          have h2 := (h y (List.mem_cons_of_mem _ hy)).2
          omega) (fun y hy hn => fr y (by omega) fun z => by
          rcases List.mem_cons.mp z with e | e
          · omega
          · exact hn e)
        refine ⟨by have := (ih β).1; rw [List.length_cons]; omega, ?_⟩
        show cN f d (x + 1) (bput β x false) + cN f d (x + 1) (bput β x true) = 2 ^ (d + 1 - (ls.length + 1)) * (cS f ls (bput β x false) + cS f ls (bput β x true))
        rw [(ih _).2, (ih _).2, Nat.mul_add, Nat.add_sub_add_right]
    · have ih := cN.of (f := f) d (l + 1) ls β asc (fun y hy => by
        have h1 := h y hy
        have h2 : y ≠ l := fun e => hl (by rw [← e]; exact hy)
        omega) fun y hy hn => fr y (by omega) hn
      refine ⟨by omega, ?_⟩
      rw [cN.skip1 (fr l (Int.le_refl _) hl), ih.2, show d + 1 - ls.length = (d - ls.length) + 1 by omega, Nat.pow_succ, Nat.mul_comm _ 2, Nat.mul_assoc]
/-- how many of the first n -/
def sumB (F : Nat → Bool) : Nat → Nat
  | 0 => 0
  | n + 1 => sumB F n + (if F n = true then 1 else 0)
theorem sumB_congr {F G : Nat → Bool} : ∀ n, (∀ i, i < n → F i = G i) → sumB F n = sumB G n
  | 0, _ => rfl
  | n + 1, h => by unfold sumB; rw [sumB_congr n fun i hi => h i (by omega), h n (Nat.lt_succ_self n)]
theorem sumB_pair (F : Nat → Bool) : ∀ n, sumB F (2 * n) = sumB (fun j => F (2 * j)) n + sumB (fun j => F (2 * j + 1)) n
  | 0 => rfl
  | n + 1 => by
    show sumB F (2 * n) + (if F (2 * n) = true then 1 else 0) + (if F (2 * n + 1) = true then 1 else 0) = (sumB (fun j => F (2 * j)) n + (if F (2 * n) = true then 1 else 0)) + (sumB (fun j => F (2 * j + 1)) n + (if F (2 * n + 1) = true then 1 else 0))
    rw [sumB_pair F n]
    omega
/-- the assignment of a number -/
def setL : List Int → Nat → (Int → Bool) → (Int → Bool)
  | [], _, β => β
  | x :: ls, i, β => setL ls (i / 2) (bput β x (i.testBit 0))
theorem setL_out : ∀ (ls : List Int) (i : Nat) (β : Int → Bool) (x : Int), x ∉ ls → setL ls i β x = β x
  | [], _, _, _, _ => rfl
  | y :: ls, i, β, x, h => by
    show setL ls (i / 2) (bput β y (i.testBit 0)) x = _
    rw [setL_out ls (i / 2) _ x fun z => h (List.mem_cons_of_mem _ z)]
    unfold bput
    rw [if_neg fun z => h (by rw [z]; exact List.mem_cons_self)]
theorem setL_agr : ∀ (ls : List Int) (i : Nat) (β : Int → Bool), ls.Nodup → Agr ls i (setL ls i β)
  | [], _, _, _ => fun k l h => by cases h
  | y :: ls, i, β, nd => fun k l h => by
    have n2 := List.nodup_cons.mp nd
    show setL ls (i / 2) (bput β y (i.testBit 0)) l = _
    match k, h with
    | 0, h =>
      cases Option.some.inj h
      rw [setL_out ls (i / 2) _ _ n2.1]
      unfold bput
      rw [if_pos rfl]
    | k + 1, h =>
      rw [setL_agr ls (i / 2) _ n2.2 k l h, Nat.testBit_succ]
theorem cS.sum {f : (Int → Bool) → Bool} : ∀ (ls : List Int) (β : Int → Bool), cS f ls β = sumB (fun i => f (setL ls i β)) (2 ^ ls.length)
  | [], β => by
    show (if f β = true then 1 else 0) = 0 + (if f β = true then 1 else 0)
    rw [Nat.zero_add]
  | x :: ls, β => by
    have e : 2 ^ (x :: ls).length = 2 * 2 ^ ls.length := by rw [List.length_cons, Nat.pow_succ, Nat.mul_comm]
    rw [e, sumB_pair]
    show cS f ls (bput β x false) + cS f ls (bput β x true) = _
    rw [cS.sum ls, cS.sum ls]
    congr 1
    · refine sumB_congr _ fun j _ => ?_
      have h1 : (2 * j).testBit 0 = false := by rw [Nat.testBit_zero]; exact decide_eq_false (by omega)
      have h2 : 2 * j / 2 = j := by omega
      show f (setL ls j (bput β x false)) = f (setL ls (2 * j / 2) (bput β x ((2 * j).testBit 0)))
      rw [h1, h2]
    · refine sumB_congr _ fun j _ => ?_
      have h1 : (2 * j + 1).testBit 0 = true := by rw [Nat.testBit_zero]; exact decide_eq_true (by omega)
      have h2 : (2 * j + 1) / 2 = j := by omega
      show f (setL ls j (bput β x true)) = f (setL ls ((2 * j + 1) / 2) (bput β x ((2 * j + 1).testBit 0)))
      rw [h1, h2]
theorem sumB_list (t : List Bool) : sumB (fun i => t.getD i false) t.length = (t.filter id).length := by
  have key : ∀ n, n ≤ t.length → sumB (fun i => t.getD i false) n = ((t.take n).filter id).length := fun n => by
    induction n with
    | zero => intro _; rw [List.take_zero]; rfl
    | succ n ih =>
      intro hn
      have hl : n < t.length := hn
      unfold sumB
      rw [ih (by omega), List.take_add_one, List.getElem?_eq_getElem hl, List.filter_append, List.length_append, List.getD_eq_getElem?_getD, List.getElem?_eq_getElem hl]
      congr 1
      cases t[n] <;> rfl
  have := key t.length (Nat.le_refl _)
  rwa [List.take_length] at this
/-- the number of true rows of a reference's table -/
theorem cS.table {rs : List Row} {lv : List Int} {r : Int} {t : List Bool} (h : Tb rs lv r t) (nd : lv.Nodup) (β : Int → Bool) : cS (fun β => val rs β r) lv β = (t.filter id).length := by
  rw [cS.sum, ← sumB_list t, h.len]
  refine sumB_congr _ fun i hi => ?_
  have := h.eq i hi _ (setL_agr lv i β nd)
  rw [List.getD_eq_getElem?_getD, this]
  rfl

/-! ### models() -/
/-- the level of a reference, L for a constant -/
def lvB (rs : List Row) (L : Nat) (p : Int) : Nat := match lvl rs p with
  | some l => l.toNat
  | none => L
/-- the assignments of the levels from its own on -/
def Wn (rs : List Row) (L : Nat) (p : Int) : Nat := cN (fun β => val rs β p) (L - lvB rs L p) (lvB rs L p : Int) fun _ => false
section
variable {rs : List Row} {L : Nat} (w : Wf rs) (hlv : ∀ (i : Nat) (q : Row), rs[i]? = some q → ∃ k : Nat, q.1 = (k : Int) ∧ k < L)
theorem lvB_const {p : Int} (h : p < 2) : lvB rs L p = L := by unfold lvB; rw [lvl_const h]
include hlv in
theorem lvB_node {i : Nat} {q : Row} (h : rs[i]? = some q) : ((lvB rs L ((2 + i : Nat) : Int) : Nat) : Int) = q.1 := by
  obtain ⟨k, hk, _⟩ := hlv i q h
  unfold lvB
  rw [lvl_node h]
  dsimp only
  omega
include hlv in
theorem lvB_le {p : Int} (hp : Rf rs p) : lvB rs L p ≤ L := by
  rcases hp.cases with rfl | rfl | ⟨i, q, rfl, hq⟩
  · rw [lvB_const (by decide)]; exact Nat.le_refl _
  · rw [lvB_const (by decide)]; exact Nat.le_refl _
  · obtain ⟨k, hk, hk2⟩ := hlv i q hq
    have := lvB_node hlv hq
    omega
include hlv in
theorem aboveB {p : Int} (hp : Rf rs p) {x : Int} (hx : x < (lvB rs L p : Int)) : Above rs x p := by
  rcases hp.cases with rfl | rfl | ⟨i, q, rfl, hq⟩
  · exact Above.const (by decide)
  · exact Above.const (by decide)
  · rw [lvB_node hlv hq] at hx
    intro l' e
    rw [lvl_node hq] at e
    cases Option.some.inj e
    exact hx
include w hlv in
theorem freeB {p : Int} (hp : Rf rs p) {x : Int} (hx : x < (lvB rs L p : Int)) : FreeOf (fun β => val rs β p) x := fun β b => val_bput w hp (aboveB hlv hp hx) β b
include w hlv in
theorem Wn_from {p : Int} (hp : Rf rs p) {l : Nat} (hl : l ≤ lvB rs L p) (β : Int → Bool) (hβ : β = fun _ => false) : cN (fun β => val rs β p) (L - l) (l : Int) β = 2 ^ (lvB rs L p - l) * Wn rs L p := by
  subst hβ
  have h1 := lvB_le hlv hp
  have := cN.skip (f := fun β => val rs β p) (d := L - lvB rs L p) (β := fun _ => false) (lvB rs L p - l) (l : Int) fun x a1 a2 => freeB w hlv hp (by omega)
  rw [show lvB rs L p - l + (L - lvB rs L p) = L - l by omega, show (l : Int) + ((lvB rs L p - l : Nat) : Int) = (lvB rs L p : Int) by omega] at this
  exact this
include hlv in
theorem above_ltB {k : Nat} {p : Int} (hp : Rf rs p) (ha : Above rs (k : Int) p) (hk : k < L) : k + 1 ≤ lvB rs L p := by
  rcases hp.cases with rfl | rfl | ⟨i, q, rfl, hq⟩
  · rw [lvB_const (by decide)]; exact hk
  · rw [lvB_const (by decide)]; exact hk
  · have h1 := lvB_node hlv hq
    have h2 := ha _ (lvl_node hq)
    omega
include w hlv in
theorem Wn_node {i : Nat} {q : Row} (hq : rs[i]? = some q) {k : Nat} (hk : q.1 = (k : Int)) (hkL : k < L) :
    Wn rs L ((2 + i : Nat) : Int) = 2 ^ (lvB rs L q.2.1 - (k + 1)) * Wn rs L q.2.1 + 2 ^ (lvB rs L q.2.2 - (k + 1)) * Wn rs L q.2.2 := by
  have a1 := w.alo i q hq
  have a2 := w.ahi i q hq
  rw [hk] at a1 a2
  rw [← Wn_from w hlv (w.rlo hq) (above_ltB hlv (w.rlo hq) a1 hkL) _ rfl, ← Wn_from w hlv (w.rhi hq) (above_ltB hlv (w.rhi hq) a2 hkL) _ rfl]
  have e1 : lvB rs L ((2 + i : Nat) : Int) = k := by have := lvB_node hlv hq; omega
  unfold Wn
  rw [e1, show L - k = (L - (k + 1)) + 1 by omega]
  have := cN.node (f := fun β => val rs β ((2 + i : Nat) : Int)) (g := fun β => val rs β q.2.2) (h := fun β => val rs β q.2.1) (l := (k : Int)) (fun β => by rw [← hk]; exact val_node w hq β) (fun β b => val_bput w (w.rhi hq) a2 β b) (fun β b => val_bput w (w.rlo hq) a1 β b) (L - (k + 1)) fun _ => false
  rw [show (k : Int) + 1 = ((k + 1 : Nat) : Int) by omega] at this
  exact this
theorem Wn_zero : Wn rs L 0 = 0 := by
  unfold Wn
  rw [lvB_const (by decide), Nat.sub_self]
  unfold cN
  rw [val_zero]; rfl
theorem Wn_one : Wn rs L 1 = 1 := by
  unfold Wn
  rw [lvB_const (by decide), Nat.sub_self]
  unfold cN
  rw [val_one]; rfl
theorem Wn_le (p : Int) : Wn rs L p ≤ 2 ^ L := Nat.le_trans (cN.le _ _ _) (Nat.pow_le_pow_right (by decide) (Nat.sub_le _ _))
/-- the models of a reference: the true rows of its table, and two for each other level -/
theorem models_table {lv : List Int} {a : Int} {t : List Bool} (w : Wf rs) (hlv : ∀ (i : Nat) (q : Row), rs[i]? = some q → ∃ k : Nat, q.1 = (k : Int) ∧ k < L) (h : Tb rs lv a t) (asc : lv.Pairwise (· < ·)) (hb : ∀ x ∈ lv, 0 ≤ x ∧ x < (L : Int)) :
    lv.length ≤ L ∧ 2 ^ lvB rs L a * Wn rs L a = 2 ^ (L - lv.length) * (t.filter id).length := by
  have nd : lv.Nodup := asc.imp fun h => by omega
  have h1 := cN.of (f := fun β => val rs β a) L 0 lv (fun _ => false) asc (fun x hx => by have := hb x hx; omega) fun x _ hn β b => by
    have i1 := idx_agr lv β
    have i2 : Agr lv (idxOf lv β) (bput β x b) := fun k l hk => by
      unfold bput
      rw [if_neg fun z => hn (by rw [← z]; exact List.mem_of_getElem? hk)]
      exact i1 k l hk
    have k1 := h.eq _ (idx_lt lv β) _ i1
    rw [h.eq _ (idx_lt lv β) _ i2] at k1
    exact Option.some.inj k1
  refine ⟨h1.1, ?_⟩
  have h2 := Wn_from w hlv h.rf (Nat.zero_le _) _ rfl
  rw [Nat.sub_zero, Nat.sub_zero] at h2
  rw [← h2, ← cS.table h nd fun _ => false]
  exact h1.2
end
section
variable {lv : List Int} {n ch b N L : Nat} {S : Sto} {rs : List Row} {cs : List (Row × Int)} {a p : Int}
theorem levelB_ok (st : StAt S n rs ch (csD cs)) (hlv : ∀ (i : Nat) (q : Row), rs[i]? = some q → ∃ k : Nat, q.1 = (k : Int) ∧ k < L) (hp : Rf rs p) : h_Store__level_below [.obj n, .int p, .int (L : Int)] S = .ok (.int (lvB rs L p : Int)) S := by
  unfold h_Store__level_below
  walk_at "env"
  unfold b_Store__level_below
  rcases hp.cases with rfl | rfl | ⟨i, q, rfl, hq⟩
  · rw [lvB_const (by decide)]
    repeat walk_at "ev0"
  · rw [lvB_const (by decide)]
    repeat walk_at "ev0"
  · have h1 : ((2 + i : Nat) : Int) > 1 := by omega
    rw [lvB_node hlv hq]
    have l1 := lvD_at hq
    repeat (first | simp only [decide_eq_true h1, st.ob, st.lv, st_levels, l1] | walk_at "ev0")
theorem models_ok (g : Good lv n ch S rs cs b) (h5 : lv.length ≤ 5) (hlv : ∀ (i : Nat) (q : Row), rs[i]? = some q → ∃ k : Nat, q.1 = (k : Int) ∧ k < L) (hL : L ≤ 2000) (hr : Rf rs a) (hN : 2000 ≤ N) :
    ∃ S', h_Store_models N [.obj n, .int a, .int (L : Int)] S = .ok (.int ((2 ^ lvB rs L a * Wn rs L a : Nat) : Int)) S' ∧ Fr (fun _ => False) S S' := by
  have sl := sizeLine_eq
  have w := g.wf
  have small : ∀ p, ((Wn rs L p : Nat) : Int).natAbs.log2 < 1000000 := fun p => by
    rw [Int.natAbs_natCast]
    exact PySem.Flt.log2_lt_of (show 0 < 1000000 by decide) (Nat.lt_of_le_of_lt (Wn_le p) (Nat.pow_lt_pow_right (by decide) (by omega)))
  unfold h_Store_models
  walk_at "env"
  unfold b_Store_models
  repeat walk_at "ev0"
  obtain ⟨kv0, hkv⟩ : ∃ kv, mergeD [] [((Sum.inl 0 : Key), D.int 0), (Sum.inl 1, D.int 1)] = kv := ⟨_, rfl⟩
  have g0 : ∀ r : Int, r = 0 ∨ r = 1 → getD kv0 (.inl r) = some (.int (Wn rs L r : Int)) := fun r hr => by
    rw [← hkv]
    rcases hr with rfl | rfl
    · rw [Wn_zero]; rfl
    · rw [Wn_one]; rfl
  have gl : kv0.length = 2 := by rw [← hkv]; rfl
  rw [hkv]
  have f1 : Fr (fun _ => False) S ((S ++ [Ob.dk []]).set S.length (.dk kv0)) := (Fr.refl.add _).set _ fun h => absurd h (Nat.lt_irrefl _)
  have hD1 : ((S ++ [Ob.dk []]).set S.length (.dk kv0))[S.length]? = some (.dk kv0) := get_put (o := Ob.dk []) Ev.appNew
  generalize (S ++ [Ob.dk []]).set S.length (.dk kv0) = S1 at *
  have G1 := g.fr f1 (fun _ _ z => z)
  obtain ⟨Y, ns, S2, e2, hY, bl, f2, lY⟩ := nbelow_ok G1 h5 hr hN
  have mt1 : metO "Store" "nodes_below" (some (inSt n ch)) = true := st_met (by simp +decide only [fldL, if_false])
  have mt2 : metO "Store" "_level_below" (some (inSt n ch)) = true := st_met (by simp +decide only [fldL, if_false])
  have lSY : S.length < Y := by have := lt_of_get hD1; omega
  repeat (first | simp only [G1.st.ob, mt1, e2, hY, if_true] | walk_at "ev0")
  have f12 := f1.trans f2
  have hD2 := f2.at hD1 (fun z => z)
  generalize e : dLoop _ _ _ _ _ _ = r
  obtain ⟨ρ, S3, rfl, v4, v5, v6, kv, rfl, f3, hD3, hY3, hkl, hg⟩ := loop_idx_nx e (fun i ρ S3 => ∃ (v4 v5 v6 : Option D) (kv : List (Key × D)), ρ = [some (.obj n), some (.int a), some (.int (L : Int)), some (.obj S.length), v4, v5, v6] ∧ Fr (fun _ => False) S S3 ∧ S3[S.length]? = some (.dk kv) ∧ S3[Y]? = some (.lst (ns.map D.int)) ∧ kv.length ≤ 2 + 3 * i ∧ ∀ r : Int, r = 0 ∨ r = 1 ∨ r ∈ ns.take i → getD kv (.inl r) = some (.int (Wn rs L r : Int)))
    ⟨none, none, none, kv0, rfl, f12, hD2, hY, by omega, fun r hr => by
      rcases hr with k | k | k
      · exact g0 r (.inl k)
      · exact g0 r (.inr k)
      · cases k⟩ (by
    rintro i d ρ S3 hd ⟨v4, v5, v6, kv, rfl, f3, hD3, hY3, hkl, hg⟩
    rw [List.getElem?_map] at hd
    obtain ⟨x, hx, rfl⟩ := Option.map_eq_some_iff.mp hd
    have hxm := List.mem_of_getElem? hx
    have hil := lt_of_get hx
    have bl64 := bl.len
    refine ⟨_, rfl, ?_⟩
    clear e hd
    obtain ⟨j, q, rfl, hq⟩ : ∃ (j : Nat) (q : Row), x = ((2 + j : Nat) : Int) ∧ rs[j]? = some q := by
      have hk := bl.kr x hxm
      rcases hk.2.cases with k | k | k
      · omega
      · omega
      · exact k
    obtain ⟨k, hk, hkL⟩ := hlv j q hq
    have st3 := g.st.fr f3 (fun _ _ z => z)
    have pcl := bl.cl j q hq hxm
    have part : ∀ r : Int, 0 ≤ r → r < ((2 + j : Nat) : Int) → (r < 2 ∨ r ∈ ns) → getD kv (.inl r) = some (.int (Wn rs L r : Int)) := fun r r0 r1 hr => hg r (by
      rcases hr with h | h
      · omega
      · exact .inr (.inr (mem_take bl.asc hx h r1)))
    have glo := part q.2.1 (w.lo j q hq).1 (w.lo j q hq).2 pcl.1
    have ghi := part q.2.2 (w.hi j q hq).1 (w.hi j q hq).2 pcl.2
    have llo := loD_at hq
    have lhi := hiD_at hq
    have llv := lvD_at hq
    have lput : ∀ (kv : List (Key × D)) (k : Key) (d : D), (putD kv k d).length ≤ kv.length + 1 := fun kv k d => by
      unfold putD
      split
      · rw [List.length_map]; omega
      · rw [List.length_append]; exact Nat.le_refl _
    have c1 : kv.length < sizeLine := by omega
    have elo : q.2.1 ≠ ((2 + j : Nat) : Int) := by have := (w.lo j q hq).2; omega
    have ehi : q.2.2 ≠ ((2 + j : Nat) : Int) := by have := (w.hi j q hq).2; omega
    have a1 := w.alo j q hq
    have a2 := w.ahi j q hq
    rw [hk] at a1 a2
    have b1 := above_ltB hlv (w.rlo hq) a1 hkL
    have b2 := above_ltB hlv (w.rhi hq) a2 hkL
    have c2 := lvB_le hlv (w.rlo hq)
    have c3 := lvB_le hlv (w.rhi hq)
    have wn := Wn_node w hlv hq hk hkL
    obtain ⟨kv1, hk1⟩ : ∃ kv1, putD kv (.inl ((2 + j : Nat) : Int)) (.int 0) = kv1 := ⟨_, rfl⟩
    have l1 : kv1.length ≤ kv.length + 1 := by rw [← hk1]; exact lput _ _ _
    have gk1 : ∀ r : Int, getD kv1 (.inl r) = if ((2 + j : Nat) : Int) = r then some (.int 0) else getD kv (.inl r) := fun r => by
      rw [← hk1, getD_putD]
      by_cases z : ((2 + j : Nat) : Int) = r
      · rw [if_pos (by rw [z]), if_pos z]
      · rw [if_neg fun y => z (Sum.inl.inj y), if_neg z]
    obtain ⟨T1, hT1⟩ : ∃ T1, S3.set S.length (.dk kv1) = T1 := ⟨_, rfl⟩
    have f4 : Fr (fun _ => False) S T1 := by rw [← hT1]; exact f3.set _ fun h => absurd h (Nat.lt_irrefl _)
    have hD4 : T1[S.length]? = some (.dk kv1) := by rw [← hT1]; exact get_put hD3
    have hY4 : T1[Y]? = some (.lst (ns.map D.int)) := by rw [← hT1, get_put_ne (by omega)]; exact hY3
    have st4 := g.st.fr f4 (fun _ _ z => z)
    repeat (first | simp only [hD3, if_pos c1, hk1, hT1, st4.ob, st4.lo, st4.hi, st_lows, st_highs, llo, lhi] | walk_at "ev0")
    have llv' : atI (lvD rs) ((2 + j : Nat) : Int) = some (.int (k : Int)) := by rw [llv, hk]
    obtain ⟨A, hA⟩ : ∃ A, 2 ^ (lvB rs L q.2.1 - (k + 1)) * Wn rs L q.2.1 = A := ⟨_, rfl⟩
    obtain ⟨B, hB⟩ : ∃ B, 2 ^ (lvB rs L q.2.2 - (k + 1)) * Wn rs L q.2.2 = B := ⟨_, rfl⟩
    generalize e3 : dLoop _ _ _ _ _ _ = r2
    obtain ⟨ρ, S5, rfl, w5, w6, kv5, rfl, f5, hD5, hY5, l5, gx5, gr5⟩ := loop_idx_nx e3 (fun jj ρ S5 => ∃ (w5 w6 : Option D) (kv2 : List (Key × D)), ρ = [some (.obj n), some (.int a), some (.int (L : Int)), some (.obj S.length), some (.int ((2 + j : Nat) : Int)), w5, w6] ∧ Fr (fun _ => False) S S5 ∧ S5[S.length]? = some (.dk kv2) ∧ S5[Y]? = some (.lst (ns.map D.int)) ∧ kv2.length ≤ kv.length + 1 + jj ∧ getD kv2 (.inl ((2 + j : Nat) : Int)) = some (.int (((if 0 < jj then A else 0) + (if 1 < jj then B else 0) : Nat) : Int)) ∧ ∀ r : Int, r ≠ ((2 + j : Nat) : Int) → getD kv2 (.inl r) = getD kv (.inl r))
      ⟨v5, v6, kv1, rfl, f4, hD4, hY4, l1, by rw [gk1, if_pos rfl]; rfl, fun r hr => by rw [gk1, if_neg fun z => hr z.symm]⟩ (by
      rintro jj d ρ S5 hd ⟨w5, w6, kv2, rfl, f5, hD5, hY5, l5, gx5, gr5⟩
      have hjj := lt_of_get hd
      have hjj : jj < 2 := hjj
      refine ⟨_, rfl, ?_⟩
      clear e3
      obtain ⟨p, rfl, hp, hne, hgp, hb, hPt⟩ : ∃ p : Int, d = .int p ∧ Rf rs p ∧ p ≠ ((2 + j : Nat) : Int) ∧ getD kv (.inl p) = some (.int (Wn rs L p : Int)) ∧ k + 1 ≤ lvB rs L p ∧ ((if 0 < jj + 1 then A else 0) + (if 1 < jj + 1 then B else 0) : Nat) = ((if 0 < jj then A else 0) + (if 1 < jj then B else 0) : Nat) + 2 ^ (lvB rs L p - (k + 1)) * Wn rs L p := by
        match jj, hd with
        | 0, hd => cases Option.some.inj hd; exact ⟨q.2.1, rfl, w.rlo hq, elo, glo, b1, by rw [hA]; simp⟩
        | 1, hd => cases Option.some.inj hd; exact ⟨q.2.2, rfl, w.rhi hq, ehi, ghi, b2, by rw [hB]; simp⟩
      clear hd
      generalize ((if 0 < jj then A else 0) + (if 1 < jj then B else 0) : Nat) = P0 at *
      generalize ((if 0 < jj + 1 then A else 0) + (if 1 < jj + 1 then B else 0) : Nat) = P1 at *
      have st5 := g.st.fr f5 (fun _ _ z => z)
      have elb := levelB_ok st5 hlv hp
      have c4 := lvB_le hlv hp
      have el : ((lvB rs L p : Nat) : Int) - (k : Int) - 1 = ((lvB rs L p - (k + 1) : Nat) : Int) := by omega
      have sc : 0 ≤ ((lvB rs L p - (k + 1) : Nat) : Int) ∧ ((lvB rs L p - (k + 1) : Nat) : Int) ≤ 1000000 ∧ ((Wn rs L p : Nat) : Int).natAbs.log2 < 1000000 := ⟨by omega, by omega, small p⟩
      have gp : getD kv2 (.inl p) = some (.int (Wn rs L p : Int)) := by rw [gr5 p hne, hgp]
      have ev : ((P0 : Nat) : Int) + ((Wn rs L p : Nat) : Int) * 2 ^ (lvB rs L p - (k + 1)) = ((P1 : Nat) : Int) := by
        rw [hPt, Int.natCast_add, Int.natCast_mul, Int.natCast_pow, Int.mul_comm]; rfl
      have c5 : kv2.length < sizeLine := by omega
      obtain ⟨kv3, hk3⟩ : ∃ kv3, putD kv2 (.inl ((2 + j : Nat) : Int)) (.int ((P1 : Nat) : Int)) = kv3 := ⟨_, rfl⟩
      have l3 : kv3.length ≤ kv2.length + 1 := by rw [← hk3]; exact lput _ _ _
      have gk3 : ∀ r : Int, getD kv3 (.inl r) = if ((2 + j : Nat) : Int) = r then some (.int ((P1 : Nat) : Int)) else getD kv2 (.inl r) := fun r => by
        rw [← hk3, getD_putD]
        by_cases z : ((2 + j : Nat) : Int) = r
        · rw [if_pos (by rw [z]), if_pos z]
        · rw [if_neg fun y => z (Sum.inl.inj y), if_neg z]
      obtain ⟨T3, hT3⟩ : ∃ T3, S5.set S.length (.dk kv3) = T3 := ⟨_, rfl⟩
      have f6 : Fr (fun _ => False) S T3 := by rw [← hT3]; exact f5.set _ fun h => absurd h (Nat.lt_irrefl _)
      have hD6 : T3[S.length]? = some (.dk kv3) := by rw [← hT3]; exact get_put hD5
      have hY6 : T3[Y]? = some (.lst (ns.map D.int)) := by rw [← hT3, get_put_ne (by omega)]; exact hY5
      repeat (first | simp only [st5.ob, st5.lv, st_levels, mt2, elb, llv', el, hD5, gp, gx5, if_pos sc, Int.toNat_natCast, ev, if_pos c5, hk3, hT3, if_true] | walk_at "ev0")
      exact ⟨_, _, kv3, rfl, f6, hD6, hY6, by omega, by rw [gk3, if_pos rfl], fun r hr => by rw [gk3, if_neg fun z => hr z.symm, gr5 r hr]⟩)
    clear e3
    have gx5 : getD kv5 (.inl ((2 + j : Nat) : Int)) = some (.int (Wn rs L ((2 + j : Nat) : Int) : Int)) := by
      rw [gx5, wn, hA, hB]; rfl
    have l5 : kv5.length ≤ kv.length + 1 + 2 := l5
    refine ⟨lstOf_lst hY5, _, _, _, kv5, rfl, f5, hD5, hY5, by omega, fun r hr => ?_⟩
    by_cases er : r = ((2 + j : Nat) : Int)
    · rw [er, gx5]
    · rw [gr5 r er]
      refine hg r ?_
      rcases hr with h | h | h
      · exact .inl h
      · exact .inr (.inl h)
      · rw [List.take_add_one, hx] at h
        rcases List.mem_append.mp h with h | h
        · exact .inr (.inr h)
        · exact absurd (List.mem_singleton.mp h) er)
  clear e
  rw [List.length_map, List.take_length] at hg
  have ga := hg a (by
    rcases bl.rf a (List.mem_singleton.mpr rfl) with h | h
    · have := hr.lo; omega
    · exact .inr (.inr h))
  have st3 := g.st.fr f3 (fun _ _ z => z)
  have elb := levelB_ok st3 hlv hr
  have c4 := lvB_le hlv hr
  have sc : 0 ≤ ((lvB rs L a : Nat) : Int) ∧ ((lvB rs L a : Nat) : Int) ≤ 1000000 ∧ ((Wn rs L a : Nat) : Int).natAbs.log2 < 1000000 := ⟨by omega, by omega, small a⟩
  have ev : ((Wn rs L a : Nat) : Int) * 2 ^ lvB rs L a = ((2 ^ lvB rs L a * Wn rs L a : Nat) : Int) := by
    rw [Int.natCast_mul, Int.natCast_pow, Int.mul_comm]; rfl
  repeat (first | simp only [hD3, ga, st3.ob, mt2, elb, if_pos sc, Int.toNat_natCast, ev, if_true] | walk_at "ev0")
  exact ⟨_, rfl, f3⟩
end

/-! ### few nodes below few references -/
theorem nodup_sub {α : Type} [DecidableEq α] : ∀ {l m : List α}, l.Nodup → (∀ x ∈ l, x ∈ m) → l.length ≤ m.length
  | [], _, _, _ => Nat.zero_le _
  | x :: l, m, hn, hs => by
    have hx := hs x List.mem_cons_self
    rw [List.nodup_cons] at hn
    have ih := nodup_sub (l := l) (m := m.erase x) hn.2 fun y hy => (List.mem_erase_of_ne fun e => hn.1 (by rw [← e]; exact hy)).mpr (hs y (List.mem_cons_of_mem _ hy))
    rw [List.length_erase_of_mem hx] at ih
    have : 0 < m.length := List.length_pos_of_mem hx
    rw [List.length_cons]
    omega
theorem filter_split {α : Type} (p : α → Bool) : ∀ l : List α, l.length = (l.filter p).length + (l.filter fun x => !p x).length
  | [] => rfl
  | x :: l => by
    rw [List.filter_cons, List.filter_cons, List.length_cons, filter_split p l]
    cases p x
    · show _ = (l.filter p).length + ((l.filter fun x => !p x).length + 1)
      omega
    · show _ = (l.filter p).length + 1 + (l.filter fun x => !p x).length
      omega
def psi (rs : List Row) (m : Nat) (r : Int) : Nat := match lvl rs r with
  | some l => 2 ^ (m - 2 - l.toNat) - 1
  | none => 0
def topB (rs : List Row) (m : Nat) (r : Int) : Bool := match lvl rs r with
  | some l => decide (l.toNat + 2 < m)
  | none => false
section
variable {rs : List Row} {m : Nat} (w : Wf rs) (hlv : ∀ (i : Nat) (q : Row), rs[i]? = some q → ∃ k : Nat, q.1 = (k : Int) ∧ k < m)
theorem psi_const {r : Int} (h : r < 2) : psi rs m r = 0 := by unfold psi; rw [lvl_const h]
include hlv in
theorem psi_part {k : Nat} {r : Int} (ha : Above rs (k : Int) r) (hr : Rf rs r) : psi rs m r ≤ 2 ^ (m - 2 - (k + 1)) - 1 := by
  rcases hr.cases with rfl | rfl | ⟨i, q, rfl, hq⟩
  · rw [psi_const (by decide)]; exact Nat.zero_le _
  · rw [psi_const (by decide)]; exact Nat.zero_le _
  · have h1 := ha _ (lvl_node hq)
    obtain ⟨j, hj, _⟩ := hlv i q hq
    unfold psi
    rw [lvl_node hq]
    dsimp only
    rw [hj, Int.toNat_natCast]
    have h3 : 2 ^ (m - 2 - j) ≤ 2 ^ (m - 2 - (k + 1)) := Nat.pow_le_pow_right (by decide) (by omega)
    omega
include w hlv in
theorem psi_node (i : Nat) (q : Row) (hq : rs[i]? = some q) : psi rs m q.2.1 + psi rs m q.2.2 + (if topB rs m ((2 + i : Nat) : Int) = true then 1 else 0) ≤ psi rs m ((2 + i : Nat) : Int) := by
  obtain ⟨k, hk, hkm⟩ := hlv i q hq
  have a1 := w.alo i q hq
  have a2 := w.ahi i q hq
  rw [hk] at a1 a2
  have h1 := psi_part hlv a1 (w.rlo hq)
  have h2 := psi_part hlv a2 (w.rhi hq)
  have e1 : psi rs m ((2 + i : Nat) : Int) = 2 ^ (m - 2 - k) - 1 := by unfold psi; rw [lvl_node hq]; dsimp only; rw [hk, Int.toNat_natCast]
  have e2 : topB rs m ((2 + i : Nat) : Int) = decide (k + 2 < m) := by unfold topB; rw [lvl_node hq]; dsimp only; rw [hk, Int.toNat_natCast]
  rw [e1, e2]
  by_cases hc : k + 2 < m
  · rw [decide_eq_true hc, if_pos rfl]
    have e3 : m - 2 - k = (m - 2 - (k + 1)) + 1 := by omega
    rw [e3, Nat.pow_succ]
    have := Nat.two_pow_pos (m - 2 - (k + 1))
    omega
  · rw [decide_eq_false hc, if_neg (show ¬ (false = true) by decide)]
    have e3 : m - 2 - (k + 1) = 0 := by omega
    rw [e3] at h1 h2
    omega
include hlv in
theorem psi_le (h5 : m ≤ 5) {r : Int} (hr : Rf rs r) : psi rs m r ≤ 7 := by
  rcases hr.cases with rfl | rfl | ⟨i, q, rfl, hq⟩
  · rw [psi_const (by decide)]; exact Nat.zero_le _
  · rw [psi_const (by decide)]; exact Nat.zero_le _
  · unfold psi
    rw [lvl_node hq]
    dsimp only
    have h1 : 2 ^ (m - 2 - q.1.toNat) ≤ 2 ^ 3 := Nat.pow_le_pow_right (by decide) (by omega)
    omega
def refOf (rs : List Row) (q : Row) : Int := match rowAt q rs with
  | some i => ((2 + i : Nat) : Int)
  | none => 0
theorem refOf_at (w : Wf rs) {i : Nat} {q : Row} (hq : rs[i]? = some q) : refOf rs q = ((2 + i : Nat) : Int) := by
  obtain ⟨j, hj⟩ := rowAt_mem (List.mem_of_getElem? hq)
  have h2 := rowAt_some hj
  have : i = j := (List.getElem?_inj (lt_of_get hq) w.nodup).mp (hq.trans h2.symm)
  unfold refOf
  rw [hj, this]
include w hlv in
theorem few (ks : List Int) (hn : ks.Nodup) (hk : ∀ k ∈ ks, 2 ≤ k ∧ Rf rs k) : ks.length ≤ (ks.filter (topB rs m)).length + 18 := by
  rw [filter_split (topB rs m) ks]
  refine Nat.add_le_add_left ?_ _
  -- the last level's rows, and the parts of those of the last but one
  have last : ∀ (i : Nat) (q : Row), rs[i]? = some q → q.1 = ((m - 1 : Nat) : Int) → q ∈ [(((m - 1 : Nat) : Int), (0 : Int), (1 : Int)), (((m - 1 : Nat) : Int), 1, 0)] := fun i q hq e => by
    have part : ∀ r, Rf rs r → Above rs q.1 r → r = 0 ∨ r = 1 := fun r hr ha => by
      rcases hr.cases with h | h | ⟨j, p, rfl, hp⟩
      · exact .inl h
      · exact .inr h
      · have h1 := ha _ (lvl_node hp)
        obtain ⟨k, h2, h3⟩ := hlv j p hp
        omega
    have p1 := part _ (w.rlo hq) (w.alo i q hq)
    have p2 := part _ (w.rhi hq) (w.ahi i q hq)
    have ne := w.ne i q hq
    obtain ⟨x, a, b⟩ := q
    dsimp only at *
    subst e
    rcases p1 with rfl | rfl <;> rcases p2 with rfl | rfl
    · exact absurd rfl ne
    · simp
    · simp
    · exact absurd rfl ne
  let Q : List Int := [0, 1, refOf rs (((m - 1 : Nat) : Int), 0, 1), refOf rs (((m - 1 : Nat) : Int), 1, 0)]
  let M : List Row := [(((m - 1 : Nat) : Int), 0, 1), (((m - 1 : Nat) : Int), 1, 0)] ++ Q.flatMap fun a => Q.map fun b => (((m - 2 : Nat) : Int), a, b)
  have lM : M.length = 18 := rfl
  have low : ∀ (i : Nat) (q : Row), rs[i]? = some q → ¬ q.1.toNat + 2 < m → q ∈ M := fun i q hq hc => by
    obtain ⟨k, h1, h2⟩ := hlv i q hq
    rw [h1, Int.toNat_natCast] at hc
    by_cases hk : k = m - 1
    · exact List.mem_append_left _ (last i q hq (by rw [h1, hk]))
    · have hk2 : k = m - 2 := by omega
      have part : ∀ r, Rf rs r → Above rs q.1 r → r ∈ Q := fun r hr ha => by
        rcases hr.cases with h | h | ⟨j, p, rfl, hp⟩
        · rw [h]; exact List.mem_cons_self
        · rw [h]; exact List.mem_cons_of_mem _ List.mem_cons_self
        · have h3 := ha _ (lvl_node hp)
          obtain ⟨k', h4, h5⟩ := hlv j p hp
          have h6 := last j p hp (by omega)
          have h7 := refOf_at w hp
          simp only [List.mem_cons, List.not_mem_nil, or_false] at h6
          rcases h6 with e | e
          · rw [← h7, e]; exact List.mem_cons_of_mem _ (List.mem_cons_of_mem _ List.mem_cons_self)
          · rw [← h7, e]; exact List.mem_cons_of_mem _ (List.mem_cons_of_mem _ (List.mem_cons_of_mem _ List.mem_cons_self))
      have p1 := part _ (w.rlo hq) (w.alo i q hq)
      have p2 := part _ (w.rhi hq) (w.ahi i q hq)
      refine List.mem_append_right _ (List.mem_flatMap.mpr ⟨q.2.1, p1, List.mem_map.mpr ⟨q.2.2, p2, ?_⟩⟩)
      rw [← hk2, ← h1]
  have node : ∀ k, 2 ≤ k → Rf rs k → ∃ (i : Nat) (q : Row), k = ((2 + i : Nat) : Int) ∧ rs[i]? = some q := fun k h1 h2 => by
    rcases h2.cases with h | h | h
    · omega
    · omega
    · exact h
  have gd : ∀ {i : Nat} {q : Row}, rs[i]? = some q → rs.getD (((2 + i : Nat) : Int) - 2).toNat (0, 0, 0) = q := fun {i q} h => by
    rw [show (((2 + i : Nat) : Int) - 2).toNat = i by omega, List.getD_eq_getElem?_getD, h]; rfl
  have h1 := nodup_sub (l := (ks.filter fun x => !topB rs m x).map fun k => rs.getD (k - 2).toNat (0, 0, 0)) (m := M) (by
    refine List.pairwise_map.mpr ?_
    refine List.Pairwise.imp_of_mem (R := fun a b => a ≠ b) (fun {a b} ha hb ne e => ?_) (hn.filter _)
    obtain ⟨a1, a2⟩ := hk a ((List.mem_filter.mp ha).1)
    obtain ⟨b1, b2⟩ := hk b ((List.mem_filter.mp hb).1)
    obtain ⟨i, q, rfl, hq⟩ := node a a1 a2
    obtain ⟨j, p, rfl, hp⟩ := node b b1 b2
    rw [gd hq, gd hp] at e
    subst e
    have : i = j := (List.getElem?_inj (lt_of_get hq) w.nodup).mp (hq.trans hp.symm)
    exact ne (by rw [this])) (fun x hx => by
    obtain ⟨k, hk2, rfl⟩ := List.mem_map.mp hx
    obtain ⟨a1, a2⟩ := hk k ((List.mem_filter.mp hk2).1)
    obtain ⟨i, q, rfl, hq⟩ := node k a1 a2
    rw [gd hq]
    refine low i q hq fun hc => ?_
    have h3 := (List.mem_filter.mp hk2).2
    have e2 : topB rs m ((2 + i : Nat) : Int) = true := by unfold topB; rw [lvl_node hq]; exact decide_eq_true hc
    rw [e2] at h3
    cases h3)
  rw [List.length_map, lM] at h1
  exact h1
end

theorem scs_intL : ∀ ns : List Int, scs (ns.map D.int) = some (ns.map V.int)
  | [] => rfl
  | x :: ns => by
    show (match (D.int x).sc, scs (ns.map D.int) with | some v, some vs => some (v :: vs) | _, _ => none) = _
    rw [scs_intL ns]
    rfl
theorem inV_ints {x : Int} {ns : List Int} : inV (.int x) (ns.map V.int) = decide (x ∈ ns) := by
  rw [Bool.eq_iff_iff, decide_eq_true_eq]
  unfold inV
  rw [List.any_eq_true]
  constructor
  · rintro ⟨v, hv, e⟩
    obtain ⟨y, hy, rfl⟩ := List.mem_map.mp hv
    have : y = x := by simpa [eqV] using e
    rw [← this]
    exact hy
  · intro h
    exact ⟨.int x, List.mem_map.mpr ⟨x, h, rfl⟩, by simp [eqV]⟩

/-! ### _law_reached -/
structure Fnd (rs : List Row) (a : Int) (ks ws : List Int) : Prop where
  kr : ∀ k ∈ ks, 2 ≤ k ∧ Rf rs k
  wr : ∀ w ∈ ws, Rf rs w
  nd : ks.Nodup
  cl : ∀ (i : Nat) (q : Row), rs[i]? = some q → ((2 + i : Nat) : Int) ∈ ks → InB ks ws q.2.1 ∧ InB ks ws q.2.2
  rf : InB ks ws a
  ck : ∀ k ∈ ks, Rch rs [a] k
  cw : ∀ w ∈ ws, Rch rs [a] w
section
variable {rs : List Row} {a : Int} {ks ws ns : List Int}
theorem Fnd.skip {c : Int} (h : Fnd rs a ks (ws ++ [c])) (e : c < 2 ∨ c ∈ ks) : Fnd rs a ks ws := by
  have ok : ∀ r, InB ks (ws ++ [c]) r → InB ks ws r := fun r hr => by
    rcases hr with k | k | k
    · exact .inl k
    · exact .inr (.inl k)
    · rcases List.mem_append.mp k with k | k
      · exact .inr (.inr k)
      · rw [List.mem_singleton.mp k]
        rcases e with e | e
        · exact .inl e
        · exact .inr (.inl e)
  exact ⟨h.kr, fun w hw => h.wr w (List.mem_append_left _ hw), h.nd, fun i q hq hk => ⟨ok _ (h.cl i q hq hk).1, ok _ (h.cl i q hq hk).2⟩, ok _ h.rf, h.ck, fun w hw => h.cw w (List.mem_append_left _ hw)⟩
theorem Fnd.push (w : Wf rs) {i : Nat} {q : Row} (hq : rs[i]? = some q) (h : Fnd rs a ks (ws ++ [((2 + i : Nat) : Int)])) (e : ((2 + i : Nat) : Int) ∉ ks) :
    Fnd rs a (ks ++ [((2 + i : Nat) : Int)]) (ws ++ [q.2.1] ++ [q.2.2]) := by
  have ok : ∀ r, InB ks (ws ++ [((2 + i : Nat) : Int)]) r → InB (ks ++ [((2 + i : Nat) : Int)]) (ws ++ [q.2.1] ++ [q.2.2]) r := fun r hr => by
    rcases hr with k | k | k
    · exact .inl k
    · exact .inr (.inl (List.mem_append_left _ k))
    · rcases List.mem_append.mp k with k | k
      · exact .inr (.inr (List.mem_append_left _ (List.mem_append_left _ k)))
      · exact .inr (.inl (List.mem_append_right _ k))
  have hc := h.cw _ (List.mem_append_right _ (List.mem_singleton.mpr rfl))
  refine ⟨fun k hk => ?_, fun r hr => ?_, ?_, fun i' q' hq' hk => ?_, ok _ h.rf, fun k hk => ?_, fun r hr => ?_⟩
  · rcases List.mem_append.mp hk with hk | hk
    · exact h.kr k hk
    · rw [List.mem_singleton.mp hk]; exact ⟨by omega, Rf.node hq⟩
  · rcases List.mem_append.mp hr with hr | hr
    · rcases List.mem_append.mp hr with hr | hr
      · exact h.wr r (List.mem_append_left _ hr)
      · rw [List.mem_singleton.mp hr]; exact w.rlo hq
    · rw [List.mem_singleton.mp hr]; exact w.rhi hq
  · refine List.nodup_append.mpr ⟨h.nd, List.pairwise_singleton _ _, fun x hx y hy => ?_⟩
    rw [List.mem_singleton.mp hy]
    intro z
    exact e (by rw [← z]; exact hx)
  · rcases List.mem_append.mp hk with hk | hk
    · exact ⟨ok _ (h.cl i' q' hq' hk).1, ok _ (h.cl i' q' hq' hk).2⟩
    · have hk := List.mem_singleton.mp hk
      have : i' = i := by omega
      subst this
      rw [hq] at hq'
      cases Option.some.inj hq'
      exact ⟨.inr (.inr (by simp)), .inr (.inr (by simp))⟩
  · rcases List.mem_append.mp hk with hk | hk
    · exact h.ck k hk
    · rw [List.mem_singleton.mp hk]; exact hc
  · rcases List.mem_append.mp hr with hr | hr
    · rcases List.mem_append.mp hr with hr | hr
      · exact h.cw r (List.mem_append_left _ hr)
      · rw [List.mem_singleton.mp hr]; exact Rch.lo hq hc
    · rw [List.mem_singleton.mp hr]; exact Rch.hi hq hc
/-- what can be reached is among the nodes below -/
theorem BelowR.all (bl : BelowR rs [a] ns) {x : Int} (h : Rch rs [a] x) : x < 2 ∨ x ∈ ns := by
  induction h with
  | base h => exact bl.rf _ h
  | lo hq _ ih =>
    rcases ih with k | k
    · omega
    · exact (bl.cl _ _ hq k).1
  | hi hq _ ih =>
    rcases ih with k | k
    · omega
    · exact (bl.cl _ _ hq k).2
theorem Fnd.few (h : Fnd rs a ks ws) (bl : BelowR rs [a] ns) : ks.length ≤ ns.length := nodup_sub h.nd fun x hx => by
  rcases bl.all (h.ck x hx) with k | k
  · have := (h.kr x hx).1; omega
  · exact k
theorem Fnd.done (h : Fnd rs a ks []) (bl : BelowR rs [a] ns) : ns = sortI ks := by
  have all : ∀ {x : Int}, Rch rs [a] x → x < 2 ∨ x ∈ ks := fun {x} hx => by
    induction hx with
    | base h1 =>
      rw [List.mem_singleton.mp h1]
      rcases h.rf with k | k | k
      · exact .inl k
      · exact .inr k
      · cases k
    | lo hq _ ih =>
      rcases ih with k | k
      · omega
      · rcases (h.cl _ _ hq k).1 with z | z | z
        · exact .inl z
        · exact .inr z
        · cases z
    | hi hq _ ih =>
      rcases ih with k | k
      · omega
      · rcases (h.cl _ _ hq k).2 with z | z | z
        · exact .inl z
        · exact .inr z
        · cases z
  have nn : ns.Nodup := bl.asc.imp fun h => by omega
  refine sortI_is ks ns ((List.perm_ext_iff_of_nodup nn h.nd).mpr fun x => ⟨fun hx => ?_, fun hx => ?_⟩) (bl.asc.imp fun h => by omega)
  · rcases all (bl.rc x hx) with k | k
    · have := (bl.kr x hx).1; omega
    · exact k
  · rcases bl.all (h.ck x hx) with k | k
    · have := (h.kr x hx).1; omega
    · exact k
end
section
variable {n ch N : Nat} {S : Sto} {rs : List Row} {cs : List (List Key × D)} {a : Int} {ns : List Int}
theorem reached_ok (st : StAt S n rs ch cs) (w : Wf rs) (bl : BelowR rs [a] ns) (hr : Rf rs a) :
    ∃ (Y : Nat) (S' : Sto), h_law_reached [.obj n, .int a] S = .ok (.obj Y) S' ∧ S'[Y]? = some (.lst (ns.map D.int)) ∧ Fr (fun _ => False) S S' := by
  have sl := sizeLine_eq
  have s1 : (1 : Nat) ≤ sizeLine := by omega
  have s0 : (0 : Nat) ≤ sizeLine := by omega
  have nl := bl.len
  unfold h_law_reached
  walk_at "env"
  unfold b_law_reached
  have o1 : OkR (200 : Int) := okr_nat (n := 200) (by decide)
  repeat (first | simp only [if_pos s1, if_pos s0, o1, if_true] | walk_at "ev0")
  have hW0 : (S ++ [Ob.lst [D.int a]] ++ [Ob.lst []])[S.length]? = some (.lst ([a].map D.int)) := by rw [List.append_assoc]; exact ap_get0
  have hK0 : (S ++ [Ob.lst [D.int a]] ++ [Ob.lst []])[S.length + 1]? = some (.lst (([] : List Int).map D.int)) := by rw [List.append_assoc]; exact ap_get (i := 1)
  have f0 : Fr (fun _ => False) S (S ++ [Ob.lst [D.int a]] ++ [Ob.lst []]) := (Fr.refl.add _).add _
  generalize S ++ [Ob.lst [D.int a]] ++ [Ob.lst []] = S1 at *
  have F0 : Fnd rs a [] [a] := ⟨fun k hk => (by cases hk), fun x hx => (by rw [List.mem_singleton.mp hx]; exact hr), List.nodup_nil, fun i q hq hk => (by cases hk), .inr (.inr (List.mem_singleton.mpr rfl)), fun k hk => (by cases hk), fun x hx => Rch.base hx⟩
  generalize e : dLoop _ _ _ _ _ _ = r
  have key := loop_idx e (fun i ρ S' => ∃ (v4 v5 : Option D) (ks ws : List Int), ρ = [some (.obj n), some (.int a), some (.obj S.length), some (.obj (S.length + 1)), v4, v5] ∧ S'[S.length]? = some (.lst (ws.map D.int)) ∧ S'[S.length + 1]? = some (.lst (ks.map D.int)) ∧ Fr (fun _ => False) S S' ∧ Fnd rs a ks ws ∧ ws.length + i ≤ 1 + 2 * ks.length)
    (fun q => ∃ (v4 v5 : Option D) (ks : List Int) (S' : Sto), q = .nx [some (.obj n), some (.int a), some (.obj S.length), some (.obj (S.length + 1)), v4, v5] S' ∧ S'[S.length + 1]? = some (.lst (ks.map D.int)) ∧ Fr (fun _ => False) S S' ∧ Fnd rs a ks [])
    ⟨none, none, [], [a], rfl, hW0, hK0, f0, F0, by show 1 + 0 ≤ 1 + 2 * 0; omega⟩ (by
      rintro i x ρ S2 hx ⟨v4, v5, ks, ws, rfl, hW, hK, fr, F, sz⟩
      refine ⟨_, rfl, ?_⟩
      clear e
      have few := F.few bl
      rcases List.eq_nil_or_concat ws with rfl | ⟨us, c, rfl⟩
      · repeat (first | simp only [hW] | walk_at "ev0")
        exact ⟨_, _, ks, _, rfl, hK, fr, F⟩
      · rw [List.concat_eq_append] at *
        have ew : (us ++ [c]).map D.int = us.map D.int ++ [D.int c] := by rw [List.map_append]; rfl
        rw [List.length_append, List.length_singleton] at sz
        rw [ew] at hW
        have ep := pop_ok hW
        have ne0 : ¬ ((us.length + 1 : Nat) : Int) = 0 := by omega
        obtain ⟨S3, hS3⟩ : ∃ S3, S2.set S.length (.lst (us.map D.int)) = S3 := ⟨_, rfl⟩
        have f3 : Fr (fun _ => False) S S3 := by rw [← hS3]; exact fr.set _ fun h => absurd h (Nat.lt_irrefl _)
        have hW3 : S3[S.length]? = some (.lst (us.map D.int)) := by rw [← hS3]; exact get_put hW
        have hK3 : S3[S.length + 1]? = some (.lst (ks.map D.int)) := by rw [← hS3, get_put_ne (by omega)]; exact hK
        rw [hS3] at ep
        have ei := inV_ints (x := c) (ns := ks)
        have es := scs_intL ks
        by_cases hc : c > 1
        · by_cases hm : c ∈ ks
          · rw [decide_eq_true hm] at ei
            repeat (first | simp only [hW, decide_eq_false ne0, ep, decide_eq_true hc, hK3, es, ei] | walk_at "ev0")
            exact ⟨_, _, ks, us, rfl, (by first | exact hW3 | rfl), (by first | exact hK3 | rfl), f3, F.skip (.inr hm), by omega⟩
          · rw [decide_eq_false hm] at ei
            obtain ⟨j, q, rfl, hq⟩ : ∃ (j : Nat) (q : Row), c = ((2 + j : Nat) : Int) ∧ rs[j]? = some q := by
              rcases (F.wr c (List.mem_append_right _ List.mem_cons_self)).cases with k | k | k
              · omega
              · omega
              · exact k
            have F2 := F.push w hq hm
            have few2 := F2.few bl
            rw [List.length_append, List.length_singleton] at few2
            have c1 : (ks.map D.int).length < sizeLine := by rw [List.length_map]; omega
            have c2 : (us.map D.int).length < sizeLine := by rw [List.length_map]; omega
            have c1' : ks.length < sizeLine := by omega
            have c2' : us.length < sizeLine := by omega
            have c3' : us.length + 1 < sizeLine := by omega
            have c3'' : (us ++ [q.2.1]).length < sizeLine := by rw [List.length_append, List.length_singleton]; omega
            have c3 : ((us ++ [q.2.1]).map D.int).length < sizeLine := by rw [List.length_map, List.length_append, List.length_singleton]; omega
            obtain ⟨S4, hS4⟩ : ∃ S4, S3.set (S.length + 1) (.lst ((ks ++ [((2 + j : Nat) : Int)]).map D.int)) = S4 := ⟨_, rfl⟩
            have f4 : Fr (fun _ => False) S S4 := by rw [← hS4]; exact f3.set _ fun h => absurd h (by omega)
            have hK4 : S4[S.length + 1]? = some (.lst ((ks ++ [((2 + j : Nat) : Int)]).map D.int)) := by rw [← hS4]; exact get_put hK3
            have hW4 : S4[S.length]? = some (.lst (us.map D.int)) := by rw [← hS4, get_put_ne (by omega)]; exact hW3
            obtain ⟨S5, hS5⟩ : ∃ S5, S4.set S.length (.lst ((us ++ [q.2.1]).map D.int)) = S5 := ⟨_, rfl⟩
            have f5 : Fr (fun _ => False) S S5 := by rw [← hS5]; exact f4.set _ fun h => absurd h (Nat.lt_irrefl _)
            have hW5 : S5[S.length]? = some (.lst ((us ++ [q.2.1]).map D.int)) := by rw [← hS5]; exact get_put hW4
            have hK5 : S5[S.length + 1]? = some (.lst ((ks ++ [((2 + j : Nat) : Int)]).map D.int)) := by rw [← hS5, get_put_ne (by omega)]; exact hK4
            obtain ⟨S6, hS6⟩ : ∃ S6, S5.set S.length (.lst ((us ++ [q.2.1] ++ [q.2.2]).map D.int)) = S6 := ⟨_, rfl⟩
            have f6 : Fr (fun _ => False) S S6 := by rw [← hS6]; exact f5.set _ fun h => absurd h (Nat.lt_irrefl _)
            have hW6 : S6[S.length]? = some (.lst ((us ++ [q.2.1] ++ [q.2.2]).map D.int)) := by rw [← hS6]; exact get_put hW5
            have hK6 : S6[S.length + 1]? = some (.lst ((ks ++ [((2 + j : Nat) : Int)]).map D.int)) := by rw [← hS6, get_put_ne (by omega)]; exact hK5
            have e0 : ks.map D.int ++ [D.int ((2 + j : Nat) : Int)] = (ks ++ [((2 + j : Nat) : Int)]).map D.int := by rw [List.map_append]; rfl
            have e1 : us.map D.int ++ [D.int q.2.1] = (us ++ [q.2.1]).map D.int := by rw [List.map_append]; rfl
            have e2 : (us ++ [q.2.1]).map D.int ++ [D.int q.2.2] = (us ++ [q.2.1] ++ [q.2.2]).map D.int := by rw [List.map_append (l₂ := [q.2.2])]; rfl
            have st4 := st.fr f4 (fun _ _ z => z)
            have st5 := st.fr f5 (fun _ _ z => z)
            have k1 := low_ok st4 hq
            have k2 := high_ok st5 hq
            have mtw : metO "Store" "low" (some (inSt n ch)) = true := st_met (by simp +decide only [fldL, if_false])
            have mth : metO "Store" "high" (some (inSt n ch)) = true := st_met (by simp +decide only [fldL, if_false])
            repeat (first | simp only [hW, decide_eq_false ne0, ep, decide_eq_true hc, hK3, es, ei, if_pos c1, if_pos c1', if_pos c2', if_pos c3', if_pos c3'', List.length_map, e0, hS4, hW4, st4.ob, mtw, k1, if_pos c2, e1, hS5, hW5, st5.ob, mth, k2, if_pos c3, e2, hS6, if_true] | walk_at "ev0")
            refine ⟨_, _, _, us ++ [q.2.1] ++ [q.2.2], rfl, (by first | exact hW6 | rfl), (by first | exact hK6 | rfl), f6, F2, ?_⟩
            rw [List.length_append, List.length_append, List.length_append, List.length_singleton, List.length_singleton, List.length_singleton]
            omega
        · repeat (first | simp only [hW, decide_eq_false ne0, ep, decide_eq_false hc] | walk_at "ev0")
          exact ⟨_, _, ks, us, rfl, (by first | exact hW3 | rfl), (by first | exact hK3 | rfl), f3, F.skip (.inl (by omega)), by omega⟩)
    (by
      rintro ρ S2 ⟨v4, v5, ks, ws, rfl, hW, hK, fr, F, sz⟩
      have few := F.few bl
      have : (rng 0 200).length = 200 := rng_len
      exfalso
      have sz : ws.length + (rng 0 (200 : Int).toNat).length ≤ 1 + 2 * ks.length := sz
      rw [rng_len] at sz
      have : (200 : Int).toNat = 200 := rfl
      omega)
  clear e
  obtain ⟨v4, v5, ks, S2, rfl, hK, fr, F⟩ := key
  have few := F.few bl
  have l1 : ks.length < 64 := by omega
  have ed := F.done bl
  have l2 : (sortI ks).length ≤ sizeLine := by rw [← ed]; omega
  have ea : asInts (ks.map D.int) = some ks := asInts_ints ks
  repeat (first | simp only [hK, Option.bind_some, ea, if_pos l1, List.length_map, if_pos l2] | walk_at "ev0")
  exact ⟨_, _, rfl, by rw [← ed]; exact Ev.appNew, fr.add _⟩
end

/-! ### tables, level by level -/
theorem picks_all {α : Type} {xs : List α} : ∀ ks : List Nat, (∀ k ∈ ks, k < xs.length) → (picks xs ks).length = ks.length ∧ ∀ i : Nat, (picks xs ks)[i]? = (ks[i]?).bind fun k => xs[k]?
  | [], _ => ⟨rfl, fun i => rfl⟩
  | k :: ks, h => by
    have ih := picks_all (xs := xs) ks fun j hj => h j (List.mem_cons_of_mem _ hj)
    have hk := List.getElem?_eq_getElem (h k List.mem_cons_self)
    rw [picks_cons, hk]
    refine ⟨by rw [List.length_cons, List.length_cons, ih.1], fun i => ?_⟩
    match i with
    | 0 => exact hk.symm
    | i + 1 => exact ih.2 i
theorem stp_get {α : Type} {xs : List α} {n a : Nat} (hx : xs.length = 2 * n) (ha : a ≤ 1) : (stp a xs).length = n ∧ ∀ i, i < n → (stp a xs)[i]? = xs[a + 2 * i]? := by
  have hc : (xs.length - a + 1) / 2 = n := by omega
  have h := picks_all (xs := xs) (evens a xs.length) fun k hk => by
    obtain ⟨j, hj, rfl⟩ := List.mem_map.mp hk
    have := List.mem_range.mp hj
    omega
  have hl : (evens a xs.length).length = n := by unfold evens; rw [List.length_map, List.length_range, hc]
  refine ⟨h.1.trans hl, fun i hi => ?_⟩
  have e : (evens a xs.length)[i]? = some (a + 2 * i) := by
    unfold evens
    rw [List.getElem?_map, List.getElem?_range (by omega)]
    rfl
  show (picks xs (evens a xs.length))[i]? = _
  rw [h.2 i, e]
  rfl
theorem bit_pair {a i : Nat} (ha : a ≤ 1) : (a + 2 * i).testBit 0 = decide (a = 1) ∧ ∀ k, (a + 2 * i).testBit (k + 1) = i.testBit k := by
  refine ⟨?_, fun k => ?_⟩
  · rw [Nat.testBit_zero]
    by_cases h : a = 1
    · rw [decide_eq_true h]; exact decide_eq_true (by omega)
    · rw [decide_eq_false h]; exact decide_eq_false (by omega)
  · rw [Nat.testBit_succ, show (a + 2 * i) / 2 = i by omega]
/-- the table of what a reference becomes when the first level has a value -/
theorem Tb.stp {rs : List Row} {x : Int} {ls : List Int} {r s : Int} {t : List Bool} {a : Nat} (h : Tb rs (x :: ls) r t) (nx : x ∉ ls) (ha : a ≤ 1) (hs : Rf rs s) (e : ∀ β, val rs β s = val rs (bput β x (decide (a = 1))) r) : Tb rs ls s (stp a t) := by
  have hl : t.length = 2 * 2 ^ ls.length := by rw [h.len, List.length_cons, Nat.pow_succ, Nat.mul_comm]
  obtain ⟨g1, g2⟩ := stp_get hl ha
  refine ⟨hs, g1, fun i hi β ag => ?_⟩
  rw [g2 i hi, e]
  refine h.eq (a + 2 * i) (by rw [List.length_cons, Nat.pow_succ]; omega) _ fun k l hk => ?_
  match k, hk with
  | 0, hk =>
    cases Option.some.inj hk
    unfold bput
    rw [if_pos rfl, (bit_pair ha).1]
  | k + 1, hk =>
    have hk : ls[k]? = some l := hk
    unfold bput
    rw [if_neg fun z => nx (by rw [← z]; exact List.mem_of_getElem? hk), ag k l hk, (bit_pair ha).2]
/-- the rows of the next level, as the law finds them -/
def addT (bs : List (List Bool)) (t : List Bool) : List (List Bool) := if t ∈ bs then bs else bs ++ [t]
def stepT (bs : List (List Bool)) (row : List Bool) : List (List Bool) := if stp 0 row = stp 1 row then addT bs (stp 0 row) else addT (addT bs (stp 1 row)) (stp 0 row)
def belowT (rows : List (List Bool)) : List (List Bool) := rows.foldl stepT []
def cntT (rows : List (List Bool)) : Nat := (rows.filter fun t => decide (stp 0 t ≠ stp 1 t)).length
def totT : Nat → List (List Bool) → Nat
  | 0, _ => 0
  | m + 1, rows => cntT rows + totT m (belowT rows)
theorem addT_nd {bs : List (List Bool)} {t : List Bool} (h : bs.Nodup) : (addT bs t).Nodup := by
  unfold addT
  split
  · exact h
  · rename_i hn
    exact List.nodup_append.mpr ⟨h, List.pairwise_singleton _ _, fun x hx y hy => by rw [List.mem_singleton.mp hy]; intro z; exact hn (by rw [← z]; exact hx)⟩
theorem addT_mem {bs : List (List Bool)} {t u : List Bool} : u ∈ addT bs t ↔ u ∈ bs ∨ u = t := by
  unfold addT
  split
  · rename_i hm
    exact ⟨.inl, fun h => by
      rcases h with h | rfl
      · exact h
      · exact hm⟩
  · rw [List.mem_append, List.mem_singleton]
theorem stepT_nd {bs : List (List Bool)} {t : List Bool} (h : bs.Nodup) : (stepT bs t).Nodup := by
  unfold stepT
  split
  · exact addT_nd h
  · exact addT_nd (addT_nd h)
theorem stepT_mem {bs : List (List Bool)} {t u : List Bool} : u ∈ stepT bs t ↔ u ∈ bs ∨ u = stp 0 t ∨ u = stp 1 t := by
  unfold stepT
  split
  · rename_i e
    rw [addT_mem, ← e]
    constructor
    · rintro (h | h)
      · exact .inl h
      · exact .inr (.inl h)
    · rintro (h | h | h)
      · exact .inl h
      · exact .inr h
      · exact .inr h
  · rw [addT_mem, addT_mem]
    constructor
    · rintro ((h | h) | h)
      · exact .inl h
      · exact .inr (.inr h)
      · exact .inr (.inl h)
    · rintro (h | h | h)
      · exact .inl (.inl h)
      · exact .inr h
      · exact .inl (.inr h)
theorem belowT_fold : ∀ (rows bs : List (List Bool)), bs.Nodup → (rows.foldl stepT bs).Nodup ∧ ∀ u, u ∈ rows.foldl stepT bs ↔ u ∈ bs ∨ ∃ t ∈ rows, u = stp 0 t ∨ u = stp 1 t
  | [], bs, h => ⟨h, fun u => ⟨.inl, fun k => by
    rcases k with k | ⟨t, k, _⟩
    · exact k
    · cases k⟩⟩
  | t :: rows, bs, h => by
    obtain ⟨h1, h2⟩ := belowT_fold rows (stepT bs t) (stepT_nd h)
    refine ⟨h1, fun u => ?_⟩
    rw [List.foldl_cons, h2 u, stepT_mem]
    constructor
    · rintro ((k | k) | ⟨v, k1, k2⟩)
      · exact .inl k
      · exact .inr ⟨t, List.mem_cons_self, k⟩
      · exact .inr ⟨v, List.mem_cons_of_mem _ k1, k2⟩
    · rintro (k | ⟨v, k1, k2⟩)
      · exact .inl (.inl k)
      · rcases List.mem_cons.mp k1 with rfl | k1
        · exact .inl (.inr k2)
        · exact .inr ⟨v, k1, k2⟩
theorem belowT_nd (rows : List (List Bool)) : (belowT rows).Nodup := (belowT_fold rows [] List.nodup_nil).1
theorem belowT_mem {rows : List (List Bool)} {u : List Bool} : u ∈ belowT rows ↔ ∃ t ∈ rows, u = stp 0 t ∨ u = stp 1 t := by
  have := (belowT_fold rows [] List.nodup_nil).2 u
  unfold belowT
  rw [this]
  exact ⟨fun k => by
    rcases k with k | k
    · cases k
    · exact k, .inr⟩

/-! ### the nodes below, level by level -/
theorem rel_le {α β : Type} [DecidableEq β] {T : α → β → Prop} : ∀ {l : List α} {m : List β}, l.Nodup → (∀ a ∈ l, ∃ b ∈ m, T a b) → (∀ a a' b, a ∈ l → a' ∈ l → T a b → T a' b → a = a') → l.length ≤ m.length
  | [], _, _, _, _ => Nat.zero_le _
  | x :: l, m, nd, h1, h2 => by
    have n2 := List.nodup_cons.mp nd
    obtain ⟨b, hb, tb⟩ := h1 x List.mem_cons_self
    have ih := rel_le (T := T) (l := l) (m := m.erase b) n2.2 (fun a ha => by
      obtain ⟨c, hc, tc⟩ := h1 a (List.mem_cons_of_mem _ ha)
      refine ⟨c, (List.mem_erase_of_ne fun e => ?_).mpr hc, tc⟩
      subst e
      have := h2 a x c (List.mem_cons_of_mem _ ha) List.mem_cons_self tc tb
      exact n2.1 (by rw [← this]; exact ha)) fun a a' c ha ha' => h2 a a' c (List.mem_cons_of_mem _ ha) (List.mem_cons_of_mem _ ha')
    rw [List.length_erase_of_mem hb] at ih
    have : 0 < m.length := List.length_pos_of_mem hb
    rw [List.length_cons]
    omega
theorem Tb.det {rs : List Row} {lv : List Int} {r : Int} {t u : List Bool} (nd : lv.Nodup) (h1 : Tb rs lv r t) (h2 : Tb rs lv r u) : t = u := by
  refine List.ext_getElem? fun i => ?_
  by_cases hi : i < 2 ^ lv.length
  · rw [h1.eq i hi _ (setL_agr lv i (fun _ => false) nd), h2.eq i hi _ (setL_agr lv i (fun _ => false) nd)]
  · rw [List.getElem?_eq_none_iff.mpr (by rw [h1.len]; omega), List.getElem?_eq_none_iff.mpr (by rw [h2.len]; omega)]
theorem Rch.rf {rs : List Row} {R : List Int} (w : Wf rs) (h : ∀ r ∈ R, Rf rs r) {n : Int} (hn : Rch rs R n) : Rf rs n := by
  induction hn with
  | base h1 => exact h _ h1
  | lo hq _ _ => exact w.rlo hq
  | hi hq _ _ => exact w.rhi hq
section
variable {rs : List Row} (w : Wf rs) {x : Int} {ls R : List Int}
/-- what a root becomes -/
def cofA (rs : List Row) (x : Int) (r : Int) : Int := if lvl rs r = some x then loI rs r else r
def cofB (rs : List Row) (x : Int) (r : Int) : Int := if lvl rs r = some x then hiI rs r else r
theorem not_at {r : Int} (hr : Rf rs r) (hl : ∀ (i : Nat) (q : Row), rs[i]? = some q → r = ((2 + i : Nat) : Int) → x ≤ q.1) (h : lvl rs r ≠ some x) : Above rs x r := by
  rcases hr.cases with rfl | rfl | ⟨i, q, rfl, hq⟩
  · exact Above.const (by decide)
  · exact Above.const (by decide)
  · intro l e
    rw [lvl_node hq] at e h
    have h1 := hl i q hq rfl
    have h2 : q.1 ≠ x := fun z => h (by rw [z])
    have h3 := Option.some.inj e
    omega
include w in
theorem cof_val {r : Int} (hr : Rf rs r) (hl : ∀ (i : Nat) (q : Row), rs[i]? = some q → r = ((2 + i : Nat) : Int) → x ≤ q.1) :
    (Rf rs (cofA rs x r) ∧ Above rs x (cofA rs x r) ∧ ∀ β, val rs β (cofA rs x r) = val rs (bput β x false) r) ∧ (Rf rs (cofB rs x r) ∧ Above rs x (cofB rs x r) ∧ ∀ β, val rs β (cofB rs x r) = val rs (bput β x true) r) := by
  unfold cofA cofB
  by_cases h : lvl rs r = some x
  · rw [if_pos h, if_pos h]
    rcases hr.cases with rfl | rfl | ⟨i, q, rfl, hq⟩
    · rw [lvl_const (by decide)] at h; cases h
    · rw [lvl_const (by decide)] at h; cases h
    · rw [lvl_node hq] at h
      have hx := Option.some.inj h
      rw [loI_node hq, hiI_node hq]
      have a1 := w.alo i q hq
      have a2 := w.ahi i q hq
      rw [hx] at a1 a2
      refine ⟨⟨w.rlo hq, a1, fun β => ?_⟩, ⟨w.rhi hq, a2, fun β => ?_⟩⟩
      · rw [val_node w hq, hx, if_neg (by unfold bput; rw [if_pos rfl]; decide), val_bput w (w.rlo hq) a1]
      · rw [val_node w hq, hx, if_pos (by unfold bput; rw [if_pos rfl]), val_bput w (w.rhi hq) a2]
  · rw [if_neg h, if_neg h]
    have ha := not_at hr hl h
    exact ⟨⟨hr, ha, fun β => (val_bput w hr ha β false).symm⟩, ⟨hr, ha, fun β => (val_bput w hr ha β true).symm⟩⟩
end

/-- what a function becomes when a level has a value -/
def Becomes (rs rs' : List Row) (x : Int) (v : Bool) (r s : Int) : Prop := Rf rs' s ∧ ∀ β, val rs' β s = val rs (bput β x v) r
theorem Becomes.ext {rs rs' ts : List Row} {x r s : Int} {v : Bool} (h : Becomes rs rs' x v r s) : Becomes rs (rs' ++ ts) x v r s :=
  ⟨h.1.ext, fun β => by rw [val_ext h.1, h.2]⟩
theorem Becomes.above {rs rs' : List Row} (w : Wf rs) (w' : Wf rs') {x r s l : Int} {v : Bool} (h : Becomes rs rs' x v r s) (hr : Rf rs r) (ha : Above rs l r) : Above rs' l s :=
  above_of w' h.1 fun β γ e => by
    rw [h.2, h.2]
    refine indep w l _ r (Nat.lt_succ_self _) hr ha _ _ fun k hk => ?_
    unfold bput
    split
    · rfl
    · exact e k hk

/-! ### tables of what a function becomes -/
def andT (a b : List Bool) : List Bool := (List.range a.length).map fun k => a.getD k false && b.getD k false
theorem andT_len {a b : List Bool} : (andT a b).length = a.length := by unfold andT; rw [List.length_map, List.length_range]
theorem Tb.and {rs rs' : List Row} {lv : List Int} {x y r : Int} {t u : List Bool} (h1 : Tb rs lv x t) (h2 : Tb rs lv y u) (hr : Rf rs' r) (hv : ∀ β, val rs' β r = (val rs β x && val rs β y)) : Tb rs' lv r (andT t u) :=
  ⟨hr, by rw [andT_len, h1.len], fun i hi β ag => by
    unfold andT
    rw [List.getElem?_map, List.getElem?_range (by rw [h1.len]; exact hi), hv, ← h1.at hi ag, ← h2.at hi ag]
    rfl⟩
theorem Tb.high {rs rs' : List Row} {lv : List Int} {x s l : Int} {t : List Bool} (nd : lv.Nodup) (h : Tb rs lv x t) {k : Nat} (hk : lv[k]? = some l) (B : Becomes rs rs' l true x s) : Tb rs' lv s (highT lv.length k t) :=
  ⟨B.1, by unfold highT; rw [List.length_map, List.length_range], fun i hi β ag => by
    have hkl := lt_of_get hk
    unfold highT
    rw [List.getElem?_map, List.getElem?_range hi, B.2]
    refine congrArg some (h.at (sett_lt hkl hi) fun j l' hj => ?_)
    unfold bput
    rw [sett_bit]
    by_cases e : j = k
    · subst e
      rw [hk] at hj
      rw [if_pos (Option.some.inj hj).symm, decide_eq_true rfl, Bool.or_true]
    · rw [if_neg fun z => e ((List.getElem?_inj (lt_of_get hj) nd).mp (by rw [hj, hk, z])), decide_eq_false e, Bool.or_false, ag j l' hj]⟩
theorem Tb.low {rs rs' : List Row} {lv : List Int} {x s l : Int} {t : List Bool} (nd : lv.Nodup) (h : Tb rs lv x t) {k : Nat} (hk : lv[k]? = some l) (B : Becomes rs rs' l false x s) : Tb rs' lv s (lowT lv.length k t) :=
  ⟨B.1, by unfold lowT; rw [List.length_map, List.length_range], fun i hi β ag => by
    have hkl := lt_of_get hk
    unfold lowT
    rw [List.getElem?_map, List.getElem?_range hi, B.2]
    refine congrArg some (h.at (clr_lt hkl) fun j l' hj => ?_)
    unfold bput
    rw [clr_bit hkl hi]
    by_cases e : j = k
    · subst e
      rw [hk] at hj
      rw [if_pos (Option.some.inj hj).symm, decide_eq_false (fun z => z rfl), Bool.and_false]
    · rw [if_neg fun z => e ((List.getElem?_inj (lt_of_get hj) nd).mp (by rw [hj, hk, z])), decide_eq_true e, Bool.and_true, ag j l' hj]⟩
theorem Tb.out {rs rs' : List Row} {lv : List Int} {x s l : Int} {t : List Bool} {v : Bool} (h : Tb rs lv x t) (hl : l ∉ lv) (B : Becomes rs rs' l v x s) : Tb rs' lv s t :=
  ⟨B.1, h.len, fun i hi β ag => by
    rw [B.2]
    refine h.eq i hi _ fun j l' hj => ?_
    unfold bput
    rw [if_neg fun z => hl (by rw [← z]; exact List.mem_of_getElem? hj)]
    exact ag j l' hj⟩
theorem Tb.same1 {rs : List Row} {lv : List Int} (w : Wf rs) {a b : Int} {t : List Bool} (h1 : Tb rs lv a t) (h2 : Tb rs lv b t) : a = b :=
  canon' w h1.rf h2.rf fun β => by
    have k1 := h1.eq _ (idx_lt lv β) β (idx_agr lv β)
    have k2 := h2.eq _ (idx_lt lv β) β (idx_agr lv β)
    rw [k1] at k2
    exact Option.some.inj k2

theorem layers {rs : List Row} (w : Wf rs) : ∀ (ls R : List Int) (rows : List (List Bool)) (ns : List Int), ls.Pairwise (· < ·) → rows.Nodup → (∀ r ∈ R, ∃ t ∈ rows, Tb rs ls r t) → (∀ t ∈ rows, ∃ r ∈ R, Tb rs ls r t) →
    (∀ (i : Nat) (q : Row), rs[i]? = some q → Rch rs R ((2 + i : Nat) : Int) → q.1 ∈ ls) → ns.Nodup → (∀ n, n ∈ ns ↔ 2 ≤ n ∧ Rch rs R n) → ns.length = totT ls.length rows
  | [], R, rows, ns, _, _, hR, _, hl, _, hn => by
    have : ns = [] := List.eq_nil_iff_forall_not_mem.mpr fun n hx => by
      obtain ⟨h2, hr⟩ := (hn n).mp hx
      rcases (Rch.rf w (fun r hr => by obtain ⟨t, _, ht⟩ := hR r hr; exact ht.rf) hr).cases with k | k | ⟨i, q, rfl, hq⟩
      · omega
      · omega
      · exact List.not_mem_nil (hl i q hq hr)
    rw [this]; rfl
  | x :: ls, R, rows, ns, asc, ndr, hR, hT, hl, ndn, hn => by
    have ax := List.pairwise_cons.mp asc
    have nx : x ∉ ls := fun z => by have := ax.1 x z; omega
    have nd : (x :: ls).Nodup := asc.imp fun h => by omega
    have nd2 : ls.Nodup := ax.2.imp fun h => by omega
    have rfR : ∀ r ∈ R, Rf rs r := fun r hr => by obtain ⟨t, _, ht⟩ := hR r hr; exact ht.rf
    have lR : ∀ r, Rch rs R r → ∀ (i : Nat) (q : Row), rs[i]? = some q → r = ((2 + i : Nat) : Int) → x ≤ q.1 := fun r hr i q hq e => by
      subst e
      rcases List.mem_cons.mp (hl i q hq hr) with e | e
      · omega
      · have := ax.1 _ e; omega
    have root : ∀ n, Rch rs R n → lvl rs n = some x → n ∈ R := fun n hn hx => by
      cases hn with
      | base h => exact h
      | lo hq z =>
        have h1 := w.alo _ _ hq _ hx
        have h2 := lR _ z _ _ hq rfl
        omega
      | hi hq z =>
        have h1 := w.ahi _ _ hq _ hx
        have h2 := lR _ z _ _ hq rfl
        omega
    have cof := fun r (hr : r ∈ R) => cof_val w (x := x) (rfR r hr) (lR r (Rch.base hr))
    obtain ⟨R', hR'⟩ : ∃ R', (R.flatMap fun r => [cofA rs x r, cofB rs x r]) = R' := ⟨_, rfl⟩
    have memR : ∀ s, s ∈ R' ↔ ∃ r ∈ R, s = cofA rs x r ∨ s = cofB rs x r := fun s => by
      rw [← hR', List.mem_flatMap]
      simp only [List.mem_cons, List.not_mem_nil, or_false]
    have tA : ∀ r ∈ R, ∀ t, Tb rs (x :: ls) r t → Tb rs ls (cofA rs x r) (stp 0 t) := fun r hr t ht => ht.stp nx (by decide) (cof r hr).1.1 (cof r hr).1.2.2
    have tB : ∀ r ∈ R, ∀ t, Tb rs (x :: ls) r t → Tb rs ls (cofB rs x r) (stp 1 t) := fun r hr t ht => ht.stp nx (by decide) (cof r hr).2.1 (cof r hr).2.2.2
    have above : ∀ n, Rch rs R' n → Above rs x n := fun n hn => by
      induction hn with
      | base h =>
        obtain ⟨r, hr, rfl | rfl⟩ := (memR _).mp h
        · exact (cof r hr).1.2.1
        · exact (cof r hr).2.2.1
      | lo hq _ ih => exact (w.alo _ _ hq).mono (Int.le_of_lt (ih _ (lvl_node hq)))
      | hi hq _ ih => exact (w.ahi _ _ hq).mono (Int.le_of_lt (ih _ (lvl_node hq)))
    have bwd : ∀ n, Rch rs R' n → Rch rs R n := fun n hn => by
      induction hn with
      | base h =>
        obtain ⟨r, hr, e⟩ := (memR _).mp h
        by_cases hx : lvl rs r = some x
        · rcases (rfR r hr).cases with k | k | ⟨i, q, rfl, hq⟩
          · rw [k, lvl_const (by decide)] at hx; cases hx
          · rw [k, lvl_const (by decide)] at hx; cases hx
          · unfold cofA cofB at e
            rw [if_pos hx, if_pos hx, loI_node hq, hiI_node hq] at e
            rcases e with rfl | rfl
            · exact Rch.lo hq (Rch.base hr)
            · exact Rch.hi hq (Rch.base hr)
        · unfold cofA cofB at e
          rw [if_neg hx, if_neg hx] at e
          rcases e with rfl | rfl <;> exact Rch.base hr
      | lo hq _ ih => exact Rch.lo hq ih
      | hi hq _ ih => exact Rch.hi hq ih
    have fwd : ∀ n, Rch rs R n → lvl rs n = some x ∨ Rch rs R' n := fun n hn => by
      induction hn with
      | base h =>
        rename_i r
        by_cases hx : lvl rs r = some x
        · exact .inl hx
        · exact .inr (Rch.base ((memR _).mpr ⟨r, h, .inl (by unfold cofA; rw [if_neg hx])⟩))
      | lo hq z ih =>
        rcases ih with k | k
        · exact .inr (Rch.base ((memR _).mpr ⟨_, root _ z k, .inl (by unfold cofA; rw [if_pos k, loI_node hq])⟩))
        · exact .inr (Rch.lo hq k)
      | hi hq z ih =>
        rcases ih with k | k
        · exact .inr (Rch.base ((memR _).mpr ⟨_, root _ z k, .inr (by unfold cofB; rw [if_pos k, hiI_node hq])⟩))
        · exact .inr (Rch.hi hq k)
    obtain ⟨p, hp⟩ : ∃ p : Int → Bool, p = fun n => decide (lvl rs n = some x) := ⟨_, rfl⟩
    have pt : ∀ n, p n = true ↔ lvl rs n = some x := fun n => by rw [hp]; exact decide_eq_true_iff
    have ih := layers w ls R' (belowT rows) (ns.filter fun n => !p n) ax.2 (belowT_nd rows)
      (fun s hs => by
        obtain ⟨r, hr, e⟩ := (memR s).mp hs
        obtain ⟨t, ht, tt⟩ := hR r hr
        rcases e with rfl | rfl
        · exact ⟨_, belowT_mem.mpr ⟨t, ht, .inl rfl⟩, tA r hr t tt⟩
        · exact ⟨_, belowT_mem.mpr ⟨t, ht, .inr rfl⟩, tB r hr t tt⟩)
      (fun u hu => by
        obtain ⟨t, ht, e⟩ := belowT_mem.mp hu
        obtain ⟨r, hr, tt⟩ := hT t ht
        rcases e with rfl | rfl
        · exact ⟨_, (memR _).mpr ⟨r, hr, .inl rfl⟩, tA r hr t tt⟩
        · exact ⟨_, (memR _).mpr ⟨r, hr, .inr rfl⟩, tB r hr t tt⟩)
      (fun i q hq hz => by
        have h1 := above _ hz _ (lvl_node hq)
        rcases List.mem_cons.mp (hl i q hq (bwd _ hz)) with e | e
        · omega
        · exact e)
      (ndn.filter _)
      (fun n => by
        rw [List.mem_filter, hn n, Bool.not_eq_true', Bool.eq_false_iff]
        constructor
        · rintro ⟨⟨h1, h2⟩, h3⟩
          rcases fwd n h2 with k | k
          · exact absurd ((pt n).mpr k) h3
          · exact ⟨h1, k⟩
        · rintro ⟨h1, h2⟩
          refine ⟨⟨h1, bwd n h2⟩, fun z => ?_⟩
          have := above n h2 _ ((pt n).mp z)
          omega)
    have cnt : (ns.filter p).length = cntT rows := by
      have mA : ∀ n, n ∈ ns.filter p ↔ n ∈ R ∧ lvl rs n = some x := fun n => by
        rw [List.mem_filter, hn n, pt]
        constructor
        · rintro ⟨⟨_, h2⟩, h3⟩; exact ⟨root n h2 h3, h3⟩
        · rintro ⟨h1, h2⟩
          refine ⟨⟨?_, Rch.base h1⟩, h2⟩
          rcases (rfR n h1).cases with rfl | rfl | ⟨i, q, rfl, hq⟩
          · rw [lvl_const (by decide)] at h2; cases h2
          · rw [lvl_const (by decide)] at h2; cases h2
          · omega
      have mC : ∀ t, t ∈ (rows.filter fun t => decide (stp 0 t ≠ stp 1 t)) ↔ t ∈ rows ∧ stp 0 t ≠ stp 1 t := fun t => by
        rw [List.mem_filter, decide_eq_true_iff]
      refine Nat.le_antisymm ?_ ?_
      · refine rel_le (T := fun n t => Tb rs (x :: ls) n t) (ndn.filter _) (fun n hx => ?_) fun a a' b _ _ h1 h2 => Tb.same1 w h1 h2
        obtain ⟨h1, h2⟩ := (mA n).mp hx
        obtain ⟨t, ht, tt⟩ := hR n h1
        refine ⟨t, (mC t).mpr ⟨ht, fun e => ?_⟩, tt⟩
        have k1 := tA n h1 t tt
        have k2 := tB n h1 t tt
        rw [e] at k1
        have k3 := Tb.same1 w k1 k2
        rcases (rfR n h1).cases with rfl | rfl | ⟨i, q, rfl, hq⟩
        · rw [lvl_const (by decide)] at h2; cases h2
        · rw [lvl_const (by decide)] at h2; cases h2
        · unfold cofA cofB at k3
          rw [if_pos h2, if_pos h2, loI_node hq, hiI_node hq] at k3
          exact w.ne i q hq k3
      · refine rel_le (T := fun t n => Tb rs (x :: ls) n t) (ndr.filter _) (fun t ht => ?_) fun a a' b _ _ h1 h2 => Tb.det nd h1 h2
        obtain ⟨h1, h2⟩ := (mC t).mp ht
        obtain ⟨r, hr, tt⟩ := hT t h1
        refine ⟨r, (mA r).mpr ⟨hr, Classical.byContradiction fun hx => h2 ?_⟩, tt⟩
        have k1 := tA r hr t tt
        have k2 := tB r hr t tt
        unfold cofA at k1
        unfold cofB at k2
        rw [if_neg hx] at k1 k2
        exact Tb.det nd2 k1 k2
    rw [filter_split p ns, cnt, ih]
    rfl

/-! ### a table in a list of tables -/
/-- the objects os are the tables bs -/
inductive TbsAt (S : Sto) : List Nat → List (List Bool) → Prop
  | nil : TbsAt S [] []
  | cons {o : Nat} {t : List Bool} {os : List Nat} {bs : List (List Bool)} (h : S[o]? = some (.lst (t.map D.bl))) (r : TbsAt S os bs) : TbsAt S (o :: os) (t :: bs)
theorem TbsAt.fr {X : Nat → Prop} {S S' : Sto} (f : Fr X S S') : ∀ {os : List Nat} {bs : List (List Bool)}, (∀ o ∈ os, ¬ X o) → TbsAt S os bs → TbsAt S' os bs
  | _, _, _, .nil => .nil
  | o :: os, _, hx, .cons h r => .cons (f.at h (hx o List.mem_cons_self)) (TbsAt.fr f (fun p hp => hx p (List.mem_cons_of_mem _ hp)) r)
theorem TbsAt.snoc {S : Sto} {o : Nat} {t : List Bool} (h : S[o]? = some (.lst (t.map D.bl))) : ∀ {os : List Nat} {bs : List (List Bool)}, TbsAt S os bs → TbsAt S (os ++ [o]) (bs ++ [t])
  | _, _, .nil => .cons h .nil
  | _, _, .cons h1 r => .cons h1 (TbsAt.snoc h r)
theorem TbsAt.len {S : Sto} : ∀ {os : List Nat} {bs : List (List Bool)}, TbsAt S os bs → os.length = bs.length
  | _, _, .nil => rfl
  | _, _, .cons _ r => congrArg (· + 1) r.len
theorem TbsAt.get {S : Sto} : ∀ {os : List Nat} {bs : List (List Bool)} {i o : Nat}, TbsAt S os bs → os[i]? = some o → ∃ t, bs[i]? = some t ∧ S[o]? = some (.lst (t.map D.bl))
  | _, _, i, _, .nil, h => by cases h
  | _, _, 0, _, .cons h1 _, h => by cases Option.some.inj h; exact ⟨_, rfl, h1⟩
  | _, _, i + 1, _, .cons _ r, h => r.get (i := i) h
def bP (t : List Bool) : PyData := .list (t.map PyData.bool)
theorem dat_tab {S : Sto} {o k : Nat} {t : List Bool} (h : S[o]? = some (.lst (t.map D.bl))) : dat S (k + 1) (.obj o) = some (bP t) := by
  show ((lstOf S o).bind (datL (dat S k))).map PyData.list = _
  rw [lstOf_lst h, Option.bind_some, datL_bls]
  rfl
theorem datL_tabs {S : Sto} {k : Nat} : ∀ {os : List Nat} {bs : List (List Bool)}, TbsAt S os bs → datL (dat S (k + 1)) (os.map D.obj) = some (bs.map bP)
  | _, _, .nil => rfl
  | _, _, .cons h r => by
    rw [List.map_cons, List.map_cons]
    unfold datL
    rw [dat_tab h, datL_tabs r]
theorem shaped_tabs (bs : List (List Bool)) : PySem.SeqAt.shaped (.list (bs.map bP)) = true := by
  have d0 : ∀ ms : List Bool, PyData.depthAll (ms.map PyData.bool) = 0 := fun ms => by
    induction ms with
    | nil => rfl
    | cons i ms ih => rw [List.map_cons, PyData.depthAll, ih]; rfl
  have l0 : ∀ ms : List Bool, PyData.canLayAll0 (ms.map PyData.bool) = true := fun ms => by
    induction ms with
    | nil => rfl
    | cons i ms ih => rw [List.map_cons, PyData.canLayAll0, ih]; rfl
  have h1 : ∀ ms : List (List Bool), PyData.canLayAll0 (ms.map bP) = true := fun ms => by
    induction ms with
    | nil => rfl
    | cons i ms ih =>
      rw [List.map_cons, PyData.canLayAll0, ih, Bool.and_true]
      unfold bP
      rw [PyData.canLay0]
      exact l0 i
  have h2 : ∀ ms : List (List Bool), PyData.depthAll (ms.map bP) ≤ 1 := fun ms => by
    induction ms with
    | nil => exact Nat.zero_le _
    | cons i ms ih =>
      rw [List.map_cons, PyData.depthAll]
      refine Nat.max_le.mpr ⟨?_, ih⟩
      unfold bP
      rw [PyData.depth, d0]
      exact Nat.le_refl _
  unfold PySem.SeqAt.shaped
  rw [Bool.and_eq_true]
  refine ⟨by rw [PyData.canLay0]; exact h1 bs, decide_eq_true ?_⟩
  rw [PyData.depth]
  have := h2 bs
  omega
theorem any_tabs (t : List Bool) : ∀ bs : List (List Bool), ((bs.map bP).any fun z => PyData.eqv z (bP t)) = decide (t ∈ bs)
  | [] => by simp
  | b :: bs => by
    rw [List.map_cons, List.any_cons, any_tabs t bs]
    have : PyData.eqv (bP b) (bP t) = decide (b = t) := by
      unfold bP
      rw [PyData.eqv, eqvAll_bls]
    rw [this, Bool.eq_iff_iff, Bool.or_eq_true, decide_eq_true_eq, decide_eq_true_eq, decide_eq_true_eq, List.mem_cons]
    constructor
    · rintro (h | h)
      · exact .inl h.symm
      · exact .inr h
    · rintro (h | h)
      · exact .inl h.symm
      · exact .inr h
/-- `t not in bs` -/
theorem notIn_tabs {S : Sto} {o m : Nat} {t : List Bool} {os : List Nat} {bs : List (List Bool)} (h1 : S[o]? = some (.lst (t.map D.bl))) (h2 : S[m]? = some (.lst (os.map D.obj))) (h3 : TbsAt S os bs) : dInP true (.obj o) (.obj m) S = .ok (.bl (!decide (t ∈ bs))) S := by
  have e : dat S 60 (.obj m) = some (.list (bs.map bP)) := by
    show ((lstOf S m).bind (datL (dat S 59))).map PyData.list = _
    rw [lstOf_lst h2, Option.bind_some, datL_tabs h3]
    rfl
  unfold dInP
  rw [e, dat_tab h1]
  unfold inPR bP
  dsimp only
  have a := any_tabs t bs
  unfold bP at a
  have s2 := shaped_tabs bs
  unfold bP at s2
  rw [if_pos ⟨shaped_bls t, s2⟩, if_pos rfl, a]

/-! ### _law_nodes -/
theorem cntT_snoc (rows : List (List Bool)) (t : List Bool) : cntT (rows ++ [t]) = cntT rows + if stp 0 t = stp 1 t then 0 else 1 := by
  unfold cntT
  rw [List.filter_append, List.length_append]
  congr 1
  rw [List.filter_cons]
  by_cases h : stp 0 t = stp 1 t
  · rw [if_pos h, decide_eq_false (fun z => z h)]; rfl
  · rw [if_neg h, decide_eq_true h]; rfl
theorem addT_len (bs : List (List Bool)) (t : List Bool) : (addT bs t).length ≤ bs.length + 1 := by
  unfold addT
  split
  · omega
  · rw [List.length_append]; exact Nat.le_refl _
/-- `if t not in below: below.append(t)` -/
theorem add_at {S S0 : Sto} {B o : Nat} {os : List Nat} {bs : List (List Bool)} {t : List Bool} (hB : S[B]? = some (.lst (os.map D.obj))) (hT : TbsAt S os bs) (ho : S[o]? = some (.lst (t.map D.bl))) (hb : S0.length ≤ B) (fr : Fr (fun _ => False) S0 S) (nB : ∀ p ∈ os, p ≠ B) (oB : o ≠ B) :
    ∃ (os' : List Nat) (S' : Sto), S' = (if t ∈ bs then S else S.set B (.lst (os.map D.obj ++ [D.obj o]))) ∧ S'[B]? = some (.lst (os'.map D.obj)) ∧ TbsAt S' os' (addT bs t) ∧ (∀ p ∈ os', p ≠ B) ∧ Fr (fun _ => False) S0 S' ∧ Fr (fun i => i = B) S S' := by
  by_cases h : t ∈ bs
  · rw [if_pos h]
    refine ⟨os, S, rfl, hB, by unfold addT; rw [if_pos h]; exact hT, nB, fr, Fr.refl⟩
  · rw [if_neg h]
    have f2 : Fr (fun i => i = B) S (S.set B (.lst (os.map D.obj ++ [D.obj o]))) := Fr.refl.set _ fun _ => rfl
    refine ⟨os ++ [o], _, rfl, by rw [List.map_append]; exact get_put hB, ?_, fun p hp => ?_, fr.set _ fun z => absurd z (by omega), f2⟩
    · unfold addT
      rw [if_neg h]
      exact TbsAt.snoc (f2.at ho oB) (hT.fr f2 nB)
    · rcases List.mem_append.mp hp with hp | hp
      · exact nB p hp
      · rw [List.mem_singleton.mp hp]; exact oB

theorem stp_map {α β : Type} (f : α → β) (a : Nat) (xs : List α) : stp a (xs.map f) = (stp a xs).map f := by
  unfold stp picks
  rw [List.length_map]
  generalize evens a xs.length = ks
  induction ks with
  | nil => rfl
  | cons k ks ih =>
    rw [List.filterMap_cons, List.filterMap_cons, List.getElem?_map]
    cases xs[k]? with
    | none => exact ih
    | some x => show f x :: _ = f x :: _; rw [ih]
theorem lnodes_ok {S : Sto} {A m : Nat} {t : List Bool} (hA : S[A]? = some (.lst (t.map D.bl))) (hl : t.length = 2 ^ m) (hm : m ≤ 5) :
    ∃ S', h_law_nodes [.obj A] S = .ok (.int ((totT m [t] : Nat) : Int)) S' ∧ Fr (fun _ => False) S S' := by
  have sl := sizeLine_eq
  have s1 : (1 : Nat) ≤ sizeLine := by omega
  have s0 : (0 : Nat) ≤ sizeLine := by omega
  unfold h_law_nodes
  walk_at "env"
  unfold b_law_nodes
  have o1 : OkR (40 : Int) := okr_nat (n := 40) (by decide)
  repeat (first | simp only [if_pos s1, o1, if_true] | walk_at "ev0")
  have hR0 : (S ++ [Ob.lst [D.obj A]])[S.length]? = some (.lst (([A] : List Nat).map D.obj)) := Ev.appNew
  have f0 : Fr (fun _ => False) S (S ++ [Ob.lst [D.obj A]]) := Fr.refl.add _
  have hA0 := f0.at hA (fun z => z)
  generalize S ++ [Ob.lst [D.obj A]] = S1 at *
  generalize e : dLoop _ _ _ _ _ _ = r
  have key := loop_idx e (fun i ρ S' => ∃ (v3 v4 v5 v6 v7 : Option D) (R c : Nat) (os : List Nat) (rows : List (List Bool)), ρ = [some (.obj A), some (.obj R), some (.int (c : Int)), v3, v4, v5, v6, v7] ∧ S'[R]? = some (.lst (os.map D.obj)) ∧ TbsAt S' os rows ∧ Fr (fun _ => False) S S' ∧ rows ≠ [] ∧ (∀ u ∈ rows, u.length = 2 ^ (m - i)) ∧ c + totT (m - i) rows = totT m [t] ∧ rows.length ≤ 2 ^ i ∧ i ≤ m)
    (fun q => ∃ (v3 v4 v5 v6 v7 : Option D) (R : Nat) (S' : Sto), q = .nx [some (.obj A), some (.obj R), some (.int ((totT m [t] : Nat) : Int)), v3, v4, v5, v6, v7] S' ∧ Fr (fun _ => False) S S')
    ⟨none, none, none, none, none, S.length, 0, [A], [t], rfl, hR0, .cons hA0 .nil, f0, by simp, fun u hu => (by rw [List.mem_singleton.mp hu]; exact hl), by rw [Nat.zero_add]; rfl, Nat.le_refl _, Nat.zero_le _⟩ (by
      rintro i x ρ S2 hx ⟨v3, v4, v5, v6, v7, R, c, os, rows, rfl, hR, hT, fr, ne, hrl, hc, hrn, him⟩
      refine ⟨_, rfl, ?_⟩
      clear e
      match os, rows, hT, ne with
      | [], [], _, ne => exact absurd rfl ne
      | o :: os, u :: rows, .cons ho hT, _ =>
        have l0 := hrl u List.mem_cons_self
        have hT : TbsAt S2 (o :: os) (u :: rows) := .cons ho hT
        by_cases him2 : i = m
        · subst him2
          rw [Nat.sub_self] at l0 hc
          have ed : ((u.length : Nat) : Int) = 1 := by rw [l0]; rfl
          have hc : c = totT i [t] := by rw [← hc]; rfl
          repeat (first | simp only [hR, ho, List.map_cons, List.length_map, decide_eq_true ed] | walk_at "ev0")
          exact ⟨_, _, _, _, _, R, _, by rw [hc], fr⟩
        · have ed : ¬ ((u.length : Nat) : Int) = 1 := by
            rw [l0, show m - i = (m - i - 1) + 1 by omega, Nat.pow_succ]
            have := Nat.two_pow_pos (m - i - 1)
            omega
          have hRm : S2[R]? = some (.lst (D.obj o :: os.map D.obj)) := hR
          repeat (first | simp only [hRm, ho, List.length_map, decide_eq_false ed, if_pos s0] | walk_at "ev0")
          obtain ⟨B, hB⟩ : ∃ B, S2.length = B := ⟨_, rfl⟩
          obtain ⟨S3, hS3⟩ : ∃ S3, S2 ++ [Ob.lst []] = S3 := ⟨_, rfl⟩
          have f3 : Fr (fun _ => False) S2 S3 := by rw [← hS3]; exact Fr.refl.add _
          have hB3 : S3[B]? = some (.lst (([] : List Nat).map D.obj)) := by rw [← hS3, ← hB]; exact Ev.appNew
          have hRB : R ≠ B := by have := lt_of_get hRm; omega
          have oB : ∀ p ∈ o :: os, p ≠ B := fun p hp => by
            obtain ⟨j, hj⟩ := List.mem_iff_getElem?.mp hp
            obtain ⟨v, _, hv⟩ := hT.get hj
            have := lt_of_get hv
            omega
          have hR3 := f3.at hRm (fun z => z)
          have hT3 := hT.fr f3 (fun _ _ z => z)
          have lSB : S.length ≤ B := by have := fr.len; omega
          have small : ∀ v ∈ u :: rows, v.length ≤ 32 := fun v hv => by
            rw [hrl v hv]
            exact Nat.le_trans (Nat.pow_le_pow_right (by decide) (show m - i ≤ 5 by omega)) (by decide)
          have many : (u :: rows).length ≤ 32 := Nat.le_trans hrn (Nat.le_trans (Nat.pow_le_pow_right (by decide) (show i ≤ 5 by omega)) (by decide))
          repeat (first | simp only [hS3, hB, hR3] | walk_at "ev0")
          generalize e2 : dLoop _ _ _ _ _ _ = r2
          obtain ⟨ρ, S4, rfl, w5, w6, w7, c2, bos, rfl, hR4, hT4, hB4, hbT, nbB, f4, ec, lb⟩ := loop_idx_nx e2 (fun j ρ S' => ∃ (w5 w6 w7 : Option D) (c2 : Nat) (bos : List Nat), ρ = [some (.obj A), some (.obj R), some (.int (c2 : Int)), some x, some (.obj B), w5, w6, w7] ∧ S'[R]? = some (.lst (D.obj o :: os.map D.obj)) ∧ TbsAt S' (o :: os) (u :: rows) ∧ S'[B]? = some (.lst (bos.map D.obj)) ∧ TbsAt S' bos (((u :: rows).take j).foldl stepT []) ∧ (∀ p ∈ bos, p ≠ B) ∧ Fr (fun i => i = B) S3 S' ∧ c2 = c + cntT ((u :: rows).take j) ∧ (((u :: rows).take j).foldl stepT []).length ≤ 2 * j)
            ⟨v5, v6, v7, c, [], rfl, hR3, hT3, hB3, .nil, fun p hp => (by cases hp), Fr.refl, rfl, Nat.le_refl _⟩ (by
            rintro j d ρ S5 hd ⟨w5, w6, w7, c2, bos, rfl, hR5, hT5, hB5, hbT, nbB, f5, ec, lb⟩
            refine ⟨_, rfl, ?_⟩
            clear e2
            have hd : ((o :: os).map D.obj)[j]? = some d := hd
            rw [List.getElem?_map] at hd
            obtain ⟨p, hp, rfl⟩ := Option.map_eq_some_iff.mp hd
            obtain ⟨v, hv, hpv⟩ := hT5.get hp
            have lv32 := small v (List.mem_of_getElem? hv)
            have hjl := lt_of_get hv
            have q0 := stp_len 0 (v.map D.bl)
            have q1 := stp_len 1 (v.map D.bl)
            rw [List.length_map] at q0 q1
            have z0 : (stp 0 (v.map D.bl)).length ≤ sizeLine := by omega
            have z1 : (stp 1 (v.map D.bl)).length ≤ sizeLine := by omega
            rw [stp_map] at z0 z1
            have z0' : (stp 0 v).length ≤ sizeLine := by rw [List.length_map] at z0; exact z0
            have z1' : (stp 1 v).length ≤ sizeLine := by rw [List.length_map] at z1; exact z1
            obtain ⟨S6, hS6⟩ : ∃ S6, S5 ++ [Ob.lst ((stp 0 v).map D.bl)] = S6 := ⟨_, rfl⟩
            have f6 : Fr (fun i => i = B) S5 S6 := by rw [← hS6]; exact Fr.refl.add _
            have hlo6 : S6[S5.length]? = some (.lst ((stp 0 v).map D.bl)) := by rw [← hS6]; exact Ev.appNew
            obtain ⟨S7, hS7⟩ : ∃ S7, S6 ++ [Ob.lst ((stp 1 v).map D.bl)] = S7 := ⟨_, rfl⟩
            have f7 : Fr (fun i => i = B) S6 S7 := by rw [← hS7]; exact Fr.refl.add _
            have hhi : S7[S6.length]? = some (.lst ((stp 1 v).map D.bl)) := by rw [← hS7]; exact Ev.appNew
            have lB := lt_of_get hB5
            have hlo : S7[S5.length]? = some (.lst ((stp 0 v).map D.bl)) := f7.at hlo6 (by omega)
            have l65 : S5.length < S6.length := lt_of_get hlo6
            have f57 := f6.trans f7
            have hp6 : S6[p]? = some (.lst (v.map D.bl)) := f6.at hpv (oB p (List.mem_of_getElem? hp))
            have hB7 : S7[B]? = some (.lst (bos.map D.obj)) := by
              rw [← hS7, List.getElem?_append_left (by omega), ← hS6, List.getElem?_append_left lB]; exact hB5
            have hbT7 := hbT.fr f57 nbB
            have hR7 := f57.at hR5 hRB
            have hT7 := hT5.fr f57 oB
            have f07 := f5.trans f57
            have eq7 := eqP_bls true (lstOf_lst hlo) (lstOf_lst hhi)
            rw [if_pos rfl] at eq7
            have tk : (u :: rows).take (j + 1) = (u :: rows).take j ++ [v] := by rw [List.take_add_one, hv]; rfl
            rw [tk, List.foldl_append, cntT_snoc]
            have st7 : List.foldl stepT (List.foldl stepT [] ((u :: rows).take j)) [v] = stepT (List.foldl stepT [] ((u :: rows).take j)) v := rfl
            rw [st7]
            generalize hbs : List.foldl stepT [] ((u :: rows).take j) = bs at *
            unfold stepT
            have cB : bos.length = bs.length := hbT.len
            by_cases hE : stp 0 v = stp 1 v
            · rw [decide_eq_true hE] at eq7
              have nt := notIn_tabs hlo hB7 hbT7
              obtain ⟨os', S8, e8, hB8, hT8, n8, f8, g8⟩ := add_at (S0 := S7.take B) hB7 hbT7 hlo (by rw [List.length_take]; omega) ⟨by rw [List.length_take]; omega, fun i hi _ => by rw [List.length_take] at hi; rw [List.getElem?_take, if_pos (by omega)]⟩ nbB (by omega)
              have lad := addT_len bs (stp 0 v)
              have cc : (bos.map D.obj).length < sizeLine := by rw [List.length_map]; omega
              have cc' : bos.length < sizeLine := by omega
              have hR8 := g8.at hR7 hRB
              have hT9 := hT7.fr g8 oB
              have f9 := f07.trans g8
              rw [if_pos hE, if_pos hE]
              by_cases hM : stp 0 v ∈ bs
              · rw [decide_eq_true hM] at nt
                rw [if_pos hM] at e8
                subst e8
                repeat (first | simp only [hpv, hp6, stp_map, if_pos z0, if_pos z1, if_pos z0', if_pos z1', List.length_map, hS6, hS7, eq7, nt] | walk_at "ev0")
                exact ⟨lstOf_lst hR8, _, _, _, c2, os', rfl, hR8, hT9, hB8, hT8, n8, f9, by omega, by omega⟩
              · rw [decide_eq_false hM] at nt
                rw [if_neg hM] at e8
                repeat (first | simp only [hpv, hp6, stp_map, if_pos z0, if_pos z1, if_pos z0', if_pos z1', List.length_map, hS6, hS7, eq7, nt, hB7, if_pos cc, if_pos cc', ← e8] | walk_at "ev0")
                exact ⟨lstOf_lst hR8, _, _, _, c2, os', rfl, hR8, hT9, hB8, hT8, n8, f9, by omega, by omega⟩
            · rw [decide_eq_false hE] at eq7
              have nt1 := notIn_tabs hhi hB7 hbT7
              have lt7 : (S7.take B).length ≤ B := by rw [List.length_take]; omega
              have fr7 : Fr (fun _ => False) (S7.take B) S7 := ⟨by rw [List.length_take]; omega, fun i hi _ => by rw [List.length_take] at hi; rw [List.getElem?_take, if_pos (by omega)]⟩
              obtain ⟨os1, S8, e8, hB8, hT8, n8, f8, g8⟩ := add_at (S0 := S7.take B) hB7 hbT7 hhi lt7 fr7 nbB (by omega)
              have hlo8 := g8.at hlo (show ¬ S5.length = B by omega)
              have nt2 := notIn_tabs hlo8 hB8 hT8
              obtain ⟨os2, S9, e9, hB9, hT9, n9, f9, g9⟩ := add_at (S0 := S7.take B) hB8 hT8 hlo8 lt7 f8 n8 (by omega)
              have lad1 := addT_len bs (stp 1 v)
              have lad2 := addT_len (addT bs (stp 1 v)) (stp 0 v)
              have l8 := hT8.len
              have cc : (bos.map D.obj).length < sizeLine := by rw [List.length_map]; omega
              have cc' : bos.length < sizeLine := by omega
              have cd : (os1.map D.obj).length < sizeLine := by rw [List.length_map]; omega
              have cd' : os1.length < sizeLine := by omega
              have hR9 := (g8.trans g9).at hR7 hRB
              have hT10 := hT7.fr (g8.trans g9) oB
              have f10 := f07.trans (g8.trans g9)
              have ei : (c2 : Int) + 1 = ((c2 + 1 : Nat) : Int) := rfl
              rw [if_neg hE, if_neg hE]
              have hB8' := hB8
              by_cases hM1 : stp 1 v ∈ bs
              · rw [decide_eq_true hM1] at nt1
                rw [if_pos hM1] at e8
                subst e8
                by_cases hM2 : stp 0 v ∈ addT bs (stp 1 v)
                · rw [decide_eq_true hM2] at nt2
                  rw [if_pos hM2] at e9
                  subst e9
                  repeat (first | simp only [hpv, hp6, stp_map, if_pos z0, if_pos z1, if_pos z0', if_pos z1', List.length_map, hS6, hS7, eq7, nt1, nt2, ei] | walk_at "ev0")
                  exact ⟨lstOf_lst hR9, _, _, _, c2 + 1, os2, rfl, hR9, hT10, hB9, hT9, n9, f10, by omega, by omega⟩
                · rw [decide_eq_false hM2] at nt2
                  rw [if_neg hM2] at e9
                  repeat (first | simp only [hpv, hp6, stp_map, if_pos z0, if_pos z1, if_pos z0', if_pos z1', List.length_map, hS6, hS7, eq7, nt1, nt2, ei, hB8', if_pos cd, if_pos cd', ← e9] | walk_at "ev0")
                  exact ⟨lstOf_lst hR9, _, _, _, c2 + 1, os2, rfl, hR9, hT10, hB9, hT9, n9, f10, by omega, by omega⟩
              · rw [decide_eq_false hM1] at nt1
                rw [if_neg hM1] at e8
                by_cases hM2 : stp 0 v ∈ addT bs (stp 1 v)
                · rw [decide_eq_true hM2] at nt2
                  rw [if_pos hM2] at e9
                  subst e9
                  repeat (first | simp only [hpv, hp6, stp_map, if_pos z0, if_pos z1, if_pos z0', if_pos z1', List.length_map, hS6, hS7, eq7, nt1, nt2, ei, hB7, if_pos cc, if_pos cc', ← e8] | walk_at "ev0")
                  exact ⟨lstOf_lst hR9, _, _, _, c2 + 1, os2, rfl, hR9, hT10, hB9, hT9, n9, f10, by omega, by omega⟩
                · rw [decide_eq_false hM2] at nt2
                  rw [if_neg hM2] at e9
                  repeat (first | simp only [hpv, hp6, stp_map, if_pos z0, if_pos z1, if_pos z0', if_pos z1', List.length_map, hS6, hS7, eq7, nt1, nt2, ei, hB7, if_pos cc, if_pos cc', ← e8, hB8', if_pos cd, if_pos cd', ← e9] | walk_at "ev0")
                  exact ⟨lstOf_lst hR9, _, _, _, c2 + 1, os2, rfl, hR9, hT10, hB9, hT9, n9, f10, by omega, by omega⟩)
          clear e2
          have li : (List.map D.obj (o :: os)).length = (u :: rows).length := by rw [List.length_map]; exact hT.len
          have li2 : ((D.obj o :: os.map D.obj) : List D).length = (u :: rows).length := li
          rw [li2, List.take_length] at ec lb
          rw [li2, List.take_length] at hbT
          have eB : List.foldl stepT [] (u :: rows) = belowT (u :: rows) := rfl
          rw [eB] at hbT lb
          have mk : m - i = (m - (i + 1)) + 1 := by omega
          have hneB : belowT (u :: rows) ≠ [] := fun z => by
            have : stp 0 u ∈ belowT (u :: rows) := belowT_mem.mpr ⟨u, List.mem_cons_self, .inl rfl⟩
            rw [z] at this
            cases this
          have hlB : ∀ w ∈ belowT (u :: rows), w.length = 2 ^ (m - (i + 1)) := fun w hw => by
            obtain ⟨t2, ht2, hh⟩ := belowT_mem.mp hw
            have hx : t2.length = 2 * 2 ^ (m - (i + 1)) := by rw [hrl t2 ht2, mk, Nat.pow_succ]; omega
            rcases hh with rfl | rfl
            · exact (stp_get hx (by decide)).1
            · exact (stp_get hx (by decide)).1
          have hcB : c2 + totT (m - (i + 1)) (belowT (u :: rows)) = totT m [t] := by
            have e : totT ((m - (i + 1)) + 1) (u :: rows) = cntT (u :: rows) + totT (m - (i + 1)) (belowT (u :: rows)) := rfl
            rw [mk, e] at hc
            omega
          have hnB : (belowT (u :: rows)).length ≤ 2 ^ (i + 1) := by rw [Nat.pow_succ]; omega
          have frB : Fr (fun _ => False) S S4 := ⟨by have := fr.len; have := f3.len; have := f4.len; omega, fun k hk hn => by
            have l2 := fr.len
            rw [f4.old k (by have := f3.len; omega) (by omega), f3.old k (by omega) hn, fr.old k hk hn]⟩
          repeat walk_at "ev0"
          exact ⟨_, _, _, _, _, B, c2, bos, belowT (u :: rows), rfl, hB4, hbT, frB, hneB, hlB, hcB, hnB, by omega⟩)
    (by
      rintro ρ S2 ⟨v3, v4, v5, v6, v7, R, c, os, rows, rfl, hR, hT, fr, ne, hrl, hc, hrn, him⟩
      rw [rng_len] at him
      have : (40 : Int).toNat = 40 := rfl
      omega)
  clear e
  obtain ⟨v3, v4, v5, v6, v7, R, S2, rfl, fr⟩ := key
  repeat walk_at "ev0"
  exact ⟨_, rfl, fr⟩

theorem atI_last {xs : List D} {x : D} : atI (xs ++ [x]) (-1) = some x := by
  unfold atI ixN
  rw [List.length_append, List.length_singleton]
  rw [if_neg (by decide), if_pos (by omega)]
  have e : (-1 + ((xs.length + 1 : Nat) : Int)).toNat = xs.length := by omega
  rw [Option.bind_some, e, List.getElem?_append_right (Nat.le_refl _), Nat.sub_self]
  rfl
theorem pick70 {v : Int} (v0 : 0 ≤ v) (v1 : v < 5) : ∃ d : Nat, atI [D.int 0, .int 0, .int 1, .int 2, .int 70] v = some (.int (d : Int)) ∧ d ≤ 70 := by
  have : v = 0 ∨ v = 1 ∨ v = 2 ∨ v = 3 ∨ v = 4 := by omega
  rcases this with rfl | rfl | rfl | rfl | rfl
  · exact ⟨0, rfl, by decide⟩
  · exact ⟨0, rfl, by decide⟩
  · exact ⟨1, rfl, by decide⟩
  · exact ⟨2, rfl, by decide⟩
  · exact ⟨70, rfl, by decide⟩
/-- [bit for bit in table if bit] -/
theorem bitsOn {S : Sto} {o : Nat} {t : List Bool} {ρ : Env} (ho : S[o]? = some (bls t)) (hk : 13 < ρ.length) {r : Res (List D)}
    (e : cLoop (sameL o (t.map D.bl)) (tgN 13) (eT (eV 13)) (eV 13) ρ (t.map D.bl) S = r) : r = .ok ((t.filter id).map D.bl) S := by
  obtain ⟨xs, S1, rfl, rfl, rfl⟩ := cLoop_idx e (fun i acc S' => S' = S ∧ acc = ((t.take i).filter id).map D.bl) ⟨rfl, rfl⟩ (by
    rintro i d acc S' hd ⟨rfl, rfl⟩
    rw [List.getElem?_map] at hd
    obtain ⟨b, hb, rfl⟩ := Option.map_eq_some_iff.mp hd
    refine ⟨_, rfl, ?_⟩
    clear e hd
    have g2 : (ρ.set 13 (some (.bl b)))[13]? = some (some (.bl b)) := by rw [List.getElem?_set_self hk]
    generalize ρ.set 13 (some (.bl b)) = ρ2 at *
    have hs : sameL o (t.map D.bl) S' := lstOf_lst ho
    rw [List.take_add_one, hb, List.filter_append, List.map_append]
    cases b
    · repeat (first | simp only [g2] | walk_at "ev0")
      exact ⟨hs, (List.append_nil _).symm⟩
    · repeat (first | simp only [g2] | walk_at "ev0")
      exact ⟨_, _, rfl, hs, rfl, rfl⟩)
  rw [List.length_map, List.take_length]
theorem law_ok (ns : List Int) (h : ns.length ≤ sizeLine) : ∃ S', h_law 8000 [.kl (ns.map D.int)] [] = .ok (.bl true) S' := by
  have sl := sizeLine_eq
  unfold h_law
  walk_at "env"
  unfold b_law
  obtain ⟨S0, e0, po, hlen⟩ := pool_ok ns h
  walk_at "ev0"
  rw [e0]
  clear e0
  generalize D.kl (ns.map D.int) = sc
  repeat walk_at "ev0"
  generalize e1 : h_law_draw _ _ = r
  obtain ⟨m, S1, rfl, m0, m1, po1, f1⟩ := draw_use e1 po (by decide) (by decide)
  clear e1
  obtain ⟨M, rfl⟩ := Int.eq_ofNat_of_zero_le m0
  obtain ⟨lv, S2, e2, hL, hlv, asc, h0, po2, f2⟩ := levels_ok po1 (m := M) (by omega)
  have h5 : lv.length ≤ 5 := by omega
  have L3 : 3 ≤ S1.length := by have := f1.len; omega
  generalize S1.length = L at *
  clear m0 m1 po po1 f1
  repeat (first | simp only [e2] | walk_at "ev0")
  have nd : lv.Nodup := asc.imp fun h => Int.ne_of_lt h
  obtain ⟨S3, e3, st3, f3, l3⟩ := init_ok S2
  have lL := lt_of_get hL
  have lp := po2.lp
  have ll := po2.ll
  have hL3 := f3.at hL (fun z => z)
  have po3 := po2.fr f3 (fun z => z) (fun z => z)
  have g1 : Good lv S2.length (S2.length + 5) S3 [] [] 0 := ⟨st3, Wf.nil, fun i q hq => (by cases hq), ChOk.nil, Nat.le_refl _, Nat.le_refl _⟩
  have nx : ∀ i, i < S2.length ∨ S3.length ≤ i → ¬ StX S2.length (S2.length + 5) i := fun i hi z => by rcases z with ⟨_, _⟩ | z <;> omega
  obtain ⟨Z, A, B, refs, os, tbs, S5, rs, cs, k, e5, hZ, Md, hk, hZp, f5, lZ, lA, lB, lo⟩ := made_ok (N := 8000) (most := 8) po3 g1 hL3 asc h0 h5 (nx _ (.inl lp)) (nx _ (.inl ll)) (nx _ (.inl lL)) (by omega) (by have : mT lv.length ≤ mT 5 := mT_mono h5; have : mT 5 = 62 := rfl; omega) (by decide) (by decide)
  repeat (first | simp only [hL, hL3, List.length_map, e3, e5] | walk_at "ev0")
  generalize S2.length = n at *
  generalize n + 5 = ch at *
  clear e2 e3 e5 g1 st3 po2 po3 f2 f3 f5 hL lL lp ll hL3 l3 lA lB lo nx lZ
  have hL5 := Md.hL
  refine seqR_cut (fun r => ∃ S', endR r = .ok (.bl true) S') (fun ρ S' => ∃ T0 : Nat, T0 ≤ 1001 ∧ (∀ x ∈ lv, x < (T0 : Int)) ∧ S' = S5 ∧ ρ = [some sc, some (.obj 2), some (.obj L), some (.int (lv.length : Int)), some (.obj n), some (.obj Z), some (.int (T0 : Int)), none, none, none, none, none, none, none]) ?_ ?_
  · rcases List.eq_nil_or_concat lv with hnil | ⟨l0, z, hcc⟩
    · have hd : ¬ ((0 : Int) < (lv.length : Int)) := by rw [hnil]; decide
      have hd2 : ¬ ((lv.length : Int) > (0 : Int)) := hd
      repeat (first | simp only [decide_eq_false hd, decide_eq_false hd2] | walk_at "ev0")
      exact ⟨_, _, rfl, 0, by omega, fun x hx => by (rw [hnil] at hx; cases hx), rfl, rfl⟩
    · rw [List.concat_eq_append] at hcc
      have hd : (0 : Int) < (lv.length : Int) := by rw [hcc, List.length_append, List.length_singleton]; omega
      have hd2 : (lv.length : Int) > (0 : Int) := hd
      have zm : z ∈ lv := by rw [hcc]; exact List.mem_append_right _ (List.mem_singleton.mpr rfl)
      have hz := h0 z zm
      have zl : ∀ x ∈ lv, x ≤ z := fun x hx => by
        rw [hcc] at hx asc
        rcases List.mem_append.mp hx with h | h
        · exact Int.le_of_lt ((List.pairwise_append.mp asc).2.2 x h z (List.mem_singleton.mpr rfl))
        · rw [List.mem_singleton.mp h]; exact Int.le_refl _
      have ea : atI (lv.map D.int) (-1) = some (.int z) := by rw [hcc, List.map_append]; exact atI_last
      obtain ⟨zn, rfl⟩ := Int.eq_ofNat_of_zero_le hz.1
      repeat (first | simp only [decide_eq_true hd, decide_eq_true hd2, hL5, ea] | walk_at "ev0")
      exact ⟨_, _, rfl, zn + 1, by omega, fun x hx => by have := zl x hx; omega, rfl, rfl⟩
  rintro ρ S6 ⟨T0, hT0, hTl, rfl, rfl⟩
  have hrl := Md.len
  have o1 := okr_nat (n := refs.length) (by omega)
  have Ra6 := Md.tabs.ra
  repeat (first | simp only [hZ, Ra6, List.length_map, o1, if_true] | walk_at "ev0")
  generalize e : dLoop _ _ _ _ _ _ = r
  obtain ⟨ρ, S7, rfl, _⟩ := loop_idx_nx e (fun j ρ S7 => ∃ (v7 v8 v9 v10 v11 v12 v13 : Option D), ρ = [some sc, some (.obj 2), some (.obj L), some (.int (lv.length : Int)), some (.obj n), some (.obj Z), some (.int (T0 : Int)), v7, v8, v9, v10, v11, v12, v13] ∧ Made lv n ch 2 1 L A B S7 3000 k refs os tbs rs cs ∧ S7[Z]? = some (.lst [.obj A, .obj B]))
    ⟨none, none, none, none, none, none, none, rfl, Md, hZ⟩ (by
    rintro j d ρ S7 hd ⟨v7, v8, v9, v10, v11, v12, v13, rfl, M7, hZ7⟩
    obtain ⟨hj, rfl⟩ := rng_get hd
    rw [Int.toNat_natCast] at hj
    refine ⟨_, rfl, ?_⟩
    clear e hd
    rw [Int.zero_add]
    obtain ⟨a, o, t, p1, p2, p3, p4, p5, p6, p7⟩ := M7.tabs.get hj
    have Ra7 := M7.tabs.ra
    have Ta7 := M7.tabs.ta
    repeat (first | simp only [hZ7, Ra7, Ta7, p1, p2] | walk_at "ev0")
    generalize e1 : h_law_draw _ _ = r
    obtain ⟨u, S8, rfl, u0, u1, po8, f8⟩ := draw_use e1 M7.pool (by decide) (by decide)
    clear e1
    have M8 := M7.fr f8 po8 (fun _ z => z)
    have xo : ¬ StX n ch o := M7.ap.xo o p3
    have no2 : o ≠ 2 := M7.ap.po o p3
    have hZ8 := f8.at hZ7 hZp
    have p48 := f8.at p4 no2
    obtain ⟨c, ec, hc⟩ := pick70 u0 u1
    have hTc : ∀ x ∈ lv, 0 ≤ x ∧ x < ((T0 + c : Nat) : Int) := fun x hx => by have := hTl x hx; have := h0 x hx; omega
    have hrows : ∀ (i : Nat) (q : Row), rs[i]? = some q → ∃ k : Nat, q.1 = (k : Int) ∧ k < T0 + c := fun i q hq => by
      have hm := M7.good.lv i q hq
      obtain ⟨h1, h2⟩ := hTc _ hm
      exact ⟨q.1.toNat, by omega, by omega⟩
    obtain ⟨hle, hmod⟩ := models_table M7.good.wf hrows p5 asc hTc
    obtain ⟨S9, e9, f9⟩ := models_ok (N := 8000) (a := a) M8.good h5 hrows (by omega) p5.rf (by decide)
    have M9 := M8.fr0 f9
    have hZ9 := f9.at hZ8 (fun z => z)
    have p49 := f9.at p48 (fun z => z)
    have ei : (T0 : Int) + (c : Int) = ((T0 + c : Nat) : Int) := by omega
    have es : ((T0 + c : Nat) : Int) - (lv.length : Int) = ((T0 + c - lv.length : Nat) : Int) := by omega
    have c1 : (0 : Int) ≤ ((T0 + c - lv.length : Nat) : Int) ∧ ((T0 + c - lv.length : Nat) : Int) ≤ 1000000 ∧ (1 : Int).natAbs < 2 ^ 64 := ⟨by omega, by omega, by decide⟩
    have c2 : (0 : Int) ≤ ((T0 + c - lv.length : Nat) : Int) ∧ ((T0 + c - lv.length : Nat) : Int) ≤ 1000000 := ⟨by omega, by omega⟩
    have hp8 : S8[o]? = some (.lst (t.map D.bl)) := p48
    repeat (first | simp only [ec, ei, hp8] | walk_at "ev0")
    generalize e1 : cLoop _ _ _ _ _ _ _ = r
    have hr := bitsOn p48 (by show 13 < 14; decide) e1
    subst hr
    clear e1
    have lf : (t.filter id).length ≤ 32 := by
      have h1 := List.length_filter_le id t
      have h2 := p5.len
      have : 2 ^ lv.length ≤ 32 := Nat.le_trans (Nat.pow_le_pow_right (by decide) h5) (by decide)
      omega
    have lf2 : (t.filter id).length ≤ sizeLine := by omega
    obtain ⟨SA, hSA⟩ : ∃ SA, S8 ++ [Ob.lst ((t.filter id).map D.bl)] = SA := ⟨_, rfl⟩
    have fA : Fr (fun _ => False) S8 SA := by rw [← hSA]; exact Fr.refl.add _
    have hA0 : SA[S8.length]? = some (.lst ((t.filter id).map D.bl)) := by rw [← hSA]; exact Ev.appNew
    have MA := M8.fr0 fA
    have hZA := fA.at hZ8 (fun z => z)
    have p4A := fA.at p48 (fun z => z)
    have mk : MulOk (((t.filter id).length : Nat) : Int) (1 * 2 ^ (((T0 + c - lv.length : Nat) : Int)).toNat) := .inl (by rw [Int.natAbs_natCast]; omega)
    obtain ⟨S10, e10, f10⟩ := models_ok (N := 8000) (a := a) MA.good h5 hrows (by omega) p5.rf (by decide)
    have edue : (((t.filter id).length : Nat) : Int) * (1 * 2 ^ (((T0 + c - lv.length : Nat) : Int)).toNat) = ((2 ^ lvB rs (T0 + c) a * Wn rs (T0 + c) a : Nat) : Int) := by
      rw [hmod, Int.toNat_natCast, Int.one_mul, Int.natCast_mul, Int.natCast_pow, Int.mul_comm]; rfl
    have obA := MA.good.st.ob
    have mtm : metO "Store" "models" (some (inSt n ch)) = true := st_met (by simp +decide only [fldL, if_false])
    have mtn : metO "Store" "nodes_below" (some (inSt n ch)) = true := st_met (by simp +decide only [fldL, if_false])
    have esm := same_int 1 ((2 ^ lvB rs (T0 + c) a * Wn rs (T0 + c) a : Nat) : Int) S10
    have M10 := MA.fr0 f10
    have hZ10 := f10.at hZA (fun z => z)
    have p410 := f10.at p4A (fun z => z)
    obtain ⟨Y, ns, S11, e11, hY, bl, f11, lY⟩ := nbelow_ok (N := 8000) M10.good h5 p5.rf (by decide)
    have M11 := M10.fr0 f11
    have hZ11 := f11.at hZ10 (fun z => z)
    have p411 := f11.at p410 (fun z => z)
    obtain ⟨S12, e12, f12⟩ := lnodes_ok (m := lv.length) p411 p5.len h5
    have M12 := M11.fr0 f12
    have hZ12 := f12.at hZ11 (fun z => z)
    have p412 := f12.at p411 (fun z => z)
    have hY12 := f12.at hY (fun z => z)
    have hln : ns.length = totT lv.length [t] := layers M7.good.wf lv [a] [t] ns asc (by simp) (fun r hr => ⟨t, List.mem_singleton.mpr rfl, by rw [List.mem_singleton.mp hr]; exact p5⟩) (fun u hu => ⟨a, List.mem_singleton.mpr rfl, by rw [List.mem_singleton.mp hu]; exact p5⟩) (fun i q hq _ => M7.good.lv i q hq) (bl.asc.imp fun h => Int.ne_of_lt h) (fun x => ⟨fun hx => ⟨(bl.kr x hx).1, bl.rc x hx⟩, fun ⟨h1, h2⟩ => by
      rcases bl.all h2 with z | z
      · omega
      · exact z⟩)
    obtain ⟨Y2, S13, e13, hY2, f13⟩ := reached_ok M12.good.st M12.good.wf bl p5.rf
    have M13 := M12.fr0 f13
    have hZ13 := f13.at hZ12 (fun z => z)
    have hY13 := f13.at hY12 (fun z => z)
    have ln64 := bl.len
    have esl : h_law_same 2 [.obj Y, .obj Y2] S13 = .ok (.bl true) S13 := same_lst 1 hY13 hY2 (by rw [List.length_map]; omega) (fun d hd => by
      obtain ⟨x, _, rfl⟩ := List.mem_map.mp hd
      exact same_int 0 x _)
    have ob10 := M10.good.st.ob
    have ob12 := M12.good.st.ob
    have eln : ((ns.length : Nat) : Int) = ((totT lv.length [t] : Nat) : Int) := by rw [hln]
    repeat (first | simp only [List.length_map, if_pos lf2, hSA, hA0, es, if_pos c1, if_pos c2, if_pos mk, obA, mtm, mtn, edue, e10, esm, ob10, e11, hY, e12, decide_eq_true eln, ob12, e13, esl, if_true] | walk_at "ev0")
    exact ⟨_, _, _, _, _, _, _, rfl, M13, hZ13⟩)
  clear e
  repeat walk_at "ev0"
  exact ⟨_, rfl⟩

/-! ### from the function to the promise -/
def spLawF (K : PySem.W.Frag) : Sp := fun vs H Q _ => ∃ (a : Addr) (ns : List Int), vs = [.ref a] ∧ SqF K H a (ns.map V.int) ∧ ns.length ≤ 63 ∧ ∀ H', Q (.bl true) H'
theorem scs_ints : ∀ ns : List Int, scs (ns.map D.int) = some (ns.map V.int)
  | [] => rfl
  | x :: ns => by
    show (match (D.int x).sc, scs (ns.map D.int) with | some v, some vs => some (v :: vs) | _, _ => none) = _
    rw [scs_ints ns]
    rfl
theorem law_top {P : Program} {wd : World} {K : PySem.W.Frag} {mg : Str → Option Value} {base : Heap} {k : Nat} {f : Addr} {fd : FuncData} {hl : DF}
    (F : FnOk P wd K mg base (L2.CX P wd) k f fd ["script"] (spD K mg hl)) (h : ∀ ns : List Int, ns.length ≤ 63 → ∃ S', hl [.kl (ns.map D.int)] [] = .ok (.bl true) S') :
    FnOk P wd K mg base (L2.CX P wd) k f fd ["script"] (spLawF K) := by
  refine F.imp fun vs H Q E q => ?_
  obtain ⟨a, ns, rfl, t, hn, q⟩ := q
  obtain ⟨S', e⟩ := h ns hn
  refine ⟨⟨fun _ => a, [], H⟩, [.kl (ns.map D.int)], ⟨fun i j hi => absurd hi (Nat.not_lt_zero i), fun i o ho => by simp at ho⟩, rfl, Rvs.cons ?_ Rvs.nil, ?_⟩
  · rw [Rv]
    exact ⟨a, _, rfl, t, Rvs.of_sc (scs_ints ns)⟩
  · show Fin K mg _ _ (hl [.kl (ns.map D.int)] []) Q _
    rw [e]
    intro w' b _ _ _ r
    rw [r.bl]
    exact q _
theorem sqf_of {K : PySem.W.Frag} {H : Hp} {a : Addr} {xs : List V} (o : ∀ b, H b = none ∨ ∃ o xs, H b = some (.frz o (.lst xs))) (h : SqL K H a xs) : SqF K H a xs := by
  rcases h with (h | h) | h
  · rcases o a with z | ⟨_, _, z⟩ <;> (rw [h] at z; cases z)
  · exact .inl h
  · exact .inr h
/-! the end -/
theorem all_mk {K : PySem.W.Frag} {h : Heap} {mg : Str → Option Value} {fa : Addr} (X : K.In h) (G : h.Ns mainGlobals mg) (hfa : mg "law" = some (.ref fa))
    {f0 f1 f2 f3 f4 f5 f6 f7 f8 f9 f10 f11 f12 f13 f14 f15 f16 f17 f18 f19 f20 f21 f22 f23 f24 f25 f26 f27 f28 f29 f30 f31 COddsError CNotANode CStore : Addr} {od0 an0 od1 an1 od2 an2 od3 an3 od4 an4 od5 an5 od6 an6 od7 an7 od8 an8 od9 an9 od10 an10 od11 an11 od12 an12 od13 an13 od14 an14 od15 an15 od16 an16 od17 an17 od18 an18 od19 an19 od20 an20 od21 an21 od22 an22 od23 an23 od24 an24 od25 an25 od26 an26 od27 an27 od28 an28 od29 an29 od30 an30 od31 an31 : Option Addr} {sl0 sl1 sl2 sl3 sl4 sl5 sl6 sl7 sl8 sl9 sl10 sl11 sl12 sl13 sl14 sl15 sl16 sl17 sl18 sl19 sl20 sl21 sl22 sl23 sl24 sl25 sl26 sl27 sl28 sl29 sl30 sl31 : Array (Option Value)} {oc0 kV0 dc0 pm0 cd0 ct0 oc1 kV1 dc1 pm1 cd1 ct1 oc2 kV2 dc2 pm2 cd2 ct2 oc3 kV3 dc3 pm3 cd3 ct3 oc4 kV4 dc4 pm4 cd4 ct4 oc5 kV5 dc5 pm5 cd5 ct5 oc6 kV6 dc6 pm6 cd6 ct6 oc7 kV7 dc7 pm7 cd7 ct7 oc8 kV8 dc8 pm8 cd8 ct8 oc9 kV9 dc9 pm9 cd9 ct9 oc10 kV10 dc10 pm10 cd10 ct10 oc11 kV11 dc11 pm11 cd11 ct11 oc12 kV12 dc12 pm12 cd12 ct12 oc13 kV13 dc13 pm13 cd13 ct13 oc14 kV14 dc14 pm14 cd14 ct14 oc15 kV15 dc15 pm15 cd15 ct15 oc16 kV16 dc16 pm16 cd16 ct16 oc17 kV17 dc17 pm17 cd17 ct17 oc18 kV18 dc18 pm18 cd18 ct18 oc19 kV19 dc19 pm19 cd19 ct19 oc20 kV20 dc20 pm20 cd20 ct20 oc21 kV21 dc21 pm21 cd21 ct21 oc22 kV22 dc22 pm22 cd22 ct22 oc23 kV23 dc23 pm23 cd23 ct23 oc24 kV24 dc24 pm24 cd24 ct24 oc25 kV25 dc25 pm25 cd25 ct25 oc26 kV26 dc26 pm26 cd26 ct26 oc27 kV27 dc27 pm27 cd27 ct27 oc28 kV28 dc28 pm28 cd28 ct28 oc29 kV29 dc29 pm29 cd29 ct29 oc30 kV30 dc30 pm30 cd30 ct30 oc31 kV31 dc31 pm31 cd31 ct31 : Value}
    (gStore : PySem.W.nsIn K mainGlobals "Store" = some (some (.ref CStore))) (pgStore : PySem.W.plainGet K CStore Str.empty = true) (hdStore : PySem.W.hasDictIn K CStore = true) (poStore : PySem.W.plainOver K CStore = true) (saStore : PySem.W.findIn K (.ref CStore) "__setattr__" = some (some (.builtin "object.__setattr__"))) (mkStore : PySem.W.makesIn K CStore = true) (kcStore : PySem.W.keepIn K (.ref CStore) = true)
    (nfStore_levels : PySem.W.findIn K (.ref CStore) "_levels" = some none)
    (nfStore_lows : PySem.W.findIn K (.ref CStore) "_lows" = some none)
    (nfStore_highs : PySem.W.findIn K (.ref CStore) "_highs" = some none)
    (nfStore_references : PySem.W.findIn K (.ref CStore) "_references" = some none)
    (nfStore_chosen : PySem.W.findIn K (.ref CStore) "_chosen" = some none)
    (a0 : PySem.W.findIn K (.ref CStore) "__init__" = some (some (.ref f0))) (i0 : PySem.W.isFn K (.ref f0) = true) (l0 : K.lookup f0 = some ⟨oc0, od0, .func (PySem.W.fnOf "__init__" "Store.__init__" (defArgs s_Store___init__) (defBody s_Store___init__) (defScope s_Store___init__) .none kV0 dc0 pm0 an0 cd0 ct0), sl0⟩) (c0 : PySem.W.codeIn K cd0 "Store.__init__" = true) (k0 : PySem.W.keepIn K (.ref f0) = true)
    (a1 : PySem.W.findIn K (.ref CStore) "node" = some (some (.ref f1))) (i1 : PySem.W.isFn K (.ref f1) = true) (l1 : K.lookup f1 = some ⟨oc1, od1, .func (PySem.W.fnOf "node" "Store.node" (defArgs s_Store_node) (defBody s_Store_node) (defScope s_Store_node) .none kV1 dc1 pm1 an1 cd1 ct1), sl1⟩) (c1 : PySem.W.codeIn K cd1 "Store.node" = true) (k1 : PySem.W.keepIn K (.ref f1) = true)
    (a2 : PySem.W.findIn K (.ref CStore) "coin" = some (some (.ref f2))) (i2 : PySem.W.isFn K (.ref f2) = true) (l2 : K.lookup f2 = some ⟨oc2, od2, .func (PySem.W.fnOf "coin" "Store.coin" (defArgs s_Store_coin) (defBody s_Store_coin) (defScope s_Store_coin) .none kV2 dc2 pm2 an2 cd2 ct2), sl2⟩) (c2 : PySem.W.codeIn K cd2 "Store.coin" = true) (k2 : PySem.W.keepIn K (.ref f2) = true)
    (a3 : PySem.W.findIn K (.ref CStore) "low" = some (some (.ref f3))) (i3 : PySem.W.isFn K (.ref f3) = true) (l3 : K.lookup f3 = some ⟨oc3, od3, .func (PySem.W.fnOf "low" "Store.low" (defArgs s_Store_low) (defBody s_Store_low) (defScope s_Store_low) .none kV3 dc3 pm3 an3 cd3 ct3), sl3⟩) (c3 : PySem.W.codeIn K cd3 "Store.low" = true) (k3 : PySem.W.keepIn K (.ref f3) = true)
    (a4 : PySem.W.findIn K (.ref CStore) "high" = some (some (.ref f4))) (i4 : PySem.W.isFn K (.ref f4) = true) (l4 : K.lookup f4 = some ⟨oc4, od4, .func (PySem.W.fnOf "high" "Store.high" (defArgs s_Store_high) (defBody s_Store_high) (defScope s_Store_high) .none kV4 dc4 pm4 an4 cd4 ct4), sl4⟩) (c4 : PySem.W.codeIn K cd4 "Store.high" = true) (k4 : PySem.W.keepIn K (.ref f4) = true)
    (a5 : PySem.W.findIn K (.ref CStore) "choose" = some (some (.ref f5))) (i5 : PySem.W.isFn K (.ref f5) = true) (l5 : K.lookup f5 = some ⟨oc5, od5, .func (PySem.W.fnOf "choose" "Store.choose" (defArgs s_Store_choose) (defBody s_Store_choose) (defScope s_Store_choose) .none kV5 dc5 pm5 an5 cd5 ct5), sl5⟩) (c5 : PySem.W.codeIn K cd5 "Store.choose" = true) (k5 : PySem.W.keepIn K (.ref f5) = true)
    (a6 : PySem.W.findIn K (.ref CStore) "negate" = some (some (.ref f6))) (i6 : PySem.W.isFn K (.ref f6) = true) (l6 : K.lookup f6 = some ⟨oc6, od6, .func (PySem.W.fnOf "negate" "Store.negate" (defArgs s_Store_negate) (defBody s_Store_negate) (defScope s_Store_negate) .none kV6 dc6 pm6 an6 cd6 ct6), sl6⟩) (c6 : PySem.W.codeIn K cd6 "Store.negate" = true) (k6 : PySem.W.keepIn K (.ref f6) = true)
    (a7 : PySem.W.findIn K (.ref CStore) "both" = some (some (.ref f7))) (i7 : PySem.W.isFn K (.ref f7) = true) (l7 : K.lookup f7 = some ⟨oc7, od7, .func (PySem.W.fnOf "both" "Store.both" (defArgs s_Store_both) (defBody s_Store_both) (defScope s_Store_both) .none kV7 dc7 pm7 an7 cd7 ct7), sl7⟩) (c7 : PySem.W.codeIn K cd7 "Store.both" = true) (k7 : PySem.W.keepIn K (.ref f7) = true)
    (a8 : PySem.W.findIn K (.ref CStore) "either" = some (some (.ref f8))) (i8 : PySem.W.isFn K (.ref f8) = true) (l8 : K.lookup f8 = some ⟨oc8, od8, .func (PySem.W.fnOf "either" "Store.either" (defArgs s_Store_either) (defBody s_Store_either) (defScope s_Store_either) .none kV8 dc8 pm8 an8 cd8 ct8), sl8⟩) (c8 : PySem.W.codeIn K cd8 "Store.either" = true) (k8 : PySem.W.keepIn K (.ref f8) = true)
    (a9 : PySem.W.findIn K (.ref CStore) "without" = some (some (.ref f9))) (i9 : PySem.W.isFn K (.ref f9) = true) (l9 : K.lookup f9 = some ⟨oc9, od9, .func (PySem.W.fnOf "without" "Store.without" (defArgs s_Store_without) (defBody s_Store_without) (defScope s_Store_without) .none kV9 dc9 pm9 an9 cd9 ct9), sl9⟩) (c9 : PySem.W.codeIn K cd9 "Store.without" = true) (k9 : PySem.W.keepIn K (.ref f9) = true)
    (a10 : PySem.W.findIn K (.ref CStore) "either_of" = some (some (.ref f10))) (i10 : PySem.W.isFn K (.ref f10) = true) (l10 : K.lookup f10 = some ⟨oc10, od10, .func (PySem.W.fnOf "either_of" "Store.either_of" (defArgs s_Store_either_of) (defBody s_Store_either_of) (defScope s_Store_either_of) .none kV10 dc10 pm10 an10 cd10 ct10), sl10⟩) (c10 : PySem.W.codeIn K cd10 "Store.either_of" = true) (k10 : PySem.W.keepIn K (.ref f10) = true)
    (a11 : PySem.W.findIn K (.ref CStore) "nodes_below" = some (some (.ref f11))) (i11 : PySem.W.isFn K (.ref f11) = true) (l11 : K.lookup f11 = some ⟨oc11, od11, .func (PySem.W.fnOf "nodes_below" "Store.nodes_below" (defArgs s_Store_nodes_below) (defBody s_Store_nodes_below) (defScope s_Store_nodes_below) .none kV11 dc11 pm11 an11 cd11 ct11), sl11⟩) (c11 : PySem.W.codeIn K cd11 "Store.nodes_below" = true) (k11 : PySem.W.keepIn K (.ref f11) = true)
    (a12 : PySem.W.findIn K (.ref CStore) "nodes_below_all" = some (some (.ref f12))) (i12 : PySem.W.isFn K (.ref f12) = true) (l12 : K.lookup f12 = some ⟨oc12, od12, .func (PySem.W.fnOf "nodes_below_all" "Store.nodes_below_all" (defArgs s_Store_nodes_below_all) (defBody s_Store_nodes_below_all) (defScope s_Store_nodes_below_all) .none kV12 dc12 pm12 an12 cd12 ct12), sl12⟩) (c12 : PySem.W.codeIn K cd12 "Store.nodes_below_all" = true) (k12 : PySem.W.keepIn K (.ref f12) = true)
    (a13 : PySem.W.findIn K (.ref CStore) "models" = some (some (.ref f13))) (i13 : PySem.W.isFn K (.ref f13) = true) (l13 : K.lookup f13 = some ⟨oc13, od13, .func (PySem.W.fnOf "models" "Store.models" (defArgs s_Store_models) (defBody s_Store_models) (defScope s_Store_models) .none kV13 dc13 pm13 an13 cd13 ct13), sl13⟩) (c13 : PySem.W.codeIn K cd13 "Store.models" = true) (k13 : PySem.W.keepIn K (.ref f13) = true)
    (a14 : PySem.W.findIn K (.ref CStore) "_settled" = some (some (.ref f14))) (i14 : PySem.W.isFn K (.ref f14) = true) (l14 : K.lookup f14 = some ⟨oc14, od14, .func (PySem.W.fnOf "_settled" "Store._settled" (defArgs s_Store__settled) (defBody s_Store__settled) (defScope s_Store__settled) .none kV14 dc14 pm14 an14 cd14 ct14), sl14⟩) (c14 : PySem.W.codeIn K cd14 "Store._settled" = true) (k14 : PySem.W.keepIn K (.ref f14) = true)
    (a15 : PySem.W.findIn K (.ref CStore) "_parts_of" = some (some (.ref f15))) (i15 : PySem.W.isFn K (.ref f15) = true) (l15 : K.lookup f15 = some ⟨oc15, od15, .func (PySem.W.fnOf "_parts_of" "Store._parts_of" (defArgs s_Store__parts_of) (defBody s_Store__parts_of) (defScope s_Store__parts_of) .none kV15 dc15 pm15 an15 cd15 ct15), sl15⟩) (c15 : PySem.W.codeIn K cd15 "Store._parts_of" = true) (k15 : PySem.W.keepIn K (.ref f15) = true)
    (a16 : PySem.W.findIn K (.ref CStore) "_level_below" = some (some (.ref f16))) (i16 : PySem.W.isFn K (.ref f16) = true) (l16 : K.lookup f16 = some ⟨oc16, od16, .func (PySem.W.fnOf "_level_below" "Store._level_below" (defArgs s_Store__level_below) (defBody s_Store__level_below) (defScope s_Store__level_below) .none kV16 dc16 pm16 an16 cd16 ct16), sl16⟩) (c16 : PySem.W.codeIn K cd16 "Store._level_below" = true) (k16 : PySem.W.keepIn K (.ref f16) = true)
    (a17 : PySem.W.nsIn K mainGlobals "_checked_node" = some (some (.ref f17))) (l17 : K.lookup f17 = some ⟨oc17, od17, .func (PySem.W.fnOf "_checked_node" "_checked_node" (defArgs s_checked_node) (defBody s_checked_node) (defScope s_checked_node) .none kV17 dc17 pm17 an17 cd17 ct17), sl17⟩) (c17 : PySem.W.codeIn K cd17 "_checked_node" = true) (k17 : PySem.W.keepIn K (.ref f17) = true)
    (a18 : PySem.W.nsIn K mainGlobals "_law_same" = some (some (.ref f18))) (l18 : K.lookup f18 = some ⟨oc18, od18, .func (PySem.W.fnOf "_law_same" "_law_same" (defArgs s_law_same) (defBody s_law_same) (defScope s_law_same) .none kV18 dc18 pm18 an18 cd18 ct18), sl18⟩) (c18 : PySem.W.codeIn K cd18 "_law_same" = true) (k18 : PySem.W.keepIn K (.ref f18) = true)
    (a19 : PySem.W.nsIn K mainGlobals "_law_pool" = some (some (.ref f19))) (l19 : K.lookup f19 = some ⟨oc19, od19, .func (PySem.W.fnOf "_law_pool" "_law_pool" (defArgs s_law_pool) (defBody s_law_pool) (defScope s_law_pool) .none kV19 dc19 pm19 an19 cd19 ct19), sl19⟩) (c19 : PySem.W.codeIn K cd19 "_law_pool" = true) (k19 : PySem.W.keepIn K (.ref f19) = true)
    (a20 : PySem.W.nsIn K mainGlobals "_law_spread" = some (some (.ref f20))) (l20 : K.lookup f20 = some ⟨oc20, od20, .func (PySem.W.fnOf "_law_spread" "_law_spread" (defArgs s_law_spread) (defBody s_law_spread) (defScope s_law_spread) .none kV20 dc20 pm20 an20 cd20 ct20), sl20⟩) (c20 : PySem.W.codeIn K cd20 "_law_spread" = true) (k20 : PySem.W.keepIn K (.ref f20) = true)
    (a21 : PySem.W.nsIn K mainGlobals "_law_draw" = some (some (.ref f21))) (l21 : K.lookup f21 = some ⟨oc21, od21, .func (PySem.W.fnOf "_law_draw" "_law_draw" (defArgs s_law_draw) (defBody s_law_draw) (defScope s_law_draw) .none kV21 dc21 pm21 an21 cd21 ct21), sl21⟩) (c21 : PySem.W.codeIn K cd21 "_law_draw" = true) (k21 : PySem.W.keepIn K (.ref f21) = true)
    (a22 : PySem.W.nsIn K mainGlobals "_law_levels" = some (some (.ref f22))) (l22 : K.lookup f22 = some ⟨oc22, od22, .func (PySem.W.fnOf "_law_levels" "_law_levels" (defArgs s_law_levels) (defBody s_law_levels) (defScope s_law_levels) .none kV22 dc22 pm22 an22 cd22 ct22), sl22⟩) (c22 : PySem.W.codeIn K cd22 "_law_levels" = true) (k22 : PySem.W.keepIn K (.ref f22) = true)
    (a23 : PySem.W.nsIn K mainGlobals "_law_coin" = some (some (.ref f23))) (l23 : K.lookup f23 = some ⟨oc23, od23, .func (PySem.W.fnOf "_law_coin" "_law_coin" (defArgs s_law_coin) (defBody s_law_coin) (defScope s_law_coin) .none kV23 dc23 pm23 an23 cd23 ct23), sl23⟩) (c23 : PySem.W.codeIn K cd23 "_law_coin" = true) (k23 : PySem.W.keepIn K (.ref f23) = true)
    (a24 : PySem.W.nsIn K mainGlobals "_law_mixed" = some (some (.ref f24))) (l24 : K.lookup f24 = some ⟨oc24, od24, .func (PySem.W.fnOf "_law_mixed" "_law_mixed" (defArgs s_law_mixed) (defBody s_law_mixed) (defScope s_law_mixed) .none kV24 dc24 pm24 an24 cd24 ct24), sl24⟩) (c24 : PySem.W.codeIn K cd24 "_law_mixed" = true) (k24 : PySem.W.keepIn K (.ref f24) = true)
    (a25 : PySem.W.nsIn K mainGlobals "_law_halves" = some (some (.ref f25))) (l25 : K.lookup f25 = some ⟨oc25, od25, .func (PySem.W.fnOf "_law_halves" "_law_halves" (defArgs s_law_halves) (defBody s_law_halves) (defScope s_law_halves) .none kV25 dc25 pm25 an25 cd25 ct25), sl25⟩) (c25 : PySem.W.codeIn K cd25 "_law_halves" = true) (k25 : PySem.W.keepIn K (.ref f25) = true)
    (a26 : PySem.W.nsIn K mainGlobals "_law_needs" = some (some (.ref f26))) (l26 : K.lookup f26 = some ⟨oc26, od26, .func (PySem.W.fnOf "_law_needs" "_law_needs" (defArgs s_law_needs) (defBody s_law_needs) (defScope s_law_needs) .none kV26 dc26 pm26 an26 cd26 ct26), sl26⟩) (c26 : PySem.W.codeIn K cd26 "_law_needs" = true) (k26 : PySem.W.keepIn K (.ref f26) = true)
    (a27 : PySem.W.nsIn K mainGlobals "_law_deed" = some (some (.ref f27))) (l27 : K.lookup f27 = some ⟨oc27, od27, .func (PySem.W.fnOf "_law_deed" "_law_deed" (defArgs s_law_deed) (defBody s_law_deed) (defScope s_law_deed) .none kV27 dc27 pm27 an27 cd27 ct27), sl27⟩) (c27 : PySem.W.codeIn K cd27 "_law_deed" = true) (k27 : PySem.W.keepIn K (.ref f27) = true)
    (a28 : PySem.W.nsIn K mainGlobals "_law_made" = some (some (.ref f28))) (l28 : K.lookup f28 = some ⟨oc28, od28, .func (PySem.W.fnOf "_law_made" "_law_made" (defArgs s_law_made) (defBody s_law_made) (defScope s_law_made) .none kV28 dc28 pm28 an28 cd28 ct28), sl28⟩) (c28 : PySem.W.codeIn K cd28 "_law_made" = true) (k28 : PySem.W.keepIn K (.ref f28) = true)
    (a29 : PySem.W.nsIn K mainGlobals "_law_nodes" = some (some (.ref f29))) (l29 : K.lookup f29 = some ⟨oc29, od29, .func (PySem.W.fnOf "_law_nodes" "_law_nodes" (defArgs s_law_nodes) (defBody s_law_nodes) (defScope s_law_nodes) .none kV29 dc29 pm29 an29 cd29 ct29), sl29⟩) (c29 : PySem.W.codeIn K cd29 "_law_nodes" = true) (k29 : PySem.W.keepIn K (.ref f29) = true)
    (a30 : PySem.W.nsIn K mainGlobals "_law_reached" = some (some (.ref f30))) (l30 : K.lookup f30 = some ⟨oc30, od30, .func (PySem.W.fnOf "_law_reached" "_law_reached" (defArgs s_law_reached) (defBody s_law_reached) (defScope s_law_reached) .none kV30 dc30 pm30 an30 cd30 ct30), sl30⟩) (c30 : PySem.W.codeIn K cd30 "_law_reached" = true) (k30 : PySem.W.keepIn K (.ref f30) = true)
    (a31 : PySem.W.nsIn K mainGlobals "law" = some (some (.ref f31))) (l31 : K.lookup f31 = some ⟨oc31, od31, .func (PySem.W.fnOf "law" "law" (defArgs s_law) (defBody s_law) (defScope s_law) .none kV31 dc31 pm31 an31 cd31 ct31), sl31⟩) (c31 : PySem.W.codeIn K cd31 "law" = true) (k31 : PySem.W.keepIn K (.ref f31) = true)
    (gOddsError : PySem.W.nsIn K mainGlobals "OddsError" = some (some (.ref COddsError))) (xOddsError : PySem.W.excIn K COddsError [.type "ValueError", .type "Exception", .type "BaseException", .type "object"] "ValueError.__new__" = true) (kkOddsError : PySem.W.keepIn K (.ref COddsError) = true) (bOddsError : PySem.W.subIn K (.ref COddsError) (.type "BaseException") = some true) (tOddsError : PySem.W.typeIn K (.ref COddsError) = some (.type "type")) (sOddsError : PySem.W.subIn K (.ref COddsError) (.ref COddsError) = some true)
    (gaOddsError : PySem.W.findIn K (.ref COddsError) "__getattribute__" = some (some (.builtin "BaseException.__getattribute__"))) (ggOddsError : PySem.W.findIn K (.ref COddsError) "__getattr__" = some none) (hdOddsError : PySem.W.hasDictIn K COddsError = true) (clOddsError : PySem.W.findIn K (.ref COddsError) "__class__" = some (some (.builtin "object.__class__"))) (mrOddsError : PySem.W.mroIn K COddsError (.type "object") = some true)
    (gNotANode : PySem.W.nsIn K mainGlobals "NotANode" = some (some (.ref CNotANode))) (xNotANode : PySem.W.excIn K CNotANode [.type "ValueError", .type "Exception", .type "BaseException", .type "object"] "ValueError.__new__" = true) (kkNotANode : PySem.W.keepIn K (.ref CNotANode) = true) (bNotANode : PySem.W.subIn K (.ref CNotANode) (.type "BaseException") = some true) (tNotANode : PySem.W.typeIn K (.ref CNotANode) = some (.type "type")) (sNotANode : PySem.W.subIn K (.ref CNotANode) (.ref CNotANode) = some true)
    (gaNotANode : PySem.W.findIn K (.ref CNotANode) "__getattribute__" = some (some (.builtin "BaseException.__getattribute__"))) (ggNotANode : PySem.W.findIn K (.ref CNotANode) "__getattr__" = some none) (hdNotANode : PySem.W.hasDictIn K CNotANode = true) (clNotANode : PySem.W.findIn K (.ref CNotANode) "__class__" = some (some (.builtin "object.__class__"))) (mrNotANode : PySem.W.mroIn K CNotANode (.type "object") = some true)
    (spg : PySem.W.specialIn K (.builtin "object.__class__") "__get__" = some (some (.builtin "getset_descriptor.__get__"))) (spt : PySem.W.takesIn K (.builtin "object.__class__") = some true)
    (zlen : PySem.W.nsIn K mainGlobals "len" = some none)
    (zmin : PySem.W.nsIn K mainGlobals "min" = some none)
    (zmax : PySem.W.nsIn K mainGlobals "max" = some none)
    (zlist : PySem.W.nsIn K mainGlobals "list" = some none)
    (zsorted : PySem.W.nsIn K mainGlobals "sorted" = some none)
    (zisinstance : PySem.W.nsIn K mainGlobals "isinstance" = some none)
    (ztuple : PySem.W.nsIn K mainGlobals "tuple" = some none)
    (zrange : PySem.W.nsIn K mainGlobals "range" = some none)
    (zbool : PySem.W.nsIn K mainGlobals "bool" = some none)
    (zint : PySem.W.nsIn K mainGlobals "int" = some none)
    (zstr : PySem.W.nsIn K mainGlobals "str" = some none)
    {tkMOST_CHOICES : Tok} (gMOST_CHOICES : PySem.W.nsIn K mainGlobals "MOST_CHOICES" = some (some (.int 300000 tkMOST_CHOICES))) :
    ∃ A : At, A.a_law = fa ∧ (∀ (s : Shared) (v : Value), BindsTo s A.d_law ⟨[v], []⟩ [("script", v)]) ∧ Txt K mg A := by
  have e := hfa.symm.trans (PySem.W.mg_of X G a31)
  cases e
  have F0 := fun_mk (st := s_Store___init__) l0 c0 k0
  have b0 := F0.binds (ps := ["self"]) fun _ _ _ _ _ _ us hl => match us, hl with | [_], _ => rfl
  have F1 := fun_mk (st := s_Store_node) l1 c1 k1
  have b1 := F1.binds (ps := ["self", "level", "low", "high"]) fun _ _ _ _ _ _ us hl => match us, hl with | [_, _, _, _], _ => rfl
  have F2 := fun_mk (st := s_Store_coin) l2 c2 k2
  have b2 := F2.binds (ps := ["self", "level"]) fun _ _ _ _ _ _ us hl => match us, hl with | [_, _], _ => rfl
  have F3 := fun_mk (st := s_Store_low) l3 c3 k3
  have b3 := F3.binds (ps := ["self", "a"]) fun _ _ _ _ _ _ us hl => match us, hl with | [_, _], _ => rfl
  have F4 := fun_mk (st := s_Store_high) l4 c4 k4
  have b4 := F4.binds (ps := ["self", "a"]) fun _ _ _ _ _ _ us hl => match us, hl with | [_, _], _ => rfl
  have F5 := fun_mk (st := s_Store_choose) l5 c5 k5
  have b5 := F5.binds (ps := ["self", "c", "a", "b"]) fun _ _ _ _ _ _ us hl => match us, hl with | [_, _, _, _], _ => rfl
  have F6 := fun_mk (st := s_Store_negate) l6 c6 k6
  have b6 := F6.binds (ps := ["self", "a"]) fun _ _ _ _ _ _ us hl => match us, hl with | [_, _], _ => rfl
  have F7 := fun_mk (st := s_Store_both) l7 c7 k7
  have b7 := F7.binds (ps := ["self", "a", "b"]) fun _ _ _ _ _ _ us hl => match us, hl with | [_, _, _], _ => rfl
  have F8 := fun_mk (st := s_Store_either) l8 c8 k8
  have b8 := F8.binds (ps := ["self", "a", "b"]) fun _ _ _ _ _ _ us hl => match us, hl with | [_, _, _], _ => rfl
  have F9 := fun_mk (st := s_Store_without) l9 c9 k9
  have b9 := F9.binds (ps := ["self", "a", "b"]) fun _ _ _ _ _ _ us hl => match us, hl with | [_, _, _], _ => rfl
  have F10 := fun_mk (st := s_Store_either_of) l10 c10 k10
  have b10 := F10.binds (ps := ["self", "references"]) fun _ _ _ _ _ _ us hl => match us, hl with | [_, _], _ => rfl
  have F11 := fun_mk (st := s_Store_nodes_below) l11 c11 k11
  have b11 := F11.binds (ps := ["self", "a"]) fun _ _ _ _ _ _ us hl => match us, hl with | [_, _], _ => rfl
  have F12 := fun_mk (st := s_Store_nodes_below_all) l12 c12 k12
  have b12 := F12.binds (ps := ["self", "references"]) fun _ _ _ _ _ _ us hl => match us, hl with | [_, _], _ => rfl
  have F13 := fun_mk (st := s_Store_models) l13 c13 k13
  have b13 := F13.binds (ps := ["self", "a", "levels"]) fun _ _ _ _ _ _ us hl => match us, hl with | [_, _, _], _ => rfl
  have F14 := fun_mk (st := s_Store__settled) l14 c14 k14
  have b14 := F14.binds (ps := ["self", "choice"]) fun _ _ _ _ _ _ us hl => match us, hl with | [_, _], _ => rfl
  have F15 := fun_mk (st := s_Store__parts_of) l15 c15 k15
  have b15 := F15.binds (ps := ["self", "choice"]) fun _ _ _ _ _ _ us hl => match us, hl with | [_, _], _ => rfl
  have F16 := fun_mk (st := s_Store__level_below) l16 c16 k16
  have b16 := F16.binds (ps := ["self", "a", "levels"]) fun _ _ _ _ _ _ us hl => match us, hl with | [_, _, _], _ => rfl
  have F17 := fun_mk (st := s_checked_node) l17 c17 k17
  have b17 := F17.binds (ps := ["a"]) fun _ _ _ _ _ _ us hl => match us, hl with | [_], _ => rfl
  have F18 := fun_mk (st := s_law_same) l18 c18 k18
  have b18 := F18.binds (ps := ["actual", "due"]) fun _ _ _ _ _ _ us hl => match us, hl with | [_, _], _ => rfl
  have F19 := fun_mk (st := s_law_pool) l19 c19 k19
  have b19 := F19.binds (ps := ["script"]) fun _ _ _ _ _ _ us hl => match us, hl with | [_], _ => rfl
  have F20 := fun_mk (st := s_law_spread) l20 c20 k20
  have b20 := F20.binds (ps := ["cell"]) fun _ _ _ _ _ _ us hl => match us, hl with | [_], _ => rfl
  have F21 := fun_mk (st := s_law_draw) l21 c21 k21
  have b21 := F21.binds (ps := ["pool", "many"]) fun _ _ _ _ _ _ us hl => match us, hl with | [_, _], _ => rfl
  have F22 := fun_mk (st := s_law_levels) l22 c22 k22
  have b22 := F22.binds (ps := ["pool", "many"]) fun _ _ _ _ _ _ us hl => match us, hl with | [_, _], _ => rfl
  have F23 := fun_mk (st := s_law_coin) l23 c23 k23
  have b23 := F23.binds (ps := ["many", "k"]) fun _ _ _ _ _ _ us hl => match us, hl with | [_, _], _ => rfl
  have F24 := fun_mk (st := s_law_mixed) l24 c24 k24
  have b24 := F24.binds (ps := ["test", "first", "second"]) fun _ _ _ _ _ _ us hl => match us, hl with | [_, _, _], _ => rfl
  have F25 := fun_mk (st := s_law_halves) l25 c25 k25
  have b25 := F25.binds (ps := ["table", "k", "many"]) fun _ _ _ _ _ _ us hl => match us, hl with | [_, _, _], _ => rfl
  have F26 := fun_mk (st := s_law_needs) l26 c26 k26
  have b26 := F26.binds (ps := ["table", "many"]) fun _ _ _ _ _ _ us hl => match us, hl with | [_, _], _ => rfl
  have F27 := fun_mk (st := s_law_deed) l27 c27 k27
  have b27 := F27.binds (ps := ["pool", "store", "refs", "tables", "levels"]) fun _ _ _ _ _ _ us hl => match us, hl with | [_, _, _, _, _], _ => rfl
  have F28 := fun_mk (st := s_law_made) l28 c28 k28
  have b28 := F28.binds (ps := ["pool", "store", "levels", "most"]) fun _ _ _ _ _ _ us hl => match us, hl with | [_, _, _, _], _ => rfl
  have F29 := fun_mk (st := s_law_nodes) l29 c29 k29
  have b29 := F29.binds (ps := ["table"]) fun _ _ _ _ _ _ us hl => match us, hl with | [_], _ => rfl
  have F30 := fun_mk (st := s_law_reached) l30 c30 k30
  have b30 := F30.binds (ps := ["store", "a"]) fun _ _ _ _ _ _ us hl => match us, hl with | [_, _], _ => rfl
  have F31 := fun_mk (st := s_law) l31 c31 k31
  have b31 := F31.binds (ps := ["script"]) fun _ _ _ _ _ _ us hl => match us, hl with | [_], _ => rfl
  exact ⟨⟨f0, PySem.W.fnOf "__init__" "Store.__init__" (defArgs s_Store___init__) (defBody s_Store___init__) (defScope s_Store___init__) .none kV0 dc0 pm0 an0 cd0 ct0, f1, PySem.W.fnOf "node" "Store.node" (defArgs s_Store_node) (defBody s_Store_node) (defScope s_Store_node) .none kV1 dc1 pm1 an1 cd1 ct1, f2, PySem.W.fnOf "coin" "Store.coin" (defArgs s_Store_coin) (defBody s_Store_coin) (defScope s_Store_coin) .none kV2 dc2 pm2 an2 cd2 ct2, f3, PySem.W.fnOf "low" "Store.low" (defArgs s_Store_low) (defBody s_Store_low) (defScope s_Store_low) .none kV3 dc3 pm3 an3 cd3 ct3, f4, PySem.W.fnOf "high" "Store.high" (defArgs s_Store_high) (defBody s_Store_high) (defScope s_Store_high) .none kV4 dc4 pm4 an4 cd4 ct4, f5, PySem.W.fnOf "choose" "Store.choose" (defArgs s_Store_choose) (defBody s_Store_choose) (defScope s_Store_choose) .none kV5 dc5 pm5 an5 cd5 ct5, f6, PySem.W.fnOf "negate" "Store.negate" (defArgs s_Store_negate) (defBody s_Store_negate) (defScope s_Store_negate) .none kV6 dc6 pm6 an6 cd6 ct6, f7, PySem.W.fnOf "both" "Store.both" (defArgs s_Store_both) (defBody s_Store_both) (defScope s_Store_both) .none kV7 dc7 pm7 an7 cd7 ct7, f8, PySem.W.fnOf "either" "Store.either" (defArgs s_Store_either) (defBody s_Store_either) (defScope s_Store_either) .none kV8 dc8 pm8 an8 cd8 ct8, f9, PySem.W.fnOf "without" "Store.without" (defArgs s_Store_without) (defBody s_Store_without) (defScope s_Store_without) .none kV9 dc9 pm9 an9 cd9 ct9, f10, PySem.W.fnOf "either_of" "Store.either_of" (defArgs s_Store_either_of) (defBody s_Store_either_of) (defScope s_Store_either_of) .none kV10 dc10 pm10 an10 cd10 ct10, f11, PySem.W.fnOf "nodes_below" "Store.nodes_below" (defArgs s_Store_nodes_below) (defBody s_Store_nodes_below) (defScope s_Store_nodes_below) .none kV11 dc11 pm11 an11 cd11 ct11, f12, PySem.W.fnOf "nodes_below_all" "Store.nodes_below_all" (defArgs s_Store_nodes_below_all) (defBody s_Store_nodes_below_all) (defScope s_Store_nodes_below_all) .none kV12 dc12 pm12 an12 cd12 ct12, f13, PySem.W.fnOf "models" "Store.models" (defArgs s_Store_models) (defBody s_Store_models) (defScope s_Store_models) .none kV13 dc13 pm13 an13 cd13 ct13, f14, PySem.W.fnOf "_settled" "Store._settled" (defArgs s_Store__settled) (defBody s_Store__settled) (defScope s_Store__settled) .none kV14 dc14 pm14 an14 cd14 ct14, f15, PySem.W.fnOf "_parts_of" "Store._parts_of" (defArgs s_Store__parts_of) (defBody s_Store__parts_of) (defScope s_Store__parts_of) .none kV15 dc15 pm15 an15 cd15 ct15, f16, PySem.W.fnOf "_level_below" "Store._level_below" (defArgs s_Store__level_below) (defBody s_Store__level_below) (defScope s_Store__level_below) .none kV16 dc16 pm16 an16 cd16 ct16, f17, PySem.W.fnOf "_checked_node" "_checked_node" (defArgs s_checked_node) (defBody s_checked_node) (defScope s_checked_node) .none kV17 dc17 pm17 an17 cd17 ct17, f18, PySem.W.fnOf "_law_same" "_law_same" (defArgs s_law_same) (defBody s_law_same) (defScope s_law_same) .none kV18 dc18 pm18 an18 cd18 ct18, f19, PySem.W.fnOf "_law_pool" "_law_pool" (defArgs s_law_pool) (defBody s_law_pool) (defScope s_law_pool) .none kV19 dc19 pm19 an19 cd19 ct19, f20, PySem.W.fnOf "_law_spread" "_law_spread" (defArgs s_law_spread) (defBody s_law_spread) (defScope s_law_spread) .none kV20 dc20 pm20 an20 cd20 ct20, f21, PySem.W.fnOf "_law_draw" "_law_draw" (defArgs s_law_draw) (defBody s_law_draw) (defScope s_law_draw) .none kV21 dc21 pm21 an21 cd21 ct21, f22, PySem.W.fnOf "_law_levels" "_law_levels" (defArgs s_law_levels) (defBody s_law_levels) (defScope s_law_levels) .none kV22 dc22 pm22 an22 cd22 ct22, f23, PySem.W.fnOf "_law_coin" "_law_coin" (defArgs s_law_coin) (defBody s_law_coin) (defScope s_law_coin) .none kV23 dc23 pm23 an23 cd23 ct23, f24, PySem.W.fnOf "_law_mixed" "_law_mixed" (defArgs s_law_mixed) (defBody s_law_mixed) (defScope s_law_mixed) .none kV24 dc24 pm24 an24 cd24 ct24, f25, PySem.W.fnOf "_law_halves" "_law_halves" (defArgs s_law_halves) (defBody s_law_halves) (defScope s_law_halves) .none kV25 dc25 pm25 an25 cd25 ct25, f26, PySem.W.fnOf "_law_needs" "_law_needs" (defArgs s_law_needs) (defBody s_law_needs) (defScope s_law_needs) .none kV26 dc26 pm26 an26 cd26 ct26, f27, PySem.W.fnOf "_law_deed" "_law_deed" (defArgs s_law_deed) (defBody s_law_deed) (defScope s_law_deed) .none kV27 dc27 pm27 an27 cd27 ct27, f28, PySem.W.fnOf "_law_made" "_law_made" (defArgs s_law_made) (defBody s_law_made) (defScope s_law_made) .none kV28 dc28 pm28 an28 cd28 ct28, f29, PySem.W.fnOf "_law_nodes" "_law_nodes" (defArgs s_law_nodes) (defBody s_law_nodes) (defScope s_law_nodes) .none kV29 dc29 pm29 an29 cd29 ct29, f30, PySem.W.fnOf "_law_reached" "_law_reached" (defArgs s_law_reached) (defBody s_law_reached) (defScope s_law_reached) .none kV30 dc30 pm30 an30 cd30 ct30, fa, PySem.W.fnOf "law" "law" (defArgs s_law) (defBody s_law) (defScope s_law) .none kV31 dc31 pm31 an31 cd31 ct31, COddsError, CNotANode, CStore⟩, rfl, fun s v => .of_eq rfl,
    ⟨⟨F0, ⟨a0, i0, k0⟩, b0⟩,
    ⟨F1, ⟨a1, i1, k1⟩, b1⟩,
    ⟨F2, ⟨a2, i2, k2⟩, b2⟩,
    ⟨F3, ⟨a3, i3, k3⟩, b3⟩,
    ⟨F4, ⟨a4, i4, k4⟩, b4⟩,
    ⟨F5, ⟨a5, i5, k5⟩, b5⟩,
    ⟨F6, ⟨a6, i6, k6⟩, b6⟩,
    ⟨F7, ⟨a7, i7, k7⟩, b7⟩,
    ⟨F8, ⟨a8, i8, k8⟩, b8⟩,
    ⟨F9, ⟨a9, i9, k9⟩, b9⟩,
    ⟨F10, ⟨a10, i10, k10⟩, b10⟩,
    ⟨F11, ⟨a11, i11, k11⟩, b11⟩,
    ⟨F12, ⟨a12, i12, k12⟩, b12⟩,
    ⟨F13, ⟨a13, i13, k13⟩, b13⟩,
    ⟨F14, ⟨a14, i14, k14⟩, b14⟩,
    ⟨F15, ⟨a15, i15, k15⟩, b15⟩,
    ⟨F16, ⟨a16, i16, k16⟩, b16⟩,
    ⟨F17, PySem.W.mg_of X G a17, b17⟩,
    ⟨F18, PySem.W.mg_of X G a18, b18⟩,
    ⟨F19, PySem.W.mg_of X G a19, b19⟩,
    ⟨F20, PySem.W.mg_of X G a20, b20⟩,
    ⟨F21, PySem.W.mg_of X G a21, b21⟩,
    ⟨F22, PySem.W.mg_of X G a22, b22⟩,
    ⟨F23, PySem.W.mg_of X G a23, b23⟩,
    ⟨F24, PySem.W.mg_of X G a24, b24⟩,
    ⟨F25, PySem.W.mg_of X G a25, b25⟩,
    ⟨F26, PySem.W.mg_of X G a26, b26⟩,
    ⟨F27, PySem.W.mg_of X G a27, b27⟩,
    ⟨F28, PySem.W.mg_of X G a28, b28⟩,
    ⟨F29, PySem.W.mg_of X G a29, b29⟩,
    ⟨F30, PySem.W.mg_of X G a30, b30⟩,
    ⟨F31, PySem.W.mg_of X G a31, b31⟩,
    ⟨PySem.W.mg_of X G gStore, ⟨pgStore, hdStore, poStore, saStore⟩⟩,
    nfStore_levels,
    nfStore_lows,
    nfStore_highs,
    nfStore_references,
    nfStore_chosen,
    ⟨mkStore, a0, i0, kcStore⟩,
    ⟨PySem.W.mg_of X G gOddsError, xOddsError, kkOddsError, bOddsError, tOddsError, sOddsError, ⟨gaOddsError, ggOddsError, bOddsError, hdOddsError, clOddsError, spg, spt, mrOddsError⟩⟩,
    ⟨PySem.W.mg_of X G gNotANode, xNotANode, kkNotANode, bNotANode, tNotANode, sNotANode, ⟨gaNotANode, ggNotANode, bNotANode, hdNotANode, clNotANode, spg, spt, mrNotANode⟩⟩,
    PySem.W.mg_none_of X G zlen,
    PySem.W.mg_none_of X G zmin,
    PySem.W.mg_none_of X G zmax,
    PySem.W.mg_none_of X G zlist,
    PySem.W.mg_none_of X G zsorted,
    PySem.W.mg_none_of X G zisinstance,
    PySem.W.mg_none_of X G ztuple,
    PySem.W.mg_none_of X G zrange,
    PySem.W.mg_none_of X G zbool,
    PySem.W.mg_none_of X G zint,
    PySem.W.mg_none_of X G zstr,
    ⟨_, PySem.W.mg_of X G gMOST_CHOICES, ⟨_, rfl⟩⟩⟩⟩
theorem walk {l : PySem.W.OpenLaw} {q : Program} {loose : List Str} {XP : (Str → Option Value) → Heap → Prop} {YP : World → Heap → Prop} {d : DefRec} {K : Params → PySem.W.Frag} (hn : l.most = some 63) (hdf : d.params.defaults = [])
    (hY : ∀ (w : World) (h : Heap), YP w h → (K w.params).In h)
    (F : ∀ (w : World) (mg : Str → Option Value) (fa : Addr) (h : Heap), (K w.params).In h → h.Ns mainGlobals mg → mg d.name = some (.ref fa) →
      ∃ A : At, A.a_law = fa ∧ (∀ (s : Shared) (v : Value), BindsTo s A.d_law ⟨[v], []⟩ [("script", v)]) ∧ Txt (K w.params) mg A) :
    PySem.W.WalkO q loose XP YP l.row.toRowW d [] (fun f vs => PySem.call f vs) :=
  L2.walk_of (n := 63) (k := 7) (x := "script") (CX := fun w => L2.CX l.prog w) (sp := fun w => spLawF (K w.params)) hn (by decide) hdf ⟨rfl, by decide, by decide⟩ hY
    (fun w mg fa h X G e => by
      obtain ⟨A, rfl, hb, T⟩ := F w mg fa h X G e
      exact ⟨A.d_law, hb, fun base _ _ => law_top (ok_law T 8000) fun ns hn => law_ok ns (by rw [sizeLine_eq]; omega)⟩)
    (fun _ _ a ns hl hO hS => ⟨a, ns, rfl, sqf_of hO hS, hl, fun _ => rfl⟩) fun _ _ _ _ _ z => by
      obtain ⟨_, _, _, _, _, _, _, _, _, _, _, _, z⟩ := z
      exact z
end O
open PySem PySem.W PyProof.Rows
set_option maxRecDepth 100000 in
set_option maxHeartbeats 0 in
theorem PySem.Challenge.cw_odds_k62_models_and_nodes_holds : PySem.Challenge.rw_odds_k62_models_and_nodes.Holds := by
  w_on; o_law; k_head; (case hw => w_witness2)
  k_fill
  refine O.walk (l := PySem.Challenge.rw_odds_k62_models_and_nodes) rfl rfl (fun w h Y => PySem.W.kIn_of Y) ?F
  case F =>
    intro w mg fa h KX G hmg
    refine' O.all_mk KX G hmg ?gStore ?pgStore ?hdStore ?poStore ?saStore ?mkStore ?kcStore ?nfStore_levels ?nfStore_lows ?nfStore_highs ?nfStore_references ?nfStore_chosen ?a0 ?i0 ?l0 ?c0 ?k0 ?a1 ?i1 ?l1 ?c1 ?k1 ?a2 ?i2 ?l2 ?c2 ?k2 ?a3 ?i3 ?l3 ?c3 ?k3 ?a4 ?i4 ?l4 ?c4 ?k4 ?a5 ?i5 ?l5 ?c5 ?k5 ?a6 ?i6 ?l6 ?c6 ?k6 ?a7 ?i7 ?l7 ?c7 ?k7 ?a8 ?i8 ?l8 ?c8 ?k8 ?a9 ?i9 ?l9 ?c9 ?k9 ?a10 ?i10 ?l10 ?c10 ?k10 ?a11 ?i11 ?l11 ?c11 ?k11 ?a12 ?i12 ?l12 ?c12 ?k12 ?a13 ?i13 ?l13 ?c13 ?k13 ?a14 ?i14 ?l14 ?c14 ?k14 ?a15 ?i15 ?l15 ?c15 ?k15 ?a16 ?i16 ?l16 ?c16 ?k16 ?a17 ?l17 ?c17 ?k17 ?a18 ?l18 ?c18 ?k18 ?a19 ?l19 ?c19 ?k19 ?a20 ?l20 ?c20 ?k20 ?a21 ?l21 ?c21 ?k21 ?a22 ?l22 ?c22 ?k22 ?a23 ?l23 ?c23 ?k23 ?a24 ?l24 ?c24 ?k24 ?a25 ?l25 ?c25 ?k25 ?a26 ?l26 ?c26 ?k26 ?a27 ?l27 ?c27 ?k27 ?a28 ?l28 ?c28 ?k28 ?a29 ?l29 ?c29 ?k29 ?a30 ?l30 ?c30 ?k30 ?a31 ?l31 ?c31 ?k31 ?gOddsError ?xOddsError ?kkOddsError ?bOddsError ?tOddsError ?sOddsError ?gaOddsError ?ggOddsError ?hdOddsError ?clOddsError ?mrOddsError ?gNotANode ?xNotANode ?kkNotANode ?bNotANode ?tNotANode ?sNotANode ?gaNotANode ?ggNotANode ?hdNotANode ?clNotANode ?mrNotANode ?spg ?spt ?zlen ?zmin ?zmax ?zlist ?zsorted ?zisinstance ?ztuple ?zrange ?zbool ?zint ?zstr ?gMOST_CHOICES
    (case gStore => k_is)
    (case pgStore => k_is)
    (case hdStore => k_is)
    (case poStore => k_is)
    (case saStore => k_is)
    (case mkStore => k_is)
    (case kcStore => k_is)
    (case nfStore_levels => k_is)
    (case nfStore_lows => k_is)
    (case nfStore_highs => k_is)
    (case nfStore_references => k_is)
    (case nfStore_chosen => k_is)
    (case a0 => k_is)
    (case i0 => k_is)
    (case l0 => k_is)
    (case c0 => k_is)
    (case k0 => k_is)
    (case a1 => k_is)
    (case i1 => k_is)
    (case l1 => k_is)
    (case c1 => k_is)
    (case k1 => k_is)
    (case a2 => k_is)
    (case i2 => k_is)
    (case l2 => k_is)
    (case c2 => k_is)
    (case k2 => k_is)
    (case a3 => k_is)
    (case i3 => k_is)
    (case l3 => k_is)
    (case c3 => k_is)
    (case k3 => k_is)
    (case a4 => k_is)
    (case i4 => k_is)
    (case l4 => k_is)
    (case c4 => k_is)
    (case k4 => k_is)
    (case a5 => k_is)
    (case i5 => k_is)
    (case l5 => k_is)
    (case c5 => k_is)
    (case k5 => k_is)
    (case a6 => k_is)
    (case i6 => k_is)
    (case l6 => k_is)
    (case c6 => k_is)
    (case k6 => k_is)
    (case a7 => k_is)
    (case i7 => k_is)
    (case l7 => k_is)
    (case c7 => k_is)
    (case k7 => k_is)
    (case a8 => k_is)
    (case i8 => k_is)
    (case l8 => k_is)
    (case c8 => k_is)
    (case k8 => k_is)
    (case a9 => k_is)
    (case i9 => k_is)
    (case l9 => k_is)
    (case c9 => k_is)
    (case k9 => k_is)
    (case a10 => k_is)
    (case i10 => k_is)
    (case l10 => k_is)
    (case c10 => k_is)
    (case k10 => k_is)
    (case a11 => k_is)
    (case i11 => k_is)
    (case l11 => k_is)
    (case c11 => k_is)
    (case k11 => k_is)
    (case a12 => k_is)
    (case i12 => k_is)
    (case l12 => k_is)
    (case c12 => k_is)
    (case k12 => k_is)
    (case a13 => k_is)
    (case i13 => k_is)
    (case l13 => k_is)
    (case c13 => k_is)
    (case k13 => k_is)
    (case a14 => k_is)
    (case i14 => k_is)
    (case l14 => k_is)
    (case c14 => k_is)
    (case k14 => k_is)
    (case a15 => k_is)
    (case i15 => k_is)
    (case l15 => k_is)
    (case c15 => k_is)
    (case k15 => k_is)
    (case a16 => k_is)
    (case i16 => k_is)
    (case l16 => k_is)
    (case c16 => k_is)
    (case k16 => k_is)
    (case a17 => k_is)
    (case l17 => k_is)
    (case c17 => k_is)
    (case k17 => k_is)
    (case a18 => k_is)
    (case l18 => k_is)
    (case c18 => k_is)
    (case k18 => k_is)
    (case a19 => k_is)
    (case l19 => k_is)
    (case c19 => k_is)
    (case k19 => k_is)
    (case a20 => k_is)
    (case l20 => k_is)
    (case c20 => k_is)
    (case k20 => k_is)
    (case a21 => k_is)
    (case l21 => k_is)
    (case c21 => k_is)
    (case k21 => k_is)
    (case a22 => k_is)
    (case l22 => k_is)
    (case c22 => k_is)
    (case k22 => k_is)
    (case a23 => k_is)
    (case l23 => k_is)
    (case c23 => k_is)
    (case k23 => k_is)
    (case a24 => k_is)
    (case l24 => k_is)
    (case c24 => k_is)
    (case k24 => k_is)
    (case a25 => k_is)
    (case l25 => k_is)
    (case c25 => k_is)
    (case k25 => k_is)
    (case a26 => k_is)
    (case l26 => k_is)
    (case c26 => k_is)
    (case k26 => k_is)
    (case a27 => k_is)
    (case l27 => k_is)
    (case c27 => k_is)
    (case k27 => k_is)
    (case a28 => k_is)
    (case l28 => k_is)
    (case c28 => k_is)
    (case k28 => k_is)
    (case a29 => k_is)
    (case l29 => k_is)
    (case c29 => k_is)
    (case k29 => k_is)
    (case a30 => k_is)
    (case l30 => k_is)
    (case c30 => k_is)
    (case k30 => k_is)
    (case a31 => k_is)
    (case l31 => k_is)
    (case c31 => k_is)
    (case k31 => k_is)
    (case gOddsError => k_is)
    (case xOddsError => k_exc)
    (case kkOddsError => k_is)
    (case bOddsError => k_is)
    (case tOddsError => k_is)
    (case sOddsError => first | rfl | k_is)
    (case gaOddsError => k_is)
    (case ggOddsError => k_is)
    (case hdOddsError => k_is)
    (case clOddsError => k_is)
    (case mrOddsError => k_is)
    (case gNotANode => k_is)
    (case xNotANode => k_exc)
    (case kkNotANode => k_is)
    (case bNotANode => k_is)
    (case tNotANode => k_is)
    (case sNotANode => first | rfl | k_is)
    (case gaNotANode => k_is)
    (case ggNotANode => k_is)
    (case hdNotANode => k_is)
    (case clNotANode => k_is)
    (case mrNotANode => k_is)
    (case spg => k_is)
    (case spt => k_is)
    (case zlen => k_is)
    (case zmin => k_is)
    (case zmax => k_is)
    (case zlist => k_is)
    (case zsorted => k_is)
    (case zisinstance => k_is)
    (case ztuple => k_is)
    (case zrange => k_is)
    (case zbool => k_is)
    (case zint => k_is)
    (case zstr => k_is)
    (case gMOST_CHOICES => k_is)
