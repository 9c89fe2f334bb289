import PyProof.Rows.All
import Wide.All
import OpenK.AllK
import Wide.FinOn
import HandS.Gcd
import KE.RegKIsAll
import HandS.ForExc
import HandS.Wide
import HandS.WideBits
import HandS.IsInst
import HandS.ExcIs
import HandS.Codes
import HandS.StrMore
import HandS.Comp
import HandS.Iter
import HandS.Text
import HandS.Dict
import HandS.More
import HandS.DictEq
import HandS.TupAny
import HandS.TupMul
import HandS.Sort
import HandS.WordsDict
import KE.DataMinMax
import HandS.Exc
import HandS.ExcOwn
import HandS.WordsExc
import PySem.Challenge.RW_odds_k32_weights_and_chances
set_option Elab.async false
set_option linter.all false
set_option maxRecDepth 100000
set_option maxHeartbeats 4000000
namespace O
open PySem L2
/-! ## data: what a program computes with, without addresses -/
inductive D where
  | non | bl (b : Bool) | int (i : Int) | str (x : Str) | tup (xs : List D) | obj (n : Nat) | fn (x : Str) | ty (n : String) | raw (a : Addr) | kl (xs : List D)
inductive Ob where
  | lst (xs : List D) | dk (kvs : List (Key × D)) | ins (C : Str) (fs : List (Str × D))
abbrev Sto := List Ob
abbrev Env := List (Option D)
inductive Res (α : Type) where
  | ok (a : α) (S : Sto) | exc (c : Str) (fs : List (Str × D)) (S : Sto) | bad
inductive RS where
  | nx (ρ : Env) (S : Sto) | rt (d : D) (S : Sto) | bk (ρ : Env) (S : Sto) | ct (ρ : Env) (S : Sto) | exc (c : Str) (fs : List (Str × D)) (ρ : Env) (S : Sto) | bad
def Res.bind {α β : Type} (r : Res α) (k : α → Sto → Res β) : Res β := match r with
  | .ok a S => k a S
  | .exc c fs S => .exc c fs S
  | .bad => .bad
theorem Res.bind_ok {α β : Type} (a : α) (S : Sto) (k : α → Sto → Res β) : (Res.ok a S).bind k = k a S := rfl
theorem Res.bind_exc {α β : Type} (c : Str) (fs : List (Str × D)) (S : Sto) (k : α → Sto → Res β) : (Res.exc c fs S).bind k = .exc c fs S := rfl
abbrev DE := Env → Sto → Res D
abbrev DT := Env → Sto → Res Bool
abbrev DA := Env → Sto → Res (List D)
abbrev DS := Env → Sto → RS
abbrev DF := List D → Sto → Res D
/-- a list that nobody changes -/
def SqF (K : PySem.W.Frag) (H : Hp) (a : Addr) (xs : List V) : Prop :=
  (∃ ob, H a = some (.frz ob (.lst xs))) ∨
    ∃ (o : Obj) (is : Array Value) (n : Nat), K.lookup a = some o ∧ o.cls = .type "list" ∧ o.dict = none ∧ o.data = .seq is n ∧ is.size ≤ sizeLine ∧ Vals xs is.toList
theorem SqF.L {K : PySem.W.Frag} {H : Hp} {a : Addr} {xs : List V} (h : SqF K H a xs) : SqL K H a xs := by
  rcases h with ⟨ob, h⟩ | h
  · exact .inl (.inr ⟨ob, h⟩)
  · exact .inr h
/-- the world: where each object of the store stands -/
structure Wo where
  m : Nat → Addr
  S : Sto
  H : Hp
section
variable (K : PySem.W.Frag) (mg : Str → Option Value)
mutual
def Rv (w : Wo) : D → V → Prop
  | .non, v => v = .non
  | .bl b, v => v = .bl b
  | .int i, v => v = .int i
  | .str x, v => v = .str x
  | .tup ds, v => ∃ a vs, v = .ref a ∧ SqT K w.H a vs ∧ Rvs w ds vs
  | .obj n, v => n < w.S.length ∧ v = .ref (w.m n)
  | .fn x, v => ∃ a, mg x = some (.ref a) ∧ v = .ref a
  | .ty n, v => v = .ty n
  | .raw a, v => v = .ref a
  | .kl ds, v => ∃ a vs, v = .ref a ∧ SqF K w.H a vs ∧ Rvs w ds vs
def Rvs (w : Wo) : List D → List V → Prop
  | [], vs => vs = []
  | d :: ds, vs => ∃ v r, vs = v :: r ∧ Rv w d v ∧ Rvs w ds r
end
/-- a dict's pairs -/
def Rkv (w : Wo) : List (Key × D) → List (Key × V) → Prop
  | [], vs => vs = []
  | p :: ps, vs => ∃ v r, vs = (p.1, v) :: r ∧ Rv K mg w p.2 v ∧ Rkv w ps r
/-- an object's fields -/
def Rfs (w : Wo) : List (Str × D) → List (Str × V) → Prop
  | [], vs => vs = []
  | p :: ps, vs => ∃ v r, vs = (p.1, v) :: r ∧ Rv K mg w p.2 v ∧ Rfs w ps r
/-- the object at a is o -/
def Rob (w : Wo) (a : Addr) : Ob → Prop
  | .lst ds => ∃ vs, w.H a = some (.lst vs) ∧ Rvs K mg w ds vs
  | .dk kvs => ∃ vs, w.H a = some (.dK vs) ∧ Rkv K mg w kvs vs
  | .ins C fs => ∃ Ca dx vs, mg C = some (.ref Ca) ∧ w.H a = some (.ins Ca dx vs) ∧ Rfs K mg w fs vs
structure Wo.Ok (w : Wo) : Prop where
  inj : ∀ i j, i < w.S.length → j < w.S.length → w.m i = w.m j → i = j
  has : ∀ i o, w.S[i]? = some o → Rob K mg w (w.m i) o
end
structure Wo.Le (w w' : Wo) : Prop where
  len : w.S.length ≤ w'.S.length
  ag : ∀ i, i < w.S.length → w'.m i = w.m i
  fr : ∀ a o, w.H a = some o → (∀ i, i < w.S.length → w.m i ≠ a) → w'.H a = some o
  nw : ∀ i, w.S.length ≤ i → i < w'.S.length → w.H (w'.m i) = none
theorem Wo.Le.refl (w : Wo) : w.Le w := ⟨Nat.le_refl _, fun _ _ => rfl, fun _ _ h _ => h, fun i h h' => absurd (Nat.lt_of_lt_of_le h' h) (Nat.lt_irrefl _)⟩
section
variable {K : PySem.W.Frag} {mg : Str → Option Value}
/-- an object of the store is tracked, and is no tuple -/
theorem Wo.Ok.at {w : Wo} (ok : w.Ok K mg) {i : Nat} (h : i < w.S.length) : ∃ o, w.H (w.m i) = some o ∧ (∀ xs, o ≠ .tup xs) ∧ ∀ ob u, o ≠ .frz ob u := by
  have h2 := ok.has i _ (List.getElem?_eq_getElem h)
  cases e : w.S[i] with
  | lst ds =>
    rw [e] at h2
    obtain ⟨vs, h3, _⟩ := h2
    exact ⟨_, h3, (by intro _ z; cases z), (by intro _ _ z; cases z)⟩
  | dk kvs =>
    rw [e] at h2
    obtain ⟨vs, h3, _⟩ := h2
    exact ⟨_, h3, (by intro _ z; cases z), (by intro _ _ z; cases z)⟩
  | ins C fs =>
    rw [e] at h2
    obtain ⟨Ca, dx, vs, _, h3, _⟩ := h2
    exact ⟨_, h3, (by intro _ z; cases z), (by intro _ _ z; cases z)⟩
theorem Wo.Le.trans {a b c : Wo} (okb : b.Ok K mg) (h : a.Le b) (k : b.Le c) : a.Le c := by
  refine ⟨Nat.le_trans h.len k.len, fun i hi => (k.ag i (Nat.lt_of_lt_of_le hi h.len)).trans (h.ag i hi), fun x o e n => k.fr x o (h.fr x o e n) fun i hi => ?_, fun i hi hi' => ?_⟩
  · by_cases hl : i < a.S.length
    · rw [h.ag i hl]
      exact n i hl
    · intro z
      have := h.nw i (Nat.le_of_not_lt hl) hi
      rw [z, e] at this
      cases this
  · by_cases hl : i < b.S.length
    · rw [k.ag i hl]
      exact h.nw i hi hl
    · have h1 := k.nw i (Nat.le_of_not_lt hl) hi'
      cases e : a.H (c.m i) with
      | none => rfl
      | some o =>
        by_cases ht : ∀ j, j < a.S.length → a.m j ≠ c.m i
        · rw [h.fr _ _ e ht] at h1
          cases h1
        · have : ∃ j, j < a.S.length ∧ a.m j = c.m i := by
            refine Classical.byContradiction fun z => ht fun j hj e2 => z ⟨j, hj, e2⟩
          obtain ⟨j, hj, e2⟩ := this
          obtain ⟨o2, h2, _⟩ := okb.at (Nat.lt_of_lt_of_le hj h.len)
          rw [h.ag j hj, e2, h1] at h2
          cases h2
theorem Wo.Le.tup {w w' : Wo} (ok : w.Ok K mg) (h : w.Le w') {a : Addr} {xs : List V} (t : SqT K w.H a xs) : SqT K w'.H a xs := by
  rcases t with (t | ⟨o, t⟩) | t
  · refine .inl (.inl (h.fr _ _ t fun i hi z => ?_))
    obtain ⟨o, h1, h2, _⟩ := ok.at hi
    rw [z, t] at h1
    exact h2 xs (Option.some.inj h1).symm
  · refine .inl (.inr ⟨o, h.fr _ _ t fun i hi z => ?_⟩)
    obtain ⟨o2, h1, _, h2⟩ := ok.at hi
    rw [z, t] at h1
    exact h2 o _ (Option.some.inj h1).symm
  · exact .inr t
theorem Wo.Le.kl {w w' : Wo} (ok : w.Ok K mg) (h : w.Le w') {a : Addr} {xs : List V} (t : SqF K w.H a xs) : SqF K w'.H a xs := by
  rcases t with ⟨o, t⟩ | t
  · refine .inl ⟨o, h.fr _ _ t fun i hi z => ?_⟩
    obtain ⟨o2, h1, _, h2⟩ := ok.at hi
    rw [z, t] at h1
    exact h2 o _ (Option.some.inj h1).symm
  · exact .inr t
mutual
theorem Rv.up {w w' : Wo} (ok : w.Ok K mg) (h : w.Le w') : ∀ (d : D) (v : V), Rv K mg w d v → Rv K mg w' d v
  | .non, v, r => by rw [Rv] at r ⊢; exact r
  | .bl b, v, r => by rw [Rv] at r ⊢; exact r
  | .int i, v, r => by rw [Rv] at r ⊢; exact r
  | .str x, v, r => by rw [Rv] at r ⊢; exact r
  | .tup ds, v, r => by
    rw [Rv] at r ⊢
    obtain ⟨a, vs, e, t, q⟩ := r
    exact ⟨a, vs, e, h.tup ok t, Rvs.up ok h ds vs q⟩
  | .obj n, v, r => by
    rw [Rv] at r ⊢
    exact ⟨Nat.lt_of_lt_of_le r.1 h.len, by rw [h.ag n r.1]; exact r.2⟩
  | .fn x, v, r => by rw [Rv] at r ⊢; exact r
  | .ty n, v, r => by rw [Rv] at r ⊢; exact r
  | .raw n, v, r => by rw [Rv] at r ⊢; exact r
  | .kl ds, v, r => by
    rw [Rv] at r ⊢
    obtain ⟨a, vs, e, t, q⟩ := r
    exact ⟨a, vs, e, h.kl ok t, Rvs.up ok h ds vs q⟩
theorem Rvs.up {w w' : Wo} (ok : w.Ok K mg) (h : w.Le w') : ∀ (ds : List D) (vs : List V), Rvs K mg w ds vs → Rvs K mg w' ds vs
  | [], vs, r => by rw [Rvs] at r ⊢; exact r
  | d :: ds, vs, r => by
    rw [Rvs] at r ⊢
    obtain ⟨v, q, e, r1, r2⟩ := r
    exact ⟨v, q, e, Rv.up ok h d v r1, Rvs.up ok h ds q r2⟩
end
theorem Rkv.up {w w' : Wo} (ok : w.Ok K mg) (h : w.Le w') : ∀ {ps : List (Key × D)} {vs : List (Key × V)}, Rkv K mg w ps vs → Rkv K mg w' ps vs
  | [], vs, r => r
  | p :: ps, vs, r => by
    obtain ⟨v, q, e, r1, r2⟩ := r
    exact ⟨v, q, e, Rv.up ok h _ v r1, Rkv.up ok h r2⟩
theorem Rfs.up {w w' : Wo} (ok : w.Ok K mg) (h : w.Le w') : ∀ {ps : List (Str × D)} {vs : List (Str × V)}, Rfs K mg w ps vs → Rfs K mg w' ps vs
  | [], vs, r => r
  | p :: ps, vs, r => by
    obtain ⟨v, q, e, r1, r2⟩ := r
    exact ⟨v, q, e, Rv.up ok h _ v r1, Rfs.up ok h r2⟩
/-- slots -/
def Rσ (K : PySem.W.Frag) (mg : Str → Option Value) (w : Wo) : Env → St → Prop
  | [], σ => σ = []
  | x :: ρ, σ => ∃ y τ, σ = y :: τ ∧ (match x with | none => True | some d => ∃ v, y = some v ∧ Rv K mg w d v) ∧ Rσ K mg w ρ τ
theorem Rσ.up {w w' : Wo} (ok : w.Ok K mg) (h : w.Le w') : ∀ {ρ : Env} {σ : St}, Rσ K mg w ρ σ → Rσ K mg w' ρ σ
  | [], σ, r => r
  | x :: ρ, σ, r => by
    obtain ⟨y, τ, e, r1, r2⟩ := r
    refine ⟨y, τ, e, ?_, Rσ.up ok h r2⟩
    cases x with
    | none => trivial
    | some d =>
      obtain ⟨v, e2, r3⟩ := r1
      exact ⟨v, e2, r3.up ok h _ _⟩
theorem Rσ.get {w : Wo} : ∀ {ρ : Env} {σ : St} {i : Nat} {d : D}, Rσ K mg w ρ σ → ρ[i]? = some (some d) → ∃ v, σ[i]? = some (some v) ∧ Rv K mg w d v
  | [], σ, i, d, r, e => by simp at e
  | x :: ρ, σ, 0, d, r, e => by
    obtain ⟨y, τ, e1, r1, r2⟩ := r
    have e : x = some d := Option.some.inj e
    subst e e1
    obtain ⟨v, e2, r3⟩ := r1
    exact ⟨v, by rw [e2]; rfl, r3⟩
  | x :: ρ, σ, i + 1, d, r, e => by
    obtain ⟨y, τ, e1, r1, r2⟩ := r
    subst e1
    exact Rσ.get (i := i) r2 e
theorem Rσ.set {w : Wo} {d : D} {v : V} (rv : Rv K mg w d v) : ∀ {ρ : Env} {σ : St} (i : Nat), Rσ K mg w ρ σ → Rσ K mg w (ρ.set i (some d)) (σ.set i (some v))
  | [], σ, i, r => by
    have e : σ = [] := r
    subst e
    exact r
  | x :: ρ, σ, 0, r => by
    obtain ⟨y, τ, e1, r1, r2⟩ := r
    subst e1
    exact ⟨some v, τ, rfl, ⟨v, rfl, rv⟩, r2⟩
  | x :: ρ, σ, i + 1, r => by
    obtain ⟨y, τ, e1, r1, r2⟩ := r
    subst e1
    exact ⟨y, _, rfl, r1, Rσ.set rv i r2⟩
theorem Rσ.setN {w : Wo} : ∀ {ρ : Env} {σ : St} (i : Nat) (z : Option V), Rσ K mg w ρ σ → Rσ K mg w (ρ.set i none) (σ.set i z)
  | [], σ, i, z, r => by
    have e : σ = [] := r
    subst e
    exact r
  | x :: ρ, σ, 0, z, r => by
    obtain ⟨y, τ, e1, r1, r2⟩ := r
    subst e1
    exact ⟨z, τ, rfl, trivial, r2⟩
  | x :: ρ, σ, i + 1, z, r => by
    obtain ⟨y, τ, e1, r1, r2⟩ := r
    subst e1
    exact ⟨y, _, rfl, r1, Rσ.setN i z r2⟩
theorem Rσ.len {w : Wo} : ∀ {ρ : Env} {σ : St}, Rσ K mg w ρ σ → σ.length = ρ.length
  | [], σ, r => by
    have e : σ = [] := r
    rw [e]
    rfl
  | x :: ρ, σ, r => by
    obtain ⟨y, τ, e1, r1, r2⟩ := r
    rw [e1, List.length_cons, List.length_cons, Rσ.len r2]
theorem Rvs.len {w : Wo} : ∀ {ds : List D} {vs : List V}, Rvs K mg w ds vs → vs.length = ds.length
  | [], vs, r => by
    rw [Rvs] at r
    rw [r]
    rfl
  | d :: ds, vs, r => by
    rw [Rvs] at r
    obtain ⟨v, q, e, _, r2⟩ := r
    rw [e, List.length_cons, List.length_cons, Rvs.len r2]
theorem Rvs.get {w : Wo} : ∀ {ds : List D} {vs : List V} {i : Nat} {d : D}, Rvs K mg w ds vs → ds[i]? = some d → ∃ v, vs[i]? = some v ∧ Rv K mg w d v
  | [], vs, i, d, r, e => by simp at e
  | x :: ds, vs, 0, d, r, e => by
    rw [Rvs] at r
    obtain ⟨v, q, e1, r1, r2⟩ := r
    have e : x = d := Option.some.inj e
    subst e e1
    exact ⟨v, rfl, r1⟩
  | x :: ds, vs, i + 1, d, r, e => by
    rw [Rvs] at r
    obtain ⟨v, q, e1, r1, r2⟩ := r
    subst e1
    exact Rvs.get (i := i) r2 e
theorem Rvs.get' {w : Wo} : ∀ {ds : List D} {vs : List V} {i : Nat} {v : V}, Rvs K mg w ds vs → vs[i]? = some v → ∃ d, ds[i]? = some d ∧ Rv K mg w d v
  | [], vs, i, d, r, e => by
    rw [Rvs] at r
    rw [r] at e
    simp at e
  | x :: ds, vs, 0, v, r, e => by
    rw [Rvs] at r
    obtain ⟨v2, q, e1, r1, r2⟩ := r
    rw [e1] at e
    have e : v2 = v := Option.some.inj e
    subst e
    exact ⟨x, rfl, r1⟩
  | x :: ds, vs, i + 1, d, r, e => by
    rw [Rvs] at r
    obtain ⟨v, q, e1, r1, r2⟩ := r
    rw [e1] at e
    exact Rvs.get' (i := i) r2 e
theorem Rvs.nil {w : Wo} : Rvs K mg w [] [] := by rw [Rvs]
theorem Rvs.cons {w : Wo} {d : D} {ds : List D} {v : V} {vs : List V} (h : Rv K mg w d v) (k : Rvs K mg w ds vs) : Rvs K mg w (d :: ds) (v :: vs) := by
  rw [Rvs]
  exact ⟨v, vs, rfl, h, k⟩
theorem Rvs.append {w : Wo} : ∀ {ds es : List D} {vs us : List V}, Rvs K mg w ds vs → Rvs K mg w es us → Rvs K mg w (ds ++ es) (vs ++ us)
  | [], es, vs, us, h, k => by
    rw [Rvs] at h
    rw [h]
    exact k
  | d :: ds, es, vs, us, h, k => by
    rw [Rvs] at h
    obtain ⟨v, q, e, r1, r2⟩ := h
    rw [e]
    exact Rvs.cons r1 (Rvs.append r2 k)
theorem Rvs.take {w : Wo} : ∀ {ds : List D} {vs : List V} (n : Nat), Rvs K mg w ds vs → Rvs K mg w (ds.take n) (vs.take n)
  | ds, vs, 0, h => by
    rw [List.take_zero, List.take_zero]
    exact Rvs.nil
  | [], vs, n + 1, h => by
    rw [Rvs] at h
    rw [h]
    exact Rvs.nil
  | d :: ds, vs, n + 1, h => by
    rw [Rvs] at h
    obtain ⟨v, q, e, r1, r2⟩ := h
    rw [e]
    exact Rvs.cons r1 (Rvs.take n r2)
theorem Rvs.drop {w : Wo} : ∀ {ds : List D} {vs : List V} (n : Nat), Rvs K mg w ds vs → Rvs K mg w (ds.drop n) (vs.drop n)
  | ds, vs, 0, h => h
  | [], vs, n + 1, h => by
    rw [Rvs] at h
    rw [h]
    exact Rvs.nil
  | d :: ds, vs, n + 1, h => by
    rw [Rvs] at h
    obtain ⟨v, q, e, r1, r2⟩ := h
    rw [e]
    exact Rvs.drop n r2
theorem Rvs.set {w : Wo} {d : D} {v : V} (hv : Rv K mg w d v) : ∀ {ds : List D} {vs : List V} (n : Nat), Rvs K mg w ds vs → Rvs K mg w (ds.set n d) (vs.set n v)
  | [], vs, n, h => by
    rw [Rvs] at h
    rw [h]
    exact Rvs.nil
  | x :: ds, vs, 0, h => by
    rw [Rvs] at h
    obtain ⟨v, q, e, r1, r2⟩ := h
    rw [e]
    exact Rvs.cons hv r2
  | x :: ds, vs, n + 1, h => by
    rw [Rvs] at h
    obtain ⟨v, q, e, r1, r2⟩ := h
    rw [e]
    exact Rvs.cons r1 (Rvs.set hv n r2)
/-! ## what is wanted of a result -/
section
variable {α β γ δ : Type} {w : Wo} {R : Wo → α → β → Prop} {R' : Wo → γ → δ → Prop} {Q : δ → Hp → Prop} {E : Str → List (Str × D) → Wo → Prop}
def Fin (K : PySem.W.Frag) (mg : Str → Option Value) (w : Wo) (R : Wo → α → β → Prop) (r : Res α) (Q : β → Hp → Prop) (E : Str → List (Str × D) → Wo → Prop) : Prop := match r with
  | .ok a S' => ∀ (w' : Wo) (b : β), w.Le w' → w'.Ok K mg → w'.S = S' → R w' a b → Q b w'.H
  | .exc c fs S' => ∀ w' : Wo, w.Le w' → w'.Ok K mg → w'.S = S' → E c fs w'
  | .bad => False
theorem Fin.up {r : Res α} {Q : β → Hp → Prop} {w' : Wo} (ok : w'.Ok K mg) (le : w.Le w') (h : Fin K mg w R r Q E) : Fin K mg w' R r Q E := by
  cases r with
  | ok a S' => exact fun w2 b l2 o2 e r => h w2 b (Wo.Le.trans ok le l2) o2 e r
  | exc c fs S' => exact fun w2 l2 o2 e => h w2 (Wo.Le.trans ok le l2) o2 e
  | bad => exact h
theorem Fin.bind {r : Res α} {k : α → Sto → Res γ} {P : β → Hp → Prop} (h : Fin K mg w R' (r.bind k) Q E)
    (hk : ∀ (w' : Wo) (a : α) (b : β), w.Le w' → w'.Ok K mg → R w' a b → Fin K mg w' R' (k a w'.S) Q E → P b w'.H) : Fin K mg w R r P E := by
  cases r with
  | ok a S' =>
    intro w' b le ok e hR
    refine hk w' a b le ok hR ?_
    rw [e]
    exact Fin.up ok le h
  | exc c fs S' => exact h
  | bad => exact h
theorem Fin.now {a : α} {b : β} {Q : β → Hp → Prop} (h : Fin K mg w R (.ok a w.S) Q E) (ok : w.Ok K mg) (r : R w a b) : Q b w.H := h w b (Wo.Le.refl w) ok rfl r
end
/-- no relation between a bool and itself but that it is the same -/
def Rb (_ : Wo) (a b : Bool) : Prop := a = b
/-- the exception's own dict -/
def Rxd (K : PySem.W.Frag) (mg : Str → Option Value) (w : Wo) : List (Str × D) → Option Addr → Prop
  | [], d => d = none
  | fs, d => ∃ a vs, d = some a ∧ w.H a = some (.xd vs) ∧ Rfs K mg w fs vs
/-- a wish, over data -/
def XW (K : PySem.W.Frag) (mg : Str → Option Value) (W : WX) (σ : St) : Str → List (Str × D) → Wo → Prop := fun c fs w => ∀ C d, mg c = some (.ref C) → Rxd K mg w fs d → W (.ref C) d σ w.H
def LE (K : PySem.W.Frag) (mg : Str → Option Value) (W : WX) (de : DE) : TE := fun σ H Q => ∃ w : Wo, w.Ok K mg ∧ w.H = H ∧ ∃ ρ, Rσ K mg w ρ σ ∧ Fin K mg w (Rv K mg) (de ρ w.S) Q (XW K mg W σ)
def LT (K : PySem.W.Frag) (mg : Str → Option Value) (W : WX) (de : DT) : TT := fun σ H Q => ∃ w : Wo, w.Ok K mg ∧ w.H = H ∧ ∃ ρ, Rσ K mg w ρ σ ∧ Fin K mg w Rb (de ρ w.S) Q (XW K mg W σ)
def LA (K : PySem.W.Frag) (mg : Str → Option Value) (W : WX) (de : DA) : TA := fun σ H Q => ∃ w : Wo, w.Ok K mg ∧ w.H = H ∧ ∃ ρ, Rσ K mg w ρ σ ∧ Fin K mg w (Rvs K mg) (de ρ w.S) Q (XW K mg W σ)
def FinS (K : PySem.W.Frag) (mg : Str → Option Value) (W : WX) (w : Wo) (r : RS) (D' : Ends) : Prop := match r with
  | .nx ρ S => ∀ (w' : Wo) σ, w.Le w' → w'.Ok K mg → w'.S = S → Rσ K mg w' ρ σ → D'.nx σ w'.H
  | .rt d S => ∀ (w' : Wo) v, w.Le w' → w'.Ok K mg → w'.S = S → Rv K mg w' d v → D'.rt v w'.H
  | .bk ρ S => ∀ (w' : Wo) σ, w.Le w' → w'.Ok K mg → w'.S = S → Rσ K mg w' ρ σ → D'.bk σ w'.H
  | .ct ρ S => ∀ (w' : Wo) σ, w.Le w' → w'.Ok K mg → w'.S = S → Rσ K mg w' ρ σ → D'.ct σ w'.H
  | .exc c fs ρ S => ∀ (w' : Wo) σ, w.Le w' → w'.Ok K mg → w'.S = S → Rσ K mg w' ρ σ → XW K mg W σ c fs w'
  | .bad => False
theorem FinS.up {W : WX} {w w' : Wo} {r : RS} {D' : Ends} (ok : w'.Ok K mg) (le : w.Le w') (h : FinS K mg W w r D') : FinS K mg W w' r D' := by
  cases r with
  | nx ρ S => exact fun w2 b l2 o2 e r => h w2 b (Wo.Le.trans ok le l2) o2 e r
  | rt ρ S => exact fun w2 b l2 o2 e r => h w2 b (Wo.Le.trans ok le l2) o2 e r
  | bk ρ S => exact fun w2 b l2 o2 e r => h w2 b (Wo.Le.trans ok le l2) o2 e r
  | ct ρ S => exact fun w2 b l2 o2 e r => h w2 b (Wo.Le.trans ok le l2) o2 e r
  | exc c fs ρ S => exact fun w2 b l2 o2 e r => h w2 b (Wo.Le.trans ok le l2) o2 e r
  | bad => exact h
def LS (K : PySem.W.Frag) (mg : Str → Option Value) (W : WX) (ds : DS) : TS := fun D' σ H => ∃ w : Wo, w.Ok K mg ∧ w.H = H ∧ ∃ ρ, Rσ K mg w ρ σ ∧ FinS K mg W w (ds ρ w.S) D'
/-! ## weakening -/
theorem _root_.L2.PE.imp {X : Cx} {e : Expr} {t t' : TE} (h : PE X e t) (k : ∀ σ H Q, t' σ H Q → t σ H Q) : PE X e t' := ⟨fun pins s σ H Q I ht => h.run pins s σ H Q I (k _ _ _ ht)⟩
theorem _root_.L2.PT.imp {X : Cx} {e : Expr} {t t' : TT} (h : PT X e t) (k : ∀ σ H Q, t' σ H Q → t σ H Q) : PT X e t' := ⟨fun pins s σ H Q I ht => h.run pins s σ H Q I (k _ _ _ ht)⟩
theorem _root_.L2.PW.imp {X : Cx} {e : Expr} {t t' : TT} (h : PW X e t) (k : ∀ σ H Q, t' σ H Q → t σ H Q) : PW X e t' := ⟨fun wh pins s σ H Q I ht => h.run wh pins s σ H Q I (k _ _ _ ht)⟩
theorem _root_.L2.PA.imp {X : Cx} {e : List Expr} {t t' : TA} (h : PA X e t) (k : ∀ σ H Q, t' σ H Q → t σ H Q) : PA X e t' := ⟨fun ps pins s σ H Q I ht => h.run ps pins s σ H Q I (k _ _ _ ht)⟩
theorem _root_.L2.PS.imp {X : Cx} {st : Stmt} {t t' : TS} (h : PS X st t) (k : ∀ D' σ H, t' D' σ H → t D' σ H) : PS X st t' := ⟨fun pins s σ H D' I ht => h.run pins s σ H D' I (k _ _ _ ht)⟩
theorem _root_.L2.PSs.imp {X : Cx} {st : List Stmt} {t t' : TS} (h : PSs X st t) (k : ∀ D' σ H, t' D' σ H → t D' σ H) : PSs X st t' := ⟨fun pins s σ H D' I ht => h.run pins s σ H D' I (k _ _ _ ht)⟩
end

section
variable {K : PySem.W.Frag} {mg : Str → Option Value} {X : Cx} {W : WX} {pos : Pos} {a b c : Expr}
/-! ## names, constants -/
def slotR (S : Sto) : Option (Option D) → Res D
  | some (some d) => .ok d S
  | some none => .bad
  | none => .bad
def eV (i : Nat) (ρ : Env) (S : Sto) : Res D := slotR S ρ[i]?
def eC (d : D) (_ : Env) (S : Sto) : Res D := .ok d S
theorem i_var {i : Nat} {σ : St} {H : Hp} {Q : VK} (h : LE K mg W (eV i) σ H Q) : tVar i σ H Q := by
  obtain ⟨w, ok, rfl, ρ, r, h⟩ := h
  unfold eV at h
  cases e : ρ[i]? with
  | none =>
    rw [e] at h
    exact h.elim
  | some z =>
    rw [e] at h
    cases z with
    | none => exact h.elim
    | some d =>
      obtain ⟨v, e2, rv⟩ := r.get e
      exact ⟨v, e2, Fin.now h ok rv⟩
theorem lv (i : Nat) {x : Str} {pos : Pos} (hN : X.N[i]? = some x := by rfl) (hv : Vis X.env.scope x := by first | exact Or.inl rfl | exact Or.inr (Or.inl rfl) | exact Or.inr (Or.inr rfl)) (hd : (x == ("__debug__" : Str)) = false := by decide)
    (hcd : (x == ("__classdict__" : Str)) = false := by decide) : PE X (.Name x pos) (LE X.K X.mg W (eV i)) := (pe_var hN hv hd hcd).imp fun _ _ _ h => i_var h
theorem i_con {d : D} {v : V} (hv : ∀ w, Rv K mg w d v) {σ : St} {H : Hp} {Q : VK} (h : LE K mg W (eC d) σ H Q) : tC v σ H Q := by
  obtain ⟨w, ok, rfl, ρ, r, h⟩ := h
  exact Fin.now h ok (hv w)
theorem lc_of {e : Expr} {d : D} {v : V} (hv : ∀ w, Rv X.K X.mg w d v) (h : PE X e (tC v)) : PE X e (LE X.K X.mg W (eC d)) := h.imp fun _ _ _ h => i_con hv h
theorem l_int {i j pos} : PE X (.Constant (.int i) j pos) (LE X.K X.mg W (eC (.int i))) := lc_of (fun w => by rw [Rv]) pe_int
theorem l_bl {i j pos} : PE X (.Constant (.bool i) j pos) (LE X.K X.mg W (eC (.bl i))) := lc_of (fun w => by rw [Rv]) pe_bl
theorem l_str {i j pos} : PE X (.Constant (.str i) j pos) (LE X.K X.mg W (eC (.str i))) := lc_of (fun w => by rw [Rv]) pe_str
theorem l_non {j pos} : PE X (.Constant .none j pos) (LE X.K X.mg W (eC .non)) := lc_of (fun w => by rw [Rv]) pe_non
theorem l_ty {x : Str} {n : String} {pos : Pos} (hg : Gl X x) (hm : X.mg x = none) (hv : bootBuiltins x = some (.type n)) (hn : x ≠ "__name__" := by decide) (hd : (x == ("__debug__" : Str)) = false := by decide) : PE X (.Name x pos) (LE X.K X.mg W (eC (.ty n))) :=
  lc_of (v := .ty n) (fun w => by rw [Rv]) (pe_bltn hg hm hv rfl hn hd)
/-- a def or a class of the module as a value -/
theorem l_fn {x : Str} {f : Addr} {pos : Pos} (hg : Gl X x) (hm : X.mg x = some (.ref f)) (hd : (x == ("__debug__" : Str)) = false := by decide) : PE X (.Name x pos) (LE X.K X.mg W (eC (.fn x))) :=
  lc_of (v := .ref f) (fun w => by rw [Rv]; exact ⟨f, hm, rfl⟩) (pe_glob hg hm rfl hd)
/-- a constant of the module -/
theorem l_glob {x : Str} {d : D} {v : V} {u : Value} {pos : Pos} (hg : Gl X x) (hm : X.mg x = some u) (r : RelV v u) (hv : ∀ w, Rv X.K X.mg w d v) (hd : (x == ("__debug__" : Str)) = false := by decide) : PE X (.Name x pos) (LE X.K X.mg W (eC d)) :=
  lc_of hv (pe_glob hg hm r hd)
/-! ## two-place operations -/
def Op2 (K : PySem.W.Frag) (mg : Str → Option Value) (r : R2) (f : D → D → Sto → Res D) : Prop := ∀ (w : Wo) (a b : D) (v u : V) (Q : VK) (E : Str → List (Str × D) → Wo → Prop), w.Ok K mg → Rv K mg w a v → Rv K mg w b u → Fin K mg w (Rv K mg) (f a b w.S) Q E → r v u w.H Q
def eOp1 (f : D → D → Sto → Res D) (db : DE) (ρ : Env) (x : D) (S1 : Sto) : Res D := (db ρ S1).bind (f x)
def eOp (f : D → D → Sto → Res D) (da db : DE) (ρ : Env) (S : Sto) : Res D := (da ρ S).bind (eOp1 f db ρ)
theorem i_op {r : R2} {f : D → D → Sto → Res D} {da db : DE} (o : Op2 K mg r f) {σ : St} {H : Hp} {Q : VK} (h : LE K mg W (eOp f da db) σ H Q) : tOp r (LE K mg W da) (LE K mg W db) σ H Q := by
  obtain ⟨w, ok, rfl, ρ, rr, h⟩ := h
  refine ⟨w, ok, rfl, ρ, rr, h.bind fun w1 x v le1 ok1 r1 h1 => ?_⟩
  refine ⟨w1, ok1, rfl, ρ, rr.up ok le1, h1.bind fun w2 y u le2 ok2 r2 h2 => ?_⟩
  exact o w2 x y v u Q _ ok2 (r1.up ok1 le2) r2 h2
theorem l_op {op : Operator} {r : R2} {f : D → D → Sto → Res D} {da db : DE} (ho : OpR X (binaryOp op) r) (o : Op2 X.K X.mg r f) (ha : PE X a (LE X.K X.mg W da)) (hb : PE X b (LE X.K X.mg W db)) : PE X (.BinOp a op b pos) (LE X.K X.mg W (eOp f da db)) :=
  (pe_op ho ha hb).imp fun _ _ _ h => i_op o h
theorem l_cmp {op : CmpOp} {r : R2} {f : D → D → Sto → Res D} {da db : DE} (ho : OpR X (compareOp op) r) (o : Op2 X.K X.mg r f) (ha : PE X a (LE X.K X.mg W da)) (hb : PE X b (LE X.K X.mg W db)) (hm : behindInMarks op b = false) : PE X (.Compare a [op] [b] pos) (LE X.K X.mg W (eOp f da db)) :=
  (pe_cmpR ho ha hb hm).imp fun _ _ _ h => i_op o h
theorem l_ix {r : R2} {f : D → D → Sto → Res D} {da db : DE} (ho : IxR X r) (o : Op2 X.K X.mg r f) (ha : PE X a (LE X.K X.mg W da)) (hb : PE X b (LE X.K X.mg W db)) (hs : PlainIx b) : PE X (.Subscript a b pos) (LE X.K X.mg W (eOp f da db)) :=
  (pe_ix ho ha hb hs).imp fun _ _ _ h => i_op o h
/-- a value as a test -/
def toB : D → Sto → Res Bool
  | .bl b, S => .ok b S
  | _, _ => .bad
def eT (da : DE) (ρ : Env) (S : Sto) : Res Bool := (da ρ S).bind toB
theorem i_test {t : TE} {da : DE} (ht : ∀ σ H Q, LE K mg W da σ H Q → t σ H Q) {σ : St} {H : Hp} {Q : Bool → Hp → Prop} (h : LT K mg W (eT da) σ H Q) : t σ H fun x H1 => ∃ c, x = .bl c ∧ Q c H1 := by
  obtain ⟨w, ok, rfl, ρ, rr, h⟩ := h
  refine ht _ _ _ ⟨w, ok, rfl, ρ, rr, Fin.bind (R' := Rb) h fun w1 x v le1 ok1 r1 h1 => ?_⟩
  cases x with
  | bl k =>
    rw [Rv] at r1
    exact ⟨k, r1, Fin.now h1 ok1 rfl⟩
  | _ => exact h1.elim
theorem lt_cmp {op : CmpOp} {r : R2} {f : D → D → Sto → Res D} {da db : DE} (ho : OpR X (compareOp op) r) (o : Op2 X.K X.mg r f) (ha : PE X a (LE X.K X.mg W da)) (hb : PE X b (LE X.K X.mg W db)) (hm : behindInMarks op b = false) : PT X (.Compare a [op] [b] pos) (LT X.K X.mg W (eT (eOp f da db))) :=
  (pt_cmpR ho ha hb hm).imp fun _ _ _ h => i_test (fun _ _ _ => i_op o) h
theorem lt_val {e : Expr} {de : DE} (h : PE X e (LE X.K X.mg W de)) (he : ∀ whole, isTrue e X.env whole = (do let v ← whole; standAt e.pos; holding [v] (truthy v)) := by intro _; rfl) : PT X e (LT X.K X.mg W (eT de)) :=
  (pt_val h he).imp fun _ _ _ h => i_test (fun _ _ _ x => x) h
/-- by truth -/
def truB : D → Sto → Res Bool
  | .non, S => .ok false S
  | .bl b, S => .ok b S
  | .int i, S => .ok (i != 0) S
  | .str x, S => if x.length ≤ sizeLine then .ok (x.length != 0) S else .bad
  | .tup xs, S => .ok (!xs.isEmpty) S
  | .obj n, S => match S[n]? with
    | some (.lst xs) => .ok (!xs.isEmpty) S
    | some (.dk xs) => .ok (!xs.isEmpty) S
    | _ => .bad
  | _, _ => .bad
/-! ## and, or, not -/
def eAnd1 (tb : DT) (ρ : Env) : Bool → Sto → Res Bool
  | true, S1 => tb ρ S1
  | false, S1 => .ok false S1
def eOr1 (tb : DT) (ρ : Env) : Bool → Sto → Res Bool
  | true, S1 => .ok true S1
  | false, S1 => tb ρ S1
def eNot1 (c : Bool) (S1 : Sto) : Res Bool := .ok (!c) S1
def eAnd (ta tb : DT) (ρ : Env) (S : Sto) : Res Bool := (ta ρ S).bind (eAnd1 tb ρ)
def eOr (ta tb : DT) (ρ : Env) (S : Sto) : Res Bool := (ta ρ S).bind (eOr1 tb ρ)
def eNot (ta : DT) (ρ : Env) (S : Sto) : Res Bool := (ta ρ S).bind eNot1
theorem i_and {ta tb : DT} {σ : St} {H : Hp} {Q : Bool → Hp → Prop} (h : LT K mg W (eAnd ta tb) σ H Q) : tAnd (LT K mg W ta) (LT K mg W tb) σ H Q := by
  obtain ⟨w, ok, rfl, ρ, rr, h⟩ := h
  refine ⟨w, ok, rfl, ρ, rr, h.bind fun w1 x v le1 ok1 r1 h1 => ?_⟩
  have r1 : x = v := r1
  subst r1
  cases x with
  | true => exact iteT ⟨w1, ok1, rfl, ρ, rr.up ok le1, h1⟩
  | false => exact iteF (Fin.now h1 ok1 rfl)
theorem i_or {ta tb : DT} {σ : St} {H : Hp} {Q : Bool → Hp → Prop} (h : LT K mg W (eOr ta tb) σ H Q) : tOr (LT K mg W ta) (LT K mg W tb) σ H Q := by
  obtain ⟨w, ok, rfl, ρ, rr, h⟩ := h
  refine ⟨w, ok, rfl, ρ, rr, h.bind fun w1 x v le1 ok1 r1 h1 => ?_⟩
  have r1 : x = v := r1
  subst r1
  cases x with
  | true => exact iteT (Fin.now h1 ok1 rfl)
  | false => exact iteF ⟨w1, ok1, rfl, ρ, rr.up ok le1, h1⟩
theorem i_not {ta : DT} {σ : St} {H : Hp} {Q : Bool → Hp → Prop} (h : LT K mg W (eNot ta) σ H Q) : tNot (LT K mg W ta) σ H Q := by
  obtain ⟨w, ok, rfl, ρ, rr, h⟩ := h
  refine ⟨w, ok, rfl, ρ, rr, h.bind fun w1 x v le1 ok1 r1 h1 => ?_⟩
  have r1 : x = v := r1
  subst r1
  exact Fin.now h1 ok1 rfl
variable {rest : List Expr}
theorem lw_and1 {ta : DT} (ha : PT X a (LT X.K X.mg W ta)) : PW X (.BoolOp .And [a] pos) (LT X.K X.mg W ta) := pw_and1 ha
theorem lw_or1 {ta : DT} (ha : PT X a (LT X.K X.mg W ta)) : PW X (.BoolOp .Or [a] pos) (LT X.K X.mg W ta) := pw_or1 ha
theorem lw_and {ta tb : DT} (ha : PT X a (LT X.K X.mg W ta)) (hb : PW X (.BoolOp .And (b :: rest) pos) (LT X.K X.mg W tb)) : PW X (.BoolOp .And (a :: b :: rest) pos) (LT X.K X.mg W (eAnd ta tb)) := (pw_and ha hb).imp fun _ _ _ => i_and
theorem lw_or {ta tb : DT} (ha : PT X a (LT X.K X.mg W ta)) (hb : PW X (.BoolOp .Or (b :: rest) pos) (LT X.K X.mg W tb)) : PW X (.BoolOp .Or (a :: b :: rest) pos) (LT X.K X.mg W (eOr ta tb)) := (pw_or ha hb).imp fun _ _ _ => i_or
theorem lt_not {ta : DT} (ha : PT X a (LT X.K X.mg W ta)) : PT X (.UnaryOp .Not a pos) (LT X.K X.mg W (eNot ta)) := (pt_not ha).imp fun _ _ _ => i_not
/-- .. as values (bools) -/
def eAndV1 (db : DE) (ρ : Env) : D → Sto → Res D
  | .bl true, S1 => db ρ S1
  | .bl false, S1 => .ok (.bl false) S1
  | _, _ => .bad
def eOrV1 (db : DE) (ρ : Env) : D → Sto → Res D
  | .bl true, S1 => .ok (.bl true) S1
  | .bl false, S1 => db ρ S1
  | _, _ => .bad
def eNotV1 : D → Sto → Res D
  | .bl k, S1 => .ok (.bl (!k)) S1
  | _, _ => .bad
def eAndV (da db : DE) (ρ : Env) (S : Sto) : Res D := (da ρ S).bind (eAndV1 db ρ)
def eOrV (da db : DE) (ρ : Env) (S : Sto) : Res D := (da ρ S).bind (eOrV1 db ρ)
def eNotV (da : DE) (ρ : Env) (S : Sto) : Res D := (da ρ S).bind eNotV1
theorem i_andV {da db : DE} {σ : St} {H : Hp} {Q : VK} (h : LE K mg W (eAndV da db) σ H Q) : tAndV (LE K mg W da) (LE K mg W db) σ H Q := by
  obtain ⟨w, ok, rfl, ρ, rr, h⟩ := h
  refine ⟨w, ok, rfl, ρ, rr, h.bind fun w1 x v le1 ok1 r1 h1 => ?_⟩
  cases x with
  | bl k =>
    rw [Rv] at r1
    refine ⟨k, r1, ?_⟩
    cases k with
    | true => exact iteT ⟨w1, ok1, rfl, ρ, rr.up ok le1, h1⟩
    | false => exact iteF (Fin.now h1 ok1 (by rw [Rv]))
  | _ => exact h1.elim
theorem i_orV {da db : DE} {σ : St} {H : Hp} {Q : VK} (h : LE K mg W (eOrV da db) σ H Q) : tOrV (LE K mg W da) (LE K mg W db) σ H Q := by
  obtain ⟨w, ok, rfl, ρ, rr, h⟩ := h
  refine ⟨w, ok, rfl, ρ, rr, h.bind fun w1 x v le1 ok1 r1 h1 => ?_⟩
  cases x with
  | bl k =>
    rw [Rv] at r1
    refine ⟨k, r1, ?_⟩
    cases k with
    | true => exact iteT (Fin.now h1 ok1 (by rw [Rv]))
    | false => exact iteF ⟨w1, ok1, rfl, ρ, rr.up ok le1, h1⟩
  | _ => exact h1.elim
theorem i_notV {da : DE} {σ : St} {H : Hp} {Q : VK} (h : LE K mg W (eNotV da) σ H Q) : tNotV (LE K mg W da) σ H Q := by
  obtain ⟨w, ok, rfl, ρ, rr, h⟩ := h
  refine ⟨w, ok, rfl, ρ, rr, h.bind fun w1 x v le1 ok1 r1 h1 => ?_⟩
  cases x with
  | bl k =>
    rw [Rv] at r1
    exact ⟨k, r1, Fin.now h1 ok1 (by rw [Rv])⟩
  | _ => exact h1.elim
theorem l_one {op} {da : DE} (ha : PE X a (LE X.K X.mg W da)) : PE X (.BoolOp op [a] pos) (LE X.K X.mg W da) := pe_one ha
theorem l_and {da db : DE} (ha : PE X a (LE X.K X.mg W da)) (hb : PE X (.BoolOp .And (b :: rest) pos) (LE X.K X.mg W db)) : PE X (.BoolOp .And (a :: b :: rest) pos) (LE X.K X.mg W (eAndV da db)) := (pe_and ha hb).imp fun _ _ _ => i_andV
theorem l_or {da db : DE} (ha : PE X a (LE X.K X.mg W da)) (hb : PE X (.BoolOp .Or (b :: rest) pos) (LE X.K X.mg W db)) : PE X (.BoolOp .Or (a :: b :: rest) pos) (LE X.K X.mg W (eOrV da db)) := (pe_or ha hb).imp fun _ _ _ => i_orV
theorem l_not {da : DE} (ha : PE X a (LE X.K X.mg W da)) : PE X (.UnaryOp .Not a pos) (LE X.K X.mg W (eNotV da)) := (pe_not ha).imp fun _ _ _ => i_notV
def eIf1 (da db : DE) (ρ : Env) : Bool → Sto → Res D
  | true, S1 => da ρ S1
  | false, S1 => db ρ S1
def eIf (t : DT) (da db : DE) (ρ : Env) (S : Sto) : Res D := (t ρ S).bind (eIf1 da db ρ)
theorem i_if {t : DT} {da db : DE} {σ : St} {H : Hp} {Q : VK} (h : LE K mg W (eIf t da db) σ H Q) : tIf (LT K mg W t) (LE K mg W da) (LE K mg W db) σ H Q := by
  obtain ⟨w, ok, rfl, ρ, rr, h⟩ := h
  refine ⟨w, ok, rfl, ρ, rr, h.bind fun w1 x v le1 ok1 r1 h1 => ?_⟩
  have r1 : x = v := r1
  subst r1
  cases x with
  | true => exact iteT ⟨w1, ok1, rfl, ρ, rr.up ok le1, h1⟩
  | false => exact iteF ⟨w1, ok1, rfl, ρ, rr.up ok le1, h1⟩
theorem l_ifx {t : DT} {da db : DE} (hc : PT X c (LT X.K X.mg W t)) (ha : PE X a (LE X.K X.mg W da)) (hb : PE X b (LE X.K X.mg W db)) : PE X (.IfExp c a b pos) (LE X.K X.mg W (eIf t da db)) := (pe_ifExp hc ha hb).imp fun _ _ _ => i_if
/-! ## chains -/
def eChain3 (g : D → D → Sto → Res D) (dc : DE) (ρ : Env) (y : D) : D → Sto → Res D
  | .bl true, S3 => (dc ρ S3).bind (g y)
  | .bl false, S3 => .ok (.bl false) S3
  | _, _ => .bad
def eChain2 (f g : D → D → Sto → Res D) (dc : DE) (ρ : Env) (x y : D) (S2 : Sto) : Res D := (f x y S2).bind (eChain3 g dc ρ y)
def eChain1 (f g : D → D → Sto → Res D) (db dc : DE) (ρ : Env) (x : D) (S1 : Sto) : Res D := (db ρ S1).bind (eChain2 f g dc ρ x)
def eChain (f g : D → D → Sto → Res D) (da db dc : DE) (ρ : Env) (S : Sto) : Res D := (da ρ S).bind (eChain1 f g db dc ρ)
/-- an operation that raises nothing: the Fin of its own result is enough -/
theorem i_chain {r r' : R2} {f g : D → D → Sto → Res D} {da db dc : DE} (o : Op2 K mg r f) (o' : Op2 K mg r' g) {σ : St} {H : Hp} {Q : VK} (h : LE K mg W (eChain f g da db dc) σ H Q) :
    tChain r r' (LE K mg W da) (LE K mg W db) (LE K mg W dc) σ H Q := by
  obtain ⟨w, ok, rfl, ρ, rr, h⟩ := h
  refine ⟨w, ok, rfl, ρ, rr, h.bind fun w1 x v le1 ok1 r1 h1 => ?_⟩
  have rr1 := rr.up ok le1
  refine ⟨w1, ok1, rfl, ρ, rr1, h1.bind fun w2 y u le2 ok2 r2 h2 => ?_⟩
  have rr2 := rr1.up ok1 le2
  refine o w2 x y v u _ _ ok2 (r1.up ok1 le2) r2 (h2.bind fun w3 z t le3 ok3 r3 h3 => ?_)
  have rr3 := rr2.up ok2 le3
  cases z with
  | bl k =>
    rw [Rv] at r3
    refine ⟨k, r3, ?_⟩
    cases k with
    | true =>
      refine iteT ⟨w3, ok3, rfl, ρ, rr3, h3.bind fun w4 z2 t2 le4 ok4 r4 h4 => ?_⟩
      exact o' w4 y z2 u t2 Q _ ok4 ((r2.up ok2 le3).up ok3 le4) r4 h4
    | false => exact iteF (Fin.now h3 ok3 (by rw [Rv]))
  | _ => exact h3.elim
theorem l_chain {op op' : CmpOp} {r r' : R2} {f g : D → D → Sto → Res D} {da db dc : DE} (ho : OpR X (compareOp op) r) (o : Op2 X.K X.mg r f) (ho' : OpR X (compareOp op') r') (o' : Op2 X.K X.mg r' g) (ha : PE X a (LE X.K X.mg W da)) (hb : PE X b (LE X.K X.mg W db)) (hc : PE X c (LE X.K X.mg W dc))
    (hm : lastMarks [op, op'] [b, c] = false := by with_unfolding_all rfl) : PE X (.Compare a [op, op'] [b, c] pos) (LE X.K X.mg W (eChain f g da db dc)) := (pe_chain ho ho' ha hb hc hm).imp fun _ _ _ => i_chain o o'
theorem lt_chain {op op' : CmpOp} {r r' : R2} {f g : D → D → Sto → Res D} {da db dc : DE} (ho : OpR X (compareOp op) r) (o : Op2 X.K X.mg r f) (ho' : OpR X (compareOp op') r') (o' : Op2 X.K X.mg r' g) (ha : PE X a (LE X.K X.mg W da)) (hb : PE X b (LE X.K X.mg W db)) (hc : PE X c (LE X.K X.mg W dc))
    (hm : lastMarks [op, op'] [b, c] = false := by with_unfolding_all rfl) : PT X (.Compare a [op, op'] [b, c] pos) (LT X.K X.mg W (eT (eChain f g da db dc))) := (pt_chain ho ho' ha hb hc hm).imp fun _ _ _ h => i_test (fun _ _ _ => i_chain o o') h
/-! ## argument lists, displays -/
def eNil (_ : Env) (S : Sto) : Res (List D) := .ok [] S
def eCons2 (x : D) (xs : List D) (S2 : Sto) : Res (List D) := .ok (x :: xs) S2
def eCons1 (dr : DA) (ρ : Env) (x : D) (S1 : Sto) : Res (List D) := (dr ρ S1).bind (eCons2 x)
def eCons (da : DE) (dr : DA) (ρ : Env) (S : Sto) : Res (List D) := (da ρ S).bind (eCons1 dr ρ)
theorem i_nil {σ : St} {H : Hp} {Q : List V → Hp → Prop} (h : LA K mg W eNil σ H Q) : tNil σ H Q := by
  obtain ⟨w, ok, rfl, ρ, rr, h⟩ := h
  exact Fin.now h ok Rvs.nil
theorem i_cons {da : DE} {dr : DA} {σ : St} {H : Hp} {Q : List V → Hp → Prop} (h : LA K mg W (eCons da dr) σ H Q) : tCons (LE K mg W da) (LA K mg W dr) σ H Q := by
  obtain ⟨w, ok, rfl, ρ, rr, h⟩ := h
  refine ⟨w, ok, rfl, ρ, rr, h.bind fun w1 x v le1 ok1 r1 h1 => ?_⟩
  refine ⟨w1, ok1, rfl, ρ, rr.up ok le1, h1.bind fun w2 xs vs le2 ok2 r2 h2 => ?_⟩
  exact Fin.now h2 ok2 (Rvs.cons (r1.up ok1 le2) r2)
variable {es : List Expr}
theorem la_nil : PA X [] (LA X.K X.mg W eNil) := pa_nil.imp fun _ _ _ => i_nil
theorem la_cons {da : DE} {dr : DA} (ha : PE X a (LE X.K X.mg W da)) (hr : PA X es (LA X.K X.mg W dr)) (hs : starEach (a :: es) X.env = (false, eval a X.env) :: starEach es X.env := by rfl) : PA X (a :: es) (LA X.K X.mg W (eCons da dr)) :=
  (pa_cons ha hr hs).imp fun _ _ _ => i_cons
theorem same_upd {H : Hp} {p : Addr} {o : HO} (h : H p = none) : Same H (upd H p o) := fun b x e => by
  rw [upd_ne (ne_of_none e h)]
  exact e
/-- nothing but an untracked new thing -/
theorem Rob.up {w w' : Wo} (ok : w.Ok K mg) (le : w.Le w') {a : Addr} {o : Ob} (hH : ∀ x, w.H a = some x → w'.H a = some x) (h : Rob K mg w a o) : Rob K mg w' a o := by
  cases o with
  | lst ds =>
    obtain ⟨vs, h1, h2⟩ := h
    exact ⟨vs, hH _ h1, h2.up ok le⟩
  | dk ds =>
    obtain ⟨vs, h1, h2⟩ := h
    exact ⟨vs, hH _ h1, h2.up ok le⟩
  | ins C fs =>
    obtain ⟨Ca, dx, vs, h0, h1, h2⟩ := h
    exact ⟨Ca, dx, vs, h0, hH _ h1, h2.up ok le⟩
def Wo.heap (w : Wo) (H : Hp) : Wo := ⟨w.m, w.S, H⟩
theorem Wo.new_le {w : Wo} {p : Addr} {o : HO} (hp : w.H p = none) : w.Le (w.heap (upd w.H p o)) :=
  ⟨Nat.le_refl _, fun _ _ => rfl, fun a x e _ => same_upd hp a x e, fun i h h' => absurd (Nat.lt_of_lt_of_le h' h) (Nat.lt_irrefl _)⟩
theorem Wo.new_ok {w : Wo} (ok : w.Ok K mg) {p : Addr} {o : HO} (hp : w.H p = none) : (w.heap (upd w.H p o)).Ok K mg :=
  ⟨ok.inj, fun i o' h => (ok.has i o' h).up ok (Wo.new_le hp) fun x e => same_upd hp _ x e⟩
def mkTup (xs : List D) (S1 : Sto) : Res D := if xs.length ≤ sizeLine then .ok (.tup xs) S1 else .bad
def eTup (da : DA) (ρ : Env) (S : Sto) : Res D := (da ρ S).bind mkTup
theorem i_tup {da : DA} {σ : St} {H : Hp} {Q : VK} (h : LE K mg W (eTup da) σ H Q) : tTup (LA K mg W da) σ H Q := by
  obtain ⟨w, ok, rfl, ρ, rr, h⟩ := h
  refine ⟨w, ok, rfl, ρ, rr, h.bind fun w1 xs vs le1 ok1 r1 h1 => ?_⟩
  unfold mkTup at h1
  by_cases hl : xs.length ≤ sizeLine
  · rw [if_pos hl] at h1
    refine ⟨by rw [r1.len]; exact hl, fun p hp => ?_⟩
    have le2 := Wo.new_le (w := w1) (p := p) (o := .tup vs) hp
    have ok2 := Wo.new_ok (o := .tup vs) ok1 hp
    refine Fin.now (w := w1.heap (upd w1.H p (.tup vs))) (h1.up ok2 le2) ok2 ?_
    rw [Rv]
    exact ⟨p, vs, rfl, SqT.of upd_same, r1.up ok1 le2⟩
  · rw [if_neg hl] at h1
    exact h1.elim
theorem l_tup {da : DA} {x1} (h : PA X es (LA X.K X.mg W da)) : PE X (.Tuple es x1 pos) (LE X.K X.mg W (eTup da)) := (pe_tup h).imp fun _ _ _ => i_tup
/-! ## the store grows by an object -/
def Wo.add (w : Wo) (p : Addr) (o : Ob) (u : HO) : Wo := ⟨fun i => if i = w.S.length then p else w.m i, w.S ++ [o], upd w.H p u⟩
theorem Wo.add_m {w : Wo} {p : Addr} {o : Ob} {u : HO} : (w.add p o u).m w.S.length = p := if_pos rfl
theorem Wo.add_le {w : Wo} {p : Addr} {o : Ob} {u : HO} (hp : w.H p = none) : w.Le (w.add p o u) := by
  refine ⟨by show _ ≤ (w.S ++ [o]).length; rw [List.length_append]; exact Nat.le_add_right _ _, fun i hi => if_neg (Nat.ne_of_lt hi), fun a x e _ => same_upd hp a x e, fun i h h' => ?_⟩
  have h' : i < (w.S ++ [o]).length := h'
  rw [List.length_append] at h'
  have h' : i < w.S.length + 1 := h'
  have e : i = w.S.length := by omega
  rw [e, Wo.add_m]
  exact hp
theorem Wo.add_ok {w : Wo} (ok : w.Ok K mg) {p : Addr} {o : Ob} {u : HO} (hp : w.H p = none) (ho : Rob K mg (w.add p o u) p o) : (w.add p o u).Ok K mg := by
  have old : ∀ i, i < w.S.length → (w.add p o u).m i = w.m i ∧ w.m i ≠ p := fun i hi => by
    refine ⟨if_neg (Nat.ne_of_lt hi), fun e => ?_⟩
    obtain ⟨x, h1, _⟩ := ok.at hi
    rw [e, hp] at h1
    cases h1
  refine ⟨fun i j hi hj e => ?_, fun i o' h => ?_⟩
  · have hi : i < (w.S ++ [o]).length := hi
    have hj : j < (w.S ++ [o]).length := hj
    rw [List.length_append] at hi hj
    have hi : i < w.S.length + 1 := hi
    have hj : j < w.S.length + 1 := hj
    by_cases h1 : i < w.S.length
    · rw [(old i h1).1] at e
      by_cases h2 : j < w.S.length
      · rw [(old j h2).1] at e
        exact ok.inj i j h1 h2 e
      · have e2 : j = w.S.length := by omega
        rw [e2, Wo.add_m] at e
        exact absurd e (old i h1).2
    · have e1 : i = w.S.length := by omega
      rw [e1, Wo.add_m] at e
      by_cases h2 : j < w.S.length
      · rw [(old j h2).1] at e
        exact absurd e.symm (old j h2).2
      · omega
  · have h : (w.S ++ [o])[i]? = some o' := h
    by_cases h1 : i < w.S.length
    · rw [List.getElem?_append_left h1] at h
      rw [(old i h1).1]
      exact (ok.has i o' h).up ok (Wo.add_le hp) fun x e => by
        show upd w.H p u (w.m i) = some x
        rw [upd_ne (old i h1).2]
        exact e
    · have h2 := (List.getElem?_eq_some_iff.mp h).1
      rw [List.length_append] at h2
      have h2 : i < w.S.length + 1 := h2
      have e1 : i = w.S.length := by omega
      rw [e1, List.getElem?_append_right (Nat.le_refl _), Nat.sub_self] at h
      have e2 : o = o' := Option.some.inj h
      rw [e1, Wo.add_m, ← e2]
      exact ho
/-- a new object is handed back -/
theorem Fin.add {w : Wo} {o : Ob} {Q : VK} {E : Str → List (Str × D) → Wo → Prop} {p : Addr} {u : HO} (h : Fin K mg w (Rv K mg) (.ok (.obj w.S.length) (w.S ++ [o])) Q E) (ok : w.Ok K mg) (hp : w.H p = none)
    (ho : w.Le (w.add p o u) → Rob K mg (w.add p o u) p o) : Q (.ref p) (upd w.H p u) := by
  have le := Wo.add_le (o := o) (u := u) hp
  refine h (w.add p o u) (.ref p) le (Wo.add_ok ok hp (ho le)) rfl ?_
  rw [Rv]
  refine ⟨by show w.S.length < (w.S ++ [o]).length; rw [List.length_append]; exact Nat.lt_succ_self _, by rw [Wo.add_m]⟩
def mkLst (xs : List D) (S : Sto) : Res D := if xs.length ≤ sizeLine then .ok (.obj S.length) (S ++ [.lst xs]) else .bad
theorem Fin.newLst {w : Wo} {xs : List D} {vs : List V} {Q : VK} {E : Str → List (Str × D) → Wo → Prop} {p : Addr} (h : Fin K mg w (Rv K mg) (mkLst xs w.S) Q E) (ok : w.Ok K mg) (hp : w.H p = none) (r : Rvs K mg w xs vs) : Q (.ref p) (upd w.H p (.lst vs)) := by
  unfold mkLst at h
  by_cases hl : xs.length ≤ sizeLine
  · rw [if_pos hl] at h
    exact Fin.add h ok hp fun le => ⟨vs, upd_same, r.up ok le⟩
  · rw [if_neg hl] at h
    exact h.elim
theorem Fin.lstLen {w : Wo} {xs : List D} {S : Sto} {Q : VK} {E : Str → List (Str × D) → Wo → Prop} (h : Fin K mg w (Rv K mg) (mkLst xs S) Q E) : xs.length ≤ sizeLine := by
  unfold mkLst at h
  by_cases hl : xs.length ≤ sizeLine
  · exact hl
  · rw [if_neg hl] at h
    exact h.elim
def eLst (da : DA) (ρ : Env) (S : Sto) : Res D := (da ρ S).bind mkLst
theorem i_lst {da : DA} {σ : St} {H : Hp} {Q : VK} (h : LE K mg W (eLst da) σ H Q) : tLst (LA K mg W da) σ H Q := by
  obtain ⟨w, ok, rfl, ρ, rr, h⟩ := h
  refine ⟨w, ok, rfl, ρ, rr, h.bind fun w1 xs vs le1 ok1 r1 h1 => ?_⟩
  exact ⟨by rw [r1.len]; exact h1.lstLen, fun p hp => h1.newLst ok1 hp r1⟩
theorem l_lst {da : DA} (h : PA X es (LA X.K X.mg W da)) : PE X (.List es pos) (LE X.K X.mg W (eLst da)) := (pe_lst h).imp fun _ _ _ => i_lst
end

/-! ## sum, min and max of a tuple of numbers -/
section
open PyProof.Rows
variable {prog : Program} {w : World} {A : Around} {E : Value → Shared → Prop} {s : Shared} {l : Addr} {its : List Value} {ns : List Int} {Q : Value → Shared → Prop}
theorem sumT_raw (hh : A.handled = none) (hl : s.heap.IsTuple l its.toArray) (hi : IntsAre its ns)
    (h : ∀ hp tk tt, (∀ b o, s.heap.get? b = some o → hp.get? b = some o) → Q (.int ns.sum tt) { s with heap := hp, toks := tk }) :
    wpAny (model prog w) A (call (.builtin "sum") [.ref l]) Q E s := by
  obtain ⟨xs, e⟩ := hi.allInts.items
  have hn : numsOf (intItems xs).toList = ns := (congrArg (fun z => numsOf z.toList) e.symm).trans hi.numsOf
  rw [nums_intItems] at hn
  rw [e] at hl
  refine PySem.call_sum_walkAnyS (PySem.W.iter_tupleW (A := A.in1) hh hl fun s2 es W st fp hw hk => ?_)
  refine ⟨_, _, _, _, _, _, _, numAt xs, rfl, W, st, fp, fun _ _ => intItems_at, fun s9 t9 m => ?_⟩
  obtain ⟨hp, tk, rfl, old⟩ := PySem.W.moved_old es rfl m
  have z := h hp tk t9 old
  have e5 : (intItems xs).size = xs.size := by simp [intItems]
  rw [e5, preSum_eq, List.take_of_length_le (by simp), hn]
  exact z
theorem minT_raw (hh : A.handled = none) (hl : s.heap.IsTuple l its.toArray) (hi : IntsAre its ns) (hne : 0 < ns.length)
    (h : ∀ hp tk m tt, (∀ b o, s.heap.get? b = some o → hp.get? b = some o) → m ∈ ns → (∀ a ∈ ns, m ≤ a) → Q (.int m tt) { s with heap := hp, toks := tk }) :
    wpAny (model prog w) A (call (.builtin "min") [.ref l]) Q E s := by
  obtain ⟨xs, e⟩ := hi.allInts.items
  have hn : numsOf (intItems xs).toList = ns := (congrArg (fun z => numsOf z.toList) e.symm).trans hi.numsOf
  rw [nums_intItems] at hn
  subst hn
  rw [e] at hl
  have hz : 0 < xs.size := by simpa using hne
  have e5 : (intItems xs).size = xs.size := by simp [intItems]
  refine PySem.call_min_walkS (PySem.W.iter_tupleW (A := A.in1) hh hl fun s2 es W st fp hw hk => ?_)
  refine ⟨_, _, _, _, _, _, _, _, rfl, W, st, fp, by rw [e5]; exact hz, CmpOf.ints_lt (numAt xs) (fun _ _ => intItems_at), fun v s9 hv m => ?_⟩
  obtain ⟨hp, tk, rfl, old⟩ := PySem.W.moved_old es rfl m
  rw [e5] at hv
  obtain ⟨t, rfl⟩ := intItems_at hv
  obtain ⟨g1, g2⟩ := argBest_lt (numAt xs) (xs.size - 1)
  refine h hp tk _ t old ?_ fun a ha => ?_
  · rw [numAt_eq]
    exact PySem.getD_mem (by rw [List.length_map, Array.length_toList]; omega)
  · obtain ⟨j, hj, rfl⟩ := mem_getD ha
    rw [List.length_map, Array.length_toList] at hj
    rw [← numAt_eq]
    exact g2 j (by omega)
theorem maxT_raw (hh : A.handled = none) (hl : s.heap.IsTuple l its.toArray) (hi : IntsAre its ns) (hne : 0 < ns.length)
    (h : ∀ hp tk m tt, (∀ b o, s.heap.get? b = some o → hp.get? b = some o) → m ∈ ns → (∀ a ∈ ns, a ≤ m) → Q (.int m tt) { s with heap := hp, toks := tk }) :
    wpAny (model prog w) A (call (.builtin "max") [.ref l]) Q E s := by
  obtain ⟨xs, e⟩ := hi.allInts.items
  have hn : numsOf (intItems xs).toList = ns := (congrArg (fun z => numsOf z.toList) e.symm).trans hi.numsOf
  rw [nums_intItems] at hn
  subst hn
  rw [e] at hl
  have hz : 0 < xs.size := by simpa using hne
  have e5 : (intItems xs).size = xs.size := by simp [intItems]
  refine PySem.call_max_walkS (PySem.W.iter_tupleW (A := A.in1) hh hl fun s2 es W st fp hw hk => ?_)
  refine ⟨_, _, _, _, _, _, _, _, rfl, W, st, fp, by rw [e5]; exact hz, CmpOf.ints_gt (numAt xs) (fun _ _ => intItems_at), fun v s9 hv m => ?_⟩
  obtain ⟨hp, tk, rfl, old⟩ := PySem.W.moved_old es rfl m
  rw [e5] at hv
  obtain ⟨t, rfl⟩ := intItems_at hv
  obtain ⟨g1, g2⟩ := argBest_gt (numAt xs) (xs.size - 1)
  refine h hp tk _ t old ?_ fun a ha => ?_
  · rw [numAt_eq]
    exact PySem.getD_mem (by rw [List.length_map, Array.length_toList]; omega)
  · obtain ⟨j, hj, rfl⟩ := mem_getD ha
    rw [List.length_map, Array.length_toList] at hj
    rw [← numAt_eq]
    exact g2 j (by omega)
end
section
open PyProof.Rows
variable {X : Cx}
def rSumT (K : PySem.W.Frag) : List V → Hp → VK → Prop := fun vs H Q => ∃ (a : Addr) (ns : List Int), vs = [V.ref a] ∧ SqT K H a (ns.map V.int) ∧ Q (.int (List.sum ns)) H
def rMinT (K : PySem.W.Frag) : List V → Hp → VK → Prop := fun vs H Q => ∃ (a : Addr) (ns : List Int), vs = [V.ref a] ∧ SqT K H a (ns.map V.int) ∧ 0 < ns.length ∧ ∀ m : Int, m ∈ ns → (∀ y ∈ ns, m ≤ y) → Q (.int m) H
def rMaxT (K : PySem.W.Frag) : List V → Hp → VK → Prop := fun vs H Q => ∃ (a : Addr) (ns : List Int), vs = [V.ref a] ∧ SqT K H a (ns.map V.int) ∧ 0 < ns.length ∧ ∀ m : Int, m ∈ ns → (∀ y ∈ ns, y ≤ m) → Q (.int m) H
theorem cr_sumT (hc : X.calm = true) : CallR X (.builtin "sum") (rSumT X.K) := by
  intro pins s σ H vs us Q I r h
  obtain ⟨a, ns, rfl, t, q⟩ := h
  obtain ⟨its, rv, tu, _⟩ := I.tuple t
  rw [Vals.ref1 r]
  exact sumT_raw (I.ok.hd hc) tu rv.ints fun hp tk tt old => ⟨.int _, H, I.kept old, ⟨_, rfl⟩, q⟩
theorem cr_minT (hc : X.calm = true) : CallR X (.builtin "min") (rMinT X.K) := by
  intro pins s σ H vs us Q I r h
  obtain ⟨a, ns, rfl, t, hn, q⟩ := h
  obtain ⟨its, rv, tu, _⟩ := I.tuple t
  rw [Vals.ref1 r]
  exact minT_raw (I.ok.hd hc) tu rv.ints hn fun hp tk m tt old g1 g2 => ⟨.int _, H, I.kept old, ⟨_, rfl⟩, q m g1 g2⟩
theorem cr_maxT (hc : X.calm = true) : CallR X (.builtin "max") (rMaxT X.K) := by
  intro pins s σ H vs us Q I r h
  obtain ⟨a, ns, rfl, t, hn, q⟩ := h
  obtain ⟨its, rv, tu, _⟩ := I.tuple t
  rw [Vals.ref1 r]
  exact maxT_raw (I.ok.hd hc) tu rv.ints hn fun hp tk m tt old g1 g2 => ⟨.int _, H, I.kept old, ⟨_, rfl⟩, q m g1 g2⟩
theorem cr_sumA (hc : X.calm = true) : CallR X (.builtin "sum") (fun vs H Q => rSum X.K vs H Q ∨ rSumT X.K vs H Q) := (cr_sum hc).or (cr_sumT hc)
theorem cr_minA (hc : X.calm = true) : CallR X (.builtin "min") (fun vs H Q => rMin X.K vs H Q ∨ rMinT X.K vs H Q) := (cr_min hc).or (cr_minT hc)
theorem cr_maxA (hc : X.calm = true) : CallR X (.builtin "max") (fun vs H Q => rMax X.K vs H Q ∨ rMaxT X.K vs H Q) := (cr_max hc).or (cr_maxT hc)
end
section
variable {K : PySem.W.Frag} {mg : Str → Option Value} {X : Cx} {W : WX}
/-! ## scalars -/
def D.sc : D → Option V
  | .non => some .non
  | .bl b => some (.bl b)
  | .int i => some (.int i)
  | .str x => some (.str x)
  | _ => none
theorem Rv.sc {w : Wo} {d : D} {v u : V} (h : Rv K mg w d v) (e : d.sc = some u) : v = u := by
  cases d <;> first
    | (rw [Rv] at h; rw [h]; exact Option.some.inj e)
    | (exact absurd e (by intro z; cases z))
theorem Rv.int {w : Wo} {i : Int} {v : V} (h : Rv K mg w (.int i) v) : v = .int i := by rw [Rv] at h; exact h
theorem Rv.str {w : Wo} {i : Str} {v : V} (h : Rv K mg w (.str i) v) : v = .str i := by rw [Rv] at h; exact h
theorem Rv.bl {w : Wo} {i : Bool} {v : V} (h : Rv K mg w (.bl i) v) : v = .bl i := by rw [Rv] at h; exact h
theorem Rv.non {w : Wo} {v : V} (h : Rv K mg w .non v) : v = .non := by rw [Rv] at h; exact h
theorem Rv.ty {w : Wo} {n : String} {v : V} (h : Rv K mg w (.ty n) v) : v = .ty n := by rw [Rv] at h; exact h
theorem Rv.tup {w : Wo} {ds : List D} {v : V} (h : Rv K mg w (.tup ds) v) : ∃ a vs, v = .ref a ∧ SqT K w.H a vs ∧ Rvs K mg w ds vs := by rw [Rv] at h; exact h
theorem Rv.obj {w : Wo} {n : Nat} {v : V} (h : Rv K mg w (.obj n) v) : n < w.S.length ∧ v = .ref (w.m n) := by rw [Rv] at h; exact h
theorem mk_int {w : Wo} {i : Int} : Rv K mg w (.int i) (.int i) := by rw [Rv]
theorem mk_bl {w : Wo} {i : Bool} : Rv K mg w (.bl i) (.bl i) := by rw [Rv]
theorem mk_str {w : Wo} {i : Str} : Rv K mg w (.str i) (.str i) := by rw [Rv]
theorem mk_non {w : Wo} : Rv K mg w .non .non := by rw [Rv]
theorem Rv.kl {w : Wo} {ds : List D} {v : V} (h : Rv K mg w (.kl ds) v) : ∃ a vs, v = .ref a ∧ SqF K w.H a vs ∧ Rvs K mg w ds vs := by
  rw [Rv] at h
  exact h
theorem mk_tup {w : Wo} {a : Addr} {ds : List D} {vs : List V} (h : SqT K w.H a vs) (r : Rvs K mg w ds vs) : Rv K mg w (.tup ds) (.ref a) := by
  rw [Rv]
  exact ⟨a, vs, rfl, h, r⟩
def scs : List D → Option (List V)
  | [] => some []
  | d :: ds => match d.sc, scs ds with
    | some v, some vs => some (v :: vs)
    | _, _ => none
theorem Rvs.sc {w : Wo} : ∀ {ds : List D} {vs us : List V}, Rvs K mg w ds vs → scs ds = some us → vs = us
  | [], vs, us, r, e => by
    rw [Rvs] at r
    rw [r]
    exact Option.some.inj e
  | d :: ds, vs, us, r, e => by
    rw [Rvs] at r
    obtain ⟨v, q, e1, r1, r2⟩ := r
    unfold scs at e
    cases e2 : d.sc with
    | none =>
      rw [e2] at e
      cases e
    | some u =>
      cases e3 : scs ds with
      | none =>
        rw [e2, e3] at e
        cases e
      | some us2 =>
        rw [e2, e3] at e
        rw [e1, r1.sc e2, Rvs.sc r2 e3]
        exact Option.some.inj e
theorem sc_flat {d : D} {v : V} (e : d.sc = some v) : flatV v = true := by
  cases d <;> first
    | (rw [← Option.some.inj e]; rfl)
    | (exact absurd e (by intro z; cases z))
theorem scs_flat : ∀ {ds : List D} {us : List V}, scs ds = some us → us.all flatV = true
  | [], us, e => by
    rw [← Option.some.inj e]
    rfl
  | d :: ds, us, e => by
    unfold scs at e
    cases e2 : d.sc with
    | none =>
      rw [e2] at e
      cases e
    | some u =>
      cases e3 : scs ds with
      | none =>
        rw [e2, e3] at e
        cases e
      | some us2 =>
        rw [e2, e3] at e
        rw [← Option.some.inj e, List.all_cons, sc_flat e2, scs_flat e3]
        rfl
/-! ## numbers and + -/
/-- what a store's object is, as a list -/
def lstOf (S : Sto) (n : Nat) : Option (List D) := match S[n]? with
  | some (.lst xs) => some xs
  | _ => none
theorem lst_at {w : Wo} (ok : w.Ok K mg) {n : Nat} {xs : List D} (h : lstOf w.S n = some xs) : ∃ vs, SqL K w.H (w.m n) vs ∧ Rvs K mg w xs vs := by
  unfold lstOf at h
  cases e : w.S[n]? with
  | none =>
    rw [e] at h
    cases h
  | some o =>
    rw [e] at h
    have r := ok.has n o e
    cases o with
    | lst ds =>
      obtain ⟨vs, h1, h2⟩ := r
      rw [← Option.some.inj h]
      exact ⟨vs, SqL.of h1, h2⟩
    | dk kvs => cases h
    | ins C fs => cases h
theorem lst_mut {w : Wo} (ok : w.Ok K mg) {n : Nat} {xs : List D} (h : w.S[n]? = some (.lst xs)) : ∃ vs, w.H (w.m n) = some (.lst vs) ∧ Rvs K mg w xs vs := ok.has n _ h
def dAdd : D → D → Sto → Res D
  | .int i, .int j, S => .ok (.int (i + j)) S
  | .str x, .str y, S => if x.length + y.length ≤ sizeLine then .ok (.str (x ++ y)) S else .bad
  | .tup xs, .tup ys, S => if xs.length + ys.length ≤ sizeLine then .ok (.tup (xs ++ ys)) S else .bad
  | .obj n, .obj m, S => match S[n]?, S[m]? with
    | some (.lst xs), some (.lst ys) => mkLst (xs ++ ys) S
    | _, _ => .bad
  | _, _, _ => .bad
def rAddA (K : PySem.W.Frag) : R2 := fun x y H Q => rI0 (fun i j => .int (i + j)) x y H Q ∨ (∃ i j, x = .str i ∧ y = .str j ∧ i.length + j.length ≤ sizeLine ∧ Q (.str (i ++ j)) H) ∨ rCatA K x y H Q ∨ rCat x y H Q
theorem op_addA : OpR X (binaryOp .Add) (rAddA X.K) := op_add.or (op_add_str.or (op_catA.or op_cat))
theorem Fin.newTup {w : Wo} {xs : List D} {vs : List V} {Q : VK} {E : Str → List (Str × D) → Wo → Prop} {p : Addr} (h : Fin K mg w (Rv K mg) (.ok (.tup xs) w.S) Q E) (ok : w.Ok K mg) (hp : w.H p = none) (r : Rvs K mg w xs vs) : Q (.ref p) (upd w.H p (.tup vs)) := by
  have le2 := Wo.new_le (w := w) (p := p) (o := .tup vs) hp
  have ok2 := Wo.new_ok (o := .tup vs) ok hp
  exact Fin.now (w := w.heap (upd w.H p (.tup vs))) (h.up ok2 le2) ok2 (mk_tup (SqT.of upd_same) (r.up ok le2))
theorem o_add : Op2 K mg (rAddA K) dAdd := by
  intro w a b v u Q E ok ra rb h
  unfold dAdd at h
  split at h
  · rw [ra.int, rb.int]
    exact .inl ⟨_, _, rfl, rfl, Fin.now h ok mk_int⟩
  · rw [ra.str, rb.str]
    split at h
    · rename_i hz
      exact .inr (.inl ⟨_, _, rfl, rfl, hz, Fin.now h ok mk_str⟩)
    · exact h.elim
  · rename_i xs ys
    split at h
    · rename_i hz
      obtain ⟨a1, v1, rfl, t1, r1⟩ := ra.tup
      obtain ⟨a2, v2, rfl, t2, r2⟩ := rb.tup
      refine .inr (.inr (.inl ⟨a1, a2, v1, v2, rfl, rfl, t1, t2, by rw [r1.len, r2.len]; exact hz, fun e => ?_, fun e e2 => ?_, fun e e2 p hp => ?_⟩))
      · have l := r1.len
        rw [e] at l
        have e3 : xs = [] := List.eq_nil_of_length_eq_zero l.symm
        rw [e3, List.nil_append] at h
        exact Fin.now h ok (mk_tup t2 r2)
      · have l := r2.len
        rw [e2] at l
        have e3 : ys = [] := List.eq_nil_of_length_eq_zero l.symm
        rw [e3, List.append_nil] at h
        exact Fin.now h ok (mk_tup t1 r1)
      · exact h.newTup ok hp (r1.append r2)
    · exact h.elim
  · split at h
    · rename_i n m xs ys e1 e2
      obtain ⟨_, rfl⟩ := ra.obj
      obtain ⟨_, rfl⟩ := rb.obj
      obtain ⟨v1, h1, r1⟩ := lst_mut ok e1
      obtain ⟨v2, h2, r2⟩ := lst_mut ok e2
      have hl := h.lstLen
      rw [List.length_append] at hl
      exact .inr (.inr (.inr ⟨_, _, v1, v2, rfl, rfl, h1, h2, by rw [r1.len, r2.len]; exact hl, fun p hp => h.newLst ok hp (r1.append r2)⟩))
    · exact h.elim
  · exact h.elim
def dSub : D → D → Sto → Res D
  | .int i, .int j, S => .ok (.int (i - j)) S
  | _, _, _ => .bad
theorem o_sub : Op2 K mg (rI0 fun i j => .int (i - j)) dSub := by
  intro w a b v u Q E ok ra rb h
  unfold dSub at h
  split at h
  · rw [ra.int, rb.int]
    exact ⟨_, _, rfl, rfl, Fin.now h ok mk_int⟩
  · exact h.elim
/-! ## t * 1 is t itself -/
theorem tupOnce (l : Addr) (its : Array Value) (nn : Nat) (dct : Option Addr) (ss : Array (Option Value)) (u : Tok) :
    Meets (Builtin.«tuple.__mul__» ⟨[.ref l, .int 1 u], []⟩) (fun _ R s =>
      s.heap.get? l = some { cls := .type "tuple", dict := dct, data := .seq its nn, slots := ss } ∧ R (.ok (.ret (Value.ref l))) s) :=
  .of_wp fun _ _ _ _ s h => by
    obtain ⟨hp, gl, dd, tks, oo⟩ := s
    obtain ⟨hat, h⟩ := h
    have ix := AutoSeq1.idx_int
    have g0 : (decide ((1 : Int) < -(2 ^ 63)) || decide ((1 : Int) ≥ 2 ^ 63)) = false := by decide
    have g1 : (its.isEmpty || (1 : Int) == 1) = true := by rw [show ((1 : Int) == 1) = true from rfl, Bool.or_true]
    wp_walk using wpAny_loadPart' hat
    repeat (first
      | (refine wpAny_ite_false (decide_eq_false (by rw [g0]; exact Bool.false_ne_true)) ?_; wp_walk using wpAny_loadPart' hat)
      | (refine wpAny_ite_true (decide_eq_true g1) ?_; wp_walk using wpAny_loadPart' hat))
    exact ⟨_, rfl, h⟩
def rOneT (K : PySem.W.Frag) : R2 := fun x y H Q => ∃ l xs, x = .ref l ∧ y = .int 1 ∧ SqT K H l xs ∧ Q (.ref l) H
theorem op_oneT {X : Cx} : OpR X (binaryOp .Mult) (rOneT X.K) := by
  intro pins s σ H x y v u Q I rx ry h
  obtain ⟨l, xs, rfl, rfl, hT, q⟩ := h
  cases rx
  obtain ⟨t, rfl⟩ := ry
  obtain ⟨its, r, ⟨⟨cls, dd, data, sl⟩, ho, hc, n, hd⟩, _⟩ := I.tuple hT
  simp only at hc hd
  subst hc hd
  have two : Meets (Builtin.«int.__rmul__» ⟨[.int 1 t, .ref l], []⟩) _ := int_rmul_tuple 1 t l its.toArray n dd sl
  refine wpAny_binaryOp_repeat_ref (T := "tuple") (U := "int") (by decide) ⟨_, ho, rfl⟩ (fun s' => typeIs_int s' 1 t) noFill_tuple_mul F.fills_int_mul F.slot_int_rmul repeat_tuple F.slot_int_index.lookup ?_
  refine call_meets F.slot_int_rmul (typeIs_int s 1 t) F.entry_int_rmul (F.args_int_rmul_2 _ _) two ⟨ho, rfl, ⟨_, ho, rfl⟩, ?_⟩
  refine call_meets F.slot_tuple_mul ⟨_, ho, rfl⟩ F.entry_tuple_mul (F.args_tuple_mul_2 _ _) (tupOnce l its.toArray n dd sl t) ⟨ho, ?_⟩
  exact ⟨.ref l, H, I, rfl, q⟩
/-- a product of two numbers, the one below 2 ^ 64 or both of together less than a million bits; t * k of a tuple -/
def MulOk (i j : Int) : Prop := i.natAbs < 2 ^ 64 ∨ j.natAbs < 2 ^ 64 ∨ i.natAbs.log2 + j.natAbs.log2 < 1000000
instance (i j : Int) : Decidable (MulOk i j) := by unfold MulOk; infer_instance
def dMul : D → D → Sto → Res D
  | .int i, .int j, S => if MulOk i j then .ok (.int (i * j)) S else .bad
  | .tup xs, .int k, S => if k = 1 then .ok (.tup xs) S else if xs ≠ [] ∧ 2 ≤ k ∧ k ≤ 1000 ∧ xs.length ≤ 1000 then .ok (.tup (List.replicate k.toNat xs).flatten) S else .bad
  | _, _, _ => .bad
def rMulA (K : PySem.W.Frag) : R2 := fun x y H Q => rI CMulW (fun i j => .int (i * j)) x y H Q ∨ rI CMul (fun i j => .int (i * j)) x y H Q ∨ rRepT K x y H Q ∨ rOneT K x y H Q
theorem op_mulA : OpR X (binaryOp .Mult) (rMulA X.K) := op_mulW.or (op_mul.or (op_repT.or op_oneT))
theorem Rvs.rep {w : Wo} {xs : List D} {vs : List V} (r : Rvs K mg w xs vs) : ∀ n : Nat, Rvs K mg w (List.replicate n xs).flatten (List.replicate n vs).flatten
  | 0 => Rvs.nil
  | n + 1 => by
    rw [List.replicate_succ, List.replicate_succ, List.flatten_cons, List.flatten_cons]
    exact r.append (Rvs.rep r n)
theorem o_mul : Op2 K mg (rMulA K) dMul := by
  intro w a b v u Q E ok ra rb h
  unfold dMul at h
  split at h
  · rw [ra.int, rb.int]
    split at h
    · rename_i hz
      rcases hz with hz | hz | hz
      · exact .inr (.inl ⟨_, _, rfl, rfl, .inl ⟨by omega, by omega⟩, Fin.now h ok mk_int⟩)
      · exact .inr (.inl ⟨_, _, rfl, rfl, .inr ⟨by omega, by omega⟩, Fin.now h ok mk_int⟩)
      · exact .inl ⟨_, _, rfl, rfl, hz, Fin.now h ok mk_int⟩
    · exact h.elim
  · rename_i xs k
    split at h
    · rename_i hk
      obtain ⟨a1, v1, rfl, t1, r1⟩ := ra.tup
      rw [rb.int]
      subst hk
      exact .inr (.inr (.inr ⟨a1, v1, rfl, rfl, t1, Fin.now h ok (mk_tup t1 r1)⟩))
    · split at h
      · rename_i hz
        obtain ⟨h1, h2, h3, h4⟩ := hz
        obtain ⟨a1, v1, rfl, t1, r1⟩ := ra.tup
        rw [rb.int]
        refine .inr (.inr (.inl ⟨a1, k, v1, rfl, rfl, t1, fun e => h1 ?_, h2, h3, by rw [r1.len]; exact h4, fun p hp => h.newTup ok hp (r1.rep _)⟩))
        have l := r1.len
        rw [e] at l
        exact List.eq_nil_of_length_eq_zero l.symm
      · exact h.elim
  · exact h.elim
/-- // by a divisor of either sign, not too great -/
def dDiv : D → D → Sto → Res D
  | .int i, .int j, S => if j ≠ 0 ∧ j.natAbs.log2 < 9000 then .ok (.int (i.fdiv j)) S else .bad
  | _, _, _ => .bad
theorem op_fdivG : OpR X (binaryOp .FloorDiv) (rI (fun _ j => j ≠ 0 ∧ j.natAbs.log2 < 9000) fun i j => .int (i.fdiv j)) := opI fun _ _ _ _ _ _ _ hc q => PyProof.Rows.floordiv_int hc.1 q (.inl (PyProof.noPylong_of_log2 hc.2))
theorem o_div : Op2 K mg (rI (fun _ j => j ≠ 0 ∧ j.natAbs.log2 < 9000) fun i j => .int (i.fdiv j)) dDiv := by
  intro w a b v u Q E ok ra rb h
  unfold dDiv at h
  split at h
  · rw [ra.int, rb.int]
    split at h
    · rename_i hz
      exact ⟨_, _, rfl, rfl, hz, Fin.now h ok mk_int⟩
    · exact h.elim
  · exact h.elim
def dMod : D → D → Sto → Res D
  | .int i, .int j, S => if j ≠ 0 then .ok (.int (i.fmod j)) S else .bad
  | _, _, _ => .bad
theorem o_mod : Op2 K mg (rI (fun _ j => j ≠ 0) fun i j => .int (i.fmod j)) dMod := by
  intro w a b v u Q E ok ra rb h
  unfold dMod at h
  split at h
  · rw [ra.int, rb.int]
    split at h
    · rename_i hz
      exact ⟨_, _, rfl, rfl, hz, Fin.now h ok mk_int⟩
    · exact h.elim
  · exact h.elim
def dPow : D → D → Sto → Res D
  | .int i, .int j, S => if 0 ≤ j ∧ j ≤ 1000000 ∧ i.natAbs < 2 ^ 64 then .ok (.int (i ^ j.toNat)) S else .bad
  | _, _, _ => .bad
theorem o_pow : Op2 K mg (rI CPow fun i j => .int (i ^ j.toNat)) dPow := by
  intro w a b v u Q E ok ra rb h
  unfold dPow at h
  split at h
  · rw [ra.int, rb.int]
    split at h
    · rename_i hz
      exact ⟨_, _, rfl, rfl, hz, Fin.now h ok mk_int⟩
    · exact h.elim
  · exact h.elim
/-- one place -/
def eUn (f : D → Sto → Res D) (da : DE) (ρ : Env) (S : Sto) : Res D := (da ρ S).bind f
def Op1 (K : PySem.W.Frag) (mg : Str → Option Value) (r : V → Hp → VK → Prop) (f : D → Sto → Res D) : Prop := ∀ (w : Wo) (a : D) (v : V) (Q : VK) (E : Str → List (Str × D) → Wo → Prop), w.Ok K mg → Rv K mg w a v → Fin K mg w (Rv K mg) (f a w.S) Q E → r v w.H Q
theorem i_un {r : V → Hp → VK → Prop} {f : D → Sto → Res D} {da : DE} (o : Op1 K mg r f) {σ : St} {H : Hp} {Q : VK} (h : LE K mg W (eUn f da) σ H Q) : tUn r (LE K mg W da) σ H Q := by
  obtain ⟨w, ok, rfl, ρ, rr, h⟩ := h
  exact ⟨w, ok, rfl, ρ, rr, h.bind fun w1 x v le1 ok1 r1 h1 => o w1 x v Q _ ok1 r1 h1⟩
theorem l_un {op : UnaryOp} {r : V → Hp → VK → Prop} {f : D → Sto → Res D} {da : DE} {a : Expr} {pos : Pos} (ho : UnR X (unaryOp op) r) (o : Op1 X.K X.mg r f) (ha : PE X a (LE X.K X.mg W da)) : PE X (.UnaryOp op a pos) (LE X.K X.mg W (eUn f da)) := (pe_un ho ha).imp fun _ _ _ => i_un o
def dNeg : D → Sto → Res D
  | .int i, S => .ok (.int (-i)) S
  | _, _ => .bad
theorem o_neg : Op1 K mg (rU fun i => .int (-i)) dNeg := by
  intro w a v Q E ok ra h
  unfold dNeg at h
  split at h
  · rw [ra.int]
    exact ⟨_, rfl, Fin.now h ok mk_int⟩
  · exact h.elim
/-! ## comparisons -/
def dRel (p : Int → Int → Bool) : D → D → Sto → Res D
  | .int i, .int j, S => .ok (.bl (p i j)) S
  | _, _, _ => .bad
theorem o_rel (p : Int → Int → Bool) : Op2 K mg (rI0 fun i j => .bl (p i j)) (dRel p) := by
  intro w a b v u Q E ok ra rb h
  unfold dRel at h
  split at h
  · rw [ra.int, rb.int]
    exact ⟨_, _, rfl, rfl, Fin.now h ok mk_bl⟩
  · exact h.elim
abbrev dLt := dRel fun i j => decide (i < j)
abbrev dLe := dRel fun i j => decide (i ≤ j)
abbrev dGt := dRel fun i j => decide (j < i)
abbrev dGe := dRel fun i j => decide (j ≤ i)
def dEq : D → D → Sto → Res D
  | .int i, .int j, S => .ok (.bl (decide (i = j))) S
  | .str i, .str j, S => .ok (.bl (decide (i = j))) S
  | .bl i, .bl j, S => .ok (.bl (decide (i = j))) S
  | .non, .non, S => .ok (.bl true) S
  | .non, .int _, S => .ok (.bl false) S
  | .non, .bl _, S => .ok (.bl false) S
  | .non, .str _, S => .ok (.bl false) S
  | .int _, .non, S => .ok (.bl false) S
  | .bl _, .non, S => .ok (.bl false) S
  | .str _, .non, S => .ok (.bl false) S
  | .int _, .str _, S => .ok (.bl false) S
  | .str _, .int _, S => .ok (.bl false) S
  | .bl _, .str _, S => .ok (.bl false) S
  | .str _, .bl _, S => .ok (.bl false) S
  | _, _, _ => .bad
def dNe (a b : D) (S : Sto) : Res D := (dEq a b S).bind eNotV1
theorem dEq_sc {a b : D} {S : Sto} : (dEq a b S = .bad) ∨ ∃ x y, a.sc = some x ∧ b.sc = some y ∧ scal x y = true ∧ dEq a b S = .ok (.bl (decide (x = y))) S := by
  unfold dEq
  split
  · rename_i i j
    exact .inr ⟨_, _, rfl, rfl, rfl, congrArg (fun k => Res.ok (D.bl k) S) (show decide (i = j) = decide (V.int i = V.int j) from (by rw [Bool.eq_iff_iff]; simp))⟩
  · rename_i i j
    exact .inr ⟨_, _, rfl, rfl, rfl, congrArg (fun k => Res.ok (D.bl k) S) (show decide (i = j) = decide (V.str i = V.str j) from (by rw [Bool.eq_iff_iff]; simp))⟩
  · rename_i i j
    exact .inr ⟨_, _, rfl, rfl, rfl, congrArg (fun k => Res.ok (D.bl k) S) (show decide (i = j) = decide (V.bl i = V.bl j) from (by rw [Bool.eq_iff_iff]; simp))⟩
  all_goals first
    | exact .inr ⟨_, _, rfl, rfl, rfl, rfl⟩
    | exact .inr ⟨_, _, rfl, rfl, rfl, by simp⟩
    | exact .inl rfl
theorem o_eq : Op2 K mg rEq dEq := by
  intro w a b v u Q E ok ra rb h
  rcases dEq_sc (a := a) (b := b) (S := w.S) with e | ⟨x, y, e1, e2, e3, e4⟩
  · rw [e] at h
    exact h.elim
  · rw [e4] at h
    rw [ra.sc e1, rb.sc e2]
    exact ⟨e3, Fin.now h ok mk_bl⟩
theorem o_ne : Op2 K mg rNe dNe := by
  intro w a b v u Q E ok ra rb h
  unfold dNe at h
  rcases dEq_sc (a := a) (b := b) (S := w.S) with e | ⟨x, y, e1, e2, e3, e4⟩
  · rw [e] at h
    exact h.elim
  · rw [e4] at h
    rw [ra.sc e1, rb.sc e2]
    exact ⟨e3, Fin.now h ok mk_bl⟩
/-- x in a list or tuple of scalars; a text in a text -/
def dIn (neg : Bool) : D → D → Sto → Res D
  | x, .tup ys, S => match x.sc, scs ys with
    | some v, some vs => .ok (.bl (if neg then !inV v vs else inV v vs)) S
    | _, _ => .bad
  | x, .obj n, S => match x.sc, (lstOf S n).bind scs with
    | some v, some vs => .ok (.bl (if neg then !inV v vs else inV v vs)) S
    | _, _ => .bad
  | .str i, .str j, S => .ok (.bl (if neg then !(!(Builtin.Str.occurrences j i 0 j.length 1).isEmpty) else !(Builtin.Str.occurrences j i 0 j.length 1).isEmpty)) S
  | _, _, _ => .bad
def rInA (K : PySem.W.Frag) (neg : Bool) : R2 := fun x y H Q => rIn K neg x y H Q ∨ ∃ i j, x = .str i ∧ y = .str j ∧ Q (.bl (if neg then !(!(Builtin.Str.occurrences j i 0 j.length 1).isEmpty) else !(Builtin.Str.occurrences j i 0 j.length 1).isEmpty)) H
theorem op_inA : OpR X (compareOp .In) (rInA X.K false) := op_in_seq.or op_in_str
theorem op_notInA : OpR X (compareOp .NotIn) (rInA X.K true) := op_notIn_seq.or op_notIn_str
theorem o_in (neg : Bool) : Op2 K mg (rInA K neg) (dIn neg) := by
  intro w a b v u Q E ok ra rb h
  unfold dIn at h
  split at h
  · split at h
    · rename_i x ys S v' vs' e1 e2
      obtain ⟨p, v2, rfl, t, r⟩ := rb.tup
      have e3 := r.sc e2
      subst e3
      rw [ra.sc e1]
      exact .inl ⟨p, _, rfl, .inr t, sc_flat e1, scs_flat e2, Fin.now h ok mk_bl⟩
    · exact h.elim
  · split at h
    · rename_i x n S v' vs' e1 e2
      obtain ⟨_, rfl⟩ := rb.obj
      obtain ⟨ys, e3, e4⟩ := Option.bind_eq_some_iff.mp e2
      obtain ⟨v2, t, r⟩ := lst_at ok e3
      have e5 := r.sc e4
      subst e5
      rw [ra.sc e1]
      exact .inl ⟨_, _, rfl, .inl t, sc_flat e1, scs_flat e4, Fin.now h ok mk_bl⟩
    · exact h.elim
  · rw [ra.str, rb.str]
    exact .inr ⟨_, _, rfl, rfl, Fin.now h ok mk_bl⟩
  · exact h.elim
/-- is None -/
def dIsN : D → Sto → Res D
  | .non, S => .ok (.bl true) S
  | _, S => .ok (.bl false) S
def dNotN : D → Sto → Res D
  | .non, S => .ok (.bl false) S
  | _, S => .ok (.bl true) S
def isNon : D → Bool
  | .non => true
  | _ => false
theorem Rv.isN {w : Wo} {d : D} {v : V} (h : Rv K mg w d v) : decide (v = .non) = isNon d := by
  cases d with
  | non => have e := h.non; subst e; rfl
  | bl b => have e := h.bl; subst e; rfl
  | int b => have e := h.int; subst e; rfl
  | str b => have e := h.str; subst e; rfl
  | tup b => obtain ⟨a, vs, e, _⟩ := h.tup; subst e; rfl
  | obj n => have e := h.obj.2; subst e; rfl
  | fn x =>
    rw [Rv] at h
    obtain ⟨a, _, e⟩ := h
    subst e
    rfl
  | ty n => have e := h.ty; subst e; rfl
  | raw n =>
    rw [Rv] at h
    subst h
    rfl
  | kl xs =>
    rw [Rv] at h
    obtain ⟨a, vs, e, _⟩ := h
    subst e
    rfl
theorem i_isN {da : DE} {σ : St} {H : Hp} {Q : VK} (h : LE K mg W (eUn dIsN da) σ H Q) : tIsN (LE K mg W da) σ H Q := by
  obtain ⟨w, ok, rfl, ρ, rr, h⟩ := h
  refine ⟨w, ok, rfl, ρ, rr, h.bind fun w1 x v le1 ok1 r1 h1 => ?_⟩
  rw [r1.isN]
  cases x <;> exact Fin.now h1 ok1 mk_bl
theorem i_notN {da : DE} {σ : St} {H : Hp} {Q : VK} (h : LE K mg W (eUn dNotN da) σ H Q) : tNotN (LE K mg W da) σ H Q := by
  obtain ⟨w, ok, rfl, ρ, rr, h⟩ := h
  refine ⟨w, ok, rfl, ρ, rr, h.bind fun w1 x v le1 ok1 r1 h1 => ?_⟩
  rw [r1.isN]
  cases x <;> exact Fin.now h1 ok1 mk_bl
theorem l_isN {a : Expr} {j} {pos pos' : Pos} {da : DE} (ha : PE X a (LE X.K X.mg W da)) : PE X (.Compare a [.Is] [.Constant .none j pos'] pos) (LE X.K X.mg W (eUn dIsN da)) := (pe_cmp (pc_isN ha)).imp fun _ _ _ => i_isN
theorem l_notN {a : Expr} {j} {pos pos' : Pos} {da : DE} (ha : PE X a (LE X.K X.mg W da)) : PE X (.Compare a [.IsNot] [.Constant .none j pos'] pos) (LE X.K X.mg W (eUn dNotN da)) := (pe_cmp (pc_notN ha)).imp fun _ _ _ => i_notN
theorem lt_isN {a : Expr} {j} {pos pos' : Pos} {da : DE} (ha : PE X a (LE X.K X.mg W da)) : PT X (.Compare a [.Is] [.Constant .none j pos'] pos) (LT X.K X.mg W (eT (eUn dIsN da))) := (pt_cmp (pc_isN ha)).imp fun _ _ _ h => i_test (fun _ _ _ => i_isN) h
theorem lt_notN {a : Expr} {j} {pos pos' : Pos} {da : DE} (ha : PE X a (LE X.K X.mg W da)) : PT X (.Compare a [.IsNot] [.Constant .none j pos'] pos) (LT X.K X.mg W (eT (eUn dNotN da))) := (pt_cmp (pc_notN ha)).imp fun _ _ _ h => i_test (fun _ _ _ => i_notN) h
/-! ## subscripts -/
def dIx : D → D → Sto → Res D
  | .tup xs, .int i, S => match atI xs i with
    | some d => .ok d S
    | none => .bad
  | .obj n, .int i, S => match (lstOf S n).bind fun xs => atI xs i with
    | some d => .ok d S
    | none => .bad
  | .str z, .int i, S => if z.length ≤ sizeLine then (match atI z.cps.toList i with
    | some c => .ok (.str ⟨#[c]⟩) S
    | none => .bad) else .bad
  | _, _, _ => .bad
theorem Rvs.atI {w : Wo} {ds : List D} {vs : List V} {i : Int} {d : D} (r : Rvs K mg w ds vs) (h : atI ds i = some d) : ∃ v, L2.atI vs i = some v ∧ Rv K mg w d v := by
  unfold L2.atI at h ⊢
  rw [r.len]
  obtain ⟨j, e1, e2⟩ := Option.bind_eq_some_iff.mp h
  obtain ⟨v, e3, r3⟩ := r.get e2
  exact ⟨v, by rw [e1]; exact e3, r3⟩
theorem o_ix : Op2 K mg (rIx K) dIx := by
  intro w a b v u Q E ok ra rb h
  unfold dIx at h
  split at h
  · split at h
    · rename_i xs i S d e
      obtain ⟨p, vs, rfl, t, r⟩ := ra.tup
      obtain ⟨z, e2, r2⟩ := r.atI e
      rw [rb.int]
      exact .inr (.inl ⟨p, vs, i, z, rfl, rfl, t, e2, Fin.now h ok r2⟩)
    · exact h.elim
  · split at h
    · rename_i n i S d e
      obtain ⟨_, rfl⟩ := ra.obj
      obtain ⟨xs, e3, e4⟩ := Option.bind_eq_some_iff.mp e
      obtain ⟨vs, t, r⟩ := lst_at ok e3
      obtain ⟨z, e2, r2⟩ := r.atI e4
      rw [rb.int]
      exact .inl ⟨_, vs, i, z, rfl, rfl, t, e2, Fin.now h ok r2⟩
    · exact h.elim
  · split at h
    · rename_i hz
      split at h
      · rename_i c e
        rw [ra.str, rb.int]
        exact .inr (.inr ⟨_, _, c, rfl, rfl, hz, e, Fin.now h ok mk_str⟩)
      · exact h.elim
    · exact h.elim
  · exact h.elim
/-! ## slices -/
def cutL {α : Type} (xs : List α) (lo hi : Option Int) : List α := (xs.drop (HT.sIx xs.length 0 lo)).take (HT.sIx xs.length xs.length hi - HT.sIx xs.length 0 lo)
theorem Rvs.cut {w : Wo} {ds : List D} {vs : List V} (r : Rvs K mg w ds vs) (lo hi : Option Int) : Rvs K mg w (cutL ds lo hi) (cutV vs lo hi) := by
  unfold cutL cutV
  rw [r.len]
  exact (r.drop _).take _
theorem cutL_whole {α : Type} {xs : List α} {lo hi : Option Int} (h : HT.sIx xs.length 0 lo = 0 ∧ HT.sIx xs.length xs.length hi = xs.length) : cutL xs lo hi = xs := by
  unfold cutL
  rw [h.1, h.2, List.drop_zero, Nat.sub_zero, List.take_length]
def dSl : D → Option Int → Option Int → Sto → Res D
  | .tup xs, lo, hi, S => .ok (.tup (cutL xs lo hi)) S
  | .obj n, lo, hi, S => match lstOf S n with
    | some xs => mkLst (cutL xs lo hi) S
    | none => .bad
  | .str z, lo, hi, S => if z.length ≤ sizeLine then .ok (.str (cutS z lo hi)) S else .bad
  | .kl xs, lo, hi, S => mkLst (cutL xs lo hi) S
  | _, _, _, _ => .bad
abbrev DO := Env → Sto → Res (Option Int)
def eNo (_ : Env) (S : Sto) : Res (Option Int) := .ok none S
def eSo1 : D → Sto → Res (Option Int)
  | .int i, S1 => .ok (some i) S1
  | _, _ => .bad
def eSo (da : DE) (ρ : Env) (S : Sto) : Res (Option Int) := (da ρ S).bind eSo1
def Ro (_ : Wo) (a b : Option Int) : Prop := a = b
def LO (K : PySem.W.Frag) (mg : Str → Option Value) (W : WX) (de : DO) : TO := fun σ H Q => ∃ w : Wo, w.Ok K mg ∧ w.H = H ∧ ∃ ρ, Rσ K mg w ρ σ ∧ Fin K mg w Ro (de ρ w.S) Q (XW K mg W σ)
theorem _root_.L2.PO.imp {e : Option Expr} {t t' : TO} (h : PO X e t) (k : ∀ σ H Q, t' σ H Q → t σ H Q) : PO X e t' := ⟨fun pins s σ H Q I ht => h.run pins s σ H Q I (k _ _ _ ht)⟩
theorem lo_none : PO X none (LO X.K X.mg W eNo) := po_none.imp fun _ _ _ h => by
  obtain ⟨w, ok, rfl, ρ, rr, h⟩ := h
  exact Fin.now h ok rfl
theorem lo_some {e : Expr} {da : DE} (ha : PE X e (LE X.K X.mg W da)) : PO X (some e) (LO X.K X.mg W (eSo da)) := (po_some ha).imp fun _ _ _ h => by
  obtain ⟨w, ok, rfl, ρ, rr, h⟩ := h
  refine ⟨w, ok, rfl, ρ, rr, Fin.bind (R' := Ro) h fun w1 x v le1 ok1 r1 h1 => ?_⟩
  cases x with
  | int i => exact ⟨i, r1.int, Fin.now h1 ok1 rfl⟩
  | _ => exact h1.elim
def eSl2 (dh : DO) (ρ : Env) (x : D) (l : Option Int) (S2 : Sto) : Res D := (dh ρ S2).bind (dSl x l)
def eSl1 (dl dh : DO) (ρ : Env) (x : D) (S1 : Sto) : Res D := (dl ρ S1).bind (eSl2 dh ρ x)
def eSl (da : DE) (dl dh : DO) (ρ : Env) (S : Sto) : Res D := (da ρ S).bind (eSl1 dl dh ρ)
def rSlX (K : PySem.W.Frag) : V → Option Int → Option Int → Hp → VK → Prop := fun x lo hi H Q => rSlL K x lo hi H Q ∨ rSlA K x lo hi H Q ∨ (∃ z, x = .str z ∧ z.length ≤ sizeLine ∧ Q (.str (cutS z lo hi)) H)
theorem l_slice {e : Expr} {lo hi : Option Expr} {pos p2 : Pos} {da : DE} {dl dh : DO} (hs : SlR X (rSlX X.K)) (ha : PE X e (LE X.K X.mg W da)) (hl : PO X lo (LO X.K X.mg W dl)) (hh : PO X hi (LO X.K X.mg W dh)) : PE X (.Subscript e (.Slice lo hi none p2) pos) (LE X.K X.mg W (eSl da dl dh)) :=
  (pe_slice hs ha hl hh).imp fun _ _ _ h => by
    obtain ⟨w, ok, rfl, ρ, rr, h⟩ := h
    refine ⟨w, ok, rfl, ρ, rr, h.bind fun w1 x v le1 ok1 r1 h1 => ?_⟩
    have rr1 := rr.up ok le1
    refine ⟨w1, ok1, rfl, ρ, rr1, h1.bind fun w2 l l' le2 ok2 r2 h2 => ?_⟩
    have r2 : l = l' := r2
    subst r2
    have rr2 := rr1.up ok1 le2
    refine ⟨w2, ok2, rfl, ρ, rr2, h2.bind fun w3 u u' le3 ok3 r3 h3 => ?_⟩
    have r3 : u = u' := r3
    subst r3
    have r1 := (r1.up ok1 le2).up ok2 le3
    unfold dSl at h3
    split at h3
    · obtain ⟨p, vs, rfl, t, r⟩ := r1.tup
      refine .inr (.inl ⟨p, vs, rfl, t, fun hw => ?_, fun hw q hq => h3.newTup ok3 hq (r.cut _ _)⟩)
      rw [r.len] at hw
      rw [cutL_whole hw] at h3
      exact Fin.now h3 ok3 (mk_tup t r)
    · split at h3
      · rename_i xs e
        obtain ⟨_, rfl⟩ := r1.obj
        obtain ⟨vs, t, r⟩ := lst_at ok3 e
        exact .inl ⟨_, vs, rfl, t, fun q hq => h3.newLst ok3 hq (r.cut _ _)⟩
      · exact h3.elim
    · split at h3
      · rename_i hz
        rw [r1.str]
        exact .inr (.inr ⟨_, rfl, hz, Fin.now h3 ok3 mk_str⟩)
      · exact h3.elim
    · obtain ⟨p, vs, rfl, t, r⟩ := r1.kl
      exact .inl ⟨_, vs, rfl, t.L, fun q hq => h3.newLst ok3 hq (r.cut _ _)⟩
    · exact h3.elim
/-! ## calls of built-ins -/
def Opn (K : PySem.W.Frag) (mg : Str → Option Value) (r : List V → Hp → VK → Prop) (f : List D → Sto → Res D) : Prop := ∀ (w : Wo) (ds : List D) (vs : List V) (Q : VK) (E : Str → List (Str × D) → Wo → Prop), w.Ok K mg → Rvs K mg w ds vs → Fin K mg w (Rv K mg) (f ds w.S) Q E → r vs w.H Q
def eCall (f : DF) (da : DA) (ρ : Env) (S : Sto) : Res D := (da ρ S).bind f
theorem i_callB {r : List V → Hp → VK → Prop} {f : DF} {da : DA} (o : Opn K mg r f) {σ : St} {H : Hp} {Q : VK} (h : LE K mg W (eCall f da) σ H Q) : tCB r (LA K mg W da) σ H Q := by
  obtain ⟨w, ok, rfl, ρ, rr, h⟩ := h
  exact ⟨w, ok, rfl, ρ, rr, h.bind fun w1 x v le1 ok1 r1 h1 => o w1 x v Q _ ok1 r1 h1⟩
variable {e : Expr} {es : List Expr} {x : Str} {p pos : Pos} {id T : String} {r : List V → Hp → VK → Prop} {f : DF} {da : DA}
theorem l_callB (hc : CallR X (.builtin id) r) (o : Opn X.K X.mg r f) (hg : Gl X x) (hm : X.mg x = none) (hv : bootBuiltins x = some (.builtin id)) (ha : PA X (e :: es) (LA X.K X.mg W da)) (hn : x ≠ "__name__" := by decide) (hdb : (x == ("__debug__" : Str)) = false := by decide)
    (he : starEach (e :: es) X.env = (false, eval e X.env) :: starEach es X.env := by rfl) (hpl : (backTo pos (starEach es X.env)).any (·.1) = false := by rfl) : PE X (.Call (.Name x p) (e :: es) [] pos) (LE X.K X.mg W (eCall f da)) := (pe_callB hc hg hm hv ha hn hdb he hpl).imp fun _ _ _ => i_callB o
theorem l_callTy (hc : CallR X (.type T) r) (o : Opn X.K X.mg r f) (hg : Gl X x) (hm : X.mg x = none) (hv : bootBuiltins x = some (.type T)) (ha : PA X (e :: es) (LA X.K X.mg W da)) (hn : x ≠ "__name__" := by decide) (hdb : (x == ("__debug__" : Str)) = false := by decide)
    (he : starEach (e :: es) X.env = (false, eval e X.env) :: starEach es X.env := by rfl) (hpl : (backTo pos (starEach es X.env)).any (·.1) = false := by rfl) : PE X (.Call (.Name x p) (e :: es) [] pos) (LE X.K X.mg W (eCall f da)) := (pe_callTy hc hg hm hv ha hn hdb he hpl).imp fun _ _ _ => i_callB o
theorem Rvs.one {w : Wo} {d : D} {vs : List V} (h : Rvs K mg w [d] vs) : ∃ v, vs = [v] ∧ Rv K mg w d v := by
  rw [Rvs] at h
  obtain ⟨v, q, e, r1, r2⟩ := h
  rw [Rvs] at r2
  exact ⟨v, by rw [e, r2], r1⟩
theorem Rvs.two {w : Wo} {d d2 : D} {vs : List V} (h : Rvs K mg w [d, d2] vs) : ∃ v u, vs = [v, u] ∧ Rv K mg w d v ∧ Rv K mg w d2 u := by
  rw [Rvs] at h
  obtain ⟨v, q, e, r1, r2⟩ := h
  obtain ⟨u, e2, r3⟩ := r2.one
  exact ⟨v, u, by rw [e, e2], r1, r3⟩
def dLen : DF
  | [.tup xs], S => .ok (.int xs.length) S
  | [.str z], S => if z.length ≤ sizeLine then .ok (.int z.length) S else .bad
  | [.obj n], S => match S[n]? with
    | some (.lst xs) => .ok (.int xs.length) S
    | some (.dk xs) => .ok (.int xs.length) S
    | _ => .bad
  | _, _ => .bad
def rLenA (K : PySem.W.Frag) : List V → Hp → VK → Prop := fun xs H Q => (∃ p ys, xs = [.ref p] ∧ (SqL K H p ys ∨ SqT K H p ys) ∧ Q (.int ys.length) H) ∨ (∃ z, xs = [.str z] ∧ z.length ≤ sizeLine ∧ Q (.int z.length) H) ∨ (∃ a kvs, xs = [V.ref a] ∧ H a = some (.dK kvs) ∧ Q (.int kvs.length) H)
theorem call_lenA : CallR X (.builtin "len") (rLenA X.K) := call_len_seq.or (call_len_str.or call_lenD)
theorem Rkv.len {w : Wo} : ∀ {ps : List (Key × D)} {vs : List (Key × V)}, Rkv K mg w ps vs → vs.length = ps.length
  | [], vs, r => by
    have e : vs = [] := r
    rw [e]
    rfl
  | p :: ps, vs, r => by
    obtain ⟨v, q, e, _, r2⟩ := r
    rw [e, List.length_cons, List.length_cons, Rkv.len r2]
theorem o_len : Opn K mg (rLenA K) dLen := by
  intro w ds vs Q E ok r h
  unfold dLen at h
  split at h
  · obtain ⟨v, rfl, r1⟩ := r.one
    obtain ⟨p, us, rfl, t, r2⟩ := r1.tup
    refine .inl ⟨p, us, rfl, .inr t, ?_⟩
    rw [r2.len]
    exact Fin.now h ok mk_int
  · obtain ⟨v, rfl, r1⟩ := r.one
    split at h
    · rename_i hz
      rw [r1.str]
      exact .inr (.inl ⟨_, rfl, hz, Fin.now h ok mk_int⟩)
    · exact h.elim
  · obtain ⟨v, rfl, r1⟩ := r.one
    obtain ⟨_, rfl⟩ := r1.obj
    split at h
    · rename_i e
      obtain ⟨us, t, r2⟩ := lst_at ok (n := _) (by unfold lstOf; rw [e])
      refine .inl ⟨_, us, rfl, .inl t, ?_⟩
      rw [r2.len]
      exact Fin.now h ok mk_int
    · rename_i e
      obtain ⟨us, t, r2⟩ := ok.has _ _ e
      refine .inr (.inr ⟨_, us, rfl, t, ?_⟩)
      rw [r2.len]
      exact Fin.now h ok mk_int
    · exact h.elim
  · exact h.elim
def dInt : DF
  | [.int i], S => .ok (.int i) S
  | [.bl k], S => .ok (.int (if k then 1 else 0)) S
  | _, _ => .bad
theorem o_int : Opn K mg (fun xs H Q => (∃ i, xs = [.int i] ∧ Q (.int i) H) ∨ ∃ k, xs = [.bl k] ∧ Q (.int (if k then 1 else 0)) H) dInt := by
  intro w ds vs Q E ok r h
  unfold dInt at h
  split at h
  · obtain ⟨v, rfl, r1⟩ := r.one
    rw [r1.int]
    exact .inl ⟨_, rfl, Fin.now h ok mk_int⟩
  · obtain ⟨v, rfl, r1⟩ := r.one
    rw [r1.bl]
    exact .inr ⟨_, rfl, Fin.now h ok mk_int⟩
  · exact h.elim
def dAbs : DF
  | [.int i], S => .ok (.int (if i < 0 then -i else i)) S
  | _, _ => .bad
theorem o_abs : Opn K mg (fun xs H Q => ∃ i, xs = [.int i] ∧ Q (.int (if i < 0 then -i else i)) H) dAbs := by
  intro w ds vs Q E ok r h
  unfold dAbs at h
  split at h
  · obtain ⟨v, rfl, r1⟩ := r.one
    rw [r1.int]
    exact ⟨_, rfl, Fin.now h ok mk_int⟩
  · exact h.elim
def dMax2 : DF
  | [.int i, .int j], S => .ok (.int (if j > i then j else i)) S
  | _, _ => .bad
theorem o_max2 : Opn K mg (fun xs H Q => ∃ i j, xs = [.int i, .int j] ∧ Q (.int (if j > i then j else i)) H) dMax2 := by
  intro w ds vs Q E ok r h
  unfold dMax2 at h
  split at h
  · obtain ⟨v, u, rfl, r1, r2⟩ := r.two
    rw [r1.int, r2.int]
    exact ⟨_, _, rfl, Fin.now h ok mk_int⟩
  · exact h.elim
def dMin2 : DF
  | [.int i, .int j], S => .ok (.int (if j < i then j else i)) S
  | _, _ => .bad
theorem o_min2 : Opn K mg (fun xs H Q => ∃ i j, xs = [.int i, .int j] ∧ Q (.int (if j < i then j else i)) H) dMin2 := by
  intro w ds vs Q E ok r h
  unfold dMin2 at h
  split at h
  · obtain ⟨v, u, rfl, r1, r2⟩ := r.two
    rw [r1.int, r2.int]
    exact ⟨_, _, rfl, Fin.now h ok mk_int⟩
  · exact h.elim
def dStr : DF
  | [.int i], S => if i.natAbs.log2 < 1920 then .ok (.str (toString i)) S else .bad
  | _, _ => .bad
theorem o_str : Opn K mg (fun xs H Q => ∃ i, xs = [.int i] ∧ i.natAbs.log2 < 1920 ∧ Q (.str (toString i)) H) dStr := by
  intro w ds vs Q E ok r h
  unfold dStr at h
  split at h
  · obtain ⟨v, rfl, r1⟩ := r.one
    split at h
    · rename_i hz
      rw [r1.int]
      exact ⟨_, rfl, hz, Fin.now h ok mk_str⟩
    · exact h.elim
  · exact h.elim
def seqOf (d : D) (S : Sto) : Option (List D) := match d with
  | .tup xs => some xs
  | .obj n => lstOf S n
  | .kl xs => some xs
  | _ => none
theorem seq_at {w : Wo} (ok : w.Ok K mg) {d : D} {v : V} {xs : List D} (r : Rv K mg w d v) (h : seqOf d w.S = some xs) : ∃ p vs, v = .ref p ∧ (SqL K w.H p vs ∨ SqT K w.H p vs) ∧ Rvs K mg w xs vs := by
  unfold seqOf at h
  split at h
  · obtain ⟨p, vs, e, t, r2⟩ := r.tup
    rw [← Option.some.inj h]
    exact ⟨p, vs, e, .inr t, r2⟩
  · obtain ⟨_, e⟩ := r.obj
    obtain ⟨vs, t, r2⟩ := lst_at ok h
    exact ⟨_, vs, e, .inl t, r2⟩
  · obtain ⟨p, vs, e, t, r2⟩ := r.kl
    rw [← Option.some.inj h]
    exact ⟨p, vs, e, .inl t.L, r2⟩
  · cases h
def dList : DF
  | [d], S => match seqOf d S with
    | some xs => mkLst xs S
    | none => .bad
  | _, _ => .bad
theorem o_list : Opn K mg (fun xs H Q => ∃ p ys, xs = [.ref p] ∧ (SqL K H p ys ∨ SqT K H p ys) ∧ ∀ l, H l = none → Q (.ref l) (upd H l (.lst ys))) dList := by
  intro w ds vs Q E ok r h
  unfold dList at h
  split at h
  · obtain ⟨v, rfl, r1⟩ := r.one
    split at h
    · rename_i e
      obtain ⟨p, us, rfl, t, r2⟩ := seq_at ok r1 e
      exact ⟨p, us, rfl, t, fun l hl => h.newLst ok hl r2⟩
    · exact h.elim
  · exact h.elim
def dTuple : DF
  | [.tup xs], S => .ok (.tup xs) S
  | [.obj n], S => match lstOf S n with
    | some xs => .ok (.tup xs) S
    | none => .bad
  | _, _ => .bad
theorem o_tuple : Opn K mg (fun xs H Q => ∃ p ys, xs = [.ref p] ∧ ((SqL K H p ys ∧ ∀ l, H l = none → Q (.ref l) (upd H l (.tup ys))) ∨ (SqT K H p ys ∧ Q (.ref p) H))) dTuple := by
  intro w ds vs Q E ok r h
  unfold dTuple at h
  split at h
  · obtain ⟨v, rfl, r1⟩ := r.one
    obtain ⟨p, us, rfl, t, r2⟩ := r1.tup
    exact ⟨p, us, rfl, .inr ⟨t, Fin.now h ok (mk_tup t r2)⟩⟩
  · obtain ⟨v, rfl, r1⟩ := r.one
    obtain ⟨_, rfl⟩ := r1.obj
    split at h
    · rename_i e
      obtain ⟨us, t, r2⟩ := lst_at ok e
      exact ⟨_, us, rfl, .inl ⟨t, fun l hl => h.newTup ok hl r2⟩⟩
    · exact h.elim
  · exact h.elim
/-! ## isinstance -/
theorem SqL.ty {H : Hp} {a : Addr} {xs : List V} (h : SqL K H a xs) : TyX K H (.ref a) (.type "list") := by
  rcases h with (h | ⟨o, h⟩) | ⟨o, its, n, h, hc, _⟩
  · exact .base (.lst h)
  · exact .base (.frz h)
  · exact .kList h hc
theorem SqT.ty {H : Hp} {a : Addr} {xs : List V} (h : SqT K H a xs) : TyX K H (.ref a) (.type "tuple") := by
  rcases h with (h | ⟨o, h⟩) | ⟨o, its, n, h, hc, _⟩
  · exact .base (.tup h)
  · exact .fTuple h
  · exact .kTuple h hc
def tyOf : D → Sto → Option String
  | .non, _ => some "NoneType"
  | .bl _, _ => some "bool"
  | .int _, _ => some "int"
  | .str _, _ => some "str"
  | .tup _, _ => some "tuple"
  | .obj n, S => match lstOf S n with
    | some _ => some "list"
    | none => none
  | _, _ => none
theorem ty_at {w : Wo} (ok : w.Ok K mg) {d : D} {v : V} {t : String} (r : Rv K mg w d v) (h : tyOf d w.S = some t) : TyX K w.H v (.type t) := by
  unfold tyOf at h
  split at h
  · rw [r.non, ← Option.some.inj h]; exact .base .non
  · rw [r.bl, ← Option.some.inj h]; exact .base (.bl _)
  · rw [r.int, ← Option.some.inj h]; exact .base (.int _)
  · rw [r.str, ← Option.some.inj h]; exact .base (.str _)
  · obtain ⟨p, vs, e, t, _⟩ := r.tup
    rw [e, ← Option.some.inj h]
    exact SqT.ty t
  · obtain ⟨_, e⟩ := r.obj
    split at h
    · rename_i e2
      obtain ⟨vs, t, _⟩ := lst_at ok e2
      rw [e, ← Option.some.inj h]
      exact SqL.ty t
    · cases h
  · cases h
def dIsi : DF
  | [d, .ty T], S => match (tyOf d S).bind fun t => kitB t T with
    | some b => .ok (.bl b) S
    | none => .bad
  | _, _ => .bad
theorem o_isi : Opn K mg (rIsi K) dIsi := by
  intro w ds vs Q E ok r h
  unfold dIsi at h
  split at h
  · obtain ⟨v, u, rfl, r1, r2⟩ := r.two
    split at h
    · rename_i b e
      obtain ⟨t, e1, e2⟩ := Option.bind_eq_some_iff.mp e
      rw [r2.ty]
      exact ⟨v, _, _, _, b, rfl, .ty _, ty_at ok r1 e1, kit_ty e2, Fin.now h ok mk_bl⟩
    · exact h.elim
  · exact h.elim
/-! ## sums, least, greatest of a list of ints -/
def asInts : List D → Option (List Int)
  | [] => some []
  | .int i :: ds => (asInts ds).map fun r => i :: r
  | _ => none
theorem Rvs.ints {w : Wo} : ∀ {ds : List D} {vs : List V} {ns : List Int}, Rvs K mg w ds vs → O.asInts ds = some ns → vs = ns.map V.int
  | [], vs, ns, r, e => by
    rw [Rvs] at r
    rw [r, ← Option.some.inj e]
    rfl
  | .int i :: ds, vs, ns, r, e => by
    rw [Rvs] at r
    obtain ⟨v, q, e1, r1, r2⟩ := r
    obtain ⟨ms, e2, e3⟩ := Option.map_eq_some_iff.mp e
    rw [e1, r1.int, Rvs.ints r2 e2, ← e3]
    rfl
  | .non :: ds, vs, ns, r, e => by cases e
  | .bl _ :: ds, vs, ns, r, e => by cases e
  | .str _ :: ds, vs, ns, r, e => by cases e
  | .tup _ :: ds, vs, ns, r, e => by cases e
  | .obj _ :: ds, vs, ns, r, e => by cases e
  | .fn _ :: ds, vs, ns, r, e => by cases e
  | .ty _ :: ds, vs, ns, r, e => by cases e
  | .raw _ :: ds, vs, ns, r, e => by cases e
  | .kl _ :: ds, vs, ns, r, e => by cases e
def intsOf (d : D) (S : Sto) : Option (List Int) := match d with
  | .obj n => (lstOf S n).bind asInts
  | .tup xs => asInts xs
  | _ => none
theorem ints_at {w : Wo} (ok : w.Ok K mg) {d : D} {v : V} {ns : List Int} (r : Rv K mg w d v) (h : intsOf d w.S = some ns) : ∃ p, v = .ref p ∧ (SqL K w.H p (ns.map V.int) ∨ SqT K w.H p (ns.map V.int)) := by
  unfold intsOf at h
  split at h
  · obtain ⟨_, e⟩ := r.obj
    obtain ⟨xs, e1, e2⟩ := Option.bind_eq_some_iff.mp h
    obtain ⟨vs, t, r2⟩ := lst_at ok e1
    rw [r2.ints e2] at t
    exact ⟨_, e, .inl t⟩
  · obtain ⟨a, vs, e, t, r2⟩ := r.tup
    rw [r2.ints h] at t
    exact ⟨_, e, .inr t⟩
  · cases h
def dSum : DF
  | [d], S => match intsOf d S with
    | some ns => .ok (.int ns.sum) S
    | none => .bad
  | _, _ => .bad
theorem o_sum : Opn K mg (fun vs H Q => rSum K vs H Q ∨ rSumT K vs H Q) dSum := by
  intro w ds vs Q E ok r h
  unfold dSum at h
  split at h
  · obtain ⟨v, rfl, r1⟩ := r.one
    split at h
    · rename_i e
      obtain ⟨p, rfl, t⟩ := ints_at ok r1 e
      rcases t with t | t
      · exact .inl ⟨p, _, rfl, t, Fin.now h ok mk_int⟩
      · exact .inr ⟨p, _, rfl, t, Fin.now h ok mk_int⟩
    · exact h.elim
  · exact h.elim
def greatest : List Int → Int
  | [] => 0
  | [i] => i
  | i :: r => max i (greatest r)
def least : List Int → Int
  | [] => 0
  | [i] => i
  | i :: r => min i (least r)
theorem greatest_is : ∀ (ns : List Int) (m : Int), m ∈ ns → (∀ y ∈ ns, y ≤ m) → m = greatest ns
  | [], m, h, _ => by cases h
  | [i], m, h, _ => List.mem_singleton.mp h
  | i :: j :: r, m, h, k => by
    show m = max i (greatest (j :: r))
    have all : ∀ (ns : List Int), ns ≠ [] → greatest ns ∈ ns ∧ ∀ y ∈ ns, y ≤ greatest ns := by
      intro ns
      induction ns with
      | nil => intro h; exact absurd rfl h
      | cons a l ih =>
        intro _
        cases l with
        | nil => exact ⟨List.mem_singleton.mpr rfl, fun y hy => by rw [List.mem_singleton.mp hy]; exact Int.le_refl _⟩
        | cons b l =>
          obtain ⟨h1, h2⟩ := ih (by intro z; cases z)
          have e : greatest (a :: b :: l) = max a (greatest (b :: l)) := rfl
          rw [e]
          refine ⟨?_, fun y hy => ?_⟩
          · by_cases hab : a ≤ greatest (b :: l)
            · rw [Int.max_eq_right hab]; exact List.mem_cons_of_mem _ h1
            · rw [Int.max_eq_left (by omega)]; exact List.mem_cons_self
          · rcases List.mem_cons.mp hy with e | e
            · rw [e]; exact Int.le_max_left _ _
            · exact Int.le_trans (h2 y e) (Int.le_max_right _ _)
    obtain ⟨a1, a2⟩ := all (i :: j :: r) (by intro z; cases z)
    have x1 := k _ a1
    have x2 := a2 m h
    have e : greatest (i :: j :: r) = max i (greatest (j :: r)) := rfl
    rw [← e]
    omega
theorem least_is : ∀ (ns : List Int) (m : Int), m ∈ ns → (∀ y ∈ ns, m ≤ y) → m = least ns
  | [], m, h, _ => by cases h
  | [i], m, h, _ => List.mem_singleton.mp h
  | i :: j :: r, m, h, k => by
    show m = min i (least (j :: r))
    have all : ∀ (ns : List Int), ns ≠ [] → least ns ∈ ns ∧ ∀ y ∈ ns, least ns ≤ y := by
      intro ns
      induction ns with
      | nil => intro h; exact absurd rfl h
      | cons a l ih =>
        intro _
        cases l with
        | nil => exact ⟨List.mem_singleton.mpr rfl, fun y hy => by rw [List.mem_singleton.mp hy]; exact Int.le_refl _⟩
        | cons b l =>
          obtain ⟨h1, h2⟩ := ih (by intro z; cases z)
          have e : least (a :: b :: l) = min a (least (b :: l)) := rfl
          rw [e]
          refine ⟨?_, fun y hy => ?_⟩
          · by_cases hab : a ≤ least (b :: l)
            · rw [Int.min_eq_left hab]; exact List.mem_cons_self
            · rw [Int.min_eq_right (by omega)]; exact List.mem_cons_of_mem _ h1
          · rcases List.mem_cons.mp hy with e | e
            · rw [e]; exact Int.min_le_left _ _
            · exact Int.le_trans (Int.min_le_right _ _) (h2 y e)
    obtain ⟨a1, a2⟩ := all (i :: j :: r) (by intro z; cases z)
    have x1 := k _ a1
    have x2 := a2 m h
    have e : least (i :: j :: r) = min i (least (j :: r)) := rfl
    rw [← e]
    omega
def dMaxL : DF
  | [d], S => match intsOf d S with
    | some ns => if 0 < ns.length then .ok (.int (greatest ns)) S else .bad
    | none => .bad
  | _, _ => .bad
theorem o_maxL : Opn K mg (fun vs H Q => rMax K vs H Q ∨ rMaxT K vs H Q) dMaxL := by
  intro w ds vs Q E ok r h
  unfold dMaxL at h
  split at h
  · obtain ⟨v, rfl, r1⟩ := r.one
    split at h
    · rename_i e
      split at h
      · rename_i hl
        obtain ⟨p, rfl, t⟩ := ints_at ok r1 e
        rcases t with t | t
        · refine .inl ⟨p, _, rfl, t, hl, fun m h1 h2 => ?_⟩
          rw [greatest_is _ m h1 h2]
          exact Fin.now h ok mk_int
        · refine .inr ⟨p, _, rfl, t, hl, fun m h1 h2 => ?_⟩
          rw [greatest_is _ m h1 h2]
          exact Fin.now h ok mk_int
      · exact h.elim
    · exact h.elim
  · exact h.elim
def dMinL : DF
  | [d], S => match intsOf d S with
    | some ns => if 0 < ns.length then .ok (.int (least ns)) S else .bad
    | none => .bad
  | _, _ => .bad
theorem o_minL : Opn K mg (fun vs H Q => rMin K vs H Q ∨ rMinT K vs H Q) dMinL := by
  intro w ds vs Q E ok r h
  unfold dMinL at h
  split at h
  · obtain ⟨v, rfl, r1⟩ := r.one
    split at h
    · rename_i e
      split at h
      · rename_i hl
        obtain ⟨p, rfl, t⟩ := ints_at ok r1 e
        rcases t with t | t
        · refine .inl ⟨p, _, rfl, t, hl, fun m h1 h2 => ?_⟩
          rw [least_is _ m h1 h2]
          exact Fin.now h ok mk_int
        · refine .inr ⟨p, _, rfl, t, hl, fun m h1 h2 => ?_⟩
          rw [least_is _ m h1 h2]
          exact Fin.now h ok mk_int
      · exact h.elim
    · exact h.elim
  · exact h.elim
end

section
variable {K : PySem.W.Frag} {mg : Str → Option Value} {X : Cx} {W : WX} {pos : Pos} {a b c e : Expr} {es : List Expr}
/-! ## defs -/
def endR : RS → Res D
  | .nx _ S' => .ok .non S'
  | .rt d S' => .ok d S'
  | .exc c fs _ S' => .exc c fs S'
  | .bk _ _ => .bad
  | .ct _ _ => .bad
  | .bad => .bad
def runD (n m : Nat) (body : DS) : DF := fun args S => if args.length = n then endR (body (args.map some ++ List.replicate (m - n) none) S) else .bad
def Ar (n : Nat) (f : DF) : Prop := ∀ ds S, ds.length ≠ n → f ds S = .bad
theorem runD_ar (n m : Nat) (body : DS) : Ar n (runD n m body) := fun ds S h => if_neg h
def badF : DF := fun _ _ => .bad
theorem badF_ar (n : Nat) : Ar n badF := fun _ _ _ => rfl
def EW (K : PySem.W.Frag) (mg : Str → Option Value) (E : XK) : Str → List (Str × D) → Wo → Prop := fun c fs w => ∀ C d, mg c = some (.ref C) → Rxd K mg w fs d → E (.ref C) d w.H
/-- a def does what f says -/
def spD (K : PySem.W.Frag) (mg : Str → Option Value) (f : DF) : Sp := fun vs H Q E => ∃ (w : Wo) (ds : List D), w.Ok K mg ∧ w.H = H ∧ Rvs K mg w ds vs ∧ Fin K mg w (Rv K mg) (f ds w.S) Q (EW K mg E)
theorem i_call {f : DF} {da : DA} {σ : St} {H : Hp} {Q : VK} (h : LE K mg W (eCall f da) σ H Q) : tCallS (spD K mg f) (WE W) (LA K mg W da) σ H Q := by
  obtain ⟨w, ok, rfl, ρ, rr, h⟩ := h
  exact ⟨w, ok, rfl, ρ, rr, h.bind fun w1 x v le1 ok1 r1 h1 => ⟨w1, x, ok1, rfl, r1, h1⟩⟩
theorem l_call {k : Nat} {f : Addr} {fd : FuncData} {ps : List Str} {x : Str} {p : Pos} {fh : DF} {da : DA} (F : FnOk X.prog X.w X.K X.mg X.base (L2.CX X.prog X.w) k f fd ps (spD X.K X.mg fh)) (hr : Room k X.A) (hg : Gl X x) (hm : X.mg x = some (.ref f)) (hk : PySem.W.keepIn X.K (.ref f) = true) (hb : Binds X.K fd ps []) (tk : Takes X W)
    (ha : PA X (e :: es) (LA X.K X.mg W da)) (hdb : (x == ("__debug__" : Str)) = false := by decide) (he : starEach (e :: es) X.env = (false, eval e X.env) :: starEach es X.env := by rfl) (hpl : (backTo pos (starEach es X.env)).any (·.1) = false := by rfl) :
    PE X (.Call (.Name x p) (e :: es) [] pos) (LE X.K X.mg W (eCall fh da)) :=
  (pe_callS F hr hg hm hk hb (fun σ => passAt tk σ) ha hdb he hpl).imp fun _ _ _ => i_call
section
variable {P : Program} {wd : World} {base : Heap}
theorem d_ok {x qual : Str} {st : Stmt} {f : Addr} {fd : FuncData} {N ps : List Str} {k : Nat} {ds : DS} (F : Fun K x qual st f fd) (S : FnScope N ps (defScope st))
    (h : ∀ (cdv : Value) (A : Around) (outer : List PySem.Env) (s : Shared) (H : Hp) (E : XK), Room k (A.deeper (PyProof.Rows.envOfC qual (defScope st) s.heap.objs.size f cdv)) →
      Takes (cxOf (L2.CX P wd) P wd K mg base N qual (defScope st) f cdv A outer s H E) (fun cls d _ H => E cls d H) →
      PassesOwn (model P wd) (cxOf (L2.CX P wd) P wd K mg base N qual (defScope st) f cdv A outer s H E).A (cxOf (L2.CX P wd) P wd K mg base N qual (defScope st) f cdv A outer s H E).env (cxOf (L2.CX P wd) P wd K mg base N qual (defScope st) f cdv A outer s H E).xe →
      PSs (cxOf (L2.CX P wd) P wd K mg base N qual (defScope st) f cdv A outer s H E) (defBody st) (LS K mg (fun cls d _ H => E cls d H) ds)) :
    FnOk P wd K mg base (L2.CX P wd) (k + 1) f fd ps (spD K mg (runD ps.length N.length ds)) := by
  refine F.okX S (fun vs H Q E hs => ?_) (fun cdv A outer s H vs Q E hr hs => ⟨_, h cdv A outer s H E hr (takes_of rfl rfl rfl rfl) (passes_of (X := cxOf (L2.CX P wd) P wd K mg base N qual (defScope st) f cdv A outer s H E) rfl), ?_⟩)
  · obtain ⟨w, args, ok, e, r, hf⟩ := hs
    rw [r.len]
    by_cases hl : args.length = ps.length
    · exact hl
    · rw [runD_ar _ _ _ _ _ hl] at hf
      exact hf.elim
  · obtain ⟨w, args, ok, e, r, hf⟩ := hs
    subst e
    by_cases hl : args.length = ps.length
    · have r0 : ∀ (n : Nat), Rσ K mg w (List.replicate n none) (List.replicate n none) := fun n => by
        induction n with
        | zero => exact rfl
        | succ n ih => exact ⟨none, _, rfl, trivial, ih⟩
      have r1 : ∀ (ds : List D) (vs : List V) (n : Nat), Rvs K mg w ds vs → Rσ K mg w (ds.map some ++ List.replicate n none) (vs.map some ++ List.replicate n none) := fun ds => by
        induction ds with
        | nil =>
          intro vs n r
          rw [Rvs] at r
          rw [r]
          exact r0 n
        | cons d ds ih =>
          intro vs n r
          rw [Rvs] at r
          obtain ⟨v, q, e, r2, r3⟩ := r
          rw [e]
          exact ⟨some v, _, rfl, ⟨v, rfl, r2⟩, ih q n r3⟩
      refine ⟨w, ok, rfl, args.map some ++ List.replicate (N.length - ps.length) none, ?_, ?_⟩
      · unfold L2.start
        rw [r.len, hl]
        exact r1 args vs _ r
      · unfold runD at hf
        rw [if_pos hl] at hf
        cases e : ds (args.map some ++ List.replicate (N.length - ps.length) none) w.S with
        | nx ρ S =>
          rw [e] at hf
          exact fun w' σ le ok' es _ => hf w' .non le ok' es mk_non
        | rt d S =>
          rw [e] at hf
          exact fun w' v le ok' es r' => hf w' v le ok' es r'
        | exc c fs ρ S =>
          rw [e] at hf
          exact fun w' σ le ok' es _ => hf w' le ok' es
        | bk ρ S =>
          rw [e] at hf
          exact hf.elim
        | ct ρ S =>
          rw [e] at hf
          exact hf.elim
        | bad =>
          rw [e] at hf
          exact hf.elim
    · rw [runD_ar _ _ _ _ _ hl] at hf
      exact hf.elim
theorem bad_ok {f : Addr} {fd : FuncData} {ps : List Str} {k : Nat} : FnOk P wd K mg base (L2.CX P wd) k f fd ps (spD K mg badF) := by
  refine ⟨fun vs H Q E h => ?_, fun A outer s H args us vs Q E hr he hb hv h => ?_⟩
  · obtain ⟨_, _, _, _, _, h⟩ := h
    exact h.elim
  · obtain ⟨_, _, _, _, _, h⟩ := h
    exact h.elim
end
/-! ## statements -/
def seqR (t : DS) : RS → RS
  | .nx ρ' S' => t ρ' S'
  | .rt d S' => .rt d S'
  | .bk ρ' S' => .bk ρ' S'
  | .ct ρ' S' => .ct ρ' S'
  | .exc c fs ρ' S' => .exc c fs ρ' S'
  | .bad => .bad
def dSeq (s t : DS) (ρ : Env) (S : Sto) : RS := seqR t (s ρ S)
def dNext (ρ : Env) (S : Sto) : RS := .nx ρ S
def bindR (k : D → Env → Sto → RS) (ρ : Env) : Res D → RS
  | .ok d S' => k d ρ S'
  | .exc c fs S' => .exc c fs ρ S'
  | .bad => .bad
def dBind (de : DE) (k : D → Env → Sto → RS) (ρ : Env) (S : Sto) : RS := bindR k ρ (de ρ S)
def setK (i : Nat) (d : D) (ρ : Env) (S : Sto) : RS := .nx (ρ.set i (some d)) S
def exprK (_ : D) (ρ : Env) (S : Sto) : RS := .nx ρ S
def retK (d : D) (_ : Env) (S : Sto) : RS := .rt d S
def dSet (i : Nat) (de : DE) (ρ : Env) (S : Sto) : RS := dBind de (setK i) ρ S
def dExpr (de : DE) (ρ : Env) (S : Sto) : RS := dBind de exprK ρ S
def dRet (de : DE) (ρ : Env) (S : Sto) : RS := dBind de retK ρ S
def dRetN (_ : Env) (S : Sto) : RS := .rt .non S
def ifR (s u : DS) (ρ : Env) : Res Bool → RS
  | .ok true S' => s ρ S'
  | .ok false S' => u ρ S'
  | .exc c fs S' => .exc c fs ρ S'
  | .bad => .bad
def dIfS (t : DT) (s u : DS) (ρ : Env) (S : Sto) : RS := ifR s u ρ (t ρ S)
def dBreak (ρ : Env) (S : Sto) : RS := .bk ρ S
def dCont (ρ : Env) (S : Sto) : RS := .ct ρ S
theorem i_seq {s t : DS} {D' : Ends} {σ : St} {H : Hp} (h : LS K mg W (dSeq s t) D' σ H) : tSeq (LS K mg W s) (LS K mg W t) D' σ H := by
  obtain ⟨w, ok, rfl, ρ, rr, h⟩ := h
  refine ⟨w, ok, rfl, ρ, rr, ?_⟩
  unfold dSeq at h
  cases e : s ρ w.S with
  | nx ρ' S' =>
    rw [e] at h
    exact fun w' σ' le ok' es r => ⟨w', ok', rfl, ρ', r, FinS.up ok' le (by rw [es]; exact h)⟩
  | rt d S =>
    rw [e] at h
    exact h
  | bk ρ S =>
    rw [e] at h
    exact h
  | ct ρ S =>
    rw [e] at h
    exact h
  | exc c fs ρ S =>
    rw [e] at h
    exact h
  | bad =>
    rw [e] at h
    exact h
theorem i_bind {de : DE} {k : D → Env → Sto → RS} {D' : Ends} {σ : St} {H : Hp} {P : VK} (h : LS K mg W (dBind de k) D' σ H)
    (hk : ∀ (w : Wo) (d : D) (v : V) (ρ : Env), w.Ok K mg → Rv K mg w d v → Rσ K mg w ρ σ → FinS K mg W w (k d ρ w.S) D' → P v w.H) : LE K mg W de σ H P := by
  obtain ⟨w, ok, rfl, ρ, rr, h⟩ := h
  refine ⟨w, ok, rfl, ρ, rr, ?_⟩
  unfold dBind at h
  cases e : de ρ w.S with
  | ok d S =>
    rw [e] at h
    exact fun w' v le ok' es r => hk w' d v ρ ok' r (rr.up ok le) (FinS.up ok' le (by rw [es]; exact h))
  | exc c fs S =>
    rw [e] at h
    exact fun w' le ok' es => h w' σ le ok' es (rr.up ok le)
  | bad =>
    rw [e] at h
    exact h
theorem FinS.now {w : Wo} {ρ : Env} {D' : Ends} {σ : St} (h : FinS K mg W w (.nx ρ w.S) D') (ok : w.Ok K mg) (r : Rσ K mg w ρ σ) : D'.nx σ w.H := h w σ (Wo.Le.refl w) ok rfl r
theorem i_next {D' : Ends} {σ : St} {H : Hp} (h : LS K mg W dNext D' σ H) : tNext D' σ H := by
  obtain ⟨w, ok, rfl, ρ, rr, h⟩ := h
  exact h.now ok rr
theorem i_set {i : Nat} {de : DE} {D' : Ends} {σ : St} {H : Hp} (h : LS K mg W (dSet i de) D' σ H) : tAsg (LE K mg W de) (gName i) D' σ H :=
  i_bind h fun w d v ρ ok r rr h => h.now ok (rr.set r i)
theorem i_expr {de : DE} {D' : Ends} {σ : St} {H : Hp} (h : LS K mg W (dExpr de) D' σ H) : tDrop (LE K mg W de) D' σ H := i_bind h fun w d v ρ ok r rr h => h.now ok rr
theorem i_ret {de : DE} {D' : Ends} {σ : St} {H : Hp} (h : LS K mg W (dRet de) D' σ H) : tRet (LE K mg W de) D' σ H := i_bind h fun w d v ρ ok r rr h => h w v (Wo.Le.refl w) ok rfl r
theorem i_retN {D' : Ends} {σ : St} {H : Hp} (h : LS K mg W dRetN D' σ H) : tRetN D' σ H := by
  obtain ⟨w, ok, rfl, ρ, rr, h⟩ := h
  exact h w .non (Wo.Le.refl w) ok rfl mk_non
theorem i_break {D' : Ends} {σ : St} {H : Hp} (h : LS K mg W dBreak D' σ H) : tBreak D' σ H := by
  obtain ⟨w, ok, rfl, ρ, rr, h⟩ := h
  exact h w σ (Wo.Le.refl w) ok rfl rr
theorem i_cont {D' : Ends} {σ : St} {H : Hp} (h : LS K mg W dCont D' σ H) : tCont D' σ H := by
  obtain ⟨w, ok, rfl, ρ, rr, h⟩ := h
  exact h w σ (Wo.Le.refl w) ok rfl rr
theorem i_ifS {t : DT} {s u : DS} {D' : Ends} {σ : St} {H : Hp} (h : LS K mg W (dIfS t s u) D' σ H) : tIfS (LT K mg W t) (LS K mg W s) (LS K mg W u) D' σ H := by
  obtain ⟨w, ok, rfl, ρ, rr, h⟩ := h
  refine ⟨w, ok, rfl, ρ, rr, ?_⟩
  unfold dIfS at h
  cases e : t ρ w.S with
  | ok d S =>
    rw [e] at h
    intro w' v le ok' es r
    have r : d = v := r
    subst r
    cases d with
    | true => exact iteT ⟨w', ok', rfl, ρ, rr.up ok le, FinS.up ok' le (by rw [es]; exact h)⟩
    | false => exact iteF ⟨w', ok', rfl, ρ, rr.up ok le, FinS.up ok' le (by rw [es]; exact h)⟩
  | exc c fs S =>
    rw [e] at h
    exact fun w' le ok' es => h w' σ le ok' es (rr.up ok le)
  | bad =>
    rw [e] at h
    exact h
variable {st : Stmt} {rest : List Stmt} {s1 t1 : DS}
theorem lss_nil : PSs X [] (LS X.K X.mg W dNext) := pss_nil.imp fun _ _ _ => i_next
theorem lss_cons (h1 : PS X st (LS X.K X.mg W s1)) (h2 : PSs X rest (LS X.K X.mg W t1)) : PSs X (st :: rest) (LS X.K X.mg W (dSeq s1 t1)) := (pss_cons h1 h2).imp fun _ _ _ => i_seq
theorem lss_one (h1 : PS X st (LS X.K X.mg W s1)) : PSs X [st] (LS X.K X.mg W s1) := pss_one h1
theorem ls_pass : PS X (.Pass pos) (LS X.K X.mg W dNext) := ps_pass.imp fun _ _ _ => i_next
theorem ls_break : PS X (.Break pos) (LS X.K X.mg W dBreak) := ps_break.imp fun _ _ _ => i_break
theorem ls_cont : PS X (.Continue pos) (LS X.K X.mg W dCont) := ps_continue.imp fun _ _ _ => i_cont
theorem ls_expr {de : DE} (he : PE X e (LE X.K X.mg W de)) (hs : swapsWith e none pos.line X.env = pure false := by rfl) : PS X (.Expr e pos) (LS X.K X.mg W (dExpr de)) := (ps_expr he hs).imp fun _ _ _ => i_expr
theorem ls_ret {de : DE} (he : PE X e (LE X.K X.mg W de)) : PS X (.Return (some e) pos) (LS X.K X.mg W (dRet de)) := (ps_ret he).imp fun _ _ _ => i_ret
theorem ls_retN : PS X (.Return none pos) (LS X.K X.mg W dRetN) := ps_retN.imp fun _ _ _ => i_retN
theorem ls_if {t : DT} {sa sb : List Stmt} {u : DS} (hc : PT X c (LT X.K X.mg W t)) (ha : PSs X sa (LS X.K X.mg W s1)) (hb : PSs X sb (LS X.K X.mg W u)) : PS X (.If c sa sb pos) (LS X.K X.mg W (dIfS t s1 u)) := (ps_if hc ha hb).imp fun _ _ _ => i_ifS
theorem ls_set {i : Nat} {x : Str} {de : DE} {pos' : Pos} (hN : X.N.Nodup) (hi : X.N[i]? = some x) (hx : Loc X.env.scope x) (he : PE X e (LE X.K X.mg W de)) (hs : swapsWith e (some (.Name x pos')) pos.line X.env = pure false := by rfl) (hf : X.fn x = true ∨ X.env.scope.names.lookup x = some .local := by first | exact .inl rfl | exact .inr rfl | assumption) :
    PS X (.Assign [.Name x pos'] e pos) (LS X.K X.mg W (dSet i de)) := (ps_set hN hi hx he hs hf).imp fun _ _ _ => i_set
/-! ## targets -/
abbrev DG := D → Env → Sto → Option Env
abbrev DGs := List D → Env → Sto → Option Env
/-- a target that sets names alone: vs are its slots -/
def GOk (K : PySem.W.Frag) (mg : Str → Option Value) (vs : List Nat) (dg : DG) (g : TG) : Prop := ∀ (w : Wo) (d : D) (v : V) (ρ ρ' : Env) (σ : St) (Q : St → Hp → Prop), w.Ok K mg → Rσ K mg w ρ σ → Rv K mg w d v → dg d ρ w.S = some ρ' →
  (∀ σ', Rσ K mg w ρ' σ' → (∀ ws : List Nat, (∀ i ∈ vs, i ∈ ws) → wipe σ' ws = wipe σ ws) → Q σ' w.H) → g v σ w.H Q
def GsOk (K : PySem.W.Frag) (mg : Str → Option Value) (vs : List Nat) (dg : DGs) (g : TGs) : Prop := ∀ (w : Wo) (d : List D) (v : List V) (ρ ρ' : Env) (σ : St) (Q : St → Hp → Prop), w.Ok K mg → Rσ K mg w ρ σ → Rvs K mg w d v → dg d ρ w.S = some ρ' →
  (∀ σ', Rσ K mg w ρ' σ' → (∀ ws : List Nat, (∀ i ∈ vs, i ∈ ws) → wipe σ' ws = wipe σ ws) → Q σ' w.H) → g v σ w.H Q
theorem wipe_set {σ : St} {i : Nat} {z : Option V} : ∀ {ws : List Nat}, i ∈ ws → wipe (σ.set i z) ws = wipe σ ws
  | [], h => by cases h
  | v :: ws, h => by
    show (wipe (σ.set i z) ws).set v none = (wipe σ ws).set v none
    by_cases hm : i ∈ ws
    · rw [wipe_set hm]
    · have e : v = i := by
        rcases List.mem_cons.mp h with e | e
        · exact e.symm
        · exact absurd e hm
      subst e
      have key : ∀ (τ : St) (us : List Nat), v ∉ us → wipe (τ.set v z) us = (wipe τ us).set v z := fun τ us => by
        induction us with
        | nil => intro _; rfl
        | cons u us ih =>
          intro hn
          show (wipe (τ.set v z) us).set u none = ((wipe τ us).set u none).set v z
          rw [ih fun m => hn (List.mem_cons_of_mem _ m), List.set_comm _ _ fun (q : v = u) => hn (by rw [q]; exact List.mem_cons_self)]
      rw [key σ ws hm, List.set_set]
def tgN (i : Nat) (d : D) (ρ : Env) (_ : Sto) : Option Env := some (ρ.set i (some d))
theorem g_name (i : Nat) : GOk K mg [i] (tgN i) (gName i) := by
  intro w d v ρ ρ' σ Q ok rr r e h
  have e : ρ.set i (some d) = ρ' := Option.some.inj e
  subst e
  exact h _ (rr.set r i) fun ws hw => wipe_set (hw i (List.mem_singleton.mpr rfl))
def tgNil : DGs
  | [], ρ, _ => some ρ
  | _ :: _, _, _ => none
def tgCons1 (gs : DGs) (r : List D) (S : Sto) (ρ1 : Env) : Option Env := gs r ρ1 S
def tgCons (g : DG) (gs : DGs) : DGs
  | [], _, _ => none
  | d :: r, ρ, S => (g d ρ S).bind (tgCons1 gs r S)
def tgT (n : Nat) (gs : DGs) : DG
  | .tup ds, ρ, S => if ds.length = n then gs ds ρ S else none
  | _, _, _ => none
theorem gs_nil : GsOk K mg [] tgNil gNil := by
  intro w d v ρ ρ' σ Q ok rr r e h
  cases d with
  | nil =>
    have e := Option.some.inj e
    subst e
    have l := r.len
    exact ⟨List.eq_nil_of_length_eq_zero l, h σ rr fun _ _ => rfl⟩
  | cons x y => cases e
theorem gs_cons {vs us : List Nat} {g : DG} {gs : DGs} {t : TG} {u : TGs} (h1 : GOk K mg vs g t) (h2 : GsOk K mg us gs u) : GsOk K mg (vs ++ us) (tgCons g gs) (gCons t u) := by
  intro w d v ρ ρ' σ Q ok rr r e h
  cases d with
  | nil => cases e
  | cons d ds =>
    obtain ⟨ρ1, e1, e2⟩ := Option.bind_eq_some_iff.mp e
    rw [Rvs] at r
    obtain ⟨x, q, e3, r1, r2⟩ := r
    refine ⟨x, q, e3, h1 w d x ρ ρ1 σ _ ok rr r1 e1 fun σ1 rr1 w1 => ?_⟩
    refine h2 w ds q ρ1 ρ' σ1 Q ok rr1 r2 e2 fun σ2 rr2 w2 => h σ2 rr2 fun ws hw => ?_
    rw [w2 ws fun i hi => hw i (List.mem_append_right _ hi), w1 ws fun i hi => hw i (List.mem_append_left _ hi)]
theorem g_tup {vs : List Nat} {n : Nat} {gs : DGs} {u : TGs} (h : GsOk K mg vs gs u) : GOk K mg vs (tgT n gs) (gTup K n u) := by
  intro w d v ρ ρ' σ Q ok rr r e k
  cases d with
  | tup ds =>
    unfold tgT at e
    dsimp only at e
    by_cases hl : ds.length = n
    · rw [if_pos hl] at e
      obtain ⟨p, xs, rfl, t, r2⟩ := r.tup
      exact ⟨p, xs, rfl, t, by rw [r2.len]; exact hl, h w _ xs ρ ρ' σ Q ok rr r2 e k⟩
    · rw [if_neg hl] at e
      cases e
  | _ => cases e
def asgR (S : Sto) : Option Env → RS
  | some ρ' => .nx ρ' S
  | none => .bad
def asgK (g : DG) (d : D) (ρ : Env) (S : Sto) : RS := asgR S (g d ρ S)
def dAsg (de : DE) (g : DG) (ρ : Env) (S : Sto) : RS := dBind de (asgK g) ρ S
theorem ls_asg {tg : Expr} {de : DE} {vs : List Nat} {dg : DG} {g : TG} (he : PE X e (LE X.K X.mg W de)) (hg : PG X tg g) (o : GOk X.K X.mg vs dg g) (hs : swapsWithSole [tg] e pos.line X.env = pure false := by rfl) (hw : swappedStores [tg] e X.env = pure none := by rfl)
    (h1 : (assignEach [tg] X.env).map (·.2) = [assign tg X.env] := by rfl) : PS X (.Assign [tg] e pos) (LS X.K X.mg W (dAsg de dg)) := (ps_asg he hg hs hw h1).imp fun D' σ H h => i_bind h fun w d v ρ1 ok r rr h => by
  unfold asgK at h
  cases e2 : dg d ρ1 w.S with
  | none =>
    rw [e2] at h
    exact h.elim
  | some ρ' =>
    rw [e2] at h
    exact o w d v ρ1 ρ' σ _ ok rr r e2 fun σ' r' _ => h.now ok r'
/-! ## a change of an object -/
def Wo.put (w : Wo) (n : Nat) (o : Ob) (u : HO) : Wo := ⟨w.m, w.S.set n o, upd w.H (w.m n) u⟩
theorem Wo.put_le {w : Wo} {n : Nat} {o : Ob} {u : HO} (hn : n < w.S.length) : w.Le (w.put n o u) := by
  refine ⟨by show _ ≤ (w.S.set n o).length; rw [List.length_set]; exact Nat.le_refl _, fun _ _ => rfl, fun a x e k => ?_, fun i h h' => ?_⟩
  · show upd w.H (w.m n) u a = some x
    rw [upd_ne fun z => k n hn z.symm]
    exact e
  · have h' : i < (w.S.set n o).length := h'
    rw [List.length_set] at h'
    exact absurd (Nat.lt_of_lt_of_le h' h) (Nat.lt_irrefl _)
theorem Wo.put_ok {w : Wo} (ok : w.Ok K mg) {n : Nat} {o : Ob} {u : HO} (hn : n < w.S.length) (ho : Rob K mg (w.put n o u) (w.m n) o) : (w.put n o u).Ok K mg := by
  have le := Wo.put_le (o := o) (u := u) hn
  refine ⟨fun i j hi hj e => ?_, fun i o' h => ?_⟩
  · have hi : i < (w.S.set n o).length := hi
    have hj : j < (w.S.set n o).length := hj
    rw [List.length_set] at hi hj
    exact ok.inj i j hi hj e
  · have h : (w.S.set n o)[i]? = some o' := h
    by_cases hi : n = i
    · subst hi
      rw [List.getElem?_set_self hn] at h
      have e := Option.some.inj h
      rw [← e]
      exact ho
    · rw [List.getElem?_set_ne hi] at h
      have hil := (List.getElem?_eq_some_iff.mp h).1
      refine (ok.has i o' h).up ok le fun x e => ?_
      show upd w.H (w.m n) u (w.m i) = some x
      rw [upd_ne fun z => hi (ok.inj i n hil hn z).symm]
      exact e
theorem Wo.putLst {w : Wo} (ok : w.Ok K mg) {n : Nat} {xs : List D} {vs : List V} (hn : n < w.S.length) (r : Rvs K mg w xs vs) : (w.put n (.lst xs) (.lst vs)).Ok K mg :=
  Wo.put_ok ok hn ⟨vs, upd_same, r.up ok (Wo.put_le hn)⟩
/-- o[i] = e of a list -/
def putJ (ρ : Env) (S3 : Sto) (n : Nat) (xs : List D) (x : D) : Option Nat → RS
  | some j => .nx ρ (S3.set n (.lst (xs.set j x)))
  | none => .bad
def putO (ρ : Env) (S3 : Sto) (n : Nat) (k : Int) (x : D) : Option Ob → RS
  | some (.lst xs) => putJ ρ S3 n xs x (ixN xs.length k)
  | _ => .bad
def putK3 (x : D) : D → D → Env → Sto → RS
  | .obj n, .int k, ρ, S3 => putO ρ S3 n k x S3[n]?
  | _, _, _, _ => .bad
def putK2 (di : DE) (x y : D) (ρ : Env) (S2 : Sto) : RS := bindR (putK3 x y) ρ (di ρ S2)
def putK1 (do_ di : DE) (x : D) (ρ : Env) (S1 : Sto) : RS := bindR (putK2 di x) ρ (do_ ρ S1)
def dPutL (de do_ di : DE) (ρ : Env) (S : Sto) : RS := bindR (putK1 do_ di) ρ (de ρ S)
theorem lt_of_get {α : Type} {l : List α} {n : Nat} {x : α} (h : l[n]? = some x) : n < l.length := (List.getElem?_eq_some_iff.mp h).1
theorem FinS.ofBind {w : Wo} {r : Res D} {k : D → Env → Sto → RS} {ρ : Env} {σ : St} {D' : Ends} {P : VK} (ok : w.Ok K mg) (rr : Rσ K mg w ρ σ) (h : FinS K mg W w (bindR k ρ r) D')
    (hk : ∀ (w' : Wo) (d : D) (v : V), w.Le w' → w'.Ok K mg → Rv K mg w' d v → Rσ K mg w' ρ σ → FinS K mg W w' (k d ρ w'.S) D' → P v w'.H) : Fin K mg w (Rv K mg) r P (XW K mg W σ) := by
  cases r with
  | ok d S => exact fun w' v le ok' es r => hk w' d v le ok' r (rr.up ok le) (FinS.up ok' le (by rw [es]; exact h))
  | exc c fs S => exact fun w' le ok' es => h w' σ le ok' es (rr.up ok le)
  | bad => exact h
theorem ls_putL {o i : Expr} {p2 : Pos} {de do_ di : DE} (he : PE X e (LE X.K X.mg W de)) (ho : PE X o (LE X.K X.mg W do_)) (hi : PE X i (LE X.K X.mg W di)) (hg : PG X (.Subscript o i p2) (gSub (LE X.K X.mg W do_) (LE X.K X.mg W di) rSetL))
    (hs : swapsWithSole [.Subscript o i p2] e pos.line X.env = pure false := by rfl) (hw : swappedStores [.Subscript o i p2] e X.env = pure none := by rfl) :
    PS X (.Assign [.Subscript o i p2] e pos) (LS X.K X.mg W (dPutL de do_ di)) := (ps_asg he hg hs hw).imp fun D' σ H h => by
  obtain ⟨w, ok, rfl, ρ, rr, h⟩ := h
  refine ⟨w, ok, rfl, ρ, rr, FinS.ofBind ok rr h fun w1 x v le1 ok1 r1 rr1 h1 => ?_⟩
  refine ⟨w1, ok1, rfl, ρ, rr1, FinS.ofBind ok1 rr1 h1 fun w2 y u le2 ok2 r2 rr2 h2 => ?_⟩
  refine ⟨w2, ok2, rfl, ρ, rr2, FinS.ofBind ok2 rr2 h2 fun w3 z t le3 ok3 r3 rr3 h3 => ?_⟩
  cases y with
  | obj n =>
    cases z with
    | int k =>
      have h3 : FinS X.K X.mg W w3 (putO ρ w3.S n k x w3.S[n]?) D' := h3
      cases e4 : w3.S[n]? with
      | none => rw [e4] at h3; exact h3.elim
      | some ob =>
        rw [e4] at h3
        cases ob with
        | lst xs =>
          have h3 : FinS X.K X.mg W w3 (putJ ρ w3.S n xs x (ixN xs.length k)) D' := h3
          cases e5 : ixN xs.length k with
          | none => rw [e5] at h3; exact h3.elim
          | some j =>
            rw [e5] at h3
            obtain ⟨vs, hv, rv⟩ := lst_mut ok3 e4
            have r2 := r2.up ok2 le3
            obtain ⟨hn, rfl⟩ := r2.obj
            have r1 := (r1.up ok1 le2).up ok2 le3
            refine ⟨_, vs, k, j, rfl, r3.int, hv, by rw [rv.len]; exact e5, ?_⟩
            have rs := rv.set r1 j
            exact h3 (w3.put n (.lst (xs.set j x)) (.lst (vs.set j v))) σ (Wo.put_le hn) (Wo.putLst ok3 hn rs) rfl (rr3.up ok3 (Wo.put_le hn))
        | _ => exact h3.elim
    | _ => exact h3.elim
  | _ => exact h3.elim
/-! ## x += e -/
def augR (i : Nat) (f : D → D → Sto → Res D) (de : DE) (ρ : Env) (S : Sto) : Option (Option D) → RS
  | some (some x) => bindR (setK i) ρ ((de ρ S).bind (f x))
  | _ => .bad
def dAug (i : Nat) (f : D → D → Sto → Res D) (de : DE) (ρ : Env) (S : Sto) : RS := augR i f de ρ S ρ[i]?
def OpIp (K : PySem.W.Frag) (mg : Str → Option Value) (t : TIp) (f : D → D → Sto → Res D) : Prop := ∀ (w : Wo) (a b : D) (v u : V) (Q : VK) (E : Str → List (Str × D) → Wo → Prop), w.Ok K mg → Rv K mg w a v → Rv K mg w b u → Fin K mg w (Rv K mg) (f a b w.S) Q E → t v u w.H Q
theorem ls_aug {i : Nat} {x : Str} {op : Operator} {ti : TIp} {f : D → D → Sto → Res D} {de : DE} {pos' : Pos} (hN : X.N.Nodup) (hi : X.N[i]? = some x) (hx : Loc X.env.scope x) (he : PE X e (LE X.K X.mg W de)) (ho : PIp X op ti) (o : OpIp X.K X.mg ti f) (hf : X.fn x = true ∨ X.env.scope.names.lookup x = some .local := by first | exact .inl rfl | exact .inr rfl | assumption) :
    PS X (.AugAssign (.Name x pos') op e pos) (LS X.K X.mg W (dAug i f de)) := (ps_aug hN hi hx he ho hf).imp fun D' σ H h => by
  obtain ⟨w, ok, rfl, ρ, rr, h⟩ := h
  unfold dAug at h
  cases e1 : ρ[i]? with
  | none => rw [e1] at h; exact h.elim
  | some z =>
    rw [e1] at h
    cases z with
    | none => exact h.elim
    | some d =>
      obtain ⟨v, e2, rv⟩ := rr.get e1
      refine ⟨v, e2, w, ok, rfl, ρ, rr, ?_⟩
      have h2 : Fin X.K X.mg w (Rv X.K X.mg) ((de ρ w.S).bind (f d)) (fun z H2 => D'.nx (σ.set i (some z)) H2) (XW X.K X.mg W σ) :=
        FinS.ofBind ok rr h fun w1 x u le1 ok1 r1 rr1 h1 => h1.now ok1 (rr1.set r1 i)
      exact h2.bind fun w1 y u le1 ok1 r1 h1 => o w1 d y v u _ _ ok1 (rv.up ok le1) r1 h1
def dIpI (g : Int → Int → Int) : D → D → Sto → Res D
  | .int i, .int j, S => .ok (.int (g i j)) S
  | _, _, _ => .bad
theorem oi_int (g : Int → Int → Int) : OpIp K mg (ipI g) (dIpI g) := by
  intro w a b v u Q E ok ra rb h
  unfold dIpI at h
  split at h
  · rw [ra.int, rb.int]
    exact ⟨_, _, rfl, rfl, Fin.now h ok mk_int⟩
  · exact h.elim
end

section
variable {K : PySem.W.Frag} {mg : Str → Option Value} {X : Cx} {W : WX} {pos : Pos} {a b c e : Expr} {es : List Expr}
/-! ## what is walked -/
abbrev Walked := List D × (Sto → Prop)
abbrev DI := Env → Sto → Res Walked
structure RI (K : PySem.W.Frag) (mg : Str → Option Value) (w : Wo) (p : Walked) (J : It) : Prop where
  now : p.2 w.S
  step : ∀ (w' : Wo) (i : Nat) (d : D), w.Le w' → w'.Ok K mg → p.2 w'.S → p.1[i]? = some d → J.go i w'.H ∧ ∀ x H', J.yld i w'.H x H' → ∃ w3 : Wo, w'.Le w3 ∧ w3.Ok K mg ∧ w3.S = w'.S ∧ w3.H = H' ∧ Rv K mg w3 d x
  stop : ∀ w' : Wo, w.Le w' → w'.Ok K mg → p.2 w'.S → J.stop p.1.length w'.H
/-- a thing is walked as di says -/
def IOk (K : PySem.W.Frag) (mg : Str → Option Value) (W : WX) (di : DI) (wi : TI) : Prop := ∀ (w : Wo) (ρ : Env) (σ : St) (R : It → Hp → Prop), w.Ok K mg → Rσ K mg w ρ σ → Fin K mg w (RI K mg) (di ρ w.S) R (XW K mg W σ) → wi σ w.H R
def sameL (n : Nat) (xs : List D) : Sto → Prop := fun S => lstOf S n = some xs
/-- a list, a tuple -/
def toWalk : D → Sto → Res Walked
  | .obj n, S => match lstOf S n with
    | some xs => .ok (xs, sameL n xs) S
    | none => .bad
  | .kl xs, S => .ok (xs, fun _ => True) S
  | _, _ => .bad
def toWalkT : D → Sto → Res Walked
  | .tup xs, S => .ok (xs, fun _ => True) S
  | _, _ => .bad
def wL (de : DE) (ρ : Env) (S : Sto) : Res Walked := (de ρ S).bind toWalk
def wT (de : DE) (ρ : Env) (S : Sto) : Res Walked := (de ρ S).bind toWalkT
theorem io_list {de : DE} : IOk K mg W (wL de) (iList K (LE K mg W de)) := by
  intro w ρ σ R ok rr h
  refine ⟨w, ok, rfl, ρ, rr, Fin.bind (R' := RI K mg) h fun w1 x v le1 ok1 r1 h1 => ?_⟩
  unfold toWalk at h1
  split at h1
  · split at h1
    · rename_i n _ xs e
      obtain ⟨_, rfl⟩ := r1.obj
      obtain ⟨vs, t, rv⟩ := lst_at ok1 e
      refine ⟨_, rfl, ⟨vs, t⟩, Fin.now h1 ok1 ⟨e, fun w2 i d le ok2 e2 hi => ?_, fun w2 le ok2 e2 => ?_⟩⟩
      · obtain ⟨us, t2, rv2⟩ := lst_at ok2 (show lstOf w2.S n = some xs from e2)
        rw [le.ag n r1.obj.1] at t2
        obtain ⟨z, ez, rz⟩ := rv2.get hi
        refine ⟨⟨us, z, t2, ez⟩, fun x H' y => ⟨w2, Wo.Le.refl _, ok2, rfl, y.1.symm, ?_⟩⟩
        have e3 := (y.2 us t2).symm.trans ez
        rw [Option.some.inj e3]
        exact rz
      · obtain ⟨us, t2, rv2⟩ := lst_at ok2 (show lstOf w2.S n = some xs from e2)
        rw [le.ag n r1.obj.1] at t2
        exact ⟨us, t2, by rw [rv2.len]; exact Nat.le_refl _⟩
    · exact h1.elim
  · rename_i xs
    obtain ⟨p, vs, rfl, t, rv⟩ := r1.kl
    refine ⟨_, rfl, ⟨vs, t.L⟩, Fin.now h1 ok1 ⟨trivial, fun w2 i d le ok2 e2 hi => ?_, fun w2 le ok2 e2 => ?_⟩⟩
    · have t2 := (le.kl ok1 t).L
      obtain ⟨z, ez, rz⟩ := (rv.up ok1 le).get hi
      refine ⟨⟨vs, z, t2, ez⟩, fun x H' y => ⟨w2, Wo.Le.refl _, ok2, rfl, y.1.symm, ?_⟩⟩
      have e3 := (y.2 vs t2).symm.trans ez
      rw [Option.some.inj e3]
      exact rz
    · exact ⟨vs, (le.kl ok1 t).L, by rw [rv.len]; exact Nat.le_refl _⟩
  · exact h1.elim
theorem io_tup {de : DE} : IOk K mg W (wT de) (iTup K (LE K mg W de)) := by
  intro w ρ σ R ok rr h
  refine ⟨w, ok, rfl, ρ, rr, Fin.bind (R' := RI K mg) h fun w1 x v le1 ok1 r1 h1 => ?_⟩
  unfold toWalkT at h1
  split at h1
  · rename_i xs
    obtain ⟨p, vs, rfl, t, rv⟩ := r1.tup
    refine ⟨_, rfl, ⟨vs, t⟩, Fin.now h1 ok1 ⟨trivial, fun w2 i d le ok2 e2 hi => ?_, fun w2 le ok2 e2 => ?_⟩⟩
    · have t2 := le.tup ok1 t
      obtain ⟨z, ez, rz⟩ := (rv.up ok1 le).get hi
      refine ⟨⟨vs, z, t2, ez⟩, fun x H' y => ⟨w2, Wo.Le.refl _, ok2, rfl, y.1.symm, ?_⟩⟩
      have e3 := (y.2 vs t2).symm.trans ez
      rw [Option.some.inj e3]
      exact rz
    · exact ⟨vs, le.tup ok1 t, by rw [rv.len]; exact Nat.le_refl _⟩
  · exact h1.elim
def rng (lo : Int) (n : Nat) : List D := (List.range n).map fun (i : Nat) => .int (lo + (i : Int))
theorem rng_get {lo : Int} {n i : Nat} {d : D} (h : (rng lo n)[i]? = some d) : i < n ∧ d = .int (lo + i) := by
  unfold rng at h
  rw [List.getElem?_map] at h
  obtain ⟨j, e1, e2⟩ := Option.map_eq_some_iff.mp h
  have hl := lt_of_get e1
  rw [List.length_range] at hl
  rw [List.getElem?_range hl] at e1
  exact ⟨hl, by rw [← e2, ← Option.some.inj e1]⟩
theorem ri_rng {w : Wo} {lo : Int} {n : Nat} : RI K mg w (rng lo n, fun _ => True) (Itr lo n) := by
  refine ⟨trivial, fun w2 i d le ok2 _ hi => ?_, fun w2 le ok2 _ => ?_⟩
  · obtain ⟨h1, h2⟩ := rng_get hi
    refine ⟨h1, fun x H' y => ⟨w2, Wo.Le.refl _, ok2, rfl, y.1.symm, ?_⟩⟩
    rw [h2, y.2]
    exact mk_int
  · show n ≤ (rng lo n).length
    unfold rng
    rw [List.length_map, List.length_range]
    exact Nat.le_refl _
/-- a number that a range may end with -/
structure OkR (j : Int) : Prop where
  lo : -(2 ^ 62) ≤ j
  hi : j < 2 ^ 62
noncomputable instance (j : Int) : Decidable (OkR j) := Classical.propDecidable _
noncomputable def toRng1 : List D → Sto → Res Walked
  | [.int j], S => if OkR j then .ok (rng 0 j.toNat, fun _ => True) S else .bad
  | _, _ => .bad
noncomputable def toRng2 : List D → Sto → Res Walked
  | [.int i, .int j], S => if OkR i ∧ OkR j then .ok (rng i (j - i).toNat, fun _ => True) S else .bad
  | _, _ => .bad
noncomputable def wR1 (da : DA) (ρ : Env) (S : Sto) : Res Walked := (da ρ S).bind toRng1
noncomputable def wR2 (da : DA) (ρ : Env) (S : Sto) : Res Walked := (da ρ S).bind toRng2
theorem io_rng1 {da : DA} : IOk K mg W (wR1 da) (iRng1 (LA K mg W da)) := by
  intro w ρ σ R ok rr h
  refine ⟨w, ok, rfl, ρ, rr, Fin.bind (R' := RI K mg) h fun w1 x v le1 ok1 r1 h1 => ?_⟩
  unfold toRng1 at h1
  split at h1
  · split at h1
    · rename_i hj
      obtain ⟨z, rfl, rz⟩ := r1.one
      rw [rz.int]
      exact ⟨_, rfl, hj.lo, hj.hi, Fin.now h1 ok1 ri_rng⟩
    · exact h1.elim
  · exact h1.elim
theorem io_rng2 {da : DA} : IOk K mg W (wR2 da) (iRng2 (LA K mg W da)) := by
  intro w ρ σ R ok rr h
  refine ⟨w, ok, rfl, ρ, rr, Fin.bind (R' := RI K mg) h fun w1 x v le1 ok1 r1 h1 => ?_⟩
  unfold toRng2 at h1
  split at h1
  · split at h1
    · rename_i hj
      obtain ⟨z, y, rfl, rz, ry⟩ := r1.two
      rw [rz.int, ry.int]
      exact ⟨_, _, rfl, ⟨hj.1.lo, hj.1.hi, hj.2.lo, hj.2.hi⟩, Fin.now h1 ok1 ri_rng⟩
    · exact h1.elim
  · exact h1.elim
/-- a text -/
def signs (z : Str) : List D := z.cps.toList.map fun c => .str ⟨#[c]⟩
def toWalkS : D → Sto → Res Walked
  | .str z, S => .ok (signs z, fun _ => True) S
  | _, _ => .bad
def wS (de : DE) (ρ : Env) (S : Sto) : Res Walked := (de ρ S).bind toWalkS
theorem io_str {de : DE} : IOk K mg W (wS de) (iStr (LE K mg W de)) := by
  intro w ρ σ R ok rr h
  refine ⟨w, ok, rfl, ρ, rr, Fin.bind (R' := RI K mg) h fun w1 x v le1 ok1 r1 h1 => ?_⟩
  unfold toWalkS at h1
  split at h1
  · rename_i z
    rw [r1.str]
    refine ⟨z, rfl, Fin.now h1 ok1 ⟨trivial, fun w2 i d le ok2 e2 hi => ?_, fun w2 le ok2 e2 => ?_⟩⟩
    · unfold signs at hi
      rw [List.getElem?_map] at hi
      obtain ⟨k, e1, e3⟩ := Option.map_eq_some_iff.mp hi
      have hl := lt_of_get e1
      refine ⟨(by show i < z.cps.size; simpa using hl), fun x H' y => ⟨w2, Wo.Le.refl _, ok2, rfl, y.1.symm, ?_⟩⟩
      obtain ⟨q, e4, e5⟩ := y.2
      rw [← Array.getElem?_toList, e1] at e4
      rw [e5, ← e3, Option.some.inj e4]
      exact mk_str
    · show z.cps.size ≤ (signs z).length
      unfold signs
      rw [List.length_map]
      simp
  · exact h1.elim
/-! ## for -/
open Classical in
noncomputable def turnR (still : Sto → Prop) (k : DS) : RS → RS
  | .nx ρ2 S2 => if still S2 then k ρ2 S2 else .bad
  | .ct ρ2 S2 => if still S2 then k ρ2 S2 else .bad
  | .bk ρ2 S2 => .nx ρ2 S2
  | .rt d S2 => .rt d S2
  | .exc c fs ρ2 S2 => .exc c fs ρ2 S2
  | .bad => .bad
noncomputable def turnG (still : Sto → Prop) (body k : DS) (S : Sto) : Option Env → RS
  | none => .bad
  | some ρ1 => turnR still k (body ρ1 S)
noncomputable def dLoop (still : Sto → Prop) (g : DG) (body : DS) : List D → Env → Sto → RS
  | [], ρ, S => .nx ρ S
  | d :: r, ρ, S => turnG still body (dLoop still g body r) S (g d ρ S)
noncomputable def forR (g : DG) (body : DS) (ρ : Env) : Res Walked → RS
  | .ok (items, still) S1 => dLoop still g body items ρ S1
  | .exc c fs S1 => .exc c fs ρ S1
  | .bad => .bad
noncomputable def dFor (di : DI) (g : DG) (body : DS) (ρ : Env) (S : Sto) : RS := forR g body ρ (di ρ S)
theorem i_for {di : DI} {wi : TI} {g : DG} {tg : TG} {vs : List Nat} {body : DS} (hi : IOk K mg W di wi) (hg : GOk K mg vs g tg) {D' : Ends} {σ : St} {H : Hp} (h : LS K mg W (dFor di g body) D' σ H) : tFor wi tg (LS K mg W body) D' σ H := by
  obtain ⟨w, ok, rfl, ρ, rr, h⟩ := h
  refine hi w ρ σ _ ok rr ?_
  unfold dFor at h
  cases e : di ρ w.S with
  | bad => rw [e] at h; exact h
  | exc c fs S => rw [e] at h; exact fun w' le ok' es => h w' σ le ok' es (rr.up ok le)
  | ok p S =>
    rw [e] at h
    obtain ⟨items, still⟩ := p
    intro w1 J le1 ok1 es1 ri
    subst es1
    have h := FinS.up ok1 le1 h
    have rr1 := rr.up ok le1
    refine ⟨fun i m σ H => m = items.length - i ∧ i ≤ items.length ∧ ∃ (w2 : Wo) (ρ2 : Env), w1.Le w2 ∧ w2.Ok K mg ∧ w2.H = H ∧ still w2.S ∧ Rσ K mg w2 ρ2 σ ∧ FinS K mg W w2 (dLoop still g body (items.drop i) ρ2 w2.S) D',
      ⟨items.length, rfl, Nat.zero_le _, w1, ρ, Wo.Le.refl _, ok1, rfl, ri.now, rr1, h⟩, ?_⟩
    rintro i m σ2 H2 ⟨rfl, hil, w2, ρ2, le2, ok2, rfl, st2, rr2, h2⟩
    by_cases hlt : i < items.length
    · have ei := List.getElem?_eq_getElem hlt
      rw [List.drop_eq_getElem_cons hlt] at h2
      generalize items[i] = d at ei h2
      obtain ⟨go, yl⟩ := ri.step w2 i d le2 ok2 st2 ei
      refine .inr ⟨go, fun σ' H' => ∃ (w5 : Wo) (ρ5 : Env), w1.Le w5 ∧ w5.Ok K mg ∧ w5.H = H' ∧ still w5.S ∧ Rσ K mg w5 ρ5 σ' ∧ FinS K mg W w5 (dLoop still g body (items.drop (i + 1)) ρ5 w5.S) D',
        fun σ' H' n => ⟨items.length - (i + 1), by omega, rfl, hlt, n⟩, fun x H' y => ?_⟩
      obtain ⟨w3, le3, ok3, es3, rfl, r3⟩ := yl x H' y
      have rr3 := rr2.up ok2 le3
      unfold dLoop at h2
      rw [← es3] at h2
      cases eg : g d ρ2 w3.S with
      | none => rw [eg] at h2; exact h2.elim
      | some ρ3 =>
        rw [eg] at h2
        refine hg w3 d x ρ2 ρ3 σ2 _ ok3 rr3 r3 eg fun σ3 rr4 _ => ⟨w3, ok3, rfl, ρ3, rr4, ?_⟩
        have le13 := le2.trans ok2 le3
        have h2 := FinS.up ok3 le3 h2
        unfold turnG at h2
        dsimp only at h2
        cases eb : body ρ3 w3.S with
        | nx ρ4 S4 =>
          rw [eb] at h2
          unfold turnR at h2
          dsimp only at h2
          by_cases hs : still S4
          · rw [if_pos hs] at h2
            exact fun w4 σ4 le4 ok4 es4 rr5 => ⟨w4, ρ4, le13.trans ok3 le4, ok4, rfl, by rw [es4]; exact hs, rr5, FinS.up ok4 le4 (by rw [es4]; exact h2)⟩
          · rw [if_neg hs] at h2
            exact h2.elim
        | ct ρ4 S4 =>
          rw [eb] at h2
          unfold turnR at h2
          dsimp only at h2
          by_cases hs : still S4
          · rw [if_pos hs] at h2
            exact fun w4 σ4 le4 ok4 es4 rr5 => ⟨w4, ρ4, le13.trans ok3 le4, ok4, rfl, by rw [es4]; exact hs, rr5, FinS.up ok4 le4 (by rw [es4]; exact h2)⟩
          · rw [if_neg hs] at h2
            exact h2.elim
        | bk ρ4 S4 =>
          rw [eb] at h2
          exact fun w4 σ4 le4 ok4 es4 rr5 => h2 w4 σ4 le4 ok4 es4 rr5
        | rt d4 S4 =>
          rw [eb] at h2
          exact fun w4 σ4 le4 ok4 es4 rr5 => h2 w4 σ4 le4 ok4 es4 rr5
        | exc c fs ρ4 S4 =>
          rw [eb] at h2
          exact fun w4 σ4 le4 ok4 es4 rr5 => h2 w4 σ4 le4 ok4 es4 rr5
        | bad =>
          rw [eb] at h2
          exact h2.elim
    · have e1 : i = items.length := by omega
      subst e1
      rw [List.drop_length] at h2
      refine .inl ⟨ri.stop w2 le2 ok2 st2, ?_⟩
      exact h2.now ok2 rr2
theorem ls_for {tg iter : Expr} {body : List Stmt} {di : DI} {wi : TI} {g : DG} {t : TG} {vs : List Nat} {bd : DS} (hp : PassesOwn (model X.prog X.w) X.A X.env X.xe) (hc : X.calm = true) (hi : PI X tg iter wi) (oi : IOk X.K X.mg W di wi) (hg : PG X tg t) (og : GOk X.K X.mg vs g t) (hb : PSs X body (LS X.K X.mg W bd))
    (hs : ∀ x, foldedSetIterable iter X.env x = pure x := by intro _; rfl) : PS X (.For tg iter body [] pos) (LS X.K X.mg W (dFor di g bd)) := (ps_for hp hc hi hg hb hs).imp fun _ _ _ h => i_for oi og h
/-! ## while -/
def whR (k : DS) : RS → RS
  | .nx ρ2 S2 => k ρ2 S2
  | .ct ρ2 S2 => k ρ2 S2
  | .bk ρ2 S2 => .nx ρ2 S2
  | .rt d S2 => .rt d S2
  | .exc c fs ρ2 S2 => .exc c fs ρ2 S2
  | .bad => .bad
def whT (body k : DS) (ρ : Env) : Res Bool → RS
  | .ok true S1 => whR k (body ρ S1)
  | .ok false S1 => .nx ρ S1
  | .exc c fs S1 => .exc c fs ρ S1
  | .bad => .bad
def dWhile : Nat → DT → DS → Env → Sto → RS
  | 0, _, _, _, _ => .bad
  | n + 1, t, body, ρ, S => whT body (dWhile n t body) ρ (t ρ S)
theorem i_while {n : Nat} {t : DT} {body : DS} {D' : Ends} {σ : St} {H : Hp} (h : LS K mg W (dWhile n t body) D' σ H) : tWhile (LT K mg W t) (LS K mg W body) D' σ H := by
  obtain ⟨w, ok, rfl, ρ, rr, h⟩ := h
  refine ⟨fun m σ H => ∃ (w : Wo) (ρ : Env), w.Ok K mg ∧ w.H = H ∧ Rσ K mg w ρ σ ∧ FinS K mg W w (dWhile m t body ρ w.S) D', ⟨n, w, ρ, ok, rfl, rr, h⟩, ?_⟩
  rintro m σ2 H2 ⟨w2, ρ2, ok2, rfl, rr2, h2⟩
  refine ⟨w2, ok2, rfl, ρ2, rr2, ?_⟩
  cases m with
  | zero => exact h2.elim
  | succ m =>
    unfold dWhile at h2
    cases et : t ρ2 w2.S with
    | bad => rw [et] at h2; exact h2
    | exc c fs S => rw [et] at h2; exact fun w' le ok' es => h2 w' σ2 le ok' es (rr2.up ok2 le)
    | ok k S =>
      rw [et] at h2
      intro w3 v le3 ok3 es3 r3
      have r3 : k = v := r3
      subst r3
      subst es3
      have h2 := FinS.up ok3 le3 h2
      have rr3 := rr2.up ok2 le3
      cases k with
      | false => exact iteF (h2.now ok3 rr3)
      | true =>
        refine iteT ⟨fun σ' H' => ∃ (w5 : Wo) (ρ5 : Env), w5.Ok K mg ∧ w5.H = H' ∧ Rσ K mg w5 ρ5 σ' ∧ FinS K mg W w5 (dWhile m t body ρ5 w5.S) D', fun σ' H' q => ⟨m, Nat.lt_succ_self m, q⟩, w3, ok3, rfl, ρ2, rr3, ?_⟩
        unfold whT at h2
        dsimp only at h2
        cases eb : body ρ2 w3.S with
        | nx ρ4 S4 =>
          rw [eb] at h2
          exact fun w4 σ4 le4 ok4 es4 rr5 => ⟨w4, ρ4, ok4, rfl, rr5, FinS.up ok4 le4 (by rw [es4]; exact h2)⟩
        | ct ρ4 S4 =>
          rw [eb] at h2
          exact fun w4 σ4 le4 ok4 es4 rr5 => ⟨w4, ρ4, ok4, rfl, rr5, FinS.up ok4 le4 (by rw [es4]; exact h2)⟩
        | bk ρ4 S4 => rw [eb] at h2; exact h2
        | rt d4 S4 => rw [eb] at h2; exact h2
        | exc c fs ρ4 S4 => rw [eb] at h2; exact h2
        | bad => rw [eb] at h2; exact h2.elim
theorem ls_while (n : Nat) {body : List Stmt} {t : DT} {bd : DS} (hp : PassesOwn (model X.prog X.w) X.A X.env X.xe) (hc : PT X c (LT X.K X.mg W t)) (hb : PSs X body (LS X.K X.mg W bd)) : PS X (.While c body [] pos) (LS X.K X.mg W (dWhile n t bd)) := (ps_while hp hc hb).imp fun _ _ _ => i_while
/-! ## comprehensions -/
open Classical in
noncomputable def cSkip (still : Sto → Prop) (k : Sto → Res (List D)) (S1 : Sto) : Res (List D) := if still S1 then k S1 else .bad
def cHead (x : D) : Res (List D) → Res (List D)
  | .ok xs S3 => .ok (x :: xs) S3
  | .exc _ _ _ => .bad
  | .bad => .bad
noncomputable def cElt (still : Sto → Prop) (k : Sto → Res (List D)) : Res D → Res (List D)
  | .ok x S2 => cHead x (cSkip still k S2)
  | .exc _ _ _ => .bad
  | .bad => .bad
noncomputable def cTest (still : Sto → Prop) (e : DE) (k : Sto → Res (List D)) (ρ1 : Env) : Res Bool → Res (List D)
  | .ok true S1 => cElt still k (e ρ1 S1)
  | .ok false S1 => cSkip still k S1
  | .exc _ _ _ => .bad
  | .bad => .bad
noncomputable def cTg (still : Sto → Prop) (t : DT) (e : DE) (k : Sto → Res (List D)) (S : Sto) : Option Env → Res (List D)
  | none => .bad
  | some ρ1 => cTest still e k ρ1 (t ρ1 S)
noncomputable def cLoop (still : Sto → Prop) (g : DG) (t : DT) (e : DE) (ρ : Env) : List D → Sto → Res (List D)
  | [], S => .ok [] S
  | d :: r, S => cTg still t e (cLoop still g t e ρ r) S (g d ρ S)
def wipeE (ρ : Env) : List Nat → Env
  | [] => ρ
  | v :: vs => (wipeE ρ vs).set v none
def fitL (xs : List D) (S : Sto) : Res D := mkLst xs S
def cEnd : Res (List D) → Res D
  | .ok xs S2 => mkLst xs S2
  | .exc _ _ _ => .bad
  | .bad => .bad
noncomputable def dComp1 (g : DG) (t : DT) (e : DE) (ρ : Env) : Walked → Sto → Res D
  | (items, still), S1 => cEnd (cLoop still g t e ρ items S1)
noncomputable def dComp (di : DI) (g : DG) (vs : List Nat) (t : DT) (e : DE) (ρ : Env) (S : Sto) : Res D := (di ρ S).bind (dComp1 g t e (wipeE ρ vs))
def W0 : WX := fun _ _ _ _ => False
theorem Rσ.wipe {w : Wo} {ρ : Env} {σ : St} (r : Rσ K mg w ρ σ) : ∀ vs : List Nat, Rσ K mg w (wipeE ρ vs) (L2.wipe σ vs)
  | [] => r
  | v :: vs => Rσ.setN v none (Rσ.wipe r vs)
/-- an untracked thing that is no tuple changes -/
theorem Wo.hid_sqt {w : Wo} {p : Addr} {xs ys : List V} (hp : w.H p = some (.lst xs)) {a : Addr} {zs : List V} (t : SqT K w.H a zs) : SqT K (upd w.H p (.lst ys)) a zs := by
  rcases t with (t | ⟨o, t⟩) | t
  · exact .inl (.inl (by rw [upd_ne (ne_of t hp (by intro z; cases z))]; exact t))
  · exact .inl (.inr ⟨o, by rw [upd_ne (ne_of t hp (by intro z; cases z))]; exact t⟩)
  · exact .inr t
theorem Wo.hid_sqf {w : Wo} {p : Addr} {xs ys : List V} (hp : w.H p = some (.lst xs)) {a : Addr} {zs : List V} (t : SqF K w.H a zs) : SqF K (upd w.H p (.lst ys)) a zs := by
  rcases t with ⟨o, t⟩ | t
  · exact .inl ⟨o, by rw [upd_ne (ne_of t hp (by intro z; cases z))]; exact t⟩
  · exact .inr t
mutual
theorem Wo.hid_rv {w : Wo} {p : Addr} {xs ys : List V} (hp : w.H p = some (.lst xs)) : ∀ (d : D) (v : V), Rv K mg w d v → Rv K mg (w.heap (upd w.H p (.lst ys))) d v
  | .non, v, r => by rw [Rv] at r ⊢; exact r
  | .bl b, v, r => by rw [Rv] at r ⊢; exact r
  | .int i, v, r => by rw [Rv] at r ⊢; exact r
  | .str x, v, r => by rw [Rv] at r ⊢; exact r
  | .tup ds, v, r => by
    rw [Rv] at r ⊢
    obtain ⟨a, vs, e, t, q⟩ := r
    exact ⟨a, vs, e, Wo.hid_sqt hp t, Wo.hid_rvs hp ds vs q⟩
  | .obj n, v, r => by rw [Rv] at r ⊢; exact r
  | .fn x, v, r => by rw [Rv] at r ⊢; exact r
  | .ty n, v, r => by rw [Rv] at r ⊢; exact r
  | .raw n, v, r => by rw [Rv] at r ⊢; exact r
  | .kl ds, v, r => by
    rw [Rv] at r ⊢
    obtain ⟨a, vs, e, t, q⟩ := r
    exact ⟨a, vs, e, Wo.hid_sqf hp t, Wo.hid_rvs hp ds vs q⟩
theorem Wo.hid_rvs {w : Wo} {p : Addr} {xs ys : List V} (hp : w.H p = some (.lst xs)) : ∀ (ds : List D) (vs : List V), Rvs K mg w ds vs → Rvs K mg (w.heap (upd w.H p (.lst ys))) ds vs
  | [], vs, r => by rw [Rvs] at r ⊢; exact r
  | d :: ds, vs, r => by
    rw [Rvs] at r ⊢
    obtain ⟨v, q, e, r1, r2⟩ := r
    exact ⟨v, q, e, Wo.hid_rv hp d v r1, Wo.hid_rvs hp ds q r2⟩
end
theorem Wo.hid_rkv {w : Wo} {p : Addr} {xs ys : List V} (hp : w.H p = some (.lst xs)) : ∀ {ps : List (Key × D)} {vs : List (Key × V)}, Rkv K mg w ps vs → Rkv K mg (w.heap (upd w.H p (.lst ys))) ps vs
  | [], vs, r => r
  | q :: ps, vs, r => by
    obtain ⟨v, z, e, r1, r2⟩ := r
    exact ⟨v, z, e, Wo.hid_rv hp _ v r1, Wo.hid_rkv hp r2⟩
theorem Wo.hid_rfs {w : Wo} {p : Addr} {xs ys : List V} (hp : w.H p = some (.lst xs)) : ∀ {ps : List (Str × D)} {vs : List (Str × V)}, Rfs K mg w ps vs → Rfs K mg (w.heap (upd w.H p (.lst ys))) ps vs
  | [], vs, r => r
  | q :: ps, vs, r => by
    obtain ⟨v, z, e, r1, r2⟩ := r
    exact ⟨v, z, e, Wo.hid_rv hp _ v r1, Wo.hid_rfs hp r2⟩
theorem Wo.hid_ok {w : Wo} (ok : w.Ok K mg) {p : Addr} {xs ys : List V} (hp : w.H p = some (.lst xs)) (hn : ∀ i, i < w.S.length → w.m i ≠ p) : (w.heap (upd w.H p (.lst ys))).Ok K mg := by
  refine ⟨ok.inj, fun i o h => ?_⟩
  have r := ok.has i o h
  have hi := hn i (lt_of_get h)
  have keep : ∀ x, w.H (w.m i) = some x → (upd w.H p (.lst ys)) (w.m i) = some x := fun x e => by rw [upd_ne hi]; exact e
  cases o with
  | lst ds =>
    obtain ⟨vs, h1, h2⟩ := r
    exact ⟨vs, keep _ h1, Wo.hid_rvs hp _ _ h2⟩
  | dk ds =>
    obtain ⟨vs, h1, h2⟩ := r
    exact ⟨vs, keep _ h1, Wo.hid_rkv hp h2⟩
  | ins C fs =>
    obtain ⟨Ca, dx, vs, h0, h1, h2⟩ := r
    exact ⟨Ca, dx, vs, h0, keep _ h1, Wo.hid_rfs hp h2⟩
theorem Wo.hid_le {w0 w : Wo} (le : w0.Le w) {p : Addr} {ys : List V} (h0 : w0.H p = none) : w0.Le (w.heap (upd w.H p (.lst ys))) := by
  refine ⟨le.len, le.ag, fun a x e n => ?_, le.nw⟩
  show upd w.H p (.lst ys) a = some x
  rw [upd_ne (ne_of_none e h0)]
  exact le.fr a x e n
/-- the list that is being made comes to be tracked -/
theorem Wo.adopt {w : Wo} (ok : w.Ok K mg) {p : Addr} {vs : List V} {xs : List D} (hp : w.H p = some (.lst vs)) (hn : ∀ i, i < w.S.length → w.m i ≠ p) (r : Rvs K mg w xs vs) :
    (Wo.mk (fun i => if i = w.S.length then p else w.m i) (w.S ++ [.lst xs]) w.H).Ok K mg := by
  generalize hw2 : (Wo.mk (fun i => if i = w.S.length then p else w.m i) (w.S ++ [.lst xs]) w.H) = w2
  have eS : w2.S = w.S ++ [.lst xs] := by rw [← hw2]
  have eH : w2.H = w.H := by rw [← hw2]
  have eo : ∀ i, i < w.S.length → w2.m i = w.m i := fun i hi => by rw [← hw2]; exact if_neg (Nat.ne_of_lt hi)
  have en : w2.m w.S.length = p := by rw [← hw2]; exact if_pos rfl
  have el : w2.S.length = w.S.length + 1 := by rw [eS, List.length_append]; rfl
  have le : w.Le (w2) ∨ True := .inr trivial
  have up : ∀ (d : D) (v : V), Rv K mg w d v → Rv K mg w2 d v := by
    have hlen : w.S.length ≤ w2.S.length := by omega
    have key : (∀ (d : D) (v : V), Rv K mg w d v → Rv K mg w2 d v) := by
      intro d
      refine D.rec (motive_1 := fun d => ∀ v, Rv K mg w d v → Rv K mg w2 d v) (motive_2 := fun ds => ∀ vs, Rvs K mg w ds vs → Rvs K mg w2 ds vs) ?_ ?_ ?_ ?_ ?_ ?_ ?_ ?_ ?_ ?_ ?_ ?_ d
      · intro v r; rw [Rv] at r ⊢; exact r
      · intro _ v r; rw [Rv] at r ⊢; exact r
      · intro _ v r; rw [Rv] at r ⊢; exact r
      · intro _ v r; rw [Rv] at r ⊢; exact r
      · intro ds ih v r
        rw [Rv] at r ⊢
        obtain ⟨a, vs, e, t, q⟩ := r
        exact ⟨a, vs, e, by rw [eH]; exact t, ih vs q⟩
      · intro n v r
        rw [Rv] at r ⊢
        exact ⟨Nat.lt_of_lt_of_le r.1 hlen, by rw [eo n r.1]; exact r.2⟩
      · intro _ v r; rw [Rv] at r ⊢; exact r
      · intro _ v r; rw [Rv] at r ⊢; exact r
      · intro _ v r; rw [Rv] at r ⊢; exact r
      · intro ds ih v r
        rw [Rv] at r ⊢
        obtain ⟨a, vs, e, t, q⟩ := r
        exact ⟨a, vs, e, by rw [eH]; exact t, ih vs q⟩
      · intro vs r; rw [Rvs] at r ⊢; exact r
      · intro d ds ih1 ih2 vs r
        rw [Rvs] at r ⊢
        obtain ⟨v, q, e, r1, r2⟩ := r
        exact ⟨v, q, e, ih1 v r1, ih2 q r2⟩
    exact key
  have ups : ∀ (ds : List D) (vs : List V), Rvs K mg w ds vs → Rvs K mg w2 ds vs := by
    intro ds
    induction ds with
    | nil => intro vs r; rw [Rvs] at r ⊢; exact r
    | cons d ds ih =>
      intro vs r
      rw [Rvs] at r ⊢
      obtain ⟨v, q, e, r1, r2⟩ := r
      exact ⟨v, q, e, up d v r1, ih q r2⟩
  have upk : ∀ (ds : List (Key × D)) (vs : List (Key × V)), Rkv K mg w ds vs → Rkv K mg w2 ds vs := by
    intro ds
    induction ds with
    | nil => intro vs r; exact r
    | cons d ds ih =>
      intro vs r
      obtain ⟨v, q, e, r1, r2⟩ := r
      exact ⟨v, q, e, up _ v r1, ih q r2⟩
  have upf : ∀ (ds : List (Str × D)) (vs : List (Str × V)), Rfs K mg w ds vs → Rfs K mg w2 ds vs := by
    intro ds
    induction ds with
    | nil => intro vs r; exact r
    | cons d ds ih =>
      intro vs r
      obtain ⟨v, q, e, r1, r2⟩ := r
      exact ⟨v, q, e, up _ v r1, ih q r2⟩
  refine ⟨fun i j hi hj e => ?_, fun i o h => ?_⟩
  · rw [el] at hi hj
    by_cases h1 : i < w.S.length
    · by_cases h2 : j < w.S.length
      · rw [eo i h1, eo j h2] at e
        exact ok.inj i j h1 h2 e
      · have e2 : j = w.S.length := by omega
        rw [e2, en, eo i h1] at e
        exact absurd e (hn i h1)
    · have e1 : i = w.S.length := by omega
      by_cases h2 : j < w.S.length
      · rw [e1, en, eo j h2] at e
        exact absurd e.symm (hn j h2)
      · omega
  · rw [eS] at h
    by_cases h1 : i < w.S.length
    · rw [List.getElem?_append_left h1] at h
      rw [eo i h1]
      have r := ok.has i o h
      cases o with
      | lst ds =>
        obtain ⟨vs, h1, h2⟩ := r
        exact ⟨vs, by rw [eH]; exact h1, ups _ _ h2⟩
      | dk ds =>
        obtain ⟨vs, h1, h2⟩ := r
        exact ⟨vs, by rw [eH]; exact h1, upk _ _ h2⟩
      | ins C fs =>
        obtain ⟨Ca, dx, vs, h0, h1, h2⟩ := r
        exact ⟨Ca, dx, vs, h0, by rw [eH]; exact h1, upf _ _ h2⟩
    · have h2 := lt_of_get h
      rw [List.length_append] at h2
      have h2 : i < w.S.length + 1 := h2
      have e1 : i = w.S.length := by omega
      rw [e1, List.getElem?_append_right (Nat.le_refl _), Nat.sub_self] at h
      have e2 : Ob.lst xs = o := Option.some.inj h
      rw [e1, en, ← e2]
      exact ⟨vs, by rw [eH]; exact hp, ups _ _ r⟩
theorem i_comp {di : DI} {wi : TI} {g : DG} {tg : TG} {us vs : List Nat} {t : DT} {de : DE} (hi : IOk K mg W di wi) (hg : GOk K mg us g tg) (hu : ∀ i ∈ us, i ∈ vs) {σ : St} {H : Hp} {Q : VK} (h : LE K mg W (dComp di g vs t de) σ H Q) :
    tLc wi tg (LT K mg W0 t) (LE K mg W0 de) vs σ H Q := by
  obtain ⟨w, ok, rfl, ρ, rr, h⟩ := h
  refine hi w ρ σ _ ok rr (h.bind fun w1 p J le1 ok1 ri h1 => ?_)
  obtain ⟨items, still⟩ := p
  intro q hq
  have rr1 := (rr.up ok le1).wipe vs
  have len1 : (upd w1.H q (.lst [])) q = some (.lst []) := upd_same
  have base : w1.Le (w1.heap (upd w1.H q (.lst []))) := Wo.new_le hq
  have okb : (w1.heap (upd w1.H q (.lst []))).Ok K mg := Wo.new_ok ok1 hq
  refine ⟨fun i m H => m = items.length - i ∧ i ≤ items.length ∧ ∃ (w2 : Wo) (acc : List D) (av : List V) (xs : List D) (S' : Sto), w1.Le w2 ∧ w2.Ok K mg ∧ w2.H = H ∧ still w2.S ∧ w2.H q = some (.lst av) ∧ (∀ j, j < w2.S.length → w2.m j ≠ q) ∧ Rvs K mg w2 acc av ∧
      cLoop still g t de (wipeE ρ vs) (items.drop i) w2.S = .ok xs S' ∧ Fin K mg w1 (Rv K mg) (mkLst (acc ++ xs) S') Q (XW K mg W σ), ?_, ?_⟩
  · cases e : cLoop still g t de (wipeE ρ vs) items w1.S with
    | bad =>
      unfold dComp1 at h1
      dsimp only at h1
      rw [e] at h1
      exact h1.elim
    | exc c fs S =>
      unfold dComp1 at h1
      dsimp only at h1
      rw [e] at h1
      exact h1.elim
    | ok xs S' =>
      unfold dComp1 at h1
      dsimp only at h1
      rw [e] at h1
      refine ⟨items.length, rfl, Nat.zero_le _, w1.heap (upd w1.H q (.lst [])), [], [], xs, S', base, okb, rfl, ri.now, upd_same, fun j hj z => ?_, Rvs.nil, e, h1⟩
      obtain ⟨o, h2, _⟩ := ok1.at (show j < w1.S.length from hj)
      have z : w1.m j = q := z
      rw [z, hq] at h2
      cases h2
  · rintro i m H2 ⟨rfl, hil, w2, acc, av, xs, S', le2, ok2, rfl, st2, hl2, hn2, ra, ec, hf⟩
    by_cases hlt : i < items.length
    · have ei := List.getElem?_eq_getElem hlt
      rw [List.drop_eq_getElem_cons hlt] at ec
      generalize items[i] = d at ei ec
      obtain ⟨go, yl⟩ := ri.step w2 i d le2 ok2 st2 ei
      refine .inr ⟨go, fun H' => ∃ (w2 : Wo) (acc : List D) (av : List V) (xs : List D) (S' : Sto), w1.Le w2 ∧ w2.Ok K mg ∧ w2.H = H' ∧ still w2.S ∧ w2.H q = some (.lst av) ∧ (∀ j, j < w2.S.length → w2.m j ≠ q) ∧ Rvs K mg w2 acc av ∧
        cLoop still g t de (wipeE ρ vs) (items.drop (i + 1)) w2.S = .ok xs S' ∧ Fin K mg w1 (Rv K mg) (mkLst (acc ++ xs) S') Q (XW K mg W σ), fun H' n => ⟨items.length - (i + 1), by omega, rfl, hlt, n⟩, fun x H' y => ?_⟩
      obtain ⟨w3, le3, ok3, es3, rfl, r3⟩ := yl x H' y
      -- the hidden list is still there, and still hidden
      have hid : ∀ {wa wb : Wo} {bv : List V}, wa.Ok K mg → wa.Le wb → wa.H q = some (.lst bv) → (∀ j, j < wa.S.length → wa.m j ≠ q) → wb.H q = some (.lst bv) ∧ ∀ j, j < wb.S.length → wb.m j ≠ q := fun {wa wb bv} oka le hq2 hn => by
        refine ⟨le.fr _ _ hq2 hn, fun j hj z => ?_⟩
        by_cases hja : j < wa.S.length
        · rw [le.ag j hja] at z
          exact hn j hja z
        · have := le.nw j (Nat.le_of_not_lt hja) hj
          rw [z, hq2] at this
          cases this
      obtain ⟨hl3, hn3⟩ := hid ok2 le3 hl2 hn2
      have le13 := le2.trans ok2 le3
      have rr3 := (rr.up ok (le1.trans ok1 le13)).wipe vs
      unfold cLoop at ec
      rw [← es3] at ec
      cases eg : g d (wipeE ρ vs) w3.S with
      | none => rw [eg] at ec; cases ec
      | some ρ3 =>
        rw [eg] at ec
        refine hg w3 d x _ ρ3 _ _ ok3 rr3 r3 eg fun σ3 rr4 hw => ⟨?_, w3, ok3, rfl, ρ3, rr4, ?_⟩
        · rw [hw vs hu]
          have ww : ∀ us : List Nat, (∀ i ∈ us, i ∈ vs) → L2.wipe (L2.wipe σ us) vs = L2.wipe σ vs := by
            intro us
            induction us with
            | nil => intro _; rfl
            | cons u us ih =>
              intro hus
              show L2.wipe ((L2.wipe σ us).set u none) vs = _
              rw [wipe_set (hus u List.mem_cons_self), ih fun i hi => hus i (List.mem_cons_of_mem _ hi)]
          exact ww vs fun _ hi => hi
        · unfold cTg at ec
          dsimp only at ec
          cases et : t ρ3 w3.S with
          | bad => rw [et] at ec; cases ec
          | exc c fs S => rw [et] at ec; cases ec
          | ok k S4 =>
            rw [et] at ec
            intro w4 v4 le4 ok4 es4 r4
            have r4 : k = v4 := r4
            subst r4
            subst es4
            obtain ⟨hl4, hn4⟩ := hid ok3 le4 hl3 hn3
            have le14 := le13.trans ok3 le4
            have ra4 := ((ra.up ok2 le3).up ok3 le4)
            have rr5 := rr4.up ok3 le4
            cases k with
            | false =>
              refine iteF ?_
              unfold cTest cSkip at ec
              dsimp only at ec
              by_cases hs : still w4.S
              · rw [if_pos hs] at ec
                exact ⟨w4, acc, av, xs, S', le14, ok4, rfl, hs, hl4, hn4, ra4, ec, hf⟩
              · rw [if_neg hs] at ec
                cases ec
            | true =>
              refine iteT ⟨w4, ok4, rfl, ρ3, rr5, ?_⟩
              unfold cTest at ec
              dsimp only at ec
              cases ee : de ρ3 w4.S with
              | bad => rw [ee] at ec; cases ec
              | exc c fs S => rw [ee] at ec; cases ec
              | ok z S5 =>
                rw [ee] at ec
                intro w5 v5 le5 ok5 es5 r5
                subst es5
                obtain ⟨hl5, hn5⟩ := hid ok4 le5 hl4 hn4
                have le15 := le14.trans ok4 le5
                have ra5 := ra4.up ok4 le5
                unfold cElt cSkip at ec
                dsimp only at ec
                by_cases hs : still w5.S
                · rw [if_pos hs] at ec
                  cases er : cLoop still g t de (wipeE ρ vs) (items.drop (i + 1)) w5.S with
                  | bad => rw [er] at ec; cases ec
                  | exc c fs S => rw [er] at ec; cases ec
                  | ok ys S6 =>
                    rw [er] at ec
                    unfold cHead at ec
                    injection ec with ec1 ec2
                    subst ec1 ec2
                    have hlen := hf.lstLen
                    rw [List.length_append, List.length_cons] at hlen
                    refine ⟨av, hl5, by rw [ra5.len]; omega, w5.heap (upd w5.H q (.lst (av ++ [v5]))), acc ++ [z], av ++ [v5], ys, S6, Wo.hid_le le15 hq, Wo.hid_ok ok5 hl5 hn5, rfl, hs, upd_same, hn5, Wo.hid_rvs hl5 _ _ (ra5.append (Rvs.cons r5 Rvs.nil)), er, ?_⟩
                    rw [List.append_assoc]
                    exact hf
                · rw [if_neg hs] at ec
                  cases ec
    · have e1 : i = items.length := by omega
      subst e1
      rw [List.drop_length] at ec
      unfold cLoop at ec
      injection ec with ec1 ec2
      subst ec1 ec2
      refine .inl ⟨ri.stop w2 le2 ok2 st2, ?_⟩
      rw [List.append_nil] at hf
      unfold mkLst at hf
      by_cases hl : acc.length ≤ sizeLine
      · rw [if_pos hl] at hf
        have ad := Wo.adopt ok2 hl2 hn2 ra
        have le : w1.Le (Wo.mk (fun i => if i = w2.S.length then q else w2.m i) (w2.S ++ [Ob.lst acc]) w2.H) := by
          refine ⟨?_, fun i hi => ?_, le2.fr, fun i hi hi2 => ?_⟩
          · show w1.S.length ≤ (w2.S ++ [Ob.lst acc]).length
            rw [List.length_append]
            have := le2.len
            omega
          · show (if i = w2.S.length then q else w2.m i) = w1.m i
            rw [if_neg (Nat.ne_of_lt (Nat.lt_of_lt_of_le hi le2.len))]
            exact le2.ag i hi
          · show w1.H (if i = w2.S.length then q else w2.m i) = none
            by_cases h1 : i = w2.S.length
            · rw [if_pos h1]
              exact hq
            · rw [if_neg h1]
              have hi2 : i < (w2.S ++ [Ob.lst acc]).length := hi2
              rw [List.length_append] at hi2
              have hi2 : i < w2.S.length + 1 := hi2
              exact le2.nw i hi (by omega)
        refine hf (Wo.mk (fun i => if i = w2.S.length then q else w2.m i) (w2.S ++ [Ob.lst acc]) w2.H) (.ref q) le ad rfl ?_
        rw [Rv]
        exact ⟨by show w2.S.length < (w2.S ++ [Ob.lst acc]).length; rw [List.length_append]; exact Nat.lt_succ_self _, by show V.ref q = V.ref (if w2.S.length = w2.S.length then q else w2.m w2.S.length); rw [if_pos rfl]⟩
      · rw [if_neg hl] at hf
        exact hf.elim
end

section
variable {K : PySem.W.Frag} {mg : Str → Option Value} {X : Cx} {W : WX} {pos : Pos} {a b c e : Expr} {es : List Expr}
theorem ixX : IxR X (rIx X.K) := ix_seq
theorem slX : SlR X (rSlX X.K) := sl_list.or (sl_tupA.or sl_str)
theorem Rvs.of_sc {w : Wo} : ∀ {ds : List D} {vs : List V}, scs ds = some vs → Rvs K mg w ds vs
  | [], vs, e => by
    rw [← Option.some.inj e]
    exact Rvs.nil
  | d :: ds, vs, e => by
    unfold scs at e
    cases e2 : d.sc with
    | none =>
      rw [e2] at e
      cases e
    | some u =>
      cases e3 : scs ds with
      | none =>
        rw [e2, e3] at e
        cases e
      | some us2 =>
        rw [e2, e3] at e
        rw [← Option.some.inj e]
        refine Rvs.cons ?_ (Rvs.of_sc e3)
        cases d <;> first
          | (rw [← Option.some.inj e2, Rv])
          | (exact absurd e2 (by intro z; cases z))
/-! ## methods of built-in types -/
def tyM (T : String) (d : D) (S : Sto) : Bool := match d with
  | .str _ => T == "str"
  | .int _ => T == "int"
  | .obj n => match S[n]? with
    | some (.lst _) => T == "list"
    | some (.dk _) => T == "dict"
    | _ => false
  | _ => false
theorem tyM_at {w : Wo} (ok : w.Ok K mg) {T : String} {d : D} {v : V} (r : Rv K mg w d v) (h : tyM T d w.S = true) : tyV K T v w.H := by
  unfold tyM at h
  split at h
  · rw [r.str]
    exact beq_iff_eq.mp h
  · rw [r.int]
    exact beq_iff_eq.mp h
  · obtain ⟨_, rfl⟩ := r.obj
    split at h
    · rename_i e
      obtain ⟨vs, h1, _⟩ := ok.has _ _ e
      exact .inl ⟨beq_iff_eq.mp h, vs, SqL.of h1⟩
    · rename_i e
      obtain ⟨vs, h1, _⟩ := ok.has _ _ e
      exact .inr (.inr (.inl ⟨beq_iff_eq.mp h, .inl ⟨vs, h1⟩⟩))
    · cases h
  · cases h
abbrev DM := D → List D → Sto → Res D
def Opm (K : PySem.W.Frag) (mg : Str → Option Value) (r : V → List V → Hp → VK → Prop) (f : DM) : Prop := ∀ (w : Wo) (x : D) (ds : List D) (v : V) (vs : List V) (Q : VK) (E : Str → List (Str × D) → Wo → Prop), w.Ok K mg → Rv K mg w x v → Rvs K mg w ds vs → Fin K mg w (Rv K mg) (f x ds w.S) Q E → r v vs w.H Q
def eMeth1 (T : String) (f : DM) (da : DA) (ρ : Env) (x : D) (S1 : Sto) : Res D := if tyM T x S1 = true then (da ρ S1).bind (f x) else .bad
def eMeth (T : String) (f : DM) (do_ : DE) (da : DA) (ρ : Env) (S : Sto) : Res D := (do_ ρ S).bind (eMeth1 T f da ρ)
theorem i_meth {T : String} {r : V → List V → Hp → VK → Prop} {f : DM} {do_ : DE} {da : DA} (o : Opm K mg r f) {σ : St} {H : Hp} {Q : VK} (h : LE K mg W (eMeth T f do_ da) σ H Q) : tBM K T r (LE K mg W do_) (LA K mg W da) σ H Q := by
  obtain ⟨w, ok, rfl, ρ, rr, h⟩ := h
  refine ⟨w, ok, rfl, ρ, rr, h.bind fun w1 x v le1 ok1 r1 h1 => ?_⟩
  unfold eMeth1 at h1
  by_cases ht : tyM T x w1.S = true
  · rw [if_pos ht] at h1
    refine ⟨tyM_at ok1 r1 ht, w1, ok1, rfl, ρ, rr.up ok le1, h1.bind fun w2 ds vs le2 ok2 r2 h2 => ?_⟩
    exact o w2 x ds v vs Q _ ok2 (r1.up ok1 le2) r2 h2
  · rw [if_neg ht] at h1
    exact h1.elim
theorem i_meth0 {T : String} {r : V → List V → Hp → VK → Prop} {f : DM} {do_ : DE} (o : Opm K mg r f) {σ : St} {H : Hp} {Q : VK} (h : LE K mg W (eMeth T f do_ eNil) σ H Q) : tBM0 K T r (LE K mg W do_) σ H Q := by
  obtain ⟨w, ok, rfl, ρ, rr, h⟩ := h
  refine ⟨w, ok, rfl, ρ, rr, h.bind fun w1 x v le1 ok1 r1 h1 => ?_⟩
  unfold eMeth1 at h1
  by_cases ht : tyM T x w1.S = true
  · rw [if_pos ht] at h1
    exact ⟨tyM_at ok1 r1 ht, o w1 x [] v [] Q _ ok1 r1 Rvs.nil h1⟩
  · rw [if_neg ht] at h1
    exact h1.elim
section
variable {o : Expr} {name : Str} {apos cpos : Pos} {T id : String} {r : V → List V → Hp → VK → Prop} {f : DM} {do_ : DE} {da : DA}
theorem l_bm0 (pa : PlainAttrs T) (slot : Slot T name id) (hty : typeOf (.builtin id) = pure (.type "method_descriptor")) (hm : MtR X id r) (om : Opm X.K X.mg r f) (ho : PE X o (LE X.K X.mg W do_))
    (hbase : attributeBase o name X.env (eval o X.env) = eval o X.env := by rfl) (hline : (apos.endLine == cpos.line) = true := by rfl) : PE X (.Call (.Attribute o name apos) [] [] cpos) (LE X.K X.mg W (eMeth T f do_ eNil)) :=
  (pe_bm0 pa slot hty hm ho hbase hline).imp fun _ _ _ => i_meth0 om
theorem l_bm (pa : PlainAttrs T) (slot : Slot T name id) (hty : typeOf (.builtin id) = pure (.type "method_descriptor")) (hm : MtR X id r) (om : Opm X.K X.mg r f) (ho : PE X o (LE X.K X.mg W do_)) (ha : PA X (e :: es) (LA X.K X.mg W da))
    (hbase : attributeBase o name X.env (eval o X.env) = eval o X.env := by rfl)
    (hfew : ((backTo cpos (starEach (e :: es) X.env)).all (fun x => !x.1) && (backToKw cpos (keywordEach [] X.env)).all (fun x => x.1.isSome)
      && decide ((e :: es).length + ([] : List Keyword).length + (if ([] : List Keyword).isEmpty then 0 else 1) < 30)) = true := by rfl)
    (hline : (apos.endLine == cpos.line) = true := by rfl) (hs : starEach (e :: es) X.env = (false, eval e X.env) :: starEach es X.env := by rfl) (hplain : (backTo cpos (starEach es X.env)).any (·.1) = false := by rfl) :
    PE X (.Call (.Attribute o name apos) (e :: es) [] cpos) (LE X.K X.mg W (eMeth T f do_ da)) :=
  (pe_bm pa slot hty hm ho ha hbase hfew hline hs hplain).imp fun _ _ _ => i_meth om
end
/-- a list is given other items, and x is handed back -/
theorem Fin.putLst {w : Wo} {n : Nat} {xs : List D} {vs us : List V} {x : D} {v : V} {Q : VK} {E : Str → List (Str × D) → Wo → Prop} (h : Fin K mg w (Rv K mg) (.ok x (w.S.set n (.lst xs))) Q E) (ok : w.Ok K mg) (hn : n < w.S.length) (r : Rvs K mg w xs vs) (rx : Rv K mg w x v) : Q v (upd w.H (w.m n) (.lst vs)) := by
  have le := Wo.put_le (o := Ob.lst xs) (u := HO.lst vs) hn
  exact h (w.put n (.lst xs) (.lst vs)) v le (Wo.putLst ok hn r) rfl (rx.up ok le)
def mAppend : DM
  | .obj n, [d], S => match S[n]? with
    | some (.lst xs) => if xs.length < sizeLine then .ok .non (S.set n (.lst (xs ++ [d]))) else .bad
    | _ => .bad
  | _, _, _ => .bad
theorem om_append : Opm K mg rAppend mAppend := by
  intro w x ds v vs Q E ok rx rs h
  unfold mAppend at h
  split at h
  · obtain ⟨u, rfl, ru⟩ := rs.one
    obtain ⟨hn, rfl⟩ := rx.obj
    split at h
    · rename_i e
      split at h
      · rename_i hl
        obtain ⟨us, h1, r1⟩ := lst_mut ok e
        exact ⟨_, us, u, rfl, rfl, h1, by rw [r1.len]; exact hl, h.putLst (us := us) ok hn (r1.append (Rvs.cons ru Rvs.nil)) mk_non⟩
      · exact h.elim
    · exact h.elim
  · exact h.elim
def mExtend : DM
  | .obj n, [.obj m], S => match S[n]?, S[m]? with
    | some (.lst xs), some (.lst ys) => if xs.length + ys.length ≤ sizeLine then .ok .non (S.set n (.lst (xs ++ ys))) else .bad
    | _, _ => .bad
  | _, _, _ => .bad
theorem om_extend : Opm K mg rExtend mExtend := by
  intro w x ds v vs Q E ok rx rs h
  unfold mExtend at h
  split at h
  · obtain ⟨u, rfl, ru⟩ := rs.one
    obtain ⟨hn, rfl⟩ := rx.obj
    obtain ⟨hm, rfl⟩ := ru.obj
    split at h
    · rename_i e1 e2
      split at h
      · rename_i hl
        obtain ⟨us, h1, r1⟩ := lst_mut ok e1
        obtain ⟨zs, h2, r2⟩ := lst_mut ok e2
        exact ⟨_, _, us, zs, rfl, rfl, h1, h2, by rw [r1.len, r2.len]; exact hl, h.putLst (us := us) ok hn (r1.append r2) mk_non⟩
      · exact h.elim
    · exact h.elim
  · exact h.elim
def mPop : DM
  | .obj n, [], S => match S[n]? with
    | some (.lst xs) => match xs[xs.length - 1]? with
      | some d => .ok d (S.set n (.lst xs.dropLast))
      | none => .bad
    | _ => .bad
  | _, _, _ => .bad
theorem Rvs.dropLast {w : Wo} {ds : List D} {vs : List V} (r : Rvs K mg w ds vs) : Rvs K mg w ds.dropLast vs.dropLast := by
  rw [List.dropLast_eq_take, List.dropLast_eq_take, r.len]
  exact r.take _
theorem om_pop : Opm K mg rPop mPop := by
  intro w x ds v vs Q E ok rx rs h
  unfold mPop at h
  split at h
  · have e0 : vs = [] := by
      rw [Rvs] at rs
      exact rs
    obtain ⟨hn, rfl⟩ := rx.obj
    split at h
    · rename_i e1
      split at h
      · rename_i e2
        obtain ⟨us, h1, r1⟩ := lst_mut ok e1
        obtain ⟨z, e3, rz⟩ := r1.get e2
        exact ⟨_, us, z, rfl, e0, h1, by rw [r1.len]; exact e3, h.putLst (us := us) ok hn r1.dropLast rz⟩
      · exact h.elim
    · exact h.elim
  · exact h.elim
def mInsert : DM
  | .obj n, [.int i, d], S => match S[n]? with
    | some (.lst xs) => if xs.length < sizeLine ∧ 0 ≤ i ∧ i < 2 ^ 63 then .ok .non (S.set n (.lst (xs.take i.toNat ++ [d] ++ xs.drop i.toNat))) else .bad
    | _ => .bad
  | _, _, _ => .bad
theorem om_insert : Opm K mg (fun x vs H Q => ∃ (l : Addr) (xs : List V) (i : Int) (y : V), x = .ref l ∧ vs = [.int i, y] ∧ H l = some (.lst xs) ∧ xs.length < sizeLine ∧ 0 ≤ i ∧ i < 2 ^ 63 ∧
    Q .non (upd H l (.lst (xs.take i.toNat ++ [y] ++ xs.drop i.toNat)))) mInsert := by
  intro w x ds v vs Q E ok rx rs h
  unfold mInsert at h
  split at h
  · obtain ⟨u, z, rfl, ru, rz⟩ := rs.two
    obtain ⟨hn, rfl⟩ := rx.obj
    rw [ru.int]
    split at h
    · rename_i e1
      split at h
      · rename_i hl
        obtain ⟨us, h1, r1⟩ := lst_mut ok e1
        exact ⟨_, us, _, z, rfl, rfl, h1, by rw [r1.len]; exact hl.1, hl.2.1, hl.2.2, h.putLst (us := us) ok hn (((r1.take _).append (Rvs.cons rz Rvs.nil)).append (r1.drop _)) mk_non⟩
      · exact h.elim
    · exact h.elim
  · exact h.elim
/-- texts -/
def asStrs : List D → Option (List Str)
  | [] => some []
  | .str i :: ds => (asStrs ds).map fun r => i :: r
  | _ => none
theorem Rvs.strs {w : Wo} : ∀ {ds : List D} {vs : List V} {ns : List Str}, Rvs K mg w ds vs → O.asStrs ds = some ns → vs = ns.map V.str
  | [], vs, ns, r, e => by
    rw [Rvs] at r
    rw [r, ← Option.some.inj e]
    rfl
  | .str i :: ds, vs, ns, r, e => by
    rw [Rvs] at r
    obtain ⟨v, q, e1, r1, r2⟩ := r
    obtain ⟨ms, e2, e3⟩ := Option.map_eq_some_iff.mp e
    rw [e1, r1.str, Rvs.strs r2 e2, ← e3]
    rfl
  | .non :: ds, vs, ns, r, e => by cases e
  | .bl _ :: ds, vs, ns, r, e => by cases e
  | .int _ :: ds, vs, ns, r, e => by cases e
  | .tup _ :: ds, vs, ns, r, e => by cases e
  | .obj _ :: ds, vs, ns, r, e => by cases e
  | .fn _ :: ds, vs, ns, r, e => by cases e
  | .ty _ :: ds, vs, ns, r, e => by cases e
  | .raw _ :: ds, vs, ns, r, e => by cases e
  | .kl _ :: ds, vs, ns, r, e => by cases e
def mJoin (x d : D) (S : Sto) : Res D := match x, (seqOf d S).bind asStrs with
  | .str z, some ys => if (ys.map (·.length)).sum + ys.length * z.length ≤ 16777216 then .ok (.str (Txt.join z ys)) S else .bad
  | _, _ => .bad
def eM11 (f : D → D → Sto → Res D) (da : DE) (ρ : Env) : D → Sto → Res D
  | .str z, S1 => (da ρ S1).bind (f (.str z))
  | _, _ => .bad
def eM1 (f : D → D → Sto → Res D) (do_ da : DE) (ρ : Env) (S : Sto) : Res D := (do_ ρ S).bind (eM11 f da ρ)
theorem l_join {o : Expr} {apos : Pos} {do_ da : DE} (ho : PE X o (LE X.K X.mg W do_)) (he : PE X e (LE X.K X.mg W da)) (hs : starEach [e] X.env = [(false, eval e X.env)] := by rfl) (hbase : attributeBase o "join" X.env (eval o X.env) = eval o X.env := by rfl) (hline : (apos.endLine == pos.line) = true := by rfl) :
    PE X (.Call (.Attribute o "join" apos) [e] [] pos) (LE X.K X.mg W (eM1 mJoin do_ da)) := (pe_join ho he hs hbase hline).imp fun σ H Q h => by
  obtain ⟨w, ok, rfl, ρ, rr, h⟩ := h
  refine ⟨w, ok, rfl, ρ, rr, h.bind fun w1 x v le1 ok1 r1 h1 => ?_⟩
  cases x with
  | str z =>
    refine ⟨⟨z, r1.str⟩, w1, ok1, rfl, ρ, rr.up ok le1, Fin.bind (R' := Rv X.K X.mg) h1 fun w2 y u le2 ok2 r2 h2 => ?_⟩
    unfold mJoin at h2
    split at h2
    · rename_i z2 ys e1 e2
      split at h2
      · rename_i hl
        injection e1 with e1
        subst e1
        obtain ⟨xs, e3, e4⟩ := Option.bind_eq_some_iff.mp e2
        obtain ⟨p, us, rfl, t, r3⟩ := seq_at ok2 r2 e3
        have e5 := r3.strs e4
        subst e5
        exact ⟨_, p, ys, r1.str, rfl, t, hl, Fin.now h2 ok2 mk_str⟩
      · exact h2.elim
    · exact h2.elim
  | _ => exact h1.elim
/-! ## list comprehensions -/
theorem lts_nil : PTs X [] (LT X.K X.mg W fun _ S => .ok true S) := ⟨fun pins s σ H Q I h => by
  obtain ⟨w, ok, rfl, ρ, rr, h⟩ := h
  exact pts_nil.run pins s σ w.H Q I (Fin.now h ok rfl)⟩
theorem lts_one {t : DT} (h : PT X c (LT X.K X.mg W t)) : PTs X [c] (LT X.K X.mg W t) := pts_one h
section
variable {elt tg iter : Expr} {ifs : List Expr} {scope : Scope} {own : List (Str × Nat)} {wi : TI} {g : DG} {t : TG} {us : List Nat} {di : DI} {dt : DT} {de : DE}
theorem l_comp (hc : X.calm = true) (hN : X.N.Nodup) (hi : PI X tg iter wi) (oi : IOk X.K X.mg W di wi) (ok : BlkOk X.N X.env.scope scope own)
    (hg : ∀ (s : Shared) (H : Hp) (C : Addr) (cl : List (Str × Addr)) (fp : List Addr), PG (X.blk s H scope (compEnvC scope cl C X.env) fp) tg t) (og : GOk X.K X.mg us g t) (hu : ∀ i ∈ us, i ∈ own.map (·.2))
    (ht : ∀ (s : Shared) (H : Hp) (C : Addr) (cl : List (Str × Addr)) (fp : List Addr), PTs (X.blk s H scope (compEnvC scope cl C X.env) fp) ifs (LT X.K X.mg W0 dt))
    (he : ∀ (s : Shared) (H : Hp) (C : Addr) (cl : List (Str × Addr)) (fp : List Addr), PE (X.blk s H scope (compEnvC scope cl C X.env) fp) elt (LE X.K X.mg W0 de)) (hs : ∀ x, foldedSetIterable iter X.env x = pure x := by intro _; rfl) :
    PE X (.ListComp elt [⟨tg, iter, ifs, 0⟩] scope pos) (LE X.K X.mg W (dComp di g (own.map (·.2)) dt de)) := (pe_lc hc hN hi ok hg ht he hs).imp fun _ _ _ => i_comp oi og hu
theorem ls_setComp {i : Nat} {y : Str} {py spos : Pos} (hc : X.calm = true) (hN : X.N.Nodup) (hy : X.N[i]? = some y) (hyl : X.env.scope.names.lookup y = some .local)
    (hsw : swapsWith (.ListComp elt [⟨tg, iter, ifs, 0⟩] scope pos) (some (.Name y py)) spos.line X.env = pure true) (hi : PI X tg iter wi) (oi : IOk X.K X.mg W di wi) (ok : BlkOk X.N X.env.scope scope own)
    (hg : ∀ (s : Shared) (H : Hp) (C : Addr) (cl : List (Str × Addr)) (fp : List Addr), PG (X.blk s H scope (compEnvC scope cl C X.env) fp) tg t) (og : GOk X.K X.mg us g t) (hu : ∀ i ∈ us, i ∈ own.map (·.2))
    (ht : ∀ (s : Shared) (H : Hp) (C : Addr) (cl : List (Str × Addr)) (fp : List Addr), PTs (X.blk s H scope (compEnvC scope cl C X.env) fp) ifs (LT X.K X.mg W0 dt))
    (he : ∀ (s : Shared) (H : Hp) (C : Addr) (cl : List (Str × Addr)) (fp : List Addr), PE (X.blk s H scope (compEnvC scope cl C X.env) fp) elt (LE X.K X.mg W0 de)) (hs : ∀ x, foldedSetIterable iter X.env x = pure x := by intro _; rfl) :
    PS X (.Assign [.Name y py] (.ListComp elt [⟨tg, iter, ifs, 0⟩] scope pos) spos) (LS X.K X.mg W (dSet i (dComp di g (own.map (·.2)) dt de))) := (ps_setLc hc hN hy hyl hsw hi ok hg ht he hs).imp fun D' σ H h => by
  obtain ⟨w, ok, rfl, ρ, rr, h⟩ := h
  have h2 : LE X.K X.mg W (dComp di g (own.map (·.2)) dt de) σ w.H (fun x H1 => gName i x σ H1 D'.nx) := i_bind (de := dComp di g (own.map (·.2)) dt de) (D' := D') ⟨w, ok, rfl, ρ, rr, h⟩ fun w d v ρ ok r rr h => h.now ok (rr.set r i)
  exact i_comp oi og hu h2
end
theorem takesW0 : Takes X W0 := takes0
/-! ## raise, try -/
def dRaise (x : Str) (ρ : Env) (S : Sto) : RS := .exc x [] ρ S
theorem ls_raise {C : Addr} {x m : Str} {j : Nat} {p p2 pos2 : Pos} (hc : X.calm = true) (tk : Takes X W) (q : PySem.W.excIn X.K C [.type "ValueError", .type "Exception", .type "BaseException", .type "object"] "ValueError.__new__" = true) (gC : X.mg x = some (.ref C)) (kC : PySem.W.keepIn X.K (.ref C) = true)
    (bC : PySem.W.subIn X.K (.ref C) (.type "BaseException") = some true) (tC : PySem.W.typeIn X.K (.ref C) = some (.type "type")) (hg : Gl X x) (hdb : (x == ("__debug__" : Str)) = false := by decide) :
    PS X (.Raise (some (.Call (.Name x p) [.Constant (.str m) j p2] [] pos2)) none pos) (LS X.K X.mg W (dRaise x)) :=
  (ps_raise hc tk (pmk_own PySem.F.excBase_ValueError q gC kC (raises_own bC tC) hg hdb)).imp fun D' σ H h => by
  obtain ⟨w, ok, rfl, ρ, rr, h⟩ := h
  exact h w σ (Wo.Le.refl w) ok rfl rr C none gC rfl
/-- which classes an except clause takes -/
abbrev Mat := List (Str × Bool)
def matOk (K : PySem.W.Frag) (mg : Str → Option Value) (c : Value) (m : Mat) : Prop := ∀ x b, m.lookup x = some b → ∀ C, mg x = some (.ref C) → PySem.W.exmOne K (.ref C) c = some b
def tryM (suite : DS) (c : Str) (fs : List (Str × D)) (ρ' : Env) (S' : Sto) : Option Bool → RS
  | some true => suite ρ' S'
  | some false => .exc c fs ρ' S'
  | none => .bad
def tryR (m : Mat) (suite : DS) : RS → RS
  | .exc c fs ρ' S' => tryM suite c fs ρ' S' (m.lookup c)
  | .nx ρ' S' => .nx ρ' S'
  | .rt d S' => .rt d S'
  | .bk ρ' S' => .bk ρ' S'
  | .ct ρ' S' => .ct ρ' S'
  | .bad => .bad
def dTry (m : Mat) (body suite : DS) (ρ : Env) (S : Sto) : RS := tryR m suite (body ρ S)
theorem i_try {c : Value} {m : Mat} {body suite : DS} {ts : Addr → Value → Option Addr → TS} (hm : matOk K mg c m) (hts : ∀ a cls d D' σ H, LS K mg W0 suite D' σ H → ts a cls d D' σ H) {D' : Ends} {σ : St} {H : Hp} (hns : ∀ ρ S, ∀ c fs ρ' S', suite ρ S ≠ .exc c fs ρ' S')
    (h : LS K mg W (dTry m body suite) D' σ H) : LS K mg (wOnly K c ts W D') body D' σ H := by
  obtain ⟨w, ok, rfl, ρ, rr, h⟩ := h
  refine ⟨w, ok, rfl, ρ, rr, ?_⟩
  unfold dTry at h
  cases e : body ρ w.S with
  | exc x fs ρ' S' =>
    rw [e] at h
    unfold tryR at h
    dsimp only at h
    intro w' σ' le ok' es rr' C d hC hd
    cases el : m.lookup x with
    | none => rw [el] at h; exact h.elim
    | some b =>
      rw [el] at h
      refine ⟨b, hm x b el C hC, fun hb a ha => ?_, fun hb => ?_⟩
      · subst hb
        refine hts a _ d D' σ' w'.H ⟨w', ok', rfl, ρ', rr', ?_⟩
        have h2 := FinS.up ok' le h
        unfold tryM at h2
        dsimp only at h2
        rw [← es] at h2
        cases e2 : suite ρ' w'.S with
        | exc c2 fs2 ρ2 S2 => exact absurd e2 (hns _ _ _ _ _ _)
        | nx ρ2 S2 => rw [e2] at h2; exact h2
        | rt ρ2 S2 => rw [e2] at h2; exact h2
        | bk ρ2 S2 => rw [e2] at h2; exact h2
        | ct ρ2 S2 => rw [e2] at h2; exact h2
        | bad => rw [e2] at h2; exact h2
      · subst hb
        exact h w' σ' le ok' es rr' C d hC hd
  | nx ρ2 S2 => rw [e] at h; exact h
  | rt ρ2 S2 => rw [e] at h; exact h
  | bk ρ2 S2 => rw [e] at h; exact h
  | ct ρ2 S2 => rw [e] at h; exact h
  | bad => rw [e] at h; exact h
theorem ls_try {x : Str} {cv : Value} {m : Mat} {body suite : List Stmt} {b₀ : Stmt} {np pos' : Pos} {tb ts : DS} (hs : X.stack = X.env :: X.outer) (hf : X.env.frame = some X.env.locals) (hc : Names X x cv) (tk : Takes X W) (hm : matOk X.K X.mg cv m) (hns : ∀ ρ S, ∀ c fs ρ' S', ts ρ S ≠ .exc c fs ρ' S')
    (hb : ∀ (W' : WX) (pn : List (Addr × Obj)) (xe : Value → Shared → Prop), Takes (X.tr pn xe) W' → PassesOwn (model X.prog X.w) X.A X.env xe → PSs (X.tr pn xe) body (LS X.K X.mg W' tb))
    (hsu : ∀ (a : Addr) (oe : Obj) (cls : Value) (d : Option Addr) (pn : List (Addr × Obj)), Zc cls d oe → (∃ vs, oe.data = .fields vs) → PSs (X.suite a ((a, oe) :: pn)) (b₀ :: suite) (LS X.K X.mg W0 ts)) :
    PS X (.Try body [.ExceptHandler (some (.Name x np)) none (b₀ :: suite) pos'] [] [] pos) (LS X.K X.mg W (dTry m tb ts)) :=
  (ps_try_only (tb := fun W' => LS X.K X.mg W' tb) (ts := fun _ _ _ => LS X.K X.mg W0 ts) hs hf hc tk hb hsu).imp fun D' σ H h => i_try (ts := fun _ _ _ => LS X.K X.mg W0 ts) hm (fun _ _ _ _ _ _ h => h) hns h
end

/-! ## math.gcd, bit_length -/
section
variable {K : PySem.W.Frag} {mg : Str → Option Value} {X : Cx} {W : WX}
def dGcd : DF
  | [.int a, .int b], S => .ok (.int ((Nat.gcd a.natAbs b.natAbs : Nat) : Int)) S
  | _, _ => .bad
theorem o_gcd : Opn K mg rGcd dGcd := by
  intro w ds vs Q E ok r h
  unfold dGcd at h
  split at h
  · obtain ⟨v, u, rfl, r1, r2⟩ := r.two
    rw [r1.int, r2.int]
    exact ⟨_, _, rfl, Fin.now h ok mk_int⟩
  · exact h.elim
theorem l_callF {x : Str} {p pos : Pos} {e : Expr} {es : List Expr} {id : String} {r : List V → Hp → VK → Prop} {f : DF} {da : DA} (hc : CallR X (.builtin id) r) (o : Opn X.K X.mg r f) (hg : Gl X x) (hm : X.mg x = some (.builtin id))
    (ha : PA X (e :: es) (LA X.K X.mg W da)) (hdb : (x == ("__debug__" : Str)) = false := by decide) (he : starEach (e :: es) X.env = (false, eval e X.env) :: starEach es X.env := by rfl) (hpl : (backTo pos (starEach es X.env)).any (·.1) = false := by rfl) :
    PE X (.Call (.Name x p) (e :: es) [] pos) (LE X.K X.mg W (eCall f da)) := (pe_callBfun hc hg hm ha hdb he hpl).imp fun _ _ _ => i_callB o
def dBits : D → Sto → Res D
  | .int i, S => .ok (.int (Builtin.Int.intBits i : Nat)) S
  | _, _ => .bad
theorem l_bits {o : Expr} {da : DE} {apos pos : Pos} (ho : PE X o (LE X.K X.mg W da)) (hbase : attributeBase o "bit_length" X.env (eval o X.env) = eval o X.env := by rfl) (hline : (apos.endLine == pos.line) = true := by rfl) :
    PE X (.Call (.Attribute o "bit_length" apos) [] [] pos) (LE X.K X.mg W (eUn dBits da)) := (pe_bits ho hbase hline).imp fun σ H Q h => by
  obtain ⟨w, ok, rfl, ρ, rr, h⟩ := h
  refine ⟨w, ok, rfl, ρ, rr, h.bind fun w1 x v le1 ok1 r1 h1 => ?_⟩
  unfold dBits at h1
  split at h1
  · exact ⟨_, r1.int, Fin.now h1 ok1 mk_int⟩
  · exact h1.elim
theorem mat_nil {c : Value} : matOk K mg c [] := fun _ _ h => nomatch h
theorem mat_cons {c : Value} {x : Str} {b : Bool} {m : Mat} {C : Addr} (g : mg x = some (.ref C)) (h : PySem.W.exmOne K (.ref C) c = some b) (hm : matOk K mg c m) : matOk K mg c ((x, b) :: m) := by
  intro y b2 e C2 g2
  rw [List.lookup_cons] at e
  split at e
  · rename_i e3
    have e3 := eq_of_beq e3
    subst e3
    rw [g] at g2
    cases Option.some.inj g2
    exact (Option.some.inj e) ▸ h
  · exact hm y b2 e C2 g2
end

/-! ## working out what a denotation gives -/
namespace Ev
def numR (f : List Int → D) (S : Sto) : Option (List Int) → Res D
  | some ns => .ok (f ns) S
  | none => .bad
def numR1 (f : List Int → D) (S : Sto) : Option (List Int) → Res D
  | some ns => if 0 < ns.length then .ok (f ns) S else .bad
  | none => .bad
def ixA (S : Sto) : Option D → Res D
  | some d => .ok d S
  | none => .bad
def ixO (i : Int) (S : Sto) : Option Ob → Res D
  | some (.lst xs) => ixA S (atI xs i)
  | _ => .bad
def lenO (S : Sto) : Option Ob → Res D
  | some (.lst xs) => .ok (.int xs.length) S
  | some (.dk xs) => .ok (.int xs.length) S
  | _ => .bad
def lstOO : Option Ob → Option (List D)
  | some (.lst xs) => some xs
  | _ => none
def isiR (S : Sto) : Option Bool → Res D
  | some b => .ok (.bl b) S
  | none => .bad
def tyO : Option (List D) → Option String
  | some _ => some "list"
  | none => none
def lstR (S : Sto) : Option (List D) → Res D
  | some xs => mkLst xs S
  | none => .bad
def tupR (S : Sto) : Option (List D) → Res D
  | some xs => .ok (.tup xs) S
  | none => .bad
def slR (lo hi : Option Int) (S : Sto) : Option (List D) → Res D
  | some xs => mkLst (cutL xs lo hi) S
  | none => .bad
def appO (n : Nat) (d : D) (S : Sto) : Option Ob → Res D
  | some (.lst xs) => if xs.length < sizeLine then .ok .non (S.set n (.lst (xs ++ [d]))) else .bad
  | _ => .bad
def tymO (T : String) : Option Ob → Bool
  | some (.lst _) => T == "list"
  | some (.dk _) => T == "dict"
  | _ => false
def inR (neg : Bool) (S : Sto) : Option V → Option (List V) → Res D
  | some v, some vs => .ok (.bl (if neg then !inV v vs else inV v vs)) S
  | _, _ => .bad
def walkR (n : Nat) (S : Sto) : Option (List D) → Res Walked
  | some xs => .ok (xs, sameL n xs) S
  | none => .bad
def ixS (S : Sto) : Option Nat → Res D
  | some c => .ok (.str ⟨#[c]⟩) S
  | none => .bad
def joinR (z : Str) (S : Sto) : Option (List Str) → Res D
  | some ys => if (ys.map (·.length)).sum + ys.length * z.length ≤ 16777216 then .ok (.str (Txt.join z ys)) S else .bad
  | none => .bad
theorem seq1 {t : DS} {ρ : Env} {S : Sto} : (seqR t (.nx ρ S)) = (t ρ S) := rfl
theorem seq2 {t : DS} {d : D} {S : Sto} : (seqR t (.rt d S)) = (.rt d S) := rfl
theorem seq3 {t : DS} {ρ : Env} {S : Sto} : (seqR t (.bk ρ S)) = (.bk ρ S) := rfl
theorem seq4 {t : DS} {ρ : Env} {S : Sto} : (seqR t (.ct ρ S)) = (.ct ρ S) := rfl
theorem seq5 {t : DS} {c : Str} {fs : List (Str × D)} {ρ : Env} {S : Sto} : (seqR t (.exc c fs ρ S)) = (.exc c fs ρ S) := rfl
theorem bnd1 {k : D → Env → Sto → RS} {d : D} {ρ : Env} {S : Sto} : (bindR k ρ (.ok d S)) = (k d ρ S) := rfl
theorem bnd2 {k : D → Env → Sto → RS} {c : Str} {fs : List (Str × D)} {ρ : Env} {S : Sto} : (bindR k ρ (.exc c fs S)) = (.exc c fs ρ S) := rfl
theorem if1 {s u : DS} {ρ : Env} {S : Sto} : (ifR s u ρ (.ok true S)) = (s ρ S) := rfl
theorem if2 {s u : DS} {ρ : Env} {S : Sto} : (ifR s u ρ (.ok false S)) = (u ρ S) := rfl
theorem if3 {s u : DS} {c : Str} {fs : List (Str × D)} {ρ : Env} {S : Sto} : (ifR s u ρ (.exc c fs S)) = (.exc c fs ρ S) := rfl
theorem asg1 {ρ : Env} {S : Sto} : (asgR S (some ρ)) = (.nx ρ S) := rfl
theorem putK31 {x : D} {n : Nat} {k : Int} {ρ : Env} {S : Sto} : (putK3 x (.obj n) (.int k) ρ S) = (putO ρ S n k x S[n]?) := rfl
theorem putO1 {x : D} {n : Nat} {k : Int} {xs : List D} {ρ : Env} {S : Sto} : (putO ρ S n k x (some (.lst xs))) = (putJ ρ S n xs x (ixN xs.length k)) := rfl
theorem putJ1 {x : D} {n j : Nat} {xs : List D} {ρ : Env} {S : Sto} : (putJ ρ S n xs x (some j)) = (.nx ρ (S.set n (.lst (xs.set j x)))) := rfl
theorem aug1 {i : Nat} {f : D → D → Sto → Res D} {de : DE} {x : D} {ρ : Env} {S : Sto} : (augR i f de ρ S (some (some x))) = (bindR (setK i) ρ ((de ρ S).bind (f x))) := rfl
theorem slot1 {d : D} {S : Sto} : (slotR S (some (some d))) = (.ok d S) := rfl
theorem and1 {tb : DT} {ρ : Env} {S : Sto} : (eAnd1 tb ρ true S) = (tb ρ S) := rfl
theorem and2 {tb : DT} {ρ : Env} {S : Sto} : (eAnd1 tb ρ false S) = (.ok false S) := rfl
theorem or1 {tb : DT} {ρ : Env} {S : Sto} : (eOr1 tb ρ true S) = (.ok true S) := rfl
theorem or2 {tb : DT} {ρ : Env} {S : Sto} : (eOr1 tb ρ false S) = (tb ρ S) := rfl
theorem andV1 {db : DE} {ρ : Env} {S : Sto} : (eAndV1 db ρ (.bl true) S) = (db ρ S) := rfl
theorem andV2 {db : DE} {ρ : Env} {S : Sto} : (eAndV1 db ρ (.bl false) S) = (.ok (.bl false) S) := rfl
theorem orV1 {db : DE} {ρ : Env} {S : Sto} : (eOrV1 db ρ (.bl true) S) = (.ok (.bl true) S) := rfl
theorem orV2 {db : DE} {ρ : Env} {S : Sto} : (eOrV1 db ρ (.bl false) S) = (db ρ S) := rfl
theorem notV1 {k : Bool} {S : Sto} : (eNotV1 (.bl k) S) = (.ok (.bl (!k)) S) := rfl
theorem ifx1 {da db : DE} {ρ : Env} {S : Sto} : (eIf1 da db ρ true S) = (da ρ S) := rfl
theorem ifx2 {da db : DE} {ρ : Env} {S : Sto} : (eIf1 da db ρ false S) = (db ρ S) := rfl
theorem ch1 {g : D → D → Sto → Res D} {dc : DE} {y : D} {ρ : Env} {S : Sto} : (eChain3 g dc ρ y (.bl true) S) = ((dc ρ S).bind (g y)) := rfl
theorem ch2 {g : D → D → Sto → Res D} {dc : DE} {y : D} {ρ : Env} {S : Sto} : (eChain3 g dc ρ y (.bl false) S) = (.ok (.bl false) S) := rfl
theorem toB1 {b : Bool} {S : Sto} : (toB (.bl b) S) = (.ok b S) := rfl
theorem rb1 {α β : Type} {a : α} {S : Sto} {k : α → Sto → Res β} : ((Res.ok a S).bind k) = (k a S) := rfl
theorem rb2 {α β : Type} {c : Str} {fs : List (Str × D)} {S : Sto} {k : α → Sto → Res β} : ((Res.exc c fs S).bind k) = (.exc c fs S) := rfl
theorem end1 {ρ : Env} {S : Sto} : (endR (.nx ρ S)) = (.ok .non S) := rfl
theorem end2 {d : D} {S : Sto} : (endR (.rt d S)) = (.ok d S) := rfl
theorem end3 {c : Str} {fs : List (Str × D)} {ρ : Env} {S : Sto} : (endR (.exc c fs ρ S)) = (.exc c fs S) := rfl
theorem add1 {i j : Int} {S : Sto} : (dAdd (.int i) (.int j) S) = (.ok (.int (i + j)) S) := rfl
theorem add2 {x y : Str} {S : Sto} : (dAdd (.str x) (.str y) S) = ((if x.length + y.length ≤ sizeLine then .ok (.str (x ++ y)) S else .bad)) := id rfl
theorem add3 {xs ys : List D} {S : Sto} : (dAdd (.tup xs) (.tup ys) S) = ((if xs.length + ys.length ≤ sizeLine then .ok (.tup (xs ++ ys)) S else .bad)) := id rfl
theorem sub1 {i j : Int} {S : Sto} : (dSub (.int i) (.int j) S) = (.ok (.int (i - j)) S) := rfl
theorem mul1 {i j : Int} {S : Sto} : (dMul (.int i) (.int j) S) = ((if MulOk i j then .ok (.int (i * j)) S else .bad)) := id rfl
theorem mul2 {xs : List D} {k : Int} {S : Sto} : (dMul (.tup xs) (.int k) S) = ((if k = 1 then .ok (.tup xs) S else if xs ≠ [] ∧ 2 ≤ k ∧ k ≤ 1000 ∧ xs.length ≤ 1000 then .ok (.tup (List.replicate k.toNat xs).flatten) S else .bad)) := id rfl
theorem sum1 {d : D} {S : Sto} : (dSum [d] S) = (numR (fun ns => .int ns.sum) S (intsOf d S)) := by show (match intsOf d S with | some ns => Res.ok (D.int ns.sum) S | none => .bad) = _; cases intsOf d S <;> rfl
theorem minl1 {d : D} {S : Sto} : (dMinL [d] S) = (numR1 (fun ns => .int (least ns)) S (intsOf d S)) := by show (match intsOf d S with | some ns => if 0 < ns.length then Res.ok (D.int (least ns)) S else .bad | none => .bad) = _; cases intsOf d S <;> rfl
theorem maxl1 {d : D} {S : Sto} : (dMaxL [d] S) = (numR1 (fun ns => .int (greatest ns)) S (intsOf d S)) := by show (match intsOf d S with | some ns => if 0 < ns.length then Res.ok (D.int (greatest ns)) S else .bad | none => .bad) = _; cases intsOf d S <;> rfl
theorem numR1a {f : List Int → D} {ns : List Int} {S : Sto} : (numR f S (some ns)) = (.ok (f ns) S) := rfl
theorem numR1b {f : List Int → D} {ns : List Int} {S : Sto} : (numR1 f S (some ns)) = ((if 0 < ns.length then .ok (f ns) S else .bad)) := id rfl
theorem intsOf1 {xs : List D} {S : Sto} : (intsOf (.tup xs) S) = (asInts xs) := rfl
theorem intsOf2 {n : Nat} {S : Sto} : (intsOf (.obj n) S) = ((lstOf S n).bind asInts) := rfl
theorem pow1 {i j : Int} {S : Sto} : (dPow (.int i) (.int j) S) = ((if 0 ≤ j ∧ j ≤ 1000000 ∧ i.natAbs < 2 ^ 64 then .ok (.int (i ^ j.toNat)) S else .bad)) := id rfl
theorem gcd1 {i j : Int} {S : Sto} : (dGcd [.int i, .int j] S) = (.ok (.int ((Nat.gcd i.natAbs j.natAbs : Nat) : Int)) S) := rfl
theorem bits1 {i : Int} {S : Sto} : (dBits (.int i) S) = (.ok (.int (Builtin.Int.intBits i : Nat)) S) := rfl
theorem div1 {i j : Int} {S : Sto} : (dDiv (.int i) (.int j) S) = ((if j ≠ 0 ∧ j.natAbs.log2 < 9000 then .ok (.int (i.fdiv j)) S else .bad)) := id rfl
theorem mod1 {i j : Int} {S : Sto} : (dMod (.int i) (.int j) S) = ((if j ≠ 0 then .ok (.int (i.fmod j)) S else .bad)) := id rfl
theorem rel1 {p : Int → Int → Bool} {i j : Int} {S : Sto} : (dRel p (.int i) (.int j) S) = (.ok (.bl (p i j)) S) := rfl
theorem eq1 {i j : Int} {S : Sto} : (dEq (.int i) (.int j) S) = (.ok (.bl (decide (i = j))) S) := rfl
theorem eq2 {i j : Str} {S : Sto} : (dEq (.str i) (.str j) S) = (.ok (.bl (decide (i = j))) S) := rfl
theorem eq3 {i j : Bool} {S : Sto} : (dEq (.bl i) (.bl j) S) = (.ok (.bl (decide (i = j))) S) := rfl
theorem ix1 {xs : List D} {i : Int} {S : Sto} : (dIx (.tup xs) (.int i) S) = (ixA S (atI xs i)) := by show (match atI xs i with | some d => Res.ok d S | none => .bad) = _; cases atI xs i <;> rfl
theorem ixA1 {d : D} {S : Sto} : (ixA S (some d)) = (.ok d S) := rfl
theorem ix2 {n : Nat} {i : Int} {S : Sto} : (dIx (.obj n) (.int i) S) = (ixO i S S[n]?) := by
  show (match (lstOf S n).bind fun xs => atI xs i with | some d => Res.ok d S | none => .bad) = _
  unfold lstOf
  cases S[n]? with
  | none => rfl
  | some o => cases o with
    | lst xs => show (match atI xs i with | some d => Res.ok d S | none => .bad) = ixA S (atI xs i); cases atI xs i <;> rfl
    | _ => rfl
theorem ixO1 {xs : List D} {i : Int} {S : Sto} : (ixO i S (some (.lst xs))) = (ixA S (atI xs i)) := rfl
theorem lstOf1 {n : Nat} {S : Sto} : (lstOf S n) = (lstOO S[n]?) := by unfold lstOf; cases S[n]? with | none => rfl | some o => cases o <;> rfl
theorem lstOO1 {xs : List D} : (lstOO (some (.lst xs))) = (some xs) := rfl
theorem len3 {n : Nat} {S : Sto} : (dLen [.obj n] S) = (lenO S S[n]?) := by show (match S[n]? with | some (.lst xs) => Res.ok (D.int xs.length) S | some (.dk xs) => .ok (D.int xs.length) S | _ => .bad) = _; cases S[n]? with | none => rfl | some o => cases o <;> rfl
theorem lenO1 {xs : List D} {S : Sto} : (lenO S (some (.lst xs))) = (.ok (.int xs.length) S) := rfl
theorem lenO3 {xs : List (Key × D)} {S : Sto} : (lenO S (some (.dk xs))) = (.ok (.int xs.length) S) := rfl
theorem isi1 {d : D} {T : String} {S : Sto} : (dIsi [d, .ty T] S) = (isiR S ((tyOf d S).bind fun t => kitB t T)) := by show (match (tyOf d S).bind fun t => kitB t T with | some b => Res.ok (D.bl b) S | none => .bad) = _; cases (tyOf d S).bind fun t => kitB t T <;> rfl
theorem isiR1 {b : Bool} {S : Sto} : (isiR S (some b)) = (.ok (.bl b) S) := rfl
theorem ty_bl {x : Bool} {S : Sto} : (tyOf (.bl x) S) = (some "bool") := rfl
theorem ty_int {x : Int} {S : Sto} : (tyOf (.int x) S) = (some "int") := rfl
theorem ty_str {x : Str} {S : Sto} : (tyOf (.str x) S) = (some "str") := rfl
theorem ty_tup {x : List D} {S : Sto} : (tyOf (.tup x) S) = (some "tuple") := rfl
theorem ty_non {S : Sto} : (tyOf .non S) = (some "NoneType") := rfl
theorem ty_obj {n : Nat} {S : Sto} : (tyOf (.obj n) S) = (tyO (lstOf S n)) := by show (match lstOf S n with | some _ => some "list" | none => none) = _; cases lstOf S n <;> rfl
theorem tyO1 {xs : List D} : (tyO (some xs)) = (some "list") := rfl
theorem kit_NoneType_bool  : (kitB "NoneType" "bool") = (some false) := by decide +kernel
theorem kit_NoneType_int  : (kitB "NoneType" "int") = (some false) := by decide +kernel
theorem kit_NoneType_str  : (kitB "NoneType" "str") = (some false) := by decide +kernel
theorem kit_NoneType_tuple  : (kitB "NoneType" "tuple") = (some false) := by decide +kernel
theorem kit_NoneType_list  : (kitB "NoneType" "list") = (some false) := by decide +kernel
theorem kit_bool_bool  : (kitB "bool" "bool") = (some true) := by decide +kernel
theorem kit_bool_int  : (kitB "bool" "int") = (some true) := by decide +kernel
theorem kit_bool_str  : (kitB "bool" "str") = (some false) := by decide +kernel
theorem kit_bool_tuple  : (kitB "bool" "tuple") = (some false) := by decide +kernel
theorem kit_bool_list  : (kitB "bool" "list") = (some false) := by decide +kernel
theorem kit_int_bool  : (kitB "int" "bool") = (some false) := by decide +kernel
theorem kit_int_int  : (kitB "int" "int") = (some true) := by decide +kernel
theorem kit_int_str  : (kitB "int" "str") = (some false) := by decide +kernel
theorem kit_int_tuple  : (kitB "int" "tuple") = (some false) := by decide +kernel
theorem kit_int_list  : (kitB "int" "list") = (some false) := by decide +kernel
theorem kit_str_bool  : (kitB "str" "bool") = (some false) := by decide +kernel
theorem kit_str_int  : (kitB "str" "int") = (some false) := by decide +kernel
theorem kit_str_str  : (kitB "str" "str") = (some true) := by decide +kernel
theorem kit_str_tuple  : (kitB "str" "tuple") = (some false) := by decide +kernel
theorem kit_str_list  : (kitB "str" "list") = (some false) := by decide +kernel
theorem kit_tuple_bool  : (kitB "tuple" "bool") = (some false) := by decide +kernel
theorem kit_tuple_int  : (kitB "tuple" "int") = (some false) := by decide +kernel
theorem kit_tuple_str  : (kitB "tuple" "str") = (some false) := by decide +kernel
theorem kit_tuple_tuple  : (kitB "tuple" "tuple") = (some true) := by decide +kernel
theorem kit_tuple_list  : (kitB "tuple" "list") = (some false) := by decide +kernel
theorem kit_list_bool  : (kitB "list" "bool") = (some false) := by decide +kernel
theorem kit_list_int  : (kitB "list" "int") = (some false) := by decide +kernel
theorem kit_list_str  : (kitB "list" "str") = (some false) := by decide +kernel
theorem kit_list_tuple  : (kitB "list" "tuple") = (some false) := by decide +kernel
theorem kit_list_list  : (kitB "list" "list") = (some true) := by decide +kernel
theorem list1 {d : D} {S : Sto} : (dList [d] S) = (lstR S (seqOf d S)) := by show (match seqOf d S with | some xs => mkLst xs S | none => .bad) = _; cases seqOf d S <;> rfl
theorem lstR1 {xs : List D} {S : Sto} : (lstR S (some xs)) = (mkLst xs S) := rfl
theorem sq1 {xs : List D} {S : Sto} : (seqOf (.tup xs) S) = (some xs) := rfl
theorem sq3 {xs : List D} {S : Sto} : (seqOf (.kl xs) S) = (some xs) := rfl
theorem sl4 {xs : List D} {l h : Option Int} {S : Sto} : (dSl (.kl xs) l h S) = (mkLst (cutL xs l h) S) := rfl
theorem wk4 {xs : List D} {S : Sto} : (toWalk (.kl xs) S) = (.ok (xs, fun _ => True) S) := rfl
theorem sq2 {n : Nat} {S : Sto} : (seqOf (.obj n) S) = (lstOf S n) := rfl
theorem tup2 {n : Nat} {S : Sto} : (dTuple [.obj n] S) = (tupR S (lstOf S n)) := by show (match lstOf S n with | some xs => Res.ok (D.tup xs) S | none => .bad) = _; cases lstOf S n <;> rfl
theorem tupR1 {xs : List D} {S : Sto} : (tupR S (some xs)) = (.ok (.tup xs) S) := rfl
theorem sl2 {n : Nat} {l h : Option Int} {S : Sto} : (dSl (.obj n) l h S) = (slR l h S (lstOf S n)) := by show (match lstOf S n with | some xs => mkLst (cutL xs l h) S | none => .bad) = _; cases lstOf S n <;> rfl
theorem slR1 {xs : List D} {l h : Option Int} {S : Sto} : (slR l h S (some xs)) = (mkLst (cutL xs l h) S) := rfl
theorem app1 {n : Nat} {d : D} {S : Sto} : (mAppend (.obj n) [d] S) = (appO n d S S[n]?) := by show (match S[n]? with | some (.lst xs) => if xs.length < sizeLine then Res.ok D.non (S.set n (.lst (xs ++ [d]))) else .bad | _ => .bad) = _; cases S[n]? with | none => rfl | some o => cases o <;> rfl
theorem appO1 {n : Nat} {d : D} {xs : List D} {S : Sto} : (appO n d S (some (.lst xs))) = ((if xs.length < sizeLine then .ok .non (S.set n (.lst (xs ++ [d]))) else .bad)) := id rfl
theorem tym1 {T : String} {n : Nat} {S : Sto} : (tyM T (.obj n) S) = (tymO T S[n]?) := by show (match S[n]? with | some (.lst _) => T == "list" | some (.dk _) => T == "dict" | _ => false) = _; cases S[n]? with | none => rfl | some o => cases o <;> rfl
theorem tymO1 {T : String} {xs : List D} : (tymO T (some (.lst xs))) = ((T == "list")) := rfl
theorem tymO3 {T : String} {xs : List (Key × D)} : (tymO T (some (.dk xs))) = ((T == "dict")) := rfl
theorem tym2 {T : String} {z : Str} {S : Sto} : (tyM T (.str z) S) = ((T == "str")) := rfl
theorem in1 {k : Bool} {x : D} {ys : List D} {S : Sto} : (dIn k x (.tup ys) S) = (inR k S x.sc (scs ys)) := by cases h : scs ys <;> cases x <;> simp only [dIn, D.sc, h, inR]
theorem in2 {k : Bool} {x : D} {n : Nat} {S : Sto} : (dIn k x (.obj n) S) = (inR k S x.sc ((lstOf S n).bind scs)) := by cases h : (lstOf S n).bind scs <;> cases x <;> simp only [dIn, D.sc, h, inR]
theorem inR1 {k : Bool} {v : V} {vs : List V} {S : Sto} : (inR k S (some v) (some vs)) = (.ok (.bl (if k then !inV v vs else inV v vs)) S) := rfl
theorem sc1 {x : Str} : ((D.str x).sc) = (some (.str x)) := rfl
theorem sc2 {x : Int} : ((D.int x).sc) = (some (.int x)) := rfl
theorem wkL {n : Nat} {S : Sto} : (toWalk (.obj n) S) = (walkR n S (lstOf S n)) := by show (match lstOf S n with | some xs => Res.ok (xs, sameL n xs) S | none => .bad) = _; cases lstOf S n <;> rfl
theorem walkR1 {n : Nat} {xs : List D} {S : Sto} : (walkR n S (some xs)) = (.ok (xs, sameL n xs) S) := rfl
theorem setSelf {S : Sto} {n : Nat} {o : Ob} : ((S.set n o)[n]?) = (S[n]?.map fun _ => o) := by rw [List.getElem?_set_self']; rfl
theorem mapSome {o o' : Ob} : ((some o').map fun (_ : Ob) => o) = (some o) := rfl
theorem setNe {S : Sto} {n m : Nat} {o : Ob} (h : n ≠ m) : ((S.set n o)[m]?) = (S[m]?) := List.getElem?_set_ne h
theorem setSet {S : Sto} {n : Nat} {o o' : Ob} : ((S.set n o).set n o') = (S.set n o') := List.set_set ..
theorem appNew {S : Sto} {o : Ob} : ((S ++ [o])[S.length]?) = (some o) := List.getElem?_concat_length
theorem appOld {S : Sto} {o : Ob} {n : Nat} (h : n < S.length) : ((S ++ [o])[n]?) = (S[n]?) := List.getElem?_append_left h
theorem mkLst1 {xs : List D} {S : Sto} : (mkLst xs S) = ((if xs.length ≤ sizeLine then .ok (.obj S.length) (S ++ [.lst xs]) else .bad)) := id rfl
theorem mkTup1 {xs : List D} {S : Sto} : (mkTup xs S) = ((if xs.length ≤ sizeLine then .ok (.tup xs) S else .bad)) := id rfl
theorem ixN5_0  : (ixN 5 (0 : Int)) = (some 0) := rfl
theorem ixN5_1  : (ixN 5 (1 : Int)) = (some 1) := rfl
theorem ixN5_2  : (ixN 5 (2 : Int)) = (some 2) := rfl
theorem ixN5_3  : (ixN 5 (3 : Int)) = (some 3) := rfl
theorem ixN5_4  : (ixN 5 (4 : Int)) = (some 4) := rfl
theorem int1 {i : Int} {S : Sto} : (dInt [.int i] S) = (.ok (.int i) S) := rfl
theorem int2 {k : Bool} {S : Sto} : (dInt [.bl k] S) = (.ok (.int (if k then 1 else 0)) S) := rfl
theorem len1 {xs : List D} {S : Sto} : (dLen [.tup xs] S) = (.ok (.int xs.length) S) := rfl
theorem len2 {z : Str} {S : Sto} : (dLen [.str z] S) = ((if z.length ≤ sizeLine then .ok (.int z.length) S else .bad)) := id rfl
theorem ix3 {z : Str} {i : Int} {S : Sto} : (dIx (.str z) (.int i) S) = ((if z.length ≤ sizeLine then ixS S (atI z.cps.toList i) else .bad)) := by show (if z.length ≤ sizeLine then (match atI z.cps.toList i with | some c => Res.ok (D.str ⟨#[c]⟩) S | none => .bad) else .bad) = _; cases atI z.cps.toList i <;> rfl
theorem ixS1 {c : Nat} {S : Sto} : (ixS S (some c)) = (.ok (.str ⟨#[c]⟩) S) := rfl
theorem join1 {z : Str} {d : D} {S : Sto} : (mJoin (.str z) d S) = (joinR z S ((seqOf d S).bind asStrs)) := by unfold mJoin; cases (seqOf d S).bind asStrs <;> rfl
theorem joinR1 {z : Str} {ys : List Str} {S : Sto} : (joinR z S (some ys)) = ((if (ys.map (·.length)).sum + ys.length * z.length ≤ 16777216 then .ok (.str (Txt.join z ys)) S else .bad)) := id rfl
theorem neg1 {i : Int} {S : Sto} : (dNeg (.int i) S) = (.ok (.int (-i)) S) := rfl
theorem so1 {i : Int} {S : Sto} : (eSo1 (.int i) S) = (.ok (some i) S) := rfl
theorem sl1 {xs : List D} {l h : Option Int} {S : Sto} : (dSl (.tup xs) l h S) = (.ok (.tup (cutL xs l h)) S) := rfl
theorem sl3 {z : Str} {l h : Option Int} {S : Sto} : (dSl (.str z) l h S) = ((if z.length ≤ sizeLine then .ok (.str (cutS z l h)) S else .bad)) := id rfl
theorem abs1 {i : Int} {S : Sto} : (dAbs [.int i] S) = (.ok (.int (if i < 0 then -i else i)) S) := rfl
theorem max1 {i j : Int} {S : Sto} : (dMax2 [.int i, .int j] S) = (.ok (.int (if j > i then j else i)) S) := rfl
theorem min1 {i j : Int} {S : Sto} : (dMin2 [.int i, .int j] S) = (.ok (.int (if j < i then j else i)) S) := rfl
theorem str1 {i : Int} {S : Sto} : (dStr [.int i] S) = ((if i.natAbs.log2 < 1920 then .ok (.str (toString i)) S else .bad)) := id rfl
theorem ipI1 {g : Int → Int → Int} {i j : Int} {S : Sto} : (dIpI g (.int i) (.int j) S) = (.ok (.int (g i j)) S) := rfl
theorem for1 {g : DG} {body : DS} {items : List D} {still : Sto → Prop} {ρ : Env} {S : Sto} : (forR g body ρ (.ok (items, still) S)) = (dLoop still g body items ρ S) := rfl
theorem tgc1 {g : DG} {gs : DGs} {d : D} {r : List D} {ρ : Env} {S : Sto} : (tgCons g gs (d :: r) ρ S) = ((g d ρ S).bind (tgCons1 gs r S)) := rfl
theorem tgn1 {ρ : Env} {S : Sto} : (tgNil [] ρ S) = (some ρ) := rfl
theorem tgt1 {n : Nat} {gs : DGs} {ds : List D} {ρ : Env} {S : Sto} : (tgT n gs (.tup ds) ρ S) = ((if ds.length = n then gs ds ρ S else none)) := id rfl
theorem rng1 {j : Int} {S : Sto} : (toRng1 [.int j] S) = ((if OkR j then .ok (rng 0 j.toNat, fun _ => True) S else .bad)) := id rfl
theorem rng2 {i j : Int} {S : Sto} : (toRng2 [.int i, .int j] S) = ((if OkR i ∧ OkR j then .ok (rng i (j - i).toNat, fun _ => True) S else .bad)) := id rfl
theorem okr_0  : (OkR 0) = (True) := by exact eq_true ⟨by decide, by decide⟩
theorem okr_1  : (OkR 1) = (True) := by exact eq_true ⟨by decide, by decide⟩
theorem okr_2  : (OkR 2) = (True) := by exact eq_true ⟨by decide, by decide⟩
theorem okr_3  : (OkR 3) = (True) := by exact eq_true ⟨by decide, by decide⟩
theorem okr_4  : (OkR 4) = (True) := by exact eq_true ⟨by decide, by decide⟩
theorem okr_5  : (OkR 5) = (True) := by exact eq_true ⟨by decide, by decide⟩
theorem okr_6  : (OkR 6) = (True) := by exact eq_true ⟨by decide, by decide⟩
theorem okr_7  : (OkR 7) = (True) := by exact eq_true ⟨by decide, by decide⟩
theorem okr_8  : (OkR 8) = (True) := by exact eq_true ⟨by decide, by decide⟩
theorem okr_9  : (OkR 9) = (True) := by exact eq_true ⟨by decide, by decide⟩
theorem okr_10  : (OkR 10) = (True) := by exact eq_true ⟨by decide, by decide⟩
theorem okr_11  : (OkR 11) = (True) := by exact eq_true ⟨by decide, by decide⟩
theorem okr_12  : (OkR 12) = (True) := by exact eq_true ⟨by decide, by decide⟩
theorem okr_13  : (OkR 13) = (True) := by exact eq_true ⟨by decide, by decide⟩
theorem okr_14  : (OkR 14) = (True) := by exact eq_true ⟨by decide, by decide⟩
theorem okr_15  : (OkR 15) = (True) := by exact eq_true ⟨by decide, by decide⟩
theorem okr_16  : (OkR 16) = (True) := by exact eq_true ⟨by decide, by decide⟩
theorem okr_17  : (OkR 17) = (True) := by exact eq_true ⟨by decide, by decide⟩
theorem okr_18  : (OkR 18) = (True) := by exact eq_true ⟨by decide, by decide⟩
theorem okr_19  : (OkR 19) = (True) := by exact eq_true ⟨by decide, by decide⟩
theorem okr_20  : (OkR 20) = (True) := by exact eq_true ⟨by decide, by decide⟩
theorem okr_21  : (OkR 21) = (True) := by exact eq_true ⟨by decide, by decide⟩
theorem okr_22  : (OkR 22) = (True) := by exact eq_true ⟨by decide, by decide⟩
theorem okr_23  : (OkR 23) = (True) := by exact eq_true ⟨by decide, by decide⟩
theorem okr_24  : (OkR 24) = (True) := by exact eq_true ⟨by decide, by decide⟩
theorem okr_25  : (OkR 25) = (True) := by exact eq_true ⟨by decide, by decide⟩
theorem okr_26  : (OkR 26) = (True) := by exact eq_true ⟨by decide, by decide⟩
theorem okr_27  : (OkR 27) = (True) := by exact eq_true ⟨by decide, by decide⟩
theorem okr_28  : (OkR 28) = (True) := by exact eq_true ⟨by decide, by decide⟩
theorem okr_29  : (OkR 29) = (True) := by exact eq_true ⟨by decide, by decide⟩
theorem okr_30  : (OkR 30) = (True) := by exact eq_true ⟨by decide, by decide⟩
theorem okr_31  : (OkR 31) = (True) := by exact eq_true ⟨by decide, by decide⟩
theorem okr_32  : (OkR 32) = (True) := by exact eq_true ⟨by decide, by decide⟩
theorem okr_33  : (OkR 33) = (True) := by exact eq_true ⟨by decide, by decide⟩
theorem okr_34  : (OkR 34) = (True) := by exact eq_true ⟨by decide, by decide⟩
theorem okr_35  : (OkR 35) = (True) := by exact eq_true ⟨by decide, by decide⟩
theorem okr_36  : (OkR 36) = (True) := by exact eq_true ⟨by decide, by decide⟩
theorem okr_37  : (OkR 37) = (True) := by exact eq_true ⟨by decide, by decide⟩
theorem okr_38  : (OkR 38) = (True) := by exact eq_true ⟨by decide, by decide⟩
theorem okr_39  : (OkR 39) = (True) := by exact eq_true ⟨by decide, by decide⟩
theorem okr_40  : (OkR 40) = (True) := by exact eq_true ⟨by decide, by decide⟩
theorem okr_41  : (OkR 41) = (True) := by exact eq_true ⟨by decide, by decide⟩
theorem okr_42  : (OkR 42) = (True) := by exact eq_true ⟨by decide, by decide⟩
theorem okr_43  : (OkR 43) = (True) := by exact eq_true ⟨by decide, by decide⟩
theorem okr_44  : (OkR 44) = (True) := by exact eq_true ⟨by decide, by decide⟩
theorem okr_45  : (OkR 45) = (True) := by exact eq_true ⟨by decide, by decide⟩
theorem okr_46  : (OkR 46) = (True) := by exact eq_true ⟨by decide, by decide⟩
theorem okr_47  : (OkR 47) = (True) := by exact eq_true ⟨by decide, by decide⟩
theorem okr_48  : (OkR 48) = (True) := by exact eq_true ⟨by decide, by decide⟩
theorem okr_49  : (OkR 49) = (True) := by exact eq_true ⟨by decide, by decide⟩
theorem okr_50  : (OkR 50) = (True) := by exact eq_true ⟨by decide, by decide⟩
theorem okr_51  : (OkR 51) = (True) := by exact eq_true ⟨by decide, by decide⟩
theorem okr_52  : (OkR 52) = (True) := by exact eq_true ⟨by decide, by decide⟩
theorem okr_53  : (OkR 53) = (True) := by exact eq_true ⟨by decide, by decide⟩
theorem okr_54  : (OkR 54) = (True) := by exact eq_true ⟨by decide, by decide⟩
theorem okr_55  : (OkR 55) = (True) := by exact eq_true ⟨by decide, by decide⟩
theorem okr_56  : (OkR 56) = (True) := by exact eq_true ⟨by decide, by decide⟩
theorem okr_57  : (OkR 57) = (True) := by exact eq_true ⟨by decide, by decide⟩
theorem okr_58  : (OkR 58) = (True) := by exact eq_true ⟨by decide, by decide⟩
theorem okr_59  : (OkR 59) = (True) := by exact eq_true ⟨by decide, by decide⟩
theorem okr_60  : (OkR 60) = (True) := by exact eq_true ⟨by decide, by decide⟩
theorem okr_61  : (OkR 61) = (True) := by exact eq_true ⟨by decide, by decide⟩
theorem okr_62  : (OkR 62) = (True) := by exact eq_true ⟨by decide, by decide⟩
theorem okr_63  : (OkR 63) = (True) := by exact eq_true ⟨by decide, by decide⟩
theorem okr_64  : (OkR 64) = (True) := by exact eq_true ⟨by decide, by decide⟩
theorem okr_65  : (OkR 65) = (True) := by exact eq_true ⟨by decide, by decide⟩
theorem okr_66  : (OkR 66) = (True) := by exact eq_true ⟨by decide, by decide⟩
theorem okr_67  : (OkR 67) = (True) := by exact eq_true ⟨by decide, by decide⟩
theorem okr_68  : (OkR 68) = (True) := by exact eq_true ⟨by decide, by decide⟩
theorem okr_69  : (OkR 69) = (True) := by exact eq_true ⟨by decide, by decide⟩
theorem okr_70  : (OkR 70) = (True) := by exact eq_true ⟨by decide, by decide⟩
theorem okr_71  : (OkR 71) = (True) := by exact eq_true ⟨by decide, by decide⟩
theorem okr_72  : (OkR 72) = (True) := by exact eq_true ⟨by decide, by decide⟩
theorem okr_73  : (OkR 73) = (True) := by exact eq_true ⟨by decide, by decide⟩
theorem okr_74  : (OkR 74) = (True) := by exact eq_true ⟨by decide, by decide⟩
theorem okr_75  : (OkR 75) = (True) := by exact eq_true ⟨by decide, by decide⟩
theorem okr_76  : (OkR 76) = (True) := by exact eq_true ⟨by decide, by decide⟩
theorem okr_77  : (OkR 77) = (True) := by exact eq_true ⟨by decide, by decide⟩
theorem okr_78  : (OkR 78) = (True) := by exact eq_true ⟨by decide, by decide⟩
theorem okr_79  : (OkR 79) = (True) := by exact eq_true ⟨by decide, by decide⟩
theorem okr_80  : (OkR 80) = (True) := by exact eq_true ⟨by decide, by decide⟩
theorem okr_81  : (OkR 81) = (True) := by exact eq_true ⟨by decide, by decide⟩
theorem okr_82  : (OkR 82) = (True) := by exact eq_true ⟨by decide, by decide⟩
theorem okr_83  : (OkR 83) = (True) := by exact eq_true ⟨by decide, by decide⟩
theorem okr_84  : (OkR 84) = (True) := by exact eq_true ⟨by decide, by decide⟩
theorem okr_85  : (OkR 85) = (True) := by exact eq_true ⟨by decide, by decide⟩
theorem okr_86  : (OkR 86) = (True) := by exact eq_true ⟨by decide, by decide⟩
theorem okr_87  : (OkR 87) = (True) := by exact eq_true ⟨by decide, by decide⟩
theorem okr_88  : (OkR 88) = (True) := by exact eq_true ⟨by decide, by decide⟩
theorem okr_89  : (OkR 89) = (True) := by exact eq_true ⟨by decide, by decide⟩
theorem okr_90  : (OkR 90) = (True) := by exact eq_true ⟨by decide, by decide⟩
theorem okr_91  : (OkR 91) = (True) := by exact eq_true ⟨by decide, by decide⟩
theorem okr_92  : (OkR 92) = (True) := by exact eq_true ⟨by decide, by decide⟩
theorem okr_93  : (OkR 93) = (True) := by exact eq_true ⟨by decide, by decide⟩
theorem okr_94  : (OkR 94) = (True) := by exact eq_true ⟨by decide, by decide⟩
theorem okr_95  : (OkR 95) = (True) := by exact eq_true ⟨by decide, by decide⟩
theorem okr_96  : (OkR 96) = (True) := by exact eq_true ⟨by decide, by decide⟩
theorem okr_97  : (OkR 97) = (True) := by exact eq_true ⟨by decide, by decide⟩
theorem okr_98  : (OkR 98) = (True) := by exact eq_true ⟨by decide, by decide⟩
theorem okr_99  : (OkR 99) = (True) := by exact eq_true ⟨by decide, by decide⟩
theorem okr_100  : (OkR 100) = (True) := by exact eq_true ⟨by decide, by decide⟩
theorem okr_101  : (OkR 101) = (True) := by exact eq_true ⟨by decide, by decide⟩
theorem okr_102  : (OkR 102) = (True) := by exact eq_true ⟨by decide, by decide⟩
theorem okr_103  : (OkR 103) = (True) := by exact eq_true ⟨by decide, by decide⟩
theorem okr_104  : (OkR 104) = (True) := by exact eq_true ⟨by decide, by decide⟩
theorem okr_105  : (OkR 105) = (True) := by exact eq_true ⟨by decide, by decide⟩
theorem okr_106  : (OkR 106) = (True) := by exact eq_true ⟨by decide, by decide⟩
theorem okr_107  : (OkR 107) = (True) := by exact eq_true ⟨by decide, by decide⟩
theorem okr_108  : (OkR 108) = (True) := by exact eq_true ⟨by decide, by decide⟩
theorem okr_109  : (OkR 109) = (True) := by exact eq_true ⟨by decide, by decide⟩
theorem okr_110  : (OkR 110) = (True) := by exact eq_true ⟨by decide, by decide⟩
theorem okr_111  : (OkR 111) = (True) := by exact eq_true ⟨by decide, by decide⟩
theorem okr_112  : (OkR 112) = (True) := by exact eq_true ⟨by decide, by decide⟩
theorem okr_113  : (OkR 113) = (True) := by exact eq_true ⟨by decide, by decide⟩
theorem okr_114  : (OkR 114) = (True) := by exact eq_true ⟨by decide, by decide⟩
theorem okr_115  : (OkR 115) = (True) := by exact eq_true ⟨by decide, by decide⟩
theorem okr_116  : (OkR 116) = (True) := by exact eq_true ⟨by decide, by decide⟩
theorem okr_117  : (OkR 117) = (True) := by exact eq_true ⟨by decide, by decide⟩
theorem okr_118  : (OkR 118) = (True) := by exact eq_true ⟨by decide, by decide⟩
theorem okr_119  : (OkR 119) = (True) := by exact eq_true ⟨by decide, by decide⟩
theorem okr_120  : (OkR 120) = (True) := by exact eq_true ⟨by decide, by decide⟩
theorem okr_121  : (OkR 121) = (True) := by exact eq_true ⟨by decide, by decide⟩
theorem okr_122  : (OkR 122) = (True) := by exact eq_true ⟨by decide, by decide⟩
theorem okr_123  : (OkR 123) = (True) := by exact eq_true ⟨by decide, by decide⟩
theorem okr_124  : (OkR 124) = (True) := by exact eq_true ⟨by decide, by decide⟩
theorem okr_125  : (OkR 125) = (True) := by exact eq_true ⟨by decide, by decide⟩
theorem okr_126  : (OkR 126) = (True) := by exact eq_true ⟨by decide, by decide⟩
theorem okr_127  : (OkR 127) = (True) := by exact eq_true ⟨by decide, by decide⟩
theorem okr_128  : (OkR 128) = (True) := by exact eq_true ⟨by decide, by decide⟩
theorem okr_129  : (OkR 129) = (True) := by exact eq_true ⟨by decide, by decide⟩
theorem okr_150  : (OkR 150) = (True) := by exact eq_true ⟨by decide, by decide⟩
theorem okr_200  : (OkR 200) = (True) := by exact eq_true ⟨by decide, by decide⟩
theorem okr_250  : (OkR 250) = (True) := by exact eq_true ⟨by decide, by decide⟩
theorem okr_256  : (OkR 256) = (True) := by exact eq_true ⟨by decide, by decide⟩
theorem okr_300  : (OkR 300) = (True) := by exact eq_true ⟨by decide, by decide⟩
theorem okr_400  : (OkR 400) = (True) := by exact eq_true ⟨by decide, by decide⟩
theorem okr_500  : (OkR 500) = (True) := by exact eq_true ⟨by decide, by decide⟩
theorem okr_1000  : (OkR 1000) = (True) := by exact eq_true ⟨by decide, by decide⟩
theorem okr2 {n : Nat} (h : n ≤ sizeLine) : (OkR ((n : Nat) : Int)) = (True) := by rw [sizeLine_eq] at h; exact eq_true ⟨by omega, by omega⟩
theorem wkT {xs : List D} {S : Sto} : (toWalkT (.tup xs) S) = (.ok (xs, fun _ => True) S) := rfl
theorem wkS {z : Str} {S : Sto} : (toWalkS (.str z) S) = (.ok (signs z, fun _ => True) S) := rfl
theorem wh1 {k : DS} {ρ : Env} {S : Sto} : (whR k (.nx ρ S)) = (k ρ S) := rfl
theorem wh2 {k : DS} {ρ : Env} {S : Sto} : (whR k (.ct ρ S)) = (k ρ S) := rfl
theorem wh3 {k : DS} {ρ : Env} {S : Sto} : (whR k (.bk ρ S)) = (.nx ρ S) := rfl
theorem wh4 {k : DS} {d : D} {S : Sto} : (whR k (.rt d S)) = (.rt d S) := rfl
theorem wt1 {b k : DS} {ρ : Env} {S : Sto} : (whT b k ρ (.ok true S)) = (whR k (b ρ S)) := rfl
theorem wt2 {b k : DS} {ρ : Env} {S : Sto} : (whT b k ρ (.ok false S)) = (.nx ρ S) := rfl
theorem tr1 {m : Mat} {s : DS} {c : Str} {fs : List (Str × D)} {ρ : Env} {S : Sto} : (tryR m s (.exc c fs ρ S)) = (tryM s c fs ρ S (m.lookup c)) := rfl
theorem tr2 {m : Mat} {s : DS} {ρ : Env} {S : Sto} : (tryR m s (.nx ρ S)) = (.nx ρ S) := rfl
theorem tr3 {m : Mat} {s : DS} {d : D} {S : Sto} : (tryR m s (.rt d S)) = (.rt d S) := rfl
theorem tm1 {s : DS} {c : Str} {fs : List (Str × D)} {ρ : Env} {S : Sto} : (tryM s c fs ρ S (some true)) = (s ρ S) := rfl
theorem tm2 {s : DS} {c : Str} {fs : List (Str × D)} {ρ : Env} {S : Sto} : (tryM s c fs ρ S (some false)) = (.exc c fs ρ S) := rfl
theorem cend1 {xs : List D} {S : Sto} : (cEnd (.ok xs S)) = (mkLst xs S) := rfl
theorem ccmp1 {g : DG} {t : DT} {e : DE} {ρ : Env} {items : List D} {still : Sto → Prop} {S : Sto} : (dComp1 g t e ρ (items, still) S) = (cEnd (cLoop still g t e ρ items S)) := rfl
theorem chd1 {x : D} {xs : List D} {S : Sto} : (cHead x (.ok xs S)) = (.ok (x :: xs) S) := rfl
theorem cel1 {still : Sto → Prop} {k : Sto → Res (List D)} {x : D} {S : Sto} : (cElt still k (.ok x S)) = (cHead x (cSkip still k S)) := rfl
theorem cts1 {still : Sto → Prop} {e : DE} {k : Sto → Res (List D)} {ρ : Env} {S : Sto} : (cTest still e k ρ (.ok true S)) = (cElt still k (e ρ S)) := rfl
theorem cts2 {still : Sto → Prop} {e : DE} {k : Sto → Res (List D)} {ρ : Env} {S : Sto} : (cTest still e k ρ (.ok false S)) = (cSkip still k S) := rfl
theorem ctg1 {still : Sto → Prop} {t : DT} {e : DE} {k : Sto → Res (List D)} {ρ : Env} {S : Sto} : (cTg still t e k S (some ρ)) = (cTest still e k ρ (t ρ S)) := rfl
theorem m11 {f : D → D → Sto → Res D} {da : DE} {z : Str} {ρ : Env} {S : Sto} : (eM11 f da ρ (.str z) S) = ((da ρ S).bind (f (.str z))) := rfl
theorem mulr {i j : Int} (h : j.natAbs < 2 ^ 64) : (MulOk i j) = (True) := by exact eq_true (.inr (.inl h))
theorem mull {i j : Int} (h : i.natAbs < 2 ^ 64) : (MulOk i j) = (True) := by exact eq_true (.inl h)
theorem get0 {α : Type} {x : α} {l : List α} : ((x :: l)[0]?) = (some x) := rfl
theorem at0 {x0 : D} {l : List D} : (atI (x0 :: l) 0) = (some x0) := atI_nat (j := 0) rfl
theorem get1 {α : Type} {x0 x1 : α} {l : List α} : ((x0 :: x1 :: l)[1]?) = (some x1) := rfl
theorem at1 {x0 x1 : D} {l : List D} : (atI (x0 :: x1 :: l) 1) = (some x1) := atI_nat (j := 1) rfl
theorem get2 {α : Type} {x0 x1 x2 : α} {l : List α} : ((x0 :: x1 :: x2 :: l)[2]?) = (some x2) := rfl
theorem at2 {x0 x1 x2 : D} {l : List D} : (atI (x0 :: x1 :: x2 :: l) 2) = (some x2) := atI_nat (j := 2) rfl
theorem get3 {α : Type} {x0 x1 x2 x3 : α} {l : List α} : ((x0 :: x1 :: x2 :: x3 :: l)[3]?) = (some x3) := rfl
theorem at3 {x0 x1 x2 x3 : D} {l : List D} : (atI (x0 :: x1 :: x2 :: x3 :: l) 3) = (some x3) := atI_nat (j := 3) rfl
theorem get4 {α : Type} {x0 x1 x2 x3 x4 : α} {l : List α} : ((x0 :: x1 :: x2 :: x3 :: x4 :: l)[4]?) = (some x4) := rfl
theorem at4 {x0 x1 x2 x3 x4 : D} {l : List D} : (atI (x0 :: x1 :: x2 :: x3 :: x4 :: l) 4) = (some x4) := atI_nat (j := 4) rfl
theorem get5 {α : Type} {x0 x1 x2 x3 x4 x5 : α} {l : List α} : ((x0 :: x1 :: x2 :: x3 :: x4 :: x5 :: l)[5]?) = (some x5) := rfl
theorem at5 {x0 x1 x2 x3 x4 x5 : D} {l : List D} : (atI (x0 :: x1 :: x2 :: x3 :: x4 :: x5 :: l) 5) = (some x5) := atI_nat (j := 5) rfl
theorem get6 {α : Type} {x0 x1 x2 x3 x4 x5 x6 : α} {l : List α} : ((x0 :: x1 :: x2 :: x3 :: x4 :: x5 :: x6 :: l)[6]?) = (some x6) := rfl
theorem at6 {x0 x1 x2 x3 x4 x5 x6 : D} {l : List D} : (atI (x0 :: x1 :: x2 :: x3 :: x4 :: x5 :: x6 :: l) 6) = (some x6) := atI_nat (j := 6) rfl
theorem get7 {α : Type} {x0 x1 x2 x3 x4 x5 x6 x7 : α} {l : List α} : ((x0 :: x1 :: x2 :: x3 :: x4 :: x5 :: x6 :: x7 :: l)[7]?) = (some x7) := rfl
theorem at7 {x0 x1 x2 x3 x4 x5 x6 x7 : D} {l : List D} : (atI (x0 :: x1 :: x2 :: x3 :: x4 :: x5 :: x6 :: x7 :: l) 7) = (some x7) := atI_nat (j := 7) rfl
theorem get8 {α : Type} {x0 x1 x2 x3 x4 x5 x6 x7 x8 : α} {l : List α} : ((x0 :: x1 :: x2 :: x3 :: x4 :: x5 :: x6 :: x7 :: x8 :: l)[8]?) = (some x8) := rfl
theorem at8 {x0 x1 x2 x3 x4 x5 x6 x7 x8 : D} {l : List D} : (atI (x0 :: x1 :: x2 :: x3 :: x4 :: x5 :: x6 :: x7 :: x8 :: l) 8) = (some x8) := atI_nat (j := 8) rfl
theorem get9 {α : Type} {x0 x1 x2 x3 x4 x5 x6 x7 x8 x9 : α} {l : List α} : ((x0 :: x1 :: x2 :: x3 :: x4 :: x5 :: x6 :: x7 :: x8 :: x9 :: l)[9]?) = (some x9) := rfl
theorem at9 {x0 x1 x2 x3 x4 x5 x6 x7 x8 x9 : D} {l : List D} : (atI (x0 :: x1 :: x2 :: x3 :: x4 :: x5 :: x6 :: x7 :: x8 :: x9 :: l) 9) = (some x9) := atI_nat (j := 9) rfl
theorem get10 {α : Type} {x0 x1 x2 x3 x4 x5 x6 x7 x8 x9 x10 : α} {l : List α} : ((x0 :: x1 :: x2 :: x3 :: x4 :: x5 :: x6 :: x7 :: x8 :: x9 :: x10 :: l)[10]?) = (some x10) := rfl
theorem at10 {x0 x1 x2 x3 x4 x5 x6 x7 x8 x9 x10 : D} {l : List D} : (atI (x0 :: x1 :: x2 :: x3 :: x4 :: x5 :: x6 :: x7 :: x8 :: x9 :: x10 :: l) 10) = (some x10) := atI_nat (j := 10) rfl
theorem get11 {α : Type} {x0 x1 x2 x3 x4 x5 x6 x7 x8 x9 x10 x11 : α} {l : List α} : ((x0 :: x1 :: x2 :: x3 :: x4 :: x5 :: x6 :: x7 :: x8 :: x9 :: x10 :: x11 :: l)[11]?) = (some x11) := rfl
theorem at11 {x0 x1 x2 x3 x4 x5 x6 x7 x8 x9 x10 x11 : D} {l : List D} : (atI (x0 :: x1 :: x2 :: x3 :: x4 :: x5 :: x6 :: x7 :: x8 :: x9 :: x10 :: x11 :: l) 11) = (some x11) := atI_nat (j := 11) rfl
theorem get12 {α : Type} {x0 x1 x2 x3 x4 x5 x6 x7 x8 x9 x10 x11 x12 : α} {l : List α} : ((x0 :: x1 :: x2 :: x3 :: x4 :: x5 :: x6 :: x7 :: x8 :: x9 :: x10 :: x11 :: x12 :: l)[12]?) = (some x12) := rfl
theorem at12 {x0 x1 x2 x3 x4 x5 x6 x7 x8 x9 x10 x11 x12 : D} {l : List D} : (atI (x0 :: x1 :: x2 :: x3 :: x4 :: x5 :: x6 :: x7 :: x8 :: x9 :: x10 :: x11 :: x12 :: l) 12) = (some x12) := atI_nat (j := 12) rfl
theorem get13 {α : Type} {x0 x1 x2 x3 x4 x5 x6 x7 x8 x9 x10 x11 x12 x13 : α} {l : List α} : ((x0 :: x1 :: x2 :: x3 :: x4 :: x5 :: x6 :: x7 :: x8 :: x9 :: x10 :: x11 :: x12 :: x13 :: l)[13]?) = (some x13) := rfl
theorem at13 {x0 x1 x2 x3 x4 x5 x6 x7 x8 x9 x10 x11 x12 x13 : D} {l : List D} : (atI (x0 :: x1 :: x2 :: x3 :: x4 :: x5 :: x6 :: x7 :: x8 :: x9 :: x10 :: x11 :: x12 :: x13 :: l) 13) = (some x13) := atI_nat (j := 13) rfl
theorem isn1 {S : Sto} : (dIsN .non S) = (.ok (.bl true) S) := rfl
theorem isn_bl {x : Bool} {S : Sto} : (dIsN (.bl x) S) = (.ok (.bl false) S) := rfl
theorem ntn_bl {x : Bool} {S : Sto} : (dNotN (.bl x) S) = (.ok (.bl true) S) := rfl
theorem isn_int {x : Int} {S : Sto} : (dIsN (.int x) S) = (.ok (.bl false) S) := rfl
theorem ntn_int {x : Int} {S : Sto} : (dNotN (.int x) S) = (.ok (.bl true) S) := rfl
theorem isn_str {x : Str} {S : Sto} : (dIsN (.str x) S) = (.ok (.bl false) S) := rfl
theorem ntn_str {x : Str} {S : Sto} : (dNotN (.str x) S) = (.ok (.bl true) S) := rfl
theorem isn_tup {x : List D} {S : Sto} : (dIsN (.tup x) S) = (.ok (.bl false) S) := rfl
theorem ntn_tup {x : List D} {S : Sto} : (dNotN (.tup x) S) = (.ok (.bl true) S) := rfl
theorem isn_obj {x : Nat} {S : Sto} : (dIsN (.obj x) S) = (.ok (.bl false) S) := rfl
theorem ntn_obj {x : Nat} {S : Sto} : (dNotN (.obj x) S) = (.ok (.bl true) S) := rfl
theorem ntn1 {S : Sto} : (dNotN .non S) = (.ok (.bl false) S) := rfl
theorem tup1 {xs : List D} {S : Sto} : (dTuple [.tup xs] S) = (.ok (.tup xs) S) := rfl
end Ev
theorem get_put {S : Sto} {p : Nat} {o o' : Ob} (h : S[p]? = some o) : (S.set p o')[p]? = some o' := List.getElem?_set_self (lt_of_get h)
theorem get_put_ne {S : Sto} {p q : Nat} {o' : Ob} (h : p ≠ q) : (S.set p o')[q]? = S[q]? := List.getElem?_set_ne h
theorem put_put {S : Sto} {p : Nat} {o o' : Ob} : (S.set p o).set p o' = S.set p o' := List.set_set ..
theorem lstOf_lst {S : Sto} {n : Nat} {xs : List D} (h : S[n]? = some (.lst xs)) : lstOf S n = some xs := by unfold lstOf; rw [h]
theorem ixN_nat {n j : Nat} (h : j < n) : ixN n (j : Int) = some j := by
  unfold ixN
  rw [if_pos (by omega), if_pos (by omega), Int.toNat_natCast]
theorem ix_lst {S : Sto} {n : Nat} {i : Int} {xs : List D} (h : S[n]? = some (.lst xs)) : dIx (.obj n) (.int i) S = Ev.ixA S (atI xs i) := by
  rw [Ev.ix2, h]; rfl
theorem len_lst {S : Sto} {n : Nat} {xs : List D} (h : S[n]? = some (.lst xs)) : dLen [.obj n] S = .ok (.int xs.length) S := by
  show (match S[n]? with | some (.lst xs) => Res.ok (D.int xs.length) S | some (.dk xs) => .ok (D.int xs.length) S | _ => .bad) = _
  rw [h]
theorem ixN_lit (n i : Nat) : ixN n (i : Int) = if i < n then some i else none := by
  unfold ixN
  rw [if_pos (by omega)]
  by_cases h : i < n
  · rw [if_pos (by omega), if_pos h, Int.toNat_natCast]
  · rw [if_neg (by omega), if_neg h]

theorem run0 {m : Nat} {body : DS} {S : Sto} : runD 0 m body [] S = endR (body ([] ++ List.replicate (m - 0) none) S) := if_pos rfl
theorem run1 {m : Nat} {body : DS} {a0 : D} {S : Sto} : runD 1 m body [a0] S = endR (body ([some a0] ++ List.replicate (m - 1) none) S) := if_pos rfl
theorem run2 {m : Nat} {body : DS} {a0 a1 : D} {S : Sto} : runD 2 m body [a0, a1] S = endR (body ([some a0, some a1] ++ List.replicate (m - 2) none) S) := if_pos rfl
theorem run3 {m : Nat} {body : DS} {a0 a1 a2 : D} {S : Sto} : runD 3 m body [a0, a1, a2] S = endR (body ([some a0, some a1, some a2] ++ List.replicate (m - 3) none) S) := if_pos rfl
theorem run4 {m : Nat} {body : DS} {a0 a1 a2 a3 : D} {S : Sto} : runD 4 m body [a0, a1, a2, a3] S = endR (body ([some a0, some a1, some a2, some a3] ++ List.replicate (m - 4) none) S) := if_pos rfl
theorem run5 {m : Nat} {body : DS} {a0 a1 a2 a3 a4 : D} {S : Sto} : runD 5 m body [a0, a1, a2, a3, a4] S = endR (body ([some a0, some a1, some a2, some a3, some a4] ++ List.replicate (m - 5) none) S) := if_pos rfl
theorem seq_cut {s t : DS} {ρ : Env} {S : Sto} (G : RS → Prop) (P : Env → Sto → Prop) (h1 : ∃ ρ' S', s ρ S = .nx ρ' S' ∧ P ρ' S') (h2 : ∀ ρ' S', P ρ' S' → G (t ρ' S')) : G (dSeq s t ρ S) := by
  obtain ⟨ρ', S', e, p⟩ := h1
  unfold dSeq
  rw [e]
  exact h2 ρ' S' p
theorem seqR_cut {r : RS} {t : DS} (G : RS → Prop) (P : Env → Sto → Prop) (h1 : ∃ ρ' S', r = .nx ρ' S' ∧ P ρ' S') (h2 : ∀ ρ' S', P ρ' S' → G (t ρ' S')) : G (seqR t r) := by
  obtain ⟨ρ', S', e, p⟩ := h1
  rw [e]
  exact h2 ρ' S' p
/-- a loop that goes to its end -/
theorem loop_nx {still : Sto → Prop} {g : DG} {body : DS} (P : List D → Env → Sto → Prop)
    (turn : ∀ d r ρ S, P (d :: r) ρ S → ∃ ρ1, g d ρ S = some ρ1 ∧ ∃ ρ2 S2, (body ρ1 S = .nx ρ2 S2 ∨ body ρ1 S = .ct ρ2 S2) ∧ still S2 ∧ P r ρ2 S2) :
    ∀ (items : List D) (ρ : Env) (S : Sto), P items ρ S → ∃ ρ' S', dLoop still g body items ρ S = .nx ρ' S' ∧ P [] ρ' S'
  | [], ρ, S, h => ⟨ρ, S, rfl, h⟩
  | d :: r, ρ, S, h => by
    obtain ⟨ρ1, e1, ρ2, S2, e2, hs, p⟩ := turn d r ρ S h
    obtain ⟨ρ', S', e3, p3⟩ := loop_nx P turn r ρ2 S2 p
    refine ⟨ρ', S', ?_, p3⟩
    unfold dLoop
    rw [e1]
    unfold turnG
    dsimp only
    rcases e2 with e2 | e2
    · rw [e2]
      unfold turnR
      dsimp only
      rw [if_pos hs]
      exact e3
    · rw [e2]
      unfold turnR
      dsimp only
      rw [if_pos hs]
      exact e3
/-- a loop that may be left by a return or a break -/
theorem loop_out {still : Sto → Prop} {g : DG} {body : DS} (P : List D → Env → Sto → Prop) (R : RS → Prop)
    (turn : ∀ d r ρ S, P (d :: r) ρ S → ∃ ρ1, g d ρ S = some ρ1 ∧ ((∃ ρ2 S2, (body ρ1 S = .nx ρ2 S2 ∨ body ρ1 S = .ct ρ2 S2) ∧ still S2 ∧ P r ρ2 S2) ∨ (∃ ρ2 S2, body ρ1 S = .bk ρ2 S2 ∧ R (.nx ρ2 S2)) ∨ (∃ d2 S2, body ρ1 S = .rt d2 S2 ∧ R (.rt d2 S2)) ∨ ∃ c fs ρ2 S2, body ρ1 S = .exc c fs ρ2 S2 ∧ R (.exc c fs ρ2 S2)))
    (fin : ∀ ρ S, P [] ρ S → R (.nx ρ S)) :
    ∀ (items : List D) (ρ : Env) (S : Sto), P items ρ S → R (dLoop still g body items ρ S)
  | [], ρ, S, h => fin ρ S h
  | d :: r, ρ, S, h => by
    obtain ⟨ρ1, e1, h2⟩ := turn d r ρ S h
    unfold dLoop
    rw [e1]
    unfold turnG
    dsimp only
    rcases h2 with ⟨ρ2, S2, e2, hs, p⟩ | ⟨ρ2, S2, e2, p⟩ | ⟨d2, S2, e2, p⟩ | ⟨c, fs, ρ2, S2, e2, p⟩
    · rcases e2 with e2 | e2
      · rw [e2]
        unfold turnR
        dsimp only
        rw [if_pos hs]
        exact loop_out P R turn fin r ρ2 S2 p
      · rw [e2]
        unfold turnR
        dsimp only
        rw [if_pos hs]
        exact loop_out P R turn fin r ρ2 S2 p
    · rw [e2]; exact p
    · rw [e2]; exact p
    · rw [e2]; exact p
/-- a comprehension's turns -/
theorem cLoop_ok {still : Sto → Prop} {g : DG} {t : DT} {e : DE} {ρ : Env} (P : List D → List D → Sto → Prop)
    (turn : ∀ d r acc S, P (d :: r) acc S → ∃ ρ1, g d ρ S = some ρ1 ∧ ((∃ S1 x S2, t ρ1 S = .ok true S1 ∧ e ρ1 S1 = .ok x S2 ∧ still S2 ∧ P r (acc ++ [x]) S2) ∨ ∃ S1, t ρ1 S = .ok false S1 ∧ still S1 ∧ P r acc S1)) :
    ∀ (items acc : List D) (S : Sto), P items acc S → ∃ xs S', cLoop still g t e ρ items S = .ok xs S' ∧ P [] (acc ++ xs) S'
  | [], acc, S, h => ⟨[], S, rfl, by rw [List.append_nil]; exact h⟩
  | d :: r, acc, S, h => by
    obtain ⟨ρ1, e1, h2⟩ := turn d r acc S h
    unfold cLoop
    rw [e1]
    rcases h2 with ⟨S1, x, S2, h3, h4, hs, p⟩ | ⟨S1, h3, hs, p⟩
    · obtain ⟨xs, S', e5, p5⟩ := cLoop_ok P turn r (acc ++ [x]) S2 p
      refine ⟨x :: xs, S', ?_, by rw [List.append_assoc] at p5; exact p5⟩
      show cTest still e _ ρ1 (t ρ1 S) = _
      rw [h3]
      show cElt still _ (e ρ1 S1) = _
      rw [h4]
      show cHead x (cSkip still _ S2) = _
      unfold cSkip
      rw [if_pos hs, e5]
      rfl
    · obtain ⟨xs, S', e5, p5⟩ := cLoop_ok P turn r acc S1 p
      refine ⟨xs, S', ?_, p5⟩
      show cTest still e _ ρ1 (t ρ1 S) = _
      rw [h3]
      show cSkip still _ S1 = _
      unfold cSkip
      rw [if_pos hs]
      exact e5
/-- a while by a measure -/
theorem while_nx {t : DT} {body : DS} (P : Env → Sto → Prop) (μ : Env → Sto → Nat)
    (turn : ∀ ρ S, P ρ S → (∃ S1, t ρ S = .ok false S1 ∧ True) ∨ ∃ S1 ρ2 S2, t ρ S = .ok true S1 ∧ (body ρ S1 = .nx ρ2 S2 ∨ body ρ S1 = .ct ρ2 S2) ∧ μ ρ2 S2 < μ ρ S ∧ P ρ2 S2) :
    ∀ (n : Nat) (ρ : Env) (S : Sto), μ ρ S < n → P ρ S → ∃ ρ0 S0 S', dWhile n t body ρ S = .nx ρ0 S' ∧ P ρ0 S0 ∧ t ρ0 S0 = .ok false S'
  | 0, ρ, S, h, _ => absurd h (Nat.not_lt_zero _)
  | n + 1, ρ, S, h, p => by
    rcases turn ρ S p with ⟨S1, e, _⟩ | ⟨S1, ρ2, S2, e, e2, hm, p2⟩
    · refine ⟨ρ, S, S1, ?_, p, e⟩
      unfold dWhile
      rw [e]
      rfl
    · obtain ⟨ρ0, S0, S', e3, p3, e4⟩ := while_nx P μ turn n ρ2 S2 (by omega) p2
      refine ⟨ρ0, S0, S', ?_, p3, e4⟩
      unfold dWhile
      rw [e]
      show whR _ (body ρ S1) = _
      rcases e2 with e2 | e2
      · rw [e2]; exact e3
      · rw [e2]; exact e3
/-- a turn of a comprehension -/
def cTurn (still : Sto → Prop) (e : DE) (ρ1 : Env) (N : List D → Sto → Prop) (acc : List D) : Res Bool → Prop
  | .ok true S1 => ∃ x S2, e ρ1 S1 = .ok x S2 ∧ still S2 ∧ N (acc ++ [x]) S2
  | .ok false S1 => still S1 ∧ N acc S1
  | _ => False
theorem cTurn1 {still : Sto → Prop} {e : DE} {ρ1 : Env} {N : List D → Sto → Prop} {acc : List D} {S1 : Sto} : cTurn still e ρ1 N acc (.ok true S1) = (∃ x S2, e ρ1 S1 = .ok x S2 ∧ still S2 ∧ N (acc ++ [x]) S2) := rfl
theorem cTurn2 {still : Sto → Prop} {e : DE} {ρ1 : Env} {N : List D → Sto → Prop} {acc : List D} {S1 : Sto} : cTurn still e ρ1 N acc (.ok false S1) = (still S1 ∧ N acc S1) := rfl
theorem cLoop_use {still : Sto → Prop} {g : DG} {t : DT} {e : DE} {ρ : Env} {items : List D} {S : Sto} {r : Res (List D)} (h : cLoop still g t e ρ items S = r) (P : List D → List D → Sto → Prop) (h0 : P items [] S)
    (turn : ∀ d r acc S, P (d :: r) acc S → ∃ ρ1, g d ρ S = some ρ1 ∧ cTurn still e ρ1 (P r) acc (t ρ1 S)) :
    ∃ xs S', r = .ok xs S' ∧ P [] xs S' := by
  obtain ⟨xs, S', e1, p⟩ := cLoop_ok (still := still) (g := g) (t := t) (e := e) (ρ := ρ) P (fun d r acc S hp => by
    obtain ⟨ρ1, e1, h1⟩ := turn d r acc S hp
    refine ⟨ρ1, e1, ?_⟩
    generalize e2 : t ρ1 S = y at h1
    cases y with
    | ok b S1 =>
      cases b with
      | true =>
        obtain ⟨x, S2, e3, h3, h4⟩ := h1
        exact .inl ⟨S1, x, S2, rfl, e3, h3, h4⟩
      | false => exact .inr ⟨S1, rfl, h1.1, h1.2⟩
    | exc c fs S => exact h1.elim
    | bad => exact h1.elim) items [] S h0
  exact ⟨xs, S', h.symm.trans e1, p⟩
/-- a turn of a loop -/
def bTurn (still : Sto → Prop) (N : Env → Sto → Prop) (R : RS → Prop) : RS → Prop
  | .nx ρ2 S2 => still S2 ∧ N ρ2 S2
  | .ct ρ2 S2 => still S2 ∧ N ρ2 S2
  | .bk ρ2 S2 => R (.nx ρ2 S2)
  | .rt d S2 => R (.rt d S2)
  | .exc c fs ρ2 S2 => R (.exc c fs ρ2 S2)
  | .bad => False
section
variable {still : Sto → Prop} {N : Env → Sto → Prop} {R : RS → Prop} {ρ2 : Env} {S2 : Sto}
theorem bTurn1 : bTurn still N R (.nx ρ2 S2) = (still S2 ∧ N ρ2 S2) := rfl
theorem bTurn2 : bTurn still N R (.ct ρ2 S2) = (still S2 ∧ N ρ2 S2) := rfl
theorem bTurn3 : bTurn still N R (.bk ρ2 S2) = R (.nx ρ2 S2) := rfl
theorem bTurn4 {d : D} : bTurn still N R (.rt d S2) = R (.rt d S2) := rfl
theorem bTurn5 {c : Str} {fs : List (Str × D)} : bTurn still N R (.exc c fs ρ2 S2) = R (.exc c fs ρ2 S2) := rfl
end
theorem loop_use2 {still : Sto → Prop} {g : DG} {body : DS} {items : List D} {ρ : Env} {S : Sto} {r : RS} (h : dLoop still g body items ρ S = r) (P : List D → Env → Sto → Prop) (R : RS → Prop) (h0 : P items ρ S)
    (turn : ∀ d r ρ S, P (d :: r) ρ S → ∃ ρ1, g d ρ S = some ρ1 ∧ bTurn still (P r) R (body ρ1 S))
    (fin : ∀ ρ S, P [] ρ S → R (.nx ρ S)) : R r := by
  rw [← h]
  refine loop_out P R (fun d r ρ S hp => ?_) fin items ρ S h0
  obtain ⟨ρ1, e1, h1⟩ := turn d r ρ S hp
  refine ⟨ρ1, e1, ?_⟩
  generalize body ρ1 S = y at h1
  cases y with
  | nx ρ2 S2 => exact .inl ⟨ρ2, S2, .inl rfl, h1.1, h1.2⟩
  | ct ρ2 S2 => exact .inl ⟨ρ2, S2, .inr rfl, h1.1, h1.2⟩
  | bk ρ2 S2 => exact .inr (.inl ⟨ρ2, S2, rfl, h1⟩)
  | rt d S2 => exact .inr (.inr (.inl ⟨d, S2, rfl, h1⟩))
  | exc c fs ρ2 S2 => exact .inr (.inr (.inr ⟨c, fs, ρ2, S2, rfl, h1⟩))
  | bad => exact h1.elim
theorem loop_use {still : Sto → Prop} {g : DG} {body : DS} {items : List D} {ρ : Env} {S : Sto} {r : RS} (h : dLoop still g body items ρ S = r) (P : List D → Env → Sto → Prop) (h0 : P items ρ S)
    (turn : ∀ d r ρ S, P (d :: r) ρ S → ∃ ρ1, g d ρ S = some ρ1 ∧ bTurn still (P r) (fun q => ∃ ρ' S', q = .nx ρ' S' ∧ P [] ρ' S') (body ρ1 S)) :
    ∃ ρ' S', r = .nx ρ' S' ∧ P [] ρ' S' :=
  loop_use2 h P (fun q => ∃ ρ' S', q = .nx ρ' S' ∧ P [] ρ' S') h0 turn fun ρ S hp => ⟨ρ, S, rfl, hp⟩
theorem at_in {α : Type} {xs : List α} {i : Int} (h0 : 0 ≤ i) (h1 : i < xs.length) : ∃ d, atI xs i = some d ∧ d ∈ xs := by
  obtain ⟨j, rfl⟩ := Int.eq_ofNat_of_zero_le h0
  have hj : j < xs.length := by omega
  exact ⟨xs[j], atI_nat (List.getElem?_eq_getElem hj), List.getElem_mem hj⟩
theorem rng_ints {lo : Int} {n : Nat} {d : D} (h : d ∈ rng lo n) : ∃ i, d = .int i := by
  unfold rng at h
  obtain ⟨i, _, e⟩ := List.mem_map.mp h
  exact ⟨_, e.symm⟩
theorem rng_len {lo : Int} {n : Nat} : (rng lo n).length = n := by unfold rng; rw [List.length_map, List.length_range]
/-- what a range still holds -/
def rngF (lo : Int) : Nat → List D
  | 0 => []
  | n + 1 => .int lo :: rngF (lo + 1) n
theorem rng_eq (n : Nat) : ∀ lo : Int, rng lo n = rngF lo n := by
  induction n with
  | zero => intro lo; rfl
  | succ n ih =>
    intro lo
    unfold rngF
    rw [← ih (lo + 1)]
    unfold rng
    rw [List.range_succ_eq_map, List.map_cons, List.map_map]
    congr 1
    · show D.int (lo + ((0 : Nat) : Int)) = _
      simp
    · refine List.map_congr_left fun i _ => ?_
      show D.int (lo + ((i + 1 : Nat) : Int)) = D.int (lo + 1 + (i : Int))
      congr 1
      omega
/-! ### loops by place -/
theorem drop_step {α : Type} {xs : List α} {i : Nat} {d : α} {r : List α} (h : d :: r = xs.drop i) : xs[i]? = some d ∧ r = xs.drop (i + 1) := by
  have e : (xs.drop i)[0]? = some d := by rw [← h]; rfl
  rw [List.getElem?_drop] at e
  refine ⟨e, ?_⟩
  have e2 : (xs.drop i).drop 1 = r := by rw [← h]; rfl
  rw [List.drop_drop] at e2
  exact e2.symm
theorem drop_end {α : Type} {xs : List α} {i : Nat} (h : [] = xs.drop i) (hi : i ≤ xs.length) : i = xs.length := by
  have e := congrArg List.length h
  rw [List.length_drop, List.length_nil] at e
  omega
theorem loop_idx {still : Sto → Prop} {g : DG} {body : DS} {items : List D} {ρ : Env} {S : Sto} {r : RS} (h : dLoop still g body items ρ S = r) (P : Nat → Env → Sto → Prop) (R : RS → Prop) (h0 : P 0 ρ S)
    (turn : ∀ i d ρ S, items[i]? = some d → P i ρ S → ∃ ρ1, g d ρ S = some ρ1 ∧ bTurn still (P (i + 1)) R (body ρ1 S))
    (fin : ∀ ρ S, P items.length ρ S → R (.nx ρ S)) : R r := by
  refine loop_use2 h (fun xs ρ S => ∃ i, xs = items.drop i ∧ i ≤ items.length ∧ P i ρ S) R ⟨0, rfl, Nat.zero_le _, h0⟩ ?_ ?_
  · rintro d r ρ S ⟨i, e, hi, hp⟩
    obtain ⟨e1, e2⟩ := drop_step e
    obtain ⟨ρ1, e3, h2⟩ := turn i d ρ S e1 hp
    refine ⟨ρ1, e3, ?_⟩
    have hi2 := lt_of_get e1
    generalize body ρ1 S = y at h2
    cases y with
    | nx ρ2 S2 => exact ⟨h2.1, i + 1, e2, hi2, h2.2⟩
    | ct ρ2 S2 => exact ⟨h2.1, i + 1, e2, hi2, h2.2⟩
    | bk ρ2 S2 => exact h2
    | rt d S2 => exact h2
    | exc c fs ρ2 S2 => exact h2
    | bad => exact h2
  · rintro ρ S ⟨i, e, hi, hp⟩
    have := drop_end e hi
    subst this
    exact fin ρ S hp
theorem loop_idx_nx {still : Sto → Prop} {g : DG} {body : DS} {items : List D} {ρ : Env} {S : Sto} {r : RS} (h : dLoop still g body items ρ S = r) (P : Nat → Env → Sto → Prop) (h0 : P 0 ρ S)
    (turn : ∀ i d ρ S, items[i]? = some d → P i ρ S → ∃ ρ1, g d ρ S = some ρ1 ∧ bTurn still (P (i + 1)) (fun q => ∃ ρ' S', q = .nx ρ' S' ∧ P items.length ρ' S') (body ρ1 S)) :
    ∃ ρ' S', r = .nx ρ' S' ∧ P items.length ρ' S' :=
  loop_idx h P (fun q => ∃ ρ' S', q = .nx ρ' S' ∧ P items.length ρ' S') h0 turn fun ρ S hp => ⟨ρ, S, rfl, hp⟩
theorem cLoop_idx {still : Sto → Prop} {g : DG} {t : DT} {e : DE} {ρ : Env} {items : List D} {S : Sto} {r : Res (List D)} (h : cLoop still g t e ρ items S = r) (P : Nat → List D → Sto → Prop) (h0 : P 0 [] S)
    (turn : ∀ i d acc S, items[i]? = some d → P i acc S → ∃ ρ1, g d ρ S = some ρ1 ∧ cTurn still e ρ1 (P (i + 1)) acc (t ρ1 S)) :
    ∃ xs S', r = .ok xs S' ∧ P items.length xs S' := by
  obtain ⟨xs, S', e1, i, e2, hi, hp⟩ := cLoop_use h (fun xs acc S => ∃ i, xs = items.drop i ∧ i ≤ items.length ∧ P i acc S) ⟨0, rfl, Nat.zero_le _, h0⟩ (by
    rintro d r acc S ⟨i, e, hi, hp⟩
    obtain ⟨e1, e2⟩ := drop_step e
    obtain ⟨ρ1, e3, h2⟩ := turn i d acc S e1 hp
    refine ⟨ρ1, e3, ?_⟩
    have hi2 := lt_of_get e1
    generalize t ρ1 S = y at h2
    cases y with
    | ok b S1 =>
      cases b with
      | true =>
        obtain ⟨x, S2, e4, h4, h5⟩ := h2
        exact ⟨x, S2, e4, h4, i + 1, e2, hi2, h5⟩
      | false => exact ⟨h2.1, i + 1, e2, hi2, h2.2⟩
    | exc c fs S => exact h2.elim
    | bad => exact h2.elim)
  have := drop_end e2 hi
  subst this
  exact ⟨xs, S', e1, hp⟩


def topS (i : Nat) : Stmt := PySem.Challenge.pw_odds_k32_weights_and_chances.main.body.getD i (.Pass ⟨0, 0, 0, 0⟩)
abbrev s_ratio : Stmt := topS 6
theorem sc_ratio : FnScope ["top", "bottom", "shared"] ["top", "bottom"] (defScope s_ratio) := ⟨rfl, rfl, rfl, by decide +kernel, rfl, by decide +kernel, by decide +kernel⟩
abbrev s_flip_weights : Stmt := topS 9
theorem sc_flip_weights : FnScope ["a", "b"] ["a", "b"] (defScope s_flip_weights) := ⟨rfl, rfl, rfl, by decide +kernel, rfl, by decide +kernel, by decide +kernel⟩
abbrev s_uniform_weights : Stmt := topS 10
theorem sc_uniform_weights : FnScope ["low", "high", "width"] ["low", "high"] (defScope s_uniform_weights) := ⟨rfl, rfl, rfl, by decide +kernel, rfl, by decide +kernel, by decide +kernel⟩
abbrev s_pick_weights : Stmt := topS 11
theorem sc_pick_weights : FnScope ["weights"] ["weights"] (defScope s_pick_weights) := ⟨rfl, rfl, rfl, by decide +kernel, rfl, by decide +kernel, by decide +kernel⟩
abbrev s_chance : Stmt := topS 12
theorem sc_chance : FnScope ["weights", "k"] ["weights", "k"] (defScope s_chance) := ⟨rfl, rfl, rfl, by decide +kernel, rfl, by decide +kernel, by decide +kernel⟩
abbrev s_law_same : Stmt := topS 14
theorem sc_law_same : FnScope ["actual", "due", "k"] ["actual", "due"] (defScope s_law_same) := ⟨rfl, rfl, rfl, by decide +kernel, rfl, by decide +kernel, by decide +kernel⟩
abbrev s_law_pool : Stmt := topS 15
theorem sc_law_pool : FnScope ["script", "salt", "cell"] ["script"] (defScope s_law_pool) := ⟨rfl, rfl, rfl, by decide +kernel, rfl, by decide +kernel, by decide +kernel⟩
abbrev s_law_spread : Stmt := topS 16
theorem sc_law_spread : FnScope ["cell", "mixed", "total", "k"] ["cell"] (defScope s_law_spread) := ⟨rfl, rfl, rfl, by decide +kernel, rfl, by decide +kernel, by decide +kernel⟩
abbrev s_law_draw : Stmt := topS 17
theorem sc_law_draw : FnScope ["pool", "many", "cell", "mixed", "value"] ["pool", "many"] (defScope s_law_draw) := ⟨rfl, rfl, rfl, by decide +kernel, rfl, by decide +kernel, by decide +kernel⟩
abbrev s_law_gcd : Stmt := topS 18
theorem sc_law_gcd : FnScope ["a", "b", "k", "left"] ["a", "b"] (defScope s_law_gcd) := ⟨rfl, rfl, rfl, by decide +kernel, rfl, by decide +kernel, by decide +kernel⟩
abbrev s_law_frac : Stmt := topS 19
theorem sc_law_frac : FnScope ["top", "bottom", "common"] ["top", "bottom"] (defScope s_law_frac) := ⟨rfl, rfl, rfl, by decide +kernel, rfl, by decide +kernel, by decide +kernel⟩
abbrev s_law_told : Stmt := topS 22
theorem sc_law_told : FnScope ["kind", "a", "b"] ["kind", "a", "b"] (defScope s_law_told) := ⟨rfl, rfl, rfl, by decide +kernel, rfl, by decide +kernel, by decide +kernel⟩
abbrev s_law_chances : Stmt := topS 23
theorem sc_law_chances : FnScope ["weights", "k"] ["weights"] (defScope s_law_chances) := ⟨rfl, rfl, rfl, by decide +kernel, rfl, by decide +kernel, by decide +kernel⟩
abbrev s_law : Stmt := topS 24
theorem sc_law : FnScope ["script", "pool", "a", "b", "due", "weights", "k"] ["script"] (defScope s_law) := ⟨rfl, rfl, rfl, by decide +kernel, rfl, by decide +kernel, by decide +kernel⟩
/-- a def of the text as it stands behind the top -/
structure DefT (K : PySem.W.Frag) (mg : Str → Option Value) (x : Str) (st : Stmt) (ps : List Str) (f : Addr) (fd : FuncData) : Prop where
  F : Fun K x x st f fd
  g : mg x = some (.ref f)
  b : Binds K fd ps []
/-- an error class of the text -/
structure ErrT (K : PySem.W.Frag) (mg : Str → Option Value) (x : Str) (C : Addr) : Prop where
  g : mg x = some (.ref C)
  ex : PySem.W.excIn K C [.type "ValueError", .type "Exception", .type "BaseException", .type "object"] "ValueError.__new__" = true
  k : PySem.W.keepIn K (.ref C) = true
  b : PySem.W.subIn K (.ref C) (.type "BaseException") = some true
  t : PySem.W.typeIn K (.ref C) = some (.type "type")
  s : PySem.W.subIn K (.ref C) (.ref C) = some true
  e : ExcC K C
structure At where
  a_ratio : Addr
  d_ratio : FuncData
  a_flip_weights : Addr
  d_flip_weights : FuncData
  a_uniform_weights : Addr
  d_uniform_weights : FuncData
  a_pick_weights : Addr
  d_pick_weights : FuncData
  a_chance : Addr
  d_chance : FuncData
  a_law_same : Addr
  d_law_same : FuncData
  a_law_pool : Addr
  d_law_pool : FuncData
  a_law_spread : Addr
  d_law_spread : FuncData
  a_law_draw : Addr
  d_law_draw : FuncData
  a_law_gcd : Addr
  d_law_gcd : FuncData
  a_law_frac : Addr
  d_law_frac : FuncData
  a_law_told : Addr
  d_law_told : FuncData
  a_law_chances : Addr
  d_law_chances : FuncData
  a_law : Addr
  d_law : FuncData
  C_OddsError : Addr
  C_ZeroDivisor : Addr
  C_Fault : Addr
structure Txt (K : PySem.W.Frag) (mg : Str → Option Value) (A : At) : Prop where
  t_ratio : DefT K mg "ratio" s_ratio ["top", "bottom"] A.a_ratio A.d_ratio
  t_flip_weights : DefT K mg "flip_weights" s_flip_weights ["a", "b"] A.a_flip_weights A.d_flip_weights
  t_uniform_weights : DefT K mg "uniform_weights" s_uniform_weights ["low", "high"] A.a_uniform_weights A.d_uniform_weights
  t_pick_weights : DefT K mg "pick_weights" s_pick_weights ["weights"] A.a_pick_weights A.d_pick_weights
  t_chance : DefT K mg "chance" s_chance ["weights", "k"] A.a_chance A.d_chance
  t_law_same : DefT K mg "_law_same" s_law_same ["actual", "due"] A.a_law_same A.d_law_same
  t_law_pool : DefT K mg "_law_pool" s_law_pool ["script"] A.a_law_pool A.d_law_pool
  t_law_spread : DefT K mg "_law_spread" s_law_spread ["cell"] A.a_law_spread A.d_law_spread
  t_law_draw : DefT K mg "_law_draw" s_law_draw ["pool", "many"] A.a_law_draw A.d_law_draw
  t_law_gcd : DefT K mg "_law_gcd" s_law_gcd ["a", "b"] A.a_law_gcd A.d_law_gcd
  t_law_frac : DefT K mg "_law_frac" s_law_frac ["top", "bottom"] A.a_law_frac A.d_law_frac
  t_law_told : DefT K mg "_law_told" s_law_told ["kind", "a", "b"] A.a_law_told A.d_law_told
  t_law_chances : DefT K mg "_law_chances" s_law_chances ["weights"] A.a_law_chances A.d_law_chances
  t_law : DefT K mg "law" s_law ["script"] A.a_law A.d_law
  e_OddsError : ErrT K mg "OddsError" A.C_OddsError
  e_ZeroDivisor : ErrT K mg "ZeroDivisor" A.C_ZeroDivisor
  e_Fault : ErrT K mg "Fault" A.C_Fault
  z_sum : mg "sum" = none
  z_min : mg "min" = none
  z_isinstance : mg "isinstance" = none
  z_tuple : mg "tuple" = none
  z_list : mg "list" = none
  z_len : mg "len" = none
  z_range : mg "range" = none
  z_bool : mg "bool" = none
  z_int : mg "int" = none
  z_str : mg "str" = none
  z_abs : mg "abs" = none
  m_gcd : mg "gcd" = some (.builtin "math.gcd")
  m_GREATEST_WIDTH : ∃ u, mg "GREATEST_WIDTH" = some u ∧ RelV (.int 64) u

local macro_rules | `(tactic| walk_at "env") => `(tactic| simp only [run0, run1, run2, run3, run4, run5, List.cons_append, List.nil_append, List.replicate, Nat.reduceSub, Nat.reduceAdd])
local macro_rules | `(tactic| walk_at "ev") => `(tactic| simp +decide only [dSeq, dNext, dBind, setK, exprK, retK, dSet, dExpr, dRet, dRetN, dIfS, dBreak, dCont, dAsg, asgK, dPutL, putK1, putK2, dAug, eV, eC, eOp, eOp1, eCall, eCons, eCons1, eCons2, eNil, eTup, eLst, eT, eAnd, eOr, eNot, eNot1, eAndV, eOrV, eNotV, eIf, eUn, eChain, eChain1, eChain2, eSl, eSl1, eSl2, eNo, eSo, eMeth, eMeth1, eM1, dFor, wL, wT, wR1, wR2, wS, tgN, tgCons1, dTry, dRaise, dNe, dComp, cTurn1, cTurn2, bTurn1, bTurn2, bTurn3, bTurn4, bTurn5, Ev.seq1, Ev.seq2, Ev.seq3, Ev.seq4, Ev.seq5, Ev.bnd1, Ev.bnd2, Ev.if1, Ev.if2, Ev.if3, Ev.asg1, Ev.putK31, Ev.putO1, Ev.putJ1, Ev.aug1, Ev.slot1, Ev.and1, Ev.and2, Ev.or1, Ev.or2, Ev.andV1, Ev.andV2, Ev.orV1, Ev.orV2, Ev.notV1, Ev.ifx1, Ev.ifx2, Ev.ch1, Ev.ch2, Ev.toB1, Ev.rb1, Ev.rb2, Ev.end1, Ev.end2, Ev.end3, Ev.add1, Ev.add2, Ev.add3, Ev.sub1, Ev.mul1, Ev.sum1, Ev.minl1, Ev.maxl1, Ev.numR1a, Ev.numR1b, Ev.intsOf1, Ev.intsOf2, Ev.pow1, Ev.gcd1, Ev.bits1, Ev.div1, Ev.mod1, Ev.rel1, Ev.eq1, Ev.eq2, Ev.eq3, Ev.ix1, Ev.ixA1, Ev.ix2, Ev.ixO1, Ev.lstOf1, Ev.lstOO1, Ev.len3, Ev.lenO1, Ev.lenO3, Ev.isi1, Ev.isiR1, Ev.ty_bl, Ev.ty_int, Ev.ty_str, Ev.ty_tup, Ev.ty_non, Ev.ty_obj, Ev.tyO1, Ev.kit_NoneType_bool, Ev.kit_NoneType_int, Ev.kit_NoneType_str, Ev.kit_NoneType_tuple, Ev.kit_NoneType_list, Ev.kit_bool_bool, Ev.kit_bool_int, Ev.kit_bool_str, Ev.kit_bool_tuple, Ev.kit_bool_list, Ev.kit_int_bool, Ev.kit_int_int, Ev.kit_int_str, Ev.kit_int_tuple, Ev.kit_int_list, Ev.kit_str_bool, Ev.kit_str_int, Ev.kit_str_str, Ev.kit_str_tuple, Ev.kit_str_list, Ev.kit_tuple_bool, Ev.kit_tuple_int, Ev.kit_tuple_str, Ev.kit_tuple_tuple, Ev.kit_tuple_list, Ev.kit_list_bool, Ev.kit_list_int, Ev.kit_list_str, Ev.kit_list_tuple, Ev.kit_list_list, Ev.list1, Ev.lstR1, Ev.sq1, Ev.sq3, Ev.sl4, Ev.wk4, Ev.sq2, Ev.tup2, Ev.tupR1, Ev.sl2, Ev.slR1, Ev.app1, Ev.appO1, Ev.tym1, Ev.tymO1, Ev.tymO3, Ev.tym2, Ev.in1, Ev.in2, Ev.inR1, Ev.sc1, Ev.sc2, Ev.wkL, Ev.walkR1, Ev.setSelf, Ev.mapSome, Ev.setNe, Ev.setSet, Ev.appNew, Ev.appOld, Ev.mkLst1, Ev.mkTup1, Ev.ixN5_0, Ev.ixN5_1, Ev.ixN5_2, Ev.ixN5_3, Ev.ixN5_4, Ev.int1, Ev.int2, Ev.len1, Ev.len2, Ev.ix3, Ev.ixS1, Ev.join1, Ev.joinR1, Ev.neg1, Ev.so1, Ev.sl1, Ev.sl3, Ev.abs1, Ev.max1, Ev.min1, Ev.str1, Ev.ipI1, Ev.for1, Ev.tgc1, Ev.tgn1, Ev.tgt1, Ev.rng1, Ev.rng2, Ev.okr_0, Ev.okr_1, Ev.okr_2, Ev.okr_3, Ev.okr_4, Ev.okr_5, Ev.okr_6, Ev.okr_7, Ev.okr_8, Ev.okr_9, Ev.okr_10, Ev.okr_11, Ev.okr_12, Ev.okr_13, Ev.okr_14, Ev.okr_15, Ev.okr_16, Ev.okr_17, Ev.okr_18, Ev.okr_19, Ev.okr_20, Ev.okr_21, Ev.okr_22, Ev.okr_23, Ev.okr_24, Ev.okr_25, Ev.okr_26, Ev.okr_27, Ev.okr_28, Ev.okr_29, Ev.okr_30, Ev.okr_31, Ev.okr_32, Ev.okr_33, Ev.okr_34, Ev.okr_35, Ev.okr_36, Ev.okr_37, Ev.okr_38, Ev.okr_39, Ev.okr_40, Ev.okr_41, Ev.okr_42, Ev.okr_43, Ev.okr_44, Ev.okr_45, Ev.okr_46, Ev.okr_47, Ev.okr_48, Ev.okr_49, Ev.okr_50, Ev.okr_51, Ev.okr_52, Ev.okr_53, Ev.okr_54, Ev.okr_55, Ev.okr_56, Ev.okr_57, Ev.okr_58, Ev.okr_59, Ev.okr_60, Ev.okr_61, Ev.okr_62, Ev.okr_63, Ev.okr_64, Ev.okr_65, Ev.okr_66, Ev.okr_67, Ev.okr_68, Ev.okr_69, Ev.okr_70, Ev.okr_71, Ev.okr_72, Ev.okr_73, Ev.okr_74, Ev.okr_75, Ev.okr_76, Ev.okr_77, Ev.okr_78, Ev.okr_79, Ev.okr_80, Ev.okr_81, Ev.okr_82, Ev.okr_83, Ev.okr_84, Ev.okr_85, Ev.okr_86, Ev.okr_87, Ev.okr_88, Ev.okr_89, Ev.okr_90, Ev.okr_91, Ev.okr_92, Ev.okr_93, Ev.okr_94, Ev.okr_95, Ev.okr_96, Ev.okr_97, Ev.okr_98, Ev.okr_99, Ev.okr_100, Ev.okr_101, Ev.okr_102, Ev.okr_103, Ev.okr_104, Ev.okr_105, Ev.okr_106, Ev.okr_107, Ev.okr_108, Ev.okr_109, Ev.okr_110, Ev.okr_111, Ev.okr_112, Ev.okr_113, Ev.okr_114, Ev.okr_115, Ev.okr_116, Ev.okr_117, Ev.okr_118, Ev.okr_119, Ev.okr_120, Ev.okr_121, Ev.okr_122, Ev.okr_123, Ev.okr_124, Ev.okr_125, Ev.okr_126, Ev.okr_127, Ev.okr_128, Ev.okr_129, Ev.okr_150, Ev.okr_200, Ev.okr_250, Ev.okr_256, Ev.okr_300, Ev.okr_400, Ev.okr_500, Ev.okr_1000, Ev.okr2, Ev.wkT, Ev.wkS, Ev.wh1, Ev.wh2, Ev.wh3, Ev.wh4, Ev.wt1, Ev.wt2, Ev.tr1, Ev.tr2, Ev.tr3, Ev.tm1, Ev.tm2, Ev.cend1, Ev.ccmp1, Ev.chd1, Ev.cel1, Ev.cts1, Ev.cts2, Ev.ctg1, Ev.m11, Ev.mulr, Ev.mull, Ev.get0, Ev.at0, Ev.get1, Ev.at1, Ev.get2, Ev.at2, Ev.get3, Ev.at3, Ev.get4, Ev.at4, Ev.get5, Ev.at5, Ev.get6, Ev.at6, Ev.get7, Ev.at7, Ev.get8, Ev.at8, Ev.get9, Ev.at9, Ev.get10, Ev.at10, Ev.get11, Ev.at11, Ev.get12, Ev.at12, Ev.get13, Ev.at13, Ev.isn1, Ev.isn_bl, Ev.ntn_bl, Ev.isn_int, Ev.ntn_int, Ev.isn_str, Ev.ntn_str, Ev.isn_tup, Ev.ntn_tup, Ev.isn_obj, Ev.ntn_obj, Ev.ntn1, Ev.tup1, Ev.mulr, Ev.mull, ne_eq, not_false_eq_true, and_self, and_true, true_and, Bool.not_true, Bool.not_false, decide_true, decide_false, List.set, List.map, List.append, List.replicate, List.length_map, List.length_append, List.length_cons, List.length_nil, List.cons_append, List.nil_append, Nat.reduceAdd, Nat.reduceSub, Nat.reduceEqDiff, ↓reduceIte, Option.bind_some, Option.bind_none, wipeE, *])
local macro_rules | `(tactic| walk_at "ev0") => `(tactic| simp +decide only [dSeq, dNext, dBind, setK, exprK, retK, dSet, dExpr, dRet, dRetN, dIfS, dBreak, dCont, dAsg, asgK, dPutL, putK1, putK2, dAug, eV, eC, eOp, eOp1, eCall, eCons, eCons1, eCons2, eNil, eTup, eLst, eT, eAnd, eOr, eNot, eNot1, eAndV, eOrV, eNotV, eIf, eUn, eChain, eChain1, eChain2, eSl, eSl1, eSl2, eNo, eSo, eMeth, eMeth1, eM1, dFor, wL, wT, wR1, wR2, wS, tgN, tgCons1, dTry, dRaise, dNe, dComp, cTurn1, cTurn2, bTurn1, bTurn2, bTurn3, bTurn4, bTurn5, Ev.seq1, Ev.seq2, Ev.seq3, Ev.seq4, Ev.seq5, Ev.bnd1, Ev.bnd2, Ev.if1, Ev.if2, Ev.if3, Ev.asg1, Ev.putK31, Ev.putO1, Ev.putJ1, Ev.aug1, Ev.slot1, Ev.and1, Ev.and2, Ev.or1, Ev.or2, Ev.andV1, Ev.andV2, Ev.orV1, Ev.orV2, Ev.notV1, Ev.ifx1, Ev.ifx2, Ev.ch1, Ev.ch2, Ev.toB1, Ev.rb1, Ev.rb2, Ev.end1, Ev.end2, Ev.end3, Ev.add1, Ev.add2, Ev.add3, Ev.sub1, Ev.mul1, Ev.sum1, Ev.minl1, Ev.maxl1, Ev.numR1a, Ev.numR1b, Ev.intsOf1, Ev.intsOf2, Ev.pow1, Ev.gcd1, Ev.bits1, Ev.div1, Ev.mod1, Ev.rel1, Ev.eq1, Ev.eq2, Ev.eq3, Ev.ix1, Ev.ixA1, Ev.ix2, Ev.ixO1, Ev.lstOf1, Ev.lstOO1, Ev.len3, Ev.lenO1, Ev.lenO3, Ev.isi1, Ev.isiR1, Ev.ty_bl, Ev.ty_int, Ev.ty_str, Ev.ty_tup, Ev.ty_non, Ev.ty_obj, Ev.tyO1, Ev.kit_NoneType_bool, Ev.kit_NoneType_int, Ev.kit_NoneType_str, Ev.kit_NoneType_tuple, Ev.kit_NoneType_list, Ev.kit_bool_bool, Ev.kit_bool_int, Ev.kit_bool_str, Ev.kit_bool_tuple, Ev.kit_bool_list, Ev.kit_int_bool, Ev.kit_int_int, Ev.kit_int_str, Ev.kit_int_tuple, Ev.kit_int_list, Ev.kit_str_bool, Ev.kit_str_int, Ev.kit_str_str, Ev.kit_str_tuple, Ev.kit_str_list, Ev.kit_tuple_bool, Ev.kit_tuple_int, Ev.kit_tuple_str, Ev.kit_tuple_tuple, Ev.kit_tuple_list, Ev.kit_list_bool, Ev.kit_list_int, Ev.kit_list_str, Ev.kit_list_tuple, Ev.kit_list_list, Ev.list1, Ev.lstR1, Ev.sq1, Ev.sq3, Ev.sl4, Ev.wk4, Ev.sq2, Ev.tup2, Ev.tupR1, Ev.sl2, Ev.slR1, Ev.app1, Ev.appO1, Ev.tym1, Ev.tymO1, Ev.tymO3, Ev.tym2, Ev.in1, Ev.in2, Ev.inR1, Ev.sc1, Ev.sc2, Ev.wkL, Ev.walkR1, Ev.setSelf, Ev.mapSome, Ev.setNe, Ev.setSet, Ev.appNew, Ev.appOld, Ev.mkLst1, Ev.mkTup1, Ev.ixN5_0, Ev.ixN5_1, Ev.ixN5_2, Ev.ixN5_3, Ev.ixN5_4, Ev.int1, Ev.int2, Ev.len1, Ev.len2, Ev.ix3, Ev.ixS1, Ev.join1, Ev.joinR1, Ev.neg1, Ev.so1, Ev.sl1, Ev.sl3, Ev.abs1, Ev.max1, Ev.min1, Ev.str1, Ev.ipI1, Ev.for1, Ev.tgc1, Ev.tgn1, Ev.tgt1, Ev.rng1, Ev.rng2, Ev.okr_0, Ev.okr_1, Ev.okr_2, Ev.okr_3, Ev.okr_4, Ev.okr_5, Ev.okr_6, Ev.okr_7, Ev.okr_8, Ev.okr_9, Ev.okr_10, Ev.okr_11, Ev.okr_12, Ev.okr_13, Ev.okr_14, Ev.okr_15, Ev.okr_16, Ev.okr_17, Ev.okr_18, Ev.okr_19, Ev.okr_20, Ev.okr_21, Ev.okr_22, Ev.okr_23, Ev.okr_24, Ev.okr_25, Ev.okr_26, Ev.okr_27, Ev.okr_28, Ev.okr_29, Ev.okr_30, Ev.okr_31, Ev.okr_32, Ev.okr_33, Ev.okr_34, Ev.okr_35, Ev.okr_36, Ev.okr_37, Ev.okr_38, Ev.okr_39, Ev.okr_40, Ev.okr_41, Ev.okr_42, Ev.okr_43, Ev.okr_44, Ev.okr_45, Ev.okr_46, Ev.okr_47, Ev.okr_48, Ev.okr_49, Ev.okr_50, Ev.okr_51, Ev.okr_52, Ev.okr_53, Ev.okr_54, Ev.okr_55, Ev.okr_56, Ev.okr_57, Ev.okr_58, Ev.okr_59, Ev.okr_60, Ev.okr_61, Ev.okr_62, Ev.okr_63, Ev.okr_64, Ev.okr_65, Ev.okr_66, Ev.okr_67, Ev.okr_68, Ev.okr_69, Ev.okr_70, Ev.okr_71, Ev.okr_72, Ev.okr_73, Ev.okr_74, Ev.okr_75, Ev.okr_76, Ev.okr_77, Ev.okr_78, Ev.okr_79, Ev.okr_80, Ev.okr_81, Ev.okr_82, Ev.okr_83, Ev.okr_84, Ev.okr_85, Ev.okr_86, Ev.okr_87, Ev.okr_88, Ev.okr_89, Ev.okr_90, Ev.okr_91, Ev.okr_92, Ev.okr_93, Ev.okr_94, Ev.okr_95, Ev.okr_96, Ev.okr_97, Ev.okr_98, Ev.okr_99, Ev.okr_100, Ev.okr_101, Ev.okr_102, Ev.okr_103, Ev.okr_104, Ev.okr_105, Ev.okr_106, Ev.okr_107, Ev.okr_108, Ev.okr_109, Ev.okr_110, Ev.okr_111, Ev.okr_112, Ev.okr_113, Ev.okr_114, Ev.okr_115, Ev.okr_116, Ev.okr_117, Ev.okr_118, Ev.okr_119, Ev.okr_120, Ev.okr_121, Ev.okr_122, Ev.okr_123, Ev.okr_124, Ev.okr_125, Ev.okr_126, Ev.okr_127, Ev.okr_128, Ev.okr_129, Ev.okr_150, Ev.okr_200, Ev.okr_250, Ev.okr_256, Ev.okr_300, Ev.okr_400, Ev.okr_500, Ev.okr_1000, Ev.okr2, Ev.wkT, Ev.wkS, Ev.wh1, Ev.wh2, Ev.wh3, Ev.wh4, Ev.wt1, Ev.wt2, Ev.tr1, Ev.tr2, Ev.tr3, Ev.tm1, Ev.tm2, Ev.cend1, Ev.ccmp1, Ev.chd1, Ev.cel1, Ev.cts1, Ev.cts2, Ev.ctg1, Ev.m11, Ev.mulr, Ev.mull, Ev.get0, Ev.at0, Ev.get1, Ev.at1, Ev.get2, Ev.at2, Ev.get3, Ev.at3, Ev.get4, Ev.at4, Ev.get5, Ev.at5, Ev.get6, Ev.at6, Ev.get7, Ev.at7, Ev.get8, Ev.at8, Ev.get9, Ev.at9, Ev.get10, Ev.at10, Ev.get11, Ev.at11, Ev.get12, Ev.at12, Ev.get13, Ev.at13, Ev.isn1, Ev.isn_bl, Ev.ntn_bl, Ev.isn_int, Ev.ntn_int, Ev.isn_str, Ev.ntn_str, Ev.isn_tup, Ev.ntn_tup, Ev.isn_obj, Ev.ntn_obj, Ev.ntn1, Ev.tup1, Ev.mulr, Ev.mull, ne_eq, not_false_eq_true, and_self, and_true, true_and, Bool.not_true, Bool.not_false, decide_true, decide_false, List.set, List.map, List.append, List.replicate, List.length_map, List.length_append, List.length_cons, List.length_nil, List.cons_append, List.nil_append, Nat.reduceAdd, Nat.reduceSub, Nat.reduceEqDiff, ↓reduceIte, Option.bind_some, Option.bind_none, wipeE])

section
variable {P : Program} {wd : World} {K : PySem.W.Frag} {mg : Str → Option Value} {base : Heap} {A : At}
noncomputable def b_ratio : DS := (dSeq (dIfS (eT (eOp dEq (eV 1) (eC (D.int 0)))) (dRaise "ZeroDivisor") dNext)
    (dSeq (dSet 2 (eCall dGcd (eCons (eV 0) (eCons (eV 1) eNil))))
    (dSeq (dIfS (eT (eOp dLt (eV 1) (eC (D.int 0)))) (dSet 2 (eUn dNeg (eV 2))) dNext)
    (dRet (eTup (eCons (eOp dDiv (eV 0) (eV 2)) (eCons (eOp dDiv (eV 1) (eV 2)) eNil)))))))
noncomputable def h_ratio : DF := runD 2 3 (b_ratio)
theorem ok_ratio (T : Txt K mg A) : FnOk P wd K mg base (L2.CX P wd) (1) A.a_ratio A.d_ratio ["top", "bottom"] (spD K mg h_ratio) := by
  refine d_ok T.t_ratio.F sc_ratio (fun cdv AA outer s H E hr tk po => ?_)
  exact (lss_cons (ls_if (lt_cmp op_eq o_eq (lv 1) l_int (nomark _)) (lss_one (ls_raise rfl tk T.e_ZeroDivisor.ex T.e_ZeroDivisor.g T.e_ZeroDivisor.k T.e_ZeroDivisor.b T.e_ZeroDivisor.t rfl)) lss_nil)
      (lss_cons (ls_set (i := 2) sc_ratio.nd rfl (Or.inl rfl) (l_callF cr_gcd o_gcd (by rfl) T.m_gcd (la_cons (lv 0) (la_cons (lv 1) la_nil))))
      (lss_cons (ls_if (lt_cmp op_lt (o_rel _) (lv 1) l_int (nomark _)) (lss_one (ls_set (i := 2) sc_ratio.nd rfl (Or.inl rfl) (l_un un_neg o_neg (lv 2)))) lss_nil)
      (lss_one (ls_ret (l_tup (la_cons (l_op op_fdivG o_div (lv 0) (lv 2)) (la_cons (l_op op_fdivG o_div (lv 1) (lv 2)) la_nil))))))))

noncomputable def b_flip_weights : DS := (dSeq (dIfS (eOr (eT (eOp dLt (eV 1) (eC (D.int 1)))) (eOr (eT (eOp dLt (eV 0) (eC (D.int 0)))) (eT (eOp dGt (eV 0) (eV 1))))) (dRaise "Fault") dNext)
    (dRet (eTup (eCons (eV 0) (eCons (eOp dSub (eV 1) (eV 0)) eNil)))))
noncomputable def h_flip_weights : DF := runD 2 2 (b_flip_weights)
theorem ok_flip_weights (T : Txt K mg A) : FnOk P wd K mg base (L2.CX P wd) (1) A.a_flip_weights A.d_flip_weights ["a", "b"] (spD K mg h_flip_weights) := by
  refine d_ok T.t_flip_weights.F sc_flip_weights (fun cdv AA outer s H E hr tk po => ?_)
  exact (lss_cons (ls_if (PW.pt (lw_or (lt_cmp op_lt (o_rel _) (lv 1) l_int (nomark _)) (lw_or (lt_cmp op_lt (o_rel _) (lv 0) l_int (nomark _)) (lw_or1 (lt_cmp op_gt (o_rel _) (lv 0) (lv 1) (nomark _)))))) (lss_one (ls_raise rfl tk T.e_Fault.ex T.e_Fault.g T.e_Fault.k T.e_Fault.b T.e_Fault.t rfl)) lss_nil)
      (lss_one (ls_ret (l_tup (la_cons (lv 0) (la_cons (l_op op_sub o_sub (lv 1) (lv 0)) la_nil))))))

noncomputable def b_uniform_weights : DS := (dSeq (dSet 2 (eOp dAdd (eOp dSub (eV 1) (eV 0)) (eC (D.int 1))))
    (dSeq (dIfS (eOr (eT (eOp dLt (eV 2) (eC (D.int 1)))) (eT (eOp dGt (eV 2) (eC (D.int 64))))) (dRaise "Fault") dNext)
    (dRet (eOp dMul (eTup (eCons (eC (D.int 1)) eNil)) (eV 2)))))
noncomputable def h_uniform_weights : DF := runD 2 3 (b_uniform_weights)
theorem ok_uniform_weights (T : Txt K mg A) : FnOk P wd K mg base (L2.CX P wd) (1) A.a_uniform_weights A.d_uniform_weights ["low", "high"] (spD K mg h_uniform_weights) := by
  obtain ⟨u_GREATEST_WIDTH, g_GREATEST_WIDTH, r_GREATEST_WIDTH⟩ := T.m_GREATEST_WIDTH
  refine d_ok T.t_uniform_weights.F sc_uniform_weights (fun cdv AA outer s H E hr tk po => ?_)
  exact (lss_cons (ls_set (i := 2) sc_uniform_weights.nd rfl (Or.inl rfl) (l_op op_addA o_add (l_op op_sub o_sub (lv 1) (lv 0)) l_int))
      (lss_cons (ls_if (PW.pt (lw_or (lt_cmp op_lt (o_rel _) (lv 2) l_int (nomark _)) (lw_or1 (lt_cmp op_gt (o_rel _) (lv 2) (l_glob rfl g_GREATEST_WIDTH r_GREATEST_WIDTH (fun w => mk_int)) (nomark _))))) (lss_one (ls_raise rfl tk T.e_Fault.ex T.e_Fault.g T.e_Fault.k T.e_Fault.b T.e_Fault.t rfl)) lss_nil)
      (lss_one (ls_ret (l_op op_mulA o_mul (l_tup (la_cons l_int la_nil)) (lv 2))))))

noncomputable def b_pick_weights : DS := (dSeq (dIfS (eOr (eT (eOp dLt (eCall dSum (eCons (eV 0) eNil)) (eC (D.int 1)))) (eT (eOp dLt (eCall dMinL (eCons (eV 0) eNil)) (eC (D.int 0))))) (dRaise "Fault") dNext)
    (dRet (eV 0)))
noncomputable def h_pick_weights : DF := runD 1 1 (b_pick_weights)
theorem ok_pick_weights (T : Txt K mg A) : FnOk P wd K mg base (L2.CX P wd) (1) A.a_pick_weights A.d_pick_weights ["weights"] (spD K mg h_pick_weights) := by
  refine d_ok T.t_pick_weights.F sc_pick_weights (fun cdv AA outer s H E hr tk po => ?_)
  exact (lss_cons (ls_if (PW.pt (lw_or (lt_cmp op_lt (o_rel _) (l_callB (cr_sumA rfl) o_sum (by rfl) T.z_sum (by decide +kernel) (la_cons (lv 0) la_nil)) l_int (nomark _)) (lw_or1 (lt_cmp op_lt (o_rel _) (l_callB (cr_minA rfl) o_minL (by rfl) T.z_min (by decide +kernel) (la_cons (lv 0) la_nil)) l_int (nomark _))))) (lss_one (ls_raise rfl tk T.e_Fault.ex T.e_Fault.g T.e_Fault.k T.e_Fault.b T.e_Fault.t rfl)) lss_nil)
      (lss_one (ls_ret (lv 0))))

noncomputable def b_chance : DS := (dRet (eCall h_ratio (eCons (eOp dIx (eV 0) (eV 1)) (eCons (eCall dSum (eCons (eV 0) eNil)) eNil))))
noncomputable def h_chance : DF := runD 2 2 (b_chance)
theorem ok_chance (T : Txt K mg A) : FnOk P wd K mg base (L2.CX P wd) (2) A.a_chance A.d_chance ["weights", "k"] (spD K mg h_chance) := by
  have G_ratio : FnOk P wd K mg base (L2.CX P wd) (1) A.a_ratio A.d_ratio ["top", "bottom"] (spD K mg h_ratio) := ok_ratio T
  refine d_ok T.t_chance.F sc_chance (fun cdv AA outer s H E hr tk po => ?_)
  exact (lss_one (ls_ret (l_call G_ratio (hr.mono (by omega)) (by rfl) T.t_ratio.g T.t_ratio.F.kp T.t_ratio.b tk (la_cons (l_ix ixX o_ix (lv 0) (lv 1) (fun _ _ => rfl)) (la_cons (l_callB (cr_sumA rfl) o_sum (by rfl) T.z_sum (by decide +kernel) (la_cons (lv 0) la_nil)) la_nil)))))

noncomputable def b_law_same (rec : DF) : DS := (dSeq (dIfS (eOr (eT (eCall dIsi (eCons (eV 1) (eCons (eC (.ty "tuple")) eNil)))) (eT (eCall dIsi (eCons (eV 1) (eCons (eC (.ty "list")) eNil))))) (dSeq (dIfS (eOr (eT (eOp dNe (eCall dIsi (eCons (eV 1) (eCons (eC (.ty "tuple")) eNil))) (eCall dIsi (eCons (eV 0) (eCons (eC (.ty "tuple")) eNil))))) (eT (eOp dNe (eCall dIsi (eCons (eV 1) (eCons (eC (.ty "list")) eNil))) (eCall dIsi (eCons (eV 0) (eCons (eC (.ty "list")) eNil)))))) (dRet (eC (D.bl false))) dNext)
    (dSeq (dIfS (eT (eOp dNe (eCall dLen (eCons (eV 0) eNil)) (eCall dLen (eCons (eV 1) eNil)))) (dRet (eC (D.bl false))) dNext)
    (dSeq (dFor (wR1 (eCons (eCall dLen (eCons (eV 1) eNil)) eNil)) (tgN 2) (dIfS (eNot (eT (eCall rec (eCons (eOp dIx (eV 0) (eV 2)) (eCons (eOp dIx (eV 1) (eV 2)) eNil))))) (dRet (eC (D.bl false))) dNext))
    (dRet (eC (D.bl true)))))) dNext)
    (dSeq (dIfS (eT (eUn dIsN (eV 1))) (dRet (eUn dIsN (eV 0))) dNext)
    (dSeq (dIfS (eT (eCall dIsi (eCons (eV 1) (eCons (eC (.ty "bool")) eNil)))) (dRet (eAndV (eCall dIsi (eCons (eV 0) (eCons (eC (.ty "bool")) eNil))) (eOp dEq (eV 0) (eV 1)))) dNext)
    (dSeq (dIfS (eT (eCall dIsi (eCons (eV 1) (eCons (eC (.ty "int")) eNil)))) (dRet (eAndV (eCall dIsi (eCons (eV 0) (eCons (eC (.ty "int")) eNil))) (eAndV (eNotV (eCall dIsi (eCons (eV 0) (eCons (eC (.ty "bool")) eNil)))) (eOp dEq (eV 0) (eV 1))))) dNext)
    (dRet (eAndV (eCall dIsi (eCons (eV 0) (eCons (eC (.ty "str")) eNil))) (eOp dEq (eV 0) (eV 1))))))))
noncomputable def h_law_same : Nat → DF
  | 0 => badF
  | n + 1 => runD 2 3 (b_law_same (h_law_same n))
theorem ok_law_same (T : Txt K mg A) : ∀ n : Nat, FnOk P wd K mg base (L2.CX P wd) (0 + 1 * n) A.a_law_same A.d_law_same ["actual", "due"] (spD K mg (h_law_same n))
  | 0 => bad_ok
  | n + 1 => by
    have Frec : FnOk P wd K mg base (L2.CX P wd) (0 + 1 * n) A.a_law_same A.d_law_same ["actual", "due"] (spD K mg (h_law_same n)) := ok_law_same T n
    refine d_ok (k := 0 + 1 * n + 0) T.t_law_same.F sc_law_same (fun cdv AA outer s H E hr tk po => ?_)
    exact (lss_cons (ls_if (PW.pt (lw_or (lt_val (l_callB call_isi o_isi (by rfl) T.z_isinstance PyProof.Rows.boot_isinstance (la_cons (lv 1) (la_cons (l_ty (by rfl) T.z_tuple PyProof.Rows.boot_tuple) la_nil)))) (lw_or1 (lt_val (l_callB call_isi o_isi (by rfl) T.z_isinstance PyProof.Rows.boot_isinstance (la_cons (lv 1) (la_cons (l_ty (by rfl) T.z_list PyProof.Rows.boot_list) la_nil))))))) (lss_cons (ls_if (PW.pt (lw_or (lt_cmp op_ne o_ne (l_callB call_isi o_isi (by rfl) T.z_isinstance PyProof.Rows.boot_isinstance (la_cons (lv 1) (la_cons (l_ty (by rfl) T.z_tuple PyProof.Rows.boot_tuple) la_nil))) (l_callB call_isi o_isi (by rfl) T.z_isinstance PyProof.Rows.boot_isinstance (la_cons (lv 0) (la_cons (l_ty (by rfl) T.z_tuple PyProof.Rows.boot_tuple) la_nil))) (nomark _)) (lw_or1 (lt_cmp op_ne o_ne (l_callB call_isi o_isi (by rfl) T.z_isinstance PyProof.Rows.boot_isinstance (la_cons (lv 1) (la_cons (l_ty (by rfl) T.z_list PyProof.Rows.boot_list) la_nil))) (l_callB call_isi o_isi (by rfl) T.z_isinstance PyProof.Rows.boot_isinstance (la_cons (lv 0) (la_cons (l_ty (by rfl) T.z_list PyProof.Rows.boot_list) la_nil))) (nomark _))))) (lss_one (ls_ret l_bl)) lss_nil)
        (lss_cons (ls_if (lt_cmp op_ne o_ne (l_callB call_lenA o_len (by rfl) T.z_len PySem.boot_len (la_cons (lv 0) la_nil)) (l_callB call_lenA o_len (by rfl) T.z_len PySem.boot_len (la_cons (lv 1) la_nil)) (nomark _)) (lss_one (ls_ret l_bl)) lss_nil)
        (lss_cons (ls_for po rfl (pi_range1 (by rfl) T.z_range (la_cons (l_callB call_lenA o_len (by rfl) T.z_len PySem.boot_len (la_cons (lv 1) la_nil)) la_nil)) io_rng1 (pg_name (i := 2) sc_law_same.nd rfl (Or.inl rfl)) (g_name 2) (lss_one (ls_if (lt_not (lt_val (l_call Frec (hr.mono (by omega)) (by rfl) T.t_law_same.g T.t_law_same.F.kp T.t_law_same.b tk (la_cons (l_ix ixX o_ix (lv 0) (lv 2) (fun _ _ => rfl)) (la_cons (l_ix ixX o_ix (lv 1) (lv 2) (fun _ _ => rfl)) la_nil))))) (lss_one (ls_ret l_bl)) lss_nil)))
        (lss_one (ls_ret l_bl))))) lss_nil)
        (lss_cons (ls_if (lt_isN (lv 1)) (lss_one (ls_ret (l_isN (lv 0)))) lss_nil)
        (lss_cons (ls_if (lt_val (l_callB call_isi o_isi (by rfl) T.z_isinstance PyProof.Rows.boot_isinstance (la_cons (lv 1) (la_cons (l_ty (by rfl) T.z_bool PyProof.Rows.boot_bool) la_nil)))) (lss_one (ls_ret (l_and (l_callB call_isi o_isi (by rfl) T.z_isinstance PyProof.Rows.boot_isinstance (la_cons (lv 0) (la_cons (l_ty (by rfl) T.z_bool PyProof.Rows.boot_bool) la_nil))) (l_one (l_cmp op_eq o_eq (lv 0) (lv 1) (nomark _)))))) lss_nil)
        (lss_cons (ls_if (lt_val (l_callB call_isi o_isi (by rfl) T.z_isinstance PyProof.Rows.boot_isinstance (la_cons (lv 1) (la_cons (l_ty (by rfl) T.z_int PyProof.Rows.boot_int) la_nil)))) (lss_one (ls_ret (l_and (l_callB call_isi o_isi (by rfl) T.z_isinstance PyProof.Rows.boot_isinstance (la_cons (lv 0) (la_cons (l_ty (by rfl) T.z_int PyProof.Rows.boot_int) la_nil))) (l_and (l_not (l_callB call_isi o_isi (by rfl) T.z_isinstance PyProof.Rows.boot_isinstance (la_cons (lv 0) (la_cons (l_ty (by rfl) T.z_bool PyProof.Rows.boot_bool) la_nil)))) (l_one (l_cmp op_eq o_eq (lv 0) (lv 1) (nomark _))))))) lss_nil)
        (lss_one (ls_ret (l_and (l_callB call_isi o_isi (by rfl) T.z_isinstance PyProof.Rows.boot_isinstance (la_cons (lv 0) (la_cons (l_ty (by rfl) T.z_str PyProof.Rows.boot_str) la_nil))) (l_one (l_cmp op_eq o_eq (lv 0) (lv 1) (nomark _))))))))))

noncomputable def b_law_pool : DS := (dSeq (dSet 1 (eC (D.int 7)))
    (dSeq (dFor (wL (eSl (eV 0) eNo (eSo (eC (D.int 63))))) (tgN 2) (dSet 1 (eOp dMod (eCall dInt (eCons (eOp dAdd (eOp dMul (eV 1) (eC (D.int 31))) (eV 2)) eNil)) (eC (D.int 1000003)))))
    (dRet (eLst (eCons (eCall dList (eCons (eV 0) eNil)) (eCons (eC (D.int 0)) (eCons (eC (D.int 0)) (eCons (eC (D.int 0)) (eCons (eV 1) eNil)))))))))
noncomputable def h_law_pool : DF := runD 1 3 (b_law_pool)
theorem ok_law_pool (T : Txt K mg A) : FnOk P wd K mg base (L2.CX P wd) (1) A.a_law_pool A.d_law_pool ["script"] (spD K mg h_law_pool) := by
  refine d_ok T.t_law_pool.F sc_law_pool (fun cdv AA outer s H E hr tk po => ?_)
  exact (lss_cons (ls_set (i := 1) sc_law_pool.nd rfl (Or.inl rfl) l_int)
      (lss_cons (ls_for po rfl (pi_list (l_slice slX (lv 0) lo_none (lo_some l_int))) io_list (pg_name (i := 2) sc_law_pool.nd rfl (Or.inl rfl)) (g_name 2) (lss_one (ls_set (i := 1) sc_law_pool.nd rfl (Or.inl rfl) (l_op op_modN o_mod (l_callTy call_int1 o_int (by rfl) T.z_int PyProof.Rows.boot_int (la_cons (l_op op_addA o_add (l_op op_mulA o_mul (lv 1) l_int) (lv 2)) la_nil)) l_int))))
      (lss_one (ls_ret (l_lst (la_cons (l_callTy call_list_of o_list (by rfl) T.z_list PyProof.Rows.boot_list (la_cons (lv 0) la_nil)) (la_cons l_int (la_cons l_int (la_cons l_int (la_cons (lv 1) la_nil))))))))))

noncomputable def b_law_spread : DS := (dSeq (dSet 1 (eOp dMod (eCall dInt (eCons (eV 0) eNil)) (eC (D.int 2147483647))))
    (dSeq (dSet 2 (eC (D.int 1)))
    (dSeq (dFor (wR1 (eCons (eC (D.int 4)) eNil)) (tgN 3) (dSeq (dSet 1 (eOp dMod (eCall dInt (eCons (eOp dAdd (eOp dAdd (eOp dMul (eV 1) (eC (D.int 48271))) (eC (D.int 12345))) (eV 3)) eNil)) (eC (D.int 2147483647))))
    (dSet 2 (eOp dAdd (eOp dMul (eV 2) (eC (D.int 2147483647))) (eV 1)))))
    (dRet (eV 2)))))
noncomputable def h_law_spread : DF := runD 1 4 (b_law_spread)
theorem ok_law_spread (T : Txt K mg A) : FnOk P wd K mg base (L2.CX P wd) (1) A.a_law_spread A.d_law_spread ["cell"] (spD K mg h_law_spread) := by
  refine d_ok T.t_law_spread.F sc_law_spread (fun cdv AA outer s H E hr tk po => ?_)
  exact (lss_cons (ls_set (i := 1) sc_law_spread.nd rfl (Or.inl rfl) (l_op op_modN o_mod (l_callTy call_int1 o_int (by rfl) T.z_int PyProof.Rows.boot_int (la_cons (lv 0) la_nil)) l_int))
      (lss_cons (ls_set (i := 2) sc_law_spread.nd rfl (Or.inl rfl) l_int)
      (lss_cons (ls_for po rfl (pi_range1 (by rfl) T.z_range (la_cons l_int la_nil)) io_rng1 (pg_name (i := 3) sc_law_spread.nd rfl (Or.inl rfl)) (g_name 3) (lss_cons (ls_set (i := 1) sc_law_spread.nd rfl (Or.inl rfl) (l_op op_modN o_mod (l_callTy call_int1 o_int (by rfl) T.z_int PyProof.Rows.boot_int (la_cons (l_op op_addA o_add (l_op op_addA o_add (l_op op_mulA o_mul (lv 1) l_int) l_int) (lv 3)) la_nil)) l_int))
      (lss_one (ls_set (i := 2) sc_law_spread.nd rfl (Or.inl rfl) (l_op op_addA o_add (l_op op_mulA o_mul (lv 2) l_int) (lv 1))))))
      (lss_one (ls_ret (lv 2))))))

noncomputable def b_law_draw : DS := (dSeq (dIfS (eAnd (eT (eOp dLe (eOp dIx (eV 0) (eC (D.int 2))) (eC (D.int 0)))) (eT (eOp dLt (eOp dIx (eV 0) (eC (D.int 1))) (eCall dLen (eCons (eOp dIx (eV 0) (eC (D.int 0))) eNil))))) (dSeq (dSet 2 (eOp dIx (eOp dIx (eV 0) (eC (D.int 0))) (eOp dIx (eV 0) (eC (D.int 1)))))
    (dSeq (dPutL (eOp dAdd (eOp dIx (eV 0) (eC (D.int 1))) (eC (D.int 1))) (eV 0) (eC (D.int 1)))
    (dSeq (dPutL (eV 2) (eV 0) (eC (D.int 2)))
    (dIfS (eT (eOp dLt (eV 2) (eC (D.int 1000000000000000000)))) (dPutL (eCall h_law_spread (eCons (eV 2) eNil)) (eV 0) (eC (D.int 2))) dNext)))) dNext)
    (dSeq (dPutL (eOp dAdd (eOp dIx (eV 0) (eC (D.int 3))) (eC (D.int 1))) (eV 0) (eC (D.int 3)))
    (dSeq (dIfS (eT (eOp dLe (eOp dIx (eV 0) (eC (D.int 2))) (eC (D.int 0)))) (dSeq (dSet 3 (eOp dMod (eCall dInt (eCons (eOp dAdd (eOp dAdd (eOp dMul (eOp dIx (eV 0) (eC (D.int 4))) (eC (D.int 48271))) (eOp dMul (eOp dIx (eV 0) (eC (D.int 3))) (eC (D.int 69621)))) (eC (D.int 1))) eNil)) (eC (D.int 2147483647))))
    (dSeq (dSet 3 (eOp dMod (eCall dInt (eCons (eOp dAdd (eOp dMul (eV 3) (eC (D.int 16807))) (eOp dIx (eV 0) (eC (D.int 3)))) eNil)) (eC (D.int 2147483629))))
    (dRet (eOp dMod (eOp dDiv (eV 3) (eC (D.int 5))) (eV 1))))) dNext)
    (dSeq (dSet 4 (eOp dMod (eCall dInt (eCons (eOp dIx (eV 0) (eC (D.int 2))) eNil)) (eV 1)))
    (dSeq (dPutL (eOp dDiv (eOp dIx (eV 0) (eC (D.int 2))) (eV 1)) (eV 0) (eC (D.int 2)))
    (dRet (eV 4)))))))
noncomputable def h_law_draw : DF := runD 2 5 (b_law_draw)
theorem ok_law_draw (T : Txt K mg A) : FnOk P wd K mg base (L2.CX P wd) (2) A.a_law_draw A.d_law_draw ["pool", "many"] (spD K mg h_law_draw) := by
  have G_law_spread : FnOk P wd K mg base (L2.CX P wd) (1) A.a_law_spread A.d_law_spread ["cell"] (spD K mg h_law_spread) := ok_law_spread T
  refine d_ok T.t_law_draw.F sc_law_draw (fun cdv AA outer s H E hr tk po => ?_)
  exact (lss_cons (ls_if (PW.pt (lw_and (lt_cmp op_le (o_rel _) (l_ix ixX o_ix (lv 0) l_int (fun _ _ => rfl)) l_int (nomark _)) (lw_and1 (lt_cmp op_lt (o_rel _) (l_ix ixX o_ix (lv 0) l_int (fun _ _ => rfl)) (l_callB call_lenA o_len (by rfl) T.z_len PySem.boot_len (la_cons (l_ix ixX o_ix (lv 0) l_int (fun _ _ => rfl)) la_nil)) (nomark _))))) (lss_cons (ls_set (i := 2) sc_law_draw.nd rfl (Or.inl rfl) (l_ix ixX o_ix (l_ix ixX o_ix (lv 0) l_int (fun _ _ => rfl)) (l_ix ixX o_ix (lv 0) l_int (fun _ _ => rfl)) (fun _ _ => rfl)))
      (lss_cons (ls_putL (l_op op_addA o_add (l_ix ixX o_ix (lv 0) l_int (fun _ _ => rfl)) l_int) (lv 0) l_int (pg_sub (lv 0) l_int set_list))
      (lss_cons (ls_putL (lv 2) (lv 0) l_int (pg_sub (lv 0) l_int set_list))
      (lss_one (ls_if (lt_cmp op_lt (o_rel _) (lv 2) l_int (nomark _)) (lss_one (ls_putL (l_call G_law_spread (hr.mono (by omega)) (by rfl) T.t_law_spread.g T.t_law_spread.F.kp T.t_law_spread.b tk (la_cons (lv 2) la_nil)) (lv 0) l_int (pg_sub (lv 0) l_int set_list))) lss_nil))))) lss_nil)
      (lss_cons (ls_putL (l_op op_addA o_add (l_ix ixX o_ix (lv 0) l_int (fun _ _ => rfl)) l_int) (lv 0) l_int (pg_sub (lv 0) l_int set_list))
      (lss_cons (ls_if (lt_cmp op_le (o_rel _) (l_ix ixX o_ix (lv 0) l_int (fun _ _ => rfl)) l_int (nomark _)) (lss_cons (ls_set (i := 3) sc_law_draw.nd rfl (Or.inl rfl) (l_op op_modN o_mod (l_callTy call_int1 o_int (by rfl) T.z_int PyProof.Rows.boot_int (la_cons (l_op op_addA o_add (l_op op_addA o_add (l_op op_mulA o_mul (l_ix ixX o_ix (lv 0) l_int (fun _ _ => rfl)) l_int) (l_op op_mulA o_mul (l_ix ixX o_ix (lv 0) l_int (fun _ _ => rfl)) l_int)) l_int) la_nil)) l_int))
      (lss_cons (ls_set (i := 3) sc_law_draw.nd rfl (Or.inl rfl) (l_op op_modN o_mod (l_callTy call_int1 o_int (by rfl) T.z_int PyProof.Rows.boot_int (la_cons (l_op op_addA o_add (l_op op_mulA o_mul (lv 3) l_int) (l_ix ixX o_ix (lv 0) l_int (fun _ _ => rfl))) la_nil)) l_int))
      (lss_one (ls_ret (l_op op_modN o_mod (l_op op_fdivG o_div (lv 3) l_int) (lv 1)))))) lss_nil)
      (lss_cons (ls_set (i := 4) sc_law_draw.nd rfl (Or.inl rfl) (l_op op_modN o_mod (l_callTy call_int1 o_int (by rfl) T.z_int PyProof.Rows.boot_int (la_cons (l_ix ixX o_ix (lv 0) l_int (fun _ _ => rfl)) la_nil)) (lv 1)))
      (lss_cons (ls_putL (l_op op_fdivG o_div (l_ix ixX o_ix (lv 0) l_int (fun _ _ => rfl)) (lv 1)) (lv 0) l_int (pg_sub (lv 0) l_int set_list))
      (lss_one (ls_ret (lv 4))))))))

noncomputable def b_law_gcd : DS := (dSeq (dSet 0 (eCall dAbs (eCons (eV 0) eNil)))
    (dSeq (dSet 1 (eCall dAbs (eCons (eV 1) eNil)))
    (dSeq (dFor (wR1 (eCons (eOp dAdd (eOp dAdd (eOp dAdd (eUn dBits (eV 0)) (eUn dBits (eV 1))) (eC (D.int 2))) (eUn dBits (eV 0))) eNil)) (tgN 2) (dSeq (dIfS (eT (eOp dEq (eV 1) (eC (D.int 0)))) dBreak dNext)
    (dSeq (dSet 3 (eOp dMod (eCall dInt (eCons (eV 0) eNil)) (eV 1)))
    (dSeq (dSet 0 (eV 1))
    (dSet 1 (eV 3))))))
    (dRet (eV 0)))))
noncomputable def h_law_gcd : DF := runD 2 4 (b_law_gcd)
theorem ok_law_gcd (T : Txt K mg A) : FnOk P wd K mg base (L2.CX P wd) (1) A.a_law_gcd A.d_law_gcd ["a", "b"] (spD K mg h_law_gcd) := by
  refine d_ok T.t_law_gcd.F sc_law_gcd (fun cdv AA outer s H E hr tk po => ?_)
  exact (lss_cons (ls_set (i := 0) sc_law_gcd.nd rfl (Or.inl rfl) (l_callB call_abs o_abs (by rfl) T.z_abs (by decide +kernel) (la_cons (lv 0) la_nil)))
      (lss_cons (ls_set (i := 1) sc_law_gcd.nd rfl (Or.inl rfl) (l_callB call_abs o_abs (by rfl) T.z_abs (by decide +kernel) (la_cons (lv 1) la_nil)))
      (lss_cons (ls_for po rfl (pi_range1 (by rfl) T.z_range (la_cons (l_op op_addA o_add (l_op op_addA o_add (l_op op_addA o_add (l_bits (lv 0)) (l_bits (lv 1))) l_int) (l_bits (lv 0))) la_nil)) io_rng1 (pg_name (i := 2) sc_law_gcd.nd rfl (Or.inl rfl)) (g_name 2) (lss_cons (ls_if (lt_cmp op_eq o_eq (lv 1) l_int (nomark _)) (lss_one ls_break) lss_nil)
      (lss_cons (ls_set (i := 3) sc_law_gcd.nd rfl (Or.inl rfl) (l_op op_modN o_mod (l_callTy call_int1 o_int (by rfl) T.z_int PyProof.Rows.boot_int (la_cons (lv 0) la_nil)) (lv 1)))
      (lss_cons (ls_set (i := 0) sc_law_gcd.nd rfl (Or.inl rfl) (lv 1))
      (lss_one (ls_set (i := 1) sc_law_gcd.nd rfl (Or.inl rfl) (lv 3)))))))
      (lss_one (ls_ret (lv 0))))))

noncomputable def b_law_frac : DS := (dSeq (dIfS (eT (eOp dLt (eV 1) (eC (D.int 0)))) (dSeq (dSet 0 (eUn dNeg (eV 0)))
    (dSet 1 (eUn dNeg (eV 1)))) dNext)
    (dSeq (dSet 2 (eCall h_law_gcd (eCons (eV 0) (eCons (eV 1) eNil))))
    (dRet (eTup (eCons (eOp dDiv (eV 0) (eV 2)) (eCons (eOp dDiv (eV 1) (eV 2)) eNil))))))
noncomputable def h_law_frac : DF := runD 2 3 (b_law_frac)
theorem ok_law_frac (T : Txt K mg A) : FnOk P wd K mg base (L2.CX P wd) (2) A.a_law_frac A.d_law_frac ["top", "bottom"] (spD K mg h_law_frac) := by
  have G_law_gcd : FnOk P wd K mg base (L2.CX P wd) (1) A.a_law_gcd A.d_law_gcd ["a", "b"] (spD K mg h_law_gcd) := ok_law_gcd T
  refine d_ok T.t_law_frac.F sc_law_frac (fun cdv AA outer s H E hr tk po => ?_)
  exact (lss_cons (ls_if (lt_cmp op_lt (o_rel _) (lv 1) l_int (nomark _)) (lss_cons (ls_set (i := 0) sc_law_frac.nd rfl (Or.inl rfl) (l_un un_neg o_neg (lv 0)))
      (lss_one (ls_set (i := 1) sc_law_frac.nd rfl (Or.inl rfl) (l_un un_neg o_neg (lv 1))))) lss_nil)
      (lss_cons (ls_set (i := 2) sc_law_frac.nd rfl (Or.inl rfl) (l_call G_law_gcd (hr.mono (by omega)) (by rfl) T.t_law_gcd.g T.t_law_gcd.F.kp T.t_law_gcd.b tk (la_cons (lv 0) (la_cons (lv 1) la_nil))))
      (lss_one (ls_ret (l_tup (la_cons (l_op op_fdivG o_div (lv 0) (lv 2)) (la_cons (l_op op_fdivG o_div (lv 1) (lv 2)) la_nil)))))))

noncomputable def b_law_told : DS := (dTry [("Fault", true)] (dSeq (dIfS (eT (eOp dEq (eV 0) (eC (D.int 0)))) (dRet (eCall h_flip_weights (eCons (eV 1) (eCons (eV 2) eNil)))) dNext)
    (dSeq (dIfS (eT (eOp dEq (eV 0) (eC (D.int 1)))) (dRet (eCall h_uniform_weights (eCons (eV 1) (eCons (eV 2) eNil)))) dNext)
    (dRet (eCall h_pick_weights (eCons (eV 1) eNil))))) (dRet (eC D.non)))
noncomputable def h_law_told : DF := runD 3 3 (b_law_told)
theorem ok_law_told (T : Txt K mg A) : FnOk P wd K mg base (L2.CX P wd) (2) A.a_law_told A.d_law_told ["kind", "a", "b"] (spD K mg h_law_told) := by
  have G_flip_weights : FnOk P wd K mg base (L2.CX P wd) (1) A.a_flip_weights A.d_flip_weights ["a", "b"] (spD K mg h_flip_weights) := ok_flip_weights T
  have G_uniform_weights : FnOk P wd K mg base (L2.CX P wd) (1) A.a_uniform_weights A.d_uniform_weights ["low", "high"] (spD K mg h_uniform_weights) := ok_uniform_weights T
  have G_pick_weights : FnOk P wd K mg base (L2.CX P wd) (1) A.a_pick_weights A.d_pick_weights ["weights"] (spD K mg h_pick_weights) := ok_pick_weights T
  refine d_ok T.t_law_told.F sc_law_told (fun cdv AA outer s H E hr tk po => ?_)
  exact (lss_one (ls_try rfl rfl ⟨rfl, by decide, Or.inl T.e_Fault.g⟩ tk (mat_cons T.e_Fault.g (PySem.W.exm_ref T.e_Fault.b T.e_Fault.e.hd T.e_Fault.t T.e_Fault.s) mat_nil) (by intro ρ S c fs ρ2 S2 h; cases h) (fun W2 pn xe tk2 po2 => by exact (lss_cons (ls_if (lt_cmp op_eq o_eq (lv 0) l_int (nomark _)) (lss_one (ls_ret (l_call G_flip_weights (hr.mono (by omega)) (by rfl) T.t_flip_weights.g T.t_flip_weights.F.kp T.t_flip_weights.b tk2 (la_cons (lv 1) (la_cons (lv 2) la_nil))))) lss_nil)
      (lss_cons (ls_if (lt_cmp op_eq o_eq (lv 0) l_int (nomark _)) (lss_one (ls_ret (l_call G_uniform_weights (hr.mono (by omega)) (by rfl) T.t_uniform_weights.g T.t_uniform_weights.F.kp T.t_uniform_weights.b tk2 (la_cons (lv 1) (la_cons (lv 2) la_nil))))) lss_nil)
      (lss_one (ls_ret (l_call G_pick_weights (hr.mono (by omega)) (by rfl) T.t_pick_weights.g T.t_pick_weights.F.kp T.t_pick_weights.b tk2 (la_cons (lv 1) la_nil))))))) (fun a oe cls d pn hz hf => by exact (lss_one (ls_ret l_non)))))

noncomputable def b_law_chances : DS := (dSeq (dFor (wR1 (eCons (eCall dLen (eCons (eV 0) eNil)) eNil)) (tgN 1) (dIfS (eNot (eT (eCall (h_law_same 2) (eCons (eCall h_chance (eCons (eV 0) (eCons (eV 1) eNil))) (eCons (eCall h_law_frac (eCons (eOp dIx (eV 0) (eV 1)) (eCons (eCall dSum (eCons (eV 0) eNil)) eNil))) eNil))))) (dRet (eC (D.bl false))) dNext))
    (dRet (eC (D.bl true))))
noncomputable def h_law_chances : DF := runD 1 2 (b_law_chances)
theorem ok_law_chances (T : Txt K mg A) : FnOk P wd K mg base (L2.CX P wd) (3) A.a_law_chances A.d_law_chances ["weights"] (spD K mg h_law_chances) := by
  have G_chance : FnOk P wd K mg base (L2.CX P wd) (2) A.a_chance A.d_chance ["weights", "k"] (spD K mg h_chance) := ok_chance T
  have G_law_same : FnOk P wd K mg base (L2.CX P wd) (2) A.a_law_same A.d_law_same ["actual", "due"] (spD K mg (h_law_same 2)) := ok_law_same T 2
  have G_law_frac : FnOk P wd K mg base (L2.CX P wd) (2) A.a_law_frac A.d_law_frac ["top", "bottom"] (spD K mg h_law_frac) := ok_law_frac T
  refine d_ok T.t_law_chances.F sc_law_chances (fun cdv AA outer s H E hr tk po => ?_)
  exact (lss_cons (ls_for po rfl (pi_range1 (by rfl) T.z_range (la_cons (l_callB call_lenA o_len (by rfl) T.z_len PySem.boot_len (la_cons (lv 0) la_nil)) la_nil)) io_rng1 (pg_name (i := 1) sc_law_chances.nd rfl (Or.inl rfl)) (g_name 1) (lss_one (ls_if (lt_not (lt_val (l_call G_law_same (hr.mono (by omega)) (by rfl) T.t_law_same.g T.t_law_same.F.kp T.t_law_same.b tk (la_cons (l_call G_chance (hr.mono (by omega)) (by rfl) T.t_chance.g T.t_chance.F.kp T.t_chance.b tk (la_cons (lv 0) (la_cons (lv 1) la_nil))) (la_cons (l_call G_law_frac (hr.mono (by omega)) (by rfl) T.t_law_frac.g T.t_law_frac.F.kp T.t_law_frac.b tk (la_cons (l_ix ixX o_ix (lv 0) (lv 1) (fun _ _ => rfl)) (la_cons (l_callB (cr_sumA rfl) o_sum (by rfl) T.z_sum (by decide +kernel) (la_cons (lv 0) la_nil)) la_nil))) la_nil))))) (lss_one (ls_ret l_bl)) lss_nil)))
      (lss_one (ls_ret l_bl)))

noncomputable def b_law : DS := (dSeq (dSet 1 (eCall h_law_pool (eCons (eV 0) eNil)))
    (dSeq (dSet 2 (eOp dSub (eCall h_law_draw (eCons (eV 1) (eCons (eC (D.int 9)) eNil))) (eC (D.int 2))))
    (dSeq (dIfS (eT (eOp dEq (eCall h_law_draw (eCons (eV 1) (eCons (eC (D.int 4)) eNil))) (eC (D.int 0)))) (dSet 2 (eOp dSub (eCall h_law_draw (eCons (eV 1) (eCons (eC (D.int 1999999999)) eNil))) (eC (D.int 999999999)))) dNext)
    (dSeq (dSet 3 (eOp dAdd (eV 2) (eOp dIx (eTup (eCons (eC (D.int 0)) (eCons (eC (D.int 1)) (eCons (eUn dNeg (eC (D.int 1))) (eCons (eC (D.int 62)) (eCons (eC (D.int 63)) (eCons (eC (D.int 64)) (eCons (eC (D.int 65)) (eCons (eC (D.int 3)) (eCons (eC (D.int 999)) eNil)))))))))) (eCall h_law_draw (eCons (eV 1) (eCons (eC (D.int 9)) eNil))))))
    (dSeq (dSet 4 (eC D.non))
    (dSeq (dIfS (eAnd (eT (eOp dGe (eV 2) (eC (D.int 0)))) (eAnd (eT (eOp dLe (eV 2) (eV 3))) (eT (eOp dGe (eV 3) (eC (D.int 1)))))) (dSet 4 (eTup (eCons (eV 2) (eCons (eOp dSub (eV 3) (eV 2)) eNil)))) dNext)
    (dSeq (dIfS (eOr (eNot (eT (eCall (h_law_same 2) (eCons (eCall h_law_told (eCons (eC (D.int 0)) (eCons (eV 2) (eCons (eV 3) eNil)))) (eCons (eV 4) eNil))))) (eAnd (eT (eUn dNotN (eV 4))) (eNot (eT (eCall h_law_chances (eCons (eV 4) eNil)))))) (dRet (eC (D.bl false))) dNext)
    (dSeq (dSet 4 (eC D.non))
    (dSeq (dIfS (eT (eChain dLe dLe (eC (D.int 1)) (eOp dAdd (eOp dSub (eV 3) (eV 2)) (eC (D.int 1))) (eC (D.int 64)))) (dSet 4 (eOp dMul (eTup (eCons (eC (D.int 1)) eNil)) (eOp dAdd (eOp dSub (eV 3) (eV 2)) (eC (D.int 1))))) dNext)
    (dSeq (dIfS (eOr (eNot (eT (eCall (h_law_same 2) (eCons (eCall h_law_told (eCons (eC (D.int 1)) (eCons (eV 2) (eCons (eV 3) eNil)))) (eCons (eV 4) eNil))))) (eAnd (eT (eUn dNotN (eV 4))) (eNot (eT (eCall h_law_chances (eCons (eV 4) eNil)))))) (dRet (eC (D.bl false))) dNext)
    (dSeq (dSet 5 (eLst eNil))
    (dSeq (dFor (wR1 (eCons (eOp dAdd (eC (D.int 1)) (eCall h_law_draw (eCons (eV 1) (eCons (eC (D.int 6)) eNil)))) eNil)) (tgN 6) (dExpr (eMeth "list" mAppend (eV 5) (eCons (eOp dIx (eTup (eCons (eC (D.int 0)) (eCons (eC (D.int 0)) (eCons (eC (D.int 1)) (eCons (eC (D.int 2)) (eCons (eC (D.int 5)) (eCons (eCall h_law_draw (eCons (eV 1) (eCons (eOp dPow (eC (D.int 10)) (eC (D.int 9))) eNil))) (eCons (eUn dNeg (eC (D.int 1))) eNil)))))))) (eCall h_law_draw (eCons (eV 1) (eCons (eOp dAdd (eC (D.int 6)) (eCall dInt (eCons (eOp dEq (eV 6) (eC (D.int 2))) eNil))) eNil)))) eNil))))
    (dSeq (dSet 5 (eCall dTuple (eCons (eV 5) eNil)))
    (dSeq (dSet 4 (eIf (eAnd (eT (eOp dGe (eCall dMinL (eCons (eV 5) eNil)) (eC (D.int 0)))) (eT (eOp dGe (eCall dSum (eCons (eV 5) eNil)) (eC (D.int 1))))) (eV 5) (eC D.non)))
    (dRet (eAndV (eCall (h_law_same 2) (eCons (eCall h_law_told (eCons (eC (D.int 2)) (eCons (eV 5) (eCons (eC (D.int 0)) eNil)))) (eCons (eV 4) eNil))) (eOrV (eUn dIsN (eV 4)) (eCall h_law_chances (eCons (eV 4) eNil)))))))))))))))))))
noncomputable def h_law : DF := runD 1 7 (b_law)
theorem ok_law (T : Txt K mg A) : FnOk P wd K mg base (L2.CX P wd) (4) A.a_law A.d_law ["script"] (spD K mg h_law) := by
  have G_law_same : FnOk P wd K mg base (L2.CX P wd) (2) A.a_law_same A.d_law_same ["actual", "due"] (spD K mg (h_law_same 2)) := ok_law_same T 2
  have G_law_pool : FnOk P wd K mg base (L2.CX P wd) (1) A.a_law_pool A.d_law_pool ["script"] (spD K mg h_law_pool) := ok_law_pool T
  have G_law_draw : FnOk P wd K mg base (L2.CX P wd) (2) A.a_law_draw A.d_law_draw ["pool", "many"] (spD K mg h_law_draw) := ok_law_draw T
  have G_law_told : FnOk P wd K mg base (L2.CX P wd) (2) A.a_law_told A.d_law_told ["kind", "a", "b"] (spD K mg h_law_told) := ok_law_told T
  have G_law_chances : FnOk P wd K mg base (L2.CX P wd) (3) A.a_law_chances A.d_law_chances ["weights"] (spD K mg h_law_chances) := ok_law_chances T
  refine d_ok T.t_law.F sc_law (fun cdv AA outer s H E hr tk po => ?_)
  exact (lss_cons (ls_set (i := 1) sc_law.nd rfl (Or.inl rfl) (l_call G_law_pool (hr.mono (by omega)) (by rfl) T.t_law_pool.g T.t_law_pool.F.kp T.t_law_pool.b tk (la_cons (lv 0) la_nil)))
      (lss_cons (ls_set (i := 2) sc_law.nd rfl (Or.inl rfl) (l_op op_sub o_sub (l_call G_law_draw (hr.mono (by omega)) (by rfl) T.t_law_draw.g T.t_law_draw.F.kp T.t_law_draw.b tk (la_cons (lv 1) (la_cons l_int la_nil))) l_int))
      (lss_cons (ls_if (lt_cmp op_eq o_eq (l_call G_law_draw (hr.mono (by omega)) (by rfl) T.t_law_draw.g T.t_law_draw.F.kp T.t_law_draw.b tk (la_cons (lv 1) (la_cons l_int la_nil))) l_int (nomark _)) (lss_one (ls_set (i := 2) sc_law.nd rfl (Or.inl rfl) (l_op op_sub o_sub (l_call G_law_draw (hr.mono (by omega)) (by rfl) T.t_law_draw.g T.t_law_draw.F.kp T.t_law_draw.b tk (la_cons (lv 1) (la_cons l_int la_nil))) l_int))) lss_nil)
      (lss_cons (ls_set (i := 3) sc_law.nd rfl (Or.inl rfl) (l_op op_addA o_add (lv 2) (l_ix ixX o_ix (l_tup (la_cons l_int (la_cons l_int (la_cons (l_un un_neg o_neg l_int) (la_cons l_int (la_cons l_int (la_cons l_int (la_cons l_int (la_cons l_int (la_cons l_int la_nil)))))))))) (l_call G_law_draw (hr.mono (by omega)) (by rfl) T.t_law_draw.g T.t_law_draw.F.kp T.t_law_draw.b tk (la_cons (lv 1) (la_cons l_int la_nil))) (fun _ _ => rfl))))
      (lss_cons (ls_set (i := 4) sc_law.nd rfl (Or.inl rfl) l_non)
      (lss_cons (ls_if (PW.pt (lw_and (lt_cmp op_ge (o_rel _) (lv 2) l_int (nomark _)) (lw_and (lt_cmp op_le (o_rel _) (lv 2) (lv 3) (nomark _)) (lw_and1 (lt_cmp op_ge (o_rel _) (lv 3) l_int (nomark _)))))) (lss_one (ls_set (i := 4) sc_law.nd rfl (Or.inl rfl) (l_tup (la_cons (lv 2) (la_cons (l_op op_sub o_sub (lv 3) (lv 2)) la_nil))))) lss_nil)
      (lss_cons (ls_if (PW.pt (lw_or (lt_not (lt_val (l_call G_law_same (hr.mono (by omega)) (by rfl) T.t_law_same.g T.t_law_same.F.kp T.t_law_same.b tk (la_cons (l_call G_law_told (hr.mono (by omega)) (by rfl) T.t_law_told.g T.t_law_told.F.kp T.t_law_told.b tk (la_cons l_int (la_cons (lv 2) (la_cons (lv 3) la_nil)))) (la_cons (lv 4) la_nil))))) (lw_or1 (PW.pt (lw_and (lt_notN (lv 4)) (lw_and1 (lt_not (lt_val (l_call G_law_chances (hr.mono (by omega)) (by rfl) T.t_law_chances.g T.t_law_chances.F.kp T.t_law_chances.b tk (la_cons (lv 4) la_nil)))))))))) (lss_one (ls_ret l_bl)) lss_nil)
      (lss_cons (ls_set (i := 4) sc_law.nd rfl (Or.inl rfl) l_non)
      (lss_cons (ls_if (lt_chain op_le (o_rel _) op_le (o_rel _) l_int (l_op op_addA o_add (l_op op_sub o_sub (lv 3) (lv 2)) l_int) l_int) (lss_one (ls_set (i := 4) sc_law.nd rfl (Or.inl rfl) (l_op op_mulA o_mul (l_tup (la_cons l_int la_nil)) (l_op op_addA o_add (l_op op_sub o_sub (lv 3) (lv 2)) l_int)))) lss_nil)
      (lss_cons (ls_if (PW.pt (lw_or (lt_not (lt_val (l_call G_law_same (hr.mono (by omega)) (by rfl) T.t_law_same.g T.t_law_same.F.kp T.t_law_same.b tk (la_cons (l_call G_law_told (hr.mono (by omega)) (by rfl) T.t_law_told.g T.t_law_told.F.kp T.t_law_told.b tk (la_cons l_int (la_cons (lv 2) (la_cons (lv 3) la_nil)))) (la_cons (lv 4) la_nil))))) (lw_or1 (PW.pt (lw_and (lt_notN (lv 4)) (lw_and1 (lt_not (lt_val (l_call G_law_chances (hr.mono (by omega)) (by rfl) T.t_law_chances.g T.t_law_chances.F.kp T.t_law_chances.b tk (la_cons (lv 4) la_nil)))))))))) (lss_one (ls_ret l_bl)) lss_nil)
      (lss_cons (ls_set (i := 5) sc_law.nd rfl (Or.inl rfl) (l_lst la_nil))
      (lss_cons (ls_for po rfl (pi_range1 (by rfl) T.z_range (la_cons (l_op op_addA o_add l_int (l_call G_law_draw (hr.mono (by omega)) (by rfl) T.t_law_draw.g T.t_law_draw.F.kp T.t_law_draw.b tk (la_cons (lv 1) (la_cons l_int la_nil)))) la_nil)) io_rng1 (pg_name (i := 6) sc_law.nd rfl (Or.inl rfl)) (g_name 6) (lss_one (ls_expr (l_bm PySem.F.plainAttrs_list PySem.F.slot_list_append PySem.F.type_list_append mt_append om_append (lv 5) (la_cons (l_ix ixX o_ix (l_tup (la_cons l_int (la_cons l_int (la_cons l_int (la_cons l_int (la_cons l_int (la_cons (l_call G_law_draw (hr.mono (by omega)) (by rfl) T.t_law_draw.g T.t_law_draw.F.kp T.t_law_draw.b tk (la_cons (lv 1) (la_cons (l_op op_pow o_pow l_int l_int) la_nil))) (la_cons (l_un un_neg o_neg l_int) la_nil)))))))) (l_call G_law_draw (hr.mono (by omega)) (by rfl) T.t_law_draw.g T.t_law_draw.F.kp T.t_law_draw.b tk (la_cons (lv 1) (la_cons (l_op op_addA o_add l_int (l_callTy call_int1 o_int (by rfl) T.z_int PyProof.Rows.boot_int (la_cons (l_cmp op_eq o_eq (lv 6) l_int (nomark _)) la_nil))) la_nil))) (fun _ _ => rfl)) la_nil)))))
      (lss_cons (ls_set (i := 5) sc_law.nd rfl (Or.inl rfl) (l_callTy call_tuple_of o_tuple (by rfl) T.z_tuple PyProof.Rows.boot_tuple (la_cons (lv 5) la_nil)))
      (lss_cons (ls_set (i := 4) sc_law.nd rfl (Or.inl rfl) (l_ifx (PW.pt (lw_and (lt_cmp op_ge (o_rel _) (l_callB (cr_minA rfl) o_minL (by rfl) T.z_min (by decide +kernel) (la_cons (lv 5) la_nil)) l_int (nomark _)) (lw_and1 (lt_cmp op_ge (o_rel _) (l_callB (cr_sumA rfl) o_sum (by rfl) T.z_sum (by decide +kernel) (la_cons (lv 5) la_nil)) l_int (nomark _))))) (lv 5) l_non))
      (lss_one (ls_ret (l_and (l_call G_law_same (hr.mono (by omega)) (by rfl) T.t_law_same.g T.t_law_same.F.kp T.t_law_same.b tk (la_cons (l_call G_law_told (hr.mono (by omega)) (by rfl) T.t_law_told.g T.t_law_told.F.kp T.t_law_told.b tk (la_cons l_int (la_cons (lv 5) (la_cons l_int la_nil)))) (la_cons (lv 4) la_nil))) (l_one (l_or (l_isN (lv 4)) (l_one (l_call G_law_chances (hr.mono (by omega)) (by rfl) T.t_law_chances.g T.t_law_chances.F.kp T.t_law_chances.b tk (la_cons (lv 4) la_nil))))))))))))))))))))))

end

/-! ### the pool of draws -/
structure PoolS (S : Sto) (p l : Nat) : Prop where
  at_ : ∃ (ns : List Int) (pos cur cnt salt : Int), S[p]? = some (.lst [.obj l, .int pos, .int cur, .int cnt, .int salt]) ∧ S[l]? = some (.lst (ns.map D.int)) ∧ 0 ≤ pos
  ne : l ≠ p
/-- nothing but X has changed, of what there was -/
structure Fr (X : Nat → Prop) (S S' : Sto) : Prop where
  len : S.length ≤ S'.length
  old : ∀ i, i < S.length → ¬X i → S'[i]? = S[i]?
section
variable {X Y : Nat → Prop} {S S1 S2 : Sto}
theorem Fr.refl : Fr X S S := ⟨Nat.le_refl _, fun _ _ _ => rfl⟩
theorem Fr.trans (a : Fr X S S1) (b : Fr X S1 S2) : Fr X S S2 := ⟨Nat.le_trans a.len b.len, fun i hi h => (b.old i (Nat.lt_of_lt_of_le hi a.len) h).trans (a.old i hi h)⟩
theorem Fr.mono (a : Fr X S S1) (h : ∀ i, i < S.length → X i → Y i) : Fr Y S S1 := ⟨a.len, fun i hi h2 => a.old i hi fun z => h2 (h i hi z)⟩
theorem Fr.set {n : Nat} (a : Fr X S S1) (o : Ob) (h : n < S.length → X n) : Fr X S (S1.set n o) := ⟨by rw [List.length_set]; exact a.len, fun i hi h2 => (List.getElem?_set_ne (fun e => h2 (by subst e; exact h hi))).trans (a.old i hi h2)⟩
theorem Fr.at (a : Fr X S S1) {i : Nat} {o : Ob} (h : S[i]? = some o) (hn : ¬X i) : S1[i]? = some o := (a.old i (lt_of_get h) hn).trans h
theorem Fr.add (a : Fr X S S1) (o : Ob) : Fr X S (S1 ++ [o]) := ⟨by rw [List.length_append]; have := a.len; omega, fun i hi h => by rw [List.getElem?_append_left (Nat.lt_of_lt_of_le hi a.len)]; exact a.old i hi h⟩
theorem Fr.lt (a : Fr X S S1) {n : Nat} (h : n < S.length) : n < S1.length := Nat.lt_of_lt_of_le h a.len
end
theorem PoolS.lp {S : Sto} {p l : Nat} (h : PoolS S p l) : p < S.length := by
  obtain ⟨⟨ns, pos, cur, cnt, salt, hp, hl, hpos⟩, _⟩ := h
  exact lt_of_get hp
theorem PoolS.ll {S : Sto} {p l : Nat} (h : PoolS S p l) : l < S.length := by
  obtain ⟨⟨ns, pos, cur, cnt, salt, hp, hl, hpos⟩, _⟩ := h
  exact lt_of_get hl
theorem PoolS.fr {S S' : Sto} {p l : Nat} {X : Nat → Prop} (h : PoolS S p l) (f : Fr X S S') (hp : ¬X p) (hl : ¬X l) : PoolS S' p l := by
  obtain ⟨⟨ns, pos, cur, cnt, salt, h1, h2, h3⟩, h4⟩ := h
  exact ⟨⟨ns, pos, cur, cnt, salt, f.at h1 hp, f.at h2 hl, h3⟩, h4⟩
theorem PoolS.set {S : Sto} {p l n : Nat} {o : Ob} (h : PoolS S p l) (hp : n ≠ p) (hl : n ≠ l) : PoolS (S.set n o) p l := h.fr (Fr.refl.set (X := fun i => i = n) o fun _ => rfl) (fun e => hp e.symm) (fun e => hl e.symm)
theorem PoolS.add {S : Sto} {p l : Nat} {o : Ob} (h : PoolS S p l) : PoolS (S ++ [o]) p l := h.fr (Fr.refl.add (X := fun _ => False) o) (fun h => h) (fun h => h)
theorem ix_put {S : Sto} {p : Nat} {i : Int} {xs : List D} (h : p < S.length) : dIx (.obj p) (.int i) (S.set p (.lst xs)) = (match atI xs i with | some d => .ok d (S.set p (.lst xs)) | none => .bad) := ix_lst (List.getElem?_set_self h)
theorem get_set {S : Sto} {p : Nat} {o : Ob} (h : p < S.length) : (S.set p o)[p]? = some o := List.getElem?_set_self h
theorem ixN_5 : ixN 5 (0 : Int) = some 0 ∧ ixN 5 (1 : Int) = some 1 ∧ ixN 5 (2 : Int) = some 2 ∧ ixN 5 (3 : Int) = some 3 ∧ ixN 5 (4 : Int) = some 4 := ⟨rfl, rfl, rfl, rfl, rfl⟩
theorem spread_ok (c : Int) (S : Sto) : ∃ v, h_law_spread [.int c] S = .ok (.int v) S := by
  unfold h_law_spread runD b_law_spread
  walk_at "ev"
  generalize e : dLoop _ _ _ _ _ _ = r
  obtain ⟨ρ', S', rfl, rfl, _, m, t, v, rfl⟩ := loop_use e
    (fun items ρ S1 => S1 = S ∧ (∀ d ∈ items, ∃ i, d = .int i) ∧ ∃ (m t : Int) (v : Option D), ρ = [some (.int c), some (.int m), some (.int t), v])
    ⟨rfl, fun d hd => rng_ints hd, _, _, _, rfl⟩ (by
      rintro d r ρ S1 ⟨rfl, hd, m, t, v, rfl⟩
      obtain ⟨i, rfl⟩ := hd d List.mem_cons_self
      refine ⟨_, rfl, ?_⟩
      walk_at "ev0"
      exact ⟨fun x hx => hd x (List.mem_cons_of_mem _ hx), _, _, _, rfl⟩)
  walk_at "ev"
  exact ⟨_, rfl⟩
theorem draw_ok {S : Sto} {p l : Nat} {many : Int} (h : PoolS S p l) (h0 : 0 < many) (h1 : many.natAbs.log2 < 9000) : ∃ v S', h_law_draw [.obj p, .int many] S = .ok (.int v) S' ∧ 0 ≤ v ∧ v < many ∧ PoolS S' p l ∧ Fr (fun i => i = p) S S' := by
  obtain ⟨⟨ns, pos, cur, cnt, salt, hp, hl, hpos⟩, hne⟩ := h
  have hne' : p ≠ l := hne.symm
  have hm : many ≠ 0 := by omega
  unfold h_law_draw
  walk_at "env"
  unfold b_law_draw
  refine seq_cut (fun r => ∃ v S', endR r = .ok (.int v) S' ∧ 0 ≤ v ∧ v < many ∧ PoolS S' p l ∧ Fr (fun i => i = p) S S') (fun ρ S1 => Fr (fun i => i = p) S S1 ∧ ∃ (pos cur : Int) (v2 : Option D), ρ = [some (.obj p), some (.int many), v2, none, none] ∧ S1[p]? = some (.lst [.obj l, .int pos, .int cur, .int cnt, .int salt]) ∧ 0 ≤ pos) ?_ ?_
  · by_cases hc : cur ≤ 0
    · by_cases hc2 : pos < (ns.length : Int)
      · obtain ⟨j, rfl⟩ := Int.eq_ofNat_of_zero_le hpos
        have hj : j < ns.length := by omega
        have ej : atI (ns.map D.int) (j : Int) = some (.int ns[j]) := atI_nat (by rw [List.getElem?_map, List.getElem?_eq_getElem hj]; rfl)
        generalize ns[j] = z at ej
        obtain ⟨z', hz⟩ := spread_ok z (S.set p (Ob.lst [D.obj l, D.int (↑j + 1), D.int z, D.int cnt, D.int salt]))
        by_cases hz2 : z < 1000000000000000000
        · walk_at "ev"
          exact ⟨_, _, rfl, Fr.refl.set _ (fun _ => rfl), _, _, _, rfl, get_put hp, by omega⟩
        · walk_at "ev"
          exact ⟨_, _, rfl, Fr.refl.set _ (fun _ => rfl), _, _, _, rfl, get_put hp, by omega⟩
      · walk_at "ev"
        exact ⟨_, _, rfl, Fr.refl, _, _, _, rfl, hp, hpos⟩
    · walk_at "ev"
      exact ⟨_, _, rfl, Fr.refl, _, _, _, rfl, hp, hpos⟩
  · rintro ρ S1 ⟨fr, pos, cur, v2, rfl, hp1, hpos⟩
    have hl1 : S1[l]? = some (.lst (ns.map D.int)) := fr.at hl hne
    by_cases hc : cur ≤ 0
    · walk_at "ev"
      exact ⟨_, _, rfl, Int.fmod_nonneg_of_pos _ h0, Int.fmod_lt_of_pos _ h0, ⟨⟨ns, _, _, _, _, get_put hp1, (get_put_ne hne').trans hl1, hpos⟩, hne⟩, fr.set _ fun _ => rfl⟩
    · walk_at "ev"
      exact ⟨_, _, rfl, Int.fmod_nonneg_of_pos _ h0, Int.fmod_lt_of_pos _ h0, ⟨⟨ns, _, _, _, _, get_put hp1, (get_put_ne hne').trans hl1, hpos⟩, hne⟩, fr.set _ fun _ => rfl⟩
theorem draw_use {S : Sto} {p l : Nat} {many : Int} {r : Res D} (e : h_law_draw [.obj p, .int many] S = r) (h : PoolS S p l) (h0 : 0 < many) (h1 : many.natAbs.log2 < 9000) : ∃ v S', r = .ok (.int v) S' ∧ 0 ≤ v ∧ v < many ∧ PoolS S' p l ∧ Fr (fun i => i = p) S S' := by
  obtain ⟨v, S', e2, h2⟩ := draw_ok h h0 h1
  exact ⟨v, S', e.symm.trans e2, h2⟩
theorem cutL_map {α β : Type} (f : α → β) (xs : List α) (lo hi : Option Int) : cutL (xs.map f) lo hi = (cutL xs lo hi).map f := by
  unfold cutL
  rw [List.length_map, List.map_take, List.map_drop]
theorem cutL_len {α : Type} (xs : List α) (lo hi : Option Int) : (cutL xs lo hi).length ≤ xs.length := by
  unfold cutL
  rw [List.length_take, List.length_drop]
  omega
theorem pool_ok (ns : List Int) (h : ns.length ≤ sizeLine) : ∃ S', h_law_pool [.kl (ns.map D.int)] [] = .ok (.obj 2) S' ∧ PoolS S' 2 1 ∧ S'.length = 3 := by
  unfold h_law_pool
  walk_at "env"
  unfold b_law_pool
  have h5 : (5 : Nat) ≤ sizeLine := by decide +kernel
  have hc : (cutL (ns.map D.int) none (some 63)).length ≤ sizeLine := Nat.le_trans (cutL_len _ _ _) (by rw [List.length_map]; exact h)
  walk_at "ev"
  rw [cutL_map] at hc ⊢
  generalize cutL ns none (some 63) = ms at hc ⊢
  generalize e : dLoop _ _ _ _ _ _ = r
  obtain ⟨ρ, S', rfl, rfl, _, salt, v, rfl⟩ := loop_use e (fun items ρ S => S = ([Ob.lst (ms.map D.int)] : Sto) ∧ (∀ d ∈ items, ∃ i, d = .int i) ∧ ∃ (salt : Int) (v : Option D), ρ = [some (.kl (ns.map D.int)), some (.int salt), v]) ⟨rfl, fun d hd => (by
      obtain ⟨i, _, e⟩ := List.mem_map.mp hd
      exact ⟨i, e.symm⟩), _, _, rfl⟩ (by
    rintro d r ρ S ⟨rfl, hd, salt, v, rfl⟩
    obtain ⟨i, rfl⟩ := hd d List.mem_cons_self
    refine ⟨_, rfl, ?_⟩
    walk_at "ev0"
    exact ⟨rfl, fun x hx => hd x (List.mem_cons_of_mem _ hx), _, _, rfl⟩)
  walk_at "ev"
  exact ⟨_, rfl, ⟨⟨ns, 0, 0, 0, salt, rfl, rfl, by omega⟩, by decide⟩, rfl⟩

/-! ### being the same -/
theorem same_int (n : Nat) (i : Int) (S : Sto) : h_law_same (n + 1) [.int i, .int i] S = .ok (.bl true) S := by
  show runD 2 3 (b_law_same (h_law_same n)) _ S = _
  walk_at "env"
  unfold b_law_same
  walk_at "ev0"
theorem same_str (n : Nat) (i : Str) (S : Sto) : h_law_same (n + 1) [.str i, .str i] S = .ok (.bl true) S := by
  show runD 2 3 (b_law_same (h_law_same n)) _ S = _
  walk_at "env"
  unfold b_law_same
  walk_at "ev0"
theorem same_bl (n : Nat) (i : Bool) (S : Sto) : h_law_same (n + 1) [.bl i, .bl i] S = .ok (.bl true) S := by
  show runD 2 3 (b_law_same (h_law_same n)) _ S = _
  walk_at "env"
  unfold b_law_same
  walk_at "ev0"
theorem same_non (n : Nat) (S : Sto) : h_law_same (n + 1) [.non, .non] S = .ok (.bl true) S := by
  show runD 2 3 (b_law_same (h_law_same n)) _ S = _
  walk_at "env"
  unfold b_law_same
  walk_at "ev0"
theorem same_tup (n : Nat) {as ds : List D} {S : Sto} (hl : ds.length ≤ sizeLine) (h : as.length = ds.length) (hi : ∀ (i : Nat) (a d : D), as[i]? = some a → ds[i]? = some d → h_law_same n [a, d] S = .ok (.bl true) S) :
    h_law_same (n + 1) [.tup as, .tup ds] S = .ok (.bl true) S := by
  show runD 2 3 (b_law_same (h_law_same n)) _ S = _
  walk_at "env"
  unfold b_law_same
  walk_at "ev0"
  rw [h]
  walk_at "ev0"
  simp only [Ev.okr2 hl]
  walk_at "ev0"
  generalize e : dLoop _ _ _ _ _ _ = r
  obtain ⟨ρ', S', rfl, rfl, v, rfl⟩ := loop_idx_nx e (fun _ ρ S1 => S1 = S ∧ ∃ v : Option D, ρ = [some (.tup as), some (.tup ds), v]) ⟨rfl, _, rfl⟩ (by
    rintro i d ρ S1 hd ⟨rfl, v, rfl⟩
    obtain ⟨hi1, rfl⟩ := rng_get hd
    rw [Int.toNat_natCast] at hi1
    have e1 : as[i]? = some as[i] := List.getElem?_eq_getElem (by omega)
    have e2 : ds[i]? = some ds[i] := List.getElem?_eq_getElem hi1
    have e3 := hi i _ _ e1 e2
    have e4 := atI_nat e1
    have e5 := atI_nat e2
    refine ⟨_, rfl, ?_⟩
    rw [Int.zero_add]
    clear e hd hi
    walk_at "ev"
    exact ⟨_, rfl⟩)
  walk_at "ev0"

/-! Euclid's walk: how many turns it takes -/
structure Eu (a0 b0 i a b : Nat) : Prop where
  g : Nat.gcd a b = Nat.gcd a0 b0
  z : i = 0 → a = a0 ∧ b = b0
  p : 0 < i → b < a ∧ a * b * 2 ^ i ≤ 2 * (a0 * b0)
theorem eu_start (a b : Nat) : Eu a b 0 a b := ⟨rfl, fun _ => ⟨rfl, rfl⟩, fun h => absurd h (Nat.lt_irrefl 0)⟩
theorem eu_half {a b : Nat} (hb : b ≠ 0) (h : b < a) : 2 * (a % b) ≤ a := by
  have h1 := Nat.mod_lt a (Nat.pos_of_ne_zero hb)
  have h2 := Nat.div_add_mod a b
  have h3 : 1 ≤ a / b := Nat.div_pos (Nat.le_of_lt h) (Nat.pos_of_ne_zero hb)
  have h4 : b * 1 ≤ b * (a / b) := Nat.mul_le_mul_left b h3
  omega
theorem eu_next {a0 b0 i a b : Nat} (h : Eu a0 b0 i a b) (hb : b ≠ 0) : Eu a0 b0 (i + 1) b (a % b) := by
  have hl := Nat.mod_lt a (Nat.pos_of_ne_zero hb)
  refine ⟨?_, fun e => by omega, fun _ => ⟨hl, ?_⟩⟩
  · rw [← h.g, Nat.gcd_comm a b, Nat.gcd_rec b a, Nat.gcd_comm]
  · by_cases hi : i = 0
    · obtain ⟨rfl, rfl⟩ := h.z hi
      subst hi
      have h1 : a % b ≤ a := Nat.mod_le a b
      have h2 : b * (a % b) ≤ b * a := Nat.mul_le_mul_left b h1
      rw [Nat.mul_comm b a] at h2
      show b * (a % b) * 2 ≤ 2 * (a * b)
      omega
    · obtain ⟨h1, h2⟩ := h.p (Nat.pos_of_ne_zero hi)
      have h3 := eu_half hb h1
      have h4 : b * (2 * (a % b)) ≤ b * a := Nat.mul_le_mul_left b h3
      have h5 : b * (2 * (a % b)) * 2 ^ i ≤ b * a * 2 ^ i := Nat.mul_le_mul_right _ h4
      have e : b * (a % b) * 2 ^ (i + 1) = b * (2 * (a % b)) * 2 ^ i := by
        rw [Nat.pow_succ, Nat.mul_comm (2 ^ i) 2, ← Nat.mul_assoc, Nat.mul_assoc b (a % b) 2, Nat.mul_comm (a % b) 2]
      rw [e]
      rw [Nat.mul_comm b a] at h5
      exact Nat.le_trans h5 h2
theorem eu_stop {a0 b0 i a b m n : Nat} (h : Eu a0 b0 i a b) (hb : b ≠ 0) (ha0 : a0 < 2 ^ m) (hb0 : b0 < 2 ^ n) (hi : m + n + 2 ≤ i) : False := by
  obtain ⟨h1, h2⟩ := h.p (by omega)
  have h3 : 1 ≤ a * b := Nat.mul_pos (by omega) (Nat.pos_of_ne_zero hb)
  have h4 : 1 * 2 ^ i ≤ a * b * 2 ^ i := Nat.mul_le_mul_right _ h3
  have h5 : a0 * b0 ≤ 2 ^ m * 2 ^ n := Nat.mul_le_mul (Nat.le_of_lt ha0) (Nat.le_of_lt hb0)
  rw [← Nat.pow_add] at h5
  have h6 : 2 ^ (m + n + 2) ≤ 2 ^ i := Nat.pow_le_pow_right (by decide) hi
  have h7 : 2 ^ (m + n + 2) = 4 * 2 ^ (m + n) := by rw [Nat.pow_add]; omega
  have h8 : 0 < 2 ^ (m + n) := Nat.pow_pos (by decide)
  omega
/-! a quotient in lowest terms -/
def rsg (t b : Int) : Int := if b < 0 then -(Int.gcd t b : Int) else (Int.gcd t b : Int)
def rtop (t b : Int) : Int := t.fdiv (rsg t b)
def rbot (t b : Int) : Int := b.fdiv (rsg t b)
theorem rgcd_pos {t b : Int} (hb : b ≠ 0) : 0 < Int.gcd t b := Int.gcd_pos_of_ne_zero_right t hb
theorem rsg_ne {t b : Int} (hb : b ≠ 0) : rsg t b ≠ 0 := by
  have h := rgcd_pos (t := t) hb
  unfold rsg
  split <;> omega
theorem rsg_dvd (t b x : Int) (h : (Int.gcd t b : Int) ∣ x) : rsg t b ∣ x := by
  unfold rsg
  split
  · exact Int.neg_dvd.mpr h
  · exact h
theorem rtop_mul (t b : Int) : rtop t b * rsg t b = t := Int.fdiv_mul_cancel (rsg_dvd t b t (Int.gcd_dvd_left ..))
theorem rbot_mul (t b : Int) : rbot t b * rsg t b = b := Int.fdiv_mul_cancel (rsg_dvd t b b (Int.gcd_dvd_right ..))
theorem r_cross (t b : Int) : rtop t b * b = t * rbot t b := by
  have h1 := rtop_mul t b
  have h2 := rbot_mul t b
  calc rtop t b * b = rtop t b * (rbot t b * rsg t b) := by rw [h2]
    _ = rtop t b * rsg t b * rbot t b := by rw [Int.mul_comm (rbot t b), ← Int.mul_assoc]
    _ = t * rbot t b := by rw [h1]
theorem rbot_pos {t b : Int} (hb : b ≠ 0) : 1 ≤ rbot t b := by
  have h1 := rbot_mul t b
  have h2 := rgcd_pos (t := t) hb
  have h3 : 0 < rbot t b := by
    by_cases hn : b < 0
    · have e : rsg t b = -(Int.gcd t b : Int) := if_pos hn
      rw [e] at h1
      have h4 : rbot t b * (Int.gcd t b : Int) = -b := by
        rw [Int.mul_neg] at h1
        omega
      exact Int.pos_of_mul_pos_left (a := rbot t b) (b := (Int.gcd t b : Int)) (by omega) (by omega)
    · have e : rsg t b = (Int.gcd t b : Int) := if_neg hn
      rw [e] at h1
      exact Int.pos_of_mul_pos_left (a := rbot t b) (b := (Int.gcd t b : Int)) (by omega) (by omega)
  omega
theorem r_gcd {t b : Int} (hb : b ≠ 0) : Int.gcd (rtop t b) (rbot t b) = 1 := by
  have h1 := rtop_mul t b
  have h2 := rbot_mul t b
  have h3 := rgcd_pos (t := t) hb
  have h4 : Int.gcd (rtop t b * rsg t b) (rbot t b * rsg t b) = Int.gcd (rtop t b) (rbot t b) * (rsg t b).natAbs := Int.gcd_mul_right ..
  rw [h1, h2] at h4
  have h5 : (rsg t b).natAbs = Int.gcd t b := by
    unfold rsg
    split
    · rw [Int.natAbs_neg]; rfl
    · rfl
  rw [h5] at h4
  exact (Nat.mul_right_cancel h3 (by rw [Nat.one_mul]; exact h4)).symm
theorem r_le {x q s : Int} (h : q * s = x) (hs : s ≠ 0) : q.natAbs ≤ x.natAbs := by
  rw [← h, Int.natAbs_mul]
  exact Nat.le_mul_of_pos_right _ (by omega)
theorem rtop_le {t b : Int} (hb : b ≠ 0) : (rtop t b).natAbs ≤ t.natAbs := r_le (rtop_mul t b) (rsg_ne hb)
theorem rbot_le {t b : Int} (hb : b ≠ 0) : (rbot t b).natAbs ≤ b.natAbs := r_le (rbot_mul t b) (rsg_ne hb)

/-! ### gcd, ratio, frac -/
theorem abs_nat (i : Int) : (if i < 0 then -i else i) = ((i.natAbs : Nat) : Int) := by omega
theorem lt_bits (n : Nat) : n < 2 ^ Builtin.Int.intBits (n : Int) := by
  unfold Builtin.Int.intBits
  split
  · rename_i h
    have e : (n : Int) = 0 := by simpa using h
    have e2 : n = 0 := by omega
    subst e2
    decide
  · exact Nat.lt_log2_self
theorem gcd_ok (a b : Int) (S : Sto) (ha : a.natAbs < 2 ^ 1000000) (hb : b.natAbs < 2 ^ 1000000) : h_law_gcd [.int a, .int b] S = .ok (.int (Int.gcd a b : Nat)) S := by
  unfold h_law_gcd
  walk_at "env"
  unfold b_law_gcd
  walk_at "ev0"
  rw [abs_nat, abs_nat]
  generalize hx : a.natAbs = x at *
  generalize hy : b.natAbs = y at *
  have e0 : Int.gcd a b = Nat.gcd x y := by
    rw [← hx, ← hy]
    rfl
  have bx := lt_bits x
  have by' := lt_bits y
  have cx : Builtin.Int.intBits (x : Int) ≤ 1000000 := PyProof.Rows.intBits_le (by simpa using ha)
  have cy : Builtin.Int.intBits (y : Int) ≤ 1000000 := PyProof.Rows.intBits_le (by simpa using hb)
  generalize Builtin.Int.intBits (x : Int) = m at *
  generalize Builtin.Int.intBits (y : Int) = n at *
  have hr : OkR ((m : Int) + (n : Int) + 2 + (m : Int)) := ⟨by omega, by omega⟩
  have en : ((m : Int) + (n : Int) + 2 + (m : Int)).toNat = m + n + 2 + m := by omega
  simp only [hr, if_true]
  walk_at "ev0"
  rw [en]
  generalize e : dLoop _ _ _ _ _ _ = r
  have hR := loop_idx e (fun i ρ S1 => S1 = S ∧ ∃ (c d : Nat) (v1 v2 : Option D), ρ = [some (.int (c : Int)), some (.int (d : Int)), v1, v2] ∧ Eu x y i c d)
    (fun r => ∃ v0 v1 v2, r = .nx [some (.int (Int.gcd a b : Nat)), v0, v1, v2] S) ⟨rfl, x, y, none, none, rfl, eu_start x y⟩ (by
      rintro i t ρ S1 ht ⟨rfl, c, d, v1, v2, rfl, I⟩
      refine ⟨_, rfl, ?_⟩
      clear e
      by_cases hd : d = 0
      · subst hd
        walk_at "ev0"
        have g := I.g
        rw [Nat.gcd_zero_right] at g
        rw [e0, ← g]
        exact ⟨_, _, _, rfl⟩
      · have hd1 : ¬ ((d : Int) = 0) := by omega
        walk_at "ev"
        exact ⟨d, c % d, some t, some (.int ((c % d : Nat) : Int)), by rw [Int.natCast_emod, Int.fmod_eq_emod_of_nonneg _ (Int.natCast_nonneg d)], eu_next I hd⟩)
    (by
      rintro ρ S1 ⟨rfl, c, d, v1, v2, rfl, I⟩
      rw [rng_len] at I
      have hd : d = 0 := Decidable.byContradiction fun hd => eu_stop I hd bx by' (by omega)
      subst hd
      have g := I.g
      rw [Nat.gcd_zero_right] at g
      rw [e0, ← g]
      exact ⟨_, _, _, rfl⟩)
  obtain ⟨v0, v1, v2, rfl⟩ := hR
  walk_at "ev0"

theorem log_lt {i : Int} (h : i.natAbs < 2 ^ 8000) : i.natAbs.log2 < 9000 := by
  have := PySem.Flt.log2_lt_of (show 0 < 8000 by decide) h
  omega
theorem big8 : (2 : Nat) ^ 8000 < 2 ^ 1000000 := Nat.pow_lt_pow_right (by decide) (by decide)
/-- the pair of a fraction, bottom above zero -/
def fracD (t b : Int) : D := .tup [.int (t.fdiv (Int.gcd t b : Nat)), .int (b.fdiv (Int.gcd t b : Nat))]
theorem gcd_small {t b : Int} (hb : 0 < b) (h : b.natAbs < 2 ^ 8000) : ((Int.gcd t b : Nat) : Int) ≠ 0 ∧ ((Int.gcd t b : Nat) : Int).natAbs.log2 < 9000 := by
  have hg := rgcd_pos (t := t) (show b ≠ 0 by omega)
  have hle : Int.gcd t b ≤ b.natAbs := Nat.le_of_dvd (by omega) (Nat.gcd_dvd_right _ _)
  refine ⟨by omega, log_lt ?_⟩
  rw [Int.natAbs_natCast]
  exact Nat.lt_of_le_of_lt hle h
theorem frac_ok (t b : Int) (S : Sto) (hb : 0 < b) (ht : t.natAbs < 2 ^ 8000) (h : b.natAbs < 2 ^ 8000) : h_law_frac [.int t, .int b] S = .ok (fracD t b) S := by
  unfold h_law_frac
  walk_at "env"
  unfold b_law_frac
  have h1 : ¬ b < 0 := by omega
  have h2 := gcd_ok t b S (Nat.lt_trans ht big8) (Nat.lt_trans h big8)
  obtain ⟨h3, h4⟩ := gcd_small (t := t) hb h
  have h5 : (2 : Nat) ≤ sizeLine := by decide +kernel
  clear ht h
  walk_at "ev"
  rfl
theorem ratio_ok (t b : Int) (S : Sto) (hb : 0 < b) (h : b.natAbs < 2 ^ 8000) : h_ratio [.int t, .int b] S = .ok (fracD t b) S := by
  unfold h_ratio
  walk_at "env"
  unfold b_ratio
  have h1 : ¬ b < 0 := by omega
  have h0 : ¬ b = 0 := by omega
  have e : Int.gcd t b = Nat.gcd t.natAbs b.natAbs := rfl
  obtain ⟨h3, h4⟩ := gcd_small (t := t) hb h
  have h5 : (2 : Nat) ≤ sizeLine := by decide +kernel
  unfold fracD
  rw [e] at h3 h4 ⊢
  clear h e
  walk_at "ev"
theorem asInts_map : ∀ ws : List Int, asInts (ws.map D.int) = some ws
  | [] => rfl
  | w :: ws => by
    show (asInts (ws.map D.int)).map (fun r => w :: r) = _
    rw [asInts_map ws]
    rfl
/-- weights: numbers of which the sum is above zero -/
structure Wts (ws : List Int) : Prop where
  len : ws.length ≤ 100
  small : ∀ w ∈ ws, w.natAbs < 2 ^ 100
  pos : 0 < ws.sum
theorem sum_lt : ∀ (ws : List Int), (∀ w ∈ ws, w.natAbs < 2 ^ 100) → ws.sum.natAbs ≤ ws.length * 2 ^ 100
  | [], _ => by simp
  | w :: ws, h => by
    have ih := sum_lt ws fun x hx => h x (List.mem_cons_of_mem _ hx)
    have h1 := h w List.mem_cons_self
    rw [List.sum_cons, List.length_cons, Nat.succ_mul]
    have := Int.natAbs_add_le w ws.sum
    omega
theorem chances_ok {ws : List Int} (W : Wts ws) (S : Sto) : h_law_chances [.tup (ws.map D.int)] S = .ok (.bl true) S := by
  unfold h_law_chances
  walk_at "env"
  unfold b_law_chances
  have hl : ws.length ≤ sizeLine := by rw [sizeLine_eq]; have := W.len; omega
  have hr := of_eq_true (Ev.okr2 hl)
  walk_at "ev"
  generalize e : dLoop _ _ _ _ _ _ = r
  obtain ⟨ρ', S', rfl, rfl, v, rfl⟩ := loop_idx_nx e (fun _ ρ S1 => S1 = S ∧ ∃ v : Option D, ρ = [some (.tup (ws.map D.int)), v]) ⟨rfl, _, rfl⟩ (by
    rintro i d ρ S1 hd ⟨rfl, v, rfl⟩
    obtain ⟨hi, rfl⟩ := rng_get hd
    rw [Int.toNat_natCast] at hi
    refine ⟨_, rfl, ?_⟩
    have e1 : (ws.map D.int)[i]? = some (.int ws[i]) := by rw [List.getElem?_map, List.getElem?_eq_getElem hi]; rfl
    have e2 := atI_nat e1
    have hs := W.small _ (List.getElem_mem hi)
    generalize ws[i] = x at e1 e2 hs
    rw [Int.zero_add]
    have hsum := sum_lt ws W.small
    have hlen := W.len
    have hsum2 : ws.sum.natAbs < 2 ^ 8000 := by
      have p : (2 : Nat) ^ 107 < 2 ^ 8000 := Nat.pow_lt_pow_right (by decide) (by decide)
      have q : ws.length * 2 ^ 100 ≤ 100 * 2 ^ 100 := Nat.mul_le_mul hlen (Nat.le_refl _)
      omega
    have hx : x.natAbs < 2 ^ 8000 := Nat.lt_trans hs (Nat.pow_lt_pow_right (by decide) (by decide))
    have r1 := ratio_ok x ws.sum S1 W.pos hsum2
    have r2 := frac_ok x ws.sum S1 W.pos hx hsum2
    have r3 := asInts_map ws
    have r4 : h_chance [.tup (ws.map D.int), .int i] S1 = .ok (fracD x ws.sum) S1 := by
      unfold h_chance
      walk_at "env"
      unfold b_chance
      clear hs hsum hsum2 hx e hd
      walk_at "ev"
    have r5 : h_law_same 2 [fracD x ws.sum, fracD x ws.sum] S1 = .ok (.bl true) S1 := by
      unfold fracD
      refine same_tup 1 (by show 2 ≤ sizeLine; decide +kernel) rfl fun j a d ha hd => ?_
      have hj := lt_of_get ha
      rw [ha] at hd
      cases Option.some.inj hd
      match j, hj with
      | 0, _ => cases Option.some.inj ha; exact same_int 0 _ _
      | 1, _ => cases Option.some.inj ha; exact same_int 0 _ _
    clear hs hsum hsum2 hx e hd r1
    walk_at "ev"
    exact ⟨_, rfl⟩)
  walk_at "ev"
theorem told0 (a b : Int) (S : Sto) (h : 0 ≤ a ∧ a ≤ b ∧ 1 ≤ b) : h_law_told [.int 0, .int a, .int b] S = .ok (.tup [.int a, .int (b - a)]) S := by
  obtain ⟨h1, h2, h3⟩ := h
  have g1 : ¬ b < 1 := by omega
  have g2 : ¬ a < 0 := by omega
  have g3 : ¬ b < a := by omega
  have h5 : (2 : Nat) ≤ sizeLine := by decide +kernel
  have e : h_flip_weights [.int a, .int b] S = .ok (.tup [.int a, .int (b - a)]) S := by
    unfold h_flip_weights
    walk_at "env"
    unfold b_flip_weights
    walk_at "ev"
  unfold h_law_told
  walk_at "env"
  unfold b_law_told
  walk_at "ev"
theorem told0n (a b : Int) (S : Sto) (h : ¬ (0 ≤ a ∧ a ≤ b ∧ 1 ≤ b)) : h_law_told [.int 0, .int a, .int b] S = .ok .non S := by
  have e : h_flip_weights [.int a, .int b] S = .exc "Fault" [] S := by
    unfold h_flip_weights
    walk_at "env"
    unfold b_flip_weights
    by_cases g1 : b < 1
    · walk_at "ev"
    · by_cases g2 : a < 0
      · walk_at "ev"
      · have g3 : b < a := by omega
        walk_at "ev"
  unfold h_law_told
  walk_at "env"
  unfold b_law_told
  walk_at "ev"
  rfl
theorem ones_ok (w : Int) (h : 1 ≤ w ∧ w ≤ 64) : ∃ ws : List Int, Wts ws ∧ ∀ S, dMul (.tup [.int 1]) (.int w) S = .ok (.tup (ws.map D.int)) S := by
  by_cases h1 : w = 1
  · subst h1
    exact ⟨[1], ⟨by decide, by decide, by decide⟩, fun S => by rw [Ev.mul2, if_pos rfl]; rfl⟩
  · have hs : ∀ n : Nat, (List.replicate n (1 : Int)).sum = n := by
      intro n
      induction n with
      | zero => rfl
      | succ n ih => rw [List.replicate_succ, List.sum_cons, ih]; omega
    refine ⟨List.replicate w.toNat 1, ⟨by rw [List.length_replicate]; omega, fun x hx => by rw [List.eq_of_mem_replicate hx]; decide, by rw [hs]; omega⟩, fun S => ?_⟩
    have hf : ∀ n : Nat, (List.replicate n [D.int 1]).flatten = (List.replicate n (1 : Int)).map D.int := by
      intro n
      induction n with
      | zero => rfl
      | succ n ih => rw [List.replicate_succ, List.flatten_cons, ih]; rfl
    rw [Ev.mul2, if_neg h1, if_pos ⟨by simp, by omega, by omega, by show 1 ≤ 1000; omega⟩, hf]
theorem told1 (a b : Int) (S : Sto) {xs : List D} (h : 1 ≤ b - a + 1 ∧ b - a + 1 ≤ 64) (hm : ∀ S, dMul (.tup [.int 1]) (.int (b - a + 1)) S = .ok (.tup xs) S) : h_law_told [.int 1, .int a, .int b] S = .ok (.tup xs) S := by
  have g1 : ¬ b - a + 1 < 1 := by omega
  have g2 : ¬ 64 < b - a + 1 := by omega
  have h5 : (1 : Nat) ≤ sizeLine := by decide +kernel
  have e : h_uniform_weights [.int a, .int b] S = .ok (.tup xs) S := by
    unfold h_uniform_weights
    walk_at "env"
    unfold b_uniform_weights
    have hm := hm S
    clear h
    walk_at "ev"
  unfold h_law_told
  walk_at "env"
  unfold b_law_told
  walk_at "ev"
theorem told1n (a b : Int) (S : Sto) (h : ¬ (1 ≤ b - a + 1 ∧ b - a + 1 ≤ 64)) : h_law_told [.int 1, .int a, .int b] S = .ok .non S := by
  have e : h_uniform_weights [.int a, .int b] S = .exc "Fault" [] S := by
    unfold h_uniform_weights
    walk_at "env"
    unfold b_uniform_weights
    by_cases g1 : b - a + 1 < 1
    · walk_at "ev"
    · have g3 : 64 < b - a + 1 := by omega
      walk_at "ev"
  unfold h_law_told
  walk_at "env"
  unfold b_law_told
  walk_at "ev"
  rfl
theorem told2 (ws : List Int) (S : Sto) (h0 : 0 < ws.length) (h : 1 ≤ ws.sum ∧ 0 ≤ least ws) : h_law_told [.int 2, .tup (ws.map D.int), .int 0] S = .ok (.tup (ws.map D.int)) S := by
  obtain ⟨h1, h2⟩ := h
  have g1 : ¬ ws.sum < 1 := by omega
  have g2 : ¬ least ws < 0 := by omega
  have r3 := asInts_map ws
  have e : h_pick_weights [.tup (ws.map D.int)] S = .ok (.tup (ws.map D.int)) S := by
    unfold h_pick_weights
    walk_at "env"
    unfold b_pick_weights
    walk_at "ev"
  unfold h_law_told
  walk_at "env"
  unfold b_law_told
  walk_at "ev"
theorem told2n (ws : List Int) (S : Sto) (h0 : 0 < ws.length) (h : ¬ (1 ≤ ws.sum ∧ 0 ≤ least ws)) : h_law_told [.int 2, .tup (ws.map D.int), .int 0] S = .ok .non S := by
  have r3 := asInts_map ws
  have e : h_pick_weights [.tup (ws.map D.int)] S = .exc "Fault" [] S := by
    unfold h_pick_weights
    walk_at "env"
    unfold b_pick_weights
    by_cases g1 : ws.sum < 1
    · walk_at "ev"
    · have g3 : least ws < 0 := by omega
      walk_at "ev"
  unfold h_law_told
  walk_at "env"
  unfold b_law_told
  walk_at "ev"
  rfl
theorem same_ints (ws : List Int) (S : Sto) (h : ws.length ≤ sizeLine) : h_law_same 2 [.tup (ws.map D.int), .tup (ws.map D.int)] S = .ok (.bl true) S := by
  refine same_tup 1 (by rw [List.length_map]; exact h) rfl fun j a d ha hd => ?_
  rw [ha] at hd
  cases Option.some.inj hd
  rw [List.getElem?_map] at ha
  obtain ⟨x, _, rfl⟩ := Option.map_eq_some_iff.mp ha
  exact same_int 0 _ _

theorem mem7 {v u : Int} (hv : v.natAbs < 2 ^ 100) (u0 : 0 ≤ u) (u1 : u < 7) : ∃ x : Int, atI [D.int 0, .int 0, .int 1, .int 2, .int 5, .int v, .int (-1)] u = some (.int x) ∧ x.natAbs < 2 ^ 100 := by
  obtain ⟨d, e, hm⟩ := at_in (xs := [D.int 0, .int 0, .int 1, .int 2, .int 5, .int v, .int (-1)]) u0 u1
  simp only [List.mem_cons, List.not_mem_nil, or_false] at hm
  rcases hm with rfl | rfl | rfl | rfl | rfl | rfl | rfl
  · exact ⟨_, e, by decide⟩
  · exact ⟨_, e, by decide⟩
  · exact ⟨_, e, by decide⟩
  · exact ⟨_, e, by decide⟩
  · exact ⟨_, e, by decide⟩
  · exact ⟨_, e, hv⟩
  · exact ⟨_, e, by decide⟩
def FlipP (sc : D) (a b : Int) (ρ : Env) : Prop := (0 ≤ a ∧ a ≤ b ∧ 1 ≤ b) ∧ ρ = [some sc, some (.obj 2), some (.int a), some (.int b), some (.tup [.int a, .int (b - a)]), none, none] ∨ ¬ (0 ≤ a ∧ a ≤ b ∧ 1 ≤ b) ∧ ρ = [some sc, some (.obj 2), some (.int a), some (.int b), some .non, none, none]
theorem law_ok (ns : List Int) (h : ns.length ≤ sizeLine) : ∃ S', h_law [.kl (ns.map D.int)] [] = .ok (.bl true) S' := by
  unfold h_law
  walk_at "env"
  unfold b_law
  obtain ⟨S0, e0, po, hlen⟩ := pool_ok ns h
  walk_at "ev0"
  rw [e0]
  walk_at "ev0"
  clear e0
  generalize D.kl (ns.map D.int) = sc
  generalize e1 : h_law_draw _ _ = r
  obtain ⟨a0, S1, rfl, u0, u1, po1, fr1⟩ := draw_use e1 po (by decide) (by decide)
  walk_at "ev0"
  generalize e2 : h_law_draw _ _ = r
  obtain ⟨b0, S2, rfl, u2, u3, po2, fr2⟩ := draw_use e2 po1 (by decide) (by decide)
  have abs0 : a0 - 2 ≤ 2 ^ 40 ∧ -(2 ^ 40) ≤ a0 - 2 := by omega
  walk_at "ev0"
  refine seqR_cut (fun r => ∃ S', endR r = .ok (.bl true) S') (fun ρ S => PoolS S 2 1 ∧ ∃ a : Int, ρ = [some sc, some (.obj 2), some (.int a), none, none, none, none] ∧ (a ≤ 2 ^ 40 ∧ -(2 ^ 40) ≤ a)) ?_ ?_
  · by_cases hb : b0 = 0
    · subst hb
      walk_at "ev0"
      generalize e3 : h_law_draw _ _ = r
      obtain ⟨a1, S3, rfl, u4, u5, po3, fr3⟩ := draw_use e3 po2 (by decide) (by decide)
      walk_at "ev0"
      exact ⟨_, _, rfl, po3, _, rfl, by omega, by omega⟩
    · walk_at "ev"
      exact ⟨_, _, rfl, po2, _, rfl, abs0⟩
  clear e1 e2 po po1 po2 fr1 fr2 u0 u1 u2 u3 abs0
  rintro ρ S3 ⟨po3, a, rfl, ha⟩
  walk_at "ev0"
  generalize e3 : h_law_draw _ _ = r
  obtain ⟨i, S4, rfl, u4, u5, po4, fr4⟩ := draw_use e3 po3 (by decide) (by decide)
  walk_at "ev0"
  have hd : ∃ c : Int, atI [D.int 0, .int 1, .int (-1), .int 62, .int 63, .int 64, .int 65, .int 3, .int 999] i = some (.int c) ∧ c ≤ 999 ∧ -1 ≤ c := by
    obtain ⟨d, e, hm⟩ := at_in (xs := [D.int 0, .int 1, .int (-1), .int 62, .int 63, .int 64, .int 65, .int 3, .int 999]) u4 u5
    simp only [List.mem_cons, List.not_mem_nil, or_false] at hm
    rcases hm with rfl | rfl | rfl | rfl | rfl | rfl | rfl | rfl | rfl <;> exact ⟨_, e, by decide, by decide⟩
  obtain ⟨c, hc, hc1, hc2⟩ := hd
  rw [hc]
  clear e3 fr4 po3 u4 u5 hlen hc
  walk_at "ev0"
  have hb : (a + c) ≤ 2 ^ 41 ∧ -(2 ^ 41) ≤ a + c := by omega
  generalize a + c = b at hb ⊢
  -- the flip
  refine seqR_cut (fun r => ∃ S', endR r = .ok (.bl true) S') (fun ρ S => S = S4 ∧ FlipP sc a b ρ) ?_ ?_
  · clear ha hb
    by_cases h1 : 0 ≤ a
    · by_cases h2 : a ≤ b
      · by_cases h3 : 1 ≤ b
        · walk_at "ev"
          exact ⟨_, _, rfl, rfl, .inl ⟨⟨by assumption, by assumption, by assumption⟩, rfl⟩⟩
        · walk_at "ev"
          exact ⟨_, _, rfl, rfl, .inr ⟨fun z => h3 z.2.2, rfl⟩⟩
      · walk_at "ev"
        exact ⟨_, _, rfl, rfl, .inr ⟨fun z => h2 z.2.1, rfl⟩⟩
    · walk_at "ev"
      exact ⟨_, _, rfl, rfl, .inr ⟨fun z => h1 z.1, rfl⟩⟩
  rintro ρ S5 ⟨rfl, hρ⟩
  have flip : ∃ t : D, ρ = [some sc, some (.obj 2), some (.int a), some (.int b), some t, none, none] ∧ h_law_told [.int 0, .int a, .int b] S5 = .ok t S5 ∧ h_law_same 2 [t, t] S5 = .ok (.bl true) S5 ∧ (t = .non ∨ (dNotN t S5 = .ok (.bl true) S5 ∧ h_law_chances [t] S5 = .ok (.bl true) S5)) := by
    rcases hρ with ⟨hg, rfl⟩ | ⟨hg, rfl⟩
    · refine ⟨_, rfl, told0 a b S5 hg, same_ints [a, b - a] S5 (by show 2 ≤ sizeLine; decide +kernel), .inr ⟨rfl, chances_ok (ws := [a, b - a]) ⟨by show 2 ≤ 100; decide, ?_, by show 0 < a + (b - a + 0); omega⟩ S5⟩⟩
      intro w hw
      have e : (2 : Nat) ^ 41 < 2 ^ 100 := by decide
      rcases List.mem_cons.mp hw with rfl | hw
      · omega
      · rw [List.mem_singleton.mp hw]; omega
    · exact ⟨_, rfl, told0n a b S5 hg, same_non 1 S5, .inl rfl⟩
  obtain ⟨t, rfl, f1, f2, f3⟩ := flip
  refine seq_cut (fun r => ∃ S', endR r = .ok (.bl true) S') (fun ρ S => S = S5 ∧ ρ = [some sc, some (.obj 2), some (.int a), some (.int b), some t, none, none]) ?_ ?_
  · clear ha hb hρ
    rcases f3 with rfl | ⟨f3, f4⟩
    · walk_at "ev"
      exact ⟨_, _, rfl, rfl, rfl⟩
    · walk_at "ev"
      exact ⟨_, _, rfl, rfl, rfl⟩
  rintro ρ S6 ⟨rfl, rfl⟩
  clear hρ f1 f2 f3
  -- the uniform draw
  walk_at "ev0"
  refine seqR_cut (fun r => ∃ S', endR r = .ok (.bl true) S') (fun ρ S => S = S6 ∧ ∃ t : D, ρ = [some sc, some (.obj 2), some (.int a), some (.int b), some t, none, none] ∧ h_law_told [.int 1, .int a, .int b] S6 = .ok t S6 ∧ h_law_same 2 [t, t] S6 = .ok (.bl true) S6 ∧ (t = .non ∨ (dNotN t S6 = .ok (.bl true) S6 ∧ h_law_chances [t] S6 = .ok (.bl true) S6))) ?_ ?_
  · by_cases hw : 1 ≤ b - a + 1 ∧ b - a + 1 ≤ 64
    · obtain ⟨ws, W, hm⟩ := ones_ok _ hw
      have g1 := told1 a b S6 hw hm
      have g2 := chances_ok W S6
      have g3 := same_ints ws S6 (by rw [sizeLine_eq]; have := W.len; omega)
      have hm := hm S6
      obtain ⟨w1, w2⟩ := hw
      have one : (1 : Nat) ≤ sizeLine := by decide +kernel
      try walk_at "ev0"
      simp only [w1, w2, decide_true]
      try walk_at "ev0"
      simp only [w1, w2, decide_true, hm]
      try walk_at "ev0"
      try simp only [hm]
      try walk_at "ev0"
      exact ⟨_, _, rfl, rfl, _, rfl, g1, g3, .inr ⟨rfl, g2⟩⟩
    · have g1 := told1n a b S6 hw
      have g3 := same_non 1 S6
      by_cases w1 : 1 ≤ b - a + 1
      · have w2 : ¬ b - a + 1 ≤ 64 := fun z => hw ⟨w1, z⟩
        try walk_at "ev0"
        simp only [w1, w2, decide_true, decide_false]
        try walk_at "ev0"
        try simp only [w1, w2, decide_true, decide_false]
        try walk_at "ev0"
        exact ⟨_, _, rfl, rfl, _, rfl, g1, g3, .inl rfl⟩
      · try walk_at "ev0"
        simp only [w1, decide_false]
        try walk_at "ev0"
        exact ⟨_, _, rfl, rfl, _, rfl, g1, g3, .inl rfl⟩
  rintro ρ S7 ⟨rfl, t, rfl, f1, f2, f3⟩
  refine seq_cut (fun r => ∃ S', endR r = .ok (.bl true) S') (fun ρ S => S = S7 ∧ ρ = [some sc, some (.obj 2), some (.int a), some (.int b), some t, none, none]) ?_ ?_
  · clear ha hb
    rcases f3 with rfl | ⟨f3, f4⟩
    · walk_at "ev"
      exact ⟨_, _, rfl, rfl, rfl⟩
    · walk_at "ev"
      exact ⟨_, _, rfl, rfl, rfl⟩
  rintro ρ S8 ⟨rfl, rfl⟩
  clear f1 f2 f3
  -- the weights
  walk_at "ev0"
  generalize e3 : h_law_draw _ _ = r
  obtain ⟨n, S9, rfl, u0, u1, po9, fr9⟩ := draw_use e3 po4.add (by decide) (by decide)
  have hr : OkR (1 + n) := ⟨by omega, by omega⟩
  have hw : S9[S8.length]? = some (.lst []) := fr9.at Ev.appNew (by have := po4.lp; omega)
  have lp := po4.lp
  have ll := po4.ll
  generalize S8.length = wl at *
  walk_at "ev0"
  simp only [hr, if_true]
  walk_at "ev0"
  generalize e4 : dLoop _ _ _ _ _ _ = r
  obtain ⟨ρ, S10, rfl, ws, v, rfl, po10, hw10, hlen, hsm⟩ := loop_idx_nx e4 (fun k ρ S => ∃ (ws : List Int) (v : Option D), ρ = [some sc, some (.obj 2), some (.int a), some (.int b), some t, some (.obj wl), v] ∧ PoolS S 2 1 ∧ S[wl]? = some (.lst (ws.map D.int)) ∧ ws.length = k ∧ ∀ w ∈ ws, w.natAbs < 2 ^ 100)
    ⟨[], none, rfl, po9, hw, rfl, fun w hw => nomatch hw⟩ (by
      rintro k d ρ S11 hd ⟨ws, v, rfl, po11, hw11, hlen, hsm⟩
      obtain ⟨hk, rfl⟩ := rng_get hd
      refine ⟨_, rfl, ?_⟩
      clear e3 e4 hd hr ha hb
      have p9 : (10 : Int) ^ (Int.toNat 9) = 1000000000 := by decide
      walk_at "ev0"
      rw [p9]
      generalize e5 : h_law_draw _ _ = r'
      obtain ⟨x, S12, rfl, x0, x1, po12, fr12⟩ := draw_use e5 po11 (by decide) (by decide)
      have hw12 := fr12.at hw11 (by omega)
      walk_at "ev0"
      have hm : 0 < 6 + (if decide ((0 : Int) + k = 2) = true then 1 else (0 : Int)) ∧ 6 + (if decide ((0 : Int) + k = 2) = true then 1 else (0 : Int)) ≤ 7 := by split <;> omega
      generalize (6 : Int) + (if decide ((0 : Int) + k = 2) = true then 1 else (0 : Int)) = many at hm ⊢
      generalize e6 : h_law_draw _ _ = r'
      obtain ⟨u, S13, rfl, y0, y1, po13, fr13⟩ := draw_use e6 po12 hm.1 (Nat.lt_of_le_of_lt (Nat.log2_le_self _) (by omega))
      have hw13 := fr13.at hw12 (by omega)
      obtain ⟨z, hz, hzs⟩ := mem7 (v := x) (by have : (2 : Nat) ^ 100 > 1000000000 := by decide
                                               omega) y0 (by omega)
      walk_at "ev0"
      rw [hz]
      have hl : ws.length < sizeLine := by rw [sizeLine_eq, hlen]; omega
      walk_at "ev0"
      simp only [hw11, hw13]
      walk_at "ev0"
      simp only [hl, if_true]
      try walk_at "ev0"
      refine ⟨ws ++ [z], _, rfl, po13.set (by omega) (by omega), ?_, ?_, ?_⟩
      · rw [hw13, List.map_append]; rfl
      · rw [List.length_append, hlen]; rfl
      · intro w hw
        rcases List.mem_append.mp hw with y | y
        · exact hsm w y
        · rw [List.mem_singleton.mp y]; exact hzs)
  rw [rng_len] at hlen
  have h0 : 0 < ws.length := by omega
  have hl2 : ws.length ≤ sizeLine := by rw [sizeLine_eq]; omega
  have hl3 : ws.length ≤ 100 := by omega
  have ai := asInts_map ws
  have sm := same_ints ws S10 hl2
  clear e3 e4 hr ha hb hw fr9 po9 hlen
  by_cases g1 : 0 ≤ least ws
  · by_cases g2 : 1 ≤ ws.sum
    · have t2 := told2 ws S10 h0 ⟨g2, g1⟩
      have t3 := chances_ok (ws := ws) ⟨hl3, hsm, by omega⟩ S10
      clear hsm
      walk_at "ev"
      exact ⟨_, rfl⟩
    · have t2 := told2n ws S10 h0 (fun z => g2 z.1)
      have t3 := same_non 1 S10
      clear hsm
      walk_at "ev"
      exact ⟨_, rfl⟩
  · have t2 := told2n ws S10 h0 (fun z => g1 z.2)
    have t3 := same_non 1 S10
    clear hsm
    walk_at "ev"
    exact ⟨_, rfl⟩

/-! ### from the function to the promise -/
def spLawF (K : PySem.W.Frag) : Sp := fun vs H Q _ => ∃ (a : Addr) (ns : List Int), vs = [.ref a] ∧ SqF K H a (ns.map V.int) ∧ ns.length ≤ 63 ∧ ∀ H', Q (.bl true) H'
theorem scs_ints : ∀ ns : List Int, scs (ns.map D.int) = some (ns.map V.int)
  | [] => rfl
  | x :: ns => by
    show (match (D.int x).sc, scs (ns.map D.int) with | some v, some vs => some (v :: vs) | _, _ => none) = _
    rw [scs_ints ns]
    rfl
theorem law_top {P : Program} {wd : World} {K : PySem.W.Frag} {mg : Str → Option Value} {base : Heap} {k : Nat} {f : Addr} {fd : FuncData} {hl : DF}
    (F : FnOk P wd K mg base (L2.CX P wd) k f fd ["script"] (spD K mg hl)) (h : ∀ ns : List Int, ns.length ≤ 63 → ∃ S', hl [.kl (ns.map D.int)] [] = .ok (.bl true) S') :
    FnOk P wd K mg base (L2.CX P wd) k f fd ["script"] (spLawF K) := by
  refine F.imp fun vs H Q E q => ?_
  obtain ⟨a, ns, rfl, t, hn, q⟩ := q
  obtain ⟨S', e⟩ := h ns hn
  refine ⟨⟨fun _ => a, [], H⟩, [.kl (ns.map D.int)], ⟨fun i j hi => absurd hi (Nat.not_lt_zero i), fun i o ho => by simp at ho⟩, rfl, Rvs.cons ?_ Rvs.nil, ?_⟩
  · rw [Rv]
    exact ⟨a, _, rfl, t, Rvs.of_sc (scs_ints ns)⟩
  · show Fin K mg _ _ (hl [.kl (ns.map D.int)] []) Q _
    rw [e]
    intro w' b _ _ _ r
    rw [r.bl]
    exact q _
theorem sqf_of {K : PySem.W.Frag} {H : Hp} {a : Addr} {xs : List V} (o : ∀ b, H b = none ∨ ∃ o xs, H b = some (.frz o (.lst xs))) (h : SqL K H a xs) : SqF K H a xs := by
  rcases h with (h | h) | h
  · rcases o a with z | ⟨_, _, z⟩ <;> (rw [h] at z; cases z)
  · exact .inl h
  · exact .inr h
/-! the end -/
theorem all_mk {K : PySem.W.Frag} {h : Heap} {mg : Str → Option Value} {fa : Addr} (X : K.In h) (G : h.Ns mainGlobals mg) (hfa : mg "law" = some (.ref fa))
    {f0 f1 f2 f3 f4 f5 f6 f7 f8 f9 f10 f11 f12 f13 COddsError CZeroDivisor CFault : Addr} {od0 an0 od1 an1 od2 an2 od3 an3 od4 an4 od5 an5 od6 an6 od7 an7 od8 an8 od9 an9 od10 an10 od11 an11 od12 an12 od13 an13 : Option Addr} {sl0 sl1 sl2 sl3 sl4 sl5 sl6 sl7 sl8 sl9 sl10 sl11 sl12 sl13 : Array (Option Value)} {oc0 kV0 dc0 pm0 cd0 ct0 oc1 kV1 dc1 pm1 cd1 ct1 oc2 kV2 dc2 pm2 cd2 ct2 oc3 kV3 dc3 pm3 cd3 ct3 oc4 kV4 dc4 pm4 cd4 ct4 oc5 kV5 dc5 pm5 cd5 ct5 oc6 kV6 dc6 pm6 cd6 ct6 oc7 kV7 dc7 pm7 cd7 ct7 oc8 kV8 dc8 pm8 cd8 ct8 oc9 kV9 dc9 pm9 cd9 ct9 oc10 kV10 dc10 pm10 cd10 ct10 oc11 kV11 dc11 pm11 cd11 ct11 oc12 kV12 dc12 pm12 cd12 ct12 oc13 kV13 dc13 pm13 cd13 ct13 : Value}
    (a0 : PySem.W.nsIn K mainGlobals "ratio" = some (some (.ref f0))) (l0 : K.lookup f0 = some ⟨oc0, od0, .func (PySem.W.fnOf "ratio" "ratio" (defArgs s_ratio) (defBody s_ratio) (defScope s_ratio) .none kV0 dc0 pm0 an0 cd0 ct0), sl0⟩) (c0 : PySem.W.codeIn K cd0 "ratio" = true) (k0 : PySem.W.keepIn K (.ref f0) = true)
    (a1 : PySem.W.nsIn K mainGlobals "flip_weights" = some (some (.ref f1))) (l1 : K.lookup f1 = some ⟨oc1, od1, .func (PySem.W.fnOf "flip_weights" "flip_weights" (defArgs s_flip_weights) (defBody s_flip_weights) (defScope s_flip_weights) .none kV1 dc1 pm1 an1 cd1 ct1), sl1⟩) (c1 : PySem.W.codeIn K cd1 "flip_weights" = true) (k1 : PySem.W.keepIn K (.ref f1) = true)
    (a2 : PySem.W.nsIn K mainGlobals "uniform_weights" = some (some (.ref f2))) (l2 : K.lookup f2 = some ⟨oc2, od2, .func (PySem.W.fnOf "uniform_weights" "uniform_weights" (defArgs s_uniform_weights) (defBody s_uniform_weights) (defScope s_uniform_weights) .none kV2 dc2 pm2 an2 cd2 ct2), sl2⟩) (c2 : PySem.W.codeIn K cd2 "uniform_weights" = true) (k2 : PySem.W.keepIn K (.ref f2) = true)
    (a3 : PySem.W.nsIn K mainGlobals "pick_weights" = some (some (.ref f3))) (l3 : K.lookup f3 = some ⟨oc3, od3, .func (PySem.W.fnOf "pick_weights" "pick_weights" (defArgs s_pick_weights) (defBody s_pick_weights) (defScope s_pick_weights) .none kV3 dc3 pm3 an3 cd3 ct3), sl3⟩) (c3 : PySem.W.codeIn K cd3 "pick_weights" = true) (k3 : PySem.W.keepIn K (.ref f3) = true)
    (a4 : PySem.W.nsIn K mainGlobals "chance" = some (some (.ref f4))) (l4 : K.lookup f4 = some ⟨oc4, od4, .func (PySem.W.fnOf "chance" "chance" (defArgs s_chance) (defBody s_chance) (defScope s_chance) .none kV4 dc4 pm4 an4 cd4 ct4), sl4⟩) (c4 : PySem.W.codeIn K cd4 "chance" = true) (k4 : PySem.W.keepIn K (.ref f4) = true)
    (a5 : PySem.W.nsIn K mainGlobals "_law_same" = some (some (.ref f5))) (l5 : K.lookup f5 = some ⟨oc5, od5, .func (PySem.W.fnOf "_law_same" "_law_same" (defArgs s_law_same) (defBody s_law_same) (defScope s_law_same) .none kV5 dc5 pm5 an5 cd5 ct5), sl5⟩) (c5 : PySem.W.codeIn K cd5 "_law_same" = true) (k5 : PySem.W.keepIn K (.ref f5) = true)
    (a6 : PySem.W.nsIn K mainGlobals "_law_pool" = some (some (.ref f6))) (l6 : K.lookup f6 = some ⟨oc6, od6, .func (PySem.W.fnOf "_law_pool" "_law_pool" (defArgs s_law_pool) (defBody s_law_pool) (defScope s_law_pool) .none kV6 dc6 pm6 an6 cd6 ct6), sl6⟩) (c6 : PySem.W.codeIn K cd6 "_law_pool" = true) (k6 : PySem.W.keepIn K (.ref f6) = true)
    (a7 : PySem.W.nsIn K mainGlobals "_law_spread" = some (some (.ref f7))) (l7 : K.lookup f7 = some ⟨oc7, od7, .func (PySem.W.fnOf "_law_spread" "_law_spread" (defArgs s_law_spread) (defBody s_law_spread) (defScope s_law_spread) .none kV7 dc7 pm7 an7 cd7 ct7), sl7⟩) (c7 : PySem.W.codeIn K cd7 "_law_spread" = true) (k7 : PySem.W.keepIn K (.ref f7) = true)
    (a8 : PySem.W.nsIn K mainGlobals "_law_draw" = some (some (.ref f8))) (l8 : K.lookup f8 = some ⟨oc8, od8, .func (PySem.W.fnOf "_law_draw" "_law_draw" (defArgs s_law_draw) (defBody s_law_draw) (defScope s_law_draw) .none kV8 dc8 pm8 an8 cd8 ct8), sl8⟩) (c8 : PySem.W.codeIn K cd8 "_law_draw" = true) (k8 : PySem.W.keepIn K (.ref f8) = true)
    (a9 : PySem.W.nsIn K mainGlobals "_law_gcd" = some (some (.ref f9))) (l9 : K.lookup f9 = some ⟨oc9, od9, .func (PySem.W.fnOf "_law_gcd" "_law_gcd" (defArgs s_law_gcd) (defBody s_law_gcd) (defScope s_law_gcd) .none kV9 dc9 pm9 an9 cd9 ct9), sl9⟩) (c9 : PySem.W.codeIn K cd9 "_law_gcd" = true) (k9 : PySem.W.keepIn K (.ref f9) = true)
    (a10 : PySem.W.nsIn K mainGlobals "_law_frac" = some (some (.ref f10))) (l10 : K.lookup f10 = some ⟨oc10, od10, .func (PySem.W.fnOf "_law_frac" "_law_frac" (defArgs s_law_frac) (defBody s_law_frac) (defScope s_law_frac) .none kV10 dc10 pm10 an10 cd10 ct10), sl10⟩) (c10 : PySem.W.codeIn K cd10 "_law_frac" = true) (k10 : PySem.W.keepIn K (.ref f10) = true)
    (a11 : PySem.W.nsIn K mainGlobals "_law_told" = some (some (.ref f11))) (l11 : K.lookup f11 = some ⟨oc11, od11, .func (PySem.W.fnOf "_law_told" "_law_told" (defArgs s_law_told) (defBody s_law_told) (defScope s_law_told) .none kV11 dc11 pm11 an11 cd11 ct11), sl11⟩) (c11 : PySem.W.codeIn K cd11 "_law_told" = true) (k11 : PySem.W.keepIn K (.ref f11) = true)
    (a12 : PySem.W.nsIn K mainGlobals "_law_chances" = some (some (.ref f12))) (l12 : K.lookup f12 = some ⟨oc12, od12, .func (PySem.W.fnOf "_law_chances" "_law_chances" (defArgs s_law_chances) (defBody s_law_chances) (defScope s_law_chances) .none kV12 dc12 pm12 an12 cd12 ct12), sl12⟩) (c12 : PySem.W.codeIn K cd12 "_law_chances" = true) (k12 : PySem.W.keepIn K (.ref f12) = true)
    (a13 : PySem.W.nsIn K mainGlobals "law" = some (some (.ref f13))) (l13 : K.lookup f13 = some ⟨oc13, od13, .func (PySem.W.fnOf "law" "law" (defArgs s_law) (defBody s_law) (defScope s_law) .none kV13 dc13 pm13 an13 cd13 ct13), sl13⟩) (c13 : PySem.W.codeIn K cd13 "law" = true) (k13 : PySem.W.keepIn K (.ref f13) = true)
    (gOddsError : PySem.W.nsIn K mainGlobals "OddsError" = some (some (.ref COddsError))) (xOddsError : PySem.W.excIn K COddsError [.type "ValueError", .type "Exception", .type "BaseException", .type "object"] "ValueError.__new__" = true) (kkOddsError : PySem.W.keepIn K (.ref COddsError) = true) (bOddsError : PySem.W.subIn K (.ref COddsError) (.type "BaseException") = some true) (tOddsError : PySem.W.typeIn K (.ref COddsError) = some (.type "type")) (sOddsError : PySem.W.subIn K (.ref COddsError) (.ref COddsError) = some true)
    (gaOddsError : PySem.W.findIn K (.ref COddsError) "__getattribute__" = some (some (.builtin "BaseException.__getattribute__"))) (ggOddsError : PySem.W.findIn K (.ref COddsError) "__getattr__" = some none) (hdOddsError : PySem.W.hasDictIn K COddsError = true) (clOddsError : PySem.W.findIn K (.ref COddsError) "__class__" = some (some (.builtin "object.__class__"))) (mrOddsError : PySem.W.mroIn K COddsError (.type "object") = some true)
    (gZeroDivisor : PySem.W.nsIn K mainGlobals "ZeroDivisor" = some (some (.ref CZeroDivisor))) (xZeroDivisor : PySem.W.excIn K CZeroDivisor [.type "ValueError", .type "Exception", .type "BaseException", .type "object"] "ValueError.__new__" = true) (kkZeroDivisor : PySem.W.keepIn K (.ref CZeroDivisor) = true) (bZeroDivisor : PySem.W.subIn K (.ref CZeroDivisor) (.type "BaseException") = some true) (tZeroDivisor : PySem.W.typeIn K (.ref CZeroDivisor) = some (.type "type")) (sZeroDivisor : PySem.W.subIn K (.ref CZeroDivisor) (.ref CZeroDivisor) = some true)
    (gaZeroDivisor : PySem.W.findIn K (.ref CZeroDivisor) "__getattribute__" = some (some (.builtin "BaseException.__getattribute__"))) (ggZeroDivisor : PySem.W.findIn K (.ref CZeroDivisor) "__getattr__" = some none) (hdZeroDivisor : PySem.W.hasDictIn K CZeroDivisor = true) (clZeroDivisor : PySem.W.findIn K (.ref CZeroDivisor) "__class__" = some (some (.builtin "object.__class__"))) (mrZeroDivisor : PySem.W.mroIn K CZeroDivisor (.type "object") = some true)
    (gFault : PySem.W.nsIn K mainGlobals "Fault" = some (some (.ref CFault))) (xFault : PySem.W.excIn K CFault [.type "ValueError", .type "Exception", .type "BaseException", .type "object"] "ValueError.__new__" = true) (kkFault : PySem.W.keepIn K (.ref CFault) = true) (bFault : PySem.W.subIn K (.ref CFault) (.type "BaseException") = some true) (tFault : PySem.W.typeIn K (.ref CFault) = some (.type "type")) (sFault : PySem.W.subIn K (.ref CFault) (.ref CFault) = some true)
    (gaFault : PySem.W.findIn K (.ref CFault) "__getattribute__" = some (some (.builtin "BaseException.__getattribute__"))) (ggFault : PySem.W.findIn K (.ref CFault) "__getattr__" = some none) (hdFault : PySem.W.hasDictIn K CFault = true) (clFault : PySem.W.findIn K (.ref CFault) "__class__" = some (some (.builtin "object.__class__"))) (mrFault : PySem.W.mroIn K CFault (.type "object") = some true)
    (spg : PySem.W.specialIn K (.builtin "object.__class__") "__get__" = some (some (.builtin "getset_descriptor.__get__"))) (spt : PySem.W.takesIn K (.builtin "object.__class__") = some true)
    (zsum : PySem.W.nsIn K mainGlobals "sum" = some none)
    (zmin : PySem.W.nsIn K mainGlobals "min" = some none)
    (zisinstance : PySem.W.nsIn K mainGlobals "isinstance" = some none)
    (ztuple : PySem.W.nsIn K mainGlobals "tuple" = some none)
    (zlist : PySem.W.nsIn K mainGlobals "list" = some none)
    (zlen : PySem.W.nsIn K mainGlobals "len" = some none)
    (zrange : PySem.W.nsIn K mainGlobals "range" = some none)
    (zbool : PySem.W.nsIn K mainGlobals "bool" = some none)
    (zint : PySem.W.nsIn K mainGlobals "int" = some none)
    (zstr : PySem.W.nsIn K mainGlobals "str" = some none)
    (zabs : PySem.W.nsIn K mainGlobals "abs" = some none)
    (mgcd : PySem.W.nsIn K mainGlobals "gcd" = some (some (.builtin "math.gcd")))
    {tkGREATEST_WIDTH : Tok} (gGREATEST_WIDTH : PySem.W.nsIn K mainGlobals "GREATEST_WIDTH" = some (some (.int 64 tkGREATEST_WIDTH))) :
    ∃ A : At, A.a_law = fa ∧ (∀ (s : Shared) (v : Value), BindsTo s A.d_law ⟨[v], []⟩ [("script", v)]) ∧ Txt K mg A := by
  have e := hfa.symm.trans (PySem.W.mg_of X G a13)
  cases e
  have F0 := fun_mk (st := s_ratio) l0 c0 k0
  have b0 := F0.binds (ps := ["top", "bottom"]) fun _ _ _ _ _ _ us hl => match us, hl with | [_, _], _ => rfl
  have F1 := fun_mk (st := s_flip_weights) l1 c1 k1
  have b1 := F1.binds (ps := ["a", "b"]) fun _ _ _ _ _ _ us hl => match us, hl with | [_, _], _ => rfl
  have F2 := fun_mk (st := s_uniform_weights) l2 c2 k2
  have b2 := F2.binds (ps := ["low", "high"]) fun _ _ _ _ _ _ us hl => match us, hl with | [_, _], _ => rfl
  have F3 := fun_mk (st := s_pick_weights) l3 c3 k3
  have b3 := F3.binds (ps := ["weights"]) fun _ _ _ _ _ _ us hl => match us, hl with | [_], _ => rfl
  have F4 := fun_mk (st := s_chance) l4 c4 k4
  have b4 := F4.binds (ps := ["weights", "k"]) fun _ _ _ _ _ _ us hl => match us, hl with | [_, _], _ => rfl
  have F5 := fun_mk (st := s_law_same) l5 c5 k5
  have b5 := F5.binds (ps := ["actual", "due"]) fun _ _ _ _ _ _ us hl => match us, hl with | [_, _], _ => rfl
  have F6 := fun_mk (st := s_law_pool) l6 c6 k6
  have b6 := F6.binds (ps := ["script"]) fun _ _ _ _ _ _ us hl => match us, hl with | [_], _ => rfl
  have F7 := fun_mk (st := s_law_spread) l7 c7 k7
  have b7 := F7.binds (ps := ["cell"]) fun _ _ _ _ _ _ us hl => match us, hl with | [_], _ => rfl
  have F8 := fun_mk (st := s_law_draw) l8 c8 k8
  have b8 := F8.binds (ps := ["pool", "many"]) fun _ _ _ _ _ _ us hl => match us, hl with | [_, _], _ => rfl
  have F9 := fun_mk (st := s_law_gcd) l9 c9 k9
  have b9 := F9.binds (ps := ["a", "b"]) fun _ _ _ _ _ _ us hl => match us, hl with | [_, _], _ => rfl
  have F10 := fun_mk (st := s_law_frac) l10 c10 k10
  have b10 := F10.binds (ps := ["top", "bottom"]) fun _ _ _ _ _ _ us hl => match us, hl with | [_, _], _ => rfl
  have F11 := fun_mk (st := s_law_told) l11 c11 k11
  have b11 := F11.binds (ps := ["kind", "a", "b"]) fun _ _ _ _ _ _ us hl => match us, hl with | [_, _, _], _ => rfl
  have F12 := fun_mk (st := s_law_chances) l12 c12 k12
  have b12 := F12.binds (ps := ["weights"]) fun _ _ _ _ _ _ us hl => match us, hl with | [_], _ => rfl
  have F13 := fun_mk (st := s_law) l13 c13 k13
  have b13 := F13.binds (ps := ["script"]) fun _ _ _ _ _ _ us hl => match us, hl with | [_], _ => rfl
  exact ⟨⟨f0, PySem.W.fnOf "ratio" "ratio" (defArgs s_ratio) (defBody s_ratio) (defScope s_ratio) .none kV0 dc0 pm0 an0 cd0 ct0, f1, PySem.W.fnOf "flip_weights" "flip_weights" (defArgs s_flip_weights) (defBody s_flip_weights) (defScope s_flip_weights) .none kV1 dc1 pm1 an1 cd1 ct1, f2, PySem.W.fnOf "uniform_weights" "uniform_weights" (defArgs s_uniform_weights) (defBody s_uniform_weights) (defScope s_uniform_weights) .none kV2 dc2 pm2 an2 cd2 ct2, f3, PySem.W.fnOf "pick_weights" "pick_weights" (defArgs s_pick_weights) (defBody s_pick_weights) (defScope s_pick_weights) .none kV3 dc3 pm3 an3 cd3 ct3, f4, PySem.W.fnOf "chance" "chance" (defArgs s_chance) (defBody s_chance) (defScope s_chance) .none kV4 dc4 pm4 an4 cd4 ct4, f5, PySem.W.fnOf "_law_same" "_law_same" (defArgs s_law_same) (defBody s_law_same) (defScope s_law_same) .none kV5 dc5 pm5 an5 cd5 ct5, f6, PySem.W.fnOf "_law_pool" "_law_pool" (defArgs s_law_pool) (defBody s_law_pool) (defScope s_law_pool) .none kV6 dc6 pm6 an6 cd6 ct6, f7, PySem.W.fnOf "_law_spread" "_law_spread" (defArgs s_law_spread) (defBody s_law_spread) (defScope s_law_spread) .none kV7 dc7 pm7 an7 cd7 ct7, f8, PySem.W.fnOf "_law_draw" "_law_draw" (defArgs s_law_draw) (defBody s_law_draw) (defScope s_law_draw) .none kV8 dc8 pm8 an8 cd8 ct8, f9, PySem.W.fnOf "_law_gcd" "_law_gcd" (defArgs s_law_gcd) (defBody s_law_gcd) (defScope s_law_gcd) .none kV9 dc9 pm9 an9 cd9 ct9, f10, PySem.W.fnOf "_law_frac" "_law_frac" (defArgs s_law_frac) (defBody s_law_frac) (defScope s_law_frac) .none kV10 dc10 pm10 an10 cd10 ct10, f11, PySem.W.fnOf "_law_told" "_law_told" (defArgs s_law_told) (defBody s_law_told) (defScope s_law_told) .none kV11 dc11 pm11 an11 cd11 ct11, f12, PySem.W.fnOf "_law_chances" "_law_chances" (defArgs s_law_chances) (defBody s_law_chances) (defScope s_law_chances) .none kV12 dc12 pm12 an12 cd12 ct12, fa, PySem.W.fnOf "law" "law" (defArgs s_law) (defBody s_law) (defScope s_law) .none kV13 dc13 pm13 an13 cd13 ct13, COddsError, CZeroDivisor, CFault⟩, rfl, fun s v => .of_eq rfl,
    ⟨⟨F0, PySem.W.mg_of X G a0, b0⟩,
    ⟨F1, PySem.W.mg_of X G a1, b1⟩,
    ⟨F2, PySem.W.mg_of X G a2, b2⟩,
    ⟨F3, PySem.W.mg_of X G a3, b3⟩,
    ⟨F4, PySem.W.mg_of X G a4, b4⟩,
    ⟨F5, PySem.W.mg_of X G a5, b5⟩,
    ⟨F6, PySem.W.mg_of X G a6, b6⟩,
    ⟨F7, PySem.W.mg_of X G a7, b7⟩,
    ⟨F8, PySem.W.mg_of X G a8, b8⟩,
    ⟨F9, PySem.W.mg_of X G a9, b9⟩,
    ⟨F10, PySem.W.mg_of X G a10, b10⟩,
    ⟨F11, PySem.W.mg_of X G a11, b11⟩,
    ⟨F12, PySem.W.mg_of X G a12, b12⟩,
    ⟨F13, PySem.W.mg_of X G a13, b13⟩,
    ⟨PySem.W.mg_of X G gOddsError, xOddsError, kkOddsError, bOddsError, tOddsError, sOddsError, ⟨gaOddsError, ggOddsError, bOddsError, hdOddsError, clOddsError, spg, spt, mrOddsError⟩⟩,
    ⟨PySem.W.mg_of X G gZeroDivisor, xZeroDivisor, kkZeroDivisor, bZeroDivisor, tZeroDivisor, sZeroDivisor, ⟨gaZeroDivisor, ggZeroDivisor, bZeroDivisor, hdZeroDivisor, clZeroDivisor, spg, spt, mrZeroDivisor⟩⟩,
    ⟨PySem.W.mg_of X G gFault, xFault, kkFault, bFault, tFault, sFault, ⟨gaFault, ggFault, bFault, hdFault, clFault, spg, spt, mrFault⟩⟩,
    PySem.W.mg_none_of X G zsum,
    PySem.W.mg_none_of X G zmin,
    PySem.W.mg_none_of X G zisinstance,
    PySem.W.mg_none_of X G ztuple,
    PySem.W.mg_none_of X G zlist,
    PySem.W.mg_none_of X G zlen,
    PySem.W.mg_none_of X G zrange,
    PySem.W.mg_none_of X G zbool,
    PySem.W.mg_none_of X G zint,
    PySem.W.mg_none_of X G zstr,
    PySem.W.mg_none_of X G zabs,
    PySem.W.mg_of X G mgcd,
    ⟨_, PySem.W.mg_of X G gGREATEST_WIDTH, ⟨_, rfl⟩⟩⟩⟩
theorem walk {l : PySem.W.OpenLaw} {q : Program} {loose : List Str} {XP : (Str → Option Value) → Heap → Prop} {YP : World → Heap → Prop} {d : DefRec} {K : Params → PySem.W.Frag} (hn : l.most = some 63) (hdf : d.params.defaults = [])
    (hY : ∀ (w : World) (h : Heap), YP w h → (K w.params).In h)
    (F : ∀ (w : World) (mg : Str → Option Value) (fa : Addr) (h : Heap), (K w.params).In h → h.Ns mainGlobals mg → mg d.name = some (.ref fa) →
      ∃ A : At, A.a_law = fa ∧ (∀ (s : Shared) (v : Value), BindsTo s A.d_law ⟨[v], []⟩ [("script", v)]) ∧ Txt (K w.params) mg A) :
    PySem.W.WalkO q loose XP YP l.row.toRowW d [] (fun f vs => PySem.call f vs) :=
  L2.walk_of (n := 63) (k := 4) (x := "script") (CX := fun w => L2.CX l.prog w) (sp := fun w => spLawF (K w.params)) hn (by decide) hdf ⟨rfl, by decide, by decide⟩ hY
    (fun w mg fa h X G e => by
      obtain ⟨A, rfl, hb, T⟩ := F w mg fa h X G e
      exact ⟨A.d_law, hb, fun base _ _ => law_top (ok_law T) fun ns hn => law_ok ns (by rw [sizeLine_eq]; omega)⟩)
    (fun _ _ a ns hl hO hS => ⟨a, ns, rfl, sqf_of hO hS, hl, fun _ => rfl⟩) fun _ _ _ _ _ z => by
      obtain ⟨_, _, _, _, _, _, _, _, _, _, _, _, z⟩ := z
      exact z
end O
open PySem PySem.W PyProof.Rows
set_option maxRecDepth 100000 in
set_option maxHeartbeats 0 in
theorem PySem.Challenge.cw_odds_k32_weights_and_chances_holds : PySem.Challenge.rw_odds_k32_weights_and_chances.Holds := by
  w_on; o_law; k_head; (case hw => w_witness2)
  k_fill
  refine O.walk (l := PySem.Challenge.rw_odds_k32_weights_and_chances) rfl rfl (fun w h Y => PySem.W.kIn_of Y) ?F
  case F =>
    intro w mg fa h KX G hmg
    refine' O.all_mk KX G hmg ?a0 ?l0 ?c0 ?k0 ?a1 ?l1 ?c1 ?k1 ?a2 ?l2 ?c2 ?k2 ?a3 ?l3 ?c3 ?k3 ?a4 ?l4 ?c4 ?k4 ?a5 ?l5 ?c5 ?k5 ?a6 ?l6 ?c6 ?k6 ?a7 ?l7 ?c7 ?k7 ?a8 ?l8 ?c8 ?k8 ?a9 ?l9 ?c9 ?k9 ?a10 ?l10 ?c10 ?k10 ?a11 ?l11 ?c11 ?k11 ?a12 ?l12 ?c12 ?k12 ?a13 ?l13 ?c13 ?k13 ?gOddsError ?xOddsError ?kkOddsError ?bOddsError ?tOddsError ?sOddsError ?gaOddsError ?ggOddsError ?hdOddsError ?clOddsError ?mrOddsError ?gZeroDivisor ?xZeroDivisor ?kkZeroDivisor ?bZeroDivisor ?tZeroDivisor ?sZeroDivisor ?gaZeroDivisor ?ggZeroDivisor ?hdZeroDivisor ?clZeroDivisor ?mrZeroDivisor ?gFault ?xFault ?kkFault ?bFault ?tFault ?sFault ?gaFault ?ggFault ?hdFault ?clFault ?mrFault ?spg ?spt ?zsum ?zmin ?zisinstance ?ztuple ?zlist ?zlen ?zrange ?zbool ?zint ?zstr ?zabs ?mgcd ?gGREATEST_WIDTH
    (case a0 => k_is)
    (case l0 => k_is)
    (case c0 => k_is)
    (case k0 => k_is)
    (case a1 => k_is)
    (case l1 => k_is)
    (case c1 => k_is)
    (case k1 => k_is)
    (case a2 => k_is)
    (case l2 => k_is)
    (case c2 => k_is)
    (case k2 => k_is)
    (case a3 => k_is)
    (case l3 => k_is)
    (case c3 => k_is)
    (case k3 => k_is)
    (case a4 => k_is)
    (case l4 => k_is)
    (case c4 => k_is)
    (case k4 => k_is)
    (case a5 => k_is)
    (case l5 => k_is)
    (case c5 => k_is)
    (case k5 => k_is)
    (case a6 => k_is)
    (case l6 => k_is)
    (case c6 => k_is)
    (case k6 => k_is)
    (case a7 => k_is)
    (case l7 => k_is)
    (case c7 => k_is)
    (case k7 => k_is)
    (case a8 => k_is)
    (case l8 => k_is)
    (case c8 => k_is)
    (case k8 => k_is)
    (case a9 => k_is)
    (case l9 => k_is)
    (case c9 => k_is)
    (case k9 => k_is)
    (case a10 => k_is)
    (case l10 => k_is)
    (case c10 => k_is)
    (case k10 => k_is)
    (case a11 => k_is)
    (case l11 => k_is)
    (case c11 => k_is)
    (case k11 => k_is)
    (case a12 => k_is)
    (case l12 => k_is)
    (case c12 => k_is)
    (case k12 => k_is)
    (case a13 => k_is)
    (case l13 => k_is)
    (case c13 => k_is)
    (case k13 => k_is)
    (case gOddsError => k_is)
    (case xOddsError => k_exc)
    (case kkOddsError => k_is)
    (case bOddsError => k_is)
    (case tOddsError => k_is)
    (case sOddsError => first | rfl | k_is)
    (case gaOddsError => k_is)
    (case ggOddsError => k_is)
    (case hdOddsError => k_is)
    (case clOddsError => k_is)
    (case mrOddsError => k_is)
    (case gZeroDivisor => k_is)
    (case xZeroDivisor => k_exc)
    (case kkZeroDivisor => k_is)
    (case bZeroDivisor => k_is)
    (case tZeroDivisor => k_is)
    (case sZeroDivisor => first | rfl | k_is)
    (case gaZeroDivisor => k_is)
    (case ggZeroDivisor => k_is)
    (case hdZeroDivisor => k_is)
    (case clZeroDivisor => k_is)
    (case mrZeroDivisor => k_is)
    (case gFault => k_is)
    (case xFault => k_exc)
    (case kkFault => k_is)
    (case bFault => k_is)
    (case tFault => k_is)
    (case sFault => first | rfl | k_is)
    (case gaFault => k_is)
    (case ggFault => k_is)
    (case hdFault => k_is)
    (case clFault => k_is)
    (case mrFault => k_is)
    (case spg => k_is)
    (case spt => k_is)
    (case zsum => k_is)
    (case zmin => k_is)
    (case zisinstance => k_is)
    (case ztuple => k_is)
    (case zlist => k_is)
    (case zlen => k_is)
    (case zrange => k_is)
    (case zbool => k_is)
    (case zint => k_is)
    (case zstr => k_is)
    (case zabs => k_is)
    (case mgcd => k_is)
    (case gGREATEST_WIDTH => k_is)
