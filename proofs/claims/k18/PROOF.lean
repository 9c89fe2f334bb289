import PyProof.Rows.All
import Wide.All
import OpenK.AllK
import Wide.FinOn
import HandS.ForExc
import HandS.Wide
import HandS.WideBits
import HandS.Gcd
import HandS.IsInst
import HandS.ExcIs
import KE.RegKIsAll
import HandS.Codes
import HandS.StrMore
import HandS.Comp
import HandS.Iter
import HandS.Text
import HandS.Dict
import HandS.More
import HandS.DictEq
import HandS.FStr
import HandS.RaiseMore
import PySem.Challenge.RW_odds_k18_fewest_brackets
set_option Elab.async false
set_option linter.all false
set_option maxRecDepth 100000
set_option maxHeartbeats 4000000
namespace O
open PySem L2
def topS (i : Nat) : Stmt := PySem.Challenge.pw_odds_k18_fewest_brackets.main.body.getD i (.Pass ⟨0, 0, 0, 0⟩)
abbrev s_show_expression : Stmt := topS 6
theorem sc_show_expression : FnScope ["tree", "tag"] ["tree"] (defScope s_show_expression) := ⟨rfl, rfl, rfl, by decide +kernel, rfl, by decide +kernel, by decide +kernel⟩
abbrev s_level_of : Stmt := topS 7
theorem sc_level_of : FnScope ["tree"] ["tree"] (defScope s_level_of) := ⟨rfl, rfl, rfl, by decide +kernel, rfl, by decide +kernel, by decide +kernel⟩
abbrev s_show_operand : Stmt := topS 8
theorem sc_show_operand : FnScope ["tree", "least", "text"] ["tree", "least"] (defScope s_show_operand) := ⟨rfl, rfl, rfl, by decide +kernel, rfl, by decide +kernel, by decide +kernel⟩
abbrev s_show_operation : Stmt := topS 9
theorem sc_show_operation : FnScope ["tree", "tag", "left", "right", "level", "least"] ["tree"] (defScope s_show_operation) := ⟨rfl, rfl, rfl, by decide +kernel, rfl, by decide +kernel, by decide +kernel⟩
abbrev s_show_atom : Stmt := topS 10
theorem sc_show_atom : FnScope ["tree", "tag", "condition", "first", "second", "part"] ["tree"] (defScope s_show_atom) := ⟨rfl, rfl, rfl, by decide +kernel, rfl, by decide +kernel, by decide +kernel⟩
abbrev s_show_cell : Stmt := topS 11
theorem sc_show_cell : FnScope ["cell"] ["cell"] (defScope s_show_cell) := ⟨rfl, rfl, rfl, by decide +kernel, rfl, by decide +kernel, by decide +kernel⟩
abbrev s_show_cells : Stmt := topS 12
theorem sc_show_cells : FnScope ["base", "size"] ["base", "size"] (defScope s_show_cells) := ⟨rfl, rfl, rfl, by decide +kernel, rfl, by decide +kernel, by decide +kernel⟩
abbrev s_show_list : Stmt := topS 13
theorem sc_show_list : FnScope ["trees", "tree"] ["trees"] (defScope s_show_list) := ⟨rfl, rfl, rfl, by decide +kernel, rfl, by decide +kernel, by decide +kernel⟩
abbrev s_law_same : Stmt := topS 15
theorem sc_law_same : FnScope ["actual", "due", "k"] ["actual", "due"] (defScope s_law_same) := ⟨rfl, rfl, rfl, by decide +kernel, rfl, by decide +kernel, by decide +kernel⟩
abbrev s_law_pool : Stmt := topS 16
theorem sc_law_pool : FnScope ["script", "salt", "cell"] ["script"] (defScope s_law_pool) := ⟨rfl, rfl, rfl, by decide +kernel, rfl, by decide +kernel, by decide +kernel⟩
abbrev s_law_spread : Stmt := topS 17
theorem sc_law_spread : FnScope ["cell", "mixed", "total", "k"] ["cell"] (defScope s_law_spread) := ⟨rfl, rfl, rfl, by decide +kernel, rfl, by decide +kernel, by decide +kernel⟩
abbrev s_law_draw : Stmt := topS 18
theorem sc_law_draw : FnScope ["pool", "many", "cell", "mixed", "value"] ["pool", "many"] (defScope s_law_draw) := ⟨rfl, rfl, rfl, by decide +kernel, rfl, by decide +kernel, by decide +kernel⟩
abbrev s_law_name : Stmt := topS 19
theorem sc_law_name : FnScope ["pool", "taken", "chars", "k", "name", "cut"] ["pool", "taken"] (defScope s_law_name) := ⟨rfl, rfl, rfl, by decide +kernel, rfl, by decide +kernel, by decide +kernel⟩
abbrev s_law_names : Stmt := topS 20
theorem sc_law_names : FnScope ["pool", "taken", "names", "k", "kind"] ["pool"] (defScope s_law_names) := ⟨rfl, rfl, rfl, by decide +kernel, rfl, by decide +kernel, by decide +kernel⟩
abbrev s_law_leaf : Stmt := topS 21
theorem sc_law_leaf : FnScope ["pool", "kind", "names", "fit", "size", "row"] ["pool", "kind", "names"] (defScope s_law_leaf) := ⟨rfl, rfl, rfl, by decide +kernel, rfl, by decide +kernel, by decide +kernel⟩
abbrev s_law_expr : Stmt := topS 22
theorem sc_law_expr : FnScope ["pool", "kind", "names", "depth", "turn", "low", "test", "first", "row", "rows", "place", "tag", "inner"] ["pool", "kind", "names", "depth"] (defScope s_law_expr) := ⟨rfl, rfl, rfl, by decide +kernel, rfl, by decide +kernel, by decide +kernel⟩
abbrev s_law_show : Stmt := topS 23
theorem sc_law_show : FnScope ["tree", "least", "pool", "tag", "signs", "level", "text", "left"] ["tree", "least", "pool"] (defScope s_law_show) := ⟨rfl, rfl, rfl, by decide +kernel, rfl, by decide +kernel, by decide +kernel⟩
abbrev s_law : Stmt := topS 24
theorem sc_law : FnScope ["script", "pool", "tree"] ["script"] (defScope s_law) := ⟨rfl, rfl, rfl, by decide +kernel, rfl, by decide +kernel, by decide +kernel⟩
/-- a def of the text as it stands behind the top -/
structure DefT (K : PySem.W.Frag) (mg : Str → Option Value) (x : Str) (st : Stmt) (ps : List Str) (f : Addr) (fd : FuncData) : Prop where
  F : Fun K x x st f fd
  g : mg x = some (.ref f)
  b : Binds K fd ps []
/-- an error class of the text -/
structure ErrT (K : PySem.W.Frag) (mg : Str → Option Value) (x : Str) (C : Addr) : Prop where
  g : mg x = some (.ref C)
  ex : PySem.W.excIn K C [.type "ValueError", .type "Exception", .type "BaseException", .type "object"] "ValueError.__new__" = true
  k : PySem.W.keepIn K (.ref C) = true
  b : PySem.W.subIn K (.ref C) (.type "BaseException") = some true
  t : PySem.W.typeIn K (.ref C) = some (.type "type")
  s : PySem.W.subIn K (.ref C) (.ref C) = some true
  e : ExcC K C
structure At where
  a_show_expression : Addr
  d_show_expression : FuncData
  a_level_of : Addr
  d_level_of : FuncData
  a_show_operand : Addr
  d_show_operand : FuncData
  a_show_operation : Addr
  d_show_operation : FuncData
  a_show_atom : Addr
  d_show_atom : FuncData
  a_show_cell : Addr
  d_show_cell : FuncData
  a_show_cells : Addr
  d_show_cells : FuncData
  a_show_list : Addr
  d_show_list : FuncData
  a_law_same : Addr
  d_law_same : FuncData
  a_law_pool : Addr
  d_law_pool : FuncData
  a_law_spread : Addr
  d_law_spread : FuncData
  a_law_draw : Addr
  d_law_draw : FuncData
  a_law_name : Addr
  d_law_name : FuncData
  a_law_names : Addr
  d_law_names : FuncData
  a_law_leaf : Addr
  d_law_leaf : FuncData
  a_law_expr : Addr
  d_law_expr : FuncData
  a_law_show : Addr
  d_law_show : FuncData
  a_law : Addr
  d_law : FuncData
structure Txt (K : PySem.W.Frag) (mg : Str → Option Value) (A : At) : Prop where
  t_show_expression : DefT K mg "show_expression" s_show_expression ["tree"] A.a_show_expression A.d_show_expression
  t_level_of : DefT K mg "_level_of" s_level_of ["tree"] A.a_level_of A.d_level_of
  t_show_operand : DefT K mg "_show_operand" s_show_operand ["tree", "least"] A.a_show_operand A.d_show_operand
  t_show_operation : DefT K mg "_show_operation" s_show_operation ["tree"] A.a_show_operation A.d_show_operation
  t_show_atom : DefT K mg "_show_atom" s_show_atom ["tree"] A.a_show_atom A.d_show_atom
  t_show_cell : DefT K mg "show_cell" s_show_cell ["cell"] A.a_show_cell A.d_show_cell
  t_show_cells : DefT K mg "show_cells" s_show_cells ["base", "size"] A.a_show_cells A.d_show_cells
  t_show_list : DefT K mg "_show_list" s_show_list ["trees"] A.a_show_list A.d_show_list
  t_law_same : DefT K mg "_law_same" s_law_same ["actual", "due"] A.a_law_same A.d_law_same
  t_law_pool : DefT K mg "_law_pool" s_law_pool ["script"] A.a_law_pool A.d_law_pool
  t_law_spread : DefT K mg "_law_spread" s_law_spread ["cell"] A.a_law_spread A.d_law_spread
  t_law_draw : DefT K mg "_law_draw" s_law_draw ["pool", "many"] A.a_law_draw A.d_law_draw
  t_law_name : DefT K mg "_law_name" s_law_name ["pool", "taken"] A.a_law_name A.d_law_name
  t_law_names : DefT K mg "_law_names" s_law_names ["pool"] A.a_law_names A.d_law_names
  t_law_leaf : DefT K mg "_law_leaf" s_law_leaf ["pool", "kind", "names"] A.a_law_leaf A.d_law_leaf
  t_law_expr : DefT K mg "_law_expr" s_law_expr ["pool", "kind", "names", "depth"] A.a_law_expr A.d_law_expr
  t_law_show : DefT K mg "_law_show" s_law_show ["tree", "least", "pool"] A.a_law_show A.d_law_show
  t_law : DefT K mg "law" s_law ["script"] A.a_law A.d_law
  z_str : mg "str" = none
  z_isinstance : mg "isinstance" = none
  z_tuple : mg "tuple" = none
  z_list : mg "list" = none
  z_len : mg "len" = none
  z_range : mg "range" = none
  z_bool : mg "bool" = none
  z_int : mg "int" = none
  m_COMPARISON_LEVEL : ∃ u, mg "COMPARISON_LEVEL" = some u ∧ RelV (.int 3) u
  m_PREFIX_LEVEL : ∃ u, mg "PREFIX_LEVEL" = some u ∧ RelV (.int 6) u
  m_ATOM_LEVEL : ∃ u, mg "ATOM_LEVEL" = some u ∧ RelV (.int 7) u
/-- a dict of the module with text keys, at z -/
structure DictT (K : PySem.W.Frag) (pr : Params) (z : Addr) (kvs : List (Str × V)) : Prop where
  ex : ∃ es n, K.lookup z = some ⟨.type "dict", none, .dict es n, #[]⟩ ∧ PySem.W.KeysLit pr es.toList
  low : (z == sysModules) = false
  get : ∀ x : Str, ∃ r, PySem.W.nsIn K z x = some r ∧ ((valV kvs x = none ∧ r = none) ∨ ∃ v u, valV kvs x = some v ∧ r = some u ∧ RelV v u)
def EntT (pr : Params) (e : DictEntry) (p : Str × V) : Prop := (∃ t, e.key = .str p.1 t) ∧ e.hash = PyData.keyHash pr p.1 ∧ RelV p.2 e.val
def EntsT (pr : Params) : List DictEntry → List (Str × V) → Prop
  | [], [] => True
  | e :: es, p :: ps => EntT pr e p ∧ EntsT pr es ps
  | _, _ => False
theorem ents_find {pr : Params} : ∀ {es : List DictEntry} {kvs : List (Str × V)}, EntsT pr es kvs → ∀ x : Str, PySem.W.KeysLit pr es ∧ es.any (·.refKey) = false ∧ ((valV kvs x = none ∧ es.find? (·.key.isStr x) = none) ∨ ∃ v e, valV kvs x = some v ∧ es.find? (·.key.isStr x) = some e ∧ RelV v e.val)
  | [], [], _, x => ⟨trivial, rfl, .inl ⟨rfl, rfl⟩⟩
  | e :: es, p :: ps, ⟨⟨⟨t, hk⟩, hh, hv⟩, h⟩, x => by
    obtain ⟨a, b, c⟩ := ents_find h x
    refine ⟨⟨⟨p.1, t, hk, hh⟩, a⟩, ?_, ?_⟩
    · rw [List.any_cons, b, Bool.or_false]
      unfold DictEntry.refKey
      rw [hk]
    · have e1 : e.key.isStr x = decide (p.1 = x) := by
        rw [hk]
        first | rfl | (unfold Value.isStr; first | rfl | simp)
      by_cases q : p.1 = x
      · right
        refine ⟨p.2, e, valV_pos q, ?_, hv⟩
        rw [List.find?_cons_of_pos]
        rw [e1]
        exact decide_eq_true q
      · rw [valV_neg q, List.find?_cons_of_neg (by rw [e1]; simpa using q)]
        exact c
theorem dictT_mk {K : PySem.W.Frag} {pr : Params} {z : Addr} {kvs : List (Str × V)} {es : List DictEntry} {n : Nat} (l : K.lookup z = some ⟨.type "dict", none, .dict es.toArray n, #[]⟩) (low : (z == sysModules) = false) (h : EntsT pr es kvs) : DictT K pr z kvs := by
  refine ⟨⟨_, n, l, by simpa using (ents_find h Str.empty).1⟩, low, fun x => ?_⟩
  obtain ⟨_, b, c⟩ := ents_find h x
  unfold PySem.W.nsIn
  rw [l]
  dsimp only
  rcases c with ⟨c1, c2⟩ | ⟨v, e, c1, c2, c3⟩
  · rw [c2]
    dsimp only
    rw [b]
    exact ⟨_, rfl, .inl ⟨c1, rfl⟩⟩
  · rw [c2]
    exact ⟨_, rfl, .inr ⟨v, _, c1, rfl, c3⟩⟩
structure Dic (K : PySem.W.Frag) (mg : Str → Option Value) (pr : Params) : Prop where
  d_LEVEL_OF : ∃ z, mg "LEVEL_OF" = some (.ref z) ∧ DictT K pr z [(Str.ofString "or", .int 1), (Str.ofString "and", .int 2), (Str.ofString "eq", .int 3), (Str.ofString "ne", .int 3), (Str.ofString "lt", .int 3), (Str.ofString "le", .int 3), (Str.ofString "add", .int 4), (Str.ofString "sub", .int 4), (Str.ofString "mul", .int 5), (Str.ofString "div", .int 5), (Str.ofString "mod", .int 5)]
  d_SIGN_OF : ∃ z, mg "SIGN_OF" = some (.ref z) ∧ DictT K pr z [(Str.ofString "or", .str (Str.ofString "or")), (Str.ofString "and", .str (Str.ofString "and")), (Str.ofString "eq", .str (Str.ofString "=")), (Str.ofString "ne", .str (Str.ofString "!=")), (Str.ofString "lt", .str (Str.ofString "<")), (Str.ofString "le", .str (Str.ofString "<=")), (Str.ofString "add", .str (Str.ofString "+")), (Str.ofString "sub", .str (Str.ofString "-")), (Str.ofString "mul", .str (Str.ofString "*")), (Str.ofString "div", .str (Str.ofString "div")), (Str.ofString "mod", .str (Str.ofString "mod"))]
/-! ### rules for a dict of the module -/
section
variable {X : Cx} {z : Addr} {kvs : List (Str × V)}
theorem DictT.mapOf (D : DictT X.K X.w.params z kvs) {pins : List (Addr × Obj)} {σ : St} {H : Hp} {s : Shared} (I : Inv X pins σ H s) :
    ∃ f : Str → Option Value, s.heap.MapOf (PySem.strKind X.prog X.w) z f ∧ (∀ x, (valV kvs x = none ∧ f x = none) ∨ ∃ v u, valV kvs x = some v ∧ f x = some u ∧ RelV v u) ∧ ∃ ob, s.heap.get? z = some ob ∧ ob.dict = none := by
  obtain ⟨es, n, l, k⟩ := D.ex
  refine ⟨_, PySem.W.mapOf_K (prog := X.prog) I.kIn l k, fun x => ?_, _, I.kIn _ _ l, rfl⟩
  obtain ⟨r, e, h⟩ := D.get x
  rw [PySem.W.find_K l e]
  exact h
theorem in_kdT (D : DictT X.K X.w.params z kvs) : OpR X (compareOp .In) (fun x y H Q => ∃ t : Str, x = .str t ∧ y = .ref z ∧ Q (.bl (valV kvs t).isSome) H) := by
  intro pins s σ H x y v u Q I rx ry h
  obtain ⟨t, rfl, rfl, q⟩ := h
  obtain ⟨tk, rfl⟩ := rx
  cases ry
  obtain ⟨f, mo, hf, _⟩ := D.mapOf I
  refine wpAny_in_of (PySem.strKind_is X.prog X.w t tk) D.low mo ?_
  have e : (f t).isSome = (valV kvs t).isSome := by
    rcases hf t with ⟨a, b⟩ | ⟨v, u, a, b, _⟩ <;> rw [a, b] <;> rfl
  rw [e]
  exact ⟨.bl _, H, I.tok _, rfl, q⟩
theorem ix_kdT (D : DictT X.K X.w.params z kvs) : IxR X (fun x y H Q => ∃ (t : Str) (v0 : V), x = .ref z ∧ y = .str t ∧ valV kvs t = some v0 ∧ Q v0 H) := by
  intro value slice pins s σ H x y v u Q I rx ry h hs
  obtain ⟨t, v0, rfl, rfl, e, q⟩ := h
  cases rx
  obtain ⟨tk, rfl⟩ := ry
  obtain ⟨f, mo, hf, _⟩ := D.mapOf I
  rcases hf t with ⟨a, b⟩ | ⟨v1, u1, a, b, r⟩
  · rw [e] at a
    cases a
  · rw [e] at a
    cases a
    exact PyProof.Rows.tail_any mo.typeIs PySem.F.slot_dict_getitem.lookup (wpAny_getItem_of (PySem.strKind_is X.prog X.w t tk) mo b ⟨v0, H, I.tok _, r, q⟩) hs
/-- d.get(y, x) of a dict of the module -/
def tKGet2 (z : Addr) (kvs : List (Str × V)) (td ty tx : TE) : TE := fun σ H Q => td σ H fun x H1 => x = .ref z ∧ ty σ H1 fun y H2 => tx σ H2 fun d H3 => ∃ t : Str, y = .str t ∧ Q ((valV kvs t).getD d) H3
theorem pe_kget2 {o e f : Expr} {apos cpos : Pos} {td ty tx : TE} (D : DictT X.K X.w.params z kvs) (ho : PE X o td) (he : PE X e ty) (hf : PE X f tx) (m : M2 X o "get" apos e f cpos) : PE X (.Call (.Attribute o "get" apos) [e, f] [] cpos) (tKGet2 z kvs td ty tx) := by
  refine ⟨fun pins s σ H Q I h => ?_⟩
  refine wpAny_Call_method m.base m.few m.line PySem.F.plainAttrs_dict PySem.F.slot_dict_get PySem.F.type_dict_get (thn (ho.run pins s σ H _ I h) fun u s1 ⟨x, H1, I1, rx, ex, q1⟩ => ?_)
  subst ex
  obtain rfl : u = Value.ref z := rx
  obtain ⟨f1, mo1, _, ob, eo, hd⟩ := D.mapOf I1
  refine ⟨mo1.typeIs, fun b q => by cases q; exact ⟨ob, eo, hd⟩, ?_⟩
  rw [m.trees]
  refine Calls.callWith_builtin rfl (Calls.evalArgs_plain (Calls.spliced_cons (thn (he.run pins s1 σ H1 _ I1 q1) fun iv s2 ⟨y, H2, I2, ry, q2⟩ =>
    Calls.spliced_cons (thn (hf.run pins s2 σ H2 _ I2 q2) fun fv s3 ⟨d, H3, I3, rd, t, et, q3⟩ => Calls.spliced_nil ?_))))
  subst et
  obtain ⟨tk, rfl⟩ := ry
  obtain ⟨f3, mo3, hf3, _⟩ := D.mapOf I3
  refine call_meetsIn PySem.F.slot_dict_get mo3.typeIs PySem.F.entry_dict_get (PySem.F.args_dict_get_3 _ _ _) (meets_dict_get_default (PySem.strKind X.prog X.w) z (PySem.strKind_is X.prog X.w t tk) D.low fv) ⟨_, mo3, ⟨_, H3, I3.tok _, ?_, q3⟩⟩
  rcases hf3 t with ⟨a, b⟩ | ⟨v, u, a, b, r⟩
  · rw [a, b]
    exact rd
  · rw [a, b]
    exact r
end
/-! Euclid's walk: how many turns it takes -/
structure Eu (a0 b0 i a b : Nat) : Prop where
  g : Nat.gcd a b = Nat.gcd a0 b0
  z : i = 0 → a = a0 ∧ b = b0
  p : 0 < i → b < a ∧ a * b * 2 ^ i ≤ 2 * (a0 * b0)
theorem eu_start (a b : Nat) : Eu a b 0 a b := ⟨rfl, fun _ => ⟨rfl, rfl⟩, fun h => absurd h (Nat.lt_irrefl 0)⟩
theorem eu_half {a b : Nat} (hb : b ≠ 0) (h : b < a) : 2 * (a % b) ≤ a := by
  have h1 := Nat.mod_lt a (Nat.pos_of_ne_zero hb)
  have h2 := Nat.div_add_mod a b
  have h3 : 1 ≤ a / b := Nat.div_pos (Nat.le_of_lt h) (Nat.pos_of_ne_zero hb)
  have h4 : b * 1 ≤ b * (a / b) := Nat.mul_le_mul_left b h3
  omega
theorem eu_next {a0 b0 i a b : Nat} (h : Eu a0 b0 i a b) (hb : b ≠ 0) : Eu a0 b0 (i + 1) b (a % b) := by
  have hl := Nat.mod_lt a (Nat.pos_of_ne_zero hb)
  refine ⟨?_, fun e => by omega, fun _ => ⟨hl, ?_⟩⟩
  · rw [← h.g, Nat.gcd_comm a b, Nat.gcd_rec b a, Nat.gcd_comm]
  · by_cases hi : i = 0
    · obtain ⟨rfl, rfl⟩ := h.z hi
      subst hi
      have h1 : a % b ≤ a := Nat.mod_le a b
      have h2 : b * (a % b) ≤ b * a := Nat.mul_le_mul_left b h1
      rw [Nat.mul_comm b a] at h2
      show b * (a % b) * 2 ≤ 2 * (a * b)
      omega
    · obtain ⟨h1, h2⟩ := h.p (Nat.pos_of_ne_zero hi)
      have h3 := eu_half hb h1
      have h4 : b * (2 * (a % b)) ≤ b * a := Nat.mul_le_mul_left b h3
      have h5 : b * (2 * (a % b)) * 2 ^ i ≤ b * a * 2 ^ i := Nat.mul_le_mul_right _ h4
      have e : b * (a % b) * 2 ^ (i + 1) = b * (2 * (a % b)) * 2 ^ i := by
        rw [Nat.pow_succ, Nat.mul_comm (2 ^ i) 2, ← Nat.mul_assoc, Nat.mul_assoc b (a % b) 2, Nat.mul_comm (a % b) 2]
      rw [e]
      rw [Nat.mul_comm b a] at h5
      exact Nat.le_trans h5 h2
theorem eu_stop {a0 b0 i a b m n : Nat} (h : Eu a0 b0 i a b) (hb : b ≠ 0) (ha0 : a0 < 2 ^ m) (hb0 : b0 < 2 ^ n) (hi : m + n + 2 ≤ i) : False := by
  obtain ⟨h1, h2⟩ := h.p (by omega)
  have h3 : 1 ≤ a * b := Nat.mul_pos (by omega) (Nat.pos_of_ne_zero hb)
  have h4 : 1 * 2 ^ i ≤ a * b * 2 ^ i := Nat.mul_le_mul_right _ h3
  have h5 : a0 * b0 ≤ 2 ^ m * 2 ^ n := Nat.mul_le_mul (Nat.le_of_lt ha0) (Nat.le_of_lt hb0)
  rw [← Nat.pow_add] at h5
  have h6 : 2 ^ (m + n + 2) ≤ 2 ^ i := Nat.pow_le_pow_right (by decide) hi
  have h7 : 2 ^ (m + n + 2) = 4 * 2 ^ (m + n) := by rw [Nat.pow_add]; omega
  have h8 : 0 < 2 ^ (m + n) := Nat.pow_pos (by decide)
  omega
/-! a quotient in lowest terms -/
def rsg (t b : Int) : Int := if b < 0 then -(Int.gcd t b : Int) else (Int.gcd t b : Int)
def rtop (t b : Int) : Int := t.fdiv (rsg t b)
def rbot (t b : Int) : Int := b.fdiv (rsg t b)
theorem rgcd_pos {t b : Int} (hb : b ≠ 0) : 0 < Int.gcd t b := Int.gcd_pos_of_ne_zero_right t hb
theorem rsg_ne {t b : Int} (hb : b ≠ 0) : rsg t b ≠ 0 := by
  have h := rgcd_pos (t := t) hb
  unfold rsg
  split <;> omega
theorem rsg_dvd (t b x : Int) (h : (Int.gcd t b : Int) ∣ x) : rsg t b ∣ x := by
  unfold rsg
  split
  · exact Int.neg_dvd.mpr h
  · exact h
theorem rtop_mul (t b : Int) : rtop t b * rsg t b = t := Int.fdiv_mul_cancel (rsg_dvd t b t (Int.gcd_dvd_left ..))
theorem rbot_mul (t b : Int) : rbot t b * rsg t b = b := Int.fdiv_mul_cancel (rsg_dvd t b b (Int.gcd_dvd_right ..))
theorem r_cross (t b : Int) : rtop t b * b = t * rbot t b := by
  have h1 := rtop_mul t b
  have h2 := rbot_mul t b
  calc rtop t b * b = rtop t b * (rbot t b * rsg t b) := by rw [h2]
    _ = rtop t b * rsg t b * rbot t b := by rw [Int.mul_comm (rbot t b), ← Int.mul_assoc]
    _ = t * rbot t b := by rw [h1]
theorem rbot_pos {t b : Int} (hb : b ≠ 0) : 1 ≤ rbot t b := by
  have h1 := rbot_mul t b
  have h2 := rgcd_pos (t := t) hb
  have h3 : 0 < rbot t b := by
    by_cases hn : b < 0
    · have e : rsg t b = -(Int.gcd t b : Int) := if_pos hn
      rw [e] at h1
      have h4 : rbot t b * (Int.gcd t b : Int) = -b := by
        rw [Int.mul_neg] at h1
        omega
      exact Int.pos_of_mul_pos_left (a := rbot t b) (b := (Int.gcd t b : Int)) (by omega) (by omega)
    · have e : rsg t b = (Int.gcd t b : Int) := if_neg hn
      rw [e] at h1
      exact Int.pos_of_mul_pos_left (a := rbot t b) (b := (Int.gcd t b : Int)) (by omega) (by omega)
  omega
theorem r_gcd {t b : Int} (hb : b ≠ 0) : Int.gcd (rtop t b) (rbot t b) = 1 := by
  have h1 := rtop_mul t b
  have h2 := rbot_mul t b
  have h3 := rgcd_pos (t := t) hb
  have h4 : Int.gcd (rtop t b * rsg t b) (rbot t b * rsg t b) = Int.gcd (rtop t b) (rbot t b) * (rsg t b).natAbs := Int.gcd_mul_right ..
  rw [h1, h2] at h4
  have h5 : (rsg t b).natAbs = Int.gcd t b := by
    unfold rsg
    split
    · rw [Int.natAbs_neg]; rfl
    · rfl
  rw [h5] at h4
  exact (Nat.mul_right_cancel h3 (by rw [Nat.one_mul]; exact h4)).symm
theorem r_le {x q s : Int} (h : q * s = x) (hs : s ≠ 0) : q.natAbs ≤ x.natAbs := by
  rw [← h, Int.natAbs_mul]
  exact Nat.le_mul_of_pos_right _ (by omega)
theorem rtop_le {t b : Int} (hb : b ≠ 0) : (rtop t b).natAbs ≤ t.natAbs := r_le (rtop_mul t b) (rsg_ne hb)
theorem rbot_le {t b : Int} (hb : b ≠ 0) : (rbot t b).natAbs ≤ b.natAbs := r_le (rbot_mul t b) (rsg_ne hb)
/-! ### what a sequence asks, through a word of what stands between -/
theorem seq_then {t u : TS} {D : Ends} {σ : St} {H : Hp} (P : St → Hp → Prop) (h2 : ∀ σ' H', P σ' H' → u D σ' H') (h1 : ∀ N : St → Hp → Prop, (∀ σ' H', P σ' H' → N σ' H') → t { D with nx := N } σ H) : tSeq t u D σ H := h1 (u D) h2
theorem seq_const {v : V} {i : Nat} {u : TS} {D : Ends} {σ : St} {H : Hp} (h : u D (σ.set i (some v)) H) : tSeq (tAsg (tC v) (gName i)) u D σ H := h
theorem same_upd {H : Hp} {p : Addr} {o : HO} (h : H p = none) : Same H (upd H p o) := fun b x e => by
  rw [upd_ne (ne_of_none e h)]
  exact e
/-- all that was tracked is as it was, but what stands at p -/
def But (p : Addr) (H H' : Hp) : Prop := ∀ c o, H c = some o → c ≠ p → H' c = some o
theorem But.refl (p : Addr) (H : Hp) : But p H H := fun _ _ h _ => h
theorem But.trans {p : Addr} {H H1 H2 : Hp} (a : But p H H1) (b : But p H1 H2) : But p H H2 := fun c o h n => b c o (a c o h n) n
theorem But.upd {p : Addr} {H H1 : Hp} {o : HO} (a : But p H H1) : But p H (L2.upd H1 p o) := fun c x h n => by
  rw [upd_ne n]
  exact a c x h n
theorem But.same {p : Addr} {H H1 : Hp} (a : Same H H1) : But p H H1 := fun c o h _ => a c o h
/-- the pool of draws at p: the script's copy, the place, what is left of a cell, how many draws, the salt -/
def PoolAt (H : Hp) (p l : Addr) : Prop := ∃ (ns : List Int) (pos cur cnt salt : Int), H p = some (.lst [.ref l, .int pos, .int cur, .int cnt, .int salt]) ∧ H l = some (.lst (ns.map V.int)) ∧ 0 ≤ pos ∧ l ≠ p
theorem PoolAt.same {H H' : Hp} {p l : Addr} (a : Same H H') (h : PoolAt H p l) : PoolAt H' p l := by
  obtain ⟨ns, pos, cur, cnt, salt, h1, h2, h3, h4⟩ := h
  exact ⟨ns, pos, cur, cnt, salt, a _ _ h1, a _ _ h2, h3, h4⟩
/-- a pool is no tuple -/
theorem PoolAt.ne {H : Hp} {p l t : Addr} {xs : List V} (h : PoolAt H p l) (ht : H t = some (.tup xs)) : t ≠ p := by
  obtain ⟨ns, pos, cur, cnt, salt, h1, _⟩ := h
  exact ne_of ht h1 (by intro z; cases z)
theorem PoolAt.free {H : Hp} {p l t : Addr} (h : PoolAt H p l) (ht : H t = none) : t ≠ p := by
  obtain ⟨ns, pos, cur, cnt, salt, h1, _⟩ := h
  exact (ne_of_none h1 ht).symm
theorem PoolAt.free2 {H : Hp} {p l t : Addr} (h : PoolAt H p l) (ht : H t = none) : t ≠ l := by
  obtain ⟨ns, pos, cur, cnt, salt, _, h1, _⟩ := h
  exact (ne_of_none h1 ht).symm
theorem PoolAt.upd {H : Hp} {p l t : Addr} {o : HO} (h : PoolAt H p l) (h1 : t ≠ p) (h2 : t ≠ l) : PoolAt (L2.upd H t o) p l := by
  obtain ⟨ns, pos, cur, cnt, salt, a1, a2, a3, a4⟩ := h
  exact ⟨ns, pos, cur, cnt, salt, by rw [upd_ne h1.symm]; exact a1, by rw [upd_ne h2.symm]; exact a2, a3, a4⟩
theorem take_more {α : Type} {l : List α} {i : Nat} {x : α} (h : l[i]? = some x) : l.take (i + 1) = l.take i ++ [x] := by
  rw [List.take_add_one, h]
  rfl
/-- an item of a written row of ints at a drawn place -/
theorem pick_at {ms : List Int} {v : Int} (h0 : 0 ≤ v) (h1 : v < ms.length) : ∃ m, m ∈ ms ∧ atI (ms.map V.int) v = some (.int m) := by
  obtain ⟨j, rfl⟩ := Int.eq_ofNat_of_zero_le h0
  have hj : j < ms.length := by omega
  refine ⟨ms[j], List.getElem_mem hj, atI_nat ?_⟩
  rw [List.getElem?_map, List.getElem?_eq_getElem hj]
  rfl
section
variable {P : Program} {w : World} {K : PySem.W.Frag} {mg : Str → Option Value} {base : Heap} {A : At}
/-! ### the law's own draws -/
def spSpread : Sp := fun vs H Q _ => ∃ c : Int, vs = [.int c] ∧ ∀ v : Int, Q (.int v) H
theorem ok_spread (T : Txt K mg A) : FnOk P w K mg base CX0 1 A.a_law_spread A.d_law_spread ["cell"] spSpread := by
  refine T.t_law_spread.F.ok sc_law_spread (fun vs H Q E h => ?_) (fun cdv AA outer s H vs Q E hr h => ?_)
  · obtain ⟨c, rfl, _⟩ := h
    rfl
  · obtain ⟨c, rfl, k⟩ := h
    refine ⟨_, pss_cons (ps_set (i := 1) sc_law_spread.nd rfl (Or.inl rfl) (pe_op op_mod (pe_callTy call_int1 (by rfl) T.z_int PyProof.Rows.boot_int (pa_cons (pv 0) pa_nil)) pe_int))
      (pss_cons (ps_set (i := 2) sc_law_spread.nd rfl (Or.inl rfl) pe_int)
      (pss_cons (ps_for PassesOwn.never rfl (pi_range1 rfl T.z_range (pa_cons pe_int pa_nil)) (pg_name (i := 3) sc_law_spread.nd rfl (Or.inl rfl))
        (pss_cons (ps_set (i := 1) sc_law_spread.nd rfl (Or.inl rfl) (pe_op op_mod (pe_callTy call_int1 (by rfl) T.z_int PyProof.Rows.boot_int (pa_cons (pe_op op_add (pe_op op_add (pe_op op_mul (pv 1) pe_int) pe_int) (pv 3)) pa_nil)) pe_int))
        (pss_one (ps_set (i := 2) sc_law_spread.nd rfl (Or.inl rfl) (pe_op op_add (pe_op op_mul (pv 2) pe_int) (pv 1))))))
      (pss_one (ps_ret (pv 2))))), ?_⟩
    refine ⟨_, rfl, .inl ⟨_, rfl, _, _, rfl, rfl, (by show (0 : Int) < 2147483647; decide), ?_⟩⟩
    refine ⟨4, rfl, by decide, by decide, for_range (n := 4) (fun i σ H2 => H2 = H ∧ ∃ (m t : Int) (v : Option V), σ = [some (.int c), some (.int m), some (.int t), v])
      ⟨rfl, _, _, none, rfl⟩ ?_ ?_⟩
    · rintro i σ H2 hi ⟨rfl, m, t, v, rfl⟩
      refine ⟨_, rfl, _, _, rfl, rfl, .inr ⟨by decide, by decide⟩, _, _, rfl, rfl, _, rfl, _, _, rfl, rfl, .inl ⟨_, rfl, _, _, rfl, rfl, (by show (0 : Int) < 2147483647; decide), ?_⟩⟩
      refine ⟨_, rfl, _, _, rfl, rfl, .inr ⟨by decide, by decide⟩, _, rfl, _, _, rfl, rfl, ?_⟩
      exact ⟨rfl, _, _, _, rfl⟩
    · rintro σ H2 ⟨rfl, m, t, v, rfl⟩
      exact ⟨_, rfl, k _⟩
def spPool (K : PySem.W.Frag) : Sp := fun vs H Q _ => ∃ (a : Addr) (ns : List Int), vs = [.ref a] ∧ SqL K H a (ns.map V.int) ∧ ∀ p l H', PoolAt H' p l → Same H H' → H p = none → H l = none → Q (.ref p) H'
theorem cut_ints {ns : List Int} {lo hi : Option Int} {i : Nat} {y : V} (h : (cutV (ns.map V.int) lo hi)[i]? = some y) : ∃ z, y = V.int z := by
  have h1 : y ∈ cutV (ns.map V.int) lo hi := List.mem_of_getElem? h
  have h2 : y ∈ ns.map V.int := List.mem_of_mem_drop (List.mem_of_mem_take h1)
  obtain ⟨z, _, e⟩ := List.mem_map.mp h2
  exact ⟨z, e.symm⟩
theorem ok_pool (T : Txt K mg A) : FnOk P w K mg base CX0 1 A.a_law_pool A.d_law_pool ["script"] (spPool K) := by
  refine T.t_law_pool.F.ok sc_law_pool (fun vs H Q E h => ?_) (fun cdv AA outer s H vs Q E hr h => ?_)
  · obtain ⟨a, ns, rfl, _⟩ := h
    rfl
  · obtain ⟨a, ns, rfl, hS, k⟩ := h
    refine ⟨_, pss_cons (ps_set (i := 1) sc_law_pool.nd rfl (Or.inl rfl) pe_int)
      (pss_cons (ps_for PassesOwn.never rfl (pi_list (pe_slice sl_list (pv 0) po_none (po_some pe_int))) (pg_name (i := 2) sc_law_pool.nd rfl (Or.inl rfl))
        (pss_one (ps_set (i := 1) sc_law_pool.nd rfl (Or.inl rfl) (pe_op op_mod (pe_callTy call_int1 (by rfl) T.z_int PyProof.Rows.boot_int (pa_cons (pe_op op_add (pe_op op_mul (pv 1) pe_int) (pv 2)) pa_nil)) pe_int))))
      (pss_one (ps_ret (pe_lst (pa_cons (pe_callTy call_list_of (by rfl) T.z_list PyProof.Rows.boot_list (pa_cons (pv 0) pa_nil)) (pa_cons pe_int (pa_cons pe_int (pa_cons pe_int (pa_cons (pv 1) pa_nil))))))))), ?_⟩
    refine ⟨.ref a, rfl, 63, rfl, a, ns.map V.int, rfl, hS, fun c nc => ?_⟩
    have s1 := same_upd (o := .lst (cutV (ns.map V.int) none (some 63))) nc
    refine ⟨c, rfl, ⟨_, .inl (.inl upd_same)⟩, for_list (K := K) (a := c) (xs := cutV (ns.map V.int) none (some 63)) (fun i σ H2 => H2 = upd H c (.lst (cutV (ns.map V.int) none (some 63))) ∧ ∃ (m : Int) (v : Option V), σ = [some (.ref a), some (.int m), v])
      ⟨rfl, _, none, rfl⟩ (fun i σ H2 _ ⟨e, _⟩ => by rw [e]; exact .inl (.inl upd_same)) ?_ ?_⟩
    · rintro i y σ H2 hi ⟨rfl, m, v, rfl⟩
      obtain ⟨z, rfl⟩ := cut_ints hi
      refine ⟨_, rfl, _, _, rfl, rfl, .inr ⟨by decide, by decide⟩, _, rfl, _, _, rfl, rfl, .inl ⟨_, rfl, _, _, rfl, rfl, (by show (0 : Int) < 1000003; decide), ?_⟩⟩
      exact ⟨rfl, _, _, rfl⟩
    · rintro σ H2 ⟨rfl, m, v, rfl⟩
      refine ⟨.ref a, rfl, a, ns.map V.int, rfl, .inl (s1.seq hS), fun l nl => ?_⟩
      have s2 := same_upd (o := .lst (ns.map V.int)) nl
      refine ⟨_, rfl, (by show 5 ≤ sizeLine; decide), fun p np => ?_⟩
      have s3 := fun o => same_upd (o := o) np
      have ne : l ≠ p := ne_of_none upd_same np
      exact k p l _ ⟨ns, 0, 0, 0, m, upd_same, by rw [upd_ne ne, upd_same], Int.le_refl 0, ne⟩ (s1.trans (s2.trans (s3 _))) ((s1.trans s2).free np) (s1.free nl)
def spDraw : Sp := fun vs H Q _ => ∃ (p l : Addr) (many : Int), vs = [.ref p, .int many] ∧ PoolAt H p l ∧ (0 < many ∧ many.natAbs < 2 ^ 8000) ∧ ∀ v H', 0 ≤ v → v < many → PoolAt H' p l → But p H H' → Q (.int v) H'
theorem ok_draw (T : Txt K mg A) : FnOk P w K mg base CX0 2 A.a_law_draw A.d_law_draw ["pool", "many"] spDraw := by
  have GS : FnOk P w K mg base CX0 1 A.a_law_spread A.d_law_spread ["cell"] spSpread := ok_spread T
  refine T.t_law_draw.F.ok sc_law_draw (fun vs H Q E h => ?_) (fun cdv AA outer s H vs Q E hr h => ?_)
  · obtain ⟨p, l, many, rfl, _⟩ := h
    rfl
  · obtain ⟨p, l, many, rfl, ⟨ns, pos, cur, cnt, salt, hp, hl, hpos, hne⟩, ⟨hm, hmb⟩, k⟩ := h
    refine ⟨_, pss_cons (ps_if (PW.pt (pw_and (pt_cmpR op_le (pe_ix ix_list (pv 0) pe_int (fun _ _ => rfl)) pe_int (nomark _)) (pw_and1 (pt_cmpR op_lt (pe_ix ix_list (pv 0) pe_int (fun _ _ => rfl)) (pe_callB call_len_seq (by rfl) T.z_len PySem.boot_len (pa_cons (pe_ix ix_list (pv 0) pe_int (fun _ _ => rfl)) pa_nil)) (nomark _)))))
        (pss_cons (ps_set (i := 2) sc_law_draw.nd rfl (Or.inl rfl) (pe_ix ix_list (pe_ix ix_list (pv 0) pe_int (fun _ _ => rfl)) (pe_ix ix_list (pv 0) pe_int (fun _ _ => rfl)) (fun _ _ => rfl)))
        (pss_cons (ps_asg (pe_op op_add (pe_ix ix_list (pv 0) pe_int (fun _ _ => rfl)) pe_int) (pg_sub (pv 0) pe_int set_list))
        (pss_cons (ps_asg (pv 2) (pg_sub (pv 0) pe_int set_list))
        (pss_one (ps_if (pt_cmpR op_lt (pv 2) pe_int (nomark _))
          (pss_one (ps_asg (pe_call GS hr rfl T.t_law_spread.g T.t_law_spread.F.kp T.t_law_spread.b .nil pass0 (pa_cons (pv 2) pa_nil)) (pg_sub (pv 0) pe_int set_list))) pss_nil))))) pss_nil)
      (pss_cons (ps_asg (pe_op op_add (pe_ix ix_list (pv 0) pe_int (fun _ _ => rfl)) pe_int) (pg_sub (pv 0) pe_int set_list))
      (pss_cons (ps_if (pt_cmpR op_le (pe_ix ix_list (pv 0) pe_int (fun _ _ => rfl)) pe_int (nomark _))
        (pss_cons (ps_set (i := 3) sc_law_draw.nd rfl (Or.inl rfl) (pe_op op_mod (pe_callTy call_int1 (by rfl) T.z_int PyProof.Rows.boot_int (pa_cons (pe_op op_add (pe_op op_add (pe_op op_mul (pe_ix ix_list (pv 0) pe_int (fun _ _ => rfl)) pe_int) (pe_op op_mul (pe_ix ix_list (pv 0) pe_int (fun _ _ => rfl)) pe_int)) pe_int) pa_nil)) pe_int))
        (pss_cons (ps_set (i := 3) sc_law_draw.nd rfl (Or.inl rfl) (pe_op op_mod (pe_callTy call_int1 (by rfl) T.z_int PyProof.Rows.boot_int (pa_cons (pe_op op_add (pe_op op_mul (pv 3) pe_int) (pe_ix ix_list (pv 0) pe_int (fun _ _ => rfl))) pa_nil)) pe_int))
        (pss_one (ps_ret (pe_op op_mod (pe_op op_fdiv (pv 3) pe_int) (pv 1)))))) pss_nil)
      (pss_cons (ps_set (i := 4) sc_law_draw.nd rfl (Or.inl rfl) (pe_op op_mod (pe_callTy call_int1 (by rfl) T.z_int PyProof.Rows.boot_int (pa_cons (pe_ix ix_list (pv 0) pe_int (fun _ _ => rfl)) pa_nil)) (pv 1)))
      (pss_cons (ps_asg (pe_op op_fdivW (pe_ix ix_list (pv 0) pe_int (fun _ _ => rfl)) (pv 1)) (pg_sub (pv 0) pe_int set_list))
      (pss_one (ps_ret (pv 4))))))), ?_⟩
    refine seq_then (fun σ' H' => ∃ (vc : Option V) (pos' cur' : Int), σ' = [some (.ref p), some (.int many), vc, none, none] ∧ But p H H' ∧ H' p = some (.lst [.ref l, .int pos', .int cur', .int cnt, .int salt]) ∧ 0 ≤ pos') ?_ (fun N hN => ?_)
    · -- behind the first if
      rintro σ' H1 ⟨vc, pos', cur', rfl, B1, hp1, hpos1⟩
      refine ⟨_, rfl, p, _, 3, _, rfl, rfl, SqL.of hp1, rfl, _, _, rfl, rfl, _, rfl, p, _, 3, 3, rfl, rfl, hp1, rfl, ?_⟩
      have hp2 : (upd H1 p (.lst [.ref l, .int pos', .int cur', .int (cnt + 1), .int salt])) p = some (.lst [.ref l, .int pos', .int cur', .int (cnt + 1), .int salt]) := upd_same
      have B2 : But p H (upd H1 p (.lst [.ref l, .int pos', .int cur', .int (cnt + 1), .int salt])) := B1.upd
      refine ⟨_, rfl, p, _, 2, _, rfl, rfl, SqL.of hp2, rfl, _, _, rfl, rfl, _, rfl, ite2 (fun _ => ?_) (fun _ => ?_)⟩
      · refine ⟨_, rfl, p, _, 4, _, rfl, rfl, SqL.of hp2, rfl, _, _, rfl, rfl, .inr ⟨by decide, by decide⟩, _, rfl, p, _, 3, _, rfl, rfl, SqL.of hp2, rfl, _, _, rfl, rfl, .inr ⟨by decide, by decide⟩, _, _, rfl, rfl, _, _, rfl, rfl, .inl ⟨_, rfl, _, _, rfl, rfl, (by show (0 : Int) < 2147483647; decide), ?_⟩⟩
        refine ⟨_, rfl, _, _, rfl, rfl, .inr ⟨by decide, by decide⟩, _, rfl, p, _, 3, _, rfl, rfl, SqL.of hp2, rfl, _, _, rfl, rfl, .inl ⟨_, rfl, _, _, rfl, rfl, (by show (0 : Int) < 2147483629; decide), ?_⟩⟩
        refine ⟨_, rfl, _, _, rfl, rfl, ⟨by decide, by decide⟩, _, rfl, _, _, rfl, rfl, hm, ?_⟩
        exact k _ _ (Int.emod_nonneg _ (by omega)) (Int.emod_lt_of_pos _ hm) ⟨ns, _, _, _, _, hp2, B2 _ _ hl hne, hpos1, hne⟩ B2
      · refine ⟨_, rfl, p, _, 2, _, rfl, rfl, SqL.of hp2, rfl, .inl ⟨_, rfl, _, rfl, _, _, rfl, rfl, hm, ?_⟩⟩
        refine ⟨_, rfl, p, _, 2, _, rfl, rfl, SqL.of hp2, rfl, _, rfl, _, _, rfl, rfl, wide_div hm hmb (by decide) (by decide), _, rfl, p, _, 2, 2, rfl, rfl, hp2, rfl, ?_⟩
        refine ⟨_, rfl, ?_⟩
        exact k _ _ (Int.emod_nonneg _ (by omega)) (Int.emod_lt_of_pos _ hm) ⟨ns, _, _, _, _, upd_same, B2.upd _ _ hl hne, hpos1, hne⟩ B2.upd
    · -- the first if
      refine ⟨_, rfl, p, _, 2, _, rfl, rfl, SqL.of hp, rfl, _, _, rfl, rfl, _, rfl, ite2 (fun _ => ?_) (fun _ => ?_)⟩
      · refine ⟨_, rfl, p, _, 1, _, rfl, rfl, SqL.of hp, rfl, _, rfl, p, _, 0, _, rfl, rfl, SqL.of hp, rfl, l, _, rfl, .inl (SqL.of hl), _, _, rfl, rfl, _, rfl, ite2 (fun c2 => ?_) (fun _ => ?_)⟩
        · have c2 : pos < ((ns.map V.int).length : Int) := of_decide_eq_true c2
          rw [List.length_map] at c2
          obtain ⟨z, _, ez⟩ := pick_at hpos c2
          refine ⟨_, rfl, p, _, 0, _, rfl, rfl, SqL.of hp, rfl, _, rfl, p, _, 1, _, rfl, rfl, SqL.of hp, rfl, l, _, pos, _, rfl, rfl, SqL.of hl, ez, ?_⟩
          refine ⟨_, rfl, p, _, 1, _, rfl, rfl, SqL.of hp, rfl, _, _, rfl, rfl, _, rfl, p, _, 1, 1, rfl, rfl, hp, rfl, ?_⟩
          have hp1 : (upd H p (.lst [.ref l, .int (pos + 1), .int cur, .int cnt, .int salt])) p = some (.lst [.ref l, .int (pos + 1), .int cur, .int cnt, .int salt]) := upd_same
          refine ⟨_, rfl, _, rfl, p, _, 2, 2, rfl, rfl, hp1, rfl, ?_⟩
          have hp2 : (upd (upd H p (.lst [.ref l, .int (pos + 1), .int cur, .int cnt, .int salt])) p (.lst [.ref l, .int (pos + 1), .int z, .int cnt, .int salt])) p = some (.lst [.ref l, .int (pos + 1), .int z, .int cnt, .int salt]) := upd_same
          refine ⟨_, rfl, _, _, rfl, rfl, _, rfl, ite2 (fun _ => ?_) (fun _ => ?_)⟩
          · refine ⟨_, rfl, z, rfl, fun v => ⟨_, rfl, p, _, 2, 2, rfl, rfl, hp2, rfl, ?_⟩⟩
            exact hN _ _ ⟨_, _, _, rfl, (((But.refl p H).upd).upd).upd, upd_same, by omega⟩
          · exact hN _ _ ⟨_, _, _, rfl, ((But.refl p H).upd).upd, hp2, by omega⟩
        · exact hN _ _ ⟨none, _, _, rfl, But.refl p H, hp, hpos⟩
      · refine iteF ?_
        exact hN _ _ ⟨none, _, _, rfl, But.refl p H, hp, hpos⟩
end
/-! ### equal data, wherever it stands -/
def scalV : V → Prop
  | .non => True
  | .bl _ => True
  | .int _ => True
  | .str _ => True
  | _ => False
/-- x and y are equal data, at most n deep -/
def Dat (K : PySem.W.Frag) (H : Hp) : Nat → V → V → Prop
  | 0, x, y => x = y ∧ scalV x
  | n + 1, x, y => (x = y ∧ scalV x) ∨ ∃ (a b : Addr) (xs ys : List V), x = .ref a ∧ y = .ref b ∧ ((SqL K H a xs ∧ SqL K H b ys) ∨ (SqT K H a xs ∧ SqT K H b ys)) ∧ xs.length = ys.length ∧ ys.length < 2 ^ 60 ∧
      ∀ (i : Nat) (u v : V), xs[i]? = some u → ys[i]? = some v → Dat K H n u v
theorem Dat.scal {K : PySem.W.Frag} {H : Hp} {n : Nat} {x : V} (h : scalV x) : Dat K H n x x := by
  cases n with
  | zero => exact ⟨rfl, h⟩
  | succ n => exact .inl ⟨rfl, h⟩
theorem Dat.int (K : PySem.W.Frag) (H : Hp) (n : Nat) (i : Int) : Dat K H n (.int i) (.int i) := Dat.scal trivial
theorem Dat.bl (K : PySem.W.Frag) (H : Hp) (n : Nat) (i : Bool) : Dat K H n (.bl i) (.bl i) := Dat.scal trivial
/-- two tuples of the same ints -/
theorem Dat.ints {K : PySem.W.Frag} {H : Hp} {n : Nat} {a b : Addr} {ns : List Int} (ha : SqT K H a (ns.map V.int)) (hb : SqT K H b (ns.map V.int)) (hl : ns.length < 2 ^ 60) : Dat K H (n + 1) (.ref a) (.ref b) := by
  refine .inr ⟨a, b, _, _, rfl, rfl, .inr ⟨ha, hb⟩, rfl, by rw [List.length_map]; exact hl, fun i u v hu hv => ?_⟩
  have e : u = v := Option.some.inj (hu.symm.trans hv)
  subst e
  rw [List.getElem?_map] at hu
  cases z : ns[i]? with
  | none =>
    rw [z] at hu
    cases hu
  | some m =>
    rw [z] at hu
    have e : V.int m = u := Option.some.inj hu
    rw [← e]
    exact Dat.int K H n m
theorem Same.tup {K : PySem.W.Frag} {H H' : Hp} {a : Addr} {xs : List V} (e : Same H H') (h : SqT K H a xs) : SqT K H' a xs := by
  rcases h with (h | ⟨o, h⟩) | h
  · exact .inl (.inl (e _ _ h))
  · exact .inl (.inr ⟨o, e _ _ h⟩)
  · exact .inr h
theorem SqL.ty {K : PySem.W.Frag} {H : Hp} {a : Addr} {xs : List V} (h : SqL K H a xs) : TyX K H (.ref a) (.type "list") := by
  rcases h with (h | ⟨o, h⟩) | ⟨o, its, n, h, hc, _⟩
  · exact .base (.lst h)
  · exact .base (.frz h)
  · exact .kList h hc
theorem SqT.ty {K : PySem.W.Frag} {H : Hp} {a : Addr} {xs : List V} (h : SqT K H a xs) : TyX K H (.ref a) (.type "tuple") := by
  rcases h with (h | ⟨o, h⟩) | ⟨o, its, n, h, hc, _⟩
  · exact .base (.tup h)
  · exact .fTuple h
  · exact .kTuple h hc
theorem Dat.same {K : PySem.W.Frag} {H H' : Hp} (s : Same H H') : ∀ {n : Nat} {x y : V}, Dat K H n x y → Dat K H' n x y
  | 0, x, y, h => h
  | n + 1, x, y, h => by
    rcases h with h | ⟨a, b, xs, ys, e1, e2, h, hl, hb, k⟩
    · exact .inl h
    · refine .inr ⟨a, b, xs, ys, e1, e2, ?_, hl, hb, fun i u v hu hv => Dat.same s (k i u v hu hv)⟩
      rcases h with ⟨h1, h2⟩ | ⟨h1, h2⟩
      · exact .inl ⟨s.seq h1, s.seq h2⟩
      · exact .inr ⟨Same.tup s h1, Same.tup s h2⟩
section
variable {P : Program} {w : World} {K : PySem.W.Frag} {mg : Str → Option Value} {base : Heap} {A : At}
def spSame (K : PySem.W.Frag) (n : Nat) : Sp := fun vs H Q _ => ∃ x y : V, vs = [x, y] ∧ Dat K H n x y ∧ Q (.bl true) H
/-- the four kinds of flat values, asked by isinstance -/
theorem same_flat {H : Hp} {x : V} (h : scalV x) : (x = .non) ∨ (∃ b, x = .bl b) ∨ (∃ i, x = .int i) ∨ ∃ z, x = .str z := by
  cases x <;> first | exact .inl rfl | exact .inr (.inl ⟨_, rfl⟩) | exact .inr (.inr (.inl ⟨_, rfl⟩)) | exact .inr (.inr (.inr ⟨_, rfl⟩)) | exact h.elim
theorem flat_ty {K : PySem.W.Frag} {H : Hp} {x : V} (h : scalV x) : ∃ t : String, TyX K H x (.type t) ∧ kitB t "tuple" = some false ∧ kitB t "list" = some false ∧
    ((x = .non ∧ t = "NoneType") ∨ ((∃ b, x = .bl b) ∧ t = "bool") ∨ ((∃ i, x = .int i) ∧ t = "int") ∨ ((∃ z, x = .str z) ∧ t = "str")) := by
  rcases same_flat (H := H) h with rfl | ⟨b, rfl⟩ | ⟨i, rfl⟩ | ⟨z, rfl⟩
  · exact ⟨_, .base .non, by decide +kernel, by decide +kernel, .inl ⟨rfl, rfl⟩⟩
  · exact ⟨_, .base (.bl b), by decide +kernel, by decide +kernel, .inr (.inl ⟨⟨_, rfl⟩, rfl⟩)⟩
  · exact ⟨_, .base (.int i), by decide +kernel, by decide +kernel, .inr (.inr (.inl ⟨⟨_, rfl⟩, rfl⟩))⟩
  · exact ⟨_, .base (.str z), by decide +kernel, by decide +kernel, .inr (.inr (.inr ⟨⟨_, rfl⟩, rfl⟩))⟩
theorem eq_refl_V (x : V) : decide (x = x) = true := decide_eq_true rfl
theorem ok_same (T : Txt K mg A) : ∀ n : Nat, FnOk P w K mg base CX0 (n + 1) A.a_law_same A.d_law_same ["actual", "due"] (spSame K n)
  | 0 => by
    refine T.t_law_same.F.ok sc_law_same (fun vs H Q E h => ?_) (fun cdv AA outer s H vs Q E hr h => ?_)
    · obtain ⟨x, y, rfl, _⟩ := h
      rfl
    · obtain ⟨x, y, rfl, ⟨rfl, hs⟩, k⟩ := h
      refine ⟨_, pss_cons (ps_if (PW.pt (pw_or (pt_val (pe_callB call_isi (by rfl) T.z_isinstance PyProof.Rows.boot_isinstance (pa_cons (pv 1) (pa_cons (pe_bltn (v := .ty "tuple") (by rfl) T.z_tuple PyProof.Rows.boot_tuple rfl) pa_nil))))
          (pw_or1 (pt_val (pe_callB call_isi (by rfl) T.z_isinstance PyProof.Rows.boot_isinstance (pa_cons (pv 1) (pa_cons (pe_bltn (v := .ty "list") (by rfl) T.z_list PyProof.Rows.boot_list rfl) pa_nil))))))) pss_never pss_nil)
        (pss_cons (ps_if (pt_cmp (pc_isN (pv 1))) (pss_one (ps_ret (pe_cmp (pc_isN (pv 0))))) pss_nil)
        (pss_cons (ps_if (pt_val (pe_callB call_isi (by rfl) T.z_isinstance PyProof.Rows.boot_isinstance (pa_cons (pv 1) (pa_cons (pe_bltn (v := .ty "bool") (by rfl) T.z_bool PyProof.Rows.boot_bool rfl) pa_nil))))
          (pss_one (ps_ret (pe_and (pe_callB call_isi (by rfl) T.z_isinstance PyProof.Rows.boot_isinstance (pa_cons (pv 0) (pa_cons (pe_bltn (v := .ty "bool") (by rfl) T.z_bool PyProof.Rows.boot_bool rfl) pa_nil))) (pe_one (pe_cmpR op_eq (pv 0) (pv 1) (nomark _)))))) pss_nil)
        (pss_cons (ps_if (pt_val (pe_callB call_isi (by rfl) T.z_isinstance PyProof.Rows.boot_isinstance (pa_cons (pv 1) (pa_cons (pe_bltn (v := .ty "int") (by rfl) T.z_int PyProof.Rows.boot_int rfl) pa_nil))))
          (pss_one (ps_ret (pe_and (pe_callB call_isi (by rfl) T.z_isinstance PyProof.Rows.boot_isinstance (pa_cons (pv 0) (pa_cons (pe_bltn (v := .ty "int") (by rfl) T.z_int PyProof.Rows.boot_int rfl) pa_nil)))
            (pe_and (pe_not (pe_callB call_isi (by rfl) T.z_isinstance PyProof.Rows.boot_isinstance (pa_cons (pv 0) (pa_cons (pe_bltn (v := .ty "bool") (by rfl) T.z_bool PyProof.Rows.boot_bool rfl) pa_nil)))) (pe_one (pe_cmpR op_eq (pv 0) (pv 1) (nomark _))))))) pss_nil)
        (pss_one (ps_ret (pe_and (pe_callB call_isi (by rfl) T.z_isinstance PyProof.Rows.boot_isinstance (pa_cons (pv 0) (pa_cons (pe_bltn (v := .ty "str") (by rfl) T.z_str PyProof.Rows.boot_str rfl) pa_nil))) (pe_one (pe_cmpR op_eq (pv 0) (pv 1) (nomark _))))))))), ?_⟩
      obtain ⟨t, ty, kt, kl, hx⟩ := flat_ty (K := K) (H := H) hs
      refine ⟨_, rfl, x, .ty "tuple", _, .type "tuple", false, rfl, .ty _, ty, kit_ty kt, false, rfl, iteF ?_⟩
      refine ⟨_, rfl, x, .ty "list", _, .type "list", false, rfl, .ty _, ty, kit_ty kl, false, rfl, iteF ?_⟩
      rcases hx with ⟨rfl, rfl⟩ | ⟨⟨b, rfl⟩, rfl⟩ | ⟨⟨i, rfl⟩, rfl⟩ | ⟨⟨z, rfl⟩, rfl⟩
      · exact ⟨_, rfl, true, rfl, iteT ⟨_, rfl, k⟩⟩
      · refine ⟨_, rfl, false, rfl, iteF ?_⟩
        refine ⟨_, rfl, _, .ty "bool", _, .type "bool", true, rfl, .ty _, ty, kit_ty (by decide +kernel), true, rfl, iteT ?_⟩
        refine ⟨_, rfl, _, .ty "bool", _, .type "bool", true, rfl, .ty _, ty, kit_ty (by decide +kernel), true, rfl, iteT ?_⟩
        refine ⟨_, rfl, _, rfl, rfl, ?_⟩
        rw [eq_refl_V]
        exact k
      · refine ⟨_, rfl, false, rfl, iteF ?_⟩
        refine ⟨_, rfl, _, .ty "bool", _, .type "bool", false, rfl, .ty _, ty, kit_ty (by decide +kernel), false, rfl, iteF ?_⟩
        refine ⟨_, rfl, _, .ty "int", _, .type "int", true, rfl, .ty _, ty, kit_ty (by decide +kernel), true, rfl, iteT ?_⟩
        refine ⟨_, rfl, _, .ty "int", _, .type "int", true, rfl, .ty _, ty, kit_ty (by decide +kernel), true, rfl, iteT ?_⟩
        refine ⟨_, rfl, _, .ty "bool", _, .type "bool", false, rfl, .ty _, ty, kit_ty (by decide +kernel), false, rfl, true, rfl, iteT ?_⟩
        refine ⟨_, rfl, _, rfl, rfl, ?_⟩
        rw [eq_refl_V]
        exact k
      · refine ⟨_, rfl, false, rfl, iteF ?_⟩
        refine ⟨_, rfl, _, .ty "bool", _, .type "bool", false, rfl, .ty _, ty, kit_ty (by decide +kernel), false, rfl, iteF ?_⟩
        refine ⟨_, rfl, _, .ty "int", _, .type "int", false, rfl, .ty _, ty, kit_ty (by decide +kernel), false, rfl, iteF ?_⟩
        refine ⟨_, rfl, _, .ty "str", _, .type "str", true, rfl, .ty _, ty, kit_ty (by decide +kernel), true, rfl, iteT ?_⟩
        refine ⟨_, rfl, _, rfl, rfl, ?_⟩
        rw [eq_refl_V]
        exact k
  | n + 1 => by
    have IH : FnOk P w K mg base CX0 (n + 1) A.a_law_same A.d_law_same ["actual", "due"] (spSame K n) := ok_same T n
    refine T.t_law_same.F.ok sc_law_same (fun vs H Q E h => ?_) (fun cdv AA outer s H vs Q E hr h => ?_)
    · obtain ⟨x, y, rfl, _⟩ := h
      rfl
    · obtain ⟨x, y, rfl, hd, k⟩ := h
      refine ⟨_, pss_cons (ps_if (PW.pt (pw_or (pt_val (pe_callB call_isi (by rfl) T.z_isinstance PyProof.Rows.boot_isinstance (pa_cons (pv 1) (pa_cons (pe_bltn (v := .ty "tuple") (by rfl) T.z_tuple PyProof.Rows.boot_tuple rfl) pa_nil))))
          (pw_or1 (pt_val (pe_callB call_isi (by rfl) T.z_isinstance PyProof.Rows.boot_isinstance (pa_cons (pv 1) (pa_cons (pe_bltn (v := .ty "list") (by rfl) T.z_list PyProof.Rows.boot_list rfl) pa_nil)))))))
          (pss_cons (ps_if (PW.pt (pw_or (pt_cmpR op_ne (pe_callB call_isi (by rfl) T.z_isinstance PyProof.Rows.boot_isinstance (pa_cons (pv 1) (pa_cons (pe_bltn (v := .ty "tuple") (by rfl) T.z_tuple PyProof.Rows.boot_tuple rfl) pa_nil))) (pe_callB call_isi (by rfl) T.z_isinstance PyProof.Rows.boot_isinstance (pa_cons (pv 0) (pa_cons (pe_bltn (v := .ty "tuple") (by rfl) T.z_tuple PyProof.Rows.boot_tuple rfl) pa_nil))) (nomark _))
              (pw_or1 (pt_cmpR op_ne (pe_callB call_isi (by rfl) T.z_isinstance PyProof.Rows.boot_isinstance (pa_cons (pv 1) (pa_cons (pe_bltn (v := .ty "list") (by rfl) T.z_list PyProof.Rows.boot_list rfl) pa_nil))) (pe_callB call_isi (by rfl) T.z_isinstance PyProof.Rows.boot_isinstance (pa_cons (pv 0) (pa_cons (pe_bltn (v := .ty "list") (by rfl) T.z_list PyProof.Rows.boot_list rfl) pa_nil))) (nomark _)))))
              (pss_one (ps_ret pe_bl)) pss_nil)
          (pss_cons (ps_if (pt_cmpR op_ne (pe_callB call_len_seq (by rfl) T.z_len PySem.boot_len (pa_cons (pv 0) pa_nil)) (pe_callB call_len_seq (by rfl) T.z_len PySem.boot_len (pa_cons (pv 1) pa_nil)) (nomark _)) (pss_one (ps_ret pe_bl)) pss_nil)
          (pss_cons (ps_for PassesOwn.never rfl (pi_range1 rfl T.z_range (pa_cons (pe_callB call_len_seq (by rfl) T.z_len PySem.boot_len (pa_cons (pv 1) pa_nil)) pa_nil)) (pg_name (i := 2) sc_law_same.nd rfl (Or.inl rfl))
            (pss_one (ps_if (pt_not (pt_val (pe_call IH hr rfl T.t_law_same.g T.t_law_same.F.kp T.t_law_same.b .nil pass0 (pa_cons (pe_ix ix_seq (pv 0) (pv 2) (fun _ _ => rfl)) (pa_cons (pe_ix ix_seq (pv 1) (pv 2) (fun _ _ => rfl)) pa_nil))))) (pss_one (ps_ret pe_bl)) pss_nil)))
          (pss_one (ps_ret pe_bl))))) pss_nil)
        (pss_cons (ps_if (pt_cmp (pc_isN (pv 1))) (pss_one (ps_ret (pe_cmp (pc_isN (pv 0))))) pss_nil)
        (pss_cons (ps_if (pt_val (pe_callB call_isi (by rfl) T.z_isinstance PyProof.Rows.boot_isinstance (pa_cons (pv 1) (pa_cons (pe_bltn (v := .ty "bool") (by rfl) T.z_bool PyProof.Rows.boot_bool rfl) pa_nil))))
          (pss_one (ps_ret (pe_and (pe_callB call_isi (by rfl) T.z_isinstance PyProof.Rows.boot_isinstance (pa_cons (pv 0) (pa_cons (pe_bltn (v := .ty "bool") (by rfl) T.z_bool PyProof.Rows.boot_bool rfl) pa_nil))) (pe_one (pe_cmpR op_eq (pv 0) (pv 1) (nomark _)))))) pss_nil)
        (pss_cons (ps_if (pt_val (pe_callB call_isi (by rfl) T.z_isinstance PyProof.Rows.boot_isinstance (pa_cons (pv 1) (pa_cons (pe_bltn (v := .ty "int") (by rfl) T.z_int PyProof.Rows.boot_int rfl) pa_nil))))
          (pss_one (ps_ret (pe_and (pe_callB call_isi (by rfl) T.z_isinstance PyProof.Rows.boot_isinstance (pa_cons (pv 0) (pa_cons (pe_bltn (v := .ty "int") (by rfl) T.z_int PyProof.Rows.boot_int rfl) pa_nil)))
            (pe_and (pe_not (pe_callB call_isi (by rfl) T.z_isinstance PyProof.Rows.boot_isinstance (pa_cons (pv 0) (pa_cons (pe_bltn (v := .ty "bool") (by rfl) T.z_bool PyProof.Rows.boot_bool rfl) pa_nil)))) (pe_one (pe_cmpR op_eq (pv 0) (pv 1) (nomark _))))))) pss_nil)
        (pss_one (ps_ret (pe_and (pe_callB call_isi (by rfl) T.z_isinstance PyProof.Rows.boot_isinstance (pa_cons (pv 0) (pa_cons (pe_bltn (v := .ty "str") (by rfl) T.z_str PyProof.Rows.boot_str rfl) pa_nil))) (pe_one (pe_cmpR op_eq (pv 0) (pv 1) (nomark _))))))))), ?_⟩
      rcases hd with ⟨rfl, hs⟩ | ⟨a, b, xs, ys, rfl, rfl, hab, hl, hb, hk⟩
      · obtain ⟨t, ty, kt, kl, hx⟩ := flat_ty (K := K) (H := H) hs
        refine ⟨_, rfl, x, .ty "tuple", _, .type "tuple", false, rfl, .ty _, ty, kit_ty kt, false, rfl, iteF ?_⟩
        refine ⟨_, rfl, x, .ty "list", _, .type "list", false, rfl, .ty _, ty, kit_ty kl, false, rfl, iteF ?_⟩
        rcases hx with ⟨rfl, rfl⟩ | ⟨⟨b, rfl⟩, rfl⟩ | ⟨⟨i, rfl⟩, rfl⟩ | ⟨⟨z, rfl⟩, rfl⟩
        · exact ⟨_, rfl, true, rfl, iteT ⟨_, rfl, k⟩⟩
        · refine ⟨_, rfl, false, rfl, iteF ?_⟩
          refine ⟨_, rfl, _, .ty "bool", _, .type "bool", true, rfl, .ty _, ty, kit_ty (by decide +kernel), true, rfl, iteT ?_⟩
          refine ⟨_, rfl, _, .ty "bool", _, .type "bool", true, rfl, .ty _, ty, kit_ty (by decide +kernel), true, rfl, iteT ?_⟩
          refine ⟨_, rfl, _, rfl, rfl, ?_⟩
          rw [eq_refl_V]
          exact k
        · refine ⟨_, rfl, false, rfl, iteF ?_⟩
          refine ⟨_, rfl, _, .ty "bool", _, .type "bool", false, rfl, .ty _, ty, kit_ty (by decide +kernel), false, rfl, iteF ?_⟩
          refine ⟨_, rfl, _, .ty "int", _, .type "int", true, rfl, .ty _, ty, kit_ty (by decide +kernel), true, rfl, iteT ?_⟩
          refine ⟨_, rfl, _, .ty "int", _, .type "int", true, rfl, .ty _, ty, kit_ty (by decide +kernel), true, rfl, iteT ?_⟩
          refine ⟨_, rfl, _, .ty "bool", _, .type "bool", false, rfl, .ty _, ty, kit_ty (by decide +kernel), false, rfl, true, rfl, iteT ?_⟩
          refine ⟨_, rfl, _, rfl, rfl, ?_⟩
          rw [eq_refl_V]
          exact k
        · refine ⟨_, rfl, false, rfl, iteF ?_⟩
          refine ⟨_, rfl, _, .ty "bool", _, .type "bool", false, rfl, .ty _, ty, kit_ty (by decide +kernel), false, rfl, iteF ?_⟩
          refine ⟨_, rfl, _, .ty "int", _, .type "int", false, rfl, .ty _, ty, kit_ty (by decide +kernel), false, rfl, iteF ?_⟩
          refine ⟨_, rfl, _, .ty "str", _, .type "str", true, rfl, .ty _, ty, kit_ty (by decide +kernel), true, rfl, iteT ?_⟩
          refine ⟨_, rfl, _, rfl, rfl, ?_⟩
          rw [eq_refl_V]
          exact k
      · rcases hab with ⟨ha, hbb⟩ | ⟨ha, hbb⟩
        · -- lists
          refine ⟨_, rfl, _, .ty "tuple", _, .type "tuple", false, rfl, .ty _, (SqL.ty hbb), kit_ty (by decide +kernel), false, rfl, iteF ?_⟩
          refine ⟨_, rfl, _, .ty "list", _, .type "list", true, rfl, .ty _, (SqL.ty hbb), kit_ty (by decide +kernel), true, rfl, iteT ?_⟩
          refine ⟨_, rfl, _, .ty "tuple", _, .type "tuple", false, rfl, .ty _, (SqL.ty hbb), kit_ty (by decide +kernel), _, rfl, _, .ty "tuple", _, .type "tuple", false, rfl, .ty _, (SqL.ty ha), kit_ty (by decide +kernel), rfl, false, rfl, iteF ?_⟩
          refine ⟨_, rfl, _, .ty "list", _, .type "list", true, rfl, .ty _, (SqL.ty hbb), kit_ty (by decide +kernel), _, rfl, _, .ty "list", _, .type "list", true, rfl, .ty _, (SqL.ty ha), kit_ty (by decide +kernel), rfl, false, rfl, iteF ?_⟩
          refine ⟨_, rfl, _, xs, rfl, .inl ha, _, rfl, _, ys, rfl, .inl hbb, rfl, false, (by rw [hl, eq_refl_V]; rfl), iteF ?_⟩
          refine ⟨_, rfl, _, ys, rfl, .inl hbb, _, rfl, by omega, by omega, ?_⟩
          refine for_range (n := (ys.length : Int).toNat) (fun i σ H2 => H2 = H ∧ ∃ v : Option V, σ = [some (.ref a), some (.ref b), v]) ⟨rfl, none, rfl⟩ ?_ ?_
          · rintro i σ H2 hi ⟨rfl, v, rfl⟩
            have h1 : i < ys.length := by omega
            have h2 : i < xs.length := by omega
            have e1 := List.getElem?_eq_getElem h2
            have e2 := List.getElem?_eq_getElem h1
            refine ⟨_, rfl, _, rfl, .inl ⟨a, xs, _, _, rfl, rfl, ha, (by rw [Int.zero_add]; exact atI_nat e1), ?_⟩⟩
            refine ⟨_, rfl, _, rfl, .inl ⟨b, ys, _, _, rfl, rfl, hbb, (by rw [Int.zero_add]; exact atI_nat e2), ?_⟩⟩
            exact ⟨_, _, rfl, hk i _ _ e1 e2, true, rfl, iteF ⟨rfl, _, rfl⟩⟩
          · rintro σ H2 ⟨rfl, v, rfl⟩
            exact k
        · -- tuples
          refine ⟨_, rfl, _, .ty "tuple", _, .type "tuple", true, rfl, .ty _, (SqT.ty hbb), kit_ty (by decide +kernel), true, rfl, iteT ?_⟩
          refine ⟨_, rfl, _, .ty "tuple", _, .type "tuple", true, rfl, .ty _, (SqT.ty hbb), kit_ty (by decide +kernel), _, rfl, _, .ty "tuple", _, .type "tuple", true, rfl, .ty _, (SqT.ty ha), kit_ty (by decide +kernel), rfl, false, rfl, iteF ?_⟩
          refine ⟨_, rfl, _, .ty "list", _, .type "list", false, rfl, .ty _, (SqT.ty hbb), kit_ty (by decide +kernel), _, rfl, _, .ty "list", _, .type "list", false, rfl, .ty _, (SqT.ty ha), kit_ty (by decide +kernel), rfl, false, rfl, iteF ?_⟩
          refine ⟨_, rfl, _, xs, rfl, .inr ha, _, rfl, _, ys, rfl, .inr hbb, rfl, false, (by rw [hl, eq_refl_V]; rfl), iteF ?_⟩
          refine ⟨_, rfl, _, ys, rfl, .inr hbb, _, rfl, by omega, by omega, ?_⟩
          refine for_range (n := (ys.length : Int).toNat) (fun i σ H2 => H2 = H ∧ ∃ v : Option V, σ = [some (.ref a), some (.ref b), v]) ⟨rfl, none, rfl⟩ ?_ ?_
          · rintro i σ H2 hi ⟨rfl, v, rfl⟩
            have h1 : i < ys.length := by omega
            have h2 : i < xs.length := by omega
            have e1 := List.getElem?_eq_getElem h2
            have e2 := List.getElem?_eq_getElem h1
            refine ⟨_, rfl, _, rfl, .inr (.inl ⟨a, xs, _, _, rfl, rfl, ha, (by rw [Int.zero_add]; exact atI_nat e1), ?_⟩)⟩
            refine ⟨_, rfl, _, rfl, .inr (.inl ⟨b, ys, _, _, rfl, rfl, hbb, (by rw [Int.zero_add]; exact atI_nat e2), ?_⟩)⟩
            exact ⟨_, _, rfl, hk i _ _ e1 e2, true, rfl, iteF ⟨rfl, _, rfl⟩⟩
          · rintro σ H2 ⟨rfl, v, rfl⟩
            exact k
end
/-! ### trees of expressions: data -/
inductive Tr where
  | mk (tag : Str) (lits : List V) (subs : List Tr)
mutual
def TreeAt (H : Hp) : Tr → Addr → Prop
  | .mk tag lits subs, a => ∃ as : List Addr, H a = some (.tup (.str tag :: (lits ++ as.map V.ref))) ∧ ((∀ x ∈ lits, scalV x) ∧ lits.length ≤ 3) ∧ TreesAt H subs as
def TreesAt (H : Hp) : List Tr → List Addr → Prop
  | [], as => as = []
  | t :: ts, as => ∃ a r, as = a :: r ∧ TreeAt H t a ∧ TreesAt H ts r
end
mutual
theorem TreeAt.same {H H' : Hp} (s : Same H H') : ∀ (t : Tr) (a : Addr), TreeAt H t a → TreeAt H' t a
  | .mk tag lits subs, a, h => by
    rw [TreeAt] at h ⊢
    obtain ⟨as, h1, h2, h3⟩ := h
    exact ⟨as, s _ _ h1, h2, TreesAt.same s subs as h3⟩
theorem TreesAt.same {H H' : Hp} (s : Same H H') : ∀ (ts : List Tr) (as : List Addr), TreesAt H ts as → TreesAt H' ts as
  | [], as, h => by
    rw [TreesAt] at h ⊢
    exact h
  | t :: ts, as, h => by
    rw [TreesAt] at h ⊢
    obtain ⟨a, r, e, h1, h2⟩ := h
    exact ⟨a, r, e, TreeAt.same s t a h1, TreesAt.same s ts r h2⟩
end
theorem TreeAt.tup {H : Hp} {t : Tr} {a : Addr} (h : TreeAt H t a) : ∃ xs, H a = some (.tup xs) := by
  cases t with
  | mk tag lits subs =>
    rw [TreeAt] at h
    obtain ⟨as, h1, _⟩ := h
    exact ⟨_, h1⟩
mutual
theorem TreeAt.but {H H' : Hp} {p : Addr} (s : But p H H') (hp : ∀ xs, H p ≠ some (.tup xs)) : ∀ (t : Tr) (a : Addr), TreeAt H t a → TreeAt H' t a
  | .mk tag lits subs, a, h => by
    rw [TreeAt] at h ⊢
    obtain ⟨as, h1, h2, h3⟩ := h
    exact ⟨as, s _ _ h1 (fun e => hp _ (by rw [← e]; exact h1)), h2, TreesAt.but s hp subs as h3⟩
theorem TreesAt.but {H H' : Hp} {p : Addr} (s : But p H H') (hp : ∀ xs, H p ≠ some (.tup xs)) : ∀ (ts : List Tr) (as : List Addr), TreesAt H ts as → TreesAt H' ts as
  | [], as, h => by
    rw [TreesAt] at h ⊢
    exact h
  | t :: ts, as, h => by
    rw [TreesAt] at h ⊢
    obtain ⟨a, r, e, h1, h2⟩ := h
    exact ⟨a, r, e, TreeAt.but s hp t a h1, TreesAt.but s hp ts r h2⟩
end
theorem PoolAt.notup {H : Hp} {p l : Addr} (h : PoolAt H p l) : ∀ xs, H p ≠ some (.tup xs) := fun xs e => by
  obtain ⟨ns, pos, cur, cnt, salt, h1, _⟩ := h
  rw [h1] at e
  cases e
mutual
def size : Tr → Nat
  | .mk _ _ subs => 1 + sizes subs
def sizes : List Tr → Nat
  | [] => 0
  | t :: ts => size t + sizes ts
end
mutual
def ht : Tr → Nat
  | .mk _ _ subs => 1 + hts subs
def hts : List Tr → Nat
  | [] => 0
  | t :: ts => max (ht t) (hts ts)
end
/-! ### kinds -/
abbrev kInt : Str := Str.ofString "int"
abbrev kBool : Str := Str.ofString "bool"
abbrev kArr : Str := Str.ofString "array"
def boolTags : List Str := [Str.ofString "true", Str.ofString "false", Str.ofString "not", Str.ofString "eq", Str.ofString "ne", Str.ofString "lt", Str.ofString "le", Str.ofString "and", Str.ofString "or"]
def wanted (tag : Str) : Str := if tag = Str.ofString "not" ∨ tag = Str.ofString "and" ∨ tag = Str.ofString "or" then kBool else kInt
def okParts (tag : Str) (ks : List Str) : Bool :=
  if tag = Str.ofString "eq" ∨ tag = Str.ofString "ne" then (match ks with | [a, b] => decide (a = b) | _ => false)
  else if tag = Str.ofString "cond" then (match ks with | [c, a, b] => decide (c = kBool) && decide (a = b) | _ => false)
  else ks.all fun k => decide (k = wanted tag)
def resK (Γ : Str → Option Str) (tag : Str) (lits : List V) (ks : List Str) : Str :=
  if tag = Str.ofString "var" then (match lits with | [.str x] => (Γ x).getD kInt | _ => kInt)
  else if tag = Str.ofString "cond" then (match ks with | [_, a, _] => a | _ => kInt)
  else if tag ∈ boolTags then kBool else kInt
mutual
/-- t has the kind k -/
def HasK (Γ : Str → Option Str) : Tr → Str → Prop
  | .mk tag lits subs, k => ∃ ks, HasKs Γ subs ks ∧ okParts tag ks = true ∧ k = resK Γ tag lits ks
def HasKs (Γ : Str → Option Str) : List Tr → List Str → Prop
  | [], ks => ks = []
  | t :: ts, ks => ∃ k r, ks = k :: r ∧ HasK Γ t k ∧ HasKs Γ ts r
end
/-- the names at the tree's top are there -/
def nameOk (Γ : Str → Option Str) (tag : Str) (lits : List V) : Prop :=
  (tag = Str.ofString "var" → ∃ x, lits = [.str x] ∧ (Γ x = some kInt ∨ Γ x = some kBool)) ∧ (tag = Str.ofString "item" → ∃ x, lits = [.str x] ∧ Γ x = some kArr)
mutual
def Good (Γ : Str → Option Str) : Tr → Prop
  | .mk tag lits subs => nameOk Γ tag lits ∧ Goods Γ subs
def Goods (Γ : Str → Option Str) : List Tr → Prop
  | [] => True
  | t :: ts => Good Γ t ∧ Goods Γ ts
end
theorem size_pos (t : Tr) : 1 ≤ size t := by
  cases t
  rw [size]
  omega
/-! ### texts by their codes -/
open SX (S S_len S_cat S_inj)
theorem S_take (l : List Nat) (k : Nat) : cutS (S l) none (some (k : Int)) = S (l.take k) := by
  show (⟨((l.drop (HT.sIx (S l).length 0 none)).take (HT.sIx (S l).length (S l).length (some (k : Int)) - HT.sIx (S l).length 0 none)).toArray⟩ : Str) = S (l.take k)
  rw [HT.sIx_none, HT.sIx_nat, S_len, List.drop_zero, Nat.sub_zero]
  congr 2
  rw [List.take_eq_take_iff]
  omega
theorem S_drop (l : List Nat) (k : Nat) : cutS (S l) (some (k : Int)) none = S (l.drop k) := by
  show (⟨((l.drop (HT.sIx (S l).length 0 (some (k : Int)))).take (HT.sIx (S l).length (S l).length none - HT.sIx (S l).length 0 (some (k : Int)))).toArray⟩ : Str) = S (l.drop k)
  rw [HT.sIx_none, HT.sIx_nat, S_len]
  by_cases h : k ≤ l.length
  · rw [Nat.min_eq_left h, List.take_of_length_le (by rw [List.length_drop]; exact Nat.le_refl _)]
  · rw [Nat.min_eq_right (by omega), List.drop_eq_nil_of_le (show l.length ≤ k by omega), Nat.sub_self, List.take_zero]
theorem S_take_neg (l : List Nat) {k : Nat} (h : k ≤ l.length) (h0 : 0 < k) : cutS (S l) none (some (-(k : Int))) = S (l.take (l.length - k)) := by
  have e : HT.sIx (S l).length (S l).length (some (-(k : Int))) = l.length - k := by
    show (if -(k : Int) < 0 then (-(k : Int) + ((S l).length : Int)).toNat else min (-(k : Int)).toNat (S l).length) = l.length - k
    rw [if_pos (by omega), S_len]
    omega
  show (⟨((l.drop (HT.sIx (S l).length 0 none)).take (HT.sIx (S l).length (S l).length (some (-(k : Int))) - HT.sIx (S l).length 0 none)).toArray⟩ : Str) = S (l.take (l.length - k))
  rw [e, HT.sIx_none, List.drop_zero, Nat.sub_zero]
theorem S_drop_neg (l : List Nat) {k : Nat} (h : k ≤ l.length) (h0 : 0 < k) : cutS (S l) (some (-(k : Int))) none = S (l.drop (l.length - k)) := by
  have e : HT.sIx (S l).length 0 (some (-(k : Int))) = l.length - k := by
    show (if -(k : Int) < 0 then (-(k : Int) + ((S l).length : Int)).toNat else min (-(k : Int)).toNat (S l).length) = l.length - k
    rw [if_pos (by omega), S_len]
    omega
  show (⟨((l.drop (HT.sIx (S l).length 0 (some (-(k : Int))))).take (HT.sIx (S l).length (S l).length none - HT.sIx (S l).length 0 (some (-(k : Int))))).toArray⟩ : Str) = S (l.drop (l.length - k))
  rw [e, HT.sIx_none, S_len, List.take_of_length_le (by rw [List.length_drop]; exact Nat.le_refl _)]
/-- equality of texts -/
theorem dec_S (a b : List Nat) : decide (V.str (S a) = V.str (S b)) = decide (a = b) := by
  rw [Bool.eq_iff_iff, decide_eq_true_eq, decide_eq_true_eq]
  exact ⟨fun h => S_inj (V.str.inj h), fun h => by rw [h]⟩
theorem rm_prefix (l : List Nat) (c : Nat) : Txt.removeprefix (S l) (S [c]) = S (if l.head? = some c then l.tail else l) := by
  have e : Builtin.Str.subAt (S l) (S [c]) 0 = decide (l.head? = some c) := by
    unfold Builtin.Str.subAt
    cases l with
    | nil => rfl
    | cons d r =>
      have e1 : (S (d :: r)).cps.extract 0 (0 + (S [c]).length) = #[d] := by
        apply Array.toList_inj.mp
        rw [Array.toList_extract]
        rfl
      rw [e1]
      rw [Bool.eq_iff_iff, beq_iff_eq, decide_eq_true_eq]
      constructor
      · intro h
        have h2 : [d] = [c] := congrArg Array.toList h
        rw [List.head?_cons]
        exact congrArg some (List.cons.inj h2).1
      · intro h
        rw [List.head?_cons] at h
        rw [Option.some.inj h]
  unfold Txt.removeprefix
  rw [e]
  by_cases h : l.head? = some c
  · rw [decide_eq_true h, if_pos rfl, if_pos h]
    cases l with
    | nil => cases h
    | cons d r =>
      show Txt.affix (S (d :: r)) (some (1, (S (d :: r)).length)) = S r
      have hl : (S (d :: r)).length = r.length + 1 := S_len _
      have hne : ¬ ((S (d :: r)).length - 1 = (S (d :: r)).length) := by rw [hl]; omega
      simp only [Txt.affix]
      rw [if_neg (fun z => hne (beq_iff_eq.mp z))]
      refine TL.ext_tl ?_
      rw [TL.tl_strSub_end]
      rfl
  · rw [decide_eq_false h, if_neg Bool.false_ne_true, if_neg h]
    rfl
theorem starts_one (l : List Nat) (c : Nat) : Txt.startswith (S l) (S [c]) = decide (l.head? = some c) := by
  unfold Txt.startswith
  cases l with
  | nil => rfl
  | cons d r =>
    have e1 : (S (d :: r)).cps.extract 0 (0 + (S [c]).length) = #[d] := by
      apply Array.toList_inj.mp
      rw [Array.toList_extract]
      rfl
    unfold Builtin.Str.subAt
    rw [e1]
    have e2 : decide (0 + (S [c]).length ≤ (S (d :: r)).length) = true := decide_eq_true (by rw [S_len, S_len]; simp)
    rw [e2, Bool.true_and]
    rw [Bool.eq_iff_iff, beq_iff_eq, decide_eq_true_eq]
    constructor
    · intro h
      have h2 : [d] = [c] := congrArg Array.toList h
      rw [List.head?_cons]
      exact congrArg some (List.cons.inj h2).1
    · intro h
      rw [List.head?_cons] at h
      rw [Option.some.inj h]
/-- a walk over a text, sign by sign -/
theorem for_str {l : List Nat} {g : TG} {tb : TS} {D : Ends} {σ : St} {H : Hp} (Pv : Nat → St → Hp → Prop) (h0 : Pv 0 σ H)
    (hs : ∀ i c σ H, l[i]? = some c → Pv i σ H → g (.str (S [c])) σ H fun σ2 H2 => tb { D with nx := Pv (i + 1), ct := Pv (i + 1), bk := D.nx } σ2 H2) (hd : ∀ σ H, Pv l.length σ H → D.nx σ H) :
    ∃ W : Nat → Nat → St → Hp → Prop, (∃ m, W 0 m σ H) ∧ ∀ i m σ H, W i m σ H →
      ((Its (S l)).stop i H ∧ D.nx σ H) ∨ ((Its (S l)).go i H ∧ ∃ N : St → Hp → Prop, (∀ σ' H', N σ' H' → ∃ m', m' < m ∧ W (i + 1) m' σ' H') ∧ ∀ x H', (Its (S l)).yld i H x H' → g x σ H' fun σ2 H2 => tb { D with nx := N, ct := N, bk := D.nx } σ2 H2) := by
  refine ⟨fun i m σ H => m = l.length - i ∧ i ≤ l.length ∧ Pv i σ H, ⟨l.length, by simp, Nat.zero_le _, h0⟩, ?_⟩
  rintro i m σ H ⟨rfl, hi, p⟩
  by_cases hlt : i < l.length
  · refine .inr ⟨(by show i < l.toArray.size; simpa using hlt), Pv (i + 1), fun σ' H' p' => ⟨l.length - (i + 1), by omega, rfl, hlt, p'⟩, fun x H' y => ?_⟩
    obtain ⟨e, c, hc, rfl⟩ := y
    subst e
    exact hs i c _ _ (by simpa using hc) p
  · have e : i = l.length := by omega
    subst e
    exact .inl ⟨(by show l.toArray.size ≤ l.length; simp), hd σ H p⟩
/-- a comprehension over a text -/
theorem lc_str {l : List Nat} {g : TG} {tt : TT} {te : TE} {vs : List Nat} {σ : St} {H1 : Hp} {D : Addr} {Qd : Hp → Prop} (Pv : Nat → Hp → Prop) (h0 : Pv 0 (upd H1 D (.lst [])))
    (hs : ∀ i c H, l[i]? = some c → Pv i H → g (.str (S [c])) (wipe σ vs) H fun σ2 H2 => wipe σ2 vs = wipe σ vs ∧ tt σ2 H2 fun b H3 =>
      if b = true then te σ2 H3 fun y H4 => ∃ acc, H4 D = some (.lst acc) ∧ acc.length < sizeLine ∧ Pv (i + 1) (upd H4 D (.lst (acc ++ [y]))) else Pv (i + 1) H3) (hd : ∀ H, Pv l.length H → Qd H) :
    ∃ W : Nat → Nat → Hp → Prop, (∃ m, W 0 m (upd H1 D (.lst []))) ∧ ∀ i m H, W i m H →
      ((Its (S l)).stop i H ∧ Qd H) ∨ ((Its (S l)).go i H ∧ ∃ Nx : Hp → Prop, (∀ H', Nx H' → ∃ m', m' < m ∧ W (i + 1) m' H') ∧ ∀ x H', (Its (S l)).yld i H x H' → g x (wipe σ vs) H' fun σ2 H2 => wipe σ2 vs = wipe σ vs ∧ tt σ2 H2 fun b H3 =>
        if b = true then te σ2 H3 fun y H4 => ∃ acc, H4 D = some (.lst acc) ∧ acc.length < sizeLine ∧ Nx (upd H4 D (.lst (acc ++ [y]))) else Nx H3) := by
  refine ⟨fun i m H => m = l.length - i ∧ i ≤ l.length ∧ Pv i H, ⟨l.length, by simp, Nat.zero_le _, h0⟩, ?_⟩
  rintro i m H ⟨rfl, hi, p⟩
  by_cases hlt : i < l.length
  · refine .inr ⟨(by show i < l.toArray.size; simpa using hlt), Pv (i + 1), fun H' p' => ⟨l.length - (i + 1), by omega, rfl, hlt, p'⟩, fun x H' y => ?_⟩
    obtain ⟨e, c, hc, rfl⟩ := y
    subst e
    exact hs i c _ (by simpa using hc) p
  · have e : i = l.length := by omega
    subst e
    exact .inl ⟨(by show l.toArray.size ≤ l.length; simp), hd H p⟩
open SX (S S_len S_cat S_inj)
open TL (numL numL_lt numL_step numL_digits numL_ne numL_val)
theorem numL_le : ∀ (w m : Nat), m < 10 ^ (w + 1) → (numL m).length ≤ w + 1
  | 0, m, h => by rw [numL_lt (by simpa using h)]; exact Nat.le_refl 1
  | w + 1, m, h => by
    by_cases h9 : m < 10
    · rw [numL_lt h9]
      simp
    · have h2 : m / 10 < 10 ^ (w + 1) := by rw [Nat.pow_succ] at h; omega
      rw [numL_step (by omega), List.length_append]
      have := numL_le w (m / 10) h2
      simp
      omega
theorem num_S (n : Nat) : Str.ofString (toString ((n : Nat) : Int)) = S (numL n) := SX.num_S n
theorem dec_str (a b : Str) : decide (V.str a = V.str b) = decide (a = b) := by
  rw [Bool.eq_iff_iff, decide_eq_true_eq, decide_eq_true_eq]
  exact ⟨fun h => V.str.inj h, fun h => by rw [h]⟩
theorem in_strs (x : Str) : ∀ ss : List Str, inV (.str x) (ss.map V.str) = decide (x ∈ ss)
  | [] => by simp [inV]
  | y :: ss => by
    have ih := in_strs x ss
    show (eqV (.str y) (.str x) || inV (.str x) (ss.map V.str)) = _
    rw [ih]
    show ((y == x) || decide (x ∈ ss)) = _
    rw [Bool.eq_iff_iff, Bool.or_eq_true, beq_iff_eq, decide_eq_true_eq, decide_eq_true_eq, List.mem_cons]
    constructor
    · rintro (h | h)
      · exact .inl h.symm
      · exact .inr h
    · rintro (h | h)
      · exact .inl h.symm
      · exact .inr h
theorem cut1 (x : V) (xs : List V) : cutV (x :: xs) (some 1) none = xs := by
  unfold cutV
  rw [show HT.sIx (x :: xs).length 0 (some 1) = min 1 (x :: xs).length from HT.sIx_nat (x :: xs).length 0 1, HT.sIx_none]
  rw [show min 1 (x :: xs).length = 1 by rw [List.length_cons]; omega]
  show List.take ((x :: xs).length - 1) xs = xs
  rw [List.length_cons, Nat.add_sub_cancel]
  exact List.take_length
/-! ### texts of trees -/
theorem S_c (x : Str) : SX.S x.cps.toList = x := rfl
theorem app_len (a b : Str) : (a ++ b).length = a.length + b.length := by
  rw [← S_c a, ← S_c b, SX.S_cat, SX.S_len, SX.S_len, SX.S_len, List.length_append]
theorem app_assoc (a b c : Str) : a ++ b ++ c = a ++ (b ++ c) := by
  rw [← S_c a, ← S_c b, ← S_c c, SX.S_cat, SX.S_cat, SX.S_cat, SX.S_cat, List.append_assoc]
theorem empty_app (a : Str) : Str.empty ++ a = a := by
  have e : Str.empty = SX.S [] := rfl
  rw [← S_c a, e, SX.S_cat, List.nil_append]
abbrev txt (s : String) : Str := Str.ofString s
/-- a text in its place -/
def brk (least l : Int) (x : Str) : Str := if l < least then txt "(" ++ (x ++ txt ")") else x
abbrev binTab : List (Str × Int × Str) := [(txt "or", 1, txt "or"), (txt "and", 2, txt "and"), (txt "eq", 3, txt "="), (txt "ne", 3, txt "!="), (txt "lt", 3, txt "<"), (txt "le", 3, txt "<="), (txt "add", 4, txt "+"), (txt "sub", 4, txt "-"), (txt "mul", 5, txt "*"), (txt "div", 5, txt "div"), (txt "mod", 5, txt "mod")]
def binText (lv : Int) (sg : Str) (l : Int) (x : Str) (m : Int) (y : Str) : Str := brk (if lv = 3 then lv + 1 else lv) l x ++ (txt " " ++ (sg ++ (txt " " ++ brk (lv + 1) m y)))
inductive Shown : Tr → Str → Int → Prop where
  | num (n : Nat) (h : n < 10 ^ 18) : Shown (.mk (txt "num") [.int (n : Int)] []) (SX.S (TL.numL n)) 7
  | var (x : Str) (h : x.length ≤ 60) : Shown (.mk (txt "var") [.str x] []) x 7
  | tru : Shown (.mk (txt "true") [] []) (txt "true") 7
  | fls : Shown (.mk (txt "false") [] []) (txt "false") 7
  | neg {t : Tr} {x : Str} {l : Int} (h : Shown t x l) : Shown (.mk (txt "neg") [] [t]) (txt "-" ++ brk 7 l x) 6
  | not {t : Tr} {x : Str} {l : Int} (h : Shown t x l) : Shown (.mk (txt "not") [] [t]) (txt "not " ++ brk 7 l x) 6
  | bin (tag : Str) (lv : Int) (sg : Str) (hr : (tag, lv, sg) ∈ binTab) {t u : Tr} {x y : Str} {l m : Int} (h : Shown t x l) (k : Shown u y m) : Shown (.mk tag [] [t, u]) (binText lv sg l x m y) lv
  | mm (tag : Str) (hr : tag = txt "min" ∨ tag = txt "max") {t u : Tr} {x y : Str} {l m : Int} (h : Shown t x l) (k : Shown u y m) : Shown (.mk tag [] [t, u]) (tag ++ (txt "(" ++ (x ++ (txt ", " ++ (y ++ txt ")"))))) 7
  | cond {t u v : Tr} {x y z : Str} {l m n : Int} (h : Shown t x l) (k : Shown u y m) (j : Shown v z n) : Shown (.mk (txt "cond") [] [t, u, v]) (txt "(if " ++ (x ++ (txt " then " ++ (y ++ (txt " else " ++ (z ++ txt ")")))))) 7
  | item (x : Str) (h : x.length ≤ 60) {t : Tr} {y : Str} {l : Int} (k : Shown t y l) : Shown (.mk (txt "item") [.str x] [t]) (x ++ (txt "[" ++ (y ++ txt "]"))) 7
theorem brk_len (least l : Int) (x : Str) : (brk least l x).length ≤ x.length + 2 := by
  unfold brk
  have e1 : (txt "(").length = 1 := by decide +kernel
  have e2 : (txt ")").length = 1 := by decide +kernel
  split
  · rw [app_len, app_len, e1, e2]
    omega
  · omega
theorem tab_len : ∀ r ∈ binTab, r.2.2.length ≤ 3 := by decide +kernel
theorem size0' (tag : Str) (lits : List V) : size (.mk tag lits []) = 1 := by rw [size, sizes]
theorem size1' (tag : Str) (lits : List V) (t : Tr) : size (.mk tag lits [t]) = 1 + size t := by rw [size, sizes, sizes]; omega
theorem size2' (tag : Str) (lits : List V) (t u : Tr) : size (.mk tag lits [t, u]) = 1 + size t + size u := by rw [size, sizes, sizes, sizes]; omega
theorem size3' (tag : Str) (lits : List V) (t u v : Tr) : size (.mk tag lits [t, u, v]) = 1 + size t + size u + size v := by rw [size, sizes, sizes, sizes, sizes]; omega
theorem ht0' (tag : Str) (lits : List V) : ht (.mk tag lits []) = 1 := by rw [ht, hts]
theorem ht1' (tag : Str) (lits : List V) (t : Tr) : ht (.mk tag lits [t]) = 1 + ht t := by rw [ht, hts, hts]; omega
theorem ht2' (tag : Str) (lits : List V) (t u : Tr) : ht (.mk tag lits [t, u]) = 1 + max (ht t) (ht u) := by rw [ht, hts, hts, hts]; omega
theorem ht3' (tag : Str) (lits : List V) (t u v : Tr) : ht (.mk tag lits [t, u, v]) = 1 + max (ht t) (max (ht u) (ht v)) := by rw [ht, hts, hts, hts, hts]; omega
theorem shown_len {t : Tr} {x : Str} {l : Int} (h : Shown t x l) : x.length ≤ 100 * size t := by
  have n1 : (txt "-").length = 1 := by decide +kernel
  have n2 : (txt "not ").length = 4 := by decide +kernel
  have n3 : (txt " ").length = 1 := by decide +kernel
  have n4 : (txt "(").length = 1 := by decide +kernel
  have n5 : (txt ")").length = 1 := by decide +kernel
  have n6 : (txt ", ").length = 2 := by decide +kernel
  have n7 : (txt "(if ").length = 4 := by decide +kernel
  have n8 : (txt " then ").length = 6 := by decide +kernel
  have n9 : (txt " else ").length = 6 := by decide +kernel
  have n10 : (txt "[").length = 1 := by decide +kernel
  have n11 : (txt "]").length = 1 := by decide +kernel
  have n12 : (txt "true").length = 4 := by decide +kernel
  have n13 : (txt "false").length = 5 := by decide +kernel
  have n14 : (txt "min").length = 3 := by decide +kernel
  have n15 : (txt "max").length = 3 := by decide +kernel
  induction h with
  | num n h =>
    rw [size0', SX.S_len]
    have := numL_le 17 n h
    omega
  | var x h => rw [size0']; omega
  | tru => rw [size0', n12]; omega
  | fls => rw [size0', n13]; omega
  | @neg t x l h ih =>
    have := brk_len 7 l x
    rw [size1', app_len, n1]; omega
  | @not t x l h ih =>
    have := brk_len 7 l x
    rw [size1', app_len, n2]; omega
  | @bin tag lv sg hr t u x y l m h k ih ik =>
    have a := brk_len (if lv = 3 then lv + 1 else lv) l x
    have b := brk_len (lv + 1) m y
    have c : sg.length ≤ 3 := tab_len _ hr
    unfold binText
    rw [size2', app_len, app_len, app_len, app_len, n3]; omega
  | @mm tag hr t u x y l m h k ih ik =>
    have c : tag.length = 3 := by rcases hr with e | e <;> rw [e] <;> assumption
    rw [size2', app_len, app_len, app_len, app_len, app_len, n4, n5, n6, c]; omega
  | @cond t u v x y z l m n h k j ih ik ij =>
    rw [size3', app_len, app_len, app_len, app_len, app_len, app_len, n5, n7, n8, n9]; omega
  | @item x h t y l k ik =>
    rw [size1', app_len, app_len, app_len, n10, n11]; omega
/-! the places of a tree -/
theorem at0 {H : Hp} {tag : Str} {lits : List V} {a : Addr} (h : TreeAt H (.mk tag lits []) a) : H a = some (.tup (.str tag :: lits)) := by
  rw [TreeAt] at h
  obtain ⟨as, h1, _, h2⟩ := h
  rw [TreesAt] at h2
  subst h2
  rw [h1, List.map_nil, List.append_nil]
theorem at1 {H : Hp} {tag : Str} {lits : List V} {t : Tr} {a : Addr} (h : TreeAt H (.mk tag lits [t]) a) : ∃ b, H a = some (.tup (.str tag :: (lits ++ [.ref b]))) ∧ TreeAt H t b := by
  rw [TreeAt] at h
  obtain ⟨as, h1, _, h2⟩ := h
  rw [TreesAt] at h2
  obtain ⟨b, r, e, k, h2⟩ := h2
  rw [TreesAt] at h2
  subst h2
  subst e
  exact ⟨b, h1, k⟩
theorem at2 {H : Hp} {tag : Str} {lits : List V} {t u : Tr} {a : Addr} (h : TreeAt H (.mk tag lits [t, u]) a) : ∃ b c, H a = some (.tup (.str tag :: (lits ++ [.ref b, .ref c]))) ∧ TreeAt H t b ∧ TreeAt H u c := by
  rw [TreeAt] at h
  obtain ⟨as, h1, _, h2⟩ := h
  rw [TreesAt] at h2
  obtain ⟨b, r, e, k, h2⟩ := h2
  rw [TreesAt] at h2
  obtain ⟨c, r2, e2, k2, h2⟩ := h2
  rw [TreesAt] at h2
  subst h2
  subst e2
  subst e
  exact ⟨b, c, h1, k, k2⟩
theorem at3 {H : Hp} {tag : Str} {lits : List V} {t u v : Tr} {a : Addr} (h : TreeAt H (.mk tag lits [t, u, v]) a) : ∃ b c d, H a = some (.tup (.str tag :: (lits ++ [.ref b, .ref c, .ref d]))) ∧ TreeAt H t b ∧ TreeAt H u c ∧ TreeAt H v d := by
  rw [TreeAt] at h
  obtain ⟨as, h1, _, h2⟩ := h
  rw [TreesAt] at h2
  obtain ⟨b, r, e, k, h2⟩ := h2
  rw [TreesAt] at h2
  obtain ⟨c, r2, e2, k2, h2⟩ := h2
  rw [TreesAt] at h2
  obtain ⟨d, r3, e3, k3, h2⟩ := h2
  rw [TreesAt] at h2
  subst h2
  subst e3
  subst e2
  subst e
  exact ⟨b, c, d, h1, k, k2, k3⟩
section
variable {P : Program} {w : World} {K : PySem.W.Frag} {mg : Str → Option Value} {base : Heap} {A : At}
theorem call_str_any {X : Cx} : CallR X (.type "str") (fun xs H Q => (∃ i : Int, xs = [.int i] ∧ i.natAbs.log2 < 1920 ∧ Q (.str (toString i)) H) ∨ ∃ a, xs = [.str a] ∧ Q (.str a) H) := by
  intro pins s σ H xs us Q I r q
  rcases q with q | q
  · exact call_str_int pins s σ H xs us Q I r q
  · exact SkE.call_str_str pins s σ H xs us Q I r q
def spLevel : Sp := fun vs H Q _ => ∃ (a : Addr) (t : Tr) (x : Str) (l : Int), vs = [.ref a] ∧ TreeAt H t a ∧ Shown t x l ∧ ∀ H', Same H H' → Q (.int l) H'
/-- the tag of a shown tree, and its level -/
theorem shown_tag {t : Tr} {x : Str} {l : Int} (h : Shown t x l) : ∃ tag lits subs, t = .mk tag lits subs ∧ ((tag ∈ [txt "neg", txt "not"] ∧ l = 6) ∨ (tag ∉ [txt "neg", txt "not"] ∧ (valV [(txt "or", V.int 1), (txt "and", .int 2), (txt "eq", .int 3), (txt "ne", .int 3), (txt "lt", .int 3), (txt "le", .int 3), (txt "add", .int 4), (txt "sub", .int 4), (txt "mul", .int 5), (txt "div", .int 5), (txt "mod", .int 5)] tag).getD (.int 7) = .int l)) := by
  have hb : ∀ r ∈ binTab, r.1 ∉ [txt "neg", txt "not"] ∧ (valV [(txt "or", V.int 1), (txt "and", .int 2), (txt "eq", .int 3), (txt "ne", .int 3), (txt "lt", .int 3), (txt "le", .int 3), (txt "add", .int 4), (txt "sub", .int 4), (txt "mul", .int 5), (txt "div", .int 5), (txt "mod", .int 5)] r.1).getD (.int 7) = .int r.2.1 := by decide +kernel
  cases h with
  | num n h => exact ⟨_, _, _, rfl, .inr ⟨by decide +kernel, by decide +kernel⟩⟩
  | var x h => exact ⟨_, _, _, rfl, .inr ⟨by decide +kernel, by decide +kernel⟩⟩
  | tru => exact ⟨_, _, _, rfl, .inr ⟨by decide +kernel, by decide +kernel⟩⟩
  | fls => exact ⟨_, _, _, rfl, .inr ⟨by decide +kernel, by decide +kernel⟩⟩
  | neg h => exact ⟨_, _, _, rfl, .inl ⟨by decide +kernel, rfl⟩⟩
  | not h => exact ⟨_, _, _, rfl, .inl ⟨by decide +kernel, rfl⟩⟩
  | bin tag lv sg hr h k => exact ⟨_, _, _, rfl, .inr (hb _ hr)⟩
  | mm tag hr h k =>
    refine ⟨_, _, _, rfl, .inr ?_⟩
    rcases hr with e | e <;> rw [e] <;> exact ⟨by decide +kernel, by decide +kernel⟩
  | cond h k j => exact ⟨_, _, _, rfl, .inr ⟨by decide +kernel, by decide +kernel⟩⟩
  | item x h k => exact ⟨_, _, _, rfl, .inr ⟨by decide +kernel, by decide +kernel⟩⟩
theorem tree_tag {H : Hp} {tag : Str} {lits : List V} {subs : List Tr} {a : Addr} (h : TreeAt H (.mk tag lits subs) a) : ∃ xs, H a = some (.tup (.str tag :: xs)) := by
  rw [TreeAt] at h
  obtain ⟨as, h1, _⟩ := h
  exact ⟨_, h1⟩
theorem ok_level (T : Txt K mg A) (Dd : Dic K mg w.params) : FnOk P w K mg base CX0 1 A.a_level_of A.d_level_of ["tree"] spLevel := by
  obtain ⟨zL, eL, dL⟩ := Dd.d_LEVEL_OF
  obtain ⟨uA, eA, rA⟩ := T.m_ATOM_LEVEL
  obtain ⟨uP, eP, rP⟩ := T.m_PREFIX_LEVEL
  refine T.t_level_of.F.ok sc_level_of (fun vs H Q E h => ?_) (fun cdv AA outer s H vs Q E hr h => ?_)
  · obtain ⟨a, t, x, l, rfl, _⟩ := h
    rfl
  · obtain ⟨a, t, x, l, rfl, ht, hs, k⟩ := h
    obtain ⟨tag, lits, subs, rfl, hl⟩ := shown_tag hs
    obtain ⟨xs, ha⟩ := tree_tag ht
    refine ⟨_, (pss_cons (ps_if (pt_cmpR op_in_seq (pe_ix ix_tup (pv 0) pe_int (fun _ _ => rfl)) (pe_tup (pa_cons pe_str (pa_cons pe_str pa_nil))) (by rfl)) (pss_one (ps_ret (pe_glob rfl eP rP))) pss_nil)
      (pss_one (ps_ret (pe_kget2 dL (pe_glob (v := .ref zL) rfl eL rfl) (pe_ix ix_tup (pv 0) pe_int (fun _ _ => rfl)) (pe_glob rfl eA rA) ⟨rfl, rfl, rfl, rfl⟩)))), ?_⟩
    refine ⟨_, rfl, a, _, 0, _, rfl, rfl, SqT.of ha, atI_nat (j := 0) rfl, (by show 2 ≤ sizeLine; decide), fun c nc => ?_⟩
    have sc := same_upd (o := .tup [.str (txt "neg"), .str (txt "not")]) nc
    have e1 : inV (.str tag) [.str (txt "neg"), .str (txt "not")] = decide (tag ∈ [txt "neg", txt "not"]) := in_strs tag [txt "neg", txt "not"]
    refine ⟨c, _, rfl, .inr (SqT.of upd_same), rfl, rfl, _, rfl, ite2 (fun h1 => ?_) (fun h1 => ?_)⟩
    · have h1 := of_decide_eq_true (e1.symm.trans h1)
      rcases hl with ⟨_, e⟩ | ⟨h2, _⟩
      · rw [e] at k
        exact k _ sc
      · exact absurd h1 h2
    · have h1 : ¬ tag ∈ [txt "neg", txt "not"] := fun z => h1 (e1.trans (decide_eq_true z))
      rcases hl with ⟨h2, _⟩ | ⟨_, e⟩
      · exact absurd h2 h1
      · refine ⟨rfl, _, rfl, a, _, 0, _, rfl, rfl, SqT.of (sc _ _ ha), atI_nat (j := 0) rfl, tag, rfl, ?_⟩
        rw [e]
        exact k _ sc
def spShow (n : Nat) : Sp := fun vs H Q _ => ∃ (a : Addr) (t : Tr) (x : Str) (l : Int), vs = [.ref a] ∧ TreeAt H t a ∧ Shown t x l ∧ ht t ≤ n ∧ size t ≤ 1000 ∧ ∀ H', Same H H' → Q (.str x) H'
def spOperand (n : Nat) : Sp := fun vs H Q _ => ∃ (a : Addr) (t : Tr) (x : Str) (l least : Int), vs = [.ref a, .int least] ∧ TreeAt H t a ∧ Shown t x l ∧ ht t ≤ n ∧ size t ≤ 1000 ∧ ∀ H', Same H H' → Q (.str (brk least l x)) H'
theorem small_txt {t : Tr} {x : Str} {l : Int} (h : Shown t x l) (hz : size t ≤ 1000) : x.length ≤ 100000 := by
  have := shown_len h
  omega
theorem ok_operand (T : Txt K mg A) (Dd : Dic K mg w.params) {n L : Nat} (F : FnOk P w K mg base CX0 (L + 1) A.a_show_expression A.d_show_expression ["tree"] (spShow n)) : FnOk P w K mg base CX0 (L + 2) A.a_show_operand A.d_show_operand ["tree", "least"] (spOperand n) := by
  have G_show_expression := F
  have G_level_of : FnOk P w K mg base CX0 1 A.a_level_of A.d_level_of ["tree"] spLevel := ok_level T Dd
  refine T.t_show_operand.F.ok sc_show_operand (fun vs H Q E h => ?_) (fun cdv AA outer s H vs Q E hr h => ?_)
  · obtain ⟨a, t, x, l, least, rfl, _⟩ := h
    rfl
  · obtain ⟨a, t, x, l, least, rfl, hta, hs, hh, hz, k⟩ := h
    refine ⟨_, (pss_cons (ps_set (i := 2) sc_show_operand.nd rfl (Or.inl rfl) (pe_call G_show_expression (hr.mono (by omega)) rfl T.t_show_expression.g T.t_show_expression.F.kp T.t_show_expression.b .nil pass0 (pa_cons (pv 0) pa_nil)))
      (pss_cons (ps_if (pt_cmpR op_lt (pe_call G_level_of (hr.mono (by omega)) rfl T.t_level_of.g T.t_level_of.F.kp T.t_level_of.b .nil pass0 (pa_cons (pv 0) pa_nil)) (pv 1) (nomark _)) (pss_one (ps_ret (pe_op op_add_str (pe_op op_add_str pe_str (pv 2)) pe_str))) pss_nil)
      (pss_one (ps_ret (pv 2))))), ?_⟩
    refine ⟨_, rfl, a, t, x, l, rfl, hta, hs, hh, hz, fun H1 s1 => ?_⟩
    refine ⟨_, rfl, a, t, x, l, rfl, hta.same s1, hs, fun H2 s2 => ⟨_, rfl, _, _, rfl, rfl, _, rfl, ite2 (fun h1 => ?_) (fun h1 => ?_)⟩⟩
    · have h1 : l < least := of_decide_eq_true h1
      have k2 := k _ (s1.trans s2)
      have hx := small_txt hs hz
      have e1 : (txt "(").length = 1 := by decide +kernel
      have e2 : (txt ")").length = 1 := by decide +kernel
      have e : brk least l x = txt "(" ++ x ++ txt ")" := by
        unfold brk
        rw [if_pos h1, app_assoc]
      rw [e] at k2
      refine ⟨_, rfl, _, _, rfl, rfl, ?_, _, _, rfl, rfl, ?_, k2⟩
      · show (txt "(").length + x.length ≤ sizeLine
        rw [e1, sizeLine_eq]
        omega
      · show (txt "(" ++ x).length + (txt ")").length ≤ sizeLine
        rw [app_len, e1, e2, sizeLine_eq]
        omega
    · have h1 : ¬ l < least := fun z => h1 (decide_eq_true z)
      have k2 := k _ (s1.trans s2)
      have e : brk least l x = x := if_neg h1
      rw [e] at k2
      exact ⟨_, rfl, k2⟩
/-- the dict of the signs -/
abbrev kvSign : List (Str × V) := [(txt "or", .str (txt "or")), (txt "and", .str (txt "and")), (txt "eq", .str (txt "=")), (txt "ne", .str (txt "!=")), (txt "lt", .str (txt "<")), (txt "le", .str (txt "<=")), (txt "add", .str (txt "+")), (txt "sub", .str (txt "-")), (txt "mul", .str (txt "*")), (txt "div", .str (txt "div")), (txt "mod", .str (txt "mod"))]
abbrev kvLevel : List (Str × V) := [(txt "or", V.int 1), (txt "and", .int 2), (txt "eq", .int 3), (txt "ne", .int 3), (txt "lt", .int 3), (txt "le", .int 3), (txt "add", .int 4), (txt "sub", .int 4), (txt "mul", .int 5), (txt "div", .int 5), (txt "mod", .int 5)]
theorem tab_sign : ∀ r ∈ binTab, valV kvSign r.1 = some (.str r.2.2) ∧ valV kvLevel r.1 = some (.int r.2.1) := by decide +kernel
def spOperation (n : Nat) : Sp := fun vs H Q _ => ∃ (a b c : Addr) (tag sg : Str) (lv : Int) (t u : Tr) (x y : Str) (l m : Int), vs = [.ref a] ∧ H a = some (.tup [.str tag, .ref b, .ref c]) ∧ (tag, lv, sg) ∈ binTab ∧ TreeAt H t b ∧ TreeAt H u c ∧ Shown t x l ∧ Shown u y m ∧ ht t ≤ n ∧ ht u ≤ n ∧ size t ≤ 1000 ∧ size u ≤ 1000 ∧ ∀ H', Same H H' → Q (.str (binText lv sg l x m y)) H'
theorem ok_operation (T : Txt K mg A) (Dd : Dic K mg w.params) {n L : Nat} (F : FnOk P w K mg base CX0 (L + 1) A.a_show_expression A.d_show_expression ["tree"] (spShow n)) : FnOk P w K mg base CX0 (L + 3) A.a_show_operation A.d_show_operation ["tree"] (spOperation n) := by
  have G_show_operand : FnOk P w K mg base CX0 (L + 2) A.a_show_operand A.d_show_operand ["tree", "least"] (spOperand n) := ok_operand T Dd F
  obtain ⟨zL, eL, dL⟩ := Dd.d_LEVEL_OF
  obtain ⟨zS, eS, dS⟩ := Dd.d_SIGN_OF
  obtain ⟨uC, eC, rC⟩ := T.m_COMPARISON_LEVEL
  refine T.t_show_operation.F.ok sc_show_operation (fun vs H Q E h => ?_) (fun cdv AA outer s H vs Q E hr h => ?_)
  · obtain ⟨a, b, c, tag, sg, lv, t, u, x, y, l, m, rfl, _⟩ := h
    rfl
  · obtain ⟨a, b, c, tag, sg, lv, t, u, x, y, l, m, rfl, ha, hr2, hb, hc, hs, hu, h1, h2, h3, h4, k⟩ := h
    unfold binText at k
    obtain ⟨es, el⟩ := tab_sign _ hr2
    refine ⟨_, (pss_cons (ps_asg (pv 0) (pg_tup rfl (pgs_cons (pg_name (i := 1) sc_show_operation.nd rfl (Or.inl rfl)) (pgs_cons (pg_name (i := 2) sc_show_operation.nd rfl (Or.inl rfl)) (pgs_cons (pg_name (i := 3) sc_show_operation.nd rfl (Or.inl rfl)) pgs_nil)))))
      (pss_cons (ps_set (i := 4) sc_show_operation.nd rfl (Or.inl rfl) (pe_ix (ix_kdT dL) (pe_glob (v := .ref zL) rfl eL rfl) (pv 1) (fun _ _ => rfl)))
      (pss_cons (ps_set (i := 5) sc_show_operation.nd rfl (Or.inl rfl) (pe_ifExp (pt_cmpR op_eq (pv 4) (pe_glob rfl eC rC) (nomark _)) (pe_op op_add (pv 4) pe_int) (pv 4)))
      (pss_one (ps_ret (pe_op op_add_str (pe_op op_add_str (pe_call G_show_operand (hr.mono (by omega)) rfl T.t_show_operand.g T.t_show_operand.F.kp T.t_show_operand.b .nil pass0 (pa_cons (pv 2) (pa_cons (pv 5) pa_nil))) (pe_joined (.cons pe_str (.cons (pe_fmt (pe_ix (ix_kdT dS) (pe_glob (v := .ref zS) rfl eS rfl) (pv 1) (fun _ _ => rfl))) (.cons pe_str .nil))))) (pe_call G_show_operand (hr.mono (by omega)) rfl T.t_show_operand.g T.t_show_operand.F.kp T.t_show_operand.b .nil pass0 (pa_cons (pv 3) (pa_cons (pe_op op_add (pv 4) pe_int) pa_nil))))))))), ?_⟩
    have hx := small_txt hs h3
    have hy := small_txt hu h4
    have hsg : sg.length ≤ 3 := tab_len _ hr2
    have n3 : (Str.ofString " ").length = 1 := by decide +kernel
    have n0 : Str.empty.length = 0 := rfl
    have b1 := brk_len (if lv = 3 then lv + 1 else lv) l x
    have b2 := brk_len (lv + 1) m y
    refine ⟨_, rfl, a, _, rfl, SqT.of ha, rfl, _, _, rfl, _, _, rfl, _, _, rfl, rfl, ?_⟩
    refine ⟨_, rfl, tag, .int lv, rfl, rfl, el, ?_⟩
    dsimp only [gName]
    refine seq_then (fun σ' H' => H' = H ∧ σ' = [some (.ref a), some (.str tag), some (.ref b), some (.ref c), some (.int lv), some (.int (if lv = 3 then lv + 1 else lv))]) ?_ (fun N hN => ?_)
    · rintro σ' H' ⟨rfl, rfl⟩
      refine ⟨_, rfl, _, rfl, b, t, x, l, _, rfl, hb, hs, h1, h3, fun H1 s1 => ?_⟩
      generalize brk (if lv = 3 then lv + 1 else lv) l x = bx at k b1 ⊢
      refine ⟨_, rfl, (by simp only [app_len, n0, n3, sizeLine_eq]; omega), _, rfl, tag, .str sg, rfl, rfl, es, .inl ⟨sg, rfl, (by rw [sizeLine_eq]; omega), _, rfl, (by simp only [app_len, n0, n3, sizeLine_eq]; omega), _, rfl, (by simp only [app_len, n0, n3, sizeLine_eq]; omega), _, _, rfl, rfl, (by simp only [app_len, n0, n3, sizeLine_eq]; omega), ?_⟩⟩
      refine ⟨_, rfl, _, rfl, _, _, rfl, rfl, c, u, y, m, _, rfl, hc.same s1 _ _, hu, h2, h4, fun H2 s2 => ?_⟩
      generalize brk (lv + 1) m y = by' at k b2 ⊢
      refine ⟨_, _, rfl, rfl, (by simp only [app_len, n0, n3, sizeLine_eq]; omega), ?_⟩
      have k2 := k _ (s1.trans s2)
      simp only [app_assoc, empty_app]
      exact k2
    · refine ⟨_, rfl, rfl, _, rfl, ite2 (fun h9 => ?_) (fun h9 => ?_)⟩
      · have h9 : lv = 3 := V.int.inj (of_decide_eq_true h9)
        refine ⟨_, rfl, _, _, rfl, rfl, ?_⟩
        refine hN _ _ ⟨rfl, ?_⟩
        rw [if_pos h9]
        rfl
      · have h9 : ¬ lv = 3 := fun z => h9 (decide_eq_true (by rw [z]))
        refine ⟨_, rfl, ?_⟩
        refine hN _ _ ⟨rfl, ?_⟩
        rw [if_neg h9]
        rfl
def spList (n : Nat) : Sp := fun vs H Q _ => ∃ (p b c : Addr) (t u : Tr) (x y : Str) (l m : Int), vs = [.ref p] ∧ H p = some (.tup [.ref b, .ref c]) ∧ TreeAt H t b ∧ TreeAt H u c ∧ Shown t x l ∧ Shown u y m ∧ ht t ≤ n ∧ ht u ≤ n ∧ size t ≤ 1000 ∧ size u ≤ 1000 ∧ ∀ H', Same H H' → Q (.str (x ++ (txt ", " ++ y))) H'
theorem ok_list (T : Txt K mg A) {n L : Nat} (F : FnOk P w K mg base CX0 (L + 1) A.a_show_expression A.d_show_expression ["tree"] (spShow n)) : FnOk P w K mg base CX0 (L + 2) A.a_show_list A.d_show_list ["trees"] (spList n) := by
  have G_show_expression := F
  refine T.t_show_list.F.ok sc_show_list (fun vs H Q E h => ?_) (fun cdv AA outer s H vs Q E hr h => ?_)
  · obtain ⟨p, b, c, t, u, x, y, l, m, rfl, _⟩ := h
    rfl
  · obtain ⟨p, b, c, t, u, x, y, l, m, rfl, hp, hb, hc, hs, hu, h1, h2, h3, h4, k⟩ := h
    have hx := small_txt hs h3
    have hy := small_txt hu h4
    refine ⟨_, (pss_one (ps_ret (pe_join pe_str (pe_lc (own := [("tree", 1)]) (g := gName 1) (tt := tYes) (by rfl) sc_show_list.nd (pi_tup (pv 0)) (blkOk_by (own := [("tree", 1)]) (N := ["trees", "tree"]) (sc := defScope s_show_list) (by decide +kernel)) (fun _ _ _ _ _ => pg_name (i := 1) sc_show_list.nd rfl (Or.inl rfl)) (fun _ _ _ _ _ => pts_nil) (fun _ _ _ _ _ => (pe_call G_show_expression (hr.mono (by omega)) rfl T.t_show_expression.g T.t_show_expression.F.kp T.t_show_expression.b .nil pass0 (pa_cons (pv 1) pa_nil))))))), ?_⟩
    refine ⟨⟨_, rfl⟩, _, rfl, p, rfl, ⟨_, SqT.of hp⟩, fun D nD => ?_⟩
    have sD := same_upd (o := .lst []) nD
    have sep : ∀ {H2 H3 : Hp} {o : HO}, Same H H2 → Same H2 H3 → Same H (upd H3 D o) := fun s2 s3 c' o' e => by
      have hne : c' ≠ D := ne_of_none e nD
      rw [upd_ne hne]
      exact s3 _ _ (s2 _ _ e)
    refine lc_tup (K := K) (a := p) (xs := [.ref b, .ref c]) (fun i H2 => Same H H2 ∧ H2 D = some (.lst ([V.str x, V.str y].take i))) ⟨sD, upd_same⟩
      (fun i H2 _ ⟨s2, _⟩ => SqT.of (s2 _ _ hp)) ?_ ?_
    · rintro i z H2 hi ⟨s2, hD⟩
      have hex : ∃ (q : Addr) (t' : Tr) (x' : Str) (l' : Int), z = .ref q ∧ TreeAt H t' q ∧ Shown t' x' l' ∧ ht t' ≤ n ∧ size t' ≤ 1000 ∧ i < 2 ∧ [V.str x, V.str y].take (i + 1) = [V.str x, V.str y].take i ++ [V.str x'] := by
        match i, hi with
        | 0, hi => exact ⟨b, t, x, l, (Option.some.inj hi).symm, hb, hs, h1, h3, by decide, rfl⟩
        | 1, hi => exact ⟨c, u, y, m, (Option.some.inj hi).symm, hc, hu, h2, h4, by decide, rfl⟩
      obtain ⟨q, t', x', l', rfl, hq, hs', hh, hz, hi2, htk⟩ := hex
      refine ⟨rfl, ?_⟩
      refine ⟨_, rfl, q, t', x', l', rfl, hq.same s2 _ _, hs', hh, hz, fun H5 s5 => ?_⟩
      refine ⟨_, s5 _ _ hD, ?_, sep s2 s5, ?_⟩
      · rw [List.length_take, sizeLine_eq]
        omega
      · rw [upd_same, htk]
    · rintro H2 ⟨s2, hD⟩
      have n6 : (Str.ofString ", ").length = 2 := by decide +kernel
      refine ⟨_, D, [x, y], rfl, rfl, .inl (SqL.of hD), ?_, ?_⟩
      · show x.length + (y.length + 0) + 2 * (Str.ofString ", ").length ≤ 16777216
        rw [n6]
        omega
      · have e : Txt.join (Str.ofString ", ") [x, y] = x ++ (txt ", " ++ y) := by
          have e1 : Txt.join (txt ", ") [x, y] = SX.S (x.cps.toList ++ ((txt ", ").cps.toList ++ y.cps.toList)) := SX.join_S (txt ", ").cps.toList [x.cps.toList, y.cps.toList]
          rw [e1, ← SX.S_cat, ← SX.S_cat]
        rw [e]
        exact k _ s2
theorem log_small {n : Nat} (h : n < 10 ^ 18) : ((n : Nat) : Int).natAbs.log2 < 1920 := by
  rw [Int.natAbs_natCast]
  by_cases e : n = 0
  · subst e; decide
  · exact (Nat.log2_lt e).mpr (Nat.lt_trans h (Nat.lt_of_lt_of_le (by decide +kernel : 10 ^ 18 < 2 ^ 64) (Nat.pow_le_pow_right (by decide) (by decide))))
def spAtom (n : Nat) : Sp := fun vs H Q _ => ∃ (a : Addr) (t : Tr) (x : Str) (l : Int), vs = [.ref a] ∧ TreeAt H t a ∧ Shown t x l ∧ l = 7 ∧ ht t ≤ n + 1 ∧ size t ≤ 1000 ∧ ∀ H', Same H H' → Q (.str x) H'
theorem tab_seven : ∀ r ∈ binTab, r.2.1 ≠ 7 := by decide +kernel
theorem ok_cell0 (T : Txt K mg A) : FnOk P w K mg base CX0 1 A.a_show_cell A.d_show_cell ["cell"] (fun _ _ _ _ => False) :=
  T.t_show_cell.F.ok sc_show_cell (fun vs H Q E h => h.elim) (fun cdv AA outer s H vs Q E hr h => h.elim)
theorem ok_cells0 (T : Txt K mg A) : FnOk P w K mg base CX0 2 A.a_show_cells A.d_show_cells ["base", "size"] (fun _ _ _ _ => False) :=
  T.t_show_cells.F.ok sc_show_cells (fun vs H Q E h => h.elim) (fun cdv AA outer s H vs Q E hr h => h.elim)
theorem ok_atom (T : Txt K mg A) {n L : Nat} (F : FnOk P w K mg base CX0 (L + 1) A.a_show_expression A.d_show_expression ["tree"] (spShow n)) : FnOk P w K mg base CX0 (L + 3) A.a_show_atom A.d_show_atom ["tree"] (spAtom n) := by
  have G_show_expression := F
  have G_show_list : FnOk P w K mg base CX0 (L + 2) A.a_show_list A.d_show_list ["trees"] (spList n) := ok_list T F
  have G_show_cell : FnOk P w K mg base CX0 1 A.a_show_cell A.d_show_cell ["cell"] (fun _ _ _ _ => False) := ok_cell0 T
  have G_show_cells : FnOk P w K mg base CX0 2 A.a_show_cells A.d_show_cells ["base", "size"] (fun _ _ _ _ => False) := ok_cells0 T
  refine T.t_show_atom.F.ok sc_show_atom (fun vs H Q E h => ?_) (fun cdv AA outer s H vs Q E hr h => ?_)
  · obtain ⟨a, t, x, l, rfl, _⟩ := h
    rfl
  · obtain ⟨a, t, x, l, rfl, hta, hs, h7, hh, hz, k⟩ := h
    obtain ⟨tag, lits, subs, rfl, _⟩ := shown_tag hs
    obtain ⟨xs, hax⟩ := tree_tag hta
    refine ⟨_, (pss_cons (ps_set (i := 1) sc_show_atom.nd rfl (Or.inl rfl) (pe_ix ix_tup (pv 0) pe_int (fun _ _ => rfl)))
      (pss_cons (ps_if (pt_cmpR op_in_seq (pv 1) (pe_tup (pa_cons pe_str (pa_cons pe_str pa_nil))) (by rfl)) (pss_one (ps_ret (pe_callTy call_str_any (by rfl) T.z_str PyProof.Rows.boot_str (pa_cons (pe_ix ix_tup (pv 0) pe_int (fun _ _ => rfl)) pa_nil)))) pss_nil)
      (pss_cons (ps_if (pt_cmpR op_in_seq (pv 1) (pe_tup (pa_cons pe_str (pa_cons pe_str pa_nil))) (by rfl)) (pss_one (ps_ret (pv 1))) pss_nil)
      (pss_cons (ps_if (pt_cmpR op_eq (pv 1) pe_str (nomark _)) (pss_one (ps_ret (pe_call G_show_cell (hr.mono (by omega)) rfl T.t_show_cell.g T.t_show_cell.F.kp T.t_show_cell.b .nil pass0 (pa_cons (pe_ix ix_tup (pv 0) pe_int (fun _ _ => rfl)) pa_nil)))) pss_nil)
      (pss_cons (ps_if (pt_cmpR op_eq (pv 1) pe_str (nomark _)) (pss_one (ps_ret (pe_op op_add_str (pe_op op_add_str (pe_op op_add_str (pe_ix ix_tup (pv 0) pe_int (fun _ _ => rfl)) pe_str) (pe_call G_show_expression (hr.mono (by omega)) rfl T.t_show_expression.g T.t_show_expression.F.kp T.t_show_expression.b .nil pass0 (pa_cons (pe_ix ix_tup (pv 0) pe_int (fun _ _ => rfl)) pa_nil))) pe_str))) pss_nil)
      (pss_cons (ps_if (pt_cmpR op_eq (pv 1) pe_str (nomark _)) (pss_one (ps_ret (pe_op op_add_str (pe_op op_add_str (pe_op op_add_str (pe_call G_show_cells (hr.mono (by omega)) rfl T.t_show_cells.g T.t_show_cells.F.kp T.t_show_cells.b .nil pass0 (pa_cons (pe_ix ix_tup (pv 0) pe_int (fun _ _ => rfl)) (pa_cons (pe_ix ix_tup (pv 0) pe_int (fun _ _ => rfl)) pa_nil))) pe_str) (pe_call G_show_expression (hr.mono (by omega)) rfl T.t_show_expression.g T.t_show_expression.F.kp T.t_show_expression.b .nil pass0 (pa_cons (pe_ix ix_tup (pv 0) pe_int (fun _ _ => rfl)) pa_nil))) pe_str))) pss_nil)
      (pss_cons (ps_if (pt_cmpR op_eq (pv 1) pe_str (nomark _)) (pss_cons (ps_asg (pe_lc (own := [("part", 5)]) (g := gName 5) (tt := tYes) (by rfl) sc_show_atom.nd (pi_tup (pe_slice sl_tup (pv 0) (po_some pe_int) po_none)) (blkOk_by (own := [("part", 5)]) (N := ["tree", "tag", "condition", "first", "second", "part"]) (sc := defScope s_show_atom) (by decide +kernel)) (fun _ _ _ _ _ => pg_name (i := 5) sc_show_atom.nd rfl (Or.inl rfl)) (fun _ _ _ _ _ => pts_nil) (fun _ _ _ _ _ => (pe_call G_show_expression (hr.mono (by omega)) rfl T.t_show_expression.g T.t_show_expression.F.kp T.t_show_expression.b .nil pass0 (pa_cons (pv 5) pa_nil)))) (pg_lst rfl (pgs_cons (pg_name (i := 2) sc_show_atom.nd rfl (Or.inl rfl)) (pgs_cons (pg_name (i := 3) sc_show_atom.nd rfl (Or.inl rfl)) (pgs_cons (pg_name (i := 4) sc_show_atom.nd rfl (Or.inl rfl)) pgs_nil)))))
      (pss_one (ps_ret (pe_joined (.cons pe_str (.cons (pe_fmt (pv 2)) (.cons pe_str (.cons (pe_fmt (pv 3)) (.cons pe_str (.cons (pe_fmt (pv 4)) (.cons pe_str .nil))))))))))) pss_nil)
      (pss_one (ps_ret (pe_op op_add_str (pe_op op_add_str (pe_op op_add_str (pv 1) pe_str) (pe_call G_show_list (hr.mono (by omega)) rfl T.t_show_list.g T.t_show_list.F.kp T.t_show_list.b .nil pass0 (pa_cons (pe_slice sl_tup (pv 0) (po_some pe_int) po_none) pa_nil))) pe_str)))))))))), ?_⟩
    refine ⟨_, rfl, a, _, 0, _, rfl, rfl, SqT.of hax, atI_nat (j := 0) rfl, ?_⟩
    refine ⟨_, rfl, (by show 2 ≤ sizeLine; decide), fun c1 nc1 => ?_⟩
    have s1 := same_upd (o := .tup [.str (txt "num"), .str (txt "var")]) nc1
    refine ⟨c1, _, rfl, .inr (SqT.of upd_same), rfl, rfl, _, rfl, ?_⟩
    have ht1 := hta.same s1 _ _
    generalize upd H c1 (.tup [.str (txt "num"), .str (txt "var")]) = H1 at s1 ht1 ⊢
    have hz' := hz
    have hh' := hh
    -- the second test
    cases hs with
    | num n h =>
      refine ite2 (fun _ => ?_) (fun z => absurd (by decide +kernel) z)
      refine ⟨_, rfl, a, _, 1, _, rfl, rfl, SqT.of (at0 ht1), rfl, .inl ⟨_, rfl, log_small h, ?_⟩⟩
      have k2 := k _ s1
      rw [← num_S] at k2
      exact k2
    | var x h =>
      refine ite2 (fun _ => ?_) (fun z => absurd (by decide +kernel) z)
      exact ⟨_, rfl, a, _, 1, _, rfl, rfl, SqT.of (at0 ht1), rfl, .inr ⟨_, rfl, k _ s1⟩⟩
    | neg h => exact absurd h7 (by decide)
    | not h => exact absurd h7 (by decide)
    | bin tag lv sg hr2 h k2 => exact absurd h7 (tab_seven _ hr2)
    | tru =>
      refine ite2 (fun z => absurd z (by decide +kernel)) (fun _ => ?_)
      refine ⟨_, rfl, (by show 2 ≤ sizeLine; decide), fun c2 nc2 => ?_⟩
      have s2 := same_upd (o := .tup [.str (txt "true"), .str (txt "false")]) nc2
      refine ⟨c2, _, rfl, .inr (SqT.of upd_same), rfl, rfl, _, rfl, ite2 (fun _ => ?_) (fun z => absurd (by decide +kernel) z)⟩
      exact ⟨_, rfl, k _ (s1.trans s2)⟩
    | fls =>
      refine ite2 (fun z => absurd z (by decide +kernel)) (fun _ => ?_)
      refine ⟨_, rfl, (by show 2 ≤ sizeLine; decide), fun c2 nc2 => ?_⟩
      have s2 := same_upd (o := .tup [.str (txt "true"), .str (txt "false")]) nc2
      refine ⟨c2, _, rfl, .inr (SqT.of upd_same), rfl, rfl, _, rfl, ite2 (fun _ => ?_) (fun z => absurd (by decide +kernel) z)⟩
      exact ⟨_, rfl, k _ (s1.trans s2)⟩
    | @item x h t y l hs2 =>
      refine ite2 (fun z => absurd z (by decide +kernel)) (fun _ => ?_)
      refine ⟨_, rfl, (by show 2 ≤ sizeLine; decide), fun c2 nc2 => ?_⟩
      have s2 := same_upd (o := .tup [.str (txt "true"), .str (txt "false")]) nc2
      refine ⟨c2, _, rfl, .inr (SqT.of upd_same), rfl, rfl, _, rfl, ite2 (fun z => absurd z (by decide +kernel)) (fun _ => ?_)⟩
      have ht2 := ht1.same s2 _ _
      generalize upd H1 c2 (.tup [.str (txt "true"), .str (txt "false")]) = H2 at s2 ht2 ⊢
      obtain ⟨b, ha, hb⟩ := at1 ht2
      rw [size1'] at hz'
      rw [ht1'] at hh'
      have hy := small_txt hs2 (by omega)
      have n10 : (Str.ofString "[").length = 1 := by decide +kernel
      have n11 : (Str.ofString "]").length = 1 := by decide +kernel
      refine ⟨_, rfl, rfl, _, rfl, ite2 (fun z => absurd z (by decide +kernel)) (fun _ => ?_)⟩
      refine ⟨_, rfl, rfl, _, rfl, ite2 (fun _ => ?_) (fun z => absurd (by decide +kernel) z)⟩
      refine ⟨_, rfl, a, _, 1, _, rfl, rfl, SqT.of ha, rfl, _, _, rfl, rfl, (by rw [sizeLine_eq, n10]; omega), _, rfl, a, _, 2, _, rfl, rfl, SqT.of ha, rfl, b, t, y, l, rfl, hb, hs2, by omega, by omega, fun H3 s3 => ?_⟩
      refine ⟨_, _, rfl, rfl, (by simp only [app_len, n10, sizeLine_eq]; omega), _, _, rfl, rfl, (by simp only [app_len, n10, n11, sizeLine_eq]; omega), ?_⟩
      have k2 := k _ ((s1.trans s2).trans s3)
      simp only [app_assoc]
      exact k2
    | @mm tag hr2 t u x y l m h h2 =>
      have q : (inV (.str tag) [.str (txt "num"), .str (txt "var")] = false) ∧ (inV (.str tag) [.str (txt "true"), .str (txt "false")] = false) ∧ tag ≠ txt "item" ∧ tag ≠ txt "cond" ∧ tag.length = 3 ∧ tag ≠ txt "cell" ∧ tag ≠ txt "at" := by
        rcases hr2 with e | e <;> rw [e] <;> decide +kernel
      obtain ⟨q1, q2, q3, q4, q5, q6, q7⟩ := q
      refine ite2 (fun z => absurd (q1.symm.trans z) (by decide)) (fun _ => ?_)
      refine ⟨_, rfl, (by show 2 ≤ sizeLine; decide), fun c2 nc2 => ?_⟩
      have s2 := same_upd (o := .tup [.str (txt "true"), .str (txt "false")]) nc2
      refine ⟨c2, _, rfl, .inr (SqT.of upd_same), rfl, rfl, _, rfl, ite2 (fun z => absurd (q2.symm.trans z) (by decide)) (fun _ => ?_)⟩
      have ht2 := ht1.same s2 _ _
      generalize upd H1 c2 (.tup [.str (txt "true"), .str (txt "false")]) = H2 at s2 ht2 ⊢
      obtain ⟨b, c, ha, hb, hc⟩ := at2 ht2
      rw [size2'] at hz'
      rw [ht2'] at hh'
      have hx := small_txt h (by omega)
      have hy := small_txt h2 (by omega)
      have n4 : (Str.ofString "(").length = 1 := by decide +kernel
      have n5 : (Str.ofString ")").length = 1 := by decide +kernel
      have n6 : (Str.ofString ", ").length = 2 := by decide +kernel
      refine ⟨_, rfl, rfl, _, rfl, ite2 (fun z => absurd (V.str.inj (of_decide_eq_true z)) q6) (fun _ => ?_)⟩
      refine ⟨_, rfl, rfl, _, rfl, ite2 (fun z => absurd (V.str.inj (of_decide_eq_true z)) q3) (fun _ => ?_)⟩
      refine ⟨_, rfl, rfl, _, rfl, ite2 (fun z => absurd (V.str.inj (of_decide_eq_true z)) q7) (fun _ => ?_)⟩
      refine ⟨_, rfl, rfl, _, rfl, ite2 (fun z => absurd (V.str.inj (of_decide_eq_true z)) q4) (fun _ => ?_)⟩
      refine ⟨_, rfl, _, _, rfl, rfl, (by rw [sizeLine_eq, q5, n4]; omega), ?_⟩
      refine ⟨_, rfl, 1, rfl, a, _, rfl, SqT.of ha, ?_, fun c3 nc3 => ?_⟩
      · rintro ⟨h1, _⟩
        have e : HT.sIx (V.str tag :: ([] ++ [V.ref b, V.ref c])).length 0 (some 1) = min 1 (V.str tag :: ([] ++ [V.ref b, V.ref c])).length := HT.sIx_nat _ 0 1
        rw [e] at h1
        exact absurd (show (1 : Nat) = 0 from h1) (by decide)
      rw [cut1]
      have s3 := same_upd (o := .tup ([] ++ [V.ref b, V.ref c])) nc3
      refine ⟨c3, b, c, t, u, x, y, l, m, rfl, upd_same, hb.same s3 _ _, hc.same s3 _ _, h, h2, by omega, by omega, by omega, by omega, fun H4 s4 => ?_⟩
      refine ⟨_, _, rfl, rfl, (by simp only [app_len, n4, n6, q5, sizeLine_eq]; omega), _, _, rfl, rfl, (by simp only [app_len, n4, n5, n6, q5, sizeLine_eq]; omega), ?_⟩
      have k2 := k _ (((s1.trans s2).trans s3).trans s4)
      simp only [app_assoc]
      exact k2
    | @cond t u v x y z l m n' h h2 h3 =>
      refine ite2 (fun z => absurd z (by decide +kernel)) (fun _ => ?_)
      refine ⟨_, rfl, (by show 2 ≤ sizeLine; decide), fun c2 nc2 => ?_⟩
      have s2 := same_upd (o := .tup [.str (txt "true"), .str (txt "false")]) nc2
      refine ⟨c2, _, rfl, .inr (SqT.of upd_same), rfl, rfl, _, rfl, ite2 (fun z => absurd z (by decide +kernel)) (fun _ => ?_)⟩
      have ht2 := ht1.same s2 _ _
      generalize upd H1 c2 (.tup [.str (txt "true"), .str (txt "false")]) = H2 at s2 ht2 ⊢
      obtain ⟨b, c, d, ha, hb, hc, hd⟩ := at3 ht2
      rw [size3'] at hz'
      rw [ht3'] at hh'
      have hx := small_txt h (by omega)
      have hy := small_txt h2 (by omega)
      have hw := small_txt h3 (by omega)
      have n5 : (Str.ofString ")").length = 1 := by decide +kernel
      have n7 : (Str.ofString "(if ").length = 4 := by decide +kernel
      have n8 : (Str.ofString " then ").length = 6 := by decide +kernel
      have n9 : (Str.ofString " else ").length = 6 := by decide +kernel
      have n0 : Str.empty.length = 0 := rfl
      refine ⟨_, rfl, rfl, _, rfl, ite2 (fun z => absurd z (by decide +kernel)) (fun _ => ?_)⟩
      refine ⟨_, rfl, rfl, _, rfl, ite2 (fun z => absurd z (by decide +kernel)) (fun _ => ?_)⟩
      refine ⟨_, rfl, rfl, _, rfl, ite2 (fun z => absurd z (by decide +kernel)) (fun _ => ?_)⟩
      refine ⟨_, rfl, rfl, _, rfl, ite2 (fun _ => ?_) (fun z => absurd (by decide +kernel) z)⟩
      refine ⟨_, rfl, 1, rfl, a, _, rfl, SqT.of ha, ?_, fun c3 nc3 => ?_⟩
      · rintro ⟨h1, _⟩
        have e : HT.sIx (V.str (txt "cond") :: ([] ++ [V.ref b, V.ref c, V.ref d])).length 0 (some 1) = min 1 (V.str (txt "cond") :: ([] ++ [V.ref b, V.ref c, V.ref d])).length := HT.sIx_nat _ 0 1
        rw [e] at h1
        exact absurd (show (1 : Nat) = 0 from h1) (by decide)
      rw [cut1]
      have s3 := same_upd (o := .tup ([] ++ [V.ref b, V.ref c, V.ref d])) nc3
      have hc3 : (upd H2 c3 (.tup ([] ++ [V.ref b, V.ref c, V.ref d]))) c3 = some (.tup [V.ref b, V.ref c, V.ref d]) := upd_same
      have hb3 := hb.same s3 _ _
      have hcc3 := hc.same s3 _ _
      have hd3 := hd.same s3 _ _
      generalize upd H2 c3 (.tup ([] ++ [V.ref b, V.ref c, V.ref d])) = H3 at s3 hc3 hb3 hcc3 hd3 ⊢
      refine ⟨c3, rfl, ⟨_, SqT.of hc3⟩, fun D nD => ?_⟩
      have sD := same_upd (o := .lst []) nD
      have sep : ∀ {H4 H5 : Hp} {o : HO}, Same H3 H4 → Same H4 H5 → Same H3 (upd H5 D o) := fun s2 s3 c' o' e => by
        have hne : c' ≠ D := ne_of_none e nD
        rw [upd_ne hne]
        exact s3 _ _ (s2 _ _ e)
      refine lc_tup (K := K) (a := c3) (xs := [.ref b, .ref c, .ref d]) (fun i H4 => Same H3 H4 ∧ H4 D = some (.lst ([V.str x, V.str y, V.str z].take i))) ⟨sD, upd_same⟩
        (fun i H4 _ ⟨s4, _⟩ => SqT.of (s4 _ _ hc3)) ?_ ?_
      · rintro i zz H4 hi ⟨s4, hD⟩
        have hex : ∃ (q : Addr) (t' : Tr) (x' : Str) (l' : Int), zz = .ref q ∧ TreeAt H3 t' q ∧ Shown t' x' l' ∧ ht t' ≤ n ∧ size t' ≤ 1000 ∧ i < 3 ∧ [V.str x, V.str y, V.str z].take (i + 1) = [V.str x, V.str y, V.str z].take i ++ [V.str x'] := by
          match i, hi with
          | 0, hi => exact ⟨b, t, x, l, (Option.some.inj hi).symm, hb3, h, by omega, by omega, by decide, rfl⟩
          | 1, hi => exact ⟨c, u, y, m, (Option.some.inj hi).symm, hcc3, h2, by omega, by omega, by decide, rfl⟩
          | 2, hi => exact ⟨d, v, z, n', (Option.some.inj hi).symm, hd3, h3, by omega, by omega, by decide, rfl⟩
        obtain ⟨q, t', x', l', rfl, hq, hs', hh, hz, hi2, htk⟩ := hex
        refine ⟨rfl, ?_⟩
        refine ⟨_, rfl, q, t', x', l', rfl, hq.same s4 _ _, hs', hh, hz, fun H5 s5 => ?_⟩
        refine ⟨_, s5 _ _ hD, ?_, sep s4 s5, ?_⟩
        · rw [List.length_take, sizeLine_eq]
          omega
        · rw [upd_same, htk]
      · rintro H4 ⟨s4, hD⟩
        refine ⟨D, _, rfl, SqL.of hD, rfl, _, _, rfl, _, _, rfl, _, _, rfl, rfl, ?_⟩
        refine ⟨_, rfl, (by simp only [app_len, n0, n5, n7, n8, n9, sizeLine_eq]; omega), _, rfl, .inl ⟨x, rfl, (by rw [sizeLine_eq]; omega), _, rfl, (by simp only [app_len, n0, n5, n7, n8, n9, sizeLine_eq]; omega), _, rfl, (by simp only [app_len, n0, n5, n7, n8, n9, sizeLine_eq]; omega), _, rfl, .inl ⟨y, rfl, (by rw [sizeLine_eq]; omega), _, rfl, (by simp only [app_len, n0, n5, n7, n8, n9, sizeLine_eq]; omega), _, rfl, (by simp only [app_len, n0, n5, n7, n8, n9, sizeLine_eq]; omega), _, rfl, .inl ⟨z, rfl, (by rw [sizeLine_eq]; omega), _, rfl, (by simp only [app_len, n0, n5, n7, n8, n9, sizeLine_eq]; omega), _, rfl, (by simp only [app_len, n0, n5, n7, n8, n9, sizeLine_eq]; omega), ?_⟩⟩⟩⟩
        have k2 := k _ ((s1.trans s2).trans (s3.trans s4))
        show Q (V.str _) H4
        simp only [app_assoc, empty_app]
        exact k2
theorem ht_pos' (t : Tr) : 1 ≤ ht t := by
  cases t
  rw [ht]
  omega
theorem ok_show (T : Txt K mg A) (Dd : Dic K mg w.params) : ∀ n : Nat, FnOk P w K mg base CX0 (3 * n + 1) A.a_show_expression A.d_show_expression ["tree"] (spShow n)
  | 0 => by
    refine T.t_show_expression.F.ok sc_show_expression (fun vs H Q E h => ?_) (fun cdv AA outer s H vs Q E hr h => ?_)
    · obtain ⟨a, t, x, l, rfl, _⟩ := h
      rfl
    · obtain ⟨a, t, x, l, rfl, _, _, h0, _⟩ := h
      have := ht_pos' t
      omega
  | n + 1 => by
    have F := ok_show T Dd n
    have G_show_operation : FnOk P w K mg base CX0 (3 * n + 3) A.a_show_operation A.d_show_operation ["tree"] (spOperation n) := ok_operation T Dd F
    have G_show_operand : FnOk P w K mg base CX0 (3 * n + 2) A.a_show_operand A.d_show_operand ["tree", "least"] (spOperand n) := ok_operand T Dd F
    have G_show_atom : FnOk P w K mg base CX0 (3 * n + 3) A.a_show_atom A.d_show_atom ["tree"] (spAtom n) := ok_atom T F
    obtain ⟨zS, eS, dS⟩ := Dd.d_SIGN_OF
    obtain ⟨uA, eA, rA⟩ := T.m_ATOM_LEVEL
    have X : FnOk P w K mg base CX0 (3 * n + 3 + 1) A.a_show_expression A.d_show_expression ["tree"] (spShow (n + 1)) := by
      refine T.t_show_expression.F.ok sc_show_expression (fun vs H Q E h => ?_) (fun cdv AA outer s H vs Q E hr h => ?_)
      · obtain ⟨a, t, x, l, rfl, _⟩ := h
        rfl
      · obtain ⟨a, t, x, l, rfl, hta, hs, hh, hz, k⟩ := h
        obtain ⟨tag, lits, subs, rfl, _⟩ := shown_tag hs
        obtain ⟨xs, hax⟩ := tree_tag hta
        refine ⟨_, (pss_cons (ps_set (i := 1) sc_show_expression.nd rfl (Or.inl rfl) (pe_ix ix_tup (pv 0) pe_int (fun _ _ => rfl)))
      (pss_cons (ps_if (pt_cmpR (in_kdT dS) (pv 1) (pe_glob (v := .ref zS) rfl eS rfl) (by rfl)) (pss_one (ps_ret (pe_call G_show_operation (hr.mono (by omega)) rfl T.t_show_operation.g T.t_show_operation.F.kp T.t_show_operation.b .nil pass0 (pa_cons (pv 0) pa_nil)))) pss_nil)
      (pss_cons (ps_if (pt_cmpR op_eq (pv 1) pe_str (nomark _)) (pss_one (ps_ret (pe_op op_add_str pe_str (pe_call G_show_operand (hr.mono (by omega)) rfl T.t_show_operand.g T.t_show_operand.F.kp T.t_show_operand.b .nil pass0 (pa_cons (pe_ix ix_tup (pv 0) pe_int (fun _ _ => rfl)) (pa_cons (pe_glob rfl eA rA) pa_nil)))))) pss_nil)
      (pss_cons (ps_if (pt_cmpR op_eq (pv 1) pe_str (nomark _)) (pss_one (ps_ret (pe_op op_add_str pe_str (pe_call G_show_operand (hr.mono (by omega)) rfl T.t_show_operand.g T.t_show_operand.F.kp T.t_show_operand.b .nil pass0 (pa_cons (pe_ix ix_tup (pv 0) pe_int (fun _ _ => rfl)) (pa_cons (pe_glob rfl eA rA) pa_nil)))))) pss_nil)
      (pss_one (ps_ret (pe_call G_show_atom (hr.mono (by omega)) rfl T.t_show_atom.g T.t_show_atom.F.kp T.t_show_atom.b .nil pass0 (pa_cons (pv 0) pa_nil)))))))), ?_⟩
        refine ⟨_, rfl, a, _, 0, _, rfl, rfl, SqT.of hax, atI_nat (j := 0) rfl, ?_⟩
        refine ⟨_, rfl, tag, rfl, rfl, _, rfl, ?_⟩
        have hz' := hz
        have hh' := hh
        by_cases h7 : l = 7
        · have q : (valV kvSign tag).isSome = false ∧ tag ≠ txt "neg" ∧ tag ≠ txt "not" := by
            cases hs with
            | num n h => decide +kernel
            | var x h => decide +kernel
            | tru => decide +kernel
            | fls => decide +kernel
            | cond h h2 h3 => decide +kernel
            | item x h h2 => decide +kernel
            | mm tag hr2 h h2 => rcases hr2 with e | e <;> rw [e] <;> decide +kernel
            | bin tag lv sg hr2 h h2 => exact absurd h7 (tab_seven _ hr2)
            | neg h => exact absurd h7 (by decide)
            | not h => exact absurd h7 (by decide)
          obtain ⟨q1, q2, q3⟩ := q
          refine ite2 (fun z => absurd (q1.symm.trans z) (by decide)) (fun _ => ?_)
          refine ⟨_, rfl, rfl, _, rfl, ite2 (fun z => absurd (V.str.inj (of_decide_eq_true z)) q2) (fun _ => ?_)⟩
          refine ⟨_, rfl, rfl, _, rfl, ite2 (fun z => absurd (V.str.inj (of_decide_eq_true z)) q3) (fun _ => ?_)⟩
          exact ⟨_, rfl, a, _, x, l, rfl, hta, hs, h7, hh, hz, k⟩
        cases hs with
        | num n h => exact absurd rfl h7
        | var x h => exact absurd rfl h7
        | tru => exact absurd rfl h7
        | fls => exact absurd rfl h7
        | cond h h2 h3 => exact absurd rfl h7
        | item x h h2 => exact absurd rfl h7
        | mm tag hr2 h h2 => exact absurd rfl h7
        | @bin tag lv sg hr2 t u x y l m h h2 =>
          obtain ⟨es, _⟩ := tab_sign _ hr2
          have q : (valV kvSign tag).isSome = true := by rw [es]; rfl
          refine ite2 (fun _ => ?_) (fun z => absurd q z)
          obtain ⟨b, c, ha, hb, hc⟩ := at2 hta
          rw [size2'] at hz'
          rw [ht2'] at hh'
          exact ⟨_, rfl, a, b, c, tag, sg, _, t, u, x, y, l, m, rfl, ha, hr2, hb, hc, h, h2, by omega, by omega, by omega, by omega, k⟩
        | @neg t x l h =>
          obtain ⟨b, ha, hb⟩ := at1 hta
          rw [size1'] at hz'
          rw [ht1'] at hh'
          have hx := small_txt h (by omega)
          have bl := brk_len 7 l x
          have n1 : (Str.ofString "-").length = 1 := by decide +kernel
          refine ite2 (fun z => absurd z (by decide +kernel)) (fun _ => ?_)
          refine ⟨_, rfl, rfl, _, rfl, ite2 (fun _ => ?_) (fun z => absurd (by decide +kernel) z)⟩
          refine ⟨_, rfl, a, _, 1, _, rfl, rfl, SqT.of ha, rfl, b, t, x, l, 7, rfl, hb, h, by omega, by omega, fun H2 s2 => ⟨_, _, rfl, rfl, (by rw [sizeLine_eq, n1]; omega), k _ s2⟩⟩
        | @not t x l h =>
          obtain ⟨b, ha, hb⟩ := at1 hta
          rw [size1'] at hz'
          rw [ht1'] at hh'
          have hx := small_txt h (by omega)
          have bl := brk_len 7 l x
          have n1 : (Str.ofString "not ").length = 4 := by decide +kernel
          refine ite2 (fun z => absurd z (by decide +kernel)) (fun _ => ?_)
          refine ⟨_, rfl, rfl, _, rfl, ite2 (fun z => absurd z (by decide +kernel)) (fun _ => ?_)⟩
          refine ⟨_, rfl, rfl, _, rfl, ite2 (fun _ => ?_) (fun z => absurd (by decide +kernel) z)⟩
          refine ⟨_, rfl, a, _, 1, _, rfl, rfl, SqT.of ha, rfl, b, t, x, l, 7, rfl, hb, h, by omega, by omega, fun H2 s2 => ⟨_, _, rfl, rfl, (by rw [sizeLine_eq, n1]; omega), k _ s2⟩⟩
    exact X
end
theorem flat_strs : ∀ ss : List Str, (ss.map V.str).all flatV = true
  | [] => rfl
  | _ :: ss => flat_strs ss
open SX (S S_len S_cat S_inj)
/-! ### drawn names -/
def isLow (c : Nat) : Bool := decide (97 ≤ c) && decide (c ≤ 122)
def isWd (c : Nat) : Bool := isLow c || (decide (48 ≤ c) && decide (c ≤ 57)) || decide (c = 95)
structure Word (nm : List Nat) : Prop where
  head : ∃ c r, nm = c :: r ∧ isLow c = true ∧ ∀ d ∈ r, isWd d = true
  under : 95 ∈ nm
  len : nm.length ≤ 60
abbrev w37 : Str := Str.ofString "abcdefghijklmnopqrstuvwxyz0123456789_"
theorem w37_low : ∀ j ∈ List.range 26, isLow (w37.cps.toList.getD j 0) = true := by decide +kernel
theorem w37_wd : ∀ j ∈ List.range 37, isWd (w37.cps.toList.getD j 0) = true := by decide +kernel
theorem w37_len : w37.cps.toList.length = 37 := by decide +kernel
theorem w37_at {v : Int} (h0 : 0 ≤ v) (h1 : v < 37) : atI w37.cps.toList v = some (w37.cps.toList.getD v.toNat 0) := by
  obtain ⟨j, rfl⟩ := Int.eq_ofNat_of_zero_le h0
  have hj : j < w37.cps.toList.length := by rw [w37_len]; omega
  refine atI_nat ?_
  rw [Int.toNat_natCast, List.getD_eq_getElem?_getD, List.getElem?_eq_getElem hj]
  rfl
theorem low_wd {c : Nat} (h : isLow c = true) : isWd c = true := by
  unfold isWd
  rw [h]
  rfl
/-- how many of the texts are shorter than n -/
def shorter (ss : List Str) (n : Nat) : Nat := (ss.filter fun t => decide (t.length < n)).length
theorem shorter_le (ss : List Str) (n : Nat) : shorter ss n ≤ ss.length := List.length_filter_le _ _
theorem shorter_mono : ∀ (ss : List Str) (n : Nat), shorter ss n ≤ shorter ss (n + 1)
  | [], _ => Nat.le_refl _
  | t :: ss, n => by
    have ih := shorter_mono ss n
    unfold shorter at ih ⊢
    by_cases h : t.length < n
    · rw [List.filter_cons_of_pos (by simpa using h), List.filter_cons_of_pos (by simp; omega), List.length_cons, List.length_cons]
      omega
    · rw [List.filter_cons_of_neg (by simpa using h)]
      by_cases h2 : t.length < n + 1
      · rw [List.filter_cons_of_pos (by simpa using h2), List.length_cons]
        omega
      · rw [List.filter_cons_of_neg (by simpa using h2)]
        exact ih
theorem shorter_more : ∀ (ss : List Str) (x : Str), x ∈ ss → shorter ss x.length + 1 ≤ shorter ss (x.length + 1)
  | [], x, h => by cases h
  | t :: ss, x, h => by
    have mono := shorter_mono ss x.length
    by_cases e : t = x
    · subst e
      unfold shorter at mono ⊢
      rw [List.filter_cons_of_neg (by simp), List.filter_cons_of_pos (by simp), List.length_cons]
      omega
    · have hm : x ∈ ss := (List.mem_cons.mp h).resolve_left (fun z => e z.symm)
      have ih := shorter_more ss x hm
      unfold shorter at ih mono ⊢
      by_cases h1 : t.length < x.length
      · rw [List.filter_cons_of_pos (by simpa using h1), List.filter_cons_of_pos (by simp; omega), List.length_cons, List.length_cons]
        omega
      · rw [List.filter_cons_of_neg (by simpa using h1)]
        by_cases h2 : t.length < x.length + 1
        · rw [List.filter_cons_of_pos (by simpa using h2), List.length_cons]
          omega
        · rw [List.filter_cons_of_neg (by simpa using h2)]
          exact ih
theorem joinL_nil : ∀ ys : List (List Nat), TL.joinL [] ys = ys.flatten
  | [] => rfl
  | [p] => by simp [TL.joinL]
  | p :: q :: r => by
    show p ++ ([] ++ TL.joinL [] (q :: r)) = (p :: q :: r).flatten
    rw [List.nil_append, joinL_nil (q :: r)]
    rfl
theorem sum_ones : ∀ cs : List Nat, (((cs.map fun c => [c]).map S).map (·.length)).sum = cs.length
  | [] => rfl
  | c :: cs => by
    have ih := sum_ones cs
    show (S [c]).length + (((cs.map fun c => [c]).map S).map (·.length)).sum = cs.length + 1
    rw [ih, S_len]
    show 1 + cs.length = cs.length + 1
    omega
theorem flat_ones (cs : List Nat) : (cs.map fun c => [c]).flatten = cs := by
  induction cs with
  | nil => rfl
  | cons c cs ih =>
    show [c] ++ (cs.map fun c => [c]).flatten = c :: cs
    rw [ih]
    rfl
/-- all as it was, but what stands at p and at q -/
def But2 (p q : Addr) (H H' : Hp) : Prop := ∀ c o, H c = some o → c ≠ p → c ≠ q → H' c = some o
section
variable {P : Program} {w : World} {K : PySem.W.Frag} {mg : Str → Option Value} {base : Heap} {A : At}
def spName : Sp := fun vs H Q _ => ∃ (p l tk : Addr) (ss : List Str), vs = [.ref p, .ref tk] ∧ PoolAt H p l ∧ H tk = some (.lst (ss.map V.str)) ∧ ss.length ≤ 30 ∧ (tk ≠ p ∧ tk ≠ l) ∧
  ∀ nm H', Word nm → S nm ∉ ss → PoolAt H' p l → H' tk = some (.lst ((ss ++ [S nm]).map V.str)) → But2 p tk H H' → Q (.str (S nm)) H'
theorem ok_name (T : Txt K mg A) : FnOk P w K mg base CX0 3 A.a_law_name A.d_law_name ["pool", "taken"] spName := by
  have G_law_draw : FnOk P w K mg base CX0 2 A.a_law_draw A.d_law_draw ["pool", "many"] spDraw := ok_draw T
  refine T.t_law_name.F.ok sc_law_name (fun vs H Q E h => ?_) (fun cdv AA outer s H vs Q E hr h => ?_)
  · obtain ⟨p, l, tk, ss, rfl, _⟩ := h
    rfl
  · obtain ⟨p, l, tk, ss, rfl, hP, ht, hss, ⟨np, nl⟩, k⟩ := h
    refine ⟨_, (pss_cons (ps_set (i := 2) sc_law_name.nd rfl (Or.inr rfl) pe_str)
      (pss_cons (ps_set (i := 4) sc_law_name.nd rfl (Or.inl rfl) (pe_op op_add_str (pe_ix ix_str (pv 2) (pe_call G_law_draw (hr.mono (by decide)) rfl T.t_law_draw.g T.t_law_draw.F.kp T.t_law_draw.b .nil pass0 (pa_cons (pv 0) (pa_cons pe_int pa_nil))) (fun _ _ => rfl)) (pe_join pe_str (pe_lc (own := [("k", 3)]) (g := gName 3) (tt := tYes) (by rfl) sc_law_name.nd (pi_range1 rfl T.z_range (pa_cons (pe_call G_law_draw (hr.mono (by decide)) rfl T.t_law_draw.g T.t_law_draw.F.kp T.t_law_draw.b .nil pass0 (pa_cons (pv 0) (pa_cons pe_int pa_nil))) pa_nil)) (blkOk_by (own := [("k", 3)]) (N := ["pool", "taken", "chars", "k", "name", "cut"]) (sc := defScope s_law_name) (by decide +kernel)) (fun _ _ _ _ _ => pg_name (i := 3) sc_law_name.nd rfl (Or.inl rfl)) (fun _ _ _ _ _ => pts_nil) (fun _ _ _ _ _ => (pe_ix ix_str (pv 2) (pe_call G_law_draw (hr.mono (by decide)) rfl T.t_law_draw.g T.t_law_draw.F.kp T.t_law_draw.b .nil pass0 (pa_cons (pv 0) (pa_cons pe_int pa_nil))) (fun _ _ => rfl)))))))
      (pss_cons (ps_set (i := 5) sc_law_name.nd rfl (Or.inl rfl) (pe_op op_add pe_int (pe_call G_law_draw (hr.mono (by decide)) rfl T.t_law_draw.g T.t_law_draw.F.kp T.t_law_draw.b .nil pass0 (pa_cons (pv 0) (pa_cons (pe_callB call_len_str (by rfl) T.z_len PySem.boot_len (pa_cons (pv 4) pa_nil)) pa_nil)))))
      (pss_cons (ps_set (i := 4) sc_law_name.nd rfl (Or.inl rfl) (pe_op op_add_str (pe_op op_add_str (pe_slice sl_str (pv 4) po_none (po_some (pv 5))) pe_str) (pe_slice sl_str (pv 4) (po_some (pv 5)) po_none)))
      (pss_cons (ps_for PassesOwn.never rfl (pi_range1 rfl T.z_range (pa_cons pe_int pa_nil)) (pg_name (i := 3) sc_law_name.nd rfl (Or.inl rfl)) (pss_cons (ps_if (pt_cmpR op_notIn_seq (pv 4) (pv 1) (by rfl)) (pss_one ps_break) pss_nil)
      (pss_one (ps_set (i := 4) sc_law_name.nd rfl (Or.inl rfl) (pe_op op_add_str (pv 4) (pe_ix ix_str (pv 2) (pe_op op_mod (pv 3) pe_int) (fun _ _ => rfl)))))))
      (pss_cons (ps_expr (pe_bm PySem.F.plainAttrs_list PySem.F.slot_list_append PySem.F.type_list_append mt_append (pv 1) (pa_cons (pv 4) pa_nil)))
      (pss_one (ps_ret (pv 4))))))))), ?_⟩
    dsimp only [gName]
    refine seq_const ?_
    -- the first sign
    refine ⟨_, rfl, _, rfl, p, l, 26, rfl, hP, ⟨by decide, by decide⟩, fun u H1 u0 u1 P1 B1 => ⟨_, u, _, rfl, rfl, by decide +kernel, w37_at u0 (by omega), ?_⟩⟩
    have hc0 := w37_low u.toNat (List.mem_range.mpr (by omega))
    generalize w37.cps.toList.getD u.toNat 0 = c0 at hc0 ⊢
    have ht1 := B1 _ _ ht np
    refine ⟨⟨_, rfl⟩, _, rfl, p, l, 4, rfl, P1, ⟨by decide, by decide⟩, fun n H2 n0 n1 P2 B2 => ⟨n, rfl, by omega, by omega, fun D nD => ?_⟩⟩
    have ht2 := B2 _ _ ht1 np
    refine lc_range (lo := 0) (n := n.toNat) (fun i H3 => ∃ cs : List Nat, cs.length = i ∧ (∀ c ∈ cs, isWd c = true) ∧ H3 D = some (.lst (((cs.map fun c => [c]).map S).map V.str)) ∧ PoolAt H3 p l ∧ D ≠ p ∧ D ≠ l ∧ But2 p D H2 H3)
      ⟨[], rfl, fun y hy => (by cases hy), upd_same, P2.upd (P2.free nD) (P2.free2 nD), P2.free nD, P2.free2 nD, fun c o e _ h2 => by rw [upd_ne h2]; exact e⟩ ?_ ?_
    · rintro i H3 hi ⟨cs, hcs, hwd, hD, P3, dp, dl, b3⟩
      refine ⟨rfl, ?_⟩
      refine ⟨_, rfl, _, rfl, p, l, 37, rfl, P3, ⟨by decide, by decide⟩, fun v H4 v0 v1 P4 B4 => ⟨_, v, _, rfl, rfl, by decide +kernel, w37_at v0 v1, ?_⟩⟩
      have hw := w37_wd v.toNat (List.mem_range.mpr (by omega))
      generalize w37.cps.toList.getD v.toNat 0 = c at hw ⊢
      refine ⟨_, B4 _ _ hD dp, ?_, cs ++ [c], ?_, ?_, ?_, P4.upd dp dl, dp, dl, ?_⟩
      · rw [List.length_map, List.length_map, List.length_map, sizeLine_eq]
        omega
      · rw [List.length_append, hcs]
        rfl
      · intro y hy
        rcases List.mem_append.mp hy with z | z
        · exact hwd y z
        · rw [List.mem_singleton.mp z]
          exact hw
      · rw [upd_same, List.map_append, List.map_append, List.map_append]
        rfl
      · intro x o e h1 h2
        rw [upd_ne h2]
        exact B4 _ _ (b3 _ _ e h1 h2) h1
    · rintro H3 ⟨cs, hcs, hwd, hD, P3, dp, dl, b3⟩
      have htD : tk ≠ D := ne_of_none ht2 nD
      have ht3 := b3 _ _ ht2 np htD
      have old3 : But2 p tk H H3 := fun c o e h1 h2 => by
        have e2 := B2 _ _ (B1 _ _ e h1) h1
        exact b3 _ _ e2 h1 (ne_of_none e2 nD)
      refine ⟨_, D, (cs.map fun c => [c]).map S, rfl, rfl, .inl (SqL.of hD), ?_, ?_⟩
      · rw [sum_ones]
        show cs.length + ((cs.map fun c => [c]).map S).length * (Str.ofString "").length ≤ 16777216
        rw [show (Str.ofString "").length = 0 from rfl]
        omega
      · rw [show Txt.join (Str.ofString "") ((cs.map fun c => [c]).map S) = S (TL.joinL [] (cs.map fun c => [c])) from SX.join_S [] _, joinL_nil, flat_ones]
        refine ⟨_, _, rfl, rfl, ?_, ?_⟩
        · rw [S_len, sizeLine_eq]
          show 1 + cs.length ≤ 16777216
          omega
        · rw [show (⟨#[c0]⟩ : Str) ++ S cs = S ([c0] ++ cs) from S_cat [c0] cs]
          -- cut
          refine ⟨_, rfl, _, rfl, _, rfl, by rw [S_len, sizeLine_eq, List.length_append, List.length_singleton]; omega, p, l, _, rfl, P3, ⟨?_, ?_⟩, fun cu H4 c1 c2 P4 B4 => ⟨_, _, rfl, rfl, ?_⟩⟩
          · rw [S_len, List.length_append, List.length_singleton]
            omega
          · rw [S_len, List.length_append, List.length_singleton]
            have : (2 : Nat) ^ 7 < 2 ^ 8000 := Nat.pow_lt_pow_right (by decide) (by decide)
            omega
          rw [S_len, List.length_append, List.length_singleton] at c2
          obtain ⟨q, rfl⟩ := Int.eq_ofNat_of_zero_le c1
          have ht4 := B4 _ _ ht3 np
          refine ⟨_, rfl, _, rfl, _, rfl, S ([c0] ++ cs), rfl, by rw [S_len, sizeLine_eq, List.length_append, List.length_singleton]; omega, ?_⟩
          rw [show cutS (S ([c0] ++ cs)) none (some (1 + (q : Int))) = S (([c0] ++ cs).take (1 + q)) by rw [show (1 + (q : Int)) = ((1 + q : Nat) : Int) by omega]; exact S_take _ _]
          refine ⟨_, _, rfl, rfl, ?_, ?_⟩
          · show (S (([c0] ++ cs).take (1 + q))).length + (S [95]).length ≤ sizeLine
            rw [S_len, S_len, List.length_take, List.length_append, List.length_singleton, List.length_singleton, sizeLine_eq]
            omega
          · rw [show S (([c0] ++ cs).take (1 + q)) ++ Str.ofString "_" = S (([c0] ++ cs).take (1 + q) ++ [95]) from S_cat _ [95]]
            refine ⟨_, rfl, _, rfl, _, rfl, S ([c0] ++ cs), rfl, by rw [S_len, sizeLine_eq, List.length_append, List.length_singleton]; omega, ?_⟩
            rw [show cutS (S ([c0] ++ cs)) (some (1 + (q : Int))) none = S (([c0] ++ cs).drop (1 + q)) by rw [show (1 + (q : Int)) = ((1 + q : Nat) : Int) by omega]; exact S_drop _ _]
            refine ⟨_, _, rfl, rfl, ?_, ?_⟩
            · rw [S_len, S_len, List.length_append, List.length_take, List.length_drop, List.length_append, List.length_singleton, List.length_singleton, sizeLine_eq]
              omega
            · rw [S_cat]
              have hw1 : ∃ nm0 : List Nat, nm0 = ([c0] ++ cs).take (1 + q) ++ [95] ++ ([c0] ++ cs).drop (1 + q) ∧ (∃ c r, nm0 = c :: r ∧ isLow c = true ∧ ∀ d ∈ r, isWd d = true) ∧ 95 ∈ nm0 ∧ nm0.length ≤ 10 := by
                refine ⟨_, rfl, ⟨c0, cs.take q ++ [95] ++ cs.drop q, ?_, hc0, ?_⟩, ?_, ?_⟩
                · rw [show 1 + q = q + 1 by omega]
                  rfl
                · intro d hd
                  rcases List.mem_append.mp hd with z | z
                  · rcases List.mem_append.mp z with y | y
                    · exact hwd d (List.mem_of_mem_take y)
                    · rw [List.mem_singleton.mp y]
                      decide
                  · exact hwd d (List.mem_of_mem_drop z)
                · simp
                · rw [List.length_append, List.length_append, List.length_take, List.length_drop, List.length_append, List.length_singleton, List.length_singleton]
                  omega
              obtain ⟨nm0, e0, hhead0, hund0, hlen0⟩ := hw1
              rw [← e0]
              have old4 : But2 p tk H H4 := fun c o e h1 h2 => B4 _ _ (old3 _ _ e h1 h2) h1
              dsimp only [gName]
              refine seq_then (fun σ' H' => H' = H4 ∧ ∃ (nm : List Nat) (v3 : Option V), σ' = [some (.ref p), some (.ref tk), some (.str w37), v3, some (.str (S nm)), some (.int (1 + (q : Int)))] ∧ Word nm ∧ S nm ∉ ss) ?_ (fun N hN => ?_)
              · rintro σ' H' ⟨rfl, nm, v3, rfl, hword, hnot⟩
                refine ⟨_, rfl, .inl ⟨rfl, _, SqL.of ht4⟩, _, rfl, tk, _, _, rfl, rfl, ht4, ?_, ?_⟩
                · rw [List.length_map]
                  exact small1000 (by omega)
                · refine ⟨_, rfl, k nm _ hword hnot (P4.upd np nl) ?_ ?_⟩
                  · rw [upd_same, List.map_append]
                    rfl
                  · intro c o e h1 h2
                    rw [upd_ne h2]
                    exact old4 _ _ e h1 h2
              · refine ⟨40, rfl, by decide, by decide, ?_⟩
                refine for_range (n := 40) (fun i σ H5 => H5 = H4 ∧ ∃ (nm : List Nat) (v3 : Option V), σ = [some (.ref p), some (.ref tk), some (.str w37), v3, some (.str (S nm)), some (.int (1 + (q : Int)))] ∧ (∃ c r, nm = c :: r ∧ isLow c = true ∧ ∀ d ∈ r, isWd d = true) ∧ 95 ∈ nm ∧ nm.length ≤ 10 + i ∧ i ≤ shorter ss nm.length)
                  ⟨rfl, nm0, none, rfl, hhead0, hund0, by omega, Nat.zero_le _⟩ ?_ ?_
                · rintro i σ H5 hi ⟨rfl, nm, v3, rfl, hh, hu, hl, hsh⟩
                  refine ⟨_, rfl, _, rfl, tk, _, rfl, .inl (SqL.of ht4), rfl, flat_strs ss, _, rfl, ?_⟩
                  rw [if_pos rfl, in_strs (S nm) ss]
                  refine ite2 (fun h1 => ?_) (fun h1 => ?_)
                  · have h1 : S nm ∉ ss := of_decide_eq_false (by simpa using h1)
                    exact hN _ _ ⟨rfl, nm, some (.int (0 + (i : Int))), rfl, ⟨hh, hu, by omega⟩, h1⟩
                  · have h1 : S nm ∈ ss := Decidable.byContradiction fun z => h1 (by rw [decide_eq_false z]; rfl)
                    refine ⟨_, rfl, _, rfl, _, rfl, _, _, rfl, rfl, (by show (0 : Int) < 26; decide), ?_⟩
                    have m0 := Int.emod_nonneg (0 + (i : Int)) (show (26 : Int) ≠ 0 by decide)
                    have m1 := Int.emod_lt_of_pos (0 + (i : Int)) (show (0 : Int) < 26 by decide)
                    refine ⟨_, _, _, rfl, rfl, by decide +kernel, w37_at m0 (by omega), ?_⟩
                    have hlow := w37_low ((0 + (i : Int)) % 26).toNat (List.mem_range.mpr (by omega))
                    generalize w37.cps.toList.getD ((0 + (i : Int)) % 26).toNat 0 = c at hlow ⊢
                    refine ⟨_, _, rfl, rfl, ?_, ?_⟩
                    · rw [S_len, sizeLine_eq]
                      show nm.length + 1 ≤ 16777216
                      omega
                    · rw [show S nm ++ (⟨#[c]⟩ : Str) = S (nm ++ [c]) from S_cat nm [c]]
                      have hmore := shorter_more ss (S nm) h1
                      rw [S_len] at hmore
                      refine ⟨rfl, nm ++ [c], some (.int (0 + (i : Int))), rfl, ?_, by simp [hu], ?_, ?_⟩
                      · obtain ⟨c9, r, e, h9, hr9⟩ := hh
                        refine ⟨c9, r ++ [c], by rw [e]; rfl, h9, fun d hd => ?_⟩
                        rcases List.mem_append.mp hd with z | z
                        · exact hr9 d z
                        · rw [List.mem_singleton.mp z]
                          exact low_wd hlow
                      · rw [List.length_append, List.length_singleton]
                        omega
                      · rw [List.length_append, List.length_singleton]
                        omega
                · rintro σ H5 ⟨rfl, nm, v3, rfl, hh, hu, hl, hsh⟩
                  have := shorter_le ss nm.length
                  omega
end
open SX (S S_len S_cat S_inj)
/-! ### the drawn variables -/
abbrev Rows := List (Addr × Str × Str × Int)
structure RowsAt (H : Hp) (nm : Addr) (rows : Rows) : Prop where
  lst : H nm = some (.lst (rows.map fun r => V.ref r.1))
  row : ∀ r ∈ rows, H r.1 = some (.tup [.str r.2.1, .str r.2.2.1, .int r.2.2.2])
  kind : ∀ r ∈ rows, r.2.1 = kInt ∨ r.2.1 = kBool ∨ r.2.1 = kArr
  size : ∀ r ∈ rows, r.2.1 = kArr → 1 ≤ r.2.2.2 ∧ r.2.2.2 ≤ 3
  nd : (rows.map fun r => r.2.2.1).Nodup
  word : ∀ r ∈ rows, ∃ w, r.2.2.1 = S w ∧ Word w
  len : rows.length ≤ 5
theorem RowsAt.same {H H' : Hp} {nm : Addr} {rows : Rows} (h : RowsAt H nm rows) (s : Same H H') : RowsAt H' nm rows := ⟨s _ _ h.lst, fun r hr => s _ _ (h.row r hr), h.kind, h.size, h.nd, h.word, h.len⟩
theorem RowsAt.but {H H' : Hp} {nm p : Addr} {rows : Rows} (h : RowsAt H nm rows) (s : But p H H') (hn : nm ≠ p) (hp : ∀ xs, H p ≠ some (.tup xs)) : RowsAt H' nm rows :=
  ⟨s _ _ h.lst hn, fun r hr => s _ _ (h.row r hr) (fun e => hp _ (by rw [← e]; exact h.row r hr)), h.kind, h.size, h.nd, h.word, h.len⟩
def gam (rows : Rows) : Str → Option Str := fun x => (rows.find? fun r => decide (r.2.2.1 = x)).map fun r => r.2.1
theorem gam_mem : ∀ {rows : Rows} {r : Addr × Str × Str × Int}, (rows.map fun r => r.2.2.1).Nodup → r ∈ rows → gam rows r.2.2.1 = some r.2.1
  | [], r, _, h => by cases h
  | q :: rows, r, hn, h => by
    have hn2 : q.2.2.1 ∉ (rows.map fun r => r.2.2.1) ∧ (rows.map fun r => r.2.2.1).Nodup := List.nodup_cons.mp hn
    unfold gam
    rcases List.mem_cons.mp h with e | e
    · subst e
      rw [List.find?_cons_of_pos (by simp)]
      rfl
    · have hne : ¬ q.2.2.1 = r.2.2.1 := fun z => hn2.1 (by rw [z]; exact List.mem_map.mpr ⟨r, e, rfl⟩)
      rw [List.find?_cons_of_neg (by simpa using hne)]
      exact gam_mem hn2.2 e
theorem pick_str {ms : List Str} {v : Int} (h0 : 0 ≤ v) (h1 : v < ms.length) : ∃ m, m ∈ ms ∧ ms[v.toNat]? = some m ∧ atI (ms.map V.str) v = some (.str m) := by
  obtain ⟨j, rfl⟩ := Int.eq_ofNat_of_zero_le h0
  have hj : j < ms.length := by omega
  refine ⟨ms[j], List.getElem_mem hj, List.getElem?_eq_getElem hj, atI_nat ?_⟩
  rw [List.getElem?_map, List.getElem?_eq_getElem hj]
  rfl
/-- what the law's trees are -/
structure IsTree (H : Hp) (Γ : Str → Option Str) (a : Addr) (t : Tr) (k : Str) : Prop where
  at' : TreeAt H t a
  ok : ∃ x l, Shown t x l
theorem IsTree.same {H H' : Hp} {Γ : Str → Option Str} {a : Addr} {t : Tr} {k : Str} (h : IsTree H Γ a t k) (s : Same H H') : IsTree H' Γ a t k := ⟨h.at'.same s t a, h.ok⟩
theorem IsTree.but {H H' : Hp} {Γ : Str → Option Str} {a p : Addr} {t : Tr} {k : Str} (h : IsTree H Γ a t k) (s : But p H H') (hp : ∀ xs, H p ≠ some (.tup xs)) : IsTree H' Γ a t k := ⟨TreeAt.but s hp t a h.at', h.ok⟩
theorem t0 {H : Hp} {tag : Str} {lits : List V} {a : Addr} (h : H a = some (.tup (.str tag :: lits))) (hl : (∀ x ∈ lits, scalV x) ∧ lits.length ≤ 3) : TreeAt H (.mk tag lits []) a := by
  rw [TreeAt]
  exact ⟨[], by rw [List.map_nil, List.append_nil]; exact h, hl, by rw [TreesAt]⟩
theorem tn {H : Hp} {tag : Str} {lits : List V} {subs : List Tr} {as : List Addr} {a : Addr} (h : H a = some (.tup (.str tag :: (lits ++ as.map V.ref)))) (hl : (∀ x ∈ lits, scalV x) ∧ lits.length ≤ 3) (hs : TreesAt H subs as) : TreeAt H (.mk tag lits subs) a := by
  rw [TreeAt]
  exact ⟨as, h, hl, hs⟩
theorem t1 {H : Hp} {t : Tr} {a : Addr} (h : TreeAt H t a) : TreesAt H [t] [a] := by rw [TreesAt]; exact ⟨a, [], rfl, h, by rw [TreesAt]⟩
theorem t2 {H : Hp} {t u : Tr} {a b : Addr} (h : TreeAt H t a) (k : TreeAt H u b) : TreesAt H [t, u] [a, b] := by rw [TreesAt]; exact ⟨a, [b], rfl, h, t1 k⟩
theorem t3 {H : Hp} {t u v : Tr} {a b c : Addr} (h : TreeAt H t a) (k : TreeAt H u b) (j : TreeAt H v c) : TreesAt H [t, u, v] [a, b, c] := by rw [TreesAt]; exact ⟨a, [b, c], rfl, h, t2 k j⟩
def intTags : List Str := [Str.ofString "add", Str.ofString "sub", Str.ofString "mul", Str.ofString "div", Str.ofString "mod", Str.ofString "min", Str.ofString "max", Str.ofString "add", Str.ofString "sub", Str.ofString "add", Str.ofString "sub"]
def cmpTags : List Str := [Str.ofString "lt", Str.ofString "le", Str.ofString "lt", Str.ofString "le", Str.ofString "eq", Str.ofString "ne", Str.ofString "lt", Str.ofString "eq", Str.ofString "ne", Str.ofString "and", Str.ofString "or"]
theorem int_tag : ∀ m ∈ intTags, okParts m [kInt, kInt] = true ∧ ¬ m = Str.ofString "var" ∧ ¬ m = Str.ofString "cond" ∧ ¬ m = Str.ofString "item" ∧ ¬ m ∈ boolTags := by decide +kernel
theorem cmp_tag : ∀ m ∈ cmpTags, ¬ m = Str.ofString "var" ∧ ¬ m = Str.ofString "cond" ∧ ¬ m = Str.ofString "item" ∧ m ∈ boolTags := by decide +kernel
theorem cmp_low : ∀ j ∈ List.range 7, okParts (cmpTags.getD j Str.empty) [kInt, kInt] = true := by decide +kernel
theorem cmp_high : ∀ j ∈ List.range 11, 7 ≤ j → okParts (cmpTags.getD j Str.empty) [kBool, kBool] = true := by decide +kernel
section
variable {P : Program} {w : World} {K : PySem.W.Frag} {mg : Str → Option Value} {base : Heap} {A : At}
def spNames : Sp := fun vs H Q _ => ∃ (p l : Addr), vs = [.ref p] ∧ PoolAt H p l ∧ ∀ nm rows H', RowsAt H' nm rows → nm ≠ p → nm ≠ l → PoolAt H' p l → But p H H' → Q (.ref nm) H'
theorem ok_names (T : Txt K mg A) : FnOk P w K mg base CX0 4 A.a_law_names A.d_law_names ["pool"] spNames := by
  have G_law_draw : FnOk P w K mg base CX0 2 A.a_law_draw A.d_law_draw ["pool", "many"] spDraw := ok_draw T
  have G_law_name : FnOk P w K mg base CX0 3 A.a_law_name A.d_law_name ["pool", "taken"] spName := ok_name T
  refine T.t_law_names.F.ok sc_law_names (fun vs H Q E h => ?_) (fun cdv AA outer s H vs Q E hr h => ?_)
  · obtain ⟨p, l, rfl, _⟩ := h
    rfl
  · obtain ⟨p, l, rfl, hP, k⟩ := h
    refine ⟨_, (pss_cons (ps_set (i := 1) sc_law_names.nd rfl (Or.inl rfl) (pe_lst pa_nil))
      (pss_cons (ps_set (i := 2) sc_law_names.nd rfl (Or.inl rfl) (pe_lst (pa_cons (pe_tup (pa_cons pe_str (pa_cons (pe_call G_law_name (hr.mono (by decide)) rfl T.t_law_name.g T.t_law_name.F.kp T.t_law_name.b .nil pass0 (pa_cons (pv 0) (pa_cons (pv 1) pa_nil))) (pa_cons pe_int pa_nil)))) (pa_cons (pe_tup (pa_cons pe_str (pa_cons (pe_call G_law_name (hr.mono (by decide)) rfl T.t_law_name.g T.t_law_name.F.kp T.t_law_name.b .nil pass0 (pa_cons (pv 0) (pa_cons (pv 1) pa_nil))) (pa_cons pe_int pa_nil)))) pa_nil))))
      (pss_cons (ps_for PassesOwn.never rfl (pi_range1 rfl T.z_range (pa_cons (pe_call G_law_draw (hr.mono (by decide)) rfl T.t_law_draw.g T.t_law_draw.F.kp T.t_law_draw.b .nil pass0 (pa_cons (pv 0) (pa_cons pe_int pa_nil))) pa_nil)) (pg_name (i := 3) sc_law_names.nd rfl (Or.inl rfl)) (pss_cons (ps_set (i := 4) sc_law_names.nd rfl (Or.inl rfl) (pe_ix ix_tup (pe_tup (pa_cons pe_str (pa_cons pe_str (pa_cons pe_str pa_nil)))) (pe_call G_law_draw (hr.mono (by decide)) rfl T.t_law_draw.g T.t_law_draw.F.kp T.t_law_draw.b .nil pass0 (pa_cons (pv 0) (pa_cons pe_int pa_nil))) (fun _ _ => rfl)))
      (pss_one (ps_expr (pe_bm PySem.F.plainAttrs_list PySem.F.slot_list_append PySem.F.type_list_append mt_append (pv 2) (pa_cons (pe_tup (pa_cons (pv 4) (pa_cons (pe_call G_law_name (hr.mono (by decide)) rfl T.t_law_name.g T.t_law_name.F.kp T.t_law_name.b .nil pass0 (pa_cons (pv 0) (pa_cons (pv 1) pa_nil))) (pa_cons (pe_op op_mul (pe_op op_add pe_int (pe_call G_law_draw (hr.mono (by decide)) rfl T.t_law_draw.g T.t_law_draw.F.kp T.t_law_draw.b .nil pass0 (pa_cons (pv 0) (pa_cons pe_int pa_nil)))) (pe_callTy call_int1 (by rfl) T.z_int PyProof.Rows.boot_int (pa_cons (pe_cmpR op_eq (pv 4) pe_str (nomark _)) pa_nil))) pa_nil)))) pa_nil))))))
      (pss_one (ps_ret (pv 2)))))), ?_⟩
    refine ⟨Nat.zero_le _, fun tk ntk => ?_⟩
    have P1 := hP.same (same_upd (o := .lst []) ntk)
    have tp := hP.free ntk
    have tl' := hP.free2 ntk
    have s1 := same_upd (o := .lst []) ntk
    -- the first two rows
    refine ⟨_, rfl, _, rfl, p, l, tk, [], rfl, P1, upd_same, by decide, ⟨tp, tl'⟩, fun n1 H2 w1 _ P2 ht2 b2 => ⟨(by show 3 ≤ sizeLine; decide), fun r1 nr1 => ?_⟩⟩
    have s2 := same_upd (o := .tup [.str (Str.ofString "int"), .str (S n1), .int 0]) nr1
    refine ⟨_, rfl, _, rfl, p, l, tk, [S n1], rfl, P2.same s2, s2 _ _ ht2, (by show 1 ≤ 30; decide), ⟨tp, tl'⟩, fun n2 H3 w2 hn2 P3 ht3 b3 => ⟨(by show 3 ≤ sizeLine; decide), fun r2 nr2 => ?_⟩⟩
    have s3 := same_upd (o := .tup [.str (Str.ofString "bool"), .str (S n2), .int 0]) nr2
    refine ⟨(by show 2 ≤ sizeLine; decide), fun nm nnm => ?_⟩
    have s4 := same_upd (o := .lst [.ref r1, .ref r2]) nnm
    have P4 := (P3.same s3).same s4
    have np := (P3.same s3).free nnm
    have nl := (P3.same s3).free2 nnm
    have hr1 : (upd H2 r1 (.tup [.str (Str.ofString "int"), .str (S n1), .int 0])) r1 = some (.tup [.str (Str.ofString "int"), .str (S n1), .int 0]) := upd_same
    have r1p : r1 ≠ p := (P2.same s2).ne hr1
    have r1t : r1 ≠ tk := ne_of hr1 (s2 _ _ ht2) (by intro z; cases z)
    have hr1' := s4 _ _ (s3 _ _ (b3 _ _ hr1 r1p r1t))
    have hr2' := s4 _ _ (show (upd H3 r2 (.tup [.str (Str.ofString "bool"), .str (S n2), .int 0])) r2 = some (.tup [.str (Str.ofString "bool"), .str (S n2), .int 0]) from upd_same)
    have ht4 := s4 _ _ (s3 _ _ ht3)
    have nt : nm ≠ tk := (ne_of_none (s3 _ _ ht3) nnm).symm
    have hnm : (upd (upd H3 r2 (.tup [.str (Str.ofString "bool"), .str (S n2), .int 0])) nm (.lst [.ref r1, .ref r2])) nm = some (.lst [.ref r1, .ref r2]) := upd_same
    have old : ∀ c o, H c = some o → c ≠ p → (upd (upd H3 r2 (.tup [.str (Str.ofString "bool"), .str (S n2), .int 0])) nm (.lst [.ref r1, .ref r2])) c = some o := fun c o e h1 => by
      have htc : c ≠ tk := ne_of_none e ntk
      exact s4 _ _ (s3 _ _ (b3 _ _ (s2 _ _ (b2 _ _ (s1 _ _ e) h1 htc)) h1 htc))
    generalize upd (upd H3 r2 (.tup [.str (Str.ofString "bool"), .str (S n2), .int 0])) nm (.lst [.ref r1, .ref r2]) = H5 at P4 hr1' hr2' ht4 hnm old ⊢
    have R0 : RowsAt H5 nm [(r1, kInt, S n1, 0), (r2, kBool, S n2, 0)] := by
      refine ⟨hnm, ?_, ?_, ?_, ?_, ?_, (by show 2 ≤ 5; decide)⟩
      · intro r hr
        rcases List.mem_cons.mp hr with e | e
        · rw [e]; exact hr1'
        · rw [List.mem_singleton.mp e]; exact hr2'
      · intro r hr
        rcases List.mem_cons.mp hr with e | e
        · rw [e]; exact .inl rfl
        · rw [List.mem_singleton.mp e]; exact .inr (.inl rfl)
      · intro r hr ek
        rcases List.mem_cons.mp hr with e | e
        · rw [e] at ek; exact absurd ek (show ¬ kInt = kArr by decide +kernel)
        · rw [List.mem_singleton.mp e] at ek; exact absurd ek (show ¬ kBool = kArr by decide +kernel)
      · show ([S n1, S n2] : List Str).Nodup
        refine List.nodup_cons.mpr ⟨fun hm => ?_, List.nodup_cons.mpr ⟨List.not_mem_nil, List.nodup_nil⟩⟩
        have e := List.mem_singleton.mp hm
        exact hn2 (List.mem_singleton.mpr e.symm)
      · intro r hr
        rcases List.mem_cons.mp hr with e | e
        · rw [e]; exact ⟨n1, rfl, w1⟩
        · rw [List.mem_singleton.mp e]; exact ⟨n2, rfl, w2⟩
    refine ⟨_, rfl, p, l, 4, rfl, P4, ⟨by decide, by decide⟩, fun m H6 m0 m1 P6 B6 => ⟨m, rfl, by omega, by omega, ?_⟩⟩
    have R6 := R0.but B6 np P4.notup
    have ht6 := B6 _ _ ht4 tp
    have old6 : ∀ c o, H c = some o → c ≠ p → H6 c = some o := fun c o e h1 => B6 _ _ (old _ _ e h1) h1
    refine for_range (n := m.toNat) (fun i σ H7 => ∃ (rows : Rows) (v3 v4 : Option V), σ = [some (.ref p), some (.ref tk), some (.ref nm), v3, v4] ∧ RowsAt H7 nm rows ∧ rows.length = 2 + i ∧ H7 tk = some (.lst ((rows.map fun r => r.2.2.1).map V.str)) ∧ PoolAt H7 p l ∧ ∀ c o, H c = some o → c ≠ p → H7 c = some o)
      ⟨_, none, none, rfl, R6, rfl, ht6, P6, old6⟩ ?_ ?_
    · rintro i σ H7 hi ⟨rows, v3, v4, rfl, R7, hlen, ht7, P7, old7⟩
      -- the kind
      refine ⟨(by show 3 ≤ sizeLine; decide), fun c nc => ?_⟩
      have sc := same_upd (o := .tup [.str (Str.ofString "int"), .str (Str.ofString "bool"), .str (Str.ofString "array")]) nc
      refine ⟨_, rfl, p, l, 3, rfl, P7.same sc, ⟨by decide, by decide⟩, fun v H8 v0 v1 P8 B8 => ?_⟩
      obtain ⟨kd, hkd, _, ekd⟩ := pick_str (ms := [kInt, kBool, kArr]) v0 v1
      refine ⟨c, _, v, _, rfl, rfl, SqT.of (B8 _ _ upd_same (P7.free nc)), ekd, ?_⟩
      have R8 := (R7.same sc).but B8 np (P7.same sc).notup
      have ht8 := B8 _ _ (sc _ _ ht7) tp
      have hss : ((rows.map fun r => r.2.2.1) : List Str).length ≤ 30 := by rw [List.length_map]; omega
      -- names.append((kind, name, size))
      refine ⟨_, rfl, .inl ⟨rfl, _, SqL.of R8.lst⟩, ?_⟩
      refine ⟨_, rfl, _, rfl, _, rfl, p, l, tk, _, rfl, P8, ht8, hss, ⟨tp, tl'⟩, fun nn H9 wn hnn P9 ht9 b9 => ?_⟩
      have R9 : RowsAt H9 nm rows := by
        refine ⟨b9 _ _ R8.lst np nt, fun r hr => b9 _ _ (R8.row r hr) (P8.ne (R8.row r hr)) (ne_of (R8.row r hr) ht8 (by intro z; cases z)), R8.kind, R8.size, R8.nd, R8.word, R8.len⟩
      refine ⟨_, rfl, p, l, 3, rfl, P9, ⟨by decide, by decide⟩, fun sz H10 z0 z1 P10 B10 => ⟨_, _, rfl, rfl, ?_⟩⟩
      refine ⟨_, rfl, rfl, .inr ⟨_, rfl, ?_⟩⟩
      refine ⟨_, _, rfl, rfl, .inr (by show -(2 ^ 64) < (if decide (V.str kd = V.str (Str.ofString "array")) = true then (1 : Int) else 0) ∧ (if decide (V.str kd = V.str (Str.ofString "array")) = true then (1 : Int) else 0) < 2 ^ 64; split <;> exact ⟨by decide, by decide⟩), (by show 3 ≤ sizeLine; decide), fun q nq => ?_⟩

      rw [dec_str]
      dsimp only
      have R10 := R9.but B10 np P9.notup
      have ht10 := B10 _ _ ht9 tp
      have hsize : kd = kArr → 1 ≤ (1 + sz) * (if decide (kd = Str.ofString "array") = true then (1 : Int) else 0) ∧ (1 + sz) * (if decide (kd = Str.ofString "array") = true then (1 : Int) else 0) ≤ 3 := fun e => by
        rw [decide_eq_true (show kd = Str.ofString "array" from e), if_pos rfl]
        omega
      generalize (1 + sz) * (if decide (kd = Str.ofString "array") = true then (1 : Int) else 0) = siz at hsize ⊢
      have sq := same_upd (o := .tup [.str kd, .str (S nn), .int siz]) nq
      have R11 := R10.same sq
      have P11 := P10.same sq
      have ht11 := sq _ _ ht10
      have hq : (upd H10 q (.tup [.str kd, .str (S nn), .int siz])) q = some (.tup [.str kd, .str (S nn), .int siz]) := upd_same
      have old11 : ∀ c o, H c = some o → c ≠ p → (upd H10 q (.tup [.str kd, .str (S nn), .int siz])) c = some o := fun c o e h1 => by
        have htc : c ≠ tk := ne_of_none e ntk
        exact sq _ _ (B10 _ _ (b9 _ _ (B8 _ _ (sc _ _ (old7 _ _ e h1)) h1) h1 htc) h1)
      generalize upd H10 q (.tup [.str kd, .str (S nn), .int siz]) = H11 at R11 P11 ht11 hq old11 ⊢
      refine ⟨nm, _, _, rfl, rfl, R11.lst, ?_, ?_⟩
      · rw [List.length_map]
        exact small1000 (by omega)
      · have hnt2 : ∀ r ∈ rows, r.1 ≠ nm := fun r hr => ne_of (R11.row r hr) R11.lst (by intro z; cases z)
        refine ⟨rows ++ [(q, kd, S nn, siz)], _, _, rfl, ?_, ?_, ?_, P11.upd np nl, ?_⟩
        · refine ⟨?_, ?_, ?_, ?_, ?_, ?_, ?_⟩
          · rw [upd_same, List.map_append]
            rfl
          · intro r hr
            rcases List.mem_append.mp hr with e | e
            · rw [upd_ne (hnt2 r e)]
              exact R11.row r e
            · rw [List.mem_singleton.mp e]
              show upd H11 nm _ q = _
              rw [upd_ne (ne_of hq R11.lst (by intro z; cases z))]
              exact hq
          · intro r hr
            rcases List.mem_append.mp hr with e | e
            · exact R11.kind r e
            · rw [List.mem_singleton.mp e]
              simpa using hkd
          · intro r hr ek
            rcases List.mem_append.mp hr with e | e
            · exact R11.size r e ek
            · rw [List.mem_singleton.mp e] at ek ⊢
              exact hsize ek
          · rw [List.map_append]
            refine List.nodup_append.mpr ⟨R11.nd, List.nodup_cons.mpr ⟨List.not_mem_nil, List.nodup_nil⟩, fun x hx y hy e => ?_⟩
            have ey : y = S nn := List.mem_singleton.mp hy
            rw [ey] at e
            exact hnn (by rw [← e]; exact hx)
          · intro r hr
            rcases List.mem_append.mp hr with e | e
            · exact R11.word r e
            · rw [List.mem_singleton.mp e]
              exact ⟨nn, rfl, wn⟩
          · rw [List.length_append, hlen]
            show 2 + i + 1 ≤ 5
            omega
        · rw [List.length_append, hlen]
          show 2 + i + 1 = 2 + (i + 1)
          omega
        · rw [upd_ne nt.symm, List.map_append]
          exact ht11
        · intro c o e h1
          have hcn : c ≠ nm := fun z => by
            have e5 := old _ _ e h1
            have e3 : (upd H3 r2 (.tup [.str (Str.ofString "bool"), .str (S n2), .int 0])) c = some o := by
              have htc : c ≠ tk := ne_of_none e ntk
              exact s3 _ _ (b3 _ _ (s2 _ _ (b2 _ _ (s1 _ _ e) h1 htc)) h1 htc)
            rw [z] at e3
            rw [e3] at nnm
            cases nnm
          rw [upd_ne hcn]
          exact old11 _ _ e h1
    · rintro σ H7 ⟨rows, v3, v4, rfl, R7, hlen, ht7, P7, old7⟩
      exact ⟨_, rfl, k nm rows H7 R7 np nl P7 old7⟩
end
section
variable {P : Program} {w : World} {K : PySem.W.Frag} {mg : Str → Option Value} {base : Heap} {A : At}
/-- the rows of a kind -/
def rowsOf (rows : Rows) (k : Str) : Rows := rows.filter fun r => decide (r.2.1 = k)
theorem rowsOf_mem {rows : Rows} {k : Str} {r : Addr × Str × Str × Int} (h : r ∈ rowsOf rows k) : r ∈ rows ∧ r.2.1 = k := by
  have h2 := List.mem_filter.mp h
  exact ⟨h2.1, of_decide_eq_true h2.2⟩
theorem rowsOf_len {rows : Rows} {k : Str} : (rowsOf rows k).length ≤ rows.length := List.length_filter_le _ _
theorem pick_row {rows : Rows} {v : Int} (h0 : 0 ≤ v) (h1 : v < rows.length) : ∃ r, r ∈ rows ∧ atI (rows.map fun r => V.ref r.1) v = some (.ref r.1) := by
  obtain ⟨j, rfl⟩ := Int.eq_ofNat_of_zero_le h0
  have hj : j < rows.length := by omega
  refine ⟨rows[j], List.getElem_mem hj, atI_nat ?_⟩
  rw [List.getElem?_map, List.getElem?_eq_getElem hj]
  rfl
abbrev Gam := Str → Option Str
def GamOk (Γ : Gam) (rows : Rows) : Prop := ∀ r ∈ rows, Γ r.2.2.1 = some r.2.1
theorem leaf_num {H : Hp} {Γ : Gam} {a : Addr} {z : Int} (z0 : 0 ≤ z) (z1 : z < 1000000000) (h : H a = some (.tup [.str (Str.ofString "num"), .int z])) : IsTree H Γ a (.mk (Str.ofString "num") [.int z] []) kInt := by
  obtain ⟨n, rfl⟩ := Int.eq_ofNat_of_zero_le z0
  exact ⟨t0 h ⟨fun x hx => by rw [List.mem_singleton.mp hx]; exact trivial, by show 1 ≤ 3; decide⟩, _, _, .num n (Nat.lt_trans (by omega : n < 1000000000) (by decide +kernel))⟩
theorem leaf_true {H : Hp} {Γ : Gam} {a : Addr} (h : H a = some (.tup [.str (Str.ofString "true")])) : IsTree H Γ a (.mk (Str.ofString "true") [] []) kBool := ⟨t0 h ⟨fun x hx => (by cases hx), by decide⟩, _, _, .tru⟩
theorem leaf_false {H : Hp} {Γ : Gam} {a : Addr} (h : H a = some (.tup [.str (Str.ofString "false")])) : IsTree H Γ a (.mk (Str.ofString "false") [] []) kBool := ⟨t0 h ⟨fun x hx => (by cases hx), by decide⟩, _, _, .fls⟩
theorem leaf_var {H : Hp} {Γ : Gam} {a : Addr} {x k : Str} (h : H a = some (.tup [.str (Str.ofString "var"), .str x])) (hx : x.length ≤ 60) : IsTree H Γ a (.mk (Str.ofString "var") [.str x] []) k :=
  ⟨t0 h ⟨fun x hx => by rw [List.mem_singleton.mp hx]; exact trivial, by show 1 ≤ 3; decide⟩, _, _, .var x hx⟩
theorem word_len {H : Hp} {nm : Addr} {rows : Rows} {r : Addr × Str × Str × Int} (R : RowsAt H nm rows) (hr : r ∈ rows) : r.2.2.1.length ≤ 60 := by
  obtain ⟨w, e, hw⟩ := R.word r hr
  rw [e, SX.S_len]
  exact hw.len
theorem leaf_size (tag : Str) (lits : List V) : size (.mk tag lits []) = 1 := by rw [size, sizes]
theorem leaf_ht (tag : Str) (lits : List V) : ht (.mk tag lits []) = 1 := by rw [ht, hts]
def spLeaf : Sp := fun vs H Q _ => ∃ (Γ : Gam) (p l nm : Addr) (k : Str) (rows : Rows), vs = [.ref p, .str k, .ref nm] ∧ PoolAt H p l ∧ RowsAt H nm rows ∧ nm ≠ p ∧ (k = kInt ∨ k = kBool) ∧ GamOk Γ rows ∧ ∀ a t H', IsTree H' Γ a t k → size t = 1 → ht t = 1 → PoolAt H' p l → But p H H' → Q (.ref a) H'
theorem ok_leaf (T : Txt K mg A) : FnOk P w K mg base CX0 3 A.a_law_leaf A.d_law_leaf ["pool", "kind", "names"] spLeaf := by
  have G_law_draw : FnOk P w K mg base CX0 2 A.a_law_draw A.d_law_draw ["pool", "many"] spDraw := ok_draw T
  refine T.t_law_leaf.F.ok sc_law_leaf (fun vs H Q E h => ?_) (fun cdv AA outer s H vs Q E hr h => ?_)
  · obtain ⟨Γ, p, l, nm, kd, rows, rfl, _⟩ := h
    rfl
  · obtain ⟨Γ, p, l, nm, kd, rows, rfl, hP, hR, hn, hk, hG, k⟩ := h
    refine ⟨_, (pss_cons (ps_setLc (i := 3) (own := [("row", 5)]) (g := gName 5) (by rfl) sc_law_leaf.nd rfl rfl (sw_true rfl rfl rfl (by decide +kernel)) (pi_list (pv 2)) (blkOk_by (own := [("row", 5)]) (N := ["pool", "kind", "names", "fit", "size", "row"]) (sc := defScope s_law_leaf) (by decide +kernel)) (fun _ _ _ _ _ => pg_name (i := 5) sc_law_leaf.nd rfl (Or.inl rfl)) (fun _ _ _ _ _ => pts_one (pt_cmpR op_eq (pe_ix (show IxR _ (rIxT K) from ix_tup) (pv 5) pe_int (fun _ _ => rfl)) (pv 1) (nomark _))) (fun _ _ _ _ _ => (pv 5)))
      (pss_cons (ps_if (PW.pt (pw_and (pt_cmpR op_gt (pe_callB call_len_seq (by rfl) T.z_len PySem.boot_len (pa_cons (pv 3) pa_nil)) pe_int (nomark _)) (pw_and1 (pt_cmpR op_gt (pe_call G_law_draw (hr.mono (by decide)) rfl T.t_law_draw.g T.t_law_draw.F.kp T.t_law_draw.b .nil pass0 (pa_cons (pv 0) (pa_cons pe_int pa_nil))) pe_int (nomark _))))) (pss_one (ps_ret (pe_tup (pa_cons pe_str (pa_cons (pe_ix ix_tup (pe_ix ix_list (pv 3) (pe_call G_law_draw (hr.mono (by decide)) rfl T.t_law_draw.g T.t_law_draw.F.kp T.t_law_draw.b .nil pass0 (pa_cons (pv 0) (pa_cons (pe_callB call_len_seq (by rfl) T.z_len PySem.boot_len (pa_cons (pv 3) pa_nil)) pa_nil))) (fun _ _ => rfl)) pe_int (fun _ _ => rfl)) pa_nil))))) pss_nil)
      (pss_cons (ps_if (pt_cmpR op_eq (pv 1) pe_str (nomark _)) (pss_one (ps_ret (pe_ifExp (pt_cmpR op_eq (pe_call G_law_draw (hr.mono (by decide)) rfl T.t_law_draw.g T.t_law_draw.F.kp T.t_law_draw.b .nil pass0 (pa_cons (pv 0) (pa_cons pe_int pa_nil))) pe_int (nomark _)) (pe_tup (pa_cons pe_str pa_nil)) (pe_tup (pa_cons pe_str pa_nil))))) pss_nil)
      (pss_cons (ps_set (i := 4) sc_law_leaf.nd rfl (Or.inl rfl) (pe_call G_law_draw (hr.mono (by decide)) rfl T.t_law_draw.g T.t_law_draw.F.kp T.t_law_draw.b .nil pass0 (pa_cons (pv 0) (pa_cons pe_int pa_nil))))
      (pss_cons (ps_if (pt_cmpR op_eq (pv 4) pe_int (nomark _)) (pss_one (ps_ret (pe_tup (pa_cons pe_str (pa_cons (pe_call G_law_draw (hr.mono (by decide)) rfl T.t_law_draw.g T.t_law_draw.F.kp T.t_law_draw.b .nil pass0 (pa_cons (pv 0) (pa_cons pe_int pa_nil))) pa_nil))))) pss_nil)
      (pss_one (ps_ret (pe_tup (pa_cons pe_str (pa_cons (pe_op op_mod (pv 4) pe_int) pa_nil)))))))))), ?_⟩
    refine ⟨_, rfl, nm, rfl, ⟨_, SqL.of hR.lst⟩, fun D nD => ?_⟩
    refine lc_list (K := K) (a := nm) (xs := rows.map fun r => V.ref r.1) (fun i H2 => H2 = upd H D (.lst ((rowsOf (rows.take i) kd).map fun r => V.ref r.1))) rfl (fun i H2 _ e => by rw [e]; exact SqL.of (same_upd nD _ _ hR.lst)) ?_ ?_
    · rintro i y H2 hi rfl
      rw [List.getElem?_map] at hi
      obtain ⟨r, er, rfl⟩ := Option.map_eq_some_iff.mp hi
      refine ⟨rfl, ?_⟩
      refine ⟨_, rfl, r.1, _, 0, _, rfl, rfl, SqT.of (same_upd nD _ _ (hR.row r (List.mem_of_getElem? er))), rfl, _, rfl, rfl, ?_⟩
      rw [dec_str]
      have htk : rowsOf (rows.take (i + 1)) kd = rowsOf (rows.take i) kd ++ rowsOf [r] kd := by
        rw [take_more er]
        exact List.filter_append _ _
      refine ⟨_, rfl, ite2 (fun hc => ?_) (fun hc => ?_)⟩
      · have hc := of_decide_eq_true hc
        refine ⟨_, rfl, _, upd_same, ?_, ?_⟩
        · rw [List.length_map, sizeLine_eq]
          have := rowsOf_len (rows := rows.take i) (k := kd)
          rw [List.length_take] at this
          have := hR.len
          omega
        · rw [upd_upd, htk, List.map_append]
          show _ = upd H D (HO.lst (_ ++ (([r].filter fun r => decide (r.2.1 = kd)).map fun r => V.ref r.1)))
          rw [show ([r].filter fun r => decide (r.2.1 = kd)) = [r] from List.filter_cons_of_pos (decide_eq_true hc)]
          rfl
      · rw [htk]
        have e : rowsOf [r] kd = [] := List.filter_cons_of_neg (fun z => hc z)
        rw [e, List.append_nil]
    · rintro H2 rfl
      rw [List.length_map, List.take_length]
      have sD := same_upd (o := .lst ((rowsOf rows kd).map fun r => V.ref r.1)) nD
      have hD : (upd H D (.lst ((rowsOf rows kd).map fun r => V.ref r.1))) D = some (.lst ((rowsOf rows kd).map fun r => V.ref r.1)) := upd_same
      generalize upd H D (.lst ((rowsOf rows kd).map fun r => V.ref r.1)) = H2 at sD hD ⊢
      have P2 := hP.same sD
      have R2 := hR.same sD
      dsimp only [gName]
      refine seq_then (fun σ' H' => σ' = [some (.ref p), some (.str kd), some (.ref nm), some (.ref D), none, none] ∧ PoolAt H' p l ∧ But p H H') ?_ (fun N hN => ?_)
      · rintro σ' H3 ⟨rfl, P3, B3⟩
        refine ⟨_, rfl, rfl, _, rfl, ?_⟩
        rw [dec_str]
        refine ite2 (fun hb => ?_) (fun hb => ?_)
        · have hb : kd = kBool := of_decide_eq_true hb
          subst hb
          refine ⟨_, rfl, p, l, 2, rfl, P3, ⟨by decide, by decide⟩, fun v H4 _ _ P4 B4 => ⟨rfl, _, rfl, ite2 (fun _ => ?_) (fun _ => ?_)⟩⟩
          · refine ⟨(by show 1 ≤ sizeLine; decide), fun a na => ?_⟩
            have sa := same_upd (o := .tup [.str (Str.ofString "true")]) na
            exact k a _ _ (leaf_true upd_same) (leaf_size _ _) (leaf_ht _ _) (P4.same sa) ((B3.trans B4).trans (But.same sa))
          · refine ⟨(by show 1 ≤ sizeLine; decide), fun a na => ?_⟩
            have sa := same_upd (o := .tup [.str (Str.ofString "false")]) na
            exact k a _ _ (leaf_false upd_same) (leaf_size _ _) (leaf_ht _ _) (P4.same sa) ((B3.trans B4).trans (But.same sa))
        · have hi : kd = kInt := hk.resolve_right (fun z => hb (decide_eq_true z))
          subst hi
          refine ⟨_, rfl, p, l, 16, rfl, P3, ⟨by decide, by decide⟩, fun v H4 _ _ P4 B4 => ⟨_, rfl, rfl, _, rfl, ite2 (fun _ => ?_) (fun _ => ?_)⟩⟩
          · refine ⟨_, rfl, p, l, 1000000000, rfl, P4, ⟨by decide, by decide⟩, fun z H5 z0 z1 P5 B5 => ⟨(by show 2 ≤ sizeLine; decide), fun a na => ?_⟩⟩
            have sa := same_upd (o := .tup [.str (Str.ofString "num"), .int z]) na
            exact k a _ _ (leaf_num z0 z1 upd_same) (leaf_size _ _) (leaf_ht _ _) (P5.same sa) (((B3.trans B4).trans B5).trans (But.same sa))
          · refine ⟨_, rfl, _, _, rfl, rfl, (by show (0 : Int) < 5; decide), (by show 2 ≤ sizeLine; decide), fun a na => ?_⟩
            have sa := same_upd (o := .tup [.str (Str.ofString "num"), .int (v % 5)]) na
            exact k a _ _ (leaf_num (by omega) (by omega) upd_same) (leaf_size _ _) (leaf_ht _ _) (P4.same sa) ((B3.trans B4).trans (But.same sa))
      · refine ⟨_, rfl, D, _, rfl, .inl (SqL.of hD), _, _, rfl, rfl, _, rfl, ite2 (fun hg => ?_) (fun hg => ?_)⟩
        · have hg := of_decide_eq_true hg
          rw [List.length_map] at hg
          refine ⟨_, rfl, p, l, 3, rfl, P2, ⟨by decide, by decide⟩, fun v H3 _ _ P3 B3 => ⟨_, _, rfl, rfl, _, rfl, ite2 (fun _ => ?_) (fun _ => ?_)⟩⟩
          · have hD3 := B3 _ _ hD (hP.free nD)
            have R3 := R2.but B3 hn P2.notup
            have hbd : ((((rowsOf rows kd).map fun r => V.ref r.1).length : Nat) : Int).natAbs < 2 ^ 8000 := by
              rw [List.length_map]
              have := rowsOf_len (rows := rows) (k := kd)
              have := hR.len
              have e : (6 : Nat) < 2 ^ 8000 := Nat.lt_of_lt_of_le (by decide : 6 < 2 ^ 3) (Nat.pow_le_pow_right (by decide) (by decide))
              omega
            refine ⟨_, rfl, _, rfl, _, rfl, D, _, rfl, .inl (SqL.of hD3), p, l, _, rfl, P3, ⟨by rw [List.length_map]; exact hg, hbd⟩, fun u H4 u0 u1 P4 B4 => ?_⟩
            rw [List.length_map] at u1
            obtain ⟨r, hr2, er⟩ := pick_row u0 u1
            obtain ⟨hr3, hrk⟩ := rowsOf_mem hr2
            have hD4 := B4 _ _ hD3 (hP.free nD)
            have R4 := R3.but B4 hn P3.notup
            refine ⟨D, _, u, _, rfl, rfl, SqL.of hD4, er, r.1, _, 1, _, rfl, rfl, SqT.of (R4.row r hr3), rfl, (by show 2 ≤ sizeLine; decide), fun a na => ?_⟩
            have sa := same_upd (o := .tup [.str (Str.ofString "var"), .str r.2.2.1]) na
            exact k a _ _ (leaf_var upd_same (word_len hR hr3)) (leaf_size _ _) (leaf_ht _ _) (P4.same sa) ((((But.same sD).trans B3).trans B4).trans (But.same sa))
          · exact hN _ _ ⟨rfl, P3, (But.same sD).trans B3⟩
        · exact hN _ _ ⟨rfl, P2, But.same sD⟩
end
section
variable {P : Program} {w : World} {K : PySem.W.Frag} {mg : Str → Option Value} {base : Heap} {A : At}
theorem pow3 {n : Nat} (h : 1 ≤ n) : 3 ≤ 3 ^ n := Nat.le_trans (by decide : 3 ≤ 3 ^ 1) (Nat.pow_le_pow_right (by decide) h)
theorem pow3s {n : Nat} : 3 ^ (n + 1) = 3 * 3 ^ n := by rw [Nat.pow_succ]; omega
theorem no_lits : (∀ x ∈ ([] : List V), scalV x) ∧ ([] : List V).length ≤ 3 := ⟨fun x hx => (by cases hx), by decide⟩
theorem tags_ok : ∀ m ∈ intTags ++ cmpTags, m = txt "min" ∨ m = txt "max" ∨ ∃ r ∈ binTab, r.1 = m := by decide +kernel
theorem node1 {H : Hp} {Γ : Gam} {a b : Addr} {tag : Str} {t : Tr} {k kb : Str} (na : H a = none) (ib : IsTree H Γ b t kb) (hok : tag = txt "neg" ∨ tag = txt "not") :
    IsTree (upd H a (.tup [.str tag, .ref b])) Γ a (.mk tag [] [t]) k := by
  obtain ⟨x, l, hx⟩ := ib.ok
  refine ⟨tn (as := [b]) upd_same no_lits (t1 (ib.same (same_upd na)).at'), ?_⟩
  rcases hok with e | e
  · subst e; exact ⟨_, _, .neg hx⟩
  · subst e; exact ⟨_, _, .not hx⟩
theorem node2 {H : Hp} {Γ : Gam} {a b c : Addr} {tag : Str} {t u : Tr} {k kb : Str} (na : H a = none) (ib : IsTree H Γ b t kb) (ic : IsTree H Γ c u kb) (hm : tag ∈ intTags ++ cmpTags) :
    IsTree (upd H a (.tup [.str tag, .ref b, .ref c])) Γ a (.mk tag [] [t, u]) k := by
  obtain ⟨x, l, hx⟩ := ib.ok
  obtain ⟨y, m, hy⟩ := ic.ok
  refine ⟨tn (as := [b, c]) upd_same no_lits (t2 (ib.same (same_upd na)).at' (ic.same (same_upd na)).at'), ?_⟩
  rcases tags_ok tag hm with e | e | ⟨⟨q, lv, sg⟩, hr, e⟩
  · exact ⟨_, _, .mm tag (.inl e) hx hy⟩
  · exact ⟨_, _, .mm tag (.inr e) hx hy⟩
  · have e : q = tag := e
    subst e
    exact ⟨_, _, .bin q lv sg hr hx hy⟩
theorem node3 {H : Hp} {Γ : Gam} {a b c d : Addr} {t u v : Tr} {k : Str} (na : H a = none) (ib : IsTree H Γ b t kBool) (ic : IsTree H Γ c u k) (id' : IsTree H Γ d v k) :
    IsTree (upd H a (.tup [.str (Str.ofString "cond"), .ref b, .ref c, .ref d])) Γ a (.mk (Str.ofString "cond") [] [t, u, v]) k := by
  obtain ⟨x, l, hx⟩ := ib.ok
  obtain ⟨y, m, hy⟩ := ic.ok
  obtain ⟨z, n, hz⟩ := id'.ok
  exact ⟨tn (as := [b, c, d]) upd_same no_lits (t3 (ib.same (same_upd na)).at' (ic.same (same_upd na)).at' (id'.same (same_upd na)).at'), _, _, .cond hx hy hz⟩
theorem nodeItem {H : Hp} {Γ : Gam} {a b : Addr} {x : Str} {t : Tr} (na : H a = none) (ib : IsTree H Γ b t kInt) (hx : x.length ≤ 60) :
    IsTree (upd H a (.tup [.str (Str.ofString "item"), .str x, .ref b])) Γ a (.mk (Str.ofString "item") [.str x] [t]) kInt := by
  obtain ⟨y, l, hy⟩ := ib.ok
  exact ⟨tn (as := [b]) upd_same ⟨fun y hy => by rw [List.mem_singleton.mp hy]; exact trivial, by show 1 ≤ 3; decide⟩ (t1 (ib.same (same_upd na)).at'), _, _, .item x hx hy⟩
theorem size1 (tag : Str) (lits : List V) (t : Tr) : size (.mk tag lits [t]) = 1 + size t := by rw [size, sizes, sizes]; omega
theorem size2 (tag : Str) (lits : List V) (t u : Tr) : size (.mk tag lits [t, u]) = 1 + size t + size u := by rw [size, sizes, sizes, sizes]; omega
theorem size3 (tag : Str) (lits : List V) (t u v : Tr) : size (.mk tag lits [t, u, v]) = 1 + size t + size u + size v := by rw [size, sizes, sizes, sizes, sizes]; omega
theorem ht1 {tag : Str} {lits : List V} {t : Tr} {n : Nat} (h : ht t ≤ n) : ht (.mk tag lits [t]) ≤ n + 1 := by rw [ht, hts, hts]; omega
theorem ht2 {tag : Str} {lits : List V} {t u : Tr} {n : Nat} (h : ht t ≤ n) (h2 : ht u ≤ n) : ht (.mk tag lits [t, u]) ≤ n + 1 := by rw [ht, hts, hts, hts]; omega
theorem ht3 {tag : Str} {lits : List V} {t u v : Tr} {n : Nat} (h : ht t ≤ n) (h2 : ht u ≤ n) (h3 : ht v ≤ n) : ht (.mk tag lits [t, u, v]) ≤ n + 1 := by rw [ht, hts, hts, hts, hts]; omega
def spExpr (n : Nat) : Sp := fun vs H Q _ => ∃ (Γ : Gam) (p l nm : Addr) (k : Str) (rows : Rows) (d : Int), vs = [.ref p, .str k, .ref nm, .int d] ∧ PoolAt H p l ∧ RowsAt H nm rows ∧ nm ≠ p ∧ (k = kInt ∨ k = kBool) ∧ GamOk Γ rows ∧ (0 ≤ d ∧ d < n) ∧
  ∀ a t H', IsTree H' Γ a t k → 2 * size t + 1 ≤ 3 ^ n → ht t ≤ n → PoolAt H' p l → But p H H' → Q (.ref a) H'
theorem ok_expr (T : Txt K mg A) : ∀ n : Nat, FnOk P w K mg base CX0 (n + 4) A.a_law_expr A.d_law_expr ["pool", "kind", "names", "depth"] (spExpr n)
  | 0 => by
    refine T.t_law_expr.F.ok sc_law_expr (fun vs H Q E h => ?_) (fun cdv AA outer s H vs Q E hr h => ?_)
    · obtain ⟨Γ, p, l, nm, kd, rows, d, rfl, _⟩ := h
      rfl
    · obtain ⟨Γ, p, l, nm, kd, rows, d, rfl, _, _, _, _, _, ⟨h0, h1⟩, _⟩ := h
      exact absurd h1 (by show ¬ d < ((0 : Nat) : Int); omega)
  | n + 1 => by
    have G_law_draw : FnOk P w K mg base CX0 2 A.a_law_draw A.d_law_draw ["pool", "many"] spDraw := ok_draw T
    have G_law_leaf : FnOk P w K mg base CX0 3 A.a_law_leaf A.d_law_leaf ["pool", "kind", "names"] spLeaf := ok_leaf T
    have G_law_expr : FnOk P w K mg base CX0 (n + 4) A.a_law_expr A.d_law_expr ["pool", "kind", "names", "depth"] (spExpr n) := ok_expr T n
    refine T.t_law_expr.F.ok sc_law_expr (fun vs H Q E h => ?_) (fun cdv AA outer s H vs Q E hr h => ?_)
    · obtain ⟨Γ, p, l, nm, kd, rows, d, rfl, _⟩ := h
      rfl
    · obtain ⟨Γ, p, l, nm, kd, rows, d, rfl, hP, hR, hn, hk, hG, ⟨hd0, hd1⟩, k⟩ := h
      refine ⟨_, (pss_cons (ps_if (pt_cmpR op_le (pv 3) pe_int (nomark _)) (pss_one (ps_ret (pe_call G_law_leaf (hr.mono (by omega)) rfl T.t_law_leaf.g T.t_law_leaf.F.kp T.t_law_leaf.b .nil pass0 (pa_cons (pv 0) (pa_cons (pv 1) (pa_cons (pv 2) pa_nil)))))) pss_nil)
      (pss_cons (ps_set (i := 4) sc_law_expr.nd rfl (Or.inl rfl) (pe_call G_law_draw (hr.mono (by omega)) rfl T.t_law_draw.g T.t_law_draw.F.kp T.t_law_draw.b .nil pass0 (pa_cons (pv 0) (pa_cons pe_int pa_nil))))
      (pss_cons (ps_set (i := 5) sc_law_expr.nd rfl (Or.inl rfl) (pe_op op_sub (pv 3) pe_int))
      (pss_cons (ps_if (pt_cmpR op_eq (pv 4) pe_int (nomark _)) (pss_cons (ps_set (i := 6) sc_law_expr.nd rfl (Or.inl rfl) (pe_call G_law_expr hr rfl T.t_law_expr.g T.t_law_expr.F.kp T.t_law_expr.b .nil pass0 (pa_cons (pv 0) (pa_cons pe_str (pa_cons (pv 2) (pa_cons (pv 5) pa_nil))))))
      (pss_cons (ps_set (i := 7) sc_law_expr.nd rfl (Or.inl rfl) (pe_call G_law_expr hr rfl T.t_law_expr.g T.t_law_expr.F.kp T.t_law_expr.b .nil pass0 (pa_cons (pv 0) (pa_cons (pv 1) (pa_cons (pv 2) (pa_cons (pv 5) pa_nil))))))
      (pss_one (ps_ret (pe_tup (pa_cons pe_str (pa_cons (pv 6) (pa_cons (pv 7) (pa_cons (pe_call G_law_expr hr rfl T.t_law_expr.g T.t_law_expr.F.kp T.t_law_expr.b .nil pass0 (pa_cons (pv 0) (pa_cons (pv 1) (pa_cons (pv 2) (pa_cons (pv 5) pa_nil))))) pa_nil))))))))) pss_nil)
      (pss_cons (ps_if (pt_cmpR op_gt (pv 4) pe_int (nomark _)) (pss_one (ps_ret (pe_call G_law_leaf (hr.mono (by omega)) rfl T.t_law_leaf.g T.t_law_leaf.F.kp T.t_law_leaf.b .nil pass0 (pa_cons (pv 0) (pa_cons (pv 1) (pa_cons (pv 2) pa_nil)))))) pss_nil)
      (pss_cons (ps_if (pt_cmpR op_eq (pv 1) pe_str (nomark _)) (pss_cons (ps_if (pt_cmpR op_eq (pv 4) pe_int (nomark _)) (pss_one (ps_ret (pe_tup (pa_cons pe_str (pa_cons (pe_call G_law_expr hr rfl T.t_law_expr.g T.t_law_expr.F.kp T.t_law_expr.b .nil pass0 (pa_cons (pv 0) (pa_cons pe_str (pa_cons (pv 2) (pa_cons (pv 5) pa_nil))))) pa_nil))))) pss_nil)
      (pss_cons (ps_setLc (i := 9) (own := [("row", 8)]) (g := gName 8) (by rfl) sc_law_expr.nd rfl rfl (sw_true rfl rfl rfl (by decide +kernel)) (pi_list (pv 2)) (blkOk_by (own := [("row", 8)]) (N := ["pool", "kind", "names", "depth", "turn", "low", "test", "first", "row", "rows", "place", "tag", "inner"]) (sc := defScope s_law_expr) (by decide +kernel)) (fun _ _ _ _ _ => pg_name (i := 8) sc_law_expr.nd rfl (Or.inl rfl)) (fun _ _ _ _ _ => pts_one (pt_cmpR op_eq (pe_ix (show IxR _ (rIxT K) from ix_tup) (pv 8) pe_int (fun _ _ => rfl)) pe_str (nomark _))) (fun _ _ _ _ _ => (pv 8)))
      (pss_cons (ps_if (PW.pt (pw_and (pt_cmpR op_eq (pv 4) pe_int (nomark _)) (pw_and1 (pt_cmpR op_gt (pe_callB call_len_seq (by rfl) T.z_len PySem.boot_len (pa_cons (pv 9) pa_nil)) pe_int (nomark _))))) (pss_cons (ps_set (i := 8) sc_law_expr.nd rfl (Or.inl rfl) (pe_ix ix_list (pv 9) (pe_call G_law_draw (hr.mono (by omega)) rfl T.t_law_draw.g T.t_law_draw.F.kp T.t_law_draw.b .nil pass0 (pa_cons (pv 0) (pa_cons (pe_callB call_len_seq (by rfl) T.z_len PySem.boot_len (pa_cons (pv 9) pa_nil)) pa_nil))) (fun _ _ => rfl)))
      (pss_cons (ps_set (i := 10) sc_law_expr.nd rfl (Or.inl rfl) (pe_ifExp (pt_cmpR op_gt (pe_call G_law_draw (hr.mono (by omega)) rfl T.t_law_draw.g T.t_law_draw.F.kp T.t_law_draw.b .nil pass0 (pa_cons (pv 0) (pa_cons pe_int pa_nil))) pe_int (nomark _)) (pe_tup (pa_cons pe_str (pa_cons (pe_call G_law_draw (hr.mono (by omega)) rfl T.t_law_draw.g T.t_law_draw.F.kp T.t_law_draw.b .nil pass0 (pa_cons (pv 0) (pa_cons (pe_ix ix_tup (pv 8) pe_int (fun _ _ => rfl)) pa_nil))) pa_nil))) (pe_call G_law_expr hr rfl T.t_law_expr.g T.t_law_expr.F.kp T.t_law_expr.b .nil pass0 (pa_cons (pv 0) (pa_cons pe_str (pa_cons (pv 2) (pa_cons (pv 5) pa_nil)))))))
      (pss_one (ps_ret (pe_tup (pa_cons pe_str (pa_cons (pe_ix ix_tup (pv 8) pe_int (fun _ _ => rfl)) (pa_cons (pv 10) pa_nil)))))))) pss_nil)
      (pss_cons (ps_set (i := 11) sc_law_expr.nd rfl (Or.inl rfl) (pe_ix ix_tup (pe_tup (pa_cons pe_str (pa_cons pe_str (pa_cons pe_str (pa_cons pe_str (pa_cons pe_str (pa_cons pe_str (pa_cons pe_str (pa_cons pe_str (pa_cons pe_str (pa_cons pe_str (pa_cons pe_str pa_nil)))))))))))) (pv 4) (fun _ _ => rfl)))
      (pss_cons (ps_set (i := 7) sc_law_expr.nd rfl (Or.inl rfl) (pe_call G_law_expr hr rfl T.t_law_expr.g T.t_law_expr.F.kp T.t_law_expr.b .nil pass0 (pa_cons (pv 0) (pa_cons pe_str (pa_cons (pv 2) (pa_cons (pv 5) pa_nil))))))
      (pss_one (ps_ret (pe_tup (pa_cons (pv 11) (pa_cons (pv 7) (pa_cons (pe_call G_law_expr hr rfl T.t_law_expr.g T.t_law_expr.F.kp T.t_law_expr.b .nil pass0 (pa_cons (pv 0) (pa_cons pe_str (pa_cons (pv 2) (pa_cons (pv 5) pa_nil))))) pa_nil))))))))))) pss_nil)
      (pss_cons (ps_if (pt_cmpR op_eq (pv 4) pe_int (nomark _)) (pss_one (ps_ret (pe_tup (pa_cons pe_str (pa_cons (pe_call G_law_expr hr rfl T.t_law_expr.g T.t_law_expr.F.kp T.t_law_expr.b .nil pass0 (pa_cons (pv 0) (pa_cons pe_str (pa_cons (pv 2) (pa_cons (pv 5) pa_nil))))) pa_nil))))) pss_nil)
      (pss_cons (ps_set (i := 12) sc_law_expr.nd rfl (Or.inl rfl) pe_str)
      (pss_cons (ps_if (pt_cmpR op_gt (pv 4) pe_int (nomark _)) (pss_one (ps_set (i := 12) sc_law_expr.nd rfl (Or.inl rfl) pe_str)) pss_nil)
      (pss_cons (ps_set (i := 11) sc_law_expr.nd rfl (Or.inl rfl) (pe_ix ix_tup (pe_tup (pa_cons pe_str (pa_cons pe_str (pa_cons pe_str (pa_cons pe_str (pa_cons pe_str (pa_cons pe_str (pa_cons pe_str (pa_cons pe_str (pa_cons pe_str (pa_cons pe_str (pa_cons pe_str pa_nil)))))))))))) (pv 4) (fun _ _ => rfl)))
      (pss_cons (ps_set (i := 7) sc_law_expr.nd rfl (Or.inl rfl) (pe_call G_law_expr hr rfl T.t_law_expr.g T.t_law_expr.F.kp T.t_law_expr.b .nil pass0 (pa_cons (pv 0) (pa_cons (pv 12) (pa_cons (pv 2) (pa_cons (pv 5) pa_nil))))))
      (pss_one (ps_ret (pe_tup (pa_cons (pv 11) (pa_cons (pv 7) (pa_cons (pe_call G_law_expr hr rfl T.t_law_expr.g T.t_law_expr.F.kp T.t_law_expr.b .nil pass0 (pa_cons (pv 0) (pa_cons (pv 12) (pa_cons (pv 2) (pa_cons (pv 5) pa_nil))))) pa_nil))))))))))))))))), ?_⟩
      refine ⟨_, rfl, _, _, rfl, rfl, _, rfl, ite2 (fun hd => ?_) (fun hd => ?_)⟩
      · refine ⟨_, rfl, _, rfl, _, rfl, Γ, p, l, nm, kd, rows, rfl, hP, hR, hn, hk, hG, fun a t H1 i1 s1 h1 P1 B1 => ?_⟩
        exact k a t H1 i1 (by rw [s1]; exact pow3 (by omega)) (by omega) P1 B1
      have hd : 1 ≤ d := by
        have h := of_decide_eq_false (Bool.eq_false_iff.mpr hd)
        omega
      have hn1 : 1 ≤ n := by omega
      refine ⟨_, rfl, p, l, 14, rfl, hP, ⟨by decide, by decide⟩, fun v H1 v0 v1 P1 B1 => ?_⟩
      have R1 := hR.but B1 hn hP.notup
      refine ⟨_, rfl, _, _, rfl, rfl, _, rfl, rfl, _, rfl, ite2 (fun h0 => ?_) (fun h0 => ?_)⟩
      · -- a conditional expression
        refine ⟨_, rfl, _, rfl, _, rfl, Γ, p, l, nm, kBool, rows, d - 1, rfl, P1, R1, hn, .inr rfl, hG, ⟨by omega, by omega⟩, fun a1 x1 H2 i1 z1 h1 P2 B2 => ?_⟩
        have R2 := R1.but B2 hn P1.notup
        refine ⟨_, rfl, _, rfl, _, rfl, _, rfl, Γ, p, l, nm, kd, rows, d - 1, rfl, P2, R2, hn, hk, hG, ⟨by omega, by omega⟩, fun a2 x2 H3 i2 z2 h2 P3 B3 => ?_⟩
        have R3 := R2.but B3 hn P2.notup
        refine ⟨_, rfl, _, rfl, _, rfl, _, rfl, _, rfl, _, rfl, Γ, p, l, nm, kd, rows, d - 1, rfl, P3, R3, hn, hk, hG, ⟨by omega, by omega⟩, fun a3 x3 H4 i3 z3 h3 P4 B4 => ⟨(by show 4 ≤ sizeLine; decide), fun a na => ?_⟩⟩
        have sa := same_upd (o := .tup [.str (Str.ofString "cond"), .ref a1, .ref a2, .ref a3]) na
        exact k a _ _ (node3 na ((i1.but B3 P2.notup).but B4 P3.notup) (i2.but B4 P3.notup) i3) (by rw [size3, pow3s]; omega) (ht3 h1 h2 h3) (P4.same sa) ((((B1.trans B2).trans B3).trans B4).trans (But.same sa))
      refine ⟨_, rfl, _, _, rfl, rfl, _, rfl, ite2 (fun h10 => ?_) (fun h10 => ?_)⟩
      · refine ⟨_, rfl, _, rfl, _, rfl, Γ, p, l, nm, kd, rows, rfl, P1, R1, hn, hk, hG, fun a t H2 i1 s1 h1 P2 B2 => ?_⟩
        exact k a t H2 i1 (by rw [s1]; exact pow3 (by omega)) (by omega) P2 (B1.trans B2)
      have h10 : v ≤ 10 := by
        have h := of_decide_eq_false (Bool.eq_false_iff.mpr h10)
        omega
      refine ⟨_, rfl, rfl, _, rfl, ?_⟩
      rw [dec_str]
      refine ite2 (fun hb => ?_) (fun hb => ?_)
      · -- integers
        have hb : kd = kInt := of_decide_eq_true hb
        subst hb
        refine ⟨_, rfl, rfl, _, rfl, ite2 (fun h1 => ?_) (fun h1 => ?_)⟩
        · refine ⟨_, rfl, _, rfl, _, rfl, Γ, p, l, nm, kInt, rows, d - 1, rfl, P1, R1, hn, .inl rfl, hG, ⟨by omega, by omega⟩, fun a1 x1 H2 i1 z1 h1 P2 B2 => ⟨(by show 2 ≤ sizeLine; decide), fun a na => ?_⟩⟩
          have sa := same_upd (o := .tup [.str (Str.ofString "neg"), .ref a1]) na
          exact k a _ _ (node1 na i1 (by decide +kernel)) (by rw [size1, pow3s]; omega) (ht1 h1) (P2.same sa) ((B1.trans B2).trans (But.same sa))
        · refine ⟨_, rfl, nm, rfl, ⟨_, SqL.of R1.lst⟩, fun D nD => ?_⟩
          refine lc_list (K := K) (a := nm) (xs := rows.map fun r => V.ref r.1) (fun i H2 => H2 = upd H1 D (.lst ((rowsOf (rows.take i) kArr).map fun r => V.ref r.1))) rfl (fun i H2 _ e => by rw [e]; exact SqL.of (same_upd nD _ _ R1.lst)) ?_ ?_
          · rintro i y H2 hi rfl
            rw [List.getElem?_map] at hi
            obtain ⟨r, er, rfl⟩ := Option.map_eq_some_iff.mp hi
            refine ⟨rfl, ?_⟩
            refine ⟨_, rfl, r.1, _, 0, _, rfl, rfl, SqT.of (same_upd nD _ _ (R1.row r (List.mem_of_getElem? er))), rfl, rfl, ?_⟩
            rw [dec_str]
            have htk : rowsOf (rows.take (i + 1)) kArr = rowsOf (rows.take i) kArr ++ rowsOf [r] kArr := by
              rw [take_more er]
              exact List.filter_append _ _
            refine ⟨_, rfl, ite2 (fun hc => ?_) (fun hc => ?_)⟩
            · have hc : r.2.1 = kArr := of_decide_eq_true hc
              refine ⟨_, rfl, _, upd_same, ?_, ?_⟩
              · rw [List.length_map, sizeLine_eq]
                have := rowsOf_len (rows := rows.take i) (k := kArr)
                rw [List.length_take] at this
                have := hR.len
                omega
              · rw [upd_upd, htk, List.map_append]
                show _ = upd H1 D (HO.lst (_ ++ (([r].filter fun r => decide (r.2.1 = kArr)).map fun r => V.ref r.1)))
                rw [show ([r].filter fun r => decide (r.2.1 = kArr)) = [r] from List.filter_cons_of_pos (decide_eq_true hc)]
                rfl
            · rw [htk]
              have e : rowsOf [r] kArr = [] := List.filter_cons_of_neg (fun z => hc z)
              rw [e, List.append_nil]
          · rintro H2 rfl
            rw [List.length_map, List.take_length]
            have sD := same_upd (o := .lst ((rowsOf rows kArr).map fun r => V.ref r.1)) nD
            have hD : (upd H1 D (.lst ((rowsOf rows kArr).map fun r => V.ref r.1))) D = some (.lst ((rowsOf rows kArr).map fun r => V.ref r.1)) := upd_same
            generalize upd H1 D (.lst ((rowsOf rows kArr).map fun r => V.ref r.1)) = H2 at sD hD ⊢
            have P2 := P1.same sD
            have R2 := R1.same sD
            have B2 : But p H1 H2 := But.same sD
            dsimp only [gName]
            refine seq_then (fun σ' H' => σ' = [some (.ref p), some (.str kInt), some (.ref nm), some (.int d), some (.int v), some (.int (d - 1)), none, none, none, some (.ref D), none, none, none] ∧ H' = H2) ?_ (fun N hN => ?_)
            · rintro σ' H' ⟨rfl, rfl⟩
              refine ⟨(by show 11 ≤ sizeLine; decide), fun c nc => ?_⟩
              have sc := same_upd (o := .tup (intTags.map V.str)) nc
              obtain ⟨m, hm, _, em⟩ := pick_str (ms := intTags) v0 (by show v < 11; omega)
              obtain ⟨c1, c2, c3, c4, c5⟩ := int_tag m hm
              refine ⟨_, rfl, c, _, v, _, rfl, rfl, SqT.of upd_same, em, ?_⟩
              have P3 := P2.same sc
              have R3 := R2.same sc
              have B3 : But p H' (upd H' c (.tup (intTags.map V.str))) := But.same sc
              refine ⟨_, rfl, _, rfl, _, rfl, Γ, p, l, nm, kInt, rows, d - 1, rfl, P3, R3, hn, .inl rfl, hG, ⟨by omega, by omega⟩, fun a1 x1 H4 i1 z1 h1 P4 B4 => ?_⟩
              have R4 := R3.but B4 hn P3.notup
              refine ⟨_, rfl, _, rfl, _, rfl, _, rfl, _, rfl, Γ, p, l, nm, kInt, rows, d - 1, rfl, P4, R4, hn, .inl rfl, hG, ⟨by omega, by omega⟩, fun a2 x2 H5 i2 z2 h2 P5 B5 => ⟨(by show 3 ≤ sizeLine; decide), fun a na => ?_⟩⟩
              have sa := same_upd (o := .tup [.str m, .ref a1, .ref a2]) na
              exact k a _ _ (node2 na (i1.but B5 P4.notup) i2 (List.mem_append_left _ hm)) (by rw [size2, pow3s]; omega) (ht2 h1 h2) (P5.same sa) (((((B1.trans B2).trans B3).trans B4).trans B5).trans (But.same sa))
            · refine ⟨_, rfl, rfl, _, rfl, ite2 (fun h2 => ?_) (fun h2 => ?_)⟩
              · refine ⟨_, rfl, D, _, rfl, .inl (SqL.of hD), _, _, rfl, rfl, _, rfl, ite2 (fun hg => ?_) (fun hg => ?_)⟩
                · have hg := of_decide_eq_true hg
                  rw [List.length_map] at hg
                  have hbd : ((((rowsOf rows kArr).map fun r => V.ref r.1).length : Nat) : Int).natAbs < 2 ^ 8000 := by
                    rw [List.length_map]
                    have := rowsOf_len (rows := rows) (k := kArr)
                    have := hR.len
                    have e : (6 : Nat) < 2 ^ 8000 := Nat.lt_of_lt_of_le (by decide : 6 < 2 ^ 3) (Nat.pow_le_pow_right (by decide) (by decide))
                    omega
                  refine ⟨_, rfl, _, rfl, _, rfl, D, _, rfl, .inl (SqL.of hD), p, l, _, rfl, P2, ⟨by rw [List.length_map]; exact hg, hbd⟩, fun u H4 u0 u1 P4 B4 => ?_⟩
                  rw [List.length_map] at u1
                  obtain ⟨r, hr2, er⟩ := pick_row u0 u1
                  obtain ⟨hr3, hrk⟩ := rowsOf_mem hr2
                  have hD4 := B4 _ _ hD (P1.free nD)
                  have R4 := R2.but B4 hn P2.notup
                  refine ⟨D, _, u, _, rfl, rfl, SqL.of hD4, er, ?_⟩
                  refine ⟨_, rfl, p, l, 3, rfl, P4, ⟨by decide, by decide⟩, fun y H5 _ _ P5 B5 => ⟨_, _, rfl, rfl, _, rfl, ?_⟩⟩
                  have R5 := R4.but B5 hn P4.notup
                  obtain ⟨q0, q1⟩ := R5.size r hr3 hrk
                  refine ite2 (fun _ => ?_) (fun _ => ?_)
                  · have hb2 : (r.2.2.2).natAbs < 2 ^ 8000 := by
                      have e : (6 : Nat) < 2 ^ 8000 := Nat.lt_of_lt_of_le (by decide : 6 < 2 ^ 3) (Nat.pow_le_pow_right (by decide) (by decide))
                      omega
                    refine ⟨_, rfl, _, rfl, r.1, _, 2, _, rfl, rfl, SqT.of (R5.row r hr3), rfl, p, l, r.2.2.2, rfl, P5, ⟨by omega, hb2⟩, fun z H6 z0 z1 P6 B6 => ⟨(by show 2 ≤ sizeLine; decide), fun c nc => ?_⟩⟩
                    have R6 := R5.but B6 hn P5.notup
                    have sc := same_upd (o := .tup [.str (Str.ofString "num"), .int z]) nc
                    have i1 : IsTree (upd H6 c (.tup [.str (Str.ofString "num"), .int z])) Γ c (.mk (Str.ofString "num") [.int z] []) kInt := leaf_num z0 (by omega) upd_same
                    refine ⟨_, rfl, r.1, _, 1, _, rfl, rfl, SqT.of ((R6.same sc).row r hr3), rfl, _, rfl, (by show 3 ≤ sizeLine; decide), fun a na => ?_⟩
                    have sa := same_upd (o := .tup [.str (Str.ofString "item"), .str r.2.2.1, .ref c]) na
                    exact k a _ _ (nodeItem na i1 (word_len hR hr3)) (by rw [size1, leaf_size, pow3s]; have := pow3 hn1; omega) (ht1 (by rw [leaf_ht]; exact hn1)) ((P6.same sc).same sa) (((((((B1.trans B2).trans B4).trans B5).trans B6).trans (But.same sc)).trans (But.same sa)))
                  · refine ⟨_, rfl, _, rfl, _, rfl, Γ, p, l, nm, kInt, rows, d - 1, rfl, P5, R5, hn, .inl rfl, hG, ⟨by omega, by omega⟩, fun a1 x1 H6 i1 z1 h1 P6 B6 => ?_⟩
                    have R6 := R5.but B6 hn P5.notup
                    refine ⟨_, rfl, r.1, _, 1, _, rfl, rfl, SqT.of (R6.row r hr3), rfl, _, rfl, (by show 3 ≤ sizeLine; decide), fun a na => ?_⟩
                    have sa := same_upd (o := .tup [.str (Str.ofString "item"), .str r.2.2.1, .ref a1]) na
                    exact k a _ _ (nodeItem na i1 (word_len hR hr3)) (by rw [size1, pow3s]; omega) (ht1 h1) (P6.same sa) (((((B1.trans B2).trans B4).trans B5).trans B6).trans (But.same sa))
                · exact hN _ _ ⟨rfl, rfl⟩
              · exact hN _ _ ⟨rfl, rfl⟩
      · -- booleans
        have hb : kd = kBool := hk.resolve_left (fun z => hb (decide_eq_true z))
        subst hb
        refine ⟨_, rfl, rfl, _, rfl, ite2 (fun h1 => ?_) (fun h1 => ?_)⟩
        · refine ⟨_, rfl, _, rfl, _, rfl, Γ, p, l, nm, kBool, rows, d - 1, rfl, P1, R1, hn, .inr rfl, hG, ⟨by omega, by omega⟩, fun a1 x1 H2 i1 z1 h1 P2 B2 => ⟨(by show 2 ≤ sizeLine; decide), fun a na => ?_⟩⟩
          have sa := same_upd (o := .tup [.str (Str.ofString "not"), .ref a1]) na
          exact k a _ _ (node1 na i1 (by decide +kernel)) (by rw [size1, pow3s]; omega) (ht1 h1) (P2.same sa) ((B1.trans B2).trans (But.same sa))
        · dsimp only [tNext]
          refine seq_then (fun σ' H' => σ' = [some (.ref p), some (.str kBool), some (.ref nm), some (.int d), some (.int v), some (.int (d - 1)), none, none, none, none, none, none, some (.str kInt)] ∧ H' = H1) ?_ (fun N hN => hN _ _ ⟨rfl, rfl⟩)
          rintro σ' H' ⟨rfl, rfl⟩
          refine seq_then (fun σ' H2 => ∃ ki, σ' = [some (.ref p), some (.str kBool), some (.ref nm), some (.int d), some (.int v), some (.int (d - 1)), none, none, none, none, none, none, some (.str ki)] ∧ H2 = H' ∧ (ki = kInt ∨ ki = kBool) ∧ okParts (cmpTags.getD v.toNat Str.empty) [ki, ki] = true) ?_ (fun N hN => ?_)
          · rintro σ' H2 ⟨ki, rfl, rfl, hki, hok⟩
            refine ⟨(by show 11 ≤ sizeLine; decide), fun c nc => ?_⟩
            have sc := same_upd (o := .tup (cmpTags.map V.str)) nc
            obtain ⟨m, hm, hmv, em⟩ := pick_str (ms := cmpTags) v0 (by show v < 11; omega)
            obtain ⟨c2, c3, c4, c5⟩ := cmp_tag m hm
            have c1 : okParts m [ki, ki] = true := by
              rw [List.getD_eq_getElem?_getD, hmv] at hok
              exact hok
            refine ⟨_, rfl, c, _, v, _, rfl, rfl, SqT.of upd_same, em, ?_⟩
            have P3 := P1.same sc
            have R3 := R1.same sc
            have B3 : But p H2 (upd H2 c (.tup (cmpTags.map V.str))) := But.same sc
            refine ⟨_, rfl, _, rfl, _, rfl, _, rfl, Γ, p, l, nm, ki, rows, d - 1, rfl, P3, R3, hn, hki, hG, ⟨by omega, by omega⟩, fun a1 x1 H4 i1 z1 h1 P4 B4 => ?_⟩
            have R4 := R3.but B4 hn P3.notup
            refine ⟨_, rfl, _, rfl, _, rfl, _, rfl, _, rfl, _, rfl, Γ, p, l, nm, ki, rows, d - 1, rfl, P4, R4, hn, hki, hG, ⟨by omega, by omega⟩, fun a2 x2 H5 i2 z2 h2 P5 B5 => ⟨(by show 3 ≤ sizeLine; decide), fun a na => ?_⟩⟩
            have sa := same_upd (o := .tup [.str m, .ref a1, .ref a2]) na
            exact k a _ _ (node2 na (i1.but B5 P4.notup) i2 (List.mem_append_right _ hm)) (by rw [size2, pow3s]; omega) (ht2 h1 h2) (P5.same sa) ((((B1.trans B3).trans B4).trans B5).trans (But.same sa))
          · refine ⟨_, rfl, _, _, rfl, rfl, _, rfl, ite2 (fun h6 => ?_) (fun h6 => ?_)⟩
            · have h6 := of_decide_eq_true h6
              exact hN _ _ ⟨kBool, rfl, rfl, .inr rfl, cmp_high _ (List.mem_range.mpr (by omega)) (by omega)⟩
            · have h6 : v ≤ 6 := by
                have h := of_decide_eq_false (Bool.eq_false_iff.mpr h6)
                omega
              exact hN _ _ ⟨kInt, rfl, rfl, .inl rfl, cmp_low _ (List.mem_range.mpr (by omega))⟩
end
section
variable {P : Program} {w : World} {K : PySem.W.Frag} {mg : Str → Option Value} {base : Heap} {A : At}
abbrev k7 : List (Key × V) := [(.inr (txt "add"), .str (txt "+")), (.inr (txt "sub"), .str (txt "-")), (.inr (txt "mul"), .str (txt "*")), (.inr (txt "eq"), .str (txt "=")), (.inr (txt "ne"), .str (txt "!=")), (.inr (txt "lt"), .str (txt "<")), (.inr (txt "le"), .str (txt "<="))]
abbrev k13 : List (Key × V) := [(.inr (txt "or"), .int 1), (.inr (txt "and"), .int 2), (.inr (txt "eq"), .int 3), (.inr (txt "ne"), .int 3), (.inr (txt "lt"), .int 3), (.inr (txt "le"), .int 3), (.inr (txt "add"), .int 4), (.inr (txt "sub"), .int 4), (.inr (txt "mul"), .int 5), (.inr (txt "div"), .int 5), (.inr (txt "mod"), .int 5), (.inr (txt "neg"), .int 6), (.inr (txt "not"), .int 6)]
theorem tab_law : ∀ r ∈ binTab, (valV k13 (Sum.inr r.1 : Key)).getD (.int 7) = .int r.2.1 ∧ (valV k7 (Sum.inr r.1 : Key)).getD (.str r.1) = .str r.2.2 ∧ inV (.str r.1) [.str (txt "num"), .str (txt "var"), .str (txt "true"), .str (txt "false")] = false ∧ r.1 ≠ txt "item" ∧ r.1 ≠ txt "min" ∧ r.1 ≠ txt "max" ∧ r.1 ≠ txt "cond" ∧ r.1 ≠ txt "neg" ∧ r.1 ≠ txt "not" := by decide +kernel
theorem shown_lev {t : Tr} {x : Str} {l : Int} (h : Shown t x l) : ∃ tag lits subs, t = .mk tag lits subs ∧ (valV k13 (Sum.inr tag : Key)).getD (.int 7) = .int l := by
  cases h with
  | num n h => exact ⟨_, _, _, rfl, by decide +kernel⟩
  | var x h => exact ⟨_, _, _, rfl, by decide +kernel⟩
  | tru => exact ⟨_, _, _, rfl, by decide +kernel⟩
  | fls => exact ⟨_, _, _, rfl, by decide +kernel⟩
  | neg h => exact ⟨_, _, _, rfl, by decide +kernel⟩
  | not h => exact ⟨_, _, _, rfl, by decide +kernel⟩
  | bin tag lv sg hr h k => exact ⟨_, _, _, rfl, (tab_law _ hr).1⟩
  | mm tag hr h k =>
    refine ⟨_, _, _, rfl, ?_⟩
    rcases hr with e | e <;> rw [e] <;> decide +kernel
  | cond h k j => exact ⟨_, _, _, rfl, by decide +kernel⟩
  | item x h k => exact ⟨_, _, _, rfl, by decide +kernel⟩
theorem shown_pos {t : Tr} {x : Str} {l : Int} (h : Shown t x l) : 1 ≤ l := by
  have hb : ∀ r ∈ binTab, 1 ≤ r.2.1 := by decide +kernel
  cases h <;> first | decide | exact hb _ (by assumption)
theorem brk_one {t : Tr} {x : Str} {l : Int} (h : Shown t x l) : brk 1 l x = x := if_neg (by have := shown_pos h; omega)
def spLShow (n : Nat) : Sp := fun vs H Q _ => ∃ (a : Addr) (t : Tr) (x : Str) (l least : Int), vs = [.ref a, .int least, .non] ∧ TreeAt H t a ∧ Shown t x l ∧ ht t ≤ n ∧ size t ≤ 1000 ∧ ∀ H', Same H H' → Q (.str (brk least l x)) H'
theorem ok_lshow (T : Txt K mg A) : ∀ n : Nat, FnOk P w K mg base CX0 (n + 3) A.a_law_show A.d_law_show ["tree", "least", "pool"] (spLShow n)
  | 0 => by
    refine T.t_law_show.F.ok sc_law_show (fun vs H Q E h => ?_) (fun cdv AA outer s H vs Q E hr h => ?_)
    · obtain ⟨a, t, x, l, least, rfl, _⟩ := h
      rfl
    · obtain ⟨a, t, x, l, least, rfl, _, _, h0, _⟩ := h
      have := ht_pos' t
      omega
  | n + 1 => by
    have G_law_draw : FnOk P w K mg base CX0 2 A.a_law_draw A.d_law_draw ["pool", "many"] spDraw := ok_draw T
    have G_law_show : FnOk P w K mg base CX0 (n + 3) A.a_law_show A.d_law_show ["tree", "least", "pool"] (spLShow n) := ok_lshow T n
    refine T.t_law_show.F.ok sc_law_show (fun vs H Q E h => ?_) (fun cdv AA outer s H vs Q E hr h => ?_)
    · obtain ⟨a, t, x, l, least, rfl, _⟩ := h
      rfl
    · obtain ⟨a, t, x, l, least, rfl, hta, hs, hh, hz, k⟩ := h
      obtain ⟨tag, lits, subs, rfl, hlev⟩ := shown_lev hs
      obtain ⟨xs, hax⟩ := tree_tag hta
      refine ⟨_, (pss_cons (ps_set (i := 3) sc_law_show.nd rfl (Or.inl rfl) (pe_ix ix_tup (pv 0) pe_int (fun _ _ => rfl)))
      (pss_cons (ps_set (i := 4) sc_law_show.nd rfl (Or.inl rfl) (pe_disp (pps_cons pe_str pe_str (pps_cons pe_str pe_str (pps_cons pe_str pe_str (pps_cons pe_str pe_str (pps_cons pe_str pe_str (pps_cons pe_str pe_str (pps_cons pe_str pe_str pps_nil))))))) rfl rfl (by simp) (by decide)))
      (pss_cons (ps_set (i := 5) sc_law_show.nd rfl (Or.inl rfl) (pe_dget2 (hu_of hr) (pe_disp (pps_cons pe_str pe_int (pps_cons pe_str pe_int (pps_cons pe_str pe_int (pps_cons pe_str pe_int (pps_cons pe_str pe_int (pps_cons pe_str pe_int (pps_cons pe_str pe_int (pps_cons pe_str pe_int (pps_cons pe_str pe_int (pps_cons pe_str pe_int (pps_cons pe_str pe_int (pps_cons pe_str pe_int (pps_cons pe_str pe_int pps_nil))))))))))))) rfl rfl (by simp) (by decide)) (pv 3) pe_int ⟨rfl, rfl, rfl, rfl⟩))
      (pss_cons (ps_if (pt_cmpR op_in_seq (pv 3) (pe_tup (pa_cons pe_str (pa_cons pe_str (pa_cons pe_str (pa_cons pe_str pa_nil))))) (by rfl)) (pss_one (ps_set (i := 6) sc_law_show.nd rfl (Or.inl rfl) (pe_callTy call_str_any (by rfl) T.z_str PyProof.Rows.boot_str (pa_cons (pe_ix ix_tup (pv 0) (pe_un un_neg pe_int) (fun _ _ => rfl)) pa_nil)))) (pss_one (ps_if (pt_cmpR op_eq (pv 3) pe_str (nomark _)) (pss_one (ps_set (i := 6) sc_law_show.nd rfl (Or.inl rfl) (pe_op op_add_str (pe_op op_add_str (pe_op op_add_str (pe_ix ix_tup (pv 0) pe_int (fun _ _ => rfl)) pe_str) (pe_call G_law_show hr rfl T.t_law_show.g T.t_law_show.F.kp T.t_law_show.b .nil pass0 (pa_cons (pe_ix ix_tup (pv 0) pe_int (fun _ _ => rfl)) (pa_cons pe_int (pa_cons (pv 2) pa_nil))))) pe_str))) (pss_one (ps_if (PW.pt (pw_or (pt_cmpR op_eq (pv 3) pe_str (nomark _)) (pw_or1 (pt_cmpR op_eq (pv 3) pe_str (nomark _))))) (pss_one (ps_set (i := 6) sc_law_show.nd rfl (Or.inl rfl) (pe_op op_add_str (pe_op op_add_str (pe_op op_add_str (pe_op op_add_str (pe_op op_add_str (pv 3) pe_str) (pe_call G_law_show hr rfl T.t_law_show.g T.t_law_show.F.kp T.t_law_show.b .nil pass0 (pa_cons (pe_ix ix_tup (pv 0) pe_int (fun _ _ => rfl)) (pa_cons pe_int (pa_cons (pv 2) pa_nil))))) pe_str) (pe_call G_law_show hr rfl T.t_law_show.g T.t_law_show.F.kp T.t_law_show.b .nil pass0 (pa_cons (pe_ix ix_tup (pv 0) pe_int (fun _ _ => rfl)) (pa_cons pe_int (pa_cons (pv 2) pa_nil))))) pe_str))) (pss_one (ps_if (pt_cmpR op_eq (pv 3) pe_str (nomark _)) (pss_cons (ps_set (i := 6) sc_law_show.nd rfl (Or.inl rfl) (pe_op op_add_str (pe_op op_add_str (pe_op op_add_str pe_str (pe_call G_law_show hr rfl T.t_law_show.g T.t_law_show.F.kp T.t_law_show.b .nil pass0 (pa_cons (pe_ix ix_tup (pv 0) pe_int (fun _ _ => rfl)) (pa_cons pe_int (pa_cons (pv 2) pa_nil))))) pe_str) (pe_call G_law_show hr rfl T.t_law_show.g T.t_law_show.F.kp T.t_law_show.b .nil pass0 (pa_cons (pe_ix ix_tup (pv 0) pe_int (fun _ _ => rfl)) (pa_cons pe_int (pa_cons (pv 2) pa_nil))))))
      (pss_one (ps_set (i := 6) sc_law_show.nd rfl (Or.inl rfl) (pe_op op_add_str (pe_op op_add_str (pe_op op_add_str (pv 6) pe_str) (pe_call G_law_show hr rfl T.t_law_show.g T.t_law_show.F.kp T.t_law_show.b .nil pass0 (pa_cons (pe_ix ix_tup (pv 0) pe_int (fun _ _ => rfl)) (pa_cons pe_int (pa_cons (pv 2) pa_nil))))) pe_str)))) (pss_one (ps_if (pt_cmpR op_eq (pv 3) pe_str (nomark _)) (pss_one (ps_set (i := 6) sc_law_show.nd rfl (Or.inl rfl) (pe_op op_add_str pe_str (pe_call G_law_show hr rfl T.t_law_show.g T.t_law_show.F.kp T.t_law_show.b .nil pass0 (pa_cons (pe_ix ix_tup (pv 0) pe_int (fun _ _ => rfl)) (pa_cons pe_int (pa_cons (pv 2) pa_nil))))))) (pss_one (ps_if (pt_cmpR op_eq (pv 3) pe_str (nomark _)) (pss_one (ps_set (i := 6) sc_law_show.nd rfl (Or.inl rfl) (pe_op op_add_str pe_str (pe_call G_law_show hr rfl T.t_law_show.g T.t_law_show.F.kp T.t_law_show.b .nil pass0 (pa_cons (pe_ix ix_tup (pv 0) pe_int (fun _ _ => rfl)) (pa_cons pe_int (pa_cons (pv 2) pa_nil))))))) (pss_cons (ps_set (i := 7) sc_law_show.nd rfl (Or.inl rfl) (pe_call G_law_show hr rfl T.t_law_show.g T.t_law_show.F.kp T.t_law_show.b .nil pass0 (pa_cons (pe_ix ix_tup (pv 0) pe_int (fun _ _ => rfl)) (pa_cons (pe_ifExp (pt_cmpR op_eq (pv 5) pe_int (nomark _)) pe_int (pv 5)) (pa_cons (pv 2) pa_nil)))))
      (pss_one (ps_set (i := 6) sc_law_show.nd rfl (Or.inl rfl) (pe_op op_add_str (pe_op op_add_str (pe_op op_add_str (pe_op op_add_str (pv 7) pe_str) (pe_dget2 (hu_of hr) (pv 4) (pv 3) (pv 3) ⟨rfl, rfl, rfl, rfl⟩)) pe_str) (pe_call G_law_show hr rfl T.t_law_show.g T.t_law_show.F.kp T.t_law_show.b .nil pass0 (pa_cons (pe_ix ix_tup (pv 0) pe_int (fun _ _ => rfl)) (pa_cons (pe_op op_add (pv 5) pe_int) (pa_cons (pv 2) pa_nil)))))))))))))))))))
      (pss_cons (ps_if (PW.pt (pw_or (pt_cmpR op_lt (pv 5) (pv 1) (nomark _)) (pw_or1 (PW.pt (pw_and (pt_cmp (pc_notN (pv 2))) (pw_and1 (pt_cmpR op_eq (pe_call G_law_draw (hr.mono (by omega)) rfl T.t_law_draw.g T.t_law_draw.F.kp T.t_law_draw.b .nil pass0 (pa_cons (pv 2) (pa_cons pe_int pa_nil))) pe_int (nomark _)))))))) (pss_one (ps_ret (pe_op op_add_str (pe_op op_add_str pe_str (pv 6)) pe_str))) pss_nil)
      (pss_one (ps_ret (pv 6)))))))), ?_⟩
      refine ⟨_, rfl, a, _, 0, _, rfl, rfl, SqT.of hax, atI_nat (j := 0) rfl, ?_⟩
      refine fun d1 nd1 => ⟨upd_same, k7, rfl, (by show 7 ≤ 15; decide), ?_⟩
      have em7 : mergeK [] k7 = k7 := by decide +kernel
      rw [upd_upd, em7]
      have s1 := same_upd (o := .dK k7) nd1
      have hd1 : (upd H d1 (.dK k7)) d1 = some (.dK k7) := upd_same
      have ht1 := hta.same s1 _ _
      generalize upd H d1 (.dK k7) = H1 at s1 hd1 ht1 ⊢
      refine fun d2 nd2 => ⟨upd_same, k13, rfl, (by show 13 ≤ 15; decide), ?_⟩
      have em13 : mergeK [] k13 = k13 := by decide +kernel
      rw [upd_upd, em13]
      have s2 := same_upd (o := .dK k13) nd2
      have hd2 : (upd H1 d2 (.dK k13)) d2 = some (.dK k13) := upd_same
      have ht2 := ht1.same s2 _ _
      have hd12 := s2 _ _ hd1
      generalize upd H1 d2 (.dK k13) = H2 at s2 hd2 ht2 hd12 ⊢
      refine ⟨d2, rfl, .inl ⟨_, Rd.of hd2⟩, _, rfl, _, DGet.k (k := Sum.inr tag) hd2, ?_⟩
      rw [hlev]
      dsimp only [gName]
      have s02 := s1.trans s2
      have hx := small_txt hs hz
      have hz' := hz
      have hh' := hh
      refine seq_then (fun σ' H' => ∃ v7, σ' = [some (.ref a), some (.int least), some .non, some (.str tag), some (.ref d1), some (.int l), some (.str x), v7] ∧ Same H H') ?_ (fun N hN => ?_)
      · rintro σ' H' ⟨v7, rfl, s3⟩
        have e1 : (Str.ofString "(").length = 1 := by decide +kernel
        have e2 : (Str.ofString ")").length = 1 := by decide +kernel
        refine ⟨_, rfl, _, rfl, _, _, rfl, rfl, _, rfl, ite2 (fun h1 => ?_) (fun h1 => ?_)⟩
        · have h1 : l < least := of_decide_eq_true h1
          have k2 := k _ s3
          have e : brk least l x = txt "(" ++ x ++ txt ")" := by
            unfold brk
            rw [if_pos h1, app_assoc]
          rw [e] at k2
          exact iteT ⟨_, rfl, _, _, rfl, rfl, (by rw [e1, sizeLine_eq]; omega), _, _, rfl, rfl, (by rw [app_len, e1, e2, sizeLine_eq]; omega), k2⟩
        · have h1 : ¬ l < least := fun z => h1 (decide_eq_true z)
          have k2 := k _ s3
          have e : brk least l x = x := if_neg h1
          rw [e] at k2
          refine ⟨_, rfl, _, rfl, ?_⟩
          exact iteF ⟨_, rfl, k2⟩
      · refine ⟨_, rfl, (by show 4 ≤ sizeLine; decide), fun c1 nc1 => ?_⟩
        have s3 := same_upd (o := .tup [.str (txt "num"), .str (txt "var"), .str (txt "true"), .str (txt "false")]) nc1
        refine ⟨c1, _, rfl, .inr (SqT.of upd_same), rfl, rfl, _, rfl, ?_⟩
        have ht3 := ht2.same s3 _ _
        have hd3 := s3 _ _ hd12
        have s03 := s02.trans s3
        generalize upd H2 c1 (.tup [.str (txt "num"), .str (txt "var"), .str (txt "true"), .str (txt "false")]) = H3 at s3 ht3 hd3 s03 ⊢
        cases hs with
        | num n h =>
          refine ite2 (fun _ => ?_) (fun z => absurd (by decide +kernel) z)
          refine ⟨_, rfl, _, rfl, a, _, -1, _, rfl, rfl, SqT.of (at0 ht3), rfl, .inl ⟨_, rfl, log_small h, ?_⟩⟩
          refine hN _ _ ⟨none, ?_, s03⟩
          rw [← num_S]
          rfl
        | var x h =>
          refine ite2 (fun _ => ?_) (fun z => absurd (by decide +kernel) z)
          exact ⟨_, rfl, _, rfl, a, _, -1, _, rfl, rfl, SqT.of (at0 ht3), rfl, .inr ⟨_, rfl, hN _ _ ⟨none, rfl, s03⟩⟩⟩
        | tru =>
          refine ite2 (fun _ => ?_) (fun z => absurd (by decide +kernel) z)
          exact ⟨_, rfl, _, rfl, a, _, -1, _, rfl, rfl, SqT.of (at0 ht3), rfl, .inr ⟨_, rfl, hN _ _ ⟨none, rfl, s03⟩⟩⟩
        | fls =>
          refine ite2 (fun _ => ?_) (fun z => absurd (by decide +kernel) z)
          exact ⟨_, rfl, _, rfl, a, _, -1, _, rfl, rfl, SqT.of (at0 ht3), rfl, .inr ⟨_, rfl, hN _ _ ⟨none, rfl, s03⟩⟩⟩
        | @item x h t y l' hs2 =>
          obtain ⟨b, ha, hb⟩ := at1 ht3
          rw [size1'] at hz'
          rw [ht1'] at hh'
          have hy := small_txt hs2 (by omega)
          have n10 : (Str.ofString "[").length = 1 := by decide +kernel
          have n11 : (Str.ofString "]").length = 1 := by decide +kernel
          refine ite2 (fun z => absurd z (by decide +kernel)) (fun _ => ?_)
          refine ⟨_, rfl, rfl, _, rfl, ite2 (fun _ => ?_) (fun z => absurd (by decide +kernel) z)⟩
          refine ⟨_, rfl, a, _, 1, _, rfl, rfl, SqT.of ha, rfl, _, _, rfl, rfl, (by rw [sizeLine_eq, n10]; omega), _, rfl, a, _, 2, _, rfl, rfl, SqT.of ha, rfl, _, rfl, b, t, y, l', 1, rfl, hb, hs2, by omega, by omega, fun H4 s4 => ?_⟩
          rw [brk_one hs2]
          refine ⟨_, _, rfl, rfl, (by simp only [app_len, n10, sizeLine_eq]; omega), _, _, rfl, rfl, (by simp only [app_len, n10, n11, sizeLine_eq]; omega), ?_⟩
          refine hN _ _ ⟨none, ?_, s03.trans s4⟩
          rw [app_assoc, app_assoc]
          rfl
        | @mm tag hr2 t u x y l' m h h2 =>
          obtain ⟨b, c, ha, hb, hc⟩ := at2 ht3
          rw [size2'] at hz'
          rw [ht2'] at hh'
          have hx := small_txt h (by omega)
          have hy := small_txt h2 (by omega)
          have n4 : (Str.ofString "(").length = 1 := by decide +kernel
          have n5 : (Str.ofString ")").length = 1 := by decide +kernel
          have n6 : (Str.ofString ", ").length = 2 := by decide +kernel
          rcases hr2 with e | e
          · subst e
            have n3' : (Str.ofString "min").length = 3 := by decide +kernel
            refine ite2 (fun z => absurd z (by decide +kernel)) (fun _ => ?_)
            refine ⟨_, rfl, rfl, _, rfl, ite2 (fun z => absurd z (by decide +kernel)) (fun _ => ?_)⟩
            refine ⟨_, rfl, rfl, _, rfl, ite2 (fun _ => ?_) (fun z => absurd (by decide +kernel) z)⟩
            refine iteT ?_
            refine ⟨_, rfl, _, _, rfl, rfl, (by simp only [app_len, n3', n4, n5, n6, sizeLine_eq]; omega), _, rfl, a, _, 1, _, rfl, rfl, SqT.of ha, rfl, _, rfl, b, t, x, l', 1, rfl, hb, h, by omega, by omega, fun H4 s4 => ?_⟩
            rw [brk_one h]
            refine ⟨_, _, rfl, rfl, (by simp only [app_len, n3', n4, n5, n6, sizeLine_eq]; omega), _, _, rfl, rfl, (by simp only [app_len, n3', n4, n5, n6, sizeLine_eq]; omega), _, rfl, a, _, 2, _, rfl, rfl, SqT.of (s4 _ _ ha), rfl, _, rfl, c, u, y, m, 1, rfl, hc.same s4 _ _, h2, by omega, by omega, fun H5 s5 => ?_⟩
            rw [brk_one h2]
            refine ⟨_, _, rfl, rfl, (by simp only [app_len, n3', n4, n5, n6, sizeLine_eq]; omega), _, _, rfl, rfl, (by simp only [app_len, n3', n4, n5, n6, sizeLine_eq]; omega), ?_⟩
            refine hN _ _ ⟨none, ?_, (s03.trans s4).trans s5⟩
            simp only [app_assoc]
            rfl
          · subst e
            have n3' : (Str.ofString "max").length = 3 := by decide +kernel
            refine ite2 (fun z => absurd z (by decide +kernel)) (fun _ => ?_)
            refine ⟨_, rfl, rfl, _, rfl, ite2 (fun z => absurd z (by decide +kernel)) (fun _ => ?_)⟩
            refine ⟨_, rfl, rfl, _, rfl, ite2 (fun z => absurd z (by decide +kernel)) (fun _ => ?_)⟩
            refine ⟨_, rfl, rfl, _, rfl, ite2 (fun _ => ?_) (fun z => absurd (by decide +kernel) z)⟩
            refine ⟨_, rfl, _, _, rfl, rfl, (by simp only [app_len, n3', n4, n5, n6, sizeLine_eq]; omega), _, rfl, a, _, 1, _, rfl, rfl, SqT.of ha, rfl, _, rfl, b, t, x, l', 1, rfl, hb, h, by omega, by omega, fun H4 s4 => ?_⟩
            rw [brk_one h]
            refine ⟨_, _, rfl, rfl, (by simp only [app_len, n3', n4, n5, n6, sizeLine_eq]; omega), _, _, rfl, rfl, (by simp only [app_len, n3', n4, n5, n6, sizeLine_eq]; omega), _, rfl, a, _, 2, _, rfl, rfl, SqT.of (s4 _ _ ha), rfl, _, rfl, c, u, y, m, 1, rfl, hc.same s4 _ _, h2, by omega, by omega, fun H5 s5 => ?_⟩
            rw [brk_one h2]
            refine ⟨_, _, rfl, rfl, (by simp only [app_len, n3', n4, n5, n6, sizeLine_eq]; omega), _, _, rfl, rfl, (by simp only [app_len, n3', n4, n5, n6, sizeLine_eq]; omega), ?_⟩
            refine hN _ _ ⟨none, ?_, (s03.trans s4).trans s5⟩
            simp only [app_assoc]
            rfl
        | @cond t u v x y z l' m n' h h2 h3 =>
          obtain ⟨b, c, d, ha, hb, hc, hd⟩ := at3 ht3
          rw [size3'] at hz'
          rw [ht3'] at hh'
          have hx := small_txt h (by omega)
          have hy := small_txt h2 (by omega)
          have hw := small_txt h3 (by omega)
          have n5 : (Str.ofString ")").length = 1 := by decide +kernel
          have n7 : (Str.ofString "(if ").length = 4 := by decide +kernel
          have n8 : (Str.ofString " then ").length = 6 := by decide +kernel
          have n9 : (Str.ofString " else ").length = 6 := by decide +kernel
          refine ite2 (fun z => absurd z (by decide +kernel)) (fun _ => ?_)
          refine ⟨_, rfl, rfl, _, rfl, ite2 (fun z => absurd z (by decide +kernel)) (fun _ => ?_)⟩
          refine ⟨_, rfl, rfl, _, rfl, ite2 (fun z => absurd z (by decide +kernel)) (fun _ => ?_)⟩
          refine ⟨_, rfl, rfl, _, rfl, iteF ?_⟩
          refine ⟨_, rfl, rfl, _, rfl, ite2 (fun _ => ?_) (fun z => absurd (by decide +kernel) z)⟩
          refine ⟨_, rfl, a, _, 1, _, rfl, rfl, SqT.of ha, rfl, _, rfl, b, t, x, l', 1, rfl, hb, h, by omega, by omega, fun H4 s4 => ?_⟩
          rw [brk_one h]
          refine ⟨_, _, rfl, rfl, (by simp only [n7, sizeLine_eq]; omega), _, _, rfl, rfl, (by simp only [app_len, n7, n8, sizeLine_eq]; omega), ?_⟩
          refine ⟨_, rfl, a, _, 2, _, rfl, rfl, SqT.of (s4 _ _ ha), rfl, _, rfl, c, u, y, m, 1, rfl, hc.same s4 _ _, h2, by omega, by omega, fun H5 s5 => ?_⟩
          rw [brk_one h2]
          refine ⟨_, _, rfl, rfl, (by simp only [app_len, n7, n8, sizeLine_eq]; omega), ?_⟩
          have ha5 := s5 _ _ (s4 _ _ ha)
          have hd5 := (hd.same s4 _ _).same s5 _ _
          refine ⟨_, rfl, _, _, rfl, rfl, (by simp only [app_len, n7, n8, n9, sizeLine_eq]; omega), _, rfl, a, _, 3, _, rfl, rfl, SqT.of ha5, rfl, _, rfl, d, v, z, n', 1, rfl, hd5, h3, by omega, by omega, fun H6 s6 => ?_⟩
          rw [brk_one h3]
          refine ⟨_, _, rfl, rfl, (by simp only [app_len, n7, n8, n9, sizeLine_eq]; omega), _, _, rfl, rfl, (by simp only [app_len, n5, n7, n8, n9, sizeLine_eq]; omega), ?_⟩
          refine hN _ _ ⟨none, ?_, ((s03.trans s4).trans s5).trans s6⟩
          simp only [app_assoc]
          rfl
        | @neg t x l' h =>
          obtain ⟨b, ha, hb⟩ := at1 ht3
          rw [size1'] at hz'
          rw [ht1'] at hh'
          have hx := small_txt h (by omega)
          have bl := brk_len 7 l' x
          have n1 : (Str.ofString "-").length = 1 := by decide +kernel
          refine ite2 (fun z => absurd z (by decide +kernel)) (fun _ => ?_)
          refine ⟨_, rfl, rfl, _, rfl, ite2 (fun z => absurd z (by decide +kernel)) (fun _ => ?_)⟩
          refine ⟨_, rfl, rfl, _, rfl, ite2 (fun z => absurd z (by decide +kernel)) (fun _ => ?_)⟩
          refine ⟨_, rfl, rfl, _, rfl, iteF ?_⟩
          refine ⟨_, rfl, rfl, _, rfl, ite2 (fun z => absurd z (by decide +kernel)) (fun _ => ?_)⟩
          refine ⟨_, rfl, rfl, _, rfl, ite2 (fun _ => ?_) (fun z => absurd (by decide +kernel) z)⟩
          refine ⟨_, rfl, a, _, 1, _, rfl, rfl, SqT.of ha, rfl, _, rfl, b, t, x, l', 7, rfl, hb, h, by omega, by omega, fun H4 s4 => ?_⟩
          exact ⟨_, _, rfl, rfl, (by rw [sizeLine_eq, n1]; omega), hN _ _ ⟨none, rfl, s03.trans s4⟩⟩
        | @not t x l' h =>
          obtain ⟨b, ha, hb⟩ := at1 ht3
          rw [size1'] at hz'
          rw [ht1'] at hh'
          have hx := small_txt h (by omega)
          have bl := brk_len 7 l' x
          have n1 : (Str.ofString "not ").length = 4 := by decide +kernel
          refine ite2 (fun z => absurd z (by decide +kernel)) (fun _ => ?_)
          refine ⟨_, rfl, rfl, _, rfl, ite2 (fun z => absurd z (by decide +kernel)) (fun _ => ?_)⟩
          refine ⟨_, rfl, rfl, _, rfl, ite2 (fun z => absurd z (by decide +kernel)) (fun _ => ?_)⟩
          refine ⟨_, rfl, rfl, _, rfl, iteF ?_⟩
          refine ⟨_, rfl, rfl, _, rfl, ite2 (fun z => absurd z (by decide +kernel)) (fun _ => ?_)⟩
          refine ⟨_, rfl, rfl, _, rfl, ite2 (fun z => absurd z (by decide +kernel)) (fun _ => ?_)⟩
          refine ⟨_, rfl, rfl, _, rfl, ite2 (fun _ => ?_) (fun z => absurd (by decide +kernel) z)⟩
          refine ⟨_, rfl, a, _, 1, _, rfl, rfl, SqT.of ha, rfl, _, rfl, b, t, x, l', 7, rfl, hb, h, by omega, by omega, fun H4 s4 => ?_⟩
          exact ⟨_, _, rfl, rfl, (by rw [sizeLine_eq, n1]; omega), hN _ _ ⟨none, rfl, s03.trans s4⟩⟩
        | @bin tag lv sg hr2 t u x y l' m h h2 =>
          obtain ⟨b, c, ha, hb, hc⟩ := at2 ht3
          rw [size2'] at hz'
          rw [ht2'] at hh'
          have hx := small_txt h (by omega)
          have hy := small_txt h2 (by omega)
          have n3 : (Str.ofString " ").length = 1 := by decide +kernel
          have hsg : sg.length ≤ 3 := tab_len _ hr2
          obtain ⟨_, qs, q1, q2, q3, q4, q5, q6, q7⟩ := tab_law _ hr2
          refine ite2 (fun z => absurd (q1.symm.trans z) (by decide)) (fun _ => ?_)
          refine ⟨_, rfl, rfl, _, rfl, ite2 (fun z => absurd (V.str.inj (of_decide_eq_true z)) q2) (fun _ => ?_)⟩
          refine ⟨_, rfl, rfl, _, rfl, ite2 (fun z => absurd (V.str.inj (of_decide_eq_true z)) q3) (fun _ => ?_)⟩
          refine ⟨_, rfl, rfl, _, rfl, ite2 (fun z => absurd (V.str.inj (of_decide_eq_true z)) q4) (fun _ => ?_)⟩
          refine ⟨_, rfl, rfl, _, rfl, ite2 (fun z => absurd (V.str.inj (of_decide_eq_true z)) q5) (fun _ => ?_)⟩
          refine ⟨_, rfl, rfl, _, rfl, ite2 (fun z => absurd (V.str.inj (of_decide_eq_true z)) q6) (fun _ => ?_)⟩
          refine ⟨_, rfl, rfl, _, rfl, ite2 (fun z => absurd (V.str.inj (of_decide_eq_true z)) q7) (fun _ => ?_)⟩
          refine ⟨_, rfl, a, _, 1, _, rfl, rfl, SqT.of ha, rfl, _, rfl, rfl, _, rfl, ite2 (fun h9 => ?_) (fun h9 => ?_)⟩
          · have h9 : l = 3 := V.int.inj (of_decide_eq_true h9)
            refine ⟨_, rfl, b, t, x, l', 4, rfl, hb, h, by omega, by omega, fun H4 s4 => ?_⟩
            have bl := brk_len 4 l' x
            have hd4 := s4 _ _ hd3
            have ha4 := s4 _ _ ha
            have hc4 := hc.same s4 _ _
            refine ⟨_, rfl, _, _, rfl, rfl, (by simp only [app_len, n3, sizeLine_eq]; omega), _, rfl, d1, rfl, .inl ⟨_, Rd.of hd4⟩, _, rfl, _, rfl, _, DGet.k (k := Sum.inr tag) hd4, ?_⟩
            rw [qs]
            refine ⟨_, _, rfl, rfl, (by simp only [app_len, n3, sizeLine_eq]; omega), _, _, rfl, rfl, (by simp only [app_len, n3, sizeLine_eq]; omega), _, rfl, a, _, 2, _, rfl, rfl, SqT.of ha4, rfl, _, rfl, _, _, rfl, rfl, _, rfl, c, u, y, m, l + 1, rfl, hc4, h2, by omega, by omega, fun H5 s5 => ?_⟩
            have bm := brk_len (l + 1) m y
            refine ⟨_, _, rfl, rfl, (by simp only [app_len, n3, sizeLine_eq]; omega), ?_⟩
            refine hN _ _ ⟨some (.str (brk 4 l' x)), ?_, (s03.trans s4).trans s5⟩
            unfold binText
            rw [show (if l = 3 then l + 1 else l) = 4 by rw [if_pos h9, h9]; rfl]
            simp only [app_assoc]
            rfl
          · have h9 : ¬ l = 3 := fun z => h9 (decide_eq_true (by rw [z]))
            refine ⟨_, rfl, _, rfl, b, t, x, l', l, rfl, hb, h, by omega, by omega, fun H4 s4 => ?_⟩
            have bl := brk_len l l' x
            have hd4 := s4 _ _ hd3
            have ha4 := s4 _ _ ha
            have hc4 := hc.same s4 _ _
            refine ⟨_, rfl, _, _, rfl, rfl, (by simp only [app_len, n3, sizeLine_eq]; omega), _, rfl, d1, rfl, .inl ⟨_, Rd.of hd4⟩, _, rfl, _, rfl, _, DGet.k (k := Sum.inr tag) hd4, ?_⟩
            rw [qs]
            refine ⟨_, _, rfl, rfl, (by simp only [app_len, n3, sizeLine_eq]; omega), _, _, rfl, rfl, (by simp only [app_len, n3, sizeLine_eq]; omega), _, rfl, a, _, 2, _, rfl, rfl, SqT.of ha4, rfl, _, rfl, _, _, rfl, rfl, _, rfl, c, u, y, m, l + 1, rfl, hc4, h2, by omega, by omega, fun H5 s5 => ?_⟩
            have bm := brk_len (l + 1) m y
            refine ⟨_, _, rfl, rfl, (by simp only [app_len, n3, sizeLine_eq]; omega), ?_⟩
            refine hN _ _ ⟨some (.str (brk l l' x)), ?_, (s03.trans s4).trans s5⟩
            unfold binText
            rw [if_neg h9]
            simp only [app_assoc]
            rfl
end
section
variable {P : Program} {w : World} {K : PySem.W.Frag} {mg : Str → Option Value} {base : Heap} {A : At}
def spLaw (K : PySem.W.Frag) : Sp := fun vs H Q _ => ∃ (a : Addr) (ns : List Int), vs = [.ref a] ∧ SqL K H a (ns.map V.int) ∧ ns.length ≤ 63 ∧ ∀ H', Q (.bl true) H'
theorem ok_law (T : Txt K mg A) (Dd : Dic K mg w.params) : FnOk P w K mg base CX0 20 A.a_law A.d_law ["script"] (spLaw K) := by
  have G_law_pool : FnOk P w K mg base CX0 1 A.a_law_pool A.d_law_pool ["script"] (spPool K) := ok_pool T
  have G_law_draw : FnOk P w K mg base CX0 2 A.a_law_draw A.d_law_draw ["pool", "many"] spDraw := ok_draw T
  have G_law_names : FnOk P w K mg base CX0 4 A.a_law_names A.d_law_names ["pool"] spNames := ok_names T
  have G_law_expr : FnOk P w K mg base CX0 10 A.a_law_expr A.d_law_expr ["pool", "kind", "names", "depth"] (spExpr 6) := ok_expr T 6
  have G_show_expression : FnOk P w K mg base CX0 19 A.a_show_expression A.d_show_expression ["tree"] (spShow 6) := ok_show T Dd 6
  have G_law_show : FnOk P w K mg base CX0 9 A.a_law_show A.d_law_show ["tree", "least", "pool"] (spLShow 6) := ok_lshow T 6
  have G_law_same : FnOk P w K mg base CX0 1 A.a_law_same A.d_law_same ["actual", "due"] (spSame K 0) := ok_same T 0
  refine T.t_law.F.ok sc_law (fun vs H Q E h => ?_) (fun cdv AA outer s H vs Q E hr h => ?_)
  · obtain ⟨a, ns, rfl, _⟩ := h
    rfl
  · obtain ⟨a, ns, rfl, hS, _, k⟩ := h
    refine ⟨_, (pss_cons (ps_set (i := 1) sc_law.nd rfl (Or.inl rfl) (pe_call G_law_pool (hr.mono (by decide)) rfl T.t_law_pool.g T.t_law_pool.F.kp T.t_law_pool.b .nil pass0 (pa_cons (pv 0) pa_nil)))
      (pss_cons (ps_set (i := 2) sc_law.nd rfl (Or.inl rfl) (pe_call G_law_expr (hr.mono (by decide)) rfl T.t_law_expr.g T.t_law_expr.F.kp T.t_law_expr.b .nil pass0 (pa_cons (pv 1) (pa_cons (pe_ix ix_tup (pe_tup (pa_cons pe_str (pa_cons pe_str pa_nil))) (pe_call G_law_draw (hr.mono (by decide)) rfl T.t_law_draw.g T.t_law_draw.F.kp T.t_law_draw.b .nil pass0 (pa_cons (pv 1) (pa_cons pe_int pa_nil))) (fun _ _ => rfl)) (pa_cons (pe_call G_law_names (hr.mono (by decide)) rfl T.t_law_names.g T.t_law_names.F.kp T.t_law_names.b .nil pass0 (pa_cons (pv 1) pa_nil)) (pa_cons (pe_call G_law_draw (hr.mono (by decide)) rfl T.t_law_draw.g T.t_law_draw.F.kp T.t_law_draw.b .nil pass0 (pa_cons (pv 1) (pa_cons pe_int pa_nil))) pa_nil))))))
      (pss_one (ps_ret (pe_call G_law_same (hr.mono (by decide)) rfl T.t_law_same.g T.t_law_same.F.kp T.t_law_same.b .nil pass0 (pa_cons (pe_call G_show_expression (hr.mono (by decide)) rfl T.t_show_expression.g T.t_show_expression.F.kp T.t_show_expression.b .nil pass0 (pa_cons (pv 2) pa_nil)) (pa_cons (pe_call G_law_show (hr.mono (by decide)) rfl T.t_law_show.g T.t_law_show.F.kp T.t_law_show.b .nil pass0 (pa_cons (pv 2) (pa_cons pe_int (pa_cons pe_non pa_nil)))) pa_nil))))))), ?_⟩
    refine ⟨_, rfl, a, ns, rfl, hS, fun p l H1 P1 _ _ _ => ?_⟩
    refine ⟨_, rfl, (by show 2 ≤ sizeLine; decide), fun c nc => ?_⟩
    have sc := same_upd (o := .tup [.str kInt, .str kBool]) nc
    refine ⟨_, rfl, p, l, 2, rfl, P1.same sc, ⟨by decide, by decide⟩, fun v H2 v0 v1 P2 B2 => ?_⟩
    obtain ⟨kd, hkd, _, ekd⟩ := pick_str (ms := [kInt, kBool]) v0 v1
    have hk : kd = kInt ∨ kd = kBool := by simpa using hkd
    refine ⟨c, _, v, _, rfl, rfl, SqT.of (B2 _ _ upd_same (P1.free nc)), ekd, ?_⟩
    refine ⟨_, rfl, p, l, rfl, P2, fun nm rows H3 R3 hn hnl P3 B3 => ?_⟩
    refine ⟨_, rfl, p, l, 6, rfl, P3, ⟨by decide, by decide⟩, fun d H4 d0 d1 P4 B4 => ?_⟩
    have R4 := R3.but B4 hn P3.notup
    refine ⟨gam rows, p, l, nm, kd, rows, d, rfl, P4, R4, hn, hk, fun r hr2 => gam_mem R4.nd hr2, ⟨d0, d1⟩, fun t x H5 it hz hh P5 B5 => ?_⟩
    obtain ⟨y, lv, hs⟩ := it.ok
    have hsz : size x ≤ 1000 := by
      have : 3 ^ 6 = 729 := by decide
      omega
    refine ⟨_, rfl, t, x, y, lv, rfl, it.at', hs, hh, hsz, fun H6 s6 => ?_⟩
    refine ⟨_, rfl, t, x, y, lv, 1, rfl, it.at'.same s6 _ _, hs, hh, hsz, fun H7 s7 => ?_⟩
    rw [brk_one hs]
    exact ⟨_, _, rfl, Dat.scal trivial, k _⟩
end
/-! the end -/
theorem all_mk {K : PySem.W.Frag} {pr : Params} {h : Heap} {mg : Str → Option Value} {fa : Addr} (X : K.In h) (G : h.Ns mainGlobals mg) (hfa : mg "law" = some (.ref fa))
    {f0 f1 f2 f3 f4 f5 f6 f7 f8 f9 f10 f11 f12 f13 f14 f15 f16 f17  : Addr} {od0 an0 od1 an1 od2 an2 od3 an3 od4 an4 od5 an5 od6 an6 od7 an7 od8 an8 od9 an9 od10 an10 od11 an11 od12 an12 od13 an13 od14 an14 od15 an15 od16 an16 od17 an17 : Option Addr} {sl0 sl1 sl2 sl3 sl4 sl5 sl6 sl7 sl8 sl9 sl10 sl11 sl12 sl13 sl14 sl15 sl16 sl17 : Array (Option Value)} {oc0 kV0 dc0 pm0 cd0 ct0 oc1 kV1 dc1 pm1 cd1 ct1 oc2 kV2 dc2 pm2 cd2 ct2 oc3 kV3 dc3 pm3 cd3 ct3 oc4 kV4 dc4 pm4 cd4 ct4 oc5 kV5 dc5 pm5 cd5 ct5 oc6 kV6 dc6 pm6 cd6 ct6 oc7 kV7 dc7 pm7 cd7 ct7 oc8 kV8 dc8 pm8 cd8 ct8 oc9 kV9 dc9 pm9 cd9 ct9 oc10 kV10 dc10 pm10 cd10 ct10 oc11 kV11 dc11 pm11 cd11 ct11 oc12 kV12 dc12 pm12 cd12 ct12 oc13 kV13 dc13 pm13 cd13 ct13 oc14 kV14 dc14 pm14 cd14 ct14 oc15 kV15 dc15 pm15 cd15 ct15 oc16 kV16 dc16 pm16 cd16 ct16 oc17 kV17 dc17 pm17 cd17 ct17 : Value}
    (a0 : PySem.W.nsIn K mainGlobals "show_expression" = some (some (.ref f0))) (l0 : K.lookup f0 = some ⟨oc0, od0, .func (PySem.W.fnOf "show_expression" "show_expression" (defArgs s_show_expression) (defBody s_show_expression) (defScope s_show_expression) .none kV0 dc0 pm0 an0 cd0 ct0), sl0⟩) (c0 : PySem.W.codeIn K cd0 "show_expression" = true) (k0 : PySem.W.keepIn K (.ref f0) = true)
    (a1 : PySem.W.nsIn K mainGlobals "_level_of" = some (some (.ref f1))) (l1 : K.lookup f1 = some ⟨oc1, od1, .func (PySem.W.fnOf "_level_of" "_level_of" (defArgs s_level_of) (defBody s_level_of) (defScope s_level_of) .none kV1 dc1 pm1 an1 cd1 ct1), sl1⟩) (c1 : PySem.W.codeIn K cd1 "_level_of" = true) (k1 : PySem.W.keepIn K (.ref f1) = true)
    (a2 : PySem.W.nsIn K mainGlobals "_show_operand" = some (some (.ref f2))) (l2 : K.lookup f2 = some ⟨oc2, od2, .func (PySem.W.fnOf "_show_operand" "_show_operand" (defArgs s_show_operand) (defBody s_show_operand) (defScope s_show_operand) .none kV2 dc2 pm2 an2 cd2 ct2), sl2⟩) (c2 : PySem.W.codeIn K cd2 "_show_operand" = true) (k2 : PySem.W.keepIn K (.ref f2) = true)
    (a3 : PySem.W.nsIn K mainGlobals "_show_operation" = some (some (.ref f3))) (l3 : K.lookup f3 = some ⟨oc3, od3, .func (PySem.W.fnOf "_show_operation" "_show_operation" (defArgs s_show_operation) (defBody s_show_operation) (defScope s_show_operation) .none kV3 dc3 pm3 an3 cd3 ct3), sl3⟩) (c3 : PySem.W.codeIn K cd3 "_show_operation" = true) (k3 : PySem.W.keepIn K (.ref f3) = true)
    (a4 : PySem.W.nsIn K mainGlobals "_show_atom" = some (some (.ref f4))) (l4 : K.lookup f4 = some ⟨oc4, od4, .func (PySem.W.fnOf "_show_atom" "_show_atom" (defArgs s_show_atom) (defBody s_show_atom) (defScope s_show_atom) .none kV4 dc4 pm4 an4 cd4 ct4), sl4⟩) (c4 : PySem.W.codeIn K cd4 "_show_atom" = true) (k4 : PySem.W.keepIn K (.ref f4) = true)
    (a5 : PySem.W.nsIn K mainGlobals "show_cell" = some (some (.ref f5))) (l5 : K.lookup f5 = some ⟨oc5, od5, .func (PySem.W.fnOf "show_cell" "show_cell" (defArgs s_show_cell) (defBody s_show_cell) (defScope s_show_cell) .none kV5 dc5 pm5 an5 cd5 ct5), sl5⟩) (c5 : PySem.W.codeIn K cd5 "show_cell" = true) (k5 : PySem.W.keepIn K (.ref f5) = true)
    (a6 : PySem.W.nsIn K mainGlobals "show_cells" = some (some (.ref f6))) (l6 : K.lookup f6 = some ⟨oc6, od6, .func (PySem.W.fnOf "show_cells" "show_cells" (defArgs s_show_cells) (defBody s_show_cells) (defScope s_show_cells) .none kV6 dc6 pm6 an6 cd6 ct6), sl6⟩) (c6 : PySem.W.codeIn K cd6 "show_cells" = true) (k6 : PySem.W.keepIn K (.ref f6) = true)
    (a7 : PySem.W.nsIn K mainGlobals "_show_list" = some (some (.ref f7))) (l7 : K.lookup f7 = some ⟨oc7, od7, .func (PySem.W.fnOf "_show_list" "_show_list" (defArgs s_show_list) (defBody s_show_list) (defScope s_show_list) .none kV7 dc7 pm7 an7 cd7 ct7), sl7⟩) (c7 : PySem.W.codeIn K cd7 "_show_list" = true) (k7 : PySem.W.keepIn K (.ref f7) = true)
    (a8 : PySem.W.nsIn K mainGlobals "_law_same" = some (some (.ref f8))) (l8 : K.lookup f8 = some ⟨oc8, od8, .func (PySem.W.fnOf "_law_same" "_law_same" (defArgs s_law_same) (defBody s_law_same) (defScope s_law_same) .none kV8 dc8 pm8 an8 cd8 ct8), sl8⟩) (c8 : PySem.W.codeIn K cd8 "_law_same" = true) (k8 : PySem.W.keepIn K (.ref f8) = true)
    (a9 : PySem.W.nsIn K mainGlobals "_law_pool" = some (some (.ref f9))) (l9 : K.lookup f9 = some ⟨oc9, od9, .func (PySem.W.fnOf "_law_pool" "_law_pool" (defArgs s_law_pool) (defBody s_law_pool) (defScope s_law_pool) .none kV9 dc9 pm9 an9 cd9 ct9), sl9⟩) (c9 : PySem.W.codeIn K cd9 "_law_pool" = true) (k9 : PySem.W.keepIn K (.ref f9) = true)
    (a10 : PySem.W.nsIn K mainGlobals "_law_spread" = some (some (.ref f10))) (l10 : K.lookup f10 = some ⟨oc10, od10, .func (PySem.W.fnOf "_law_spread" "_law_spread" (defArgs s_law_spread) (defBody s_law_spread) (defScope s_law_spread) .none kV10 dc10 pm10 an10 cd10 ct10), sl10⟩) (c10 : PySem.W.codeIn K cd10 "_law_spread" = true) (k10 : PySem.W.keepIn K (.ref f10) = true)
    (a11 : PySem.W.nsIn K mainGlobals "_law_draw" = some (some (.ref f11))) (l11 : K.lookup f11 = some ⟨oc11, od11, .func (PySem.W.fnOf "_law_draw" "_law_draw" (defArgs s_law_draw) (defBody s_law_draw) (defScope s_law_draw) .none kV11 dc11 pm11 an11 cd11 ct11), sl11⟩) (c11 : PySem.W.codeIn K cd11 "_law_draw" = true) (k11 : PySem.W.keepIn K (.ref f11) = true)
    (a12 : PySem.W.nsIn K mainGlobals "_law_name" = some (some (.ref f12))) (l12 : K.lookup f12 = some ⟨oc12, od12, .func (PySem.W.fnOf "_law_name" "_law_name" (defArgs s_law_name) (defBody s_law_name) (defScope s_law_name) .none kV12 dc12 pm12 an12 cd12 ct12), sl12⟩) (c12 : PySem.W.codeIn K cd12 "_law_name" = true) (k12 : PySem.W.keepIn K (.ref f12) = true)
    (a13 : PySem.W.nsIn K mainGlobals "_law_names" = some (some (.ref f13))) (l13 : K.lookup f13 = some ⟨oc13, od13, .func (PySem.W.fnOf "_law_names" "_law_names" (defArgs s_law_names) (defBody s_law_names) (defScope s_law_names) .none kV13 dc13 pm13 an13 cd13 ct13), sl13⟩) (c13 : PySem.W.codeIn K cd13 "_law_names" = true) (k13 : PySem.W.keepIn K (.ref f13) = true)
    (a14 : PySem.W.nsIn K mainGlobals "_law_leaf" = some (some (.ref f14))) (l14 : K.lookup f14 = some ⟨oc14, od14, .func (PySem.W.fnOf "_law_leaf" "_law_leaf" (defArgs s_law_leaf) (defBody s_law_leaf) (defScope s_law_leaf) .none kV14 dc14 pm14 an14 cd14 ct14), sl14⟩) (c14 : PySem.W.codeIn K cd14 "_law_leaf" = true) (k14 : PySem.W.keepIn K (.ref f14) = true)
    (a15 : PySem.W.nsIn K mainGlobals "_law_expr" = some (some (.ref f15))) (l15 : K.lookup f15 = some ⟨oc15, od15, .func (PySem.W.fnOf "_law_expr" "_law_expr" (defArgs s_law_expr) (defBody s_law_expr) (defScope s_law_expr) .none kV15 dc15 pm15 an15 cd15 ct15), sl15⟩) (c15 : PySem.W.codeIn K cd15 "_law_expr" = true) (k15 : PySem.W.keepIn K (.ref f15) = true)
    (a16 : PySem.W.nsIn K mainGlobals "_law_show" = some (some (.ref f16))) (l16 : K.lookup f16 = some ⟨oc16, od16, .func (PySem.W.fnOf "_law_show" "_law_show" (defArgs s_law_show) (defBody s_law_show) (defScope s_law_show) .none kV16 dc16 pm16 an16 cd16 ct16), sl16⟩) (c16 : PySem.W.codeIn K cd16 "_law_show" = true) (k16 : PySem.W.keepIn K (.ref f16) = true)
    (a17 : PySem.W.nsIn K mainGlobals "law" = some (some (.ref f17))) (l17 : K.lookup f17 = some ⟨oc17, od17, .func (PySem.W.fnOf "law" "law" (defArgs s_law) (defBody s_law) (defScope s_law) .none kV17 dc17 pm17 an17 cd17 ct17), sl17⟩) (c17 : PySem.W.codeIn K cd17 "law" = true) (k17 : PySem.W.keepIn K (.ref f17) = true)
    (zstr : PySem.W.nsIn K mainGlobals "str" = some none)
    (zisinstance : PySem.W.nsIn K mainGlobals "isinstance" = some none)
    (ztuple : PySem.W.nsIn K mainGlobals "tuple" = some none)
    (zlist : PySem.W.nsIn K mainGlobals "list" = some none)
    (zlen : PySem.W.nsIn K mainGlobals "len" = some none)
    (zrange : PySem.W.nsIn K mainGlobals "range" = some none)
    (zbool : PySem.W.nsIn K mainGlobals "bool" = some none)
    (zint : PySem.W.nsIn K mainGlobals "int" = some none)
    {tkCOMPARISON_LEVEL : Tok} (gCOMPARISON_LEVEL : PySem.W.nsIn K mainGlobals "COMPARISON_LEVEL" = some (some (.int 3 tkCOMPARISON_LEVEL)))
    {tkPREFIX_LEVEL : Tok} (gPREFIX_LEVEL : PySem.W.nsIn K mainGlobals "PREFIX_LEVEL" = some (some (.int 6 tkPREFIX_LEVEL)))
    {tkATOM_LEVEL : Tok} (gATOM_LEVEL : PySem.W.nsIn K mainGlobals "ATOM_LEVEL" = some (some (.int 7 tkATOM_LEVEL)))
    {ZLEVEL_OF : Addr} {nnLEVEL_OF : Nat} {tkLEVEL_OF0 tvLEVEL_OF0 tkLEVEL_OF1 tvLEVEL_OF1 tkLEVEL_OF2 tvLEVEL_OF2 tkLEVEL_OF3 tvLEVEL_OF3 tkLEVEL_OF4 tvLEVEL_OF4 tkLEVEL_OF5 tvLEVEL_OF5 tkLEVEL_OF6 tvLEVEL_OF6 tkLEVEL_OF7 tvLEVEL_OF7 tkLEVEL_OF8 tvLEVEL_OF8 tkLEVEL_OF9 tvLEVEL_OF9 tkLEVEL_OF10 tvLEVEL_OF10 : Tok} {hhLEVEL_OF0 hhLEVEL_OF1 hhLEVEL_OF2 hhLEVEL_OF3 hhLEVEL_OF4 hhLEVEL_OF5 hhLEVEL_OF6 hhLEVEL_OF7 hhLEVEL_OF8 hhLEVEL_OF9 hhLEVEL_OF10 : Int} (gLEVEL_OF : PySem.W.nsIn K mainGlobals "LEVEL_OF" = some (some (.ref ZLEVEL_OF))) (lLEVEL_OF : K.lookup ZLEVEL_OF = some ⟨.type "dict", none, .dict #[⟨hhLEVEL_OF0, .str (Str.ofString "or") tkLEVEL_OF0, .int 1 tvLEVEL_OF0⟩, ⟨hhLEVEL_OF1, .str (Str.ofString "and") tkLEVEL_OF1, .int 2 tvLEVEL_OF1⟩, ⟨hhLEVEL_OF2, .str (Str.ofString "eq") tkLEVEL_OF2, .int 3 tvLEVEL_OF2⟩, ⟨hhLEVEL_OF3, .str (Str.ofString "ne") tkLEVEL_OF3, .int 3 tvLEVEL_OF3⟩, ⟨hhLEVEL_OF4, .str (Str.ofString "lt") tkLEVEL_OF4, .int 3 tvLEVEL_OF4⟩, ⟨hhLEVEL_OF5, .str (Str.ofString "le") tkLEVEL_OF5, .int 3 tvLEVEL_OF5⟩, ⟨hhLEVEL_OF6, .str (Str.ofString "add") tkLEVEL_OF6, .int 4 tvLEVEL_OF6⟩, ⟨hhLEVEL_OF7, .str (Str.ofString "sub") tkLEVEL_OF7, .int 4 tvLEVEL_OF7⟩, ⟨hhLEVEL_OF8, .str (Str.ofString "mul") tkLEVEL_OF8, .int 5 tvLEVEL_OF8⟩, ⟨hhLEVEL_OF9, .str (Str.ofString "div") tkLEVEL_OF9, .int 5 tvLEVEL_OF9⟩, ⟨hhLEVEL_OF10, .str (Str.ofString "mod") tkLEVEL_OF10, .int 5 tvLEVEL_OF10⟩] nnLEVEL_OF, #[]⟩) (wLEVEL_OF : (ZLEVEL_OF == sysModules) = false) (qLEVEL_OF0 : hhLEVEL_OF0 = PyData.keyHash pr (Str.ofString "or")) (qLEVEL_OF1 : hhLEVEL_OF1 = PyData.keyHash pr (Str.ofString "and")) (qLEVEL_OF2 : hhLEVEL_OF2 = PyData.keyHash pr (Str.ofString "eq")) (qLEVEL_OF3 : hhLEVEL_OF3 = PyData.keyHash pr (Str.ofString "ne")) (qLEVEL_OF4 : hhLEVEL_OF4 = PyData.keyHash pr (Str.ofString "lt")) (qLEVEL_OF5 : hhLEVEL_OF5 = PyData.keyHash pr (Str.ofString "le")) (qLEVEL_OF6 : hhLEVEL_OF6 = PyData.keyHash pr (Str.ofString "add")) (qLEVEL_OF7 : hhLEVEL_OF7 = PyData.keyHash pr (Str.ofString "sub")) (qLEVEL_OF8 : hhLEVEL_OF8 = PyData.keyHash pr (Str.ofString "mul")) (qLEVEL_OF9 : hhLEVEL_OF9 = PyData.keyHash pr (Str.ofString "div")) (qLEVEL_OF10 : hhLEVEL_OF10 = PyData.keyHash pr (Str.ofString "mod"))
    {ZSIGN_OF : Addr} {nnSIGN_OF : Nat} {tkSIGN_OF0 tvSIGN_OF0 tkSIGN_OF1 tvSIGN_OF1 tkSIGN_OF2 tvSIGN_OF2 tkSIGN_OF3 tvSIGN_OF3 tkSIGN_OF4 tvSIGN_OF4 tkSIGN_OF5 tvSIGN_OF5 tkSIGN_OF6 tvSIGN_OF6 tkSIGN_OF7 tvSIGN_OF7 tkSIGN_OF8 tvSIGN_OF8 tkSIGN_OF9 tvSIGN_OF9 tkSIGN_OF10 tvSIGN_OF10 : Tok} {hhSIGN_OF0 hhSIGN_OF1 hhSIGN_OF2 hhSIGN_OF3 hhSIGN_OF4 hhSIGN_OF5 hhSIGN_OF6 hhSIGN_OF7 hhSIGN_OF8 hhSIGN_OF9 hhSIGN_OF10 : Int} (gSIGN_OF : PySem.W.nsIn K mainGlobals "SIGN_OF" = some (some (.ref ZSIGN_OF))) (lSIGN_OF : K.lookup ZSIGN_OF = some ⟨.type "dict", none, .dict #[⟨hhSIGN_OF0, .str (Str.ofString "or") tkSIGN_OF0, .str (Str.ofString "or") tvSIGN_OF0⟩, ⟨hhSIGN_OF1, .str (Str.ofString "and") tkSIGN_OF1, .str (Str.ofString "and") tvSIGN_OF1⟩, ⟨hhSIGN_OF2, .str (Str.ofString "eq") tkSIGN_OF2, .str (Str.ofString "=") tvSIGN_OF2⟩, ⟨hhSIGN_OF3, .str (Str.ofString "ne") tkSIGN_OF3, .str (Str.ofString "!=") tvSIGN_OF3⟩, ⟨hhSIGN_OF4, .str (Str.ofString "lt") tkSIGN_OF4, .str (Str.ofString "<") tvSIGN_OF4⟩, ⟨hhSIGN_OF5, .str (Str.ofString "le") tkSIGN_OF5, .str (Str.ofString "<=") tvSIGN_OF5⟩, ⟨hhSIGN_OF6, .str (Str.ofString "add") tkSIGN_OF6, .str (Str.ofString "+") tvSIGN_OF6⟩, ⟨hhSIGN_OF7, .str (Str.ofString "sub") tkSIGN_OF7, .str (Str.ofString "-") tvSIGN_OF7⟩, ⟨hhSIGN_OF8, .str (Str.ofString "mul") tkSIGN_OF8, .str (Str.ofString "*") tvSIGN_OF8⟩, ⟨hhSIGN_OF9, .str (Str.ofString "div") tkSIGN_OF9, .str (Str.ofString "div") tvSIGN_OF9⟩, ⟨hhSIGN_OF10, .str (Str.ofString "mod") tkSIGN_OF10, .str (Str.ofString "mod") tvSIGN_OF10⟩] nnSIGN_OF, #[]⟩) (wSIGN_OF : (ZSIGN_OF == sysModules) = false) (qSIGN_OF0 : hhSIGN_OF0 = PyData.keyHash pr (Str.ofString "or")) (qSIGN_OF1 : hhSIGN_OF1 = PyData.keyHash pr (Str.ofString "and")) (qSIGN_OF2 : hhSIGN_OF2 = PyData.keyHash pr (Str.ofString "eq")) (qSIGN_OF3 : hhSIGN_OF3 = PyData.keyHash pr (Str.ofString "ne")) (qSIGN_OF4 : hhSIGN_OF4 = PyData.keyHash pr (Str.ofString "lt")) (qSIGN_OF5 : hhSIGN_OF5 = PyData.keyHash pr (Str.ofString "le")) (qSIGN_OF6 : hhSIGN_OF6 = PyData.keyHash pr (Str.ofString "add")) (qSIGN_OF7 : hhSIGN_OF7 = PyData.keyHash pr (Str.ofString "sub")) (qSIGN_OF8 : hhSIGN_OF8 = PyData.keyHash pr (Str.ofString "mul")) (qSIGN_OF9 : hhSIGN_OF9 = PyData.keyHash pr (Str.ofString "div")) (qSIGN_OF10 : hhSIGN_OF10 = PyData.keyHash pr (Str.ofString "mod")) :
    ∃ A : At, A.a_law = fa ∧ (∀ (s : Shared) (v : Value), BindsTo s A.d_law ⟨[v], []⟩ [("script", v)]) ∧ Txt K mg A ∧ Dic K mg pr := by
  have e := hfa.symm.trans (PySem.W.mg_of X G a17)
  cases e
  have F0 := fun_mk (st := s_show_expression) l0 c0 k0
  have b0 := F0.binds (ps := ["tree"]) fun _ _ _ _ _ _ us hl => match us, hl with | [_], _ => rfl
  have F1 := fun_mk (st := s_level_of) l1 c1 k1
  have b1 := F1.binds (ps := ["tree"]) fun _ _ _ _ _ _ us hl => match us, hl with | [_], _ => rfl
  have F2 := fun_mk (st := s_show_operand) l2 c2 k2
  have b2 := F2.binds (ps := ["tree", "least"]) fun _ _ _ _ _ _ us hl => match us, hl with | [_, _], _ => rfl
  have F3 := fun_mk (st := s_show_operation) l3 c3 k3
  have b3 := F3.binds (ps := ["tree"]) fun _ _ _ _ _ _ us hl => match us, hl with | [_], _ => rfl
  have F4 := fun_mk (st := s_show_atom) l4 c4 k4
  have b4 := F4.binds (ps := ["tree"]) fun _ _ _ _ _ _ us hl => match us, hl with | [_], _ => rfl
  have F5 := fun_mk (st := s_show_cell) l5 c5 k5
  have b5 := F5.binds (ps := ["cell"]) fun _ _ _ _ _ _ us hl => match us, hl with | [_], _ => rfl
  have F6 := fun_mk (st := s_show_cells) l6 c6 k6
  have b6 := F6.binds (ps := ["base", "size"]) fun _ _ _ _ _ _ us hl => match us, hl with | [_, _], _ => rfl
  have F7 := fun_mk (st := s_show_list) l7 c7 k7
  have b7 := F7.binds (ps := ["trees"]) fun _ _ _ _ _ _ us hl => match us, hl with | [_], _ => rfl
  have F8 := fun_mk (st := s_law_same) l8 c8 k8
  have b8 := F8.binds (ps := ["actual", "due"]) fun _ _ _ _ _ _ us hl => match us, hl with | [_, _], _ => rfl
  have F9 := fun_mk (st := s_law_pool) l9 c9 k9
  have b9 := F9.binds (ps := ["script"]) fun _ _ _ _ _ _ us hl => match us, hl with | [_], _ => rfl
  have F10 := fun_mk (st := s_law_spread) l10 c10 k10
  have b10 := F10.binds (ps := ["cell"]) fun _ _ _ _ _ _ us hl => match us, hl with | [_], _ => rfl
  have F11 := fun_mk (st := s_law_draw) l11 c11 k11
  have b11 := F11.binds (ps := ["pool", "many"]) fun _ _ _ _ _ _ us hl => match us, hl with | [_, _], _ => rfl
  have F12 := fun_mk (st := s_law_name) l12 c12 k12
  have b12 := F12.binds (ps := ["pool", "taken"]) fun _ _ _ _ _ _ us hl => match us, hl with | [_, _], _ => rfl
  have F13 := fun_mk (st := s_law_names) l13 c13 k13
  have b13 := F13.binds (ps := ["pool"]) fun _ _ _ _ _ _ us hl => match us, hl with | [_], _ => rfl
  have F14 := fun_mk (st := s_law_leaf) l14 c14 k14
  have b14 := F14.binds (ps := ["pool", "kind", "names"]) fun _ _ _ _ _ _ us hl => match us, hl with | [_, _, _], _ => rfl
  have F15 := fun_mk (st := s_law_expr) l15 c15 k15
  have b15 := F15.binds (ps := ["pool", "kind", "names", "depth"]) fun _ _ _ _ _ _ us hl => match us, hl with | [_, _, _, _], _ => rfl
  have F16 := fun_mk (st := s_law_show) l16 c16 k16
  have b16 := F16.binds (ps := ["tree", "least", "pool"]) fun _ _ _ _ _ _ us hl => match us, hl with | [_, _, _], _ => rfl
  have F17 := fun_mk (st := s_law) l17 c17 k17
  have b17 := F17.binds (ps := ["script"]) fun _ _ _ _ _ _ us hl => match us, hl with | [_], _ => rfl
  exact ⟨⟨f0, PySem.W.fnOf "show_expression" "show_expression" (defArgs s_show_expression) (defBody s_show_expression) (defScope s_show_expression) .none kV0 dc0 pm0 an0 cd0 ct0, f1, PySem.W.fnOf "_level_of" "_level_of" (defArgs s_level_of) (defBody s_level_of) (defScope s_level_of) .none kV1 dc1 pm1 an1 cd1 ct1, f2, PySem.W.fnOf "_show_operand" "_show_operand" (defArgs s_show_operand) (defBody s_show_operand) (defScope s_show_operand) .none kV2 dc2 pm2 an2 cd2 ct2, f3, PySem.W.fnOf "_show_operation" "_show_operation" (defArgs s_show_operation) (defBody s_show_operation) (defScope s_show_operation) .none kV3 dc3 pm3 an3 cd3 ct3, f4, PySem.W.fnOf "_show_atom" "_show_atom" (defArgs s_show_atom) (defBody s_show_atom) (defScope s_show_atom) .none kV4 dc4 pm4 an4 cd4 ct4, f5, PySem.W.fnOf "show_cell" "show_cell" (defArgs s_show_cell) (defBody s_show_cell) (defScope s_show_cell) .none kV5 dc5 pm5 an5 cd5 ct5, f6, PySem.W.fnOf "show_cells" "show_cells" (defArgs s_show_cells) (defBody s_show_cells) (defScope s_show_cells) .none kV6 dc6 pm6 an6 cd6 ct6, f7, PySem.W.fnOf "_show_list" "_show_list" (defArgs s_show_list) (defBody s_show_list) (defScope s_show_list) .none kV7 dc7 pm7 an7 cd7 ct7, f8, PySem.W.fnOf "_law_same" "_law_same" (defArgs s_law_same) (defBody s_law_same) (defScope s_law_same) .none kV8 dc8 pm8 an8 cd8 ct8, f9, PySem.W.fnOf "_law_pool" "_law_pool" (defArgs s_law_pool) (defBody s_law_pool) (defScope s_law_pool) .none kV9 dc9 pm9 an9 cd9 ct9, f10, PySem.W.fnOf "_law_spread" "_law_spread" (defArgs s_law_spread) (defBody s_law_spread) (defScope s_law_spread) .none kV10 dc10 pm10 an10 cd10 ct10, f11, PySem.W.fnOf "_law_draw" "_law_draw" (defArgs s_law_draw) (defBody s_law_draw) (defScope s_law_draw) .none kV11 dc11 pm11 an11 cd11 ct11, f12, PySem.W.fnOf "_law_name" "_law_name" (defArgs s_law_name) (defBody s_law_name) (defScope s_law_name) .none kV12 dc12 pm12 an12 cd12 ct12, f13, PySem.W.fnOf "_law_names" "_law_names" (defArgs s_law_names) (defBody s_law_names) (defScope s_law_names) .none kV13 dc13 pm13 an13 cd13 ct13, f14, PySem.W.fnOf "_law_leaf" "_law_leaf" (defArgs s_law_leaf) (defBody s_law_leaf) (defScope s_law_leaf) .none kV14 dc14 pm14 an14 cd14 ct14, f15, PySem.W.fnOf "_law_expr" "_law_expr" (defArgs s_law_expr) (defBody s_law_expr) (defScope s_law_expr) .none kV15 dc15 pm15 an15 cd15 ct15, f16, PySem.W.fnOf "_law_show" "_law_show" (defArgs s_law_show) (defBody s_law_show) (defScope s_law_show) .none kV16 dc16 pm16 an16 cd16 ct16, fa, PySem.W.fnOf "law" "law" (defArgs s_law) (defBody s_law) (defScope s_law) .none kV17 dc17 pm17 an17 cd17 ct17⟩, rfl, fun s v => .of_eq rfl,
    ⟨⟨F0, PySem.W.mg_of X G a0, b0⟩,
    ⟨F1, PySem.W.mg_of X G a1, b1⟩,
    ⟨F2, PySem.W.mg_of X G a2, b2⟩,
    ⟨F3, PySem.W.mg_of X G a3, b3⟩,
    ⟨F4, PySem.W.mg_of X G a4, b4⟩,
    ⟨F5, PySem.W.mg_of X G a5, b5⟩,
    ⟨F6, PySem.W.mg_of X G a6, b6⟩,
    ⟨F7, PySem.W.mg_of X G a7, b7⟩,
    ⟨F8, PySem.W.mg_of X G a8, b8⟩,
    ⟨F9, PySem.W.mg_of X G a9, b9⟩,
    ⟨F10, PySem.W.mg_of X G a10, b10⟩,
    ⟨F11, PySem.W.mg_of X G a11, b11⟩,
    ⟨F12, PySem.W.mg_of X G a12, b12⟩,
    ⟨F13, PySem.W.mg_of X G a13, b13⟩,
    ⟨F14, PySem.W.mg_of X G a14, b14⟩,
    ⟨F15, PySem.W.mg_of X G a15, b15⟩,
    ⟨F16, PySem.W.mg_of X G a16, b16⟩,
    ⟨F17, PySem.W.mg_of X G a17, b17⟩,
    PySem.W.mg_none_of X G zstr,
    PySem.W.mg_none_of X G zisinstance,
    PySem.W.mg_none_of X G ztuple,
    PySem.W.mg_none_of X G zlist,
    PySem.W.mg_none_of X G zlen,
    PySem.W.mg_none_of X G zrange,
    PySem.W.mg_none_of X G zbool,
    PySem.W.mg_none_of X G zint,
    ⟨_, PySem.W.mg_of X G gCOMPARISON_LEVEL, ⟨_, rfl⟩⟩,
    ⟨_, PySem.W.mg_of X G gPREFIX_LEVEL, ⟨_, rfl⟩⟩,
    ⟨_, PySem.W.mg_of X G gATOM_LEVEL, ⟨_, rfl⟩⟩⟩,
    ⟨⟨ZLEVEL_OF, PySem.W.mg_of X G gLEVEL_OF, dictT_mk lLEVEL_OF wLEVEL_OF ⟨⟨⟨_, rfl⟩, qLEVEL_OF0, ⟨_, rfl⟩⟩, ⟨⟨_, rfl⟩, qLEVEL_OF1, ⟨_, rfl⟩⟩, ⟨⟨_, rfl⟩, qLEVEL_OF2, ⟨_, rfl⟩⟩, ⟨⟨_, rfl⟩, qLEVEL_OF3, ⟨_, rfl⟩⟩, ⟨⟨_, rfl⟩, qLEVEL_OF4, ⟨_, rfl⟩⟩, ⟨⟨_, rfl⟩, qLEVEL_OF5, ⟨_, rfl⟩⟩, ⟨⟨_, rfl⟩, qLEVEL_OF6, ⟨_, rfl⟩⟩, ⟨⟨_, rfl⟩, qLEVEL_OF7, ⟨_, rfl⟩⟩, ⟨⟨_, rfl⟩, qLEVEL_OF8, ⟨_, rfl⟩⟩, ⟨⟨_, rfl⟩, qLEVEL_OF9, ⟨_, rfl⟩⟩, ⟨⟨_, rfl⟩, qLEVEL_OF10, ⟨_, rfl⟩⟩, trivial⟩⟩, ⟨ZSIGN_OF, PySem.W.mg_of X G gSIGN_OF, dictT_mk lSIGN_OF wSIGN_OF ⟨⟨⟨_, rfl⟩, qSIGN_OF0, ⟨_, rfl⟩⟩, ⟨⟨_, rfl⟩, qSIGN_OF1, ⟨_, rfl⟩⟩, ⟨⟨_, rfl⟩, qSIGN_OF2, ⟨_, rfl⟩⟩, ⟨⟨_, rfl⟩, qSIGN_OF3, ⟨_, rfl⟩⟩, ⟨⟨_, rfl⟩, qSIGN_OF4, ⟨_, rfl⟩⟩, ⟨⟨_, rfl⟩, qSIGN_OF5, ⟨_, rfl⟩⟩, ⟨⟨_, rfl⟩, qSIGN_OF6, ⟨_, rfl⟩⟩, ⟨⟨_, rfl⟩, qSIGN_OF7, ⟨_, rfl⟩⟩, ⟨⟨_, rfl⟩, qSIGN_OF8, ⟨_, rfl⟩⟩, ⟨⟨_, rfl⟩, qSIGN_OF9, ⟨_, rfl⟩⟩, ⟨⟨_, rfl⟩, qSIGN_OF10, ⟨_, rfl⟩⟩, trivial⟩⟩⟩⟩
theorem walk {l : PySem.W.OpenLaw} {q : Program} {loose : List Str} {XP : (Str → Option Value) → Heap → Prop} {YP : World → Heap → Prop} {d : DefRec} {K : Params → PySem.W.Frag} (hn : l.most = some 63) (hdf : d.params.defaults = [])
    (hY : ∀ (w : World) (h : Heap), YP w h → (K w.params).In h)
    (F : ∀ (w : World) (mg : Str → Option Value) (fa : Addr) (h : Heap), (K w.params).In h → h.Ns mainGlobals mg → mg d.name = some (.ref fa) →
      ∃ A : At, A.a_law = fa ∧ (∀ (s : Shared) (v : Value), BindsTo s A.d_law ⟨[v], []⟩ [("script", v)]) ∧ Txt (K w.params) mg A ∧ Dic (K w.params) mg w.params) :
    PySem.W.WalkO q loose XP YP l.row.toRowW d [] (fun f vs => PySem.call f vs) :=
  L2.walk_of (n := 63) (k := 20) (x := "script") (CX := fun _ => CX0) (sp := fun w => spLaw (K w.params)) hn (by decide) hdf ⟨rfl, by decide, by decide⟩ hY
    (fun w mg fa h X G e => by
      obtain ⟨A, rfl, hb, T, Dd⟩ := F w mg fa h X G e
      exact ⟨A.d_law, hb, fun base _ _ => ok_law T Dd⟩)
    (fun _ _ a ns hl _ hS => ⟨a, ns, rfl, hS, hl, fun _ => rfl⟩) fun _ _ _ _ _ z => z
end O
open PySem PySem.W PyProof.Rows
set_option maxRecDepth 100000 in
set_option maxHeartbeats 0 in
theorem PySem.Challenge.cw_odds_k18_fewest_brackets_holds : PySem.Challenge.rw_odds_k18_fewest_brackets.Holds := by
  w_on; o_law; k_head; (case hw => w_witness2)
  k_fill
  refine O.walk (l := PySem.Challenge.rw_odds_k18_fewest_brackets) rfl rfl (fun w h Y => PySem.W.kIn_of Y) ?F
  case F =>
    intro w mg fa h KX G hmg
    refine' O.all_mk KX G hmg ?a0 ?l0 ?c0 ?k0 ?a1 ?l1 ?c1 ?k1 ?a2 ?l2 ?c2 ?k2 ?a3 ?l3 ?c3 ?k3 ?a4 ?l4 ?c4 ?k4 ?a5 ?l5 ?c5 ?k5 ?a6 ?l6 ?c6 ?k6 ?a7 ?l7 ?c7 ?k7 ?a8 ?l8 ?c8 ?k8 ?a9 ?l9 ?c9 ?k9 ?a10 ?l10 ?c10 ?k10 ?a11 ?l11 ?c11 ?k11 ?a12 ?l12 ?c12 ?k12 ?a13 ?l13 ?c13 ?k13 ?a14 ?l14 ?c14 ?k14 ?a15 ?l15 ?c15 ?k15 ?a16 ?l16 ?c16 ?k16 ?a17 ?l17 ?c17 ?k17 ?zstr ?zisinstance ?ztuple ?zlist ?zlen ?zrange ?zbool ?zint ?gCOMPARISON_LEVEL ?gPREFIX_LEVEL ?gATOM_LEVEL ?gLEVEL_OF ?lLEVEL_OF ?wLEVEL_OF ?qLEVEL_OF0 ?qLEVEL_OF1 ?qLEVEL_OF2 ?qLEVEL_OF3 ?qLEVEL_OF4 ?qLEVEL_OF5 ?qLEVEL_OF6 ?qLEVEL_OF7 ?qLEVEL_OF8 ?qLEVEL_OF9 ?qLEVEL_OF10 ?gSIGN_OF ?lSIGN_OF ?wSIGN_OF ?qSIGN_OF0 ?qSIGN_OF1 ?qSIGN_OF2 ?qSIGN_OF3 ?qSIGN_OF4 ?qSIGN_OF5 ?qSIGN_OF6 ?qSIGN_OF7 ?qSIGN_OF8 ?qSIGN_OF9 ?qSIGN_OF10
    (case a0 => k_is)
    (case l0 => k_is)
    (case c0 => k_is)
    (case k0 => k_is)
    (case a1 => k_is)
    (case l1 => k_is)
    (case c1 => k_is)
    (case k1 => k_is)
    (case a2 => k_is)
    (case l2 => k_is)
    (case c2 => k_is)
    (case k2 => k_is)
    (case a3 => k_is)
    (case l3 => k_is)
    (case c3 => k_is)
    (case k3 => k_is)
    (case a4 => k_is)
    (case l4 => k_is)
    (case c4 => k_is)
    (case k4 => k_is)
    (case a5 => k_is)
    (case l5 => k_is)
    (case c5 => k_is)
    (case k5 => k_is)
    (case a6 => k_is)
    (case l6 => k_is)
    (case c6 => k_is)
    (case k6 => k_is)
    (case a7 => k_is)
    (case l7 => k_is)
    (case c7 => k_is)
    (case k7 => k_is)
    (case a8 => k_is)
    (case l8 => k_is)
    (case c8 => k_is)
    (case k8 => k_is)
    (case a9 => k_is)
    (case l9 => k_is)
    (case c9 => k_is)
    (case k9 => k_is)
    (case a10 => k_is)
    (case l10 => k_is)
    (case c10 => k_is)
    (case k10 => k_is)
    (case a11 => k_is)
    (case l11 => k_is)
    (case c11 => k_is)
    (case k11 => k_is)
    (case a12 => k_is)
    (case l12 => k_is)
    (case c12 => k_is)
    (case k12 => k_is)
    (case a13 => k_is)
    (case l13 => k_is)
    (case c13 => k_is)
    (case k13 => k_is)
    (case a14 => k_is)
    (case l14 => k_is)
    (case c14 => k_is)
    (case k14 => k_is)
    (case a15 => k_is)
    (case l15 => k_is)
    (case c15 => k_is)
    (case k15 => k_is)
    (case a16 => k_is)
    (case l16 => k_is)
    (case c16 => k_is)
    (case k16 => k_is)
    (case a17 => k_is)
    (case l17 => k_is)
    (case c17 => k_is)
    (case k17 => k_is)
    (case zstr => k_is)
    (case zisinstance => k_is)
    (case ztuple => k_is)
    (case zlist => k_is)
    (case zlen => k_is)
    (case zrange => k_is)
    (case zbool => k_is)
    (case zint => k_is)
    (case gCOMPARISON_LEVEL => k_is)
    (case gPREFIX_LEVEL => k_is)
    (case gATOM_LEVEL => k_is)
    (case gLEVEL_OF => k_is)
    (case lLEVEL_OF => k_is)
    (case wLEVEL_OF => first | rfl | k_is | decide)
    (case qLEVEL_OF0 => first | rfl | k_is | decide)
    (case qLEVEL_OF1 => first | rfl | k_is | decide)
    (case qLEVEL_OF2 => first | rfl | k_is | decide)
    (case qLEVEL_OF3 => first | rfl | k_is | decide)
    (case qLEVEL_OF4 => first | rfl | k_is | decide)
    (case qLEVEL_OF5 => first | rfl | k_is | decide)
    (case qLEVEL_OF6 => first | rfl | k_is | decide)
    (case qLEVEL_OF7 => first | rfl | k_is | decide)
    (case qLEVEL_OF8 => first | rfl | k_is | decide)
    (case qLEVEL_OF9 => first | rfl | k_is | decide)
    (case qLEVEL_OF10 => first | rfl | k_is | decide)
    (case gSIGN_OF => k_is)
    (case lSIGN_OF => k_is)
    (case wSIGN_OF => first | rfl | k_is | decide)
    (case qSIGN_OF0 => first | rfl | k_is | decide)
    (case qSIGN_OF1 => first | rfl | k_is | decide)
    (case qSIGN_OF2 => first | rfl | k_is | decide)
    (case qSIGN_OF3 => first | rfl | k_is | decide)
    (case qSIGN_OF4 => first | rfl | k_is | decide)
    (case qSIGN_OF5 => first | rfl | k_is | decide)
    (case qSIGN_OF6 => first | rfl | k_is | decide)
    (case qSIGN_OF7 => first | rfl | k_is | decide)
    (case qSIGN_OF8 => first | rfl | k_is | decide)
    (case qSIGN_OF9 => first | rfl | k_is | decide)
    (case qSIGN_OF10 => first | rfl | k_is | decide)
