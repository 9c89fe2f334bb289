import PyProof.Rows.All
import Wide.All
import OpenK.AllK
import Wide.FinOn
import HandS.ForExc
import HandS.Wide
import HandS.WideBits
import HandS.Gcd
import HandS.IsInst
import HandS.ExcIs
import KE.RegKIsAll
import HandS.Codes
import HandS.StrMore
import HandS.Comp
import HandS.Iter
import HandS.Text
import KE.IntTextText
import HandS.SuiteRaise
import HandS.RaiseFrom
import HandS.RaiseMore
import HandS.TryOnly
import PySem.Challenge.RW_odds_k06_written_ratios
set_option Elab.async false
set_option linter.all false
set_option maxRecDepth 100000
set_option maxHeartbeats 4000000
namespace O
open PySem L2
def topS (i : Nat) : Stmt := PySem.Challenge.pw_odds_k06_written_ratios.main.body.getD i (.Pass ⟨0, 0, 0, 0⟩)
abbrev s_to_digits : Stmt := topS 8
theorem sc_to_digits : FnScope ["number"] ["number"] (defScope s_to_digits) := ⟨rfl, rfl, rfl, by decide +kernel, rfl, by decide +kernel, by decide +kernel⟩
abbrev s_from_digits : Stmt := topS 9
theorem sc_from_digits : FnScope ["text", "digits", "number"] ["text"] (defScope s_from_digits) := ⟨rfl, rfl, rfl, by decide +kernel, rfl, by decide +kernel, by decide +kernel⟩
abbrev s_has_numeral_form : Stmt := topS 10
theorem sc_has_numeral_form : FnScope ["text", "letter"] ["text"] (defScope s_has_numeral_form) := ⟨rfl, rfl, rfl, by decide +kernel, rfl, by decide +kernel, by decide +kernel⟩
abbrev s_numeral_of : Stmt := topS 11
theorem sc_numeral_of : FnScope ["number", "power", "width", "high", "low"] ["number"] (defScope s_numeral_of) := ⟨rfl, rfl, rfl, by decide +kernel, rfl, by decide +kernel, by decide +kernel⟩
abbrev s_number_of : Stmt := topS 12
theorem sc_number_of : FnScope ["digits", "power", "width"] ["digits"] (defScope s_number_of) := ⟨rfl, rfl, rfl, by decide +kernel, rfl, by decide +kernel, by decide +kernel⟩
abbrev s_write_ratio : Stmt := topS 14
theorem sc_write_ratio : FnScope ["r", "top", "bottom"] ["r"] (defScope s_write_ratio) := ⟨rfl, rfl, rfl, by decide +kernel, rfl, by decide +kernel, by decide +kernel⟩
abbrev s_read_ratio : Stmt := topS 15
theorem sc_read_ratio : FnScope ["text", "top_text", "slash", "bottom_text", "top", "bottom"] ["text"] (defScope s_read_ratio) := ⟨rfl, rfl, rfl, by decide +kernel, rfl, by decide +kernel, by decide +kernel⟩
abbrev s_law_same : Stmt := topS 17
theorem sc_law_same : FnScope ["actual", "due", "k"] ["actual", "due"] (defScope s_law_same) := ⟨rfl, rfl, rfl, by decide +kernel, rfl, by decide +kernel, by decide +kernel⟩
abbrev s_law_pool : Stmt := topS 18
theorem sc_law_pool : FnScope ["script", "salt", "cell"] ["script"] (defScope s_law_pool) := ⟨rfl, rfl, rfl, by decide +kernel, rfl, by decide +kernel, by decide +kernel⟩
abbrev s_law_spread : Stmt := topS 19
theorem sc_law_spread : FnScope ["cell", "mixed", "total", "k"] ["cell"] (defScope s_law_spread) := ⟨rfl, rfl, rfl, by decide +kernel, rfl, by decide +kernel, by decide +kernel⟩
abbrev s_law_draw : Stmt := topS 20
theorem sc_law_draw : FnScope ["pool", "many", "cell", "mixed", "value"] ["pool", "many"] (defScope s_law_draw) := ⟨rfl, rfl, rfl, by decide +kernel, rfl, by decide +kernel, by decide +kernel⟩
abbrev s_law_gcd : Stmt := topS 21
theorem sc_law_gcd : FnScope ["a", "b", "k", "left"] ["a", "b"] (defScope s_law_gcd) := ⟨rfl, rfl, rfl, by decide +kernel, rfl, by decide +kernel, by decide +kernel⟩
abbrev s_law_frac : Stmt := topS 22
theorem sc_law_frac : FnScope ["top", "bottom", "common"] ["top", "bottom"] (defScope s_law_frac) := ⟨rfl, rfl, rfl, by decide +kernel, rfl, by decide +kernel, by decide +kernel⟩
abbrev s_law_is_decimal : Stmt := topS 25
theorem sc_law_is_decimal : FnScope ["text", "digits", "char"] ["text"] (defScope s_law_is_decimal) := ⟨rfl, rfl, rfl, by decide +kernel, rfl, by decide +kernel, by decide +kernel⟩
abbrev s_law_number : Stmt := topS 26
theorem sc_law_number : FnScope ["pool", "most", "value"] ["pool", "most"] (defScope s_law_number) := ⟨rfl, rfl, rfl, by decide +kernel, rfl, by decide +kernel, by decide +kernel⟩
abbrev s_law_due : Stmt := topS 27
theorem sc_law_due : FnScope ["text", "at", "top", "bottom", "pair"] ["text"] (defScope s_law_due) := ⟨rfl, rfl, rfl, by decide +kernel, rfl, by decide +kernel, by decide +kernel⟩
abbrev s_law_changed : Stmt := topS 28
theorem sc_law_changed : FnScope ["pool", "text", "r", "at", "turn"] ["pool", "text", "r"] (defScope s_law_changed) := ⟨rfl, rfl, rfl, by decide +kernel, rfl, by decide +kernel, by decide +kernel⟩
abbrev s_law : Stmt := topS 29
theorem sc_law : FnScope ["script", "pool", "r", "written", "text", "due", "told", "e"] ["script"] (defScope s_law) := ⟨rfl, rfl, rfl, by decide +kernel, rfl, by decide +kernel, by decide +kernel⟩
/-- a def of the text as it stands behind the top -/
structure DefT (K : PySem.W.Frag) (mg : Str → Option Value) (x : Str) (st : Stmt) (ps : List Str) (f : Addr) (fd : FuncData) : Prop where
  F : Fun K x x st f fd
  g : mg x = some (.ref f)
  b : Binds K fd ps []
/-- an error class of the text -/
structure ErrT (K : PySem.W.Frag) (mg : Str → Option Value) (x : Str) (C : Addr) : Prop where
  g : mg x = some (.ref C)
  ex : PySem.W.excIn K C [.type "ValueError", .type "Exception", .type "BaseException", .type "object"] "ValueError.__new__" = true
  k : PySem.W.keepIn K (.ref C) = true
  b : PySem.W.subIn K (.ref C) (.type "BaseException") = some true
  t : PySem.W.typeIn K (.ref C) = some (.type "type")
  s : PySem.W.subIn K (.ref C) (.ref C) = some true
  e : ExcC K C
structure At where
  a_to_digits : Addr
  d_to_digits : FuncData
  a_from_digits : Addr
  d_from_digits : FuncData
  a_has_numeral_form : Addr
  d_has_numeral_form : FuncData
  a_numeral_of : Addr
  d_numeral_of : FuncData
  a_number_of : Addr
  d_number_of : FuncData
  a_write_ratio : Addr
  d_write_ratio : FuncData
  a_read_ratio : Addr
  d_read_ratio : FuncData
  a_law_same : Addr
  d_law_same : FuncData
  a_law_pool : Addr
  d_law_pool : FuncData
  a_law_spread : Addr
  d_law_spread : FuncData
  a_law_draw : Addr
  d_law_draw : FuncData
  a_law_gcd : Addr
  d_law_gcd : FuncData
  a_law_frac : Addr
  d_law_frac : FuncData
  a_law_is_decimal : Addr
  d_law_is_decimal : FuncData
  a_law_number : Addr
  d_law_number : FuncData
  a_law_due : Addr
  d_law_due : FuncData
  a_law_changed : Addr
  d_law_changed : FuncData
  a_law : Addr
  d_law : FuncData
  C_OddsError : Addr
  C_InvalidNumeral : Addr
  C_InvalidRatio : Addr
structure Txt (K : PySem.W.Frag) (mg : Str → Option Value) (A : At) : Prop where
  t_to_digits : DefT K mg "to_digits" s_to_digits ["number"] A.a_to_digits A.d_to_digits
  t_from_digits : DefT K mg "from_digits" s_from_digits ["text"] A.a_from_digits A.d_from_digits
  t_has_numeral_form : DefT K mg "has_numeral_form" s_has_numeral_form ["text"] A.a_has_numeral_form A.d_has_numeral_form
  t_numeral_of : DefT K mg "_numeral_of" s_numeral_of ["number"] A.a_numeral_of A.d_numeral_of
  t_number_of : DefT K mg "_number_of" s_number_of ["digits"] A.a_number_of A.d_number_of
  t_write_ratio : DefT K mg "write_ratio" s_write_ratio ["r"] A.a_write_ratio A.d_write_ratio
  t_read_ratio : DefT K mg "read_ratio" s_read_ratio ["text"] A.a_read_ratio A.d_read_ratio
  t_law_same : DefT K mg "_law_same" s_law_same ["actual", "due"] A.a_law_same A.d_law_same
  t_law_pool : DefT K mg "_law_pool" s_law_pool ["script"] A.a_law_pool A.d_law_pool
  t_law_spread : DefT K mg "_law_spread" s_law_spread ["cell"] A.a_law_spread A.d_law_spread
  t_law_draw : DefT K mg "_law_draw" s_law_draw ["pool", "many"] A.a_law_draw A.d_law_draw
  t_law_gcd : DefT K mg "_law_gcd" s_law_gcd ["a", "b"] A.a_law_gcd A.d_law_gcd
  t_law_frac : DefT K mg "_law_frac" s_law_frac ["top", "bottom"] A.a_law_frac A.d_law_frac
  t_law_is_decimal : DefT K mg "_law_is_decimal" s_law_is_decimal ["text"] A.a_law_is_decimal A.d_law_is_decimal
  t_law_number : DefT K mg "_law_number" s_law_number ["pool", "most"] A.a_law_number A.d_law_number
  t_law_due : DefT K mg "_law_due" s_law_due ["text"] A.a_law_due A.d_law_due
  t_law_changed : DefT K mg "_law_changed" s_law_changed ["pool", "text", "r"] A.a_law_changed A.d_law_changed
  t_law : DefT K mg "law" s_law ["script"] A.a_law A.d_law
  e_OddsError : ErrT K mg "OddsError" A.C_OddsError
  e_InvalidNumeral : ErrT K mg "InvalidNumeral" A.C_InvalidNumeral
  e_InvalidRatio : ErrT K mg "InvalidRatio" A.C_InvalidRatio
  z_all : mg "all" = none
  z_str : mg "str" = none
  z_divmod : mg "divmod" = none
  z_len : mg "len" = none
  z_int : mg "int" = none
  z_isinstance : mg "isinstance" = none
  z_tuple : mg "tuple" = none
  z_list : mg "list" = none
  z_range : mg "range" = none
  z_bool : mg "bool" = none
  z_abs : mg "abs" = none
  m_gcd : mg "gcd" = some (.builtin "math.gcd")
  m_DIGITS : ∃ u, mg "DIGITS" = some u ∧ RelV (.str (Str.ofString "0123456789")) u
  m_PIECE : ∃ u, mg "PIECE" = some u ∧ RelV (.int 64) u
  i_InvalidRatio_OddsError : PySem.W.kitOne K (.ref A.C_InvalidRatio) (.ref A.C_OddsError) = some true
  i_InvalidRatio_InvalidNumeral : PySem.W.kitOne K (.ref A.C_InvalidRatio) (.ref A.C_InvalidNumeral) = some false
  i_InvalidNumeral_InvalidRatio : PySem.W.kitOne K (.ref A.C_InvalidNumeral) (.ref A.C_InvalidRatio) = some false
/-! Euclid's walk: how many turns it takes -/
structure Eu (a0 b0 i a b : Nat) : Prop where
  g : Nat.gcd a b = Nat.gcd a0 b0
  z : i = 0 → a = a0 ∧ b = b0
  p : 0 < i → b < a ∧ a * b * 2 ^ i ≤ 2 * (a0 * b0)
theorem eu_start (a b : Nat) : Eu a b 0 a b := ⟨rfl, fun _ => ⟨rfl, rfl⟩, fun h => absurd h (Nat.lt_irrefl 0)⟩
theorem eu_half {a b : Nat} (hb : b ≠ 0) (h : b < a) : 2 * (a % b) ≤ a := by
  have h1 := Nat.mod_lt a (Nat.pos_of_ne_zero hb)
  have h2 := Nat.div_add_mod a b
  have h3 : 1 ≤ a / b := Nat.div_pos (Nat.le_of_lt h) (Nat.pos_of_ne_zero hb)
  have h4 : b * 1 ≤ b * (a / b) := Nat.mul_le_mul_left b h3
  omega
theorem eu_next {a0 b0 i a b : Nat} (h : Eu a0 b0 i a b) (hb : b ≠ 0) : Eu a0 b0 (i + 1) b (a % b) := by
  have hl := Nat.mod_lt a (Nat.pos_of_ne_zero hb)
  refine ⟨?_, fun e => by omega, fun _ => ⟨hl, ?_⟩⟩
  · rw [← h.g, Nat.gcd_comm a b, Nat.gcd_rec b a, Nat.gcd_comm]
  · by_cases hi : i = 0
    · obtain ⟨rfl, rfl⟩ := h.z hi
      subst hi
      have h1 : a % b ≤ a := Nat.mod_le a b
      have h2 : b * (a % b) ≤ b * a := Nat.mul_le_mul_left b h1
      rw [Nat.mul_comm b a] at h2
      show b * (a % b) * 2 ≤ 2 * (a * b)
      omega
    · obtain ⟨h1, h2⟩ := h.p (Nat.pos_of_ne_zero hi)
      have h3 := eu_half hb h1
      have h4 : b * (2 * (a % b)) ≤ b * a := Nat.mul_le_mul_left b h3
      have h5 : b * (2 * (a % b)) * 2 ^ i ≤ b * a * 2 ^ i := Nat.mul_le_mul_right _ h4
      have e : b * (a % b) * 2 ^ (i + 1) = b * (2 * (a % b)) * 2 ^ i := by
        rw [Nat.pow_succ, Nat.mul_comm (2 ^ i) 2, ← Nat.mul_assoc, Nat.mul_assoc b (a % b) 2, Nat.mul_comm (a % b) 2]
      rw [e]
      rw [Nat.mul_comm b a] at h5
      exact Nat.le_trans h5 h2
theorem eu_stop {a0 b0 i a b m n : Nat} (h : Eu a0 b0 i a b) (hb : b ≠ 0) (ha0 : a0 < 2 ^ m) (hb0 : b0 < 2 ^ n) (hi : m + n + 2 ≤ i) : False := by
  obtain ⟨h1, h2⟩ := h.p (by omega)
  have h3 : 1 ≤ a * b := Nat.mul_pos (by omega) (Nat.pos_of_ne_zero hb)
  have h4 : 1 * 2 ^ i ≤ a * b * 2 ^ i := Nat.mul_le_mul_right _ h3
  have h5 : a0 * b0 ≤ 2 ^ m * 2 ^ n := Nat.mul_le_mul (Nat.le_of_lt ha0) (Nat.le_of_lt hb0)
  rw [← Nat.pow_add] at h5
  have h6 : 2 ^ (m + n + 2) ≤ 2 ^ i := Nat.pow_le_pow_right (by decide) hi
  have h7 : 2 ^ (m + n + 2) = 4 * 2 ^ (m + n) := by rw [Nat.pow_add]; omega
  have h8 : 0 < 2 ^ (m + n) := Nat.pow_pos (by decide)
  omega
/-! a quotient in lowest terms -/
def rsg (t b : Int) : Int := if b < 0 then -(Int.gcd t b : Int) else (Int.gcd t b : Int)
def rtop (t b : Int) : Int := t.fdiv (rsg t b)
def rbot (t b : Int) : Int := b.fdiv (rsg t b)
theorem rgcd_pos {t b : Int} (hb : b ≠ 0) : 0 < Int.gcd t b := Int.gcd_pos_of_ne_zero_right t hb
theorem rsg_ne {t b : Int} (hb : b ≠ 0) : rsg t b ≠ 0 := by
  have h := rgcd_pos (t := t) hb
  unfold rsg
  split <;> omega
theorem rsg_dvd (t b x : Int) (h : (Int.gcd t b : Int) ∣ x) : rsg t b ∣ x := by
  unfold rsg
  split
  · exact Int.neg_dvd.mpr h
  · exact h
theorem rtop_mul (t b : Int) : rtop t b * rsg t b = t := Int.fdiv_mul_cancel (rsg_dvd t b t (Int.gcd_dvd_left ..))
theorem rbot_mul (t b : Int) : rbot t b * rsg t b = b := Int.fdiv_mul_cancel (rsg_dvd t b b (Int.gcd_dvd_right ..))
theorem r_cross (t b : Int) : rtop t b * b = t * rbot t b := by
  have h1 := rtop_mul t b
  have h2 := rbot_mul t b
  calc rtop t b * b = rtop t b * (rbot t b * rsg t b) := by rw [h2]
    _ = rtop t b * rsg t b * rbot t b := by rw [Int.mul_comm (rbot t b), ← Int.mul_assoc]
    _ = t * rbot t b := by rw [h1]
theorem rbot_pos {t b : Int} (hb : b ≠ 0) : 1 ≤ rbot t b := by
  have h1 := rbot_mul t b
  have h2 := rgcd_pos (t := t) hb
  have h3 : 0 < rbot t b := by
    by_cases hn : b < 0
    · have e : rsg t b = -(Int.gcd t b : Int) := if_pos hn
      rw [e] at h1
      have h4 : rbot t b * (Int.gcd t b : Int) = -b := by
        rw [Int.mul_neg] at h1
        omega
      exact Int.pos_of_mul_pos_left (a := rbot t b) (b := (Int.gcd t b : Int)) (by omega) (by omega)
    · have e : rsg t b = (Int.gcd t b : Int) := if_neg hn
      rw [e] at h1
      exact Int.pos_of_mul_pos_left (a := rbot t b) (b := (Int.gcd t b : Int)) (by omega) (by omega)
  omega
theorem r_gcd {t b : Int} (hb : b ≠ 0) : Int.gcd (rtop t b) (rbot t b) = 1 := by
  have h1 := rtop_mul t b
  have h2 := rbot_mul t b
  have h3 := rgcd_pos (t := t) hb
  have h4 : Int.gcd (rtop t b * rsg t b) (rbot t b * rsg t b) = Int.gcd (rtop t b) (rbot t b) * (rsg t b).natAbs := Int.gcd_mul_right ..
  rw [h1, h2] at h4
  have h5 : (rsg t b).natAbs = Int.gcd t b := by
    unfold rsg
    split
    · rw [Int.natAbs_neg]; rfl
    · rfl
  rw [h5] at h4
  exact (Nat.mul_right_cancel h3 (by rw [Nat.one_mul]; exact h4)).symm
theorem r_le {x q s : Int} (h : q * s = x) (hs : s ≠ 0) : q.natAbs ≤ x.natAbs := by
  rw [← h, Int.natAbs_mul]
  exact Nat.le_mul_of_pos_right _ (by omega)
theorem rtop_le {t b : Int} (hb : b ≠ 0) : (rtop t b).natAbs ≤ t.natAbs := r_le (rtop_mul t b) (rsg_ne hb)
theorem rbot_le {t b : Int} (hb : b ≠ 0) : (rbot t b).natAbs ≤ b.natAbs := r_le (rbot_mul t b) (rsg_ne hb)
/-! ### what a sequence asks, through a word of what stands between -/
theorem seq_then {t u : TS} {D : Ends} {σ : St} {H : Hp} (P : St → Hp → Prop) (h2 : ∀ σ' H', P σ' H' → u D σ' H') (h1 : ∀ N : St → Hp → Prop, (∀ σ' H', P σ' H' → N σ' H') → t { D with nx := N } σ H) : tSeq t u D σ H := h1 (u D) h2
theorem seq_const {v : V} {i : Nat} {u : TS} {D : Ends} {σ : St} {H : Hp} (h : u D (σ.set i (some v)) H) : tSeq (tAsg (tC v) (gName i)) u D σ H := h
theorem same_upd {H : Hp} {p : Addr} {o : HO} (h : H p = none) : Same H (upd H p o) := fun b x e => by
  rw [upd_ne (ne_of_none e h)]
  exact e
/-- all that was tracked is as it was, but what stands at p -/
def But (p : Addr) (H H' : Hp) : Prop := ∀ c o, H c = some o → c ≠ p → H' c = some o
theorem But.refl (p : Addr) (H : Hp) : But p H H := fun _ _ h _ => h
theorem But.trans {p : Addr} {H H1 H2 : Hp} (a : But p H H1) (b : But p H1 H2) : But p H H2 := fun c o h n => b c o (a c o h n) n
theorem But.upd {p : Addr} {H H1 : Hp} {o : HO} (a : But p H H1) : But p H (L2.upd H1 p o) := fun c x h n => by
  rw [upd_ne n]
  exact a c x h n
theorem But.same {p : Addr} {H H1 : Hp} (a : Same H H1) : But p H H1 := fun c o h _ => a c o h
/-- the pool of draws at p: the script's copy, the place, what is left of a cell, how many draws, the salt -/
def PoolAt (H : Hp) (p l : Addr) : Prop := ∃ (ns : List Int) (pos cur cnt salt : Int), H p = some (.lst [.ref l, .int pos, .int cur, .int cnt, .int salt]) ∧ H l = some (.lst (ns.map V.int)) ∧ 0 ≤ pos ∧ l ≠ p
theorem PoolAt.same {H H' : Hp} {p l : Addr} (a : Same H H') (h : PoolAt H p l) : PoolAt H' p l := by
  obtain ⟨ns, pos, cur, cnt, salt, h1, h2, h3, h4⟩ := h
  exact ⟨ns, pos, cur, cnt, salt, a _ _ h1, a _ _ h2, h3, h4⟩
/-- a pool is no tuple -/
theorem PoolAt.ne {H : Hp} {p l t : Addr} {xs : List V} (h : PoolAt H p l) (ht : H t = some (.tup xs)) : t ≠ p := by
  obtain ⟨ns, pos, cur, cnt, salt, h1, _⟩ := h
  exact ne_of ht h1 (by intro z; cases z)
theorem PoolAt.free {H : Hp} {p l t : Addr} (h : PoolAt H p l) (ht : H t = none) : t ≠ p := by
  obtain ⟨ns, pos, cur, cnt, salt, h1, _⟩ := h
  exact (ne_of_none h1 ht).symm
theorem PoolAt.free2 {H : Hp} {p l t : Addr} (h : PoolAt H p l) (ht : H t = none) : t ≠ l := by
  obtain ⟨ns, pos, cur, cnt, salt, _, h1, _⟩ := h
  exact (ne_of_none h1 ht).symm
theorem PoolAt.upd {H : Hp} {p l t : Addr} {o : HO} (h : PoolAt H p l) (h1 : t ≠ p) (h2 : t ≠ l) : PoolAt (L2.upd H t o) p l := by
  obtain ⟨ns, pos, cur, cnt, salt, a1, a2, a3, a4⟩ := h
  exact ⟨ns, pos, cur, cnt, salt, by rw [upd_ne h1.symm]; exact a1, by rw [upd_ne h2.symm]; exact a2, a3, a4⟩
theorem take_more {α : Type} {l : List α} {i : Nat} {x : α} (h : l[i]? = some x) : l.take (i + 1) = l.take i ++ [x] := by
  rw [List.take_add_one, h]
  rfl
/-- an item of a written row of ints at a drawn place -/
theorem pick_at {ms : List Int} {v : Int} (h0 : 0 ≤ v) (h1 : v < ms.length) : ∃ m, m ∈ ms ∧ atI (ms.map V.int) v = some (.int m) := by
  obtain ⟨j, rfl⟩ := Int.eq_ofNat_of_zero_le h0
  have hj : j < ms.length := by omega
  refine ⟨ms[j], List.getElem_mem hj, atI_nat ?_⟩
  rw [List.getElem?_map, List.getElem?_eq_getElem hj]
  rfl
section
variable {P : Program} {w : World} {K : PySem.W.Frag} {mg : Str → Option Value} {base : Heap} {A : At}
/-! ### the law's own draws -/
def spSpread : Sp := fun vs H Q _ => ∃ c : Int, vs = [.int c] ∧ ∀ v : Int, Q (.int v) H
theorem ok_spread (T : Txt K mg A) : FnOk P w K mg base CX0 1 A.a_law_spread A.d_law_spread ["cell"] spSpread := by
  refine T.t_law_spread.F.ok sc_law_spread (fun vs H Q E h => ?_) (fun cdv AA outer s H vs Q E hr h => ?_)
  · obtain ⟨c, rfl, _⟩ := h
    rfl
  · obtain ⟨c, rfl, k⟩ := h
    refine ⟨_, pss_cons (ps_set (i := 1) sc_law_spread.nd rfl (Or.inl rfl) (pe_op op_mod (pe_callTy call_int1 (by rfl) T.z_int PyProof.Rows.boot_int (pa_cons (pv 0) pa_nil)) pe_int))
      (pss_cons (ps_set (i := 2) sc_law_spread.nd rfl (Or.inl rfl) pe_int)
      (pss_cons (ps_for PassesOwn.never rfl (pi_range1 rfl T.z_range (pa_cons pe_int pa_nil)) (pg_name (i := 3) sc_law_spread.nd rfl (Or.inl rfl))
        (pss_cons (ps_set (i := 1) sc_law_spread.nd rfl (Or.inl rfl) (pe_op op_mod (pe_callTy call_int1 (by rfl) T.z_int PyProof.Rows.boot_int (pa_cons (pe_op op_add (pe_op op_add (pe_op op_mul (pv 1) pe_int) pe_int) (pv 3)) pa_nil)) pe_int))
        (pss_one (ps_set (i := 2) sc_law_spread.nd rfl (Or.inl rfl) (pe_op op_add (pe_op op_mul (pv 2) pe_int) (pv 1))))))
      (pss_one (ps_ret (pv 2))))), ?_⟩
    refine ⟨_, rfl, .inl ⟨_, rfl, _, _, rfl, rfl, (by show (0 : Int) < 2147483647; decide), ?_⟩⟩
    refine ⟨4, rfl, by decide, by decide, for_range (n := 4) (fun i σ H2 => H2 = H ∧ ∃ (m t : Int) (v : Option V), σ = [some (.int c), some (.int m), some (.int t), v])
      ⟨rfl, _, _, none, rfl⟩ ?_ ?_⟩
    · rintro i σ H2 hi ⟨rfl, m, t, v, rfl⟩
      refine ⟨_, rfl, _, _, rfl, rfl, .inr ⟨by decide, by decide⟩, _, _, rfl, rfl, _, rfl, _, _, rfl, rfl, .inl ⟨_, rfl, _, _, rfl, rfl, (by show (0 : Int) < 2147483647; decide), ?_⟩⟩
      refine ⟨_, rfl, _, _, rfl, rfl, .inr ⟨by decide, by decide⟩, _, rfl, _, _, rfl, rfl, ?_⟩
      exact ⟨rfl, _, _, _, rfl⟩
    · rintro σ H2 ⟨rfl, m, t, v, rfl⟩
      exact ⟨_, rfl, k _⟩
def spPool (K : PySem.W.Frag) : Sp := fun vs H Q _ => ∃ (a : Addr) (ns : List Int), vs = [.ref a] ∧ SqL K H a (ns.map V.int) ∧ ∀ p l H', PoolAt H' p l → Same H H' → H p = none → H l = none → Q (.ref p) H'
theorem cut_ints {ns : List Int} {lo hi : Option Int} {i : Nat} {y : V} (h : (cutV (ns.map V.int) lo hi)[i]? = some y) : ∃ z, y = V.int z := by
  have h1 : y ∈ cutV (ns.map V.int) lo hi := List.mem_of_getElem? h
  have h2 : y ∈ ns.map V.int := List.mem_of_mem_drop (List.mem_of_mem_take h1)
  obtain ⟨z, _, e⟩ := List.mem_map.mp h2
  exact ⟨z, e.symm⟩
theorem ok_pool (T : Txt K mg A) : FnOk P w K mg base CX0 1 A.a_law_pool A.d_law_pool ["script"] (spPool K) := by
  refine T.t_law_pool.F.ok sc_law_pool (fun vs H Q E h => ?_) (fun cdv AA outer s H vs Q E hr h => ?_)
  · obtain ⟨a, ns, rfl, _⟩ := h
    rfl
  · obtain ⟨a, ns, rfl, hS, k⟩ := h
    refine ⟨_, pss_cons (ps_set (i := 1) sc_law_pool.nd rfl (Or.inl rfl) pe_int)
      (pss_cons (ps_for PassesOwn.never rfl (pi_list (pe_slice sl_list (pv 0) po_none (po_some pe_int))) (pg_name (i := 2) sc_law_pool.nd rfl (Or.inl rfl))
        (pss_one (ps_set (i := 1) sc_law_pool.nd rfl (Or.inl rfl) (pe_op op_mod (pe_callTy call_int1 (by rfl) T.z_int PyProof.Rows.boot_int (pa_cons (pe_op op_add (pe_op op_mul (pv 1) pe_int) (pv 2)) pa_nil)) pe_int))))
      (pss_one (ps_ret (pe_lst (pa_cons (pe_callTy call_list_of (by rfl) T.z_list PyProof.Rows.boot_list (pa_cons (pv 0) pa_nil)) (pa_cons pe_int (pa_cons pe_int (pa_cons pe_int (pa_cons (pv 1) pa_nil))))))))), ?_⟩
    refine ⟨.ref a, rfl, 63, rfl, a, ns.map V.int, rfl, hS, fun c nc => ?_⟩
    have s1 := same_upd (o := .lst (cutV (ns.map V.int) none (some 63))) nc
    refine ⟨c, rfl, ⟨_, .inl (.inl upd_same)⟩, for_list (K := K) (a := c) (xs := cutV (ns.map V.int) none (some 63)) (fun i σ H2 => H2 = upd H c (.lst (cutV (ns.map V.int) none (some 63))) ∧ ∃ (m : Int) (v : Option V), σ = [some (.ref a), some (.int m), v])
      ⟨rfl, _, none, rfl⟩ (fun i σ H2 _ ⟨e, _⟩ => by rw [e]; exact .inl (.inl upd_same)) ?_ ?_⟩
    · rintro i y σ H2 hi ⟨rfl, m, v, rfl⟩
      obtain ⟨z, rfl⟩ := cut_ints hi
      refine ⟨_, rfl, _, _, rfl, rfl, .inr ⟨by decide, by decide⟩, _, rfl, _, _, rfl, rfl, .inl ⟨_, rfl, _, _, rfl, rfl, (by show (0 : Int) < 1000003; decide), ?_⟩⟩
      exact ⟨rfl, _, _, rfl⟩
    · rintro σ H2 ⟨rfl, m, v, rfl⟩
      refine ⟨.ref a, rfl, a, ns.map V.int, rfl, .inl (s1.seq hS), fun l nl => ?_⟩
      have s2 := same_upd (o := .lst (ns.map V.int)) nl
      refine ⟨_, rfl, (by show 5 ≤ sizeLine; decide), fun p np => ?_⟩
      have s3 := fun o => same_upd (o := o) np
      have ne : l ≠ p := ne_of_none upd_same np
      exact k p l _ ⟨ns, 0, 0, 0, m, upd_same, by rw [upd_ne ne, upd_same], Int.le_refl 0, ne⟩ (s1.trans (s2.trans (s3 _))) ((s1.trans s2).free np) (s1.free nl)
def spDraw : Sp := fun vs H Q _ => ∃ (p l : Addr) (many : Int), vs = [.ref p, .int many] ∧ PoolAt H p l ∧ (0 < many ∧ many.natAbs < 2 ^ 8000) ∧ ∀ v H', 0 ≤ v → v < many → PoolAt H' p l → But p H H' → Q (.int v) H'
theorem ok_draw (T : Txt K mg A) : FnOk P w K mg base CX0 2 A.a_law_draw A.d_law_draw ["pool", "many"] spDraw := by
  have GS : FnOk P w K mg base CX0 1 A.a_law_spread A.d_law_spread ["cell"] spSpread := ok_spread T
  refine T.t_law_draw.F.ok sc_law_draw (fun vs H Q E h => ?_) (fun cdv AA outer s H vs Q E hr h => ?_)
  · obtain ⟨p, l, many, rfl, _⟩ := h
    rfl
  · obtain ⟨p, l, many, rfl, ⟨ns, pos, cur, cnt, salt, hp, hl, hpos, hne⟩, ⟨hm, hmb⟩, k⟩ := h
    refine ⟨_, pss_cons (ps_if (PW.pt (pw_and (pt_cmpR op_le (pe_ix ix_list (pv 0) pe_int (fun _ _ => rfl)) pe_int (nomark _)) (pw_and1 (pt_cmpR op_lt (pe_ix ix_list (pv 0) pe_int (fun _ _ => rfl)) (pe_callB call_len_seq (by rfl) T.z_len PySem.boot_len (pa_cons (pe_ix ix_list (pv 0) pe_int (fun _ _ => rfl)) pa_nil)) (nomark _)))))
        (pss_cons (ps_set (i := 2) sc_law_draw.nd rfl (Or.inl rfl) (pe_ix ix_list (pe_ix ix_list (pv 0) pe_int (fun _ _ => rfl)) (pe_ix ix_list (pv 0) pe_int (fun _ _ => rfl)) (fun _ _ => rfl)))
        (pss_cons (ps_asg (pe_op op_add (pe_ix ix_list (pv 0) pe_int (fun _ _ => rfl)) pe_int) (pg_sub (pv 0) pe_int set_list))
        (pss_cons (ps_asg (pv 2) (pg_sub (pv 0) pe_int set_list))
        (pss_one (ps_if (pt_cmpR op_lt (pv 2) pe_int (nomark _))
          (pss_one (ps_asg (pe_call GS hr rfl T.t_law_spread.g T.t_law_spread.F.kp T.t_law_spread.b .nil pass0 (pa_cons (pv 2) pa_nil)) (pg_sub (pv 0) pe_int set_list))) pss_nil))))) pss_nil)
      (pss_cons (ps_asg (pe_op op_add (pe_ix ix_list (pv 0) pe_int (fun _ _ => rfl)) pe_int) (pg_sub (pv 0) pe_int set_list))
      (pss_cons (ps_if (pt_cmpR op_le (pe_ix ix_list (pv 0) pe_int (fun _ _ => rfl)) pe_int (nomark _))
        (pss_cons (ps_set (i := 3) sc_law_draw.nd rfl (Or.inl rfl) (pe_op op_mod (pe_callTy call_int1 (by rfl) T.z_int PyProof.Rows.boot_int (pa_cons (pe_op op_add (pe_op op_add (pe_op op_mul (pe_ix ix_list (pv 0) pe_int (fun _ _ => rfl)) pe_int) (pe_op op_mul (pe_ix ix_list (pv 0) pe_int (fun _ _ => rfl)) pe_int)) pe_int) pa_nil)) pe_int))
        (pss_cons (ps_set (i := 3) sc_law_draw.nd rfl (Or.inl rfl) (pe_op op_mod (pe_callTy call_int1 (by rfl) T.z_int PyProof.Rows.boot_int (pa_cons (pe_op op_add (pe_op op_mul (pv 3) pe_int) (pe_ix ix_list (pv 0) pe_int (fun _ _ => rfl))) pa_nil)) pe_int))
        (pss_one (ps_ret (pe_op op_mod (pe_op op_fdiv (pv 3) pe_int) (pv 1)))))) pss_nil)
      (pss_cons (ps_set (i := 4) sc_law_draw.nd rfl (Or.inl rfl) (pe_op op_mod (pe_callTy call_int1 (by rfl) T.z_int PyProof.Rows.boot_int (pa_cons (pe_ix ix_list (pv 0) pe_int (fun _ _ => rfl)) pa_nil)) (pv 1)))
      (pss_cons (ps_asg (pe_op op_fdivW (pe_ix ix_list (pv 0) pe_int (fun _ _ => rfl)) (pv 1)) (pg_sub (pv 0) pe_int set_list))
      (pss_one (ps_ret (pv 4))))))), ?_⟩
    refine seq_then (fun σ' H' => ∃ (vc : Option V) (pos' cur' : Int), σ' = [some (.ref p), some (.int many), vc, none, none] ∧ But p H H' ∧ H' p = some (.lst [.ref l, .int pos', .int cur', .int cnt, .int salt]) ∧ 0 ≤ pos') ?_ (fun N hN => ?_)
    · -- behind the first if
      rintro σ' H1 ⟨vc, pos', cur', rfl, B1, hp1, hpos1⟩
      refine ⟨_, rfl, p, _, 3, _, rfl, rfl, SqL.of hp1, rfl, _, _, rfl, rfl, _, rfl, p, _, 3, 3, rfl, rfl, hp1, rfl, ?_⟩
      have hp2 : (upd H1 p (.lst [.ref l, .int pos', .int cur', .int (cnt + 1), .int salt])) p = some (.lst [.ref l, .int pos', .int cur', .int (cnt + 1), .int salt]) := upd_same
      have B2 : But p H (upd H1 p (.lst [.ref l, .int pos', .int cur', .int (cnt + 1), .int salt])) := B1.upd
      refine ⟨_, rfl, p, _, 2, _, rfl, rfl, SqL.of hp2, rfl, _, _, rfl, rfl, _, rfl, ite2 (fun _ => ?_) (fun _ => ?_)⟩
      · refine ⟨_, rfl, p, _, 4, _, rfl, rfl, SqL.of hp2, rfl, _, _, rfl, rfl, .inr ⟨by decide, by decide⟩, _, rfl, p, _, 3, _, rfl, rfl, SqL.of hp2, rfl, _, _, rfl, rfl, .inr ⟨by decide, by decide⟩, _, _, rfl, rfl, _, _, rfl, rfl, .inl ⟨_, rfl, _, _, rfl, rfl, (by show (0 : Int) < 2147483647; decide), ?_⟩⟩
        refine ⟨_, rfl, _, _, rfl, rfl, .inr ⟨by decide, by decide⟩, _, rfl, p, _, 3, _, rfl, rfl, SqL.of hp2, rfl, _, _, rfl, rfl, .inl ⟨_, rfl, _, _, rfl, rfl, (by show (0 : Int) < 2147483629; decide), ?_⟩⟩
        refine ⟨_, rfl, _, _, rfl, rfl, ⟨by decide, by decide⟩, _, rfl, _, _, rfl, rfl, hm, ?_⟩
        exact k _ _ (Int.emod_nonneg _ (by omega)) (Int.emod_lt_of_pos _ hm) ⟨ns, _, _, _, _, hp2, B2 _ _ hl hne, hpos1, hne⟩ B2
      · refine ⟨_, rfl, p, _, 2, _, rfl, rfl, SqL.of hp2, rfl, .inl ⟨_, rfl, _, rfl, _, _, rfl, rfl, hm, ?_⟩⟩
        refine ⟨_, rfl, p, _, 2, _, rfl, rfl, SqL.of hp2, rfl, _, rfl, _, _, rfl, rfl, wide_div hm hmb (by decide) (by decide), _, rfl, p, _, 2, 2, rfl, rfl, hp2, rfl, ?_⟩
        refine ⟨_, rfl, ?_⟩
        exact k _ _ (Int.emod_nonneg _ (by omega)) (Int.emod_lt_of_pos _ hm) ⟨ns, _, _, _, _, upd_same, B2.upd _ _ hl hne, hpos1, hne⟩ B2.upd
    · -- the first if
      refine ⟨_, rfl, p, _, 2, _, rfl, rfl, SqL.of hp, rfl, _, _, rfl, rfl, _, rfl, ite2 (fun _ => ?_) (fun _ => ?_)⟩
      · refine ⟨_, rfl, p, _, 1, _, rfl, rfl, SqL.of hp, rfl, _, rfl, p, _, 0, _, rfl, rfl, SqL.of hp, rfl, l, _, rfl, .inl (SqL.of hl), _, _, rfl, rfl, _, rfl, ite2 (fun c2 => ?_) (fun _ => ?_)⟩
        · have c2 : pos < ((ns.map V.int).length : Int) := of_decide_eq_true c2
          rw [List.length_map] at c2
          obtain ⟨z, _, ez⟩ := pick_at hpos c2
          refine ⟨_, rfl, p, _, 0, _, rfl, rfl, SqL.of hp, rfl, _, rfl, p, _, 1, _, rfl, rfl, SqL.of hp, rfl, l, _, pos, _, rfl, rfl, SqL.of hl, ez, ?_⟩
          refine ⟨_, rfl, p, _, 1, _, rfl, rfl, SqL.of hp, rfl, _, _, rfl, rfl, _, rfl, p, _, 1, 1, rfl, rfl, hp, rfl, ?_⟩
          have hp1 : (upd H p (.lst [.ref l, .int (pos + 1), .int cur, .int cnt, .int salt])) p = some (.lst [.ref l, .int (pos + 1), .int cur, .int cnt, .int salt]) := upd_same
          refine ⟨_, rfl, _, rfl, p, _, 2, 2, rfl, rfl, hp1, rfl, ?_⟩
          have hp2 : (upd (upd H p (.lst [.ref l, .int (pos + 1), .int cur, .int cnt, .int salt])) p (.lst [.ref l, .int (pos + 1), .int z, .int cnt, .int salt])) p = some (.lst [.ref l, .int (pos + 1), .int z, .int cnt, .int salt]) := upd_same
          refine ⟨_, rfl, _, _, rfl, rfl, _, rfl, ite2 (fun _ => ?_) (fun _ => ?_)⟩
          · refine ⟨_, rfl, z, rfl, fun v => ⟨_, rfl, p, _, 2, 2, rfl, rfl, hp2, rfl, ?_⟩⟩
            exact hN _ _ ⟨_, _, _, rfl, (((But.refl p H).upd).upd).upd, upd_same, by omega⟩
          · exact hN _ _ ⟨_, _, _, rfl, ((But.refl p H).upd).upd, hp2, by omega⟩
        · exact hN _ _ ⟨none, _, _, rfl, But.refl p H, hp, hpos⟩
      · refine iteF ?_
        exact hN _ _ ⟨none, _, _, rfl, But.refl p H, hp, hpos⟩
end
/-! ### texts by their codes -/
open SX (S S_len S_cat S_inj)
theorem S_take (l : List Nat) (k : Nat) : cutS (S l) none (some (k : Int)) = S (l.take k) := by
  show (⟨((l.drop (HT.sIx (S l).length 0 none)).take (HT.sIx (S l).length (S l).length (some (k : Int)) - HT.sIx (S l).length 0 none)).toArray⟩ : Str) = S (l.take k)
  rw [HT.sIx_none, HT.sIx_nat, S_len, List.drop_zero, Nat.sub_zero]
  congr 2
  rw [List.take_eq_take_iff]
  omega
theorem S_drop (l : List Nat) (k : Nat) : cutS (S l) (some (k : Int)) none = S (l.drop k) := by
  show (⟨((l.drop (HT.sIx (S l).length 0 (some (k : Int)))).take (HT.sIx (S l).length (S l).length none - HT.sIx (S l).length 0 (some (k : Int)))).toArray⟩ : Str) = S (l.drop k)
  rw [HT.sIx_none, HT.sIx_nat, S_len]
  by_cases h : k ≤ l.length
  · rw [Nat.min_eq_left h, List.take_of_length_le (by rw [List.length_drop]; exact Nat.le_refl _)]
  · rw [Nat.min_eq_right (by omega), List.drop_eq_nil_of_le (show l.length ≤ k by omega), Nat.sub_self, List.take_zero]
theorem S_take_neg (l : List Nat) {k : Nat} (h : k ≤ l.length) (h0 : 0 < k) : cutS (S l) none (some (-(k : Int))) = S (l.take (l.length - k)) := by
  have e : HT.sIx (S l).length (S l).length (some (-(k : Int))) = l.length - k := by
    show (if -(k : Int) < 0 then (-(k : Int) + ((S l).length : Int)).toNat else min (-(k : Int)).toNat (S l).length) = l.length - k
    rw [if_pos (by omega), S_len]
    omega
  show (⟨((l.drop (HT.sIx (S l).length 0 none)).take (HT.sIx (S l).length (S l).length (some (-(k : Int))) - HT.sIx (S l).length 0 none)).toArray⟩ : Str) = S (l.take (l.length - k))
  rw [e, HT.sIx_none, List.drop_zero, Nat.sub_zero]
theorem S_drop_neg (l : List Nat) {k : Nat} (h : k ≤ l.length) (h0 : 0 < k) : cutS (S l) (some (-(k : Int))) none = S (l.drop (l.length - k)) := by
  have e : HT.sIx (S l).length 0 (some (-(k : Int))) = l.length - k := by
    show (if -(k : Int) < 0 then (-(k : Int) + ((S l).length : Int)).toNat else min (-(k : Int)).toNat (S l).length) = l.length - k
    rw [if_pos (by omega), S_len]
    omega
  show (⟨((l.drop (HT.sIx (S l).length 0 (some (-(k : Int))))).take (HT.sIx (S l).length (S l).length none - HT.sIx (S l).length 0 (some (-(k : Int))))).toArray⟩ : Str) = S (l.drop (l.length - k))
  rw [e, HT.sIx_none, S_len, List.take_of_length_le (by rw [List.length_drop]; exact Nat.le_refl _)]
/-- equality of texts -/
theorem dec_S (a b : List Nat) : decide (V.str (S a) = V.str (S b)) = decide (a = b) := by
  rw [Bool.eq_iff_iff, decide_eq_true_eq, decide_eq_true_eq]
  exact ⟨fun h => S_inj (V.str.inj h), fun h => by rw [h]⟩
theorem rm_prefix (l : List Nat) (c : Nat) : Txt.removeprefix (S l) (S [c]) = S (if l.head? = some c then l.tail else l) := by
  have e : Builtin.Str.subAt (S l) (S [c]) 0 = decide (l.head? = some c) := by
    unfold Builtin.Str.subAt
    cases l with
    | nil => rfl
    | cons d r =>
      have e1 : (S (d :: r)).cps.extract 0 (0 + (S [c]).length) = #[d] := by
        apply Array.toList_inj.mp
        rw [Array.toList_extract]
        rfl
      rw [e1]
      rw [Bool.eq_iff_iff, beq_iff_eq, decide_eq_true_eq]
      constructor
      · intro h
        have h2 : [d] = [c] := congrArg Array.toList h
        rw [List.head?_cons]
        exact congrArg some (List.cons.inj h2).1
      · intro h
        rw [List.head?_cons] at h
        rw [Option.some.inj h]
  unfold Txt.removeprefix
  rw [e]
  by_cases h : l.head? = some c
  · rw [decide_eq_true h, if_pos rfl, if_pos h]
    cases l with
    | nil => cases h
    | cons d r =>
      show Txt.affix (S (d :: r)) (some (1, (S (d :: r)).length)) = S r
      have hl : (S (d :: r)).length = r.length + 1 := S_len _
      have hne : ¬ ((S (d :: r)).length - 1 = (S (d :: r)).length) := by rw [hl]; omega
      simp only [Txt.affix]
      rw [if_neg (fun z => hne (beq_iff_eq.mp z))]
      refine TL.ext_tl ?_
      rw [TL.tl_strSub_end]
      rfl
  · rw [decide_eq_false h, if_neg Bool.false_ne_true, if_neg h]
    rfl
theorem starts_one (l : List Nat) (c : Nat) : Txt.startswith (S l) (S [c]) = decide (l.head? = some c) := by
  unfold Txt.startswith
  cases l with
  | nil => rfl
  | cons d r =>
    have e1 : (S (d :: r)).cps.extract 0 (0 + (S [c]).length) = #[d] := by
      apply Array.toList_inj.mp
      rw [Array.toList_extract]
      rfl
    unfold Builtin.Str.subAt
    rw [e1]
    have e2 : decide (0 + (S [c]).length ≤ (S (d :: r)).length) = true := decide_eq_true (by rw [S_len, S_len]; simp)
    rw [e2, Bool.true_and]
    rw [Bool.eq_iff_iff, beq_iff_eq, decide_eq_true_eq]
    constructor
    · intro h
      have h2 : [d] = [c] := congrArg Array.toList h
      rw [List.head?_cons]
      exact congrArg some (List.cons.inj h2).1
    · intro h
      rw [List.head?_cons] at h
      rw [Option.some.inj h]
/-- a walk over a text, sign by sign -/
theorem for_str {l : List Nat} {g : TG} {tb : TS} {D : Ends} {σ : St} {H : Hp} (Pv : Nat → St → Hp → Prop) (h0 : Pv 0 σ H)
    (hs : ∀ i c σ H, l[i]? = some c → Pv i σ H → g (.str (S [c])) σ H fun σ2 H2 => tb { D with nx := Pv (i + 1), ct := Pv (i + 1), bk := D.nx } σ2 H2) (hd : ∀ σ H, Pv l.length σ H → D.nx σ H) :
    ∃ W : Nat → Nat → St → Hp → Prop, (∃ m, W 0 m σ H) ∧ ∀ i m σ H, W i m σ H →
      ((Its (S l)).stop i H ∧ D.nx σ H) ∨ ((Its (S l)).go i H ∧ ∃ N : St → Hp → Prop, (∀ σ' H', N σ' H' → ∃ m', m' < m ∧ W (i + 1) m' σ' H') ∧ ∀ x H', (Its (S l)).yld i H x H' → g x σ H' fun σ2 H2 => tb { D with nx := N, ct := N, bk := D.nx } σ2 H2) := by
  refine ⟨fun i m σ H => m = l.length - i ∧ i ≤ l.length ∧ Pv i σ H, ⟨l.length, by simp, Nat.zero_le _, h0⟩, ?_⟩
  rintro i m σ H ⟨rfl, hi, p⟩
  by_cases hlt : i < l.length
  · refine .inr ⟨(by show i < l.toArray.size; simpa using hlt), Pv (i + 1), fun σ' H' p' => ⟨l.length - (i + 1), by omega, rfl, hlt, p'⟩, fun x H' y => ?_⟩
    obtain ⟨e, c, hc, rfl⟩ := y
    subst e
    exact hs i c _ _ (by simpa using hc) p
  · have e : i = l.length := by omega
    subst e
    exact .inl ⟨(by show l.toArray.size ≤ l.length; simp), hd σ H p⟩
/-- a comprehension over a text -/
theorem lc_str {l : List Nat} {g : TG} {tt : TT} {te : TE} {vs : List Nat} {σ : St} {H1 : Hp} {D : Addr} {Qd : Hp → Prop} (Pv : Nat → Hp → Prop) (h0 : Pv 0 (upd H1 D (.lst [])))
    (hs : ∀ i c H, l[i]? = some c → Pv i H → g (.str (S [c])) (wipe σ vs) H fun σ2 H2 => wipe σ2 vs = wipe σ vs ∧ tt σ2 H2 fun b H3 =>
      if b = true then te σ2 H3 fun y H4 => ∃ acc, H4 D = some (.lst acc) ∧ acc.length < sizeLine ∧ Pv (i + 1) (upd H4 D (.lst (acc ++ [y]))) else Pv (i + 1) H3) (hd : ∀ H, Pv l.length H → Qd H) :
    ∃ W : Nat → Nat → Hp → Prop, (∃ m, W 0 m (upd H1 D (.lst []))) ∧ ∀ i m H, W i m H →
      ((Its (S l)).stop i H ∧ Qd H) ∨ ((Its (S l)).go i H ∧ ∃ Nx : Hp → Prop, (∀ H', Nx H' → ∃ m', m' < m ∧ W (i + 1) m' H') ∧ ∀ x H', (Its (S l)).yld i H x H' → g x (wipe σ vs) H' fun σ2 H2 => wipe σ2 vs = wipe σ vs ∧ tt σ2 H2 fun b H3 =>
        if b = true then te σ2 H3 fun y H4 => ∃ acc, H4 D = some (.lst acc) ∧ acc.length < sizeLine ∧ Nx (upd H4 D (.lst (acc ++ [y]))) else Nx H3) := by
  refine ⟨fun i m H => m = l.length - i ∧ i ≤ l.length ∧ Pv i H, ⟨l.length, by simp, Nat.zero_le _, h0⟩, ?_⟩
  rintro i m H ⟨rfl, hi, p⟩
  by_cases hlt : i < l.length
  · refine .inr ⟨(by show i < l.toArray.size; simpa using hlt), Pv (i + 1), fun H' p' => ⟨l.length - (i + 1), by omega, rfl, hlt, p'⟩, fun x H' y => ?_⟩
    obtain ⟨e, c, hc, rfl⟩ := y
    subst e
    exact hs i c _ (by simpa using hc) p
  · have e : i = l.length := by omega
    subst e
    exact .inl ⟨(by show l.toArray.size ≤ l.length; simp), hd H p⟩
/-! ### numerals: the mathematics -/
open NumText (AllDigits digitsVal)
def isDig (c : Nat) : Bool := decide (48 ≤ c) && decide (c ≤ 57)
theorem isDig_iff (c : Nat) : isDig c = true ↔ 48 ≤ c ∧ c ≤ 57 := by
  unfold isDig
  rw [Bool.and_eq_true, decide_eq_true_eq, decide_eq_true_eq]
theorem all_digits {l : List Nat} (h : l.all isDig = true) : AllDigits l := fun c hc => (isDig_iff c).mp (List.all_eq_true.mp h c hc)
theorem digits_all {l : List Nat} (h : AllDigits l) : l.all isDig = true := List.all_eq_true.mpr fun c hc => (isDig_iff c).mpr (h c hc)
/-- the ten digits as a text's codes -/
theorem dig_mem (c : Nat) : decide (c ∈ (Str.ofString "0123456789").cps.toList) = isDig c := by
  have e : (Str.ofString "0123456789").cps.toList = [48, 49, 50, 51, 52, 53, 54, 55, 56, 57] := by decide +kernel
  rw [e, Bool.eq_iff_iff, decide_eq_true_eq, isDig_iff]
  simp only [List.mem_cons, List.not_mem_nil, or_false]
  omega
def numForm (l : List Nat) : Bool := !(decide (l = []) || (decide (l.head? = some 48) && !decide (l = [48]))) && l.all isDig
theorem numForm_ne {l : List Nat} (h : numForm l = true) : l ≠ [] := fun e => by subst e; exact absurd h (by decide)
theorem numForm_dig {l : List Nat} (h : numForm l = true) : AllDigits l := all_digits (Bool.and_eq_true_iff.mp h).2
theorem val_app (a b : List Nat) : digitsVal (a ++ b) = digitsVal a * 10 ^ b.length + digitsVal b := by
  have key : ∀ (b : List Nat) (x : Nat), b.foldl (fun acc c => acc * 10 + (c - 48)) x = x * 10 ^ b.length + b.foldl (fun acc c => acc * 10 + (c - 48)) 0 := by
    intro b
    induction b with
    | nil => intro x; simp
    | cons c r ih =>
      intro x
      rw [List.foldl_cons, List.foldl_cons, ih (x * 10 + (c - 48)), ih (0 * 10 + (c - 48)), List.length_cons, Nat.pow_succ, Nat.add_mul, Nat.zero_mul, Nat.zero_add]
      rw [Nat.mul_assoc x 10, Nat.mul_comm 10 (10 ^ r.length), ← Nat.add_assoc]
  unfold digitsVal
  rw [List.foldl_append]
  exact key b _
theorem val_lt : ∀ (l : List Nat), AllDigits l → digitsVal l < 10 ^ l.length := by
  have key : ∀ (l : List Nat) (x : Nat), AllDigits l → l.foldl (fun acc c => acc * 10 + (c - 48)) x < (x + 1) * 10 ^ l.length := by
    intro l
    induction l with
    | nil => intro x _; simp
    | cons c r ih =>
      intro x h
      have hc := h c (List.mem_cons_self)
      have h2 := ih (x * 10 + (c - 48)) fun d hd => h d (List.mem_cons_of_mem _ hd)
      rw [List.foldl_cons, List.length_cons, Nat.pow_succ]
      refine Nat.lt_of_lt_of_le h2 ?_
      have h3 : x * 10 + (c - 48) + 1 ≤ (x + 1) * 10 := by omega
      have h4 := Nat.mul_le_mul_right (10 ^ r.length) h3
      rw [Nat.mul_assoc, Nat.mul_comm 10] at h4
      exact h4
  intro l h
  have z := key l 0 h
  rw [Nat.zero_add, Nat.one_mul] at z
  exact z
theorem ten_lt (n : Nat) : 10 ^ n < 2 ^ (4 * n + 1) := by
  have h : 10 ^ n ≤ 16 ^ n := Nat.pow_le_pow_left (by decide) n
  have e : 2 ^ (4 * n + 1) = 2 * 16 ^ n := by
    rw [Nat.pow_succ, Nat.pow_mul, Nat.mul_comm]
  have p : 0 < 16 ^ n := Nat.pow_pos (by decide)
  omega
/-- the integer whose decimal form the codes are -/
def fromDec (l : List Nat) : Option Int :=
  if l = [45, 48] ∨ numForm (if l.head? = some 45 then l.tail else l) = false then none
  else some (if l.head? = some 45 then -((digitsVal (if l.head? = some 45 then l.tail else l) : Nat) : Int) else ((digitsVal (if l.head? = some 45 then l.tail else l) : Nat) : Int))
open SX (S S_len S_cat S_inj)
open NumText (AllDigits digitsVal)
section
variable {P : Program} {w : World} {K : PySem.W.Frag} {mg : Str → Option Value} {base : Heap} {A : At}
def spNumForm : Sp := fun vs H Q _ => ∃ l : List Nat, vs = [.str (S l)] ∧ l.length ≤ 100000 ∧ ∀ H', Same H H' → Q (.bl (numForm l)) H'
theorem at_head {l : List Nat} {c : Nat} (h : l.head? = some c) : atI (S l).cps.toList 0 = some c := by
  cases l with
  | nil => cases h
  | cons d r =>
    have e : d = c := Option.some.inj h
    subst e
    exact atI_nat (j := 0) rfl
theorem empty_S (l : List Nat) : decide (V.str (S l) = V.str (Str.ofString "")) = decide (l = []) := dec_S l []
theorem zero_S (l : List Nat) : decide (V.str (S l) = V.str (Str.ofString "0")) = decide (l = [48]) := dec_S l [48]
theorem one_zero_S (c : Nat) : decide (V.str ⟨#[c]⟩ = V.str (Str.ofString "0")) = decide (c = 48) := by
  have e := dec_S [c] [48]
  have e2 : decide ([c] = [48]) = decide (c = 48) := by simp
  rw [e2] at e
  exact e
theorem small_S {l : List Nat} (h : l.length ≤ 100000) : (S l).length ≤ sizeLine := by
  rw [S_len, sizeLine_eq]
  omega
theorem ok_num_form (T : Txt K mg A) : FnOk P w K mg base CX0 1 A.a_has_numeral_form A.d_has_numeral_form ["text"] spNumForm := by
  obtain ⟨uD, eD, rD⟩ := T.m_DIGITS
  refine T.t_has_numeral_form.F.ok sc_has_numeral_form (fun vs H Q E h => ?_) (fun cdv AA outer s H vs Q E hr h => ?_)
  · obtain ⟨l, rfl, _⟩ := h
    rfl
  · obtain ⟨l, rfl, hl, k⟩ := h
    refine ⟨_, (pss_cons (ps_if (PW.pt (pw_or (pt_cmpR op_eq (pv 0) pe_str (nomark _)) (pw_or1 (PW.pt (pw_and (pt_cmpR op_eq (pe_ix ix_str (pv 0) pe_int (fun _ _ => rfl)) pe_str (nomark _)) (pw_and1 (pt_cmpR op_ne (pv 0) pe_str (nomark _)))))))) (pss_one (ps_ret pe_bl)) pss_nil)
      (pss_one (ps_ret (pe_callB (cr_all rfl) (by rfl) T.z_all (by decide +kernel) (pa_cons (pe_lc (own := [("letter", 1)]) (g := gName 1) (tt := tYes) (by rfl) sc_has_numeral_form.nd (pi_str (pv 0)) (blkOk_by (own := [("letter", 1)]) (N := ["text", "letter"]) (sc := defScope s_has_numeral_form) (by decide +kernel)) (fun _ _ _ _ _ => pg_name (i := 1) sc_has_numeral_form.nd rfl (Or.inl rfl)) (fun _ _ _ _ _ => pts_nil) (fun _ _ _ _ _ => (pe_cmpR op_in_sign (pv 1) (pe_glob rfl eD rD) (by rfl)))) pa_nil))))), ?_⟩
    refine ⟨_, rfl, rfl, _, rfl, ite2 (fun h1 => ?_) (fun h1 => ?_)⟩
    · have e : decide (l = []) = true := (empty_S l).symm.trans h1
      have ek : numForm l = false := by unfold numForm; rw [e]; rfl
      rw [ek] at k
      exact iteT (k H (Same.refl H))
    · have h1 : decide (l = []) = false := by rw [← empty_S l]; exact Bool.eq_false_iff.mpr h1
      obtain ⟨c, r, rfl⟩ : ∃ c r, l = c :: r := List.exists_cons_of_ne_nil (of_decide_eq_false h1)
      refine ⟨_, rfl, _, _, c, rfl, rfl, small_S hl, at_head rfl, rfl, _, rfl, ?_⟩
      have rest : ∀ (b : Bool), (decide ((c :: r).head? = some 48) && !decide (c :: r = [48])) = b → b = false → numForm (c :: r) = (c :: r).all isDig := fun b e e2 => by
        unfold numForm
        rw [h1, e, e2]
        rfl
      have tail : (numForm (c :: r) = (c :: r).all isDig) → ∀ (t : TS) (D : Ends) (σ : St), True := fun _ _ _ _ => trivial
      refine ite2 (fun h2 => ?_) (fun h2 => ?_)
      · have h2 : decide (c = 48) = true := (one_zero_S c).symm.trans h2
        refine ⟨_, rfl, rfl, _, rfl, ite2 (fun h3 => ?_) (fun h3 => ?_)⟩
        · have h3 : (!decide (c :: r = [48])) = true := by rw [← zero_S (c :: r)]; exact h3
          have ek : numForm (c :: r) = false := by
            unfold numForm
            have e4 : decide ((c :: r).head? = some 48) = true := decide_eq_true (by rw [of_decide_eq_true h2]; rfl)
            rw [h1, e4, h3]
            rfl
          rw [ek] at k
          exact k H (Same.refl H)
        · have h3 : (!decide (c :: r = [48])) = false := by rw [← zero_S (c :: r)]; exact Bool.eq_false_iff.mpr h3
          rw [rest _ (by rw [h3, Bool.and_false]) rfl] at k
          refine ⟨_, rfl, S (c :: r), rfl, fun p np => lc_str (l := c :: r) (fun i H2 => ∃ H3, Same H H3 ∧ H2 = upd H3 p (.lst ((((c :: r).take i).map isDig).map V.bl)) ∧ H3 p = none)
            ⟨H, Same.refl H, rfl, np⟩ ?_ ?_⟩
          · rintro i b H2 hi ⟨H3, s3, rfl, n3⟩
            refine ⟨rfl, ?_⟩
            refine ⟨_, rfl, _, _, rfl, rfl, ?_⟩
            rw [dig_mem b]
            refine ⟨_, upd_same, ?_, H3, s3, ?_, n3⟩
            · rw [List.length_map, List.length_map, List.length_take, sizeLine_eq]
              omega
            · rw [upd_upd, List.take_add_one, hi, List.map_append, List.map_append]
              rfl
          · rintro H2 ⟨H3, s3, rfl, n3⟩
            refine ⟨_, _, rfl, SqL.of upd_same, ?_⟩
            have e5 : ((((c :: r).take (c :: r).length).map isDig).all id) = (c :: r).all isDig := by
              rw [List.take_length, List.all_map]
              rfl
            rw [e5]
            exact k _ (s3.trans (same_upd n3))
      · have h2 : decide (c = 48) = false := by rw [← one_zero_S c]; exact Bool.eq_false_iff.mpr h2
        have e4 : decide ((c :: r).head? = some 48) = false := decide_eq_false fun e => (of_decide_eq_false h2) (Option.some.inj e)
        rw [rest _ (by rw [e4, Bool.false_and]) rfl] at k
        refine iteF ?_
        refine ⟨_, rfl, S (c :: r), rfl, fun p np => lc_str (l := c :: r) (fun i H2 => ∃ H3, Same H H3 ∧ H2 = upd H3 p (.lst ((((c :: r).take i).map isDig).map V.bl)) ∧ H3 p = none)
          ⟨H, Same.refl H, rfl, np⟩ ?_ ?_⟩
        · rintro i b H2 hi ⟨H3, s3, rfl, n3⟩
          refine ⟨rfl, ?_⟩
          refine ⟨_, rfl, _, _, rfl, rfl, ?_⟩
          rw [dig_mem b]
          refine ⟨_, upd_same, ?_, H3, s3, ?_, n3⟩
          · rw [List.length_map, List.length_map, List.length_take, sizeLine_eq]
            omega
          · rw [upd_upd, List.take_add_one, hi, List.map_append, List.map_append]
            rfl
        · rintro H2 ⟨H3, s3, rfl, n3⟩
          refine ⟨_, _, rfl, SqL.of upd_same, ?_⟩
          have e5 : ((((c :: r).take (c :: r).length).map isDig).all id) = (c :: r).all isDig := by
            rw [List.take_length, List.all_map]
            rfl
          rw [e5]
          exact k _ (s3.trans (same_upd n3))
def spNumberOf (n : Nat) : Sp := fun vs H Q _ => ∃ l : List Nat, vs = [.str (S l)] ∧ AllDigits l ∧ l ≠ [] ∧ l.length ≤ 64 * 2 ^ n ∧ n ≤ 10 ∧ Q (.int ((digitsVal l : Nat) : Int)) H
theorem dig_take {l : List Nat} (h : AllDigits l) (k : Nat) : AllDigits (l.take k) := fun c hc => h c (List.mem_of_mem_take hc)
theorem dig_drop {l : List Nat} (h : AllDigits l) (k : Nat) : AllDigits (l.drop k) := fun c hc => h c (List.mem_of_mem_drop hc)
theorem ten_pow (k : Nat) : (10 : Int) ^ k = ((10 ^ k : Nat) : Int) := by
  induction k with
  | zero => rfl
  | succ k ih =>
    rw [Int.pow_succ, ih, Nat.pow_succ, Int.natCast_mul]
    rfl
theorem pow_two_10 {n : Nat} (h : n ≤ 10) : 2 ^ n ≤ 1024 := Nat.pow_le_pow_right (by decide) h
theorem ten_abs (k : Nat) : ((10 ^ k : Nat) : Int).natAbs < 2 ^ (4 * k + 1) := by
  rw [Int.natAbs_natCast]
  exact ten_lt k
theorem ok_number_of (T : Txt K mg A) : ∀ n : Nat, FnOk P w K mg base CX0 (n + 1) A.a_number_of A.d_number_of ["digits"] (spNumberOf n)
  | 0 => by
    obtain ⟨uP, eP, rP⟩ := T.m_PIECE
    refine T.t_number_of.F.ok sc_number_of (fun vs H Q E h => ?_) (fun cdv AA outer s H vs Q E hr h => ?_)
    · obtain ⟨l, rfl, _⟩ := h
      rfl
    · obtain ⟨l, rfl, hd, hne, hl, _, k⟩ := h
      have hl : l.length ≤ 64 := hl
      refine ⟨_, pss_cons (ps_if (pt_cmpR op_le (pe_callB call_len_str (by rfl) T.z_len PySem.boot_len (pa_cons (pv 0) pa_nil)) (pe_glob rfl eP rP) (nomark _)) (pss_one (ps_ret (pe_callTy call_int_str (by rfl) T.z_int PyProof.Rows.boot_int (pa_cons (pv 0) pa_nil)))) pss_nil) pss_never, ?_⟩
      refine ⟨_, rfl, _, rfl, small_S (by omega), _, _, rfl, rfl, _, rfl, ?_⟩
      have e : decide (((S l).length : Int) ≤ 64) = true := decide_eq_true (by rw [S_len]; omega)
      refine ite2 (fun _ => ?_) (fun h => absurd e h)
      exact ⟨_, rfl, _, _, rfl, intText_digits (x := S l) hd hne (by rw [S_len]; omega), by rw [S_len]; omega, k⟩
  | n + 1 => by
    have G_number_of : FnOk P w K mg base CX0 (n + 1) A.a_number_of A.d_number_of ["digits"] (spNumberOf n) := ok_number_of T n
    obtain ⟨uP, eP, rP⟩ := T.m_PIECE
    refine T.t_number_of.F.ok sc_number_of (fun vs H Q E h => ?_) (fun cdv AA outer s H vs Q E hr h => ?_)
    · obtain ⟨l, rfl, _⟩ := h
      rfl
    · obtain ⟨l, rfl, hd, hne, hl, hn, k⟩ := h
      have p1 := pow_two_10 hn
      have ep : 2 ^ (n + 1) = 2 * 2 ^ n := by rw [Nat.pow_succ]; omega
      have hl5 : l.length ≤ 65536 := by omega
      refine ⟨_, (pss_cons (ps_if (pt_cmpR op_le (pe_callB call_len_str (by rfl) T.z_len PySem.boot_len (pa_cons (pv 0) pa_nil)) (pe_glob rfl eP rP) (nomark _)) (pss_one (ps_ret (pe_callTy call_int_str (by rfl) T.z_int PyProof.Rows.boot_int (pa_cons (pv 0) pa_nil)))) pss_nil)
      (pss_cons (ps_set (i := 1) sc_number_of.nd rfl (Or.inl rfl) (pe_op op_pow pe_int pe_int))
      (pss_cons (ps_set (i := 2) sc_number_of.nd rfl (Or.inl rfl) (pe_glob rfl eP rP))
      (pss_cons (ps_while PassesOwn.never (pt_cmpR op_lt (pe_op op_mul (pv 2) pe_int) (pe_callB call_len_str (by rfl) T.z_len PySem.boot_len (pa_cons (pv 0) pa_nil)) (nomark _)) (pss_cons (ps_set (i := 1) sc_number_of.nd rfl (Or.inl rfl) (pe_op op_mulW (pv 1) (pv 1)))
      (pss_one (ps_set (i := 2) sc_number_of.nd rfl (Or.inl rfl) (pe_op op_mul (pv 2) pe_int)))))
      (pss_one (ps_ret (pe_op op_add (pe_op op_mulW (pe_call G_number_of hr rfl T.t_number_of.g T.t_number_of.F.kp T.t_number_of.b .nil pass0 (pa_cons (pe_slice sl_str (pv 0) po_none (po_some (pe_un un_neg (pv 2)))) pa_nil)) (pv 1)) (pe_call G_number_of hr rfl T.t_number_of.g T.t_number_of.F.kp T.t_number_of.b .nil pass0 (pa_cons (pe_slice sl_str (pv 0) (po_some (pe_un un_neg (pv 2))) po_none) pa_nil))))))))), ?_⟩
      refine ⟨_, rfl, _, rfl, small_S (by omega), _, _, rfl, rfl, _, rfl, ?_⟩
      refine ite2 (fun h1 => ?_) (fun h1 => ?_)
      · have h1 : ((S l).length : Int) ≤ 64 := of_decide_eq_true h1
        rw [S_len] at h1
        exact ⟨_, rfl, _, _, rfl, intText_digits (x := S l) hd hne (by rw [S_len]; omega), by rw [S_len]; omega, k⟩
      · have h1 : ¬ ((S l).length : Int) ≤ 64 := fun z => h1 (decide_eq_true z)
        rw [S_len] at h1
        refine ⟨_, _, rfl, rfl, ⟨by decide, by decide, by decide⟩, ?_⟩
        refine while_by (fun σ H2 => H2 = H ∧ ∃ j : Nat, σ = [some (.str (S l)), some (.int ((10 ^ (64 * 2 ^ j) : Nat) : Int)), some (.int ((64 * 2 ^ j : Nat) : Int))] ∧ 64 * 2 ^ j < l.length)
          (fun σ _ => match σ with | [_, _, some (.int i)] => l.length - i.toNat | _ => 0) ⟨rfl, 0, ?_, by omega⟩ ?_ ?_
        · have e : V.int ((10 : Int) ^ (64 : Int).toNat) = V.int ((10 ^ (64 * 2 ^ 0) : Nat) : Int) := by rw [ten_pow]; rfl
          have e2 : ∀ z : V, z = V.int ((10 ^ (64 * 2 ^ 0) : Nat) : Int) → [some (V.str (S l)), some z, some (V.int 64)] = [some (V.str (S l)), some (V.int ((10 ^ (64 * 2 ^ 0) : Nat) : Int)), some (V.int ((64 * 2 ^ 0 : Nat) : Int))] := fun z hz => by rw [hz]; rfl
          exact e2 _ e
        · rintro σ H2 ⟨rfl, j, rfl, hj⟩
          refine ⟨_, rfl, _, _, rfl, rfl, .inr ⟨by decide, by decide⟩, _, rfl, _, rfl, small_S (by omega), _, _, rfl, rfl, _, rfl, ?_⟩
          have ej : 2 ^ (j + 1) = 2 * 2 ^ j := by rw [Nat.pow_succ]; omega
          refine ite2 (fun h2 => ?_) (fun h2 => ?_)
          · have h2 : ((64 * 2 ^ j : Nat) : Int) * 2 < ((S l).length : Int) := of_decide_eq_true h2
            rw [S_len] at h2
            have hb := ten_abs (64 * 2 ^ j)
            refine ⟨_, rfl, _, rfl, _, _, rfl, rfl, wide_mul hb hb (by omega) (by omega) (by omega), ?_⟩
            refine ⟨_, rfl, _, _, rfl, rfl, .inr ⟨by decide, by decide⟩, ?_⟩
            have e1 : ((10 ^ (64 * 2 ^ j) : Nat) : Int) * ((10 ^ (64 * 2 ^ j) : Nat) : Int) = ((10 ^ (64 * 2 ^ (j + 1)) : Nat) : Int) := by
              rw [← Int.natCast_mul, ← Nat.pow_add]
              congr 2
              omega
            have e2 : ((64 * 2 ^ j : Nat) : Int) * 2 = ((64 * 2 ^ (j + 1) : Nat) : Int) := by omega
            refine ⟨⟨rfl, j + 1, ?_, by omega⟩, ?_⟩
            · rw [← e1, ← e2]
              rfl
            · show l.length - (((64 * 2 ^ j : Nat) : Int) * 2).toNat < l.length - ((64 * 2 ^ j : Nat) : Int).toNat
              have pj : 0 < 2 ^ j := Nat.pow_pos (by decide)
              rw [e2, Int.toNat_natCast, Int.toNat_natCast]
              omega
          · have h2 : ¬ ((64 * 2 ^ j : Nat) : Int) * 2 < ((S l).length : Int) := fun z => h2 (decide_eq_true z)
            rw [S_len] at h2
            generalize hw : 64 * 2 ^ j = wd at hj h2 ⊢
            have hwd : 64 ≤ wd := by
              have : 0 < 2 ^ j := Nat.pow_pos (by decide)
              omega
            have hwn : wd ≤ 64 * 2 ^ n := by
              have hjn : 2 ^ j < 2 ^ (n + 1) := by omega
              have hjn2 : j < n + 1 := (Nat.pow_lt_pow_iff_right (by decide)).mp hjn
              have : 2 ^ j ≤ 2 ^ n := Nat.pow_le_pow_right (by decide) (by omega)
              omega
            have t1 : (l.take (l.length - wd)).length = l.length - wd := by rw [List.length_take]; omega
            have t2 : (l.drop (l.length - wd)).length = wd := by rw [List.length_drop]; omega
            refine ⟨_, rfl, _, rfl, _, rfl, _, rfl, S l, rfl, small_S (by omega), ?_⟩
            rw [S_take_neg l (by omega) (by omega)]
            refine ⟨_, rfl, dig_take hd _, (fun e => by rw [e] at t1; simp at t1; omega), by omega, by omega, ?_⟩
            have v1 := val_lt _ (dig_take hd (l.length - wd))
            rw [t1] at v1
            have v2 : (((digitsVal (l.take (l.length - wd))) : Nat) : Int).natAbs < 2 ^ (4 * (l.length - wd) + 1) := by
              rw [Int.natAbs_natCast]
              exact Nat.lt_trans v1 (ten_lt _)
            refine ⟨_, rfl, _, _, rfl, rfl, wide_mul v2 (ten_abs wd) (by omega) (by omega) (by omega), ?_⟩
            refine ⟨_, rfl, _, rfl, _, rfl, _, rfl, S l, rfl, small_S (by omega), ?_⟩
            rw [S_drop_neg l (by omega) (by omega)]
            refine ⟨_, rfl, dig_drop hd _, (fun e => by rw [e] at t2; simp at t2; omega), by omega, by omega, ?_⟩
            refine ⟨_, _, rfl, rfl, ?_⟩
            have ev : digitsVal l = digitsVal (l.take (l.length - wd)) * 10 ^ wd + digitsVal (l.drop (l.length - wd)) := by
              have z := val_app (l.take (l.length - wd)) (l.drop (l.length - wd))
              rw [List.take_append_drop, t2] at z
              exact z
            rw [ev, Int.natCast_add, Int.natCast_mul] at k
            exact k
        · intro σ H2 Q1 Q2 f h
          obtain ⟨v, e1, i, j, e2, e3, c, v', e4, z, e5, e6, i2, j2, e7, e8, kk, e9, q⟩ := h
          exact ⟨v, e1, i, j, e2, e3, c, v', e4, z, e5, e6, i2, j2, e7, e8, kk, e9, f _ _ q⟩
def spFromDigits (C : Addr) : Sp := fun vs H Q E => ∃ l : List Nat, vs = [.str (S l)] ∧ l.length ≤ 60000 ∧ (fromDec l = none → ∀ H', Same H H' → E (.ref C) none H') ∧ (∀ n, fromDec l = some n → ∀ H', Same H H' → Q (.int n) H')
theorem min_zero_S (l : List Nat) : decide (V.str (S l) = V.str (Str.ofString "-0")) = decide (l = [45, 48]) := dec_S l [45, 48]
theorem ok_from_digits (T : Txt K mg A) : FnOk P w K mg base (L2.CX P w) 12 A.a_from_digits A.d_from_digits ["text"] (spFromDigits A.C_InvalidNumeral) := by
  have G_has_numeral_form : FnOk P w K mg base CX0 1 A.a_has_numeral_form A.d_has_numeral_form ["text"] spNumForm := ok_num_form T
  have G_number_of : FnOk P w K mg base CX0 11 A.a_number_of A.d_number_of ["digits"] (spNumberOf 10) := ok_number_of T 10
  refine T.t_from_digits.F.okX sc_from_digits (fun vs H Q E h => ?_) (fun cdv AA outer s H vs Q E hr h => ?_)
  · obtain ⟨l, rfl, _⟩ := h
    rfl
  · obtain ⟨l, rfl, hl, kE, kQ⟩ := h
    refine ⟨_, (pss_cons (ps_set (i := 1) sc_from_digits.nd rfl (Or.inl rfl) (pe_m1 PySem.F.slot_str_removeprefix PySem.F.type_str_removeprefix mt_removeprefix (pv 0) pe_str))
      (pss_cons (ps_if (PW.pt (pw_or (pt_cmpR op_eq (pv 0) pe_str (nomark _)) (pw_or1 (pt_not (pt_val (pe_call G_has_numeral_form (hr.mono (by decide)) rfl T.t_has_numeral_form.g T.t_has_numeral_form.F.kp T.t_has_numeral_form.b .nil pass0 (pa_cons (pv 1) pa_nil))))))) (pss_one (ps_raise rfl (takes_of rfl rfl rfl rfl) (pmk_own PySem.F.excBase_ValueError T.e_InvalidNumeral.ex T.e_InvalidNumeral.g T.e_InvalidNumeral.k (raises_own T.e_InvalidNumeral.b T.e_InvalidNumeral.t) rfl))) pss_nil)
      (pss_cons (ps_set (i := 2) sc_from_digits.nd rfl (Or.inl rfl) (pe_call G_number_of (hr.mono (by decide)) rfl T.t_number_of.g T.t_number_of.F.kp T.t_number_of.b .nil pass0 (pa_cons (pv 1) pa_nil)))
      (pss_cons (ps_if (pt_val (pe_m1 PySem.F.slot_str_startswith PySem.F.type_str_startswith mt_startswith (pv 0) pe_str)) (pss_one (ps_ret (pe_un un_neg (pv 2)))) pss_nil)
      (pss_one (ps_ret (pv 2))))))), ?_⟩
    refine ⟨_, rfl, ⟨_, rfl⟩, _, _, rfl, rfl, small_S (by omega), ?_⟩
    rw [show Txt.removeprefix (S l) (Str.ofString "-") = S (if l.head? = some 45 then l.tail else l) from rm_prefix l 45]
    have hdl : (if l.head? = some 45 then l.tail else l).length ≤ 60000 := by
      split
      · rw [List.length_tail]; omega
      · exact hl
    have ef : fromDec l = if l = [45, 48] ∨ numForm (if l.head? = some 45 then l.tail else l) = false then none
      else some (if l.head? = some 45 then -((digitsVal (if l.head? = some 45 then l.tail else l) : Nat) : Int) else ((digitsVal (if l.head? = some 45 then l.tail else l) : Nat) : Int)) := rfl
    generalize (if l.head? = some 45 then l.tail else l) = d at ef hdl ⊢
    refine ⟨_, rfl, rfl, _, rfl, ite2 (fun h1 => ?_) (fun h1 => ?_)⟩
    · have h1 : l = [45, 48] := of_decide_eq_true ((min_zero_S l).symm.trans h1)
      rw [if_pos (Or.inl h1)] at ef
      exact kE ef H (Same.refl H)
    · have h1 : ¬ l = [45, 48] := fun e => h1 ((min_zero_S l).trans (decide_eq_true e))
      refine ⟨_, rfl, d, rfl, by omega, fun H' s' => ⟨_, rfl, ?_⟩⟩
      cases hf : numForm d with
      | false =>
        rw [if_pos (Or.inr hf)] at ef
        exact kE ef H' s'
      | true =>
        rw [if_neg (fun z => z.elim h1 fun z => by rw [hf] at z; cases z)] at ef
        refine iteF ?_
        refine ⟨_, rfl, d, rfl, numForm_dig hf, numForm_ne hf, by omega, by decide, ?_⟩
        refine ⟨_, rfl, ⟨_, rfl⟩, _, _, rfl, rfl, _, rfl, ?_⟩
        rw [show Txt.startswith (S l) (Str.ofString "-") = decide (l.head? = some 45) from starts_one l 45]
        refine ite2 (fun h2 => ?_) (fun h2 => ?_)
        · rw [if_pos (of_decide_eq_true h2)] at ef
          exact ⟨_, rfl, _, rfl, kQ _ ef H' s'⟩
        · rw [if_neg (fun z => h2 (decide_eq_true z))] at ef
          exact ⟨_, rfl, kQ _ ef H' s'⟩
end
/-! ### decimal texts: the mathematics of writing -/
open SX (S S_len S_cat S_inj)
open NumText (AllDigits digitsVal)
open TL (numL numL_lt numL_step numL_digits numL_ne numL_val)
/-- the w digits of m, with leading zeros -/
def padL : Nat → Nat → List Nat
  | 0, _ => []
  | w + 1, m => padL w (m / 10) ++ [48 + m % 10]
theorem padL_len : ∀ w m, (padL w m).length = w
  | 0, _ => rfl
  | w + 1, m => by rw [padL, List.length_append, padL_len w]; rfl
theorem padL_zero : ∀ w, padL w 0 = List.replicate w 48
  | 0 => rfl
  | w + 1 => by
    rw [padL, Nat.zero_div, padL_zero w, Nat.zero_mod, List.replicate_succ']
theorem padL_app : ∀ (b a x y : Nat), y < 10 ^ b → padL (a + b) (x * 10 ^ b + y) = padL a x ++ padL b y
  | 0, a, x, y, h => by
    have e : y = 0 := by rw [Nat.pow_zero] at h; omega
    subst e
    simp [padL]
  | b + 1, a, x, y, h => by
    have h2 : y / 10 < 10 ^ b := by rw [Nat.pow_succ] at h; omega
    have e1 : (x * 10 ^ (b + 1) + y) / 10 = x * 10 ^ b + y / 10 := by
      rw [Nat.pow_succ, ← Nat.mul_assoc]
      omega
    have e2 : (x * 10 ^ (b + 1) + y) % 10 = y % 10 := by
      rw [Nat.pow_succ, ← Nat.mul_assoc]
      omega
    show padL (a + b) ((x * 10 ^ (b + 1) + y) / 10) ++ [48 + (x * 10 ^ (b + 1) + y) % 10] = padL a x ++ (padL b (y / 10) ++ [48 + y % 10])
    rw [e1, e2, padL_app b a x (y / 10) h2, List.append_assoc]
theorem numL_pad : ∀ (w h m : Nat), 1 ≤ h → m < 10 ^ w → numL (h * 10 ^ w + m) = numL h ++ padL w m
  | 0, h, m, hh, hm => by
    have e : m = 0 := by rw [Nat.pow_zero] at hm; omega
    subst e
    simp [padL]
  | w + 1, h, m, hh, hm => by
    have h2 : m / 10 < 10 ^ w := by rw [Nat.pow_succ] at hm; omega
    have p : 0 < 10 ^ w := Nat.pow_pos (by decide)
    have p2 : 1 * 10 ^ w ≤ h * 10 ^ w := Nat.mul_le_mul_right _ hh
    have e1 : (h * 10 ^ (w + 1) + m) / 10 = h * 10 ^ w + m / 10 := by
      rw [Nat.pow_succ, ← Nat.mul_assoc]
      omega
    have e2 : (h * 10 ^ (w + 1) + m) % 10 = m % 10 := by
      rw [Nat.pow_succ, ← Nat.mul_assoc]
      omega
    have h10 : 10 ≤ h * 10 ^ (w + 1) + m := by
      rw [Nat.pow_succ, ← Nat.mul_assoc]
      omega
    rw [numL_step h10, e1, e2, numL_pad w h (m / 10) hh h2, List.append_assoc]
    rfl
theorem numL_len_pos (n : Nat) : 1 ≤ (numL n).length := List.length_pos_iff.mpr (numL_ne n)
theorem numL_le : ∀ (w m : Nat), m < 10 ^ (w + 1) → (numL m).length ≤ w + 1
  | 0, m, h => by rw [numL_lt (by simpa using h)]; exact Nat.le_refl 1
  | w + 1, m, h => by
    by_cases h9 : m < 10
    · rw [numL_lt h9]
      simp
    · have h2 : m / 10 < 10 ^ (w + 1) := by rw [Nat.pow_succ] at h; omega
      rw [numL_step (by omega), List.length_append]
      have := numL_le w (m / 10) h2
      simp
      omega
theorem padL_num : ∀ (w m : Nat), m < 10 ^ (w + 1) → padL (w + 1) m = List.replicate (w + 1 - (numL m).length) 48 ++ numL m
  | 0, m, h => by
    have h9 : m < 10 := by simpa using h
    rw [numL_lt h9]
    show [] ++ [48 + m % 10] = _
    rw [Nat.mod_eq_of_lt h9]
    rfl
  | w + 1, m, h => by
    have h2 : m / 10 < 10 ^ (w + 1) := by rw [Nat.pow_succ] at h; omega
    by_cases h9 : m < 10
    · rw [numL_lt h9]
      show padL (w + 1) (m / 10) ++ [48 + m % 10] = _
      rw [Nat.div_eq_of_lt h9, padL_zero, Nat.mod_eq_of_lt h9]
      rfl
    · show padL (w + 1) (m / 10) ++ [48 + m % 10] = _
      have hl := numL_le w (m / 10) h2
      rw [numL_step (show 10 ≤ m by omega), padL_num w (m / 10) h2, List.length_append, List.append_assoc]
      have e : w + 1 + 1 - ((numL (m / 10)).length + [48 + m % 10].length) = w + 1 - (numL (m / 10)).length := by
        rw [List.length_singleton]
        omega
      rw [e]
/-- the first digit of a number that is not zero -/
theorem numL_head : ∀ n : Nat, 1 ≤ n → ∃ c r, numL n = c :: r ∧ c ≠ 48 := by
  intro n
  induction n using Nat.strongRecOn with
  | _ n ih =>
    intro h
    by_cases h9 : n < 10
    · exact ⟨48 + n, [], numL_lt h9, by omega⟩
    · obtain ⟨c, r, e, hc⟩ := ih (n / 10) (by omega) (by omega)
      exact ⟨c, r ++ [48 + n % 10], by rw [numL_step (by omega), e]; rfl, hc⟩
theorem numL_last (n : Nat) : ∃ r, numL n = r ++ [48 + n % 10] := by
  by_cases h9 : n < 10
  · exact ⟨[], by rw [numL_lt h9, Nat.mod_eq_of_lt h9]; rfl⟩
  · exact ⟨_, numL_step (by omega)⟩
theorem numForm_num (n : Nat) : numForm (numL n) = true := by
  unfold numForm
  have e1 : decide (numL n = []) = false := decide_eq_false (numL_ne n)
  have e3 : (numL n).all isDig = true := digits_all (numL_digits n)
  rw [e1, e3]
  by_cases h0 : n = 0
  · subst h0
    decide +kernel
  · obtain ⟨c, r, e, hc⟩ := numL_head n (by omega)
    rw [e]
    have e2 : decide ((c :: r).head? = some 48) = false := decide_eq_false fun z => hc (Option.some.inj z)
    rw [e2]
    rfl
/-- the decimal form of an integer -/
def decL (i : Int) : List Nat := if i < 0 then 45 :: numL i.natAbs else numL i.natAbs
theorem fromDec_decL (i : Int) : fromDec (decL i) = some i := by
  unfold decL
  by_cases h : i < 0
  · rw [if_pos h]
    unfold fromDec
    have e : (45 :: numL i.natAbs).head? = some 45 := rfl
    have n0 : 1 ≤ i.natAbs := by omega
    obtain ⟨c, r, ec, hc⟩ := numL_head i.natAbs n0
    have hne : ¬ (45 :: numL i.natAbs = [45, 48] ∨ numForm (numL i.natAbs) = false) := by
      rintro (z | z)
      · rw [ec] at z
        exact hc (List.cons.inj (List.cons.inj z).2).1
      · rw [numForm_num] at z
        cases z
    rw [if_pos e, if_pos e]
    show (if 45 :: numL i.natAbs = [45, 48] ∨ numForm (numL i.natAbs) = false then none else some (-((digitsVal (numL i.natAbs) : Nat) : Int))) = some i
    rw [if_neg hne, numL_val]
    congr 1
    omega
  · rw [if_neg h]
    unfold fromDec
    have e : ¬ (numL i.natAbs).head? = some 45 := fun z => by
      have hm : 45 ∈ numL i.natAbs := List.mem_of_mem_head? z
      have := numL_digits i.natAbs 45 hm
      omega
    have hne : ¬ (numL i.natAbs = [45, 48] ∨ numForm (numL i.natAbs) = false) := by
      rintro (z | z)
      · rw [z] at e
        exact e rfl
      · rw [numForm_num] at z
        cases z
    rw [if_neg e, if_neg e, if_neg hne, numL_val]
    congr 1
    omega
theorem decL_len {i : Int} {w : Nat} (h : i.natAbs < 10 ^ (w + 1)) : (decL i).length ≤ w + 2 := by
  have := numL_le w _ h
  unfold decL
  split
  · rw [List.length_cons]; omega
  · omega
theorem zfill_S {l : List Nat} (hl : AllDigits l) (w : Nat) : Txt.zfill (S l) (w : Int) = S (List.replicate (w - l.length) 48 ++ l) := by
  unfold Txt.zfill
  have el := S_len l
  by_cases h : (w : Int) ≤ ((S l).length : Int)
  · rw [if_pos h]
    rw [el] at h
    rw [show w - l.length = 0 by omega]
    rfl
  · rw [if_neg h]
    have e : Builtin.Str.padded (S l) (w - l.length) 0 48 = S (List.replicate (w - l.length) 48 ++ l) := by
      refine TL.ext_tl ?_
      unfold Builtin.Str.padded TL.tl
      simp
    unfold PySem.zfilled
    rw [Int.toNat_natCast, el]
    cases l with
    | nil => exact e
    | cons c r =>
      have hc := hl c (List.mem_cons_self)
      have e0 : (S (c :: r)).cps[0]? = some c := rfl
      rw [e0]
      split
      · rename_i h43
        have := Option.some.inj h43
        omega
      · rename_i h45
        have := Option.some.inj h45
        omega
      · exact e
theorem num_S (n : Nat) : Str.ofString (toString ((n : Nat) : Int)) = S (numL n) := SX.num_S n
theorem mul_S (l : List Nat) {n : Int} (h0 : 0 ≤ n) : Txt.mul (S l) n = S (List.replicate n.toNat l).flatten := by
  have key : ∀ (m : Nat) (acc : Array Nat), ((List.replicate m l.toArray).foldl (· ++ ·) acc).toList = acc.toList ++ (List.replicate m l).flatten := by
    intro m
    induction m with
    | zero => intro acc; simp
    | succ m ih =>
      intro acc
      rw [List.replicate_succ, List.foldl_cons, ih, List.replicate_succ, List.flatten_cons]
      simp
  unfold Txt.mul
  by_cases h1 : n < 1
  · have e : n = 0 := by omega
    subst e
    rw [if_pos h1]
    rfl
  · rw [if_neg h1]
    by_cases h2 : (n == 1 || (S l).length == 0) = true
    · rw [if_pos h2]
      rcases Bool.or_eq_true_iff.mp h2 with z | z
      · have e : n = 1 := by simpa using z
        subst e
        show S l = S ([l].flatten)
        simp
      · have e : l = [] := by
          have : (S l).length = 0 := by simpa using z
          rw [S_len] at this
          exact List.length_eq_zero_iff.mp this
        subst e
        simp
    · rw [if_neg h2]
      refine TL.ext_tl ?_
      show ((List.replicate n.toNat l.toArray).foldl (· ++ ·) #[]).toList = _
      rw [key]
      rfl
/-- a short text taken several times -/
theorem op_mulS {X : Cx} : OpR X (binaryOp .Mult) (fun x y H Q => ∃ (l : List Nat) (n : Int), x = .str (S l) ∧ y = .int n ∧ (0 ≤ n ∧ n ≤ 10000) ∧ l.length ≤ 1000 ∧ Q (.str (S (List.replicate n.toNat l).flatten)) H) := by
  intro pins s σ H x y v u Q I rx ry h
  obtain ⟨l, n, rfl, rfl, ⟨h0, h1⟩, hl, q⟩ := h
  obtain ⟨t, rfl⟩ := rx
  obtain ⟨t', rfl⟩ := ry
  refine PySem.SB.mul ⟨?_, ?_, ?_⟩ fun t2 k => ⟨.str _, H, I.tok _, ⟨t2, by rw [mul_S l h0]⟩, q⟩
  · rw [Bool.or_eq_false_iff]
    exact ⟨decide_eq_false (by omega), decide_eq_false (by omega)⟩
  · intro _ _ hgt
    rw [S_len] at hgt
    have h2 : (1000 : Int) ≤ (2 ^ 63 - 1) / n := by
      rw [Int.le_ediv_iff_mul_le (by omega)]
      omega
    omega
  · intro _ _
    unfold Builtin.Str.tooLong
    rw [S_len, sizeLine_eq]
    refine decide_eq_false ?_
    have h3 : l.length * n.toNat ≤ 1000 * 10000 := Nat.mul_le_mul hl (by omega)
    omega
open SX (S S_len S_cat S_inj)
open NumText (AllDigits digitsVal)
open TL (numL numL_lt numL_step numL_digits numL_ne numL_val)
section
variable {P : Program} {w : World} {K : PySem.W.Frag} {mg : Str → Option Value} {base : Heap} {A : At}
theorem log_lt {n k : Nat} (h : n < 2 ^ k) (h0 : 0 < k) : n.log2 < k := PySem.Flt.log2_lt_of h0 h
theorem le_log {n k : Nat} (h : 2 ^ k ≤ n) : k ≤ n.log2 := by
  have hn : n ≠ 0 := by
    have : 0 < 2 ^ k := Nat.pow_pos (by decide)
    omega
  exact (Nat.le_log2 hn).mpr h
/-- divmod of such numbers is done by C itself -/
theorem div_small {n j : Nat} (hn : n < 10 ^ 5400) (hp : 10 ^ (64 * 2 ^ j) ≤ n) : CDivP (n : Int) ((10 ^ (64 * 2 ^ j) : Nat) : Int) := by
  have p0 : 0 < 10 ^ (64 * 2 ^ j) := Nat.pow_pos (by decide)
  refine ⟨by omega, ?_⟩
  have n0 : n ≠ 0 := by omega
  have hj : j ≤ 6 := Decidable.byContradiction fun c => by
    have : 2 ^ 7 ≤ 2 ^ j := Nat.pow_le_pow_right (by decide) (by omega)
    have h2 : 10 ^ 5400 ≤ 10 ^ (64 * 2 ^ j) := Nat.pow_le_pow_right (by decide) (by omega)
    omega
  show (decide ((if ((10 ^ (64 * 2 ^ j) : Nat) : Int) == 0 then 0 else ((10 ^ (64 * 2 ^ j) : Nat) : Int).natAbs.log2 / 30 + 1) > 300) && decide ((if (n : Int) == 0 then 0 else (n : Int).natAbs.log2 / 30 + 1) > (if ((10 ^ (64 * 2 ^ j) : Nat) : Int) == 0 then 0 else ((10 ^ (64 * 2 ^ j) : Nat) : Int).natAbs.log2 / 30 + 1) + 150)) = false
  have e1 : ¬ ((((10 ^ (64 * 2 ^ j) : Nat) : Int) == 0) = true) := fun z => by
    have := eq_of_beq z
    omega
  have e2 : ¬ (((n : Int) == 0) = true) := fun z => by
    have := eq_of_beq z
    omega
  rw [if_neg e1, if_neg e2, Int.natAbs_natCast, Int.natAbs_natCast]
  by_cases h6 : j = 6
  · subst h6
    have l1 : 13500 ≤ (10 ^ (64 * 2 ^ 6)).log2 := le_log (by decide +kernel)
    have l2 : n.log2 < 17940 := log_lt (Nat.lt_trans hn (by decide +kernel)) (by decide)
    rw [Bool.and_eq_false_iff]
    right
    exact decide_eq_false (by omega)
  · have h5 : 64 * 2 ^ j ≤ 2048 := by
      have : 2 ^ j ≤ 2 ^ 5 := Nat.pow_le_pow_right (by decide) (by omega)
      omega
    have l1 : (10 ^ (64 * 2 ^ j)).log2 < 8200 := log_lt (Nat.lt_of_le_of_lt (Nat.pow_le_pow_right (by decide) h5) (by decide +kernel)) (by decide)
    rw [Bool.and_eq_false_iff]
    left
    exact decide_eq_false (by omega)
def spNumeralOf (lv : Nat) : Sp := fun vs H Q _ => ∃ n : Nat, vs = [.int (n : Int)] ∧ n < 10 ^ (64 * 2 ^ lv) ∧ n < 10 ^ 5400 ∧ lv ≤ 10 ∧ ∀ H', Same H H' → Q (.str (S (numL n))) H'
theorem log_64 {n : Nat} (h : n < 10 ^ 64) : (n : Int).natAbs.log2 < 1920 := by
  rw [Int.natAbs_natCast]
  exact Nat.lt_trans (log_lt (Nat.lt_trans h (by decide +kernel : 10 ^ 64 < 2 ^ 300)) (by decide)) (by decide)
theorem lt_pow {n : Nat} {k : Nat} : ((n : Int) < (10 : Int) ^ k) ↔ n < 10 ^ k := by
  rw [ten_pow]
  omega
theorem ten64 {z : Int} (h : z = (10 : Int) ^ (64 : Int).toNat) : z = ((10 ^ 64 : Nat) : Int) := h.trans (ten_pow _)
/-- ** whose answer is a letter -/
theorem op_powP {X : Cx} : OpR X (binaryOp .Pow) (fun x y H Q => ∃ i j, x = .int i ∧ y = .int j ∧ CPow i j ∧ ∀ z, z = i ^ j.toNat → Q (.int z) H) := by
  intro pins s σ H x y v u Q I rx ry h
  obtain ⟨i, j, rfl, rfl, c, q⟩ := h
  exact op_pow pins s σ H _ _ v u Q I rx ry ⟨i, j, rfl, rfl, c, q _ rfl⟩
theorem num_len {n : Nat} (h : n < 10 ^ 5400) : (numL n).length ≤ 5400 := numL_le 5399 n h
theorem ok_numeral_of (T : Txt K mg A) : ∀ lv : Nat, FnOk P w K mg base CX0 (lv + 1) A.a_numeral_of A.d_numeral_of ["number"] (spNumeralOf lv)
  | 0 => by
    obtain ⟨uP, eP, rP⟩ := T.m_PIECE
    refine T.t_numeral_of.F.ok sc_numeral_of (fun vs H Q E h => ?_) (fun cdv AA outer s H vs Q E hr h => ?_)
    · obtain ⟨n, rfl, _⟩ := h
      rfl
    · obtain ⟨n, rfl, h1, _, _, k⟩ := h
      have h1 : n < 10 ^ 64 := h1
      refine ⟨_, pss_cons (ps_set (i := 1) sc_numeral_of.nd rfl (Or.inl rfl) (pe_op op_powP pe_int pe_int)) (pss_cons (ps_if (pt_cmpR op_lt (pv 0) (pv 1) (nomark _)) (pss_one (ps_ret (pe_callTy call_str_int (by rfl) T.z_str PyProof.Rows.boot_str (pa_cons (pv 0) pa_nil)))) pss_nil) pss_never), ?_⟩
      refine ⟨_, _, rfl, rfl, ⟨by decide, by decide, by decide⟩, fun pw epw => ?_⟩
      have epw := ten64 epw
      refine ⟨_, rfl, _, rfl, _, _, rfl, rfl, _, rfl, ?_⟩
      refine ite2 (fun _ => ?_) (fun h => absurd (decide_eq_true (show (n : Int) < pw by omega)) h)
      refine ⟨_, rfl, _, rfl, log_64 h1, ?_⟩
      rw [num_S]
      exact k H (Same.refl H)
  | lv + 1 => by
    have G_numeral_of : FnOk P w K mg base CX0 (lv + 1) A.a_numeral_of A.d_numeral_of ["number"] (spNumeralOf lv) := ok_numeral_of T lv
    obtain ⟨uP, eP, rP⟩ := T.m_PIECE
    refine T.t_numeral_of.F.ok sc_numeral_of (fun vs H Q E h => ?_) (fun cdv AA outer s H vs Q E hr h => ?_)
    · obtain ⟨n, rfl, _⟩ := h
      rfl
    · obtain ⟨n, rfl, h1, h54, hlv, k⟩ := h
      refine ⟨_, (pss_cons (ps_set (i := 1) sc_numeral_of.nd rfl (Or.inl rfl) (pe_op op_powP pe_int pe_int))
      (pss_cons (ps_if (pt_cmpR op_lt (pv 0) (pv 1) (nomark _)) (pss_one (ps_ret (pe_callTy call_str_int (by rfl) T.z_str PyProof.Rows.boot_str (pa_cons (pv 0) pa_nil)))) pss_nil)
      (pss_cons (ps_set (i := 2) sc_numeral_of.nd rfl (Or.inl rfl) (pe_glob rfl eP rP))
      (pss_cons (ps_while PassesOwn.never (pt_cmpR op_le (pe_op op_mulW (pv 1) (pv 1)) (pv 0) (nomark _)) (pss_cons (ps_set (i := 1) sc_numeral_of.nd rfl (Or.inl rfl) (pe_op op_mulW (pv 1) (pv 1)))
      (pss_one (ps_set (i := 2) sc_numeral_of.nd rfl (Or.inl rfl) (pe_op op_mul (pv 2) pe_int)))))
      (pss_cons (ps_asg (pe_callB call_divmodW (by rfl) T.z_divmod (by decide +kernel) (pa_cons (pv 0) (pa_cons (pv 1) pa_nil))) (pg_tup rfl (pgs_cons (pg_name (i := 3) sc_numeral_of.nd rfl (Or.inl rfl)) (pgs_cons (pg_name (i := 4) sc_numeral_of.nd rfl (Or.inl rfl)) pgs_nil))))
      (pss_one (ps_ret (pe_op op_add_str (pe_call G_numeral_of hr rfl T.t_numeral_of.g T.t_numeral_of.F.kp T.t_numeral_of.b .nil pass0 (pa_cons (pv 3) pa_nil)) (pe_m1 PySem.F.slot_str_zfill PySem.F.type_str_zfill mt_zfill (pe_call G_numeral_of hr rfl T.t_numeral_of.g T.t_numeral_of.F.kp T.t_numeral_of.b .nil pass0 (pa_cons (pv 4) pa_nil)) (pv 2)))))))))), ?_⟩
      refine ⟨_, _, rfl, rfl, ⟨by decide, by decide, by decide⟩, fun pw epw => ?_⟩
      have epw := ten64 epw
      refine ⟨_, rfl, _, rfl, _, _, rfl, rfl, _, rfl, ?_⟩
      refine ite2 (fun h2 => ?_) (fun h2 => ?_)
      · have h2 : (n : Int) < pw := of_decide_eq_true h2
        have h2 : n < 10 ^ 64 := by omega
        refine ⟨_, rfl, _, rfl, log_64 h2, ?_⟩
        rw [num_S]
        exact k H (Same.refl H)
      · have h2 : 10 ^ 64 ≤ n := by
          have z : ¬ (n : Int) < pw := fun z => h2 (decide_eq_true z)
          omega
        refine while_by (fun σ H2 => H2 = H ∧ ∃ j : Nat, σ = [some (.int (n : Int)), some (.int ((10 ^ (64 * 2 ^ j) : Nat) : Int)), some (.int ((64 * 2 ^ j : Nat) : Int)), none, none] ∧ 10 ^ (64 * 2 ^ j) ≤ n)
          (fun σ _ => match σ with | [_, _, some (.int i), _, _] => 5400 - i.toNat | _ => 0) ⟨rfl, 0, ?_, h2⟩ ?_ ?_
        · have e : V.int pw = V.int ((10 ^ (64 * 2 ^ 0) : Nat) : Int) := by rw [epw]
          have e2 : ∀ z : V, z = V.int ((10 ^ (64 * 2 ^ 0) : Nat) : Int) → [some (V.int (n : Int)), some z, some (V.int 64), none, none] = [some (V.int (n : Int)), some (V.int ((10 ^ (64 * 2 ^ 0) : Nat) : Int)), some (V.int ((64 * 2 ^ 0 : Nat) : Int)), none, none] := fun z hz => by rw [hz]; rfl
          exact e2 _ e
        · rintro σ H2 ⟨rfl, j, rfl, hj⟩
          have hw : 64 * 2 ^ j < 5400 := Decidable.byContradiction fun c => by
            have : 10 ^ 5400 ≤ 10 ^ (64 * 2 ^ j) := Nat.pow_le_pow_right (by decide) (by omega)
            omega
          have hb := ten_abs (64 * 2 ^ j)
          refine ⟨_, rfl, _, rfl, _, _, rfl, rfl, wide_mul hb hb (by omega) (by omega) (by omega), ?_⟩
          have ej : 2 ^ (j + 1) = 2 * 2 ^ j := by rw [Nat.pow_succ]; omega
          have e1 : ((10 ^ (64 * 2 ^ j) : Nat) : Int) * ((10 ^ (64 * 2 ^ j) : Nat) : Int) = ((10 ^ (64 * 2 ^ (j + 1)) : Nat) : Int) := by
            rw [← Int.natCast_mul, ← Nat.pow_add]
            congr 2
            omega
          refine ⟨_, rfl, _, _, rfl, rfl, _, rfl, ?_⟩
          refine ite2 (fun h3 => ?_) (fun h3 => ?_)
          · have h3 : ((10 ^ (64 * 2 ^ j) : Nat) : Int) * ((10 ^ (64 * 2 ^ j) : Nat) : Int) ≤ (n : Int) := of_decide_eq_true h3
            rw [e1] at h3
            refine ⟨_, rfl, _, rfl, _, _, rfl, rfl, wide_mul hb hb (by omega) (by omega) (by omega), ?_⟩
            refine ⟨_, rfl, _, _, rfl, rfl, .inr ⟨by decide, by decide⟩, ?_⟩
            have e2 : ((64 * 2 ^ j : Nat) : Int) * 2 = ((64 * 2 ^ (j + 1) : Nat) : Int) := by omega
            refine ⟨⟨rfl, j + 1, ?_, by omega⟩, ?_⟩
            · rw [← e1, ← e2]
              rfl
            · show 5400 - (((64 * 2 ^ j : Nat) : Int) * 2).toNat < 5400 - ((64 * 2 ^ j : Nat) : Int).toNat
              have pj : 0 < 2 ^ j := Nat.pow_pos (by decide)
              rw [e2, Int.toNat_natCast, Int.toNat_natCast]
              omega
          · have h3 : ¬ ((10 ^ (64 * 2 ^ j) : Nat) : Int) * ((10 ^ (64 * 2 ^ j) : Nat) : Int) ≤ (n : Int) := fun z => h3 (decide_eq_true z)
            rw [e1] at h3
            have h4 : n < 10 ^ (64 * 2 ^ (j + 1)) := by omega
            have p0 : 0 < 10 ^ (64 * 2 ^ j) := Nat.pow_pos (by decide)
            have hjl : j ≤ lv := Decidable.byContradiction fun c => by
              have c1 : 2 ^ (lv + 1) ≤ 2 ^ j := Nat.pow_le_pow_right (by decide) (by omega)
              have c2 : 10 ^ (64 * 2 ^ (lv + 1)) ≤ 10 ^ (64 * 2 ^ j) := Nat.pow_le_pow_right (by decide) (by omega)
              omega
            have hj2 : 2 ^ j ≤ 2 ^ lv := Nat.pow_le_pow_right (by decide) hjl
            have hle : 10 ^ (64 * 2 ^ j) ≤ 10 ^ (64 * 2 ^ lv) := Nat.pow_le_pow_right (by decide) (by omega)
            have hd := div_small h54 hj
            have hsq : 10 ^ (64 * 2 ^ (j + 1)) = 10 ^ (64 * 2 ^ j) * 10 ^ (64 * 2 ^ j) := by
              rw [← Nat.pow_add]
              congr 1
              omega
            have hhi : n / 10 ^ (64 * 2 ^ j) < 10 ^ (64 * 2 ^ j) := by
              rw [Nat.div_lt_iff_lt_mul p0, ← hsq]
              exact h4
            have hlo : n % 10 ^ (64 * 2 ^ j) < 10 ^ (64 * 2 ^ j) := Nat.mod_lt _ p0
            have hh1 : 1 ≤ n / 10 ^ (64 * 2 ^ j) := Nat.div_pos hj p0
            have hdm : n / 10 ^ (64 * 2 ^ j) * 10 ^ (64 * 2 ^ j) + n % 10 ^ (64 * 2 ^ j) = n := by
              rw [Nat.mul_comm]
              exact Nat.div_add_mod n _
            have hpn := numL_pad (64 * 2 ^ j) _ _ hh1 hlo
            rw [hdm] at hpn
            have hj3 : 0 < 2 ^ j := Nat.pow_pos (by decide)
            have hwp : 1 ≤ 64 * 2 ^ j := by omega
            obtain ⟨w', hw'⟩ : ∃ w', 64 * 2 ^ j = w' + 1 := ⟨64 * 2 ^ j - 1, by omega⟩
            have hpad := padL_num w' (n % 10 ^ (64 * 2 ^ j)) (by rw [← hw']; exact hlo)
            rw [← hw'] at hpad
            rw [hpad] at hpn
            refine ⟨_, rfl, _, rfl, _, _, rfl, hd, fun p np => ?_⟩
            have s1 := same_upd (o := .tup [.int ((n : Int) / ((10 ^ (64 * 2 ^ j) : Nat) : Int)), .int ((n : Int) % ((10 ^ (64 * 2 ^ j) : Nat) : Int))]) np
            refine ⟨p, _, rfl, SqT.of upd_same, rfl, _, _, rfl, _, _, rfl, rfl, ?_⟩
            refine ⟨_, rfl, n / 10 ^ (64 * 2 ^ j), (by rw [Int.natCast_ediv]; rfl), Nat.lt_of_lt_of_le hhi hle, Nat.lt_of_le_of_lt (Nat.div_le_self _ _) h54, by omega, fun H3 s3 => ?_⟩
            refine ⟨_, rfl, n % 10 ^ (64 * 2 ^ j), (by rw [Int.natCast_emod]; rfl), Nat.lt_of_lt_of_le hlo hle, Nat.lt_of_le_of_lt (Nat.mod_le _ _) h54, by omega, fun H4 s4 => ?_⟩
            refine ⟨⟨_, rfl⟩, _, rfl, _, _, rfl, rfl, ?_, ?_⟩
            · unfold PadOk fitsSsize Builtin.Str.tooLong
              rw [Bool.and_eq_true, Bool.not_eq_true', Bool.not_eq_true', Bool.or_eq_false_iff]
              refine ⟨⟨decide_eq_false (by omega), decide_eq_false (by omega)⟩, decide_eq_false ?_⟩
              rw [Int.toNat_natCast, sizeLine_eq]
              omega
            · rw [zfill_S (numL_digits _)]
              refine ⟨_, _, rfl, rfl, ?_, ?_⟩
              · rw [S_len, S_len, List.length_append, List.length_replicate, sizeLine_eq]
                have l1 := num_len (Nat.lt_of_le_of_lt (Nat.div_le_self n (10 ^ (64 * 2 ^ j))) h54)
                have l2 := num_len (Nat.lt_of_le_of_lt (Nat.mod_le n (10 ^ (64 * 2 ^ j))) h54)
                omega
              · rw [S_cat, ← hpn]
                exact k H4 (s1.trans (s3.trans s4))
        · intro σ H2 Q1 Q2 f h
          obtain ⟨v1, e1, v2, e2, i, j, e3, e4, c, v3, e5, i2, j2, e6, e7, kk, e8, q⟩ := h
          exact ⟨v1, e1, v2, e2, i, j, e3, e4, c, v3, e5, i2, j2, e6, e7, kk, e8, f _ _ q⟩
def spToDigits : Sp := fun vs H Q _ => ∃ i : Int, vs = [.int i] ∧ i.natAbs < 10 ^ 5400 ∧ ∀ H', Same H H' → Q (.str (S (decL i))) H'
theorem ok_to_digits (T : Txt K mg A) : FnOk P w K mg base CX0 9 A.a_to_digits A.d_to_digits ["number"] spToDigits := by
  have G_numeral_of : FnOk P w K mg base CX0 8 A.a_numeral_of A.d_numeral_of ["number"] (spNumeralOf 7) := ok_numeral_of T 7
  refine T.t_to_digits.F.ok sc_to_digits (fun vs H Q E h => ?_) (fun cdv AA outer s H vs Q E hr h => ?_)
  · obtain ⟨i, rfl, _⟩ := h
    rfl
  · obtain ⟨i, rfl, hi, k⟩ := h
    have big : i.natAbs < 10 ^ (64 * 2 ^ 7) := Nat.lt_trans hi (Nat.pow_lt_pow_right (by decide) (by decide))
    refine ⟨_, (pss_cons (ps_if (pt_cmpR op_lt (pv 0) pe_int (nomark _)) (pss_one (ps_ret (pe_op op_add_str pe_str (pe_call G_numeral_of (hr.mono (by decide)) rfl T.t_numeral_of.g T.t_numeral_of.F.kp T.t_numeral_of.b .nil pass0 (pa_cons (pe_un un_neg (pv 0)) pa_nil))))) pss_nil)
      (pss_one (ps_ret (pe_call G_numeral_of (hr.mono (by decide)) rfl T.t_numeral_of.g T.t_numeral_of.F.kp T.t_numeral_of.b .nil pass0 (pa_cons (pv 0) pa_nil))))), ?_⟩
    refine ⟨_, rfl, _, _, rfl, rfl, _, rfl, ite2 (fun h1 => ?_) (fun h1 => ?_)⟩
    · have h1 : i < 0 := of_decide_eq_true h1
      refine ⟨_, rfl, _, rfl, i.natAbs, (by rw [show ((i.natAbs : Nat) : Int) = -i by omega]; rfl), big, hi, by decide, fun H3 s3 => ?_⟩
      refine ⟨_, _, rfl, rfl, ?_, ?_⟩
      · show (S [45]).length + (S (numL i.natAbs)).length ≤ sizeLine
        have l1 := num_len hi
        rw [S_len, S_len, sizeLine_eq, List.length_singleton]
        omega
      · rw [show Str.ofString "-" ++ S (numL i.natAbs) = S ([45] ++ numL i.natAbs) from S_cat [45] _]
        have e : decL i = [45] ++ numL i.natAbs := if_pos h1
        rw [← e]
        exact k H3 s3
    · have h1 : ¬ i < 0 := fun z => h1 (decide_eq_true z)
      refine ⟨_, rfl, i.natAbs, (by rw [show ((i.natAbs : Nat) : Int) = i by omega]; rfl), big, hi, by decide, fun H3 s3 => ?_⟩
      have e : decL i = numL i.natAbs := if_neg h1
      rw [← e]
      exact k H3 s3
end
section
variable {P : Program} {w : World} {K : PySem.W.Frag} {mg : Str → Option Value} {base : Heap} {A : At}
theorem abs_nat (i : Int) : (if i < 0 then -i else i) = ((i.natAbs : Nat) : Int) := by omega
theorem lt_bits (n : Nat) : n < 2 ^ Builtin.Int.intBits (n : Int) := by
  unfold Builtin.Int.intBits
  split
  · rename_i h
    have e : (n : Int) = 0 := by simpa using h
    have e2 : n = 0 := by omega
    subst e2
    decide
  · exact Nat.lt_log2_self
def spGcd : Sp := fun vs H Q _ => ∃ a b : Int, vs = [.int a, .int b] ∧ (a.natAbs < 2 ^ 1000000 ∧ b.natAbs < 2 ^ 1000000) ∧ Q (.int (Int.gcd a b : Nat)) H
theorem ok_gcd (T : Txt K mg A) : FnOk P w K mg base CX0 1 A.a_law_gcd A.d_law_gcd ["a", "b"] spGcd := by
  refine T.t_law_gcd.F.ok sc_law_gcd (fun vs H Q E h => ?_) (fun cdv AA outer s H vs Q E hr h => ?_)
  · obtain ⟨a, b, rfl, _⟩ := h
    rfl
  · obtain ⟨a, b, rfl, ⟨ha, hb⟩, k⟩ := h
    refine ⟨_, pss_cons (ps_set (i := 0) sc_law_gcd.nd rfl (Or.inl rfl) (pe_callB call_abs (by rfl) T.z_abs (by decide +kernel) (pa_cons (pv 0) pa_nil)))
      (pss_cons (ps_set (i := 1) sc_law_gcd.nd rfl (Or.inl rfl) (pe_callB call_abs (by rfl) T.z_abs (by decide +kernel) (pa_cons (pv 1) pa_nil)))
      (pss_cons (ps_for PassesOwn.never rfl (pi_range1 rfl T.z_range (pa_cons (pe_op op_add (pe_op op_add (pe_op op_add (pe_bits (pv 0)) (pe_bits (pv 1))) pe_int) (pe_bits (pv 0))) pa_nil)) (pg_name (i := 2) sc_law_gcd.nd rfl (Or.inl rfl))
        (pss_cons (ps_if (pt_cmpR op_eq (pv 1) pe_int (nomark _)) (pss_one ps_break) pss_nil)
        (pss_cons (ps_set (i := 3) sc_law_gcd.nd rfl (Or.inl rfl) (pe_op op_mod (pe_callTy call_int1 (by rfl) T.z_int PyProof.Rows.boot_int (pa_cons (pv 0) pa_nil)) (pv 1)))
        (pss_cons (ps_set (i := 0) sc_law_gcd.nd rfl (Or.inl rfl) (pv 1))
        (pss_one (ps_set (i := 1) sc_law_gcd.nd rfl (Or.inl rfl) (pv 3)))))))
      (pss_one (ps_ret (pv 0))))), ?_⟩
    refine ⟨_, rfl, _, rfl, ?_⟩
    refine ⟨_, rfl, _, rfl, ?_⟩
    rw [abs_nat, abs_nat]
    generalize hx : a.natAbs = x at *
    generalize hy : b.natAbs = y at *
    have e0 : Int.gcd a b = Nat.gcd x y := by
      rw [← hx, ← hy]
      rfl
    have bx := lt_bits x
    have by' := lt_bits y
    have cx : Builtin.Int.intBits (x : Int) ≤ 1000000 := PyProof.Rows.intBits_le (by simpa using ha)
    have cy : Builtin.Int.intBits (y : Int) ≤ 1000000 := PyProof.Rows.intBits_le (by simpa using hb)
    refine ⟨_, rfl, _, rfl, _, rfl, _, rfl, _, _, rfl, rfl, _, _, rfl, rfl, _, rfl, _, rfl, _, _, rfl, rfl, ?_⟩
    generalize Builtin.Int.intBits (x : Int) = m at *
    generalize Builtin.Int.intBits (y : Int) = n at *
    have en : ((m : Int) + (n : Int) + 2 + (m : Int)).toNat = m + n + 2 + m := by omega
    refine ⟨_, rfl, by omega, by omega, ?_⟩
    rw [en]
    refine for_range (n := m + n + 2 + m) (fun i σ H2 => H2 = H ∧ ∃ (c d : Nat) (v1 v2 : Option V), σ = [some (.int (c : Int)), some (.int (d : Int)), v1, v2] ∧ Eu x y i c d)
      ⟨rfl, x, y, none, none, rfl, eu_start x y⟩ ?_ ?_
    · rintro i σ H2 hi ⟨rfl, c, d, v1, v2, rfl, I⟩
      refine ⟨_, rfl, rfl, _, rfl, ite2 (fun h0 => ?_) (fun h0 => ?_)⟩
      · have e := V.int.inj (of_decide_eq_true h0)
        have e : d = 0 := by omega
        subst e
        refine ⟨_, rfl, ?_⟩
        have g := I.g
        rw [Nat.gcd_zero_right] at g
        rw [g, ← e0]
        exact k
      · have hd : d ≠ 0 := fun e => h0 (decide_eq_true (by rw [e]; rfl))
        refine ⟨_, rfl, .inl ⟨_, rfl, _, rfl, _, _, rfl, rfl, by omega, ?_⟩⟩
        refine ⟨_, rfl, _, rfl, ?_⟩
        exact ⟨rfl, d, c % d, _, _, by rw [Int.natCast_emod]; rfl, eu_next I hd⟩
    · rintro σ H2 ⟨rfl, c, d, v1, v2, rfl, I⟩
      have hd : d = 0 := Decidable.byContradiction fun hd => eu_stop I hd bx by' (by omega)
      subst hd
      refine ⟨_, rfl, ?_⟩
      have g := I.g
      rw [Nat.gcd_zero_right] at g
      rw [g, ← e0]
      exact k
end
/-! ### equal data, wherever it stands -/
def scalV : V → Prop
  | .non => True
  | .bl _ => True
  | .int _ => True
  | .str _ => True
  | _ => False
/-- x and y are equal data, at most n deep -/
def Dat (K : PySem.W.Frag) (H : Hp) : Nat → V → V → Prop
  | 0, x, y => x = y ∧ scalV x
  | n + 1, x, y => (x = y ∧ scalV x) ∨ ∃ (a b : Addr) (xs ys : List V), x = .ref a ∧ y = .ref b ∧ ((SqL K H a xs ∧ SqL K H b ys) ∨ (SqT K H a xs ∧ SqT K H b ys)) ∧ xs.length = ys.length ∧ ys.length < 2 ^ 60 ∧
      ∀ (i : Nat) (u v : V), xs[i]? = some u → ys[i]? = some v → Dat K H n u v
theorem Dat.scal {K : PySem.W.Frag} {H : Hp} {n : Nat} {x : V} (h : scalV x) : Dat K H n x x := by
  cases n with
  | zero => exact ⟨rfl, h⟩
  | succ n => exact .inl ⟨rfl, h⟩
theorem Dat.int (K : PySem.W.Frag) (H : Hp) (n : Nat) (i : Int) : Dat K H n (.int i) (.int i) := Dat.scal trivial
theorem Dat.bl (K : PySem.W.Frag) (H : Hp) (n : Nat) (i : Bool) : Dat K H n (.bl i) (.bl i) := Dat.scal trivial
/-- two tuples of the same ints -/
theorem Dat.ints {K : PySem.W.Frag} {H : Hp} {n : Nat} {a b : Addr} {ns : List Int} (ha : SqT K H a (ns.map V.int)) (hb : SqT K H b (ns.map V.int)) (hl : ns.length < 2 ^ 60) : Dat K H (n + 1) (.ref a) (.ref b) := by
  refine .inr ⟨a, b, _, _, rfl, rfl, .inr ⟨ha, hb⟩, rfl, by rw [List.length_map]; exact hl, fun i u v hu hv => ?_⟩
  have e : u = v := Option.some.inj (hu.symm.trans hv)
  subst e
  rw [List.getElem?_map] at hu
  cases z : ns[i]? with
  | none =>
    rw [z] at hu
    cases hu
  | some m =>
    rw [z] at hu
    have e : V.int m = u := Option.some.inj hu
    rw [← e]
    exact Dat.int K H n m
theorem Same.tup {K : PySem.W.Frag} {H H' : Hp} {a : Addr} {xs : List V} (e : Same H H') (h : SqT K H a xs) : SqT K H' a xs := by
  rcases h with (h | ⟨o, h⟩) | h
  · exact .inl (.inl (e _ _ h))
  · exact .inl (.inr ⟨o, e _ _ h⟩)
  · exact .inr h
theorem SqL.ty {K : PySem.W.Frag} {H : Hp} {a : Addr} {xs : List V} (h : SqL K H a xs) : TyX K H (.ref a) (.type "list") := by
  rcases h with (h | ⟨o, h⟩) | ⟨o, its, n, h, hc, _⟩
  · exact .base (.lst h)
  · exact .base (.frz h)
  · exact .kList h hc
theorem SqT.ty {K : PySem.W.Frag} {H : Hp} {a : Addr} {xs : List V} (h : SqT K H a xs) : TyX K H (.ref a) (.type "tuple") := by
  rcases h with (h | ⟨o, h⟩) | ⟨o, its, n, h, hc, _⟩
  · exact .base (.tup h)
  · exact .fTuple h
  · exact .kTuple h hc
theorem Dat.same {K : PySem.W.Frag} {H H' : Hp} (s : Same H H') : ∀ {n : Nat} {x y : V}, Dat K H n x y → Dat K H' n x y
  | 0, x, y, h => h
  | n + 1, x, y, h => by
    rcases h with h | ⟨a, b, xs, ys, e1, e2, h, hl, hb, k⟩
    · exact .inl h
    · refine .inr ⟨a, b, xs, ys, e1, e2, ?_, hl, hb, fun i u v hu hv => Dat.same s (k i u v hu hv)⟩
      rcases h with ⟨h1, h2⟩ | ⟨h1, h2⟩
      · exact .inl ⟨s.seq h1, s.seq h2⟩
      · exact .inr ⟨Same.tup s h1, Same.tup s h2⟩
section
variable {P : Program} {w : World} {K : PySem.W.Frag} {mg : Str → Option Value} {base : Heap} {A : At}
def spSame (K : PySem.W.Frag) (n : Nat) : Sp := fun vs H Q _ => ∃ x y : V, vs = [x, y] ∧ Dat K H n x y ∧ Q (.bl true) H
/-- the four kinds of flat values, asked by isinstance -/
theorem same_flat {H : Hp} {x : V} (h : scalV x) : (x = .non) ∨ (∃ b, x = .bl b) ∨ (∃ i, x = .int i) ∨ ∃ z, x = .str z := by
  cases x <;> first | exact .inl rfl | exact .inr (.inl ⟨_, rfl⟩) | exact .inr (.inr (.inl ⟨_, rfl⟩)) | exact .inr (.inr (.inr ⟨_, rfl⟩)) | exact h.elim
theorem flat_ty {K : PySem.W.Frag} {H : Hp} {x : V} (h : scalV x) : ∃ t : String, TyX K H x (.type t) ∧ kitB t "tuple" = some false ∧ kitB t "list" = some false ∧
    ((x = .non ∧ t = "NoneType") ∨ ((∃ b, x = .bl b) ∧ t = "bool") ∨ ((∃ i, x = .int i) ∧ t = "int") ∨ ((∃ z, x = .str z) ∧ t = "str")) := by
  rcases same_flat (H := H) h with rfl | ⟨b, rfl⟩ | ⟨i, rfl⟩ | ⟨z, rfl⟩
  · exact ⟨_, .base .non, by decide +kernel, by decide +kernel, .inl ⟨rfl, rfl⟩⟩
  · exact ⟨_, .base (.bl b), by decide +kernel, by decide +kernel, .inr (.inl ⟨⟨_, rfl⟩, rfl⟩)⟩
  · exact ⟨_, .base (.int i), by decide +kernel, by decide +kernel, .inr (.inr (.inl ⟨⟨_, rfl⟩, rfl⟩))⟩
  · exact ⟨_, .base (.str z), by decide +kernel, by decide +kernel, .inr (.inr (.inr ⟨⟨_, rfl⟩, rfl⟩))⟩
theorem eq_refl_V (x : V) : decide (x = x) = true := decide_eq_true rfl
theorem ok_same (T : Txt K mg A) : ∀ n : Nat, FnOk P w K mg base CX0 (n + 1) A.a_law_same A.d_law_same ["actual", "due"] (spSame K n)
  | 0 => by
    refine T.t_law_same.F.ok sc_law_same (fun vs H Q E h => ?_) (fun cdv AA outer s H vs Q E hr h => ?_)
    · obtain ⟨x, y, rfl, _⟩ := h
      rfl
    · obtain ⟨x, y, rfl, ⟨rfl, hs⟩, k⟩ := h
      refine ⟨_, pss_cons (ps_if (PW.pt (pw_or (pt_val (pe_callB call_isi (by rfl) T.z_isinstance PyProof.Rows.boot_isinstance (pa_cons (pv 1) (pa_cons (pe_bltn (v := .ty "tuple") (by rfl) T.z_tuple PyProof.Rows.boot_tuple rfl) pa_nil))))
          (pw_or1 (pt_val (pe_callB call_isi (by rfl) T.z_isinstance PyProof.Rows.boot_isinstance (pa_cons (pv 1) (pa_cons (pe_bltn (v := .ty "list") (by rfl) T.z_list PyProof.Rows.boot_list rfl) pa_nil))))))) pss_never pss_nil)
        (pss_cons (ps_if (pt_cmp (pc_isN (pv 1))) (pss_one (ps_ret (pe_cmp (pc_isN (pv 0))))) pss_nil)
        (pss_cons (ps_if (pt_val (pe_callB call_isi (by rfl) T.z_isinstance PyProof.Rows.boot_isinstance (pa_cons (pv 1) (pa_cons (pe_bltn (v := .ty "bool") (by rfl) T.z_bool PyProof.Rows.boot_bool rfl) pa_nil))))
          (pss_one (ps_ret (pe_and (pe_callB call_isi (by rfl) T.z_isinstance PyProof.Rows.boot_isinstance (pa_cons (pv 0) (pa_cons (pe_bltn (v := .ty "bool") (by rfl) T.z_bool PyProof.Rows.boot_bool rfl) pa_nil))) (pe_one (pe_cmpR op_eq (pv 0) (pv 1) (nomark _)))))) pss_nil)
        (pss_cons (ps_if (pt_val (pe_callB call_isi (by rfl) T.z_isinstance PyProof.Rows.boot_isinstance (pa_cons (pv 1) (pa_cons (pe_bltn (v := .ty "int") (by rfl) T.z_int PyProof.Rows.boot_int rfl) pa_nil))))
          (pss_one (ps_ret (pe_and (pe_callB call_isi (by rfl) T.z_isinstance PyProof.Rows.boot_isinstance (pa_cons (pv 0) (pa_cons (pe_bltn (v := .ty "int") (by rfl) T.z_int PyProof.Rows.boot_int rfl) pa_nil)))
            (pe_and (pe_not (pe_callB call_isi (by rfl) T.z_isinstance PyProof.Rows.boot_isinstance (pa_cons (pv 0) (pa_cons (pe_bltn (v := .ty "bool") (by rfl) T.z_bool PyProof.Rows.boot_bool rfl) pa_nil)))) (pe_one (pe_cmpR op_eq (pv 0) (pv 1) (nomark _))))))) pss_nil)
        (pss_one (ps_ret (pe_and (pe_callB call_isi (by rfl) T.z_isinstance PyProof.Rows.boot_isinstance (pa_cons (pv 0) (pa_cons (pe_bltn (v := .ty "str") (by rfl) T.z_str PyProof.Rows.boot_str rfl) pa_nil))) (pe_one (pe_cmpR op_eq (pv 0) (pv 1) (nomark _))))))))), ?_⟩
      obtain ⟨t, ty, kt, kl, hx⟩ := flat_ty (K := K) (H := H) hs
      refine ⟨_, rfl, x, .ty "tuple", _, .type "tuple", false, rfl, .ty _, ty, kit_ty kt, false, rfl, iteF ?_⟩
      refine ⟨_, rfl, x, .ty "list", _, .type "list", false, rfl, .ty _, ty, kit_ty kl, false, rfl, iteF ?_⟩
      rcases hx with ⟨rfl, rfl⟩ | ⟨⟨b, rfl⟩, rfl⟩ | ⟨⟨i, rfl⟩, rfl⟩ | ⟨⟨z, rfl⟩, rfl⟩
      · exact ⟨_, rfl, true, rfl, iteT ⟨_, rfl, k⟩⟩
      · refine ⟨_, rfl, false, rfl, iteF ?_⟩
        refine ⟨_, rfl, _, .ty "bool", _, .type "bool", true, rfl, .ty _, ty, kit_ty (by decide +kernel), true, rfl, iteT ?_⟩
        refine ⟨_, rfl, _, .ty "bool", _, .type "bool", true, rfl, .ty _, ty, kit_ty (by decide +kernel), true, rfl, iteT ?_⟩
        refine ⟨_, rfl, _, rfl, rfl, ?_⟩
        rw [eq_refl_V]
        exact k
      · refine ⟨_, rfl, false, rfl, iteF ?_⟩
        refine ⟨_, rfl, _, .ty "bool", _, .type "bool", false, rfl, .ty _, ty, kit_ty (by decide +kernel), false, rfl, iteF ?_⟩
        refine ⟨_, rfl, _, .ty "int", _, .type "int", true, rfl, .ty _, ty, kit_ty (by decide +kernel), true, rfl, iteT ?_⟩
        refine ⟨_, rfl, _, .ty "int", _, .type "int", true, rfl, .ty _, ty, kit_ty (by decide +kernel), true, rfl, iteT ?_⟩
        refine ⟨_, rfl, _, .ty "bool", _, .type "bool", false, rfl, .ty _, ty, kit_ty (by decide +kernel), false, rfl, true, rfl, iteT ?_⟩
        refine ⟨_, rfl, _, rfl, rfl, ?_⟩
        rw [eq_refl_V]
        exact k
      · refine ⟨_, rfl, false, rfl, iteF ?_⟩
        refine ⟨_, rfl, _, .ty "bool", _, .type "bool", false, rfl, .ty _, ty, kit_ty (by decide +kernel), false, rfl, iteF ?_⟩
        refine ⟨_, rfl, _, .ty "int", _, .type "int", false, rfl, .ty _, ty, kit_ty (by decide +kernel), false, rfl, iteF ?_⟩
        refine ⟨_, rfl, _, .ty "str", _, .type "str", true, rfl, .ty _, ty, kit_ty (by decide +kernel), true, rfl, iteT ?_⟩
        refine ⟨_, rfl, _, rfl, rfl, ?_⟩
        rw [eq_refl_V]
        exact k
  | n + 1 => by
    have IH : FnOk P w K mg base CX0 (n + 1) A.a_law_same A.d_law_same ["actual", "due"] (spSame K n) := ok_same T n
    refine T.t_law_same.F.ok sc_law_same (fun vs H Q E h => ?_) (fun cdv AA outer s H vs Q E hr h => ?_)
    · obtain ⟨x, y, rfl, _⟩ := h
      rfl
    · obtain ⟨x, y, rfl, hd, k⟩ := h
      refine ⟨_, pss_cons (ps_if (PW.pt (pw_or (pt_val (pe_callB call_isi (by rfl) T.z_isinstance PyProof.Rows.boot_isinstance (pa_cons (pv 1) (pa_cons (pe_bltn (v := .ty "tuple") (by rfl) T.z_tuple PyProof.Rows.boot_tuple rfl) pa_nil))))
          (pw_or1 (pt_val (pe_callB call_isi (by rfl) T.z_isinstance PyProof.Rows.boot_isinstance (pa_cons (pv 1) (pa_cons (pe_bltn (v := .ty "list") (by rfl) T.z_list PyProof.Rows.boot_list rfl) pa_nil)))))))
          (pss_cons (ps_if (PW.pt (pw_or (pt_cmpR op_ne (pe_callB call_isi (by rfl) T.z_isinstance PyProof.Rows.boot_isinstance (pa_cons (pv 1) (pa_cons (pe_bltn (v := .ty "tuple") (by rfl) T.z_tuple PyProof.Rows.boot_tuple rfl) pa_nil))) (pe_callB call_isi (by rfl) T.z_isinstance PyProof.Rows.boot_isinstance (pa_cons (pv 0) (pa_cons (pe_bltn (v := .ty "tuple") (by rfl) T.z_tuple PyProof.Rows.boot_tuple rfl) pa_nil))) (nomark _))
              (pw_or1 (pt_cmpR op_ne (pe_callB call_isi (by rfl) T.z_isinstance PyProof.Rows.boot_isinstance (pa_cons (pv 1) (pa_cons (pe_bltn (v := .ty "list") (by rfl) T.z_list PyProof.Rows.boot_list rfl) pa_nil))) (pe_callB call_isi (by rfl) T.z_isinstance PyProof.Rows.boot_isinstance (pa_cons (pv 0) (pa_cons (pe_bltn (v := .ty "list") (by rfl) T.z_list PyProof.Rows.boot_list rfl) pa_nil))) (nomark _)))))
              (pss_one (ps_ret pe_bl)) pss_nil)
          (pss_cons (ps_if (pt_cmpR op_ne (pe_callB call_len_seq (by rfl) T.z_len PySem.boot_len (pa_cons (pv 0) pa_nil)) (pe_callB call_len_seq (by rfl) T.z_len PySem.boot_len (pa_cons (pv 1) pa_nil)) (nomark _)) (pss_one (ps_ret pe_bl)) pss_nil)
          (pss_cons (ps_for PassesOwn.never rfl (pi_range1 rfl T.z_range (pa_cons (pe_callB call_len_seq (by rfl) T.z_len PySem.boot_len (pa_cons (pv 1) pa_nil)) pa_nil)) (pg_name (i := 2) sc_law_same.nd rfl (Or.inl rfl))
            (pss_one (ps_if (pt_not (pt_val (pe_call IH hr rfl T.t_law_same.g T.t_law_same.F.kp T.t_law_same.b .nil pass0 (pa_cons (pe_ix ix_seq (pv 0) (pv 2) (fun _ _ => rfl)) (pa_cons (pe_ix ix_seq (pv 1) (pv 2) (fun _ _ => rfl)) pa_nil))))) (pss_one (ps_ret pe_bl)) pss_nil)))
          (pss_one (ps_ret pe_bl))))) pss_nil)
        (pss_cons (ps_if (pt_cmp (pc_isN (pv 1))) (pss_one (ps_ret (pe_cmp (pc_isN (pv 0))))) pss_nil)
        (pss_cons (ps_if (pt_val (pe_callB call_isi (by rfl) T.z_isinstance PyProof.Rows.boot_isinstance (pa_cons (pv 1) (pa_cons (pe_bltn (v := .ty "bool") (by rfl) T.z_bool PyProof.Rows.boot_bool rfl) pa_nil))))
          (pss_one (ps_ret (pe_and (pe_callB call_isi (by rfl) T.z_isinstance PyProof.Rows.boot_isinstance (pa_cons (pv 0) (pa_cons (pe_bltn (v := .ty "bool") (by rfl) T.z_bool PyProof.Rows.boot_bool rfl) pa_nil))) (pe_one (pe_cmpR op_eq (pv 0) (pv 1) (nomark _)))))) pss_nil)
        (pss_cons (ps_if (pt_val (pe_callB call_isi (by rfl) T.z_isinstance PyProof.Rows.boot_isinstance (pa_cons (pv 1) (pa_cons (pe_bltn (v := .ty "int") (by rfl) T.z_int PyProof.Rows.boot_int rfl) pa_nil))))
          (pss_one (ps_ret (pe_and (pe_callB call_isi (by rfl) T.z_isinstance PyProof.Rows.boot_isinstance (pa_cons (pv 0) (pa_cons (pe_bltn (v := .ty "int") (by rfl) T.z_int PyProof.Rows.boot_int rfl) pa_nil)))
            (pe_and (pe_not (pe_callB call_isi (by rfl) T.z_isinstance PyProof.Rows.boot_isinstance (pa_cons (pv 0) (pa_cons (pe_bltn (v := .ty "bool") (by rfl) T.z_bool PyProof.Rows.boot_bool rfl) pa_nil)))) (pe_one (pe_cmpR op_eq (pv 0) (pv 1) (nomark _))))))) pss_nil)
        (pss_one (ps_ret (pe_and (pe_callB call_isi (by rfl) T.z_isinstance PyProof.Rows.boot_isinstance (pa_cons (pv 0) (pa_cons (pe_bltn (v := .ty "str") (by rfl) T.z_str PyProof.Rows.boot_str rfl) pa_nil))) (pe_one (pe_cmpR op_eq (pv 0) (pv 1) (nomark _))))))))), ?_⟩
      rcases hd with ⟨rfl, hs⟩ | ⟨a, b, xs, ys, rfl, rfl, hab, hl, hb, hk⟩
      · obtain ⟨t, ty, kt, kl, hx⟩ := flat_ty (K := K) (H := H) hs
        refine ⟨_, rfl, x, .ty "tuple", _, .type "tuple", false, rfl, .ty _, ty, kit_ty kt, false, rfl, iteF ?_⟩
        refine ⟨_, rfl, x, .ty "list", _, .type "list", false, rfl, .ty _, ty, kit_ty kl, false, rfl, iteF ?_⟩
        rcases hx with ⟨rfl, rfl⟩ | ⟨⟨b, rfl⟩, rfl⟩ | ⟨⟨i, rfl⟩, rfl⟩ | ⟨⟨z, rfl⟩, rfl⟩
        · exact ⟨_, rfl, true, rfl, iteT ⟨_, rfl, k⟩⟩
        · refine ⟨_, rfl, false, rfl, iteF ?_⟩
          refine ⟨_, rfl, _, .ty "bool", _, .type "bool", true, rfl, .ty _, ty, kit_ty (by decide +kernel), true, rfl, iteT ?_⟩
          refine ⟨_, rfl, _, .ty "bool", _, .type "bool", true, rfl, .ty _, ty, kit_ty (by decide +kernel), true, rfl, iteT ?_⟩
          refine ⟨_, rfl, _, rfl, rfl, ?_⟩
          rw [eq_refl_V]
          exact k
        · refine ⟨_, rfl, false, rfl, iteF ?_⟩
          refine ⟨_, rfl, _, .ty "bool", _, .type "bool", false, rfl, .ty _, ty, kit_ty (by decide +kernel), false, rfl, iteF ?_⟩
          refine ⟨_, rfl, _, .ty "int", _, .type "int", true, rfl, .ty _, ty, kit_ty (by decide +kernel), true, rfl, iteT ?_⟩
          refine ⟨_, rfl, _, .ty "int", _, .type "int", true, rfl, .ty _, ty, kit_ty (by decide +kernel), true, rfl, iteT ?_⟩
          refine ⟨_, rfl, _, .ty "bool", _, .type "bool", false, rfl, .ty _, ty, kit_ty (by decide +kernel), false, rfl, true, rfl, iteT ?_⟩
          refine ⟨_, rfl, _, rfl, rfl, ?_⟩
          rw [eq_refl_V]
          exact k
        · refine ⟨_, rfl, false, rfl, iteF ?_⟩
          refine ⟨_, rfl, _, .ty "bool", _, .type "bool", false, rfl, .ty _, ty, kit_ty (by decide +kernel), false, rfl, iteF ?_⟩
          refine ⟨_, rfl, _, .ty "int", _, .type "int", false, rfl, .ty _, ty, kit_ty (by decide +kernel), false, rfl, iteF ?_⟩
          refine ⟨_, rfl, _, .ty "str", _, .type "str", true, rfl, .ty _, ty, kit_ty (by decide +kernel), true, rfl, iteT ?_⟩
          refine ⟨_, rfl, _, rfl, rfl, ?_⟩
          rw [eq_refl_V]
          exact k
      · rcases hab with ⟨ha, hbb⟩ | ⟨ha, hbb⟩
        · -- lists
          refine ⟨_, rfl, _, .ty "tuple", _, .type "tuple", false, rfl, .ty _, (SqL.ty hbb), kit_ty (by decide +kernel), false, rfl, iteF ?_⟩
          refine ⟨_, rfl, _, .ty "list", _, .type "list", true, rfl, .ty _, (SqL.ty hbb), kit_ty (by decide +kernel), true, rfl, iteT ?_⟩
          refine ⟨_, rfl, _, .ty "tuple", _, .type "tuple", false, rfl, .ty _, (SqL.ty hbb), kit_ty (by decide +kernel), _, rfl, _, .ty "tuple", _, .type "tuple", false, rfl, .ty _, (SqL.ty ha), kit_ty (by decide +kernel), rfl, false, rfl, iteF ?_⟩
          refine ⟨_, rfl, _, .ty "list", _, .type "list", true, rfl, .ty _, (SqL.ty hbb), kit_ty (by decide +kernel), _, rfl, _, .ty "list", _, .type "list", true, rfl, .ty _, (SqL.ty ha), kit_ty (by decide +kernel), rfl, false, rfl, iteF ?_⟩
          refine ⟨_, rfl, _, xs, rfl, .inl ha, _, rfl, _, ys, rfl, .inl hbb, rfl, false, (by rw [hl, eq_refl_V]; rfl), iteF ?_⟩
          refine ⟨_, rfl, _, ys, rfl, .inl hbb, _, rfl, by omega, by omega, ?_⟩
          refine for_range (n := (ys.length : Int).toNat) (fun i σ H2 => H2 = H ∧ ∃ v : Option V, σ = [some (.ref a), some (.ref b), v]) ⟨rfl, none, rfl⟩ ?_ ?_
          · rintro i σ H2 hi ⟨rfl, v, rfl⟩
            have h1 : i < ys.length := by omega
            have h2 : i < xs.length := by omega
            have e1 := List.getElem?_eq_getElem h2
            have e2 := List.getElem?_eq_getElem h1
            refine ⟨_, rfl, _, rfl, .inl ⟨a, xs, _, _, rfl, rfl, ha, (by rw [Int.zero_add]; exact atI_nat e1), ?_⟩⟩
            refine ⟨_, rfl, _, rfl, .inl ⟨b, ys, _, _, rfl, rfl, hbb, (by rw [Int.zero_add]; exact atI_nat e2), ?_⟩⟩
            exact ⟨_, _, rfl, hk i _ _ e1 e2, true, rfl, iteF ⟨rfl, _, rfl⟩⟩
          · rintro σ H2 ⟨rfl, v, rfl⟩
            exact k
        · -- tuples
          refine ⟨_, rfl, _, .ty "tuple", _, .type "tuple", true, rfl, .ty _, (SqT.ty hbb), kit_ty (by decide +kernel), true, rfl, iteT ?_⟩
          refine ⟨_, rfl, _, .ty "tuple", _, .type "tuple", true, rfl, .ty _, (SqT.ty hbb), kit_ty (by decide +kernel), _, rfl, _, .ty "tuple", _, .type "tuple", true, rfl, .ty _, (SqT.ty ha), kit_ty (by decide +kernel), rfl, false, rfl, iteF ?_⟩
          refine ⟨_, rfl, _, .ty "list", _, .type "list", false, rfl, .ty _, (SqT.ty hbb), kit_ty (by decide +kernel), _, rfl, _, .ty "list", _, .type "list", false, rfl, .ty _, (SqT.ty ha), kit_ty (by decide +kernel), rfl, false, rfl, iteF ?_⟩
          refine ⟨_, rfl, _, xs, rfl, .inr ha, _, rfl, _, ys, rfl, .inr hbb, rfl, false, (by rw [hl, eq_refl_V]; rfl), iteF ?_⟩
          refine ⟨_, rfl, _, ys, rfl, .inr hbb, _, rfl, by omega, by omega, ?_⟩
          refine for_range (n := (ys.length : Int).toNat) (fun i σ H2 => H2 = H ∧ ∃ v : Option V, σ = [some (.ref a), some (.ref b), v]) ⟨rfl, none, rfl⟩ ?_ ?_
          · rintro i σ H2 hi ⟨rfl, v, rfl⟩
            have h1 : i < ys.length := by omega
            have h2 : i < xs.length := by omega
            have e1 := List.getElem?_eq_getElem h2
            have e2 := List.getElem?_eq_getElem h1
            refine ⟨_, rfl, _, rfl, .inr (.inl ⟨a, xs, _, _, rfl, rfl, ha, (by rw [Int.zero_add]; exact atI_nat e1), ?_⟩)⟩
            refine ⟨_, rfl, _, rfl, .inr (.inl ⟨b, ys, _, _, rfl, rfl, hbb, (by rw [Int.zero_add]; exact atI_nat e2), ?_⟩)⟩
            exact ⟨_, _, rfl, hk i _ _ e1 e2, true, rfl, iteF ⟨rfl, _, rfl⟩⟩
          · rintro σ H2 ⟨rfl, v, rfl⟩
            exact k
end
open SX (S S_len S_cat S_inj)
open NumText (AllDigits digitsVal)
section
variable {P : Program} {w : World} {K : PySem.W.Frag} {mg : Str → Option Value} {base : Heap} {A : At}
theorem okN {x qual : Str} {st : Stmt} {f : Addr} {fd : FuncData} {N ps : List Str} {k : Nat} {sp : Sp} (F : Fun K x qual st f fd) (S : FnScope N ps (defScope st)) (len : ∀ vs H Q E, sp vs H Q E → vs.length = ps.length)
    (hbody : ∀ (cdv : Value) (A : Around) (outer : List Env) (s : Shared) (H : Hp) (vs : List V) (Q : VK) (E : XK), Room k (A.deeper (PyProof.Rows.envOfC qual (defScope st) s.heap.objs.size f cdv)) → sp vs H Q E →
      ∃ t, PSs (cxOf (L2N.CX P w) P w K mg base N qual (defScope st) f cdv A outer s H E) (defBody st) t ∧ t { nx := fun _ H' => Q .non H', rt := Q } (L2.start N vs) H) : FnOk P w K mg base (L2N.CX P w) (k + 1) f fd ps sp := by
  obtain ⟨oc, od, kV, doc, pm, an, cdv, ct, osl, rfl, lk, hcd⟩ := F.ex
  exact fn_of lk hcd S len fun A outer s H vs Q E hr hsp => hbody cdv A outer s H vs Q E hr hsp
theorem ok_from_digitsN (T : Txt K mg A) : FnOk P w K mg base (L2N.CX P w) 12 A.a_from_digits A.d_from_digits ["text"] (spFromDigits A.C_InvalidNumeral) := by
  have G_has_numeral_form : FnOk P w K mg base CX0 1 A.a_has_numeral_form A.d_has_numeral_form ["text"] spNumForm := ok_num_form T
  have G_number_of : FnOk P w K mg base CX0 11 A.a_number_of A.d_number_of ["digits"] (spNumberOf 10) := ok_number_of T 10
  refine okN T.t_from_digits.F sc_from_digits (fun vs H Q E h => ?_) (fun cdv AA outer s H vs Q E hr h => ?_)
  · obtain ⟨l, rfl, _⟩ := h
    rfl
  · obtain ⟨l, rfl, hl, kE, kQ⟩ := h
    refine ⟨_, (pss_cons (ps_set (i := 1) sc_from_digits.nd rfl (Or.inl rfl) (pe_m1 PySem.F.slot_str_removeprefix PySem.F.type_str_removeprefix mt_removeprefix (pv 0) pe_str))
      (pss_cons (ps_if (PW.pt (pw_or (pt_cmpR op_eq (pv 0) pe_str (nomark _)) (pw_or1 (pt_not (pt_val (pe_call G_has_numeral_form (hr.mono (by decide)) rfl T.t_has_numeral_form.g T.t_has_numeral_form.F.kp T.t_has_numeral_form.b .nil pass0 (pa_cons (pv 1) pa_nil))))))) (pss_one (L2N.ps_raise rfl (L2N.takes_of rfl rfl rfl rfl) (L2N.pmk_own PySem.F.excBase_ValueError T.e_InvalidNumeral.ex T.e_InvalidNumeral.g T.e_InvalidNumeral.k (raises_own T.e_InvalidNumeral.b T.e_InvalidNumeral.t) rfl))) pss_nil)
      (pss_cons (ps_set (i := 2) sc_from_digits.nd rfl (Or.inl rfl) (pe_call G_number_of (hr.mono (by decide)) rfl T.t_number_of.g T.t_number_of.F.kp T.t_number_of.b .nil pass0 (pa_cons (pv 1) pa_nil)))
      (pss_cons (ps_if (pt_val (pe_m1 PySem.F.slot_str_startswith PySem.F.type_str_startswith mt_startswith (pv 0) pe_str)) (pss_one (ps_ret (pe_un un_neg (pv 2)))) pss_nil)
      (pss_one (ps_ret (pv 2))))))), ?_⟩
    refine ⟨_, rfl, ⟨_, rfl⟩, _, _, rfl, rfl, small_S (by omega), ?_⟩
    rw [show Txt.removeprefix (S l) (Str.ofString "-") = S (if l.head? = some 45 then l.tail else l) from rm_prefix l 45]
    have hdl : (if l.head? = some 45 then l.tail else l).length ≤ 60000 := by
      split
      · rw [List.length_tail]; omega
      · exact hl
    have ef : fromDec l = if l = [45, 48] ∨ numForm (if l.head? = some 45 then l.tail else l) = false then none
      else some (if l.head? = some 45 then -((digitsVal (if l.head? = some 45 then l.tail else l) : Nat) : Int) else ((digitsVal (if l.head? = some 45 then l.tail else l) : Nat) : Int)) := rfl
    generalize (if l.head? = some 45 then l.tail else l) = d at ef hdl ⊢
    refine ⟨_, rfl, rfl, _, rfl, ite2 (fun h1 => ?_) (fun h1 => ?_)⟩
    · have h1 : l = [45, 48] := of_decide_eq_true ((min_zero_S l).symm.trans h1)
      rw [if_pos (Or.inl h1)] at ef
      exact kE ef H (Same.refl H)
    · have h1 : ¬ l = [45, 48] := fun e => h1 ((min_zero_S l).trans (decide_eq_true e))
      refine ⟨_, rfl, d, rfl, by omega, fun H' s' => ⟨_, rfl, ?_⟩⟩
      cases hf : numForm d with
      | false =>
        rw [if_pos (Or.inr hf)] at ef
        exact kE ef H' s'
      | true =>
        rw [if_neg (fun z => z.elim h1 fun z => by rw [hf] at z; cases z)] at ef
        refine iteF ?_
        refine ⟨_, rfl, d, rfl, numForm_dig hf, numForm_ne hf, by omega, by decide, ?_⟩
        refine ⟨_, rfl, ⟨_, rfl⟩, _, _, rfl, rfl, _, rfl, ?_⟩
        rw [show Txt.startswith (S l) (Str.ofString "-") = decide (l.head? = some 45) from starts_one l 45]
        refine ite2 (fun h2 => ?_) (fun h2 => ?_)
        · rw [if_pos (of_decide_eq_true h2)] at ef
          exact ⟨_, rfl, _, rfl, kQ _ ef H' s'⟩
        · rw [if_neg (fun z => h2 (decide_eq_true z))] at ef
          exact ⟨_, rfl, kQ _ ef H' s'⟩
end
open SX (S S_len S_cat S_inj)
section
variable {X : Cx} {C : Addr} {bmB : List Value} {B newId initId : String}
/-- X('m') in a suite that may raise -/
theorem pmk5_own {x m : Str} {j : Nat} {p p2 pos : Pos} (F : ExcBaseFacts B newId initId bmB) (q : PySem.W.excIn X.K C bmB newId = true) (gC : X.mg x = some (.ref C)) (kC : PySem.W.keepIn X.K (.ref C) = true) (r : Raises X (.ref C)) (hg : Gl X x)
    (hdb : (x == ("__debug__" : Str)) = false := by decide) : L2H.PMk5 X (.Call (.Name x p) [.Constant (.str m) j p2] [] pos) (fun _ H Q => Q (.ref C) none H) := by
  intro pins s σ H Q I h
  refine wpAny_Call_Name_kw (ld_glob I hg gC ?_ hdb)
  have ha : PA X [.Constant (.str m) j p2] (tCons (tC (.str m)) tNil) := pa_cons pe_str pa_nil
  refine PySem.W.callWith_K (h₀ := X.base) I.ok.mod.kin kC (thn (ha.run pos pins s σ H (fun vs H1 => vs = [V.str m] ∧ H = H1) I ⟨rfl, rfl⟩) fun us s1 hh => ?_)
  obtain ⟨vs, H1, I1, r1, ev, eH⟩ := hh
  subst ev
  rw [← eH] at I1
  refine ⟨I1.kIn, ?_⟩
  cases r1 with
  | cons ru rn =>
    rename_i u us'
    cases rn
    show wpAny _ _ (call (.ref C) [u]) _ _ _
    obtain ⟨bm, N, nm, qn, bs, hdct, sn, sub, ab, col, dd, k0, k1, k2, k3, k5, mN, hC, hN, hni, T⟩ := exc_obj I1.kIn q
    refine wpAny_call_exc_subT F T hC hN hni (fun h' e hm => ?_) (by show 1 ≤ sizeLine; rw [sizeLine_eq]; omega)
    exact L2H.mk_of5 I1 hm r h (I1.hok.gone hm.new)
end
section
variable {P : Program} {w : World} {K : PySem.W.Frag} {mg : Str → Option Value} {base : Heap} {A : At}
theorem big54 {i : Int} (h : i.natAbs < 10 ^ 5000) : i.natAbs < 10 ^ 5400 := Nat.lt_of_lt_of_le h (Nat.pow_le_pow_right (by decide) (by decide))
def spWriteRatio : Sp := fun vs H Q _ => ∃ (a : Addr) (t b : Int), vs = [.ref a] ∧ H a = some (.tup [.int t, .int b]) ∧ (t.natAbs < 10 ^ 5000 ∧ b.natAbs < 10 ^ 5000) ∧ ∀ H', Same H H' → Q (.str (S (if b = 1 then decL t else decL t ++ 47 :: decL b))) H'
theorem ok_write_ratio (T : Txt K mg A) : FnOk P w K mg base CX0 10 A.a_write_ratio A.d_write_ratio ["r"] spWriteRatio := by
  have G_to_digits : FnOk P w K mg base CX0 9 A.a_to_digits A.d_to_digits ["number"] spToDigits := ok_to_digits T
  refine T.t_write_ratio.F.ok sc_write_ratio (fun vs H Q E h => ?_) (fun cdv AA outer s H vs Q E hr h => ?_)
  · obtain ⟨a, t, b, rfl, _⟩ := h
    rfl
  · obtain ⟨a, t, b, rfl, ha, ⟨ht, hb⟩, k⟩ := h
    refine ⟨_, (pss_cons (ps_asg (pv 0) (pg_tup rfl (pgs_cons (pg_name (i := 1) sc_write_ratio.nd rfl (Or.inl rfl)) (pgs_cons (pg_name (i := 2) sc_write_ratio.nd rfl (Or.inl rfl)) pgs_nil))))
      (pss_cons (ps_if (pt_cmpR op_eq (pv 2) pe_int (nomark _)) (pss_one (ps_ret (pe_call G_to_digits (hr.mono (by decide)) rfl T.t_to_digits.g T.t_to_digits.F.kp T.t_to_digits.b .nil pass0 (pa_cons (pv 1) pa_nil)))) pss_nil)
      (pss_one (ps_ret (pe_op op_add_str (pe_op op_add_str (pe_call G_to_digits (hr.mono (by decide)) rfl T.t_to_digits.g T.t_to_digits.F.kp T.t_to_digits.b .nil pass0 (pa_cons (pv 1) pa_nil)) pe_str) (pe_call G_to_digits (hr.mono (by decide)) rfl T.t_to_digits.g T.t_to_digits.F.kp T.t_to_digits.b .nil pass0 (pa_cons (pv 2) pa_nil))))))), ?_⟩
    refine ⟨_, rfl, a, _, rfl, SqT.of ha, rfl, _, _, rfl, _, _, rfl, rfl, ?_⟩
    refine ⟨_, rfl, rfl, _, rfl, ite2 (fun h1 => ?_) (fun h1 => ?_)⟩
    · have h1 : b = 1 := V.int.inj (of_decide_eq_true h1)
      rw [if_pos h1] at k
      exact ⟨_, rfl, t, rfl, big54 ht, k⟩
    · have h1 : ¬ b = 1 := fun z => h1 (decide_eq_true (by rw [z]))
      rw [if_neg h1] at k
      have lt := decL_len (w := 4999) ht
      have lb := decL_len (w := 4999) hb
      refine ⟨_, rfl, t, rfl, big54 ht, fun H1 s1 => ⟨_, _, rfl, rfl, ?_, _, rfl, b, rfl, big54 hb, fun H2 s2 => ⟨_, _, rfl, rfl, ?_, ?_⟩⟩⟩
      · rw [S_len, sizeLine_eq]
        show _ + 1 ≤ _
        omega
      · rw [show Str.ofString "/" = S [47] by decide +kernel, S_cat, S_len, S_len, List.length_append, sizeLine_eq]
        show _ + 1 + _ ≤ _
        omega
      · have k2 := k _ (s1.trans s2)
        rw [show Str.ofString "/" = S [47] by decide +kernel, S_cat, S_cat, List.append_assoc]
        exact k2
/-- at the first slash -/
def slashAt : List Nat → List Nat × Option (List Nat)
  | [] => ([], none)
  | c :: r => if c = 47 then ([], some r) else (c :: (slashAt r).1, (slashAt r).2)
theorem slash_none : ∀ {l a : List Nat}, slashAt l = (a, none) → 47 ∉ l ∧ a = l
  | [], a, h => by
    cases h
    exact ⟨List.not_mem_nil, rfl⟩
  | c :: r, a, h => by
    unfold slashAt at h
    by_cases e : c = 47
    · rw [if_pos e] at h
      cases h
    · rw [if_neg e] at h
      obtain ⟨h1, h2⟩ := Prod.mk.inj h
      obtain ⟨k1, k2⟩ := slash_none (l := r) (a := (slashAt r).1) (Prod.ext rfl h2)
      refine ⟨fun hm => ?_, by rw [← h1, k2]⟩
      rcases List.mem_cons.mp hm with z | z
      · exact e z.symm
      · exact k1 z
theorem slash_some : ∀ {l a b : List Nat}, slashAt l = (a, some b) → l = a ++ 47 :: b ∧ 47 ∉ a
  | [], a, b, h => by cases h
  | c :: r, a, b, h => by
    unfold slashAt at h
    by_cases e : c = 47
    · rw [if_pos e] at h
      obtain ⟨h1, h2⟩ := Prod.mk.inj h
      rw [← h1, Option.some.inj h2, e]
      exact ⟨rfl, List.not_mem_nil⟩
    · rw [if_neg e] at h
      obtain ⟨h1, h2⟩ := Prod.mk.inj h
      obtain ⟨k1, k2⟩ := slash_some (l := r) (a := (slashAt r).1) (b := b) (Prod.ext rfl h2)
      refine ⟨?_, fun hm => ?_⟩
      · rw [← h1]
        show c :: r = c :: ((slashAt r).1 ++ 47 :: b)
        rw [← k1]
      · rw [← h1] at hm
        rcases List.mem_cons.mp hm with z | z
        · exact e z.symm
        · exact k2 z
/-- the ratio whose written form a text is -/
def ratOf (l : List Nat) : Option (Int × Int) :=
  match slashAt l with
  | (a, none) => (fromDec a).map fun t => (t, 1)
  | (a, some b) => (fromDec a).bind fun t => (fromDec b).bind fun d => if d < 2 ∨ 1 < Nat.gcd t.natAbs d.natAbs then none else some (t, d)
def spReadRatio (C : Addr) : Sp := fun vs H Q E => ∃ l : List Nat, vs = [.str (S l)] ∧ l.length ≤ 50000 ∧ (ratOf l = none → ∀ H', Same H H' → E (.ref C) none H') ∧ (∀ t b, ratOf l = some (t, b) → ∀ H' p, Same H H' → H p = none → H' p = some (.tup [.int t, .int b]) → Q (.ref p) H')
theorem ok_read_ratio (T : Txt K mg A) : FnOk P w K mg base (L2.CX P w) 14 A.a_read_ratio A.d_read_ratio ["text"] (spReadRatio A.C_InvalidRatio) := by
  have G_from_digits : FnOk P w K mg base (L2N.CX P w) 12 A.a_from_digits A.d_from_digits ["text"] (spFromDigits A.C_InvalidNumeral) := ok_from_digitsN T
  refine T.t_read_ratio.F.okX sc_read_ratio (fun vs H Q E h => ?_) (fun cdv AA outer s H vs Q E hr h => ?_)
  · obtain ⟨l, rfl, _⟩ := h
    rfl
  · obtain ⟨l, rfl, hl, kE, kQ⟩ := h
    have te : PySem.W.exmOne K (.ref A.C_InvalidNumeral) (.ref A.C_InvalidNumeral) = some true := PySem.W.exm_ref T.e_InvalidNumeral.b T.e_InvalidNumeral.e.hd T.e_InvalidNumeral.t T.e_InvalidNumeral.s
    refine ⟨_, (pss_cons (ps_asg (pe_partition (pv 0) pe_str) (pg_tup rfl (pgs_cons (pg_name (i := 1) sc_read_ratio.nd rfl (Or.inl rfl)) (pgs_cons (pg_name (i := 2) sc_read_ratio.nd rfl (Or.inl rfl)) (pgs_cons (pg_name (i := 3) sc_read_ratio.nd rfl (Or.inl rfl)) pgs_nil)))))
      (pss_cons (L2H.ps_try_onlyX rfl rfl ⟨rfl, by decide, Or.inl T.e_InvalidNumeral.g⟩ (fun hd => L2H.passesAt_of rfl hd) (takes_of rfl rfl rfl rfl)
        (fun W pn xe tk tkl po => by exact (pss_cons (ps_set (i := 4) sc_read_ratio.nd rfl (Or.inl rfl) (pe_callS G_from_digits (hr.mono (by decide)) rfl T.t_from_digits.g T.t_from_digits.F.kp T.t_from_digits.b (by exact (fun σ => L2N.passAt tk σ)) (pa_cons (pv 1) pa_nil))) (pss_one (ps_set (i := 5) sc_read_ratio.nd rfl (Or.inl rfl) (pe_ifExp (tA := fun σ H Q => tVar 2 σ H fun x H' => ∃ k, TruV K x H' k ∧ Q k H') (by refine pt_truth (pv 2) ?_; intro _; rfl) (pe_callS G_from_digits (hr.mono (by decide)) rfl T.t_from_digits.g T.t_from_digits.F.kp T.t_from_digits.b (by exact (fun σ => L2N.passAt tk σ)) (pa_cons (pv 3) pa_nil)) pe_int)))))
        (fun a oe cls d pn hz hf tk hot => by exact (pss_one (L2H.ps_raiseHN hot tk (pmk5_own PySem.F.excBase_ValueError T.e_InvalidRatio.ex T.e_InvalidRatio.g T.e_InvalidRatio.k (raises_own T.e_InvalidRatio.b T.e_InvalidRatio.t) rfl)))))
      (pss_cons (ps_if (PW.pt (pw_and (by exact pt_truth (pv 2) (by intro _; rfl)) (pw_and1 (PW.pt (pw_or (pt_cmpR op_lt (pv 5) pe_int (nomark _)) (pw_or1 (pt_cmpR op_gt (pe_callBfun cr_gcd (by rfl) T.m_gcd (pa_cons (pv 4) (pa_cons (pv 5) pa_nil))) pe_int (nomark _)))))))) (pss_one (ps_raise rfl (takes_of rfl rfl rfl rfl) (pmk_own PySem.F.excBase_ValueError T.e_InvalidRatio.ex T.e_InvalidRatio.g T.e_InvalidRatio.k (raises_own T.e_InvalidRatio.b T.e_InvalidRatio.t) rfl))) pss_nil)
      (pss_one (ps_ret (pe_tup (pa_cons (pv 4) (pa_cons (pv 5) pa_nil)))))))), ?_⟩
    refine ⟨_, rfl, ⟨_, rfl⟩, _, _, rfl, rfl, by decide +kernel, small_S (by omega), fun p np => ?_⟩
    have s1 := fun o => same_upd (o := o) np
    cases ec : slashAt l with
    | mk a o =>
      cases o with
      | none =>
        obtain ⟨hn, ea⟩ := slash_none ec
        have ep : Txt.partition (S l) (Str.ofString "/") = (S l, Str.empty, Str.empty) := TL.partition_none (s := 47) (S := []) (by decide +kernel) hn
        rw [ep]
        refine ⟨p, _, rfl, SqT.of upd_same, rfl, _, _, rfl, _, _, rfl, _, _, rfl, rfl, ?_⟩
        refine ⟨_, rfl, l, rfl, by omega, fun e H2 s2 => ?_, fun t e H2 s2 => ?_⟩
        · have en : ratOf l = none := by
            unfold ratOf
            rw [ec, ea]
            show (fromDec l).map _ = none
            rw [e]
            rfl
          exact ⟨true, te, fun _ a0 _ => kE en _ ((s1 _).trans s2), fun h => absurd h (by decide)⟩
        · refine ⟨_, rfl, false, ⟨by show (0 : Nat) ≤ sizeLine; decide, rfl⟩, iteF ?_⟩
          refine ⟨_, rfl, false, ⟨by show (0 : Nat) ≤ sizeLine; decide, rfl⟩, iteF ?_⟩
          refine iteF ?_
          have en : ratOf l = some (t, 1) := by
            unfold ratOf
            rw [ec, ea]
            show (fromDec l).map _ = _
            rw [e]
            rfl
          refine ⟨_, rfl, _, rfl, (by show 2 ≤ sizeLine; decide), fun q nq => ?_⟩
          have s3 := (s1 (.tup [.str (S l), .str Str.empty, .str Str.empty])).trans s2
          exact kQ t 1 en _ q (s3.trans (same_upd nq)) (s3.free nq) upd_same
      | some b =>
        obtain ⟨hla, hn⟩ := slash_some ec
        have hlen : a.length + 1 + b.length = l.length := by
          rw [hla, List.length_append, List.length_cons]
          omega
        have ep : Txt.partition (S l) (Str.ofString "/") = (S a, Str.ofString "/", S b) := by
          have q := TL.partition_app (y := Str.ofString "/") (s := 47) (S := []) (by decide +kernel) (a := S a) (b := S b) hn
          rw [show Str.ofString "/" = S [47] by decide +kernel, S_cat, S_cat, List.append_assoc] at q
          rw [hla]
          exact q
        rw [ep]
        refine ⟨p, _, rfl, SqT.of upd_same, rfl, _, _, rfl, _, _, rfl, _, _, rfl, rfl, ?_⟩
        have sl : (Str.ofString "/").length ≤ sizeLine ∧ true = (((Str.ofString "/").length : Int) != 0) := by decide +kernel
        refine ⟨_, rfl, a, rfl, by omega, fun e H2 s2 => ?_, fun t e H2 s2 => ?_⟩
        · have en : ratOf l = none := by
            unfold ratOf
            rw [ec]
            show (fromDec a).bind _ = none
            rw [e]
            rfl
          exact ⟨true, te, fun _ a0 _ => kE en _ ((s1 _).trans s2), fun h => absurd h (by decide)⟩
        · refine ⟨_, rfl, true, sl, iteT ?_⟩
          refine ⟨_, rfl, b, rfl, by omega, fun e2 H3 s3 => ?_, fun d e2 H3 s3 => ?_⟩
          · have en : ratOf l = none := by
              unfold ratOf
              rw [ec]
              show (fromDec a).bind _ = none
              rw [e]
              show (fromDec b).bind _ = none
              rw [e2]
              rfl
            exact ⟨true, te, fun _ a0 _ => kE en _ (((s1 _).trans s2).trans s3), fun h => absurd h (by decide)⟩
          · have eq : ratOf l = if d < 2 ∨ 1 < Nat.gcd t.natAbs d.natAbs then none else some (t, d) := by
              unfold ratOf
              rw [ec]
              show (fromDec a).bind _ = _
              rw [e]
              show (fromDec b).bind _ = _
              rw [e2]
              rfl
            have s4 := ((s1 (.tup [.str (S a), .str (Str.ofString "/"), .str (S b)])).trans s2).trans s3
            refine ⟨_, rfl, true, sl, iteT ⟨_, rfl, _, _, rfl, rfl, _, rfl, ite2 (fun h1 => ?_) (fun h1 => ?_)⟩⟩
            · have h1 : d < 2 := of_decide_eq_true h1
              rw [if_pos (.inl h1)] at eq
              exact iteT (kE eq _ s4)
            · have h1 : ¬ d < 2 := fun z => h1 (decide_eq_true z)
              refine ⟨_, rfl, _, rfl, t, d, rfl, _, _, rfl, rfl, _, rfl, ite2 (fun h2 => ?_) (fun h2 => ?_)⟩
              · have h2 : (1 : Int) < ((Nat.gcd t.natAbs d.natAbs : Nat) : Int) := of_decide_eq_true h2
                rw [if_pos (.inr (by omega))] at eq
                exact kE eq _ s4
              · have h2 : ¬ (1 : Int) < ((Nat.gcd t.natAbs d.natAbs : Nat) : Int) := fun z => h2 (decide_eq_true z)
                rw [if_neg (by omega)] at eq
                refine ⟨_, rfl, _, rfl, (by show 2 ≤ sizeLine; decide), fun q nq => ?_⟩
                exact kQ t d eq _ q (s4.trans (same_upd nq)) (s4.free nq) upd_same
end
section
variable {P : Program} {w : World} {K : PySem.W.Frag} {mg : Str → Option Value} {base : Heap} {A : At}
/-! ### a drawn number -/
def spNumber : Sp := fun vs H Q _ => ∃ (p l : Addr) (most : Int), vs = [.ref p, .int most] ∧ PoolAt H p l ∧ 0 < most ∧ ∀ (v : Int) H', v.natAbs < most.natAbs → PoolAt H' p l → But p H H' → Q (.int v) H'
theorem ok_number (T : Txt K mg A) : FnOk P w K mg base CX0 3 A.a_law_number A.d_law_number ["pool", "most"] spNumber := by
  have GD : FnOk P w K mg base CX0 2 A.a_law_draw A.d_law_draw ["pool", "many"] spDraw := ok_draw T
  refine T.t_law_number.F.ok sc_law_number (fun vs H Q E h => ?_) (fun cdv AA outer s H vs Q E hr h => ?_)
  · obtain ⟨p, l, most, rfl, _⟩ := h
    rfl
  · obtain ⟨p, l, most, rfl, hP, hm, k⟩ := h
    refine ⟨_, pss_cons (ps_set (i := 2) sc_law_number.nd rfl (Or.inl rfl) (pe_call GD hr rfl T.t_law_draw.g T.t_law_draw.F.kp T.t_law_draw.b .nil pass0 (pa_cons (pv 0) (pa_cons
          (pe_ix ix_tup (pe_tup (pa_cons pe_int (pa_cons pe_int (pa_cons pe_int (pa_cons pe_int (pa_cons (pe_op op_pow pe_int pe_int) pa_nil)))))) (pe_call GD hr rfl T.t_law_draw.g T.t_law_draw.F.kp T.t_law_draw.b .nil pass0 (pa_cons (pv 0) (pa_cons pe_int pa_nil))) (fun _ _ => rfl)) pa_nil))))
      (pss_cons (ps_if (pt_cmpR op_eq (pe_call GD hr rfl T.t_law_draw.g T.t_law_draw.F.kp T.t_law_draw.b .nil pass0 (pa_cons (pv 0) (pa_cons pe_int pa_nil))) pe_int (nomark _)) (pss_one (ps_set (i := 2) sc_law_number.nd rfl (Or.inl rfl) (pe_un un_neg (pv 2)))) pss_nil)
      (pss_one (ps_ret (pe_ifExp (pt_cmpR op_ge (pv 2) pe_int (nomark _)) (pe_op op_mod (pv 2) (pv 1)) (pe_un un_neg (pe_op op_mod (pe_callTy call_int1 (by rfl) T.z_int PyProof.Rows.boot_int (pa_cons (pe_un un_neg (pv 2)) pa_nil)) (pv 1))))))), ?_⟩
    refine ⟨_, rfl, _, _, rfl, rfl, ⟨by decide, by decide, by decide⟩, (by show 5 ≤ sizeLine; decide), fun t nt => ?_⟩
    have s1 := fun o => same_upd (o := o) nt
    refine ⟨_, rfl, p, l, 5, rfl, hP.same (s1 _), ⟨by decide, by decide⟩, fun v H1 v0 v1 P1 B1 => ?_⟩
    obtain ⟨m, hmem, em⟩ := pick_at (ms := [2, 10, 1000, 1000000000, 10 ^ (40 : Int).toNat]) v0 v1
    have hall : ∀ x ∈ [(2 : Int), 10, 1000, 1000000000, 10 ^ (40 : Int).toNat], 0 < x ∧ x.natAbs < 2 ^ 8000 := by decide +kernel
    have ht : H1 t = some _ := B1 t _ upd_same (hP.free nt)
    refine ⟨t, _, v, _, rfl, rfl, SqT.of ht, em, ?_⟩
    have b1 : But p H H1 := (But.same (s1 _)).trans B1
    refine ⟨p, l, m, rfl, P1, hall m hmem, fun v2 H2 w0 w1 P2 B2 => ?_⟩
    have b2 : But p H H2 := b1.trans B2
    dsimp only [gName]
    refine seq_then (fun σ' H' => ∃ z : Int, σ' = [some (.ref p), some (.int most), some (.int z)] ∧ PoolAt H' p l ∧ But p H H') ?_ (fun N hN => ?_)
    · rintro σ' H' ⟨z, rfl, P3, b3⟩
      refine ⟨_, rfl, _, _, rfl, rfl, _, rfl, ite2 (fun h1 => ?_) (fun h1 => ?_)⟩
      · refine ⟨_, rfl, _, rfl, _, _, rfl, rfl, hm, k _ _ ?_ P3 b3⟩
        have e1 := Int.emod_nonneg z (show most ≠ 0 by omega)
        have e2 := Int.emod_lt_of_pos z hm
        omega
      · refine ⟨_, rfl, _, rfl, .inl ⟨_, rfl, _, rfl, _, _, rfl, rfl, hm, _, rfl, k _ _ ?_ P3 b3⟩⟩
        have e1 := Int.emod_nonneg (-z) (show most ≠ 0 by omega)
        have e2 := Int.emod_lt_of_pos (-z) hm
        omega
    · refine ⟨_, rfl, p, l, 3, rfl, P2, ⟨by decide, by decide⟩, fun v3 H3 _ _ P3 B3 => ⟨rfl, _, rfl, ite2 (fun _ => ?_) (fun _ => ?_)⟩⟩
      · exact ⟨_, rfl, _, rfl, hN _ _ ⟨_, rfl, P3, b2.trans B3⟩⟩
      · exact hN _ _ ⟨_, rfl, P3, b2.trans B3⟩
end
/-- // by a divisor of either sign -/
theorem op_fdivG {X : Cx} : OpR X (binaryOp .FloorDiv) (rI (fun _ j => j ≠ 0 ∧ j.natAbs.log2 < 9000) fun i j => .int (i.fdiv j)) := opI fun _ _ _ _ _ _ _ hc q => PyProof.Rows.floordiv_int hc.1 q (.inl (PyProof.noPylong_of_log2 hc.2))
/-- isinstance(e, C) where the suite holds the error e -/
theorem call_isE2 {X : Cx} {a D : Addr} {oe : Obj} {cls : Value} {d : Option Addr} {pn : List (Addr × Obj)} (C : ExcC X.K D) (hz : Zc cls d oe) (hf : ∃ vs, oe.data = .fields vs) : CallR (X.suite a ((a, oe) :: pn)) (.builtin "isinstance") (fun xs H Q => cls = .ref D ∧ d = none ∧ rIsE X.K D a xs H Q) := by
  intro pins s σ H xs us Q I r h
  obtain ⟨rfl, rfl, h⟩ := h
  exact call_isE C hz hf pins s σ H xs us Q I r h
theorem big_lt {i : Int} {a b : Nat} (h : i.natAbs < 2 ^ a) (hab : a ≤ b) : i.natAbs < 2 ^ b := Nat.lt_of_lt_of_le h (Nat.pow_le_pow_right (by decide) hab)
theorem add_lt {i j : Int} {a : Nat} (hi : i.natAbs < 2 ^ a) (hj : j.natAbs < 2 ^ a) : (i + j).natAbs < 2 ^ (a + 1) := by
  have e : 2 ^ (a + 1) = 2 * 2 ^ a := by rw [Nat.pow_succ]; omega
  omega
theorem sub_lt {i j : Int} {a : Nat} (hi : i.natAbs < 2 ^ a) (hj : j.natAbs < 2 ^ a) : (i - j).natAbs < 2 ^ (a + 1) := by
  have e : 2 ^ (a + 1) = 2 * 2 ^ a := by rw [Nat.pow_succ]; omega
  omega
theorem rtop_of (t b : Int) : rtop t b = if b < 0 then (-t).fdiv (Int.gcd t b : Int) else t.fdiv (Int.gcd t b : Int) := by
  unfold rtop rsg
  split
  · rw [← Int.neg_fdiv_neg, Int.neg_neg]
  · rfl
theorem rbot_of (t b : Int) : rbot t b = if b < 0 then (-b).fdiv (Int.gcd t b : Int) else b.fdiv (Int.gcd t b : Int) := by
  unfold rbot rsg
  split
  · rw [← Int.neg_fdiv_neg, Int.neg_neg]
  · rfl
section
variable {P : Program} {w : World} {K : PySem.W.Frag} {mg : Str → Option Value} {base : Heap} {A : At}
def spFrac : Sp := fun vs H Q _ => ∃ t b : Int, vs = [.int t, .int b] ∧ (t.natAbs < 2 ^ 8000 ∧ b.natAbs < 2 ^ 8000) ∧ b ≠ 0 ∧ ∀ p, H p = none → Q (.ref p) (upd H p (.tup [.int (rtop t b), .int (rbot t b)]))
theorem ok_frac (T : Txt K mg A) : FnOk P w K mg base CX0 2 A.a_law_frac A.d_law_frac ["top", "bottom"] spFrac := by
  have GG : FnOk P w K mg base CX0 1 A.a_law_gcd A.d_law_gcd ["a", "b"] spGcd := ok_gcd T
  refine T.t_law_frac.F.ok sc_law_frac (fun vs H Q E h => ?_) (fun cdv AA outer s H vs Q E hr h => ?_)
  · obtain ⟨t, b, rfl, _⟩ := h
    rfl
  · obtain ⟨t, b, rfl, ⟨ht, hb⟩, hb0, k⟩ := h
    refine ⟨_, pss_cons (ps_if (pt_cmpR op_lt (pv 1) pe_int (nomark _)) (pss_cons (ps_set (i := 0) sc_law_frac.nd rfl (Or.inl rfl) (pe_un un_neg (pv 0))) (pss_one (ps_set (i := 1) sc_law_frac.nd rfl (Or.inl rfl) (pe_un un_neg (pv 1))))) pss_nil)
      (pss_cons (ps_set (i := 2) sc_law_frac.nd rfl (Or.inl rfl) (pe_call GG hr rfl T.t_law_gcd.g T.t_law_gcd.F.kp T.t_law_gcd.b .nil pass0 (pa_cons (pv 0) (pa_cons (pv 1) pa_nil))))
      (pss_one (ps_ret (pe_tup (pa_cons (pe_op op_fdivG (pv 0) (pv 2)) (pa_cons (pe_op op_fdivG (pv 1) (pv 2)) pa_nil)))))), ?_⟩
    have hg := rgcd_pos (t := t) hb0
    have hle : Int.gcd t b ≤ b.natAbs := Nat.le_of_dvd (by omega) (Nat.gcd_dvd_right _ _)
    have hlog : (Int.gcd t b).log2 < 9000 := by
      have z := PySem.Flt.log2_lt_of (show 0 < 8000 by decide) (Nat.lt_of_le_of_lt hle hb)
      omega
    refine seq_then (fun σ' H' => H' = H ∧ ∃ t' b' : Int, σ' = [some (.int t'), some (.int b'), none] ∧ Int.gcd t' b' = Int.gcd t b ∧ t'.natAbs = t.natAbs ∧ b'.natAbs = b.natAbs ∧ rtop t b = t'.fdiv (Int.gcd t b : Int) ∧ rbot t b = b'.fdiv (Int.gcd t b : Int)) ?_ (fun N hN => ?_)
    · rintro σ' H' ⟨rfl, t', b', rfl, eg, et, eb, e1, e2⟩
      have big : (2 : Nat) ^ 8000 < 2 ^ 1000000 := Nat.pow_lt_pow_right (by decide) (by decide)
      refine ⟨_, rfl, _, rfl, t', b', rfl, ⟨by rw [et]; exact Nat.lt_trans ht big, by rw [eb]; exact Nat.lt_trans hb big⟩, ?_⟩
      rw [eg]
      have hz : ((Int.gcd t b : Nat) : Int) ≠ 0 ∧ ((Int.gcd t b : Nat) : Int).natAbs.log2 < 9000 := ⟨by omega, by rw [Int.natAbs_natCast]; exact hlog⟩
      refine ⟨_, rfl, _, rfl, _, _, rfl, rfl, hz, _, rfl, _, rfl, _, _, rfl, rfl, hz, (by show 2 ≤ sizeLine; decide), fun p np => ?_⟩
      have kp := k p np
      rw [e1, e2] at kp
      exact kp
    · refine ⟨_, rfl, _, _, rfl, rfl, _, rfl, ite2 (fun h1 => ?_) (fun h1 => ?_)⟩
      · have h1 : b < 0 := of_decide_eq_true h1
        refine ⟨_, rfl, _, rfl, _, rfl, _, rfl, hN _ _ ⟨rfl, -t, -b, rfl, ?_, Int.natAbs_neg t, Int.natAbs_neg b, ?_, ?_⟩⟩
        · rw [Int.gcd_neg, Int.neg_gcd]
        · rw [rtop_of, if_pos h1]
        · rw [rbot_of, if_pos h1]
      · have h1 : ¬ b < 0 := fun z => h1 (decide_eq_true z)
        refine hN _ _ ⟨rfl, t, b, rfl, rfl, rfl, rfl, ?_, ?_⟩
        · rw [rtop_of, if_neg h1]
        · rw [rbot_of, if_neg h1]
/-- a tuple of two ints that stands at p -/
abbrev RatAt (K : PySem.W.Frag) (H : Hp) (p : Addr) (t b : Int) : Prop := SqT K H p [.int t, .int b]
def small (i : Int) : Prop := i.natAbs < 2 ^ 3000
theorem small_mul {i j : Int} (hi : small i) (hj : small j) : CMulW i j ∧ (i * j).natAbs < 2 ^ 6000 := ⟨wide_mul hi hj (by decide) (by decide) (by decide), wide_lt hi hj⟩
theorem small_8000 {i : Int} (h : i.natAbs < 2 ^ 6001) : i.natAbs < 2 ^ 8000 := big_lt h (by decide)
theorem mid_8000 {i : Int} (h : i.natAbs < 2 ^ 6000) : i.natAbs < 2 ^ 8000 := big_lt h (by decide)
end
open SX (S S_len S_cat S_inj)
open NumText (AllDigits digitsVal)
def lawBad (l d : List Nat) : Bool := decide (d = []) || (decide (d.head? = some 48) && (decide (1 < d.length) || !decide (l = [48])))
theorem law_dec (l : List Nat) : (fromDec l).isSome = (!lawBad l (if l.head? = some 45 then l.tail else l) && (if l.head? = some 45 then l.tail else l).all isDig) := by
  have hd : (l = [45, 48]) = (l.head? = some 45 ∧ (if l.head? = some 45 then l.tail else l) = [48]) := by
    apply propext
    constructor
    · intro e
      subst e
      exact ⟨rfl, rfl⟩
    · rintro ⟨e, e2⟩
      rw [if_pos e] at e2
      cases l with
      | nil => cases e
      | cons c r =>
        have e3 : c = 45 := Option.some.inj e
        have e4 : r = [48] := e2
        rw [e3, e4]
  have h48 : (l = [48]) = (¬ l.head? = some 45 ∧ (if l.head? = some 45 then l.tail else l) = [48]) := by
    apply propext
    constructor
    · intro e
      subst e
      exact ⟨by decide, rfl⟩
    · rintro ⟨e, e2⟩
      rw [if_neg e] at e2
      exact e2
  unfold fromDec lawBad numForm
  simp only [hd, h48]
  generalize (if l.head? = some 45 then l.tail else l) = d
  by_cases hn : l.head? = some 45
  · cases d with
    | nil => simp
    | cons c r =>
      cases r with
      | nil =>
        by_cases hc : c = 48
        · subst hc; simp [hn]
        · simp [hn, hc]
          cases h : isDig c <;> simp [h]
      | cons c2 r2 =>
        by_cases hc : c = 48
        · subst hc; simp [hn]
        · simp [hn, hc]
          cases h1 : isDig c <;> cases h2 : isDig c2 <;> cases h3 : r2.all isDig <;> first | (simp [h1, h2, h3]; done) | (simp; done) | simp_all
  · cases d with
    | nil => simp
    | cons c r =>
      cases r with
      | nil =>
        by_cases hc : c = 48
        · subst hc; simp [hn]; decide
        · simp [hn, hc]
          cases h : isDig c <;> simp [h]
      | cons c2 r2 =>
        by_cases hc : c = 48
        · subst hc; simp [hn]
        · simp [hn, hc]
          cases h1 : isDig c with
          | false => simp
          | true =>
            cases h2 : isDig c2 with
            | false => simp
            | true =>
              by_cases hx : ∃ x, x ∈ r2 ∧ isDig x = false
              · obtain ⟨x, h, e⟩ := hx
                have e3 : r2.all isDig = false := List.all_eq_false.mpr ⟨x, h, by rw [e]; exact Bool.false_ne_true⟩
                rw [e3, if_pos (fun _ _ => ⟨x, h, e⟩)]
                rfl
              · have e3 : r2.all isDig = true := List.all_eq_true.mpr fun x h => by
                  cases hb : isDig x with
                  | true => rfl
                  | false => exact absurd ⟨x, h, hb⟩ hx
                rw [e3, if_neg (fun z => hx (z rfl rfl))]
                rfl
theorem take_one (l : List Nat) : decide (l.take 1 = [45]) = decide (l.head? = some 45) := by
  cases l with
  | nil => decide
  | cons c r => simp
theorem index_dig {c : Nat} (h : 48 ≤ c ∧ c ≤ 57) : Txt.index0 (Str.ofString "0123456789") (S [c]) = some (c - 48) := by
  have e : c = 48 ∨ c = 49 ∨ c = 50 ∨ c = 51 ∨ c = 52 ∨ c = 53 ∨ c = 54 ∨ c = 55 ∨ c = 56 ∨ c = 57 := by omega
  rcases e with rfl | rfl | rfl | rfl | rfl | rfl | rfl | rfl | rfl | rfl <;> decide +kernel
section
variable {P : Program} {w : World} {K : PySem.W.Frag} {mg : Str → Option Value} {base : Heap} {A : At}
def spIsDec : Sp := fun vs H Q _ => ∃ l : List Nat, vs = [.str (S l)] ∧ l.length ≤ 60000 ∧ Q (.bl (fromDec l).isSome) H
theorem not_dig_mem (c : Nat) : (!decide (c ∈ (Str.ofString "0123456789").cps.toList)) = !isDig c := by rw [dig_mem]
theorem ok_is_decimal (T : Txt K mg A) : FnOk P w K mg base CX0 1 A.a_law_is_decimal A.d_law_is_decimal ["text"] spIsDec := by
  refine T.t_law_is_decimal.F.ok sc_law_is_decimal (fun vs H Q E h => ?_) (fun cdv AA outer s H vs Q E hr h => ?_)
  · obtain ⟨l, rfl, _⟩ := h
    rfl
  · obtain ⟨l, rfl, hl, k⟩ := h
    rw [law_dec] at k
    refine ⟨_, (pss_cons (ps_set (i := 1) sc_law_is_decimal.nd rfl (Or.inl rfl) (pe_ifExp (pt_cmpR op_eq (pe_slice sl_str (pv 0) po_none (po_some pe_int)) pe_str (nomark _)) (pe_slice sl_str (pv 0) (po_some pe_int) po_none) (pv 0)))
      (pss_cons (ps_if (PW.pt (pw_or (pt_cmpR op_eq (pe_callB call_len_str (by rfl) T.z_len PySem.boot_len (pa_cons (pv 1) pa_nil)) pe_int (nomark _)) (pw_or1 (PW.pt (pw_and (pt_cmpR op_eq (pe_ix ix_str (pv 1) pe_int (fun _ _ => rfl)) pe_str (nomark _)) (pw_and1 (PW.pt (pw_or (pt_cmpR op_gt (pe_callB call_len_str (by rfl) T.z_len PySem.boot_len (pa_cons (pv 1) pa_nil)) pe_int (nomark _)) (pw_or1 (pt_cmpR op_ne (pv 0) pe_str (nomark _))))))))))) (pss_one (ps_ret pe_bl)) pss_nil)
      (pss_cons (ps_for PassesOwn.never rfl (pi_str (pv 1)) (pg_name (i := 2) sc_law_is_decimal.nd rfl (Or.inl rfl)) (pss_one (ps_if (pt_cmpR op_notIn_sign (pv 2) pe_str (by rfl)) (pss_one (ps_ret pe_bl)) pss_nil)))
      (pss_one (ps_ret pe_bl))))), ?_⟩
    refine seq_then (fun σ' H' => H' = H ∧ σ' = [some (.str (S l)), some (.str (S (if l.head? = some 45 then l.tail else l))), none]) ?_ (fun N hN => ?_)
    · rintro σ' H' ⟨rfl, rfl⟩
      have hdl : (if l.head? = some 45 then l.tail else l).length ≤ 60000 := by
        split
        · rw [List.length_tail]; omega
        · exact hl
      generalize (if l.head? = some 45 then l.tail else l) = d at k hdl ⊢
      have z1 : (decide (V.int ((S d).length : Int) = V.int 0)) = decide (d = []) := by
        rw [S_len, Bool.eq_iff_iff, decide_eq_true_eq, decide_eq_true_eq]
        constructor
        · intro e
          have := V.int.inj e
          exact List.length_eq_zero_iff.mp (by omega)
        · intro e
          rw [e]
          rfl
      have loop : ∀ (D : Ends) (σ : St), lawBad l d = false → (D.rt = fun v H' => Q v H') → True := fun _ _ _ _ => trivial
      refine ⟨_, rfl, _, rfl, small_S (by omega), rfl, _, rfl, ite2 (fun h1 => ?_) (fun h1 => ?_)⟩
      · have h1 : decide (d = []) = true := z1.symm.trans h1
        have e : lawBad l d = true := by unfold lawBad; rw [h1]; rfl
        rw [e] at k
        exact iteT k
      · have h1 : decide (d = []) = false := by rw [← z1]; exact Bool.eq_false_iff.mpr h1
        obtain ⟨c, r, rfl⟩ : ∃ c r, d = c :: r := List.exists_cons_of_ne_nil (of_decide_eq_false h1)
        refine ⟨_, rfl, _, _, c, rfl, rfl, small_S (by omega), at_head rfl, rfl, _, rfl, ?_⟩
        refine ite2 (fun h2 => ?_) (fun h2 => ?_)
        · have h2 : decide (c = 48) = true := (one_zero_S c).symm.trans h2
          have e4 : decide ((c :: r).head? = some 48) = true := decide_eq_true (by rw [of_decide_eq_true h2]; rfl)
          refine ⟨_, rfl, _, rfl, small_S (by omega), _, _, rfl, rfl, _, rfl, ite2 (fun h3 => ?_) (fun h3 => ?_)⟩
          · have h3 : (1 : Int) < ((S (c :: r)).length : Int) := of_decide_eq_true h3
            rw [S_len] at h3
            have e : lawBad l (c :: r) = true := by
              unfold lawBad
              rw [h1, e4, decide_eq_true (show 1 < (c :: r).length by omega)]
              rfl
            rw [e] at k
            exact iteT k
          · have h3 : ¬ (1 : Int) < ((S (c :: r)).length : Int) := fun z => h3 (decide_eq_true z)
            rw [S_len] at h3
            have e5 : decide (1 < (c :: r).length) = false := decide_eq_false (by omega)
            refine ⟨_, rfl, rfl, _, rfl, ite2 (fun h4 => ?_) (fun h4 => ?_)⟩
            · have h4 : (!decide (l = [48])) = true := by rw [← zero_S l]; exact h4
              have e : lawBad l (c :: r) = true := by
                unfold lawBad
                rw [h1, e4, e5, h4]
                rfl
              rw [e] at k
              exact k
            · have h4 : (!decide (l = [48])) = false := by rw [← zero_S l]; exact Bool.eq_false_iff.mpr h4
              have e : lawBad l (c :: r) = false := by
                unfold lawBad
                rw [h1, e4, e5, h4]
                rfl
              rw [e] at k
              refine ⟨_, rfl, S (c :: r), rfl, for_str (l := c :: r) (fun i σ H2 => H2 = H' ∧ ((c :: r).take i).all isDig = true ∧ ∃ v : Option V, σ = [some (.str (S l)), some (.str (S (c :: r))), v]) ⟨rfl, rfl, none, rfl⟩ ?_ ?_⟩
              · rintro i b σ H2 hi ⟨rfl, ha, v, rfl⟩
                refine ⟨_, rfl, _, _, rfl, rfl, _, rfl, ?_⟩
                rw [not_dig_mem]
                cases hb : isDig b with
                | true =>
                  refine iteF ⟨rfl, ?_, _, rfl⟩
                  rw [List.take_add_one, hi, List.all_append, ha]
                  show (true && ([b].all isDig)) = true
                  rw [Bool.true_and, List.all_cons, hb]
                  rfl
                | false =>
                  have e6 : (c :: r).all isDig = false := by
                    rw [List.all_eq_false]
                    exact ⟨b, List.mem_of_getElem? hi, by rw [hb]; exact Bool.false_ne_true⟩
                  rw [e6] at k
                  exact iteT k
              · rintro σ H2 ⟨rfl, ha, v, rfl⟩
                rw [List.take_length] at ha
                rw [ha] at k
                exact k
        · have h2 : decide (c = 48) = false := by rw [← one_zero_S c]; exact Bool.eq_false_iff.mpr h2
          have e4 : decide ((c :: r).head? = some 48) = false := decide_eq_false fun e => (of_decide_eq_false h2) (Option.some.inj e)
          have e : lawBad l (c :: r) = false := by
            unfold lawBad
            rw [h1, e4]
            rfl
          rw [e] at k
          refine iteF ?_
          refine ⟨_, rfl, S (c :: r), rfl, for_str (l := c :: r) (fun i σ H2 => H2 = H' ∧ ((c :: r).take i).all isDig = true ∧ ∃ v : Option V, σ = [some (.str (S l)), some (.str (S (c :: r))), v]) ⟨rfl, rfl, none, rfl⟩ ?_ ?_⟩
          · rintro i b σ H2 hi ⟨rfl, ha, v, rfl⟩
            refine ⟨_, rfl, _, _, rfl, rfl, _, rfl, ?_⟩
            rw [not_dig_mem]
            cases hb : isDig b with
            | true =>
              refine iteF ⟨rfl, ?_, _, rfl⟩
              rw [List.take_add_one, hi, List.all_append, ha]
              show (true && ([b].all isDig)) = true
              rw [Bool.true_and, List.all_cons, hb]
              rfl
            | false =>
              have e6 : (c :: r).all isDig = false := by
                rw [List.all_eq_false]
                exact ⟨b, List.mem_of_getElem? hi, by rw [hb]; exact Bool.false_ne_true⟩
              rw [e6] at k
              exact iteT k
          · rintro σ H2 ⟨rfl, ha, v, rfl⟩
            rw [List.take_length] at ha
            rw [ha] at k
            exact k
    · refine ⟨_, rfl, 1, rfl, S l, rfl, small_S (by omega), rfl, _, rfl, ite2 (fun h1 => ?_) (fun h1 => ?_)⟩
      · have e1 : cutS (S l) none (some 1) = S (l.take 1) := S_take l 1
        rw [e1] at h1
        have h1 : decide (l.take 1 = [45]) = true := (dec_S (l.take 1) [45]).symm.trans h1
        rw [take_one] at h1
        refine ⟨_, rfl, 1, rfl, S l, rfl, small_S (by omega), ?_⟩
        have e2 : cutS (S l) (some 1) none = S (l.drop 1) := S_drop l 1
        rw [e2]
        refine hN _ _ ⟨rfl, ?_⟩
        rw [if_pos (of_decide_eq_true h1), List.drop_one]
        rfl
      · have e1 : cutS (S l) none (some 1) = S (l.take 1) := S_take l 1
        rw [e1] at h1
        have h1 : ¬ decide (l.take 1 = [45]) = true := fun z => h1 ((dec_S (l.take 1) [45]).trans z)
        rw [take_one] at h1
        refine ⟨_, rfl, hN _ _ ⟨rfl, ?_⟩⟩
        rw [if_neg (fun z => h1 (decide_eq_true z))]
        rfl
end
open SX (S S_len S_cat S_inj)
open NumText (AllDigits digitsVal)
theorem sub_take (l : List Nat) (i : Nat) : Builtin.Str.strSub (S l) 0 i = S (l.take i) := by
  rw [PyProof.Rows.strSub_mk]
  rfl
theorem find_some {l a b : List Nat} (h : slashAt l = (a, some b)) : Txt.find (S l) (Str.ofString "/") = (a.length : Int) := by
  obtain ⟨hla, hn⟩ := slash_some h
  have ep : (Txt.partition (S l) (Str.ofString "/")).1 = S a := by
    have q := TL.partition_app (y := Str.ofString "/") (s := 47) (S := []) (by decide +kernel) (a := S a) (b := S b) hn
    rw [show Str.ofString "/" = S [47] by decide +kernel, S_cat, S_cat, List.append_assoc] at q
    rw [hla]
    rw [show Str.ofString "/" = S [47] by decide +kernel]
    exact congrArg (·.1) q
  rcases PyProof.Rows.find_whole (S l) (Str.ofString "/") with ⟨e, hn2⟩ | ⟨i, e, hi, hm⟩
  · rcases PyProof.Rows.partition_head (S l) (Str.ofString "/") with ⟨e2, _⟩ | ⟨j, _, hj, _⟩
    · have e3 : l = a := S_inj (e2.symm.trans ep)
      have e4 := congrArg List.length hla
      rw [List.length_append, List.length_cons, ← e3] at e4
      omega
    · exact absurd hj (hn2 j)
  · rcases PyProof.Rows.partition_head (S l) (Str.ofString "/") with ⟨_, hn2⟩ | ⟨j, e2, hj, hm2⟩
    · exact absurd hi (hn2 i)
    · have eij : i = j := by
        rcases Nat.lt_trichotomy i j with z | z | z
        · exact absurd hi (hm2 i z)
        · exact z
        · exact absurd hj (hm j z)
      have e5 : l.take j = a := S_inj ((sub_take l j).symm.trans (e2.symm.trans ep))
      have e6 := congrArg List.length e5
      have e7 : j + (Str.ofString "/").length ≤ (S l).length := hj.1
      rw [show (Str.ofString "/").length = 1 by decide +kernel, S_len] at e7
      rw [List.length_take] at e6
      rw [e]
      congr 1
      omega
theorem find_none {l : List Nat} {a : List Nat} (h : slashAt l = (a, none)) : Txt.find (S l) (Str.ofString "/") = -1 := by
  obtain ⟨hn, _⟩ := slash_none h
  have ep : (Txt.partition (S l) (Str.ofString "/")).1 = S l := by
    rw [show Txt.partition (S l) (Str.ofString "/") = (S l, Str.empty, Str.empty) from TL.partition_none (s := 47) (S := []) (by decide +kernel) hn]
  rcases PyProof.Rows.find_whole (S l) (Str.ofString "/") with ⟨e, hn2⟩ | ⟨i, e, hi, hm⟩
  · exact e
  · rcases PyProof.Rows.partition_head (S l) (Str.ofString "/") with ⟨_, hn2⟩ | ⟨j, e2, hj, hm2⟩
    · exact absurd hi (hn2 i)
    · have e5 : l.take j = l := S_inj ((sub_take l j).symm.trans (e2.symm.trans ep))
      have e6 := congrArg List.length e5
      have e7 : j + (Str.ofString "/").length ≤ (S l).length := hj.1
      rw [show (Str.ofString "/").length = 1 by decide +kernel, S_len] at e7
      rw [List.length_take] at e6
      omega
theorem int_dec {l : List Nat} {n : Int} (h : fromDec l = some n) (hl : l.length ≤ 600) : PySem.intText? (S l) = some n := by
  unfold fromDec at h
  by_cases hc : l = [45, 48] ∨ numForm (if l.head? = some 45 then l.tail else l) = false
  · rw [if_pos hc] at h
    cases h
  · rw [if_neg hc] at h
    have hf : numForm (if l.head? = some 45 then l.tail else l) = true := by
      cases e : numForm (if l.head? = some 45 then l.tail else l) with
      | true => rfl
      | false => exact absurd (.inr e) hc
    have e := Option.some.inj h
    by_cases h45 : l.head? = some 45
    · rw [if_pos h45] at hf
      rw [if_pos h45, if_pos h45] at e
      have el : l = 45 :: l.tail := by
        cases l with
        | nil => cases h45
        | cons c r => rw [Option.some.inj h45]; rfl
      rw [← e]
      exact intText_neg (cs := l.tail) el (numForm_dig hf) (numForm_ne hf) (by rw [S_len]; omega)
    · rw [if_neg h45] at hf
      rw [if_neg h45, if_neg h45] at e
      rw [← e]
      exact intText_digits (x := S l) (numForm_dig hf) (numForm_ne hf) (by rw [S_len]; omega)
theorem dec_small {l : List Nat} {n : Int} (h : fromDec l = some n) (hl : l.length ≤ 600) : n.natAbs < 2 ^ 2401 := by
  have key : ∀ d : List Nat, numForm d = true → d.length ≤ 600 → digitsVal d < 2 ^ 2401 := fun d hd hl => by
    have h1 := val_lt d (numForm_dig hd)
    have h2 : 10 ^ d.length ≤ 10 ^ 600 := Nat.pow_le_pow_right (by decide) hl
    have h3 : 10 ^ 600 < 2 ^ (4 * 600 + 1) := ten_lt 600
    omega
  unfold fromDec at h
  by_cases hc : l = [45, 48] ∨ numForm (if l.head? = some 45 then l.tail else l) = false
  · rw [if_pos hc] at h
    cases h
  · rw [if_neg hc] at h
    have hf : numForm (if l.head? = some 45 then l.tail else l) = true := by
      cases e : numForm (if l.head? = some 45 then l.tail else l) with
      | true => rfl
      | false => exact absurd (.inr e) hc
    have e := Option.some.inj h
    have hlen : (if l.head? = some 45 then l.tail else l).length ≤ 600 := by
      split
      · rw [List.length_tail]; omega
      · exact hl
    have kk := key _ hf hlen
    generalize (if l.head? = some 45 then l.tail else l) = d at kk e
    rw [← e]
    split <;> omega
theorem big6 {n : Int} (h : n.natAbs < 2 ^ 2401) : n.natAbs < 2 ^ 1000000 := Nat.lt_of_lt_of_le h (Nat.pow_le_pow_right (by decide) (by decide))
section
variable {P : Program} {w : World} {K : PySem.W.Frag} {mg : Str → Option Value} {base : Heap} {A : At}
def spDue : Sp := fun vs H Q _ => ∃ l : List Nat, vs = [.str (S l)] ∧ l.length ≤ 500 ∧ (ratOf l = none → ∀ H', Same H H' → Q .non H') ∧ (∀ t b, ratOf l = some (t, b) → ∀ H' p, Same H H' → H p = none → H' p = some (.tup [.int t, .int b]) → Q (.ref p) H')
theorem ok_due (T : Txt K mg A) : FnOk P w K mg base CX0 3 A.a_law_due A.d_law_due ["text"] spDue := by
  have G_law_is_decimal : FnOk P w K mg base CX0 1 A.a_law_is_decimal A.d_law_is_decimal ["text"] spIsDec := ok_is_decimal T
  have G_law_gcd : FnOk P w K mg base CX0 1 A.a_law_gcd A.d_law_gcd ["a", "b"] spGcd := ok_gcd T
  refine T.t_law_due.F.ok sc_law_due (fun vs H Q E h => ?_) (fun cdv AA outer s H vs Q E hr h => ?_)
  · obtain ⟨l, rfl, _⟩ := h
    rfl
  · obtain ⟨l, rfl, hl, kN, kQ⟩ := h
    refine ⟨_, (pss_cons (ps_set (i := 1) sc_law_due.nd rfl (Or.inl rfl) (pe_m1 PySem.F.slot_str_find PySem.F.type_str_find mt_find (pv 0) pe_str))
      (pss_cons (ps_set (i := 2) sc_law_due.nd rfl (Or.inl rfl) (pv 0))
      (pss_cons (ps_set (i := 3) sc_law_due.nd rfl (Or.inl rfl) pe_str)
      (pss_cons (ps_if (pt_cmpR op_ge (pv 1) pe_int (nomark _)) (pss_cons (ps_set (i := 2) sc_law_due.nd rfl (Or.inl rfl) (pe_slice sl_str (pv 0) po_none (po_some (pv 1))))
      (pss_one (ps_set (i := 3) sc_law_due.nd rfl (Or.inl rfl) (pe_slice sl_str (pv 0) (po_some (pe_op op_add (pv 1) pe_int)) po_none)))) pss_nil)
      (pss_cons (ps_if (PW.pt (pw_or (pt_not (pt_val (pe_call G_law_is_decimal (hr.mono (by decide)) rfl T.t_law_is_decimal.g T.t_law_is_decimal.F.kp T.t_law_is_decimal.b .nil pass0 (pa_cons (pv 2) pa_nil)))) (pw_or1 (pt_not (pt_val (pe_call G_law_is_decimal (hr.mono (by decide)) rfl T.t_law_is_decimal.g T.t_law_is_decimal.F.kp T.t_law_is_decimal.b .nil pass0 (pa_cons (pv 3) pa_nil))))))) (pss_one (ps_ret pe_non)) pss_nil)
      (pss_cons (ps_set (i := 4) sc_law_due.nd rfl (Or.inl rfl) (pe_tup (pa_cons (pe_callTy call_int_str (by rfl) T.z_int PyProof.Rows.boot_int (pa_cons (pv 2) pa_nil)) (pa_cons (pe_callTy call_int_str (by rfl) T.z_int PyProof.Rows.boot_int (pa_cons (pv 3) pa_nil)) pa_nil))))
      (pss_cons (ps_if (PW.pt (pw_or (pt_cmpR op_lt (pe_ix ix_tup (pv 4) pe_int (fun _ _ => rfl)) pe_int (nomark _)) (pw_or (pt_cmpR op_ne (pe_call G_law_gcd (hr.mono (by decide)) rfl T.t_law_gcd.g T.t_law_gcd.F.kp T.t_law_gcd.b .nil pass0 (pa_cons (pe_ix ix_tup (pv 4) pe_int (fun _ _ => rfl)) (pa_cons (pe_ix ix_tup (pv 4) pe_int (fun _ _ => rfl)) pa_nil))) pe_int (nomark _)) (pw_or1 (PW.pt (pw_and (pt_cmpR op_ge (pv 1) pe_int (nomark _)) (pw_and1 (pt_cmpR op_eq (pe_ix ix_tup (pv 4) pe_int (fun _ _ => rfl)) pe_int (nomark _))))))))) (pss_one (ps_ret pe_non)) pss_nil)
      (pss_one (ps_ret (pv 4)))))))))), ?_⟩
    cases ec : slashAt l with
    | mk a o =>
      cases o with
      | none =>
        obtain ⟨hn, ea⟩ := slash_none ec
        refine ⟨_, rfl, ⟨_, rfl⟩, _, _, rfl, rfl, ?_⟩
        rw [find_none ec]
        refine ⟨_, rfl, ?_⟩
        refine ⟨_, rfl, _, _, rfl, rfl, _, rfl, ite2 (fun z => absurd z (by decide)) (fun _ => ?_)⟩
        refine ⟨_, rfl, l, rfl, by omega, _, rfl, ?_⟩
        cases ef : fromDec l with
        | none =>
          have en : ratOf l = none := by
            unfold ratOf
            rw [ec, ea]
            show (fromDec l).map _ = none
            rw [ef]
            rfl
          exact iteT (iteT (kN en _ (Same.refl H)))
        | some t =>
          have en : ratOf l = some (t, 1) := by
            unfold ratOf
            rw [ec, ea]
            show (fromDec l).map _ = _
            rw [ef]
            rfl
          refine iteF ?_
          have e1 : S [49] = Str.ofString "1" := by decide +kernel
          have ef1 : fromDec [49] = some 1 := by decide +kernel
          refine ⟨_, rfl, [49], rfl, by decide, _, rfl, ?_⟩
          rw [ef1]
          refine iteF ?_
          refine ⟨_, rfl, _, t, rfl, int_dec ef (by omega), (by rw [S_len]; omega), _, rfl, S [49], 1, rfl, int_dec ef1 (by decide), by decide +kernel, (by show 2 ≤ sizeLine; decide), fun q nq => ?_⟩
          have sq := same_upd (o := .tup [.int t, .int 1]) nq
          have hq : (upd H q (.tup [.int t, .int 1])) q = some (.tup [.int t, .int 1]) := upd_same
          have kk := kQ t 1 en _ q sq nq hq
          generalize upd H q (.tup [.int t, .int 1]) = H2 at sq hq kk ⊢
          refine ⟨_, rfl, q, _, 1, _, rfl, rfl, SqT.of hq, rfl, _, _, rfl, rfl, _, rfl, ite2 (fun c1 => absurd c1 (by decide)) (fun c1 => ?_)⟩
          refine ⟨_, rfl, q, _, 0, _, rfl, rfl, SqT.of hq, rfl, _, rfl, q, _, 1, _, rfl, rfl, SqT.of hq, rfl, t, 1, rfl, ⟨big6 (dec_small ef (by omega)), big6 (dec_small ef1 (by decide))⟩, rfl, _, rfl, ite2 (fun c2 => ?_) (fun c2 => ?_)⟩
          · have c2 : (!decide (V.int ((Int.gcd t 1 : Nat) : Int) = V.int 1)) = true := c2
            have g1 : Int.gcd t 1 = 1 := by
              show Nat.gcd t.natAbs 1 = 1
              exact Nat.gcd_one_right _
            rw [g1] at c2
            exact absurd c2 (by decide)
          · refine ⟨_, rfl, _, _, rfl, rfl, _, rfl, ?_⟩
            exact iteF ⟨_, rfl, kk⟩
      | some b =>
        obtain ⟨hla, hn⟩ := slash_some ec
        have hlen : a.length + 1 + b.length = l.length := by
          rw [hla, List.length_append, List.length_cons]
          omega
        refine ⟨_, rfl, ⟨_, rfl⟩, _, _, rfl, rfl, ?_⟩
        rw [find_some ec]
        refine ⟨_, rfl, ?_⟩
        refine ⟨_, rfl, _, _, rfl, rfl, _, rfl, ite2 (fun _ => ?_) (fun z => absurd (decide_eq_true (by omega)) z)⟩
        refine ⟨_, rfl, _, rfl, (a.length : Int), rfl, S l, rfl, small_S (by omega), ?_⟩
        have ta : l.take a.length = a := by rw [hla, List.take_left]
        have tb : l.drop (a.length + 1) = b := by
          rw [hla, ← List.drop_drop, List.drop_left]
          rfl
        have e1 : cutS (S l) none (some (a.length : Int)) = S a := by rw [S_take, ta]
        have e2 : cutS (S l) (some ((a.length : Int) + 1)) none = S b := by
          rw [show ((a.length : Int) + 1) = ((a.length + 1 : Nat) : Int) by omega, S_drop, tb]
        rw [e1]
        refine ⟨_, rfl, _, rfl, _, _, rfl, rfl, ((a.length : Int) + 1), rfl, S l, rfl, small_S (by omega), ?_⟩
        rw [e2]
        refine ⟨_, rfl, a, rfl, by omega, _, rfl, ?_⟩
        cases ef : fromDec a with
        | none =>
          have en : ratOf l = none := by
            unfold ratOf
            rw [ec]
            show (fromDec a).bind _ = none
            rw [ef]
            rfl
          exact iteT (iteT (kN en _ (Same.refl H)))
        | some t =>
          refine iteF ?_
          refine ⟨_, rfl, b, rfl, by omega, _, rfl, ?_⟩
          cases eb : fromDec b with
          | none =>
            have en : ratOf l = none := by
              unfold ratOf
              rw [ec]
              show (fromDec a).bind _ = none
              rw [ef]
              show (fromDec b).bind _ = none
              rw [eb]
              rfl
            exact iteT (kN en _ (Same.refl H))
          | some d =>
            have eq : ratOf l = if d < 2 ∨ 1 < Nat.gcd t.natAbs d.natAbs then none else some (t, d) := by
              unfold ratOf
              rw [ec]
              show (fromDec a).bind _ = _
              rw [ef]
              show (fromDec b).bind _ = _
              rw [eb]
              rfl
            refine iteF ?_
            refine ⟨_, rfl, _, t, rfl, int_dec ef (by omega), (by rw [S_len]; omega), _, rfl, _, d, rfl, int_dec eb (by omega), (by rw [S_len]; omega), (by show 2 ≤ sizeLine; decide), fun q nq => ?_⟩
            have sq := same_upd (o := .tup [.int t, .int d]) nq
            have hq : (upd H q (.tup [.int t, .int d])) q = some (.tup [.int t, .int d]) := upd_same
            have kk := fun e => kQ t d e _ q sq nq hq
            have kz := fun e => kN e _ sq
            generalize upd H q (.tup [.int t, .int d]) = H2 at sq hq kk kz ⊢
            refine ⟨_, rfl, q, _, 1, _, rfl, rfl, SqT.of hq, rfl, _, _, rfl, rfl, _, rfl, ite2 (fun c1 => ?_) (fun c1 => ?_)⟩
            · have c1 : d < 1 := of_decide_eq_true c1
              rw [if_pos (.inl (by omega))] at eq
              exact iteT (kz eq)
            · have c1 : ¬ d < 1 := fun z => c1 (decide_eq_true z)
              refine ⟨_, rfl, q, _, 0, _, rfl, rfl, SqT.of hq, rfl, _, rfl, q, _, 1, _, rfl, rfl, SqT.of hq, rfl, t, d, rfl, ⟨big6 (dec_small ef (by omega)), big6 (dec_small eb (by omega))⟩, rfl, _, rfl, ite2 (fun c2 => ?_) (fun c2 => ?_)⟩
              · have c2 : (!decide (V.int ((Int.gcd t d : Nat) : Int) = V.int 1)) = true := c2
                have g0 : 0 < Nat.gcd t.natAbs d.natAbs := Nat.gcd_pos_of_pos_right _ (by omega)
                have g1 : Nat.gcd t.natAbs d.natAbs ≠ 1 := fun z => by
                  rw [show Int.gcd t d = 1 from z] at c2
                  exact absurd c2 (by decide)
                rw [if_pos (.inr (by omega))] at eq
                exact iteT (kz eq)
              · have c2 : ¬ (!decide (V.int ((Int.gcd t d : Nat) : Int) = V.int 1)) = true := c2
                have g1 : Nat.gcd t.natAbs d.natAbs = 1 := by
                  have z : decide (V.int ((Int.gcd t d : Nat) : Int) = V.int 1) = true := by
                    cases h : decide (V.int ((Int.gcd t d : Nat) : Int) = V.int 1) with
                    | true => rfl
                    | false => rw [h] at c2; exact absurd rfl c2
                  have z2 : ((Int.gcd t d : Nat) : Int) = 1 := V.int.inj (of_decide_eq_true z)
                  have z3 : Int.gcd t d = 1 := by omega
                  exact z3
                refine ⟨_, rfl, _, _, rfl, rfl, _, rfl, ite2 (fun _ => ?_) (fun z => absurd (decide_eq_true (by omega)) z)⟩
                refine ⟨_, rfl, q, _, 1, _, rfl, rfl, SqT.of hq, rfl, rfl, _, rfl, ite2 (fun c3 => ?_) (fun c3 => ?_)⟩
                · have c3 : d = 1 := V.int.inj (of_decide_eq_true c3)
                  rw [if_pos (.inl (by omega))] at eq
                  exact kz eq
                · have c3 : ¬ d = 1 := fun z => c3 (decide_eq_true (by rw [z]))
                  rw [if_neg (by omega)] at eq
                  exact ⟨_, rfl, kk eq⟩
end
open SX (S S_len S_cat S_inj)
section
variable {P : Program} {w : World} {K : PySem.W.Frag} {mg : Str → Option Value} {base : Heap} {A : At}
theorem slash_S : Str.ofString "/" = S [47] := by decide +kernel
theorem dec_toS (i : Int) : Str.ofString (toString i) = S (decL i) := by
  cases i with
  | ofNat n =>
    have e : decL (Int.ofNat n) = TL.numL n := if_neg (Int.not_lt.mpr (Int.natCast_nonneg n))
    rw [e]
    exact num_S n
  | negSucc n =>
    have e : decL (Int.negSucc n) = 45 :: TL.numL (n + 1) := if_pos (Int.negSucc_lt_zero n)
    rw [e]
    refine TL.ext_tl ?_
    have h := TL.tl_num (n + 1)
    rw [TL.tl_ofString] at h
    rw [TL.tl_ofString]
    show ("-" ++ toString (((n + 1 : Nat)) : Int)).toList.map Char.toNat = 45 :: TL.numL (n + 1)
    rw [String.toList_append, List.map_append, h]
    rfl
theorem txt_int {i : Int} (h : i.natAbs < 10 ^ 42) : i.natAbs.log2 < 1920 ∧ ∃ y : List Nat, Str.ofString (toString i) = S y ∧ y.length ≤ 43 := by
  refine ⟨?_, decL i, dec_toS i, decL_len (w := 41) h⟩
  exact Nat.lt_trans (log_lt (Nat.lt_trans h (ten_lt 42)) (by decide)) (by decide)
theorem at7 {v : Int} (h0 : 0 ≤ v) (h1 : v < 7) : ∃ c, atI (Str.ofString "-0/ +a1").cps.toList v = some c := by
  obtain ⟨j, rfl⟩ := Int.eq_ofNat_of_zero_le h0
  have hj : j < (Str.ofString "-0/ +a1").cps.toList.length := by
    rw [show (Str.ofString "-0/ +a1").cps.toList.length = 7 by decide +kernel]
    omega
  exact ⟨_, atI_nat (List.getElem?_eq_getElem hj)⟩
def spChg : Sp := fun vs H Q _ => ∃ (p l : Addr) (x : List Nat) (r : Addr) (t b : Int), vs = [.ref p, .str (S x), .ref r] ∧ PoolAt H p l ∧ x.length ≤ 100 ∧ H r = some (.tup [.int t, .int b]) ∧ (t.natAbs < 10 ^ 41 ∧ b.natAbs < 10 ^ 41) ∧ ∀ (y : List Nat) H', y.length ≤ 300 → PoolAt H' p l → But p H H' → Q (.str (S y)) H'
theorem ok_changed (T : Txt K mg A) : FnOk P w K mg base CX0 3 A.a_law_changed A.d_law_changed ["pool", "text", "r"] spChg := by
  have G_law_draw : FnOk P w K mg base CX0 2 A.a_law_draw A.d_law_draw ["pool", "many"] spDraw := ok_draw T
  refine T.t_law_changed.F.ok sc_law_changed (fun vs H Q E h => ?_) (fun cdv AA outer s H vs Q E hr h => ?_)
  · obtain ⟨p, l, x, r, t, b, rfl, _⟩ := h
    rfl
  · obtain ⟨p, l, x, r, t, b, rfl, hP, hx, hR, ⟨ht, hb⟩, k⟩ := h
    refine ⟨_, (pss_cons (ps_set (i := 3) sc_law_changed.nd rfl (Or.inl rfl) (pe_call G_law_draw (hr.mono (by decide)) rfl T.t_law_draw.g T.t_law_draw.F.kp T.t_law_draw.b .nil pass0 (pa_cons (pv 0) (pa_cons (pe_op op_add (pe_callB call_len_str (by rfl) T.z_len PySem.boot_len (pa_cons (pv 1) pa_nil)) pe_int) pa_nil))))
      (pss_cons (ps_set (i := 4) sc_law_changed.nd rfl (Or.inl rfl) (pe_call G_law_draw (hr.mono (by decide)) rfl T.t_law_draw.g T.t_law_draw.F.kp T.t_law_draw.b .nil pass0 (pa_cons (pv 0) (pa_cons pe_int pa_nil))))
      (pss_cons (ps_if (pt_cmpR op_eq (pv 4) pe_int (nomark _)) (pss_one (ps_ret (pe_op op_add_str (pe_op op_add_str (pe_callTy call_str_int (by rfl) T.z_str PyProof.Rows.boot_str (pa_cons (pe_op op_mul (pe_ix ix_tup (pv 2) pe_int (fun _ _ => rfl)) pe_int) pa_nil)) pe_str) (pe_callTy call_str_int (by rfl) T.z_str PyProof.Rows.boot_str (pa_cons (pe_op op_mul (pe_ix ix_tup (pv 2) pe_int (fun _ _ => rfl)) pe_int) pa_nil))))) pss_nil)
      (pss_cons (ps_if (pt_cmpR op_eq (pv 4) pe_int (nomark _)) (pss_one (ps_ret (pe_op op_add_str (pe_op op_add_str (pe_slice sl_str (pv 1) po_none (po_some (pv 3))) (pe_ix ix_str pe_str (pe_call G_law_draw (hr.mono (by decide)) rfl T.t_law_draw.g T.t_law_draw.F.kp T.t_law_draw.b .nil pass0 (pa_cons (pv 0) (pa_cons pe_int pa_nil))) (fun _ _ => rfl))) (pe_slice sl_str (pv 1) (po_some (pv 3)) po_none)))) pss_nil)
      (pss_cons (ps_if (pt_cmpR op_eq (pv 4) pe_int (nomark _)) (pss_one (ps_ret (pe_op op_add_str (pe_slice sl_str (pv 1) po_none (po_some (pv 3))) (pe_slice sl_str (pv 1) (po_some (pe_op op_add (pv 3) pe_int)) po_none)))) pss_nil)
      (pss_cons (ps_if (pt_cmpR op_eq (pv 4) pe_int (nomark _)) (pss_one (ps_ret (pe_op op_add_str (pe_op op_add_str (pe_callTy call_str_int (by rfl) T.z_str PyProof.Rows.boot_str (pa_cons (pe_ix ix_tup (pv 2) pe_int (fun _ _ => rfl)) pa_nil)) pe_str) (pe_callTy call_str_int (by rfl) T.z_str PyProof.Rows.boot_str (pa_cons (pe_ix ix_tup (pv 2) pe_int (fun _ _ => rfl)) pa_nil))))) pss_nil)
      (pss_cons (ps_if (pt_cmpR op_eq (pv 4) pe_int (nomark _)) (pss_one (ps_ret (pe_op op_add_str (pe_op op_add_str (pe_callTy call_str_int (by rfl) T.z_str PyProof.Rows.boot_str (pa_cons (pe_un un_neg (pe_ix ix_tup (pv 2) pe_int (fun _ _ => rfl))) pa_nil)) pe_str) (pe_callTy call_str_int (by rfl) T.z_str PyProof.Rows.boot_str (pa_cons (pe_un un_neg (pe_ix ix_tup (pv 2) pe_int (fun _ _ => rfl))) pa_nil))))) pss_nil)
      (pss_cons (ps_if (pt_cmpR op_eq (pv 4) pe_int (nomark _)) (pss_one (ps_ret (pe_op op_add_str (pv 1) pe_str))) pss_nil)
      (pss_cons (ps_if (pt_cmpR op_eq (pv 4) pe_int (nomark _)) (pss_one (ps_ret (pe_op op_add_str (pe_op op_add_str (pv 1) pe_str) (pe_callTy call_str_int (by rfl) T.z_str PyProof.Rows.boot_str (pa_cons (pe_op op_add pe_int (pe_call G_law_draw (hr.mono (by decide)) rfl T.t_law_draw.g T.t_law_draw.F.kp T.t_law_draw.b .nil pass0 (pa_cons (pv 0) (pa_cons pe_int pa_nil)))) pa_nil))))) pss_nil)
      (pss_one (ps_ret (pv 1)))))))))))), ?_⟩
    have lb : ((x.length : Int) + 1).natAbs < 2 ^ 8000 := Nat.lt_of_lt_of_le (by omega : ((x.length : Int) + 1).natAbs < 2 ^ 10) (Nat.pow_le_pow_right (by decide) (by decide))
    refine ⟨_, rfl, _, rfl, S x, rfl, small_S (by omega), _, _, rfl, rfl, p, l, _, rfl, hP, ⟨by rw [S_len]; omega, by rw [S_len]; exact lb⟩, fun at' H1 a0 a1 P1 B1 => ?_⟩
    rw [S_len] at a1
    obtain ⟨n, rfl⟩ := Int.eq_ofNat_of_zero_le a0
    have hR1 := B1 _ _ hR (hP.ne hR)
    refine ⟨_, rfl, p, l, 9, rfl, P1, ⟨by decide, by decide⟩, fun turn H2 _ _ P2 B2 => ?_⟩
    have hR2 := B2 _ _ hR1 (P1.ne hR1)
    have B12 := B1.trans B2
    have ps := slash_S
    refine ⟨_, rfl, rfl, _, rfl, ite2 (fun _ => ?_) (fun _ => ?_)⟩
    · obtain ⟨g1, y1, e1, l1⟩ := txt_int (i := t * 2) (by omega)
      obtain ⟨g2, y2, e2, l2⟩ := txt_int (i := b * 2) (by omega)
      refine ⟨_, rfl, r, _, 0, _, rfl, rfl, SqT.of hR2, rfl, _, _, rfl, rfl, .inr ⟨by decide, by decide⟩, t * 2, rfl, g1, _, _, rfl, rfl, (by rw [e1, ps, S_len, S_len, sizeLine_eq]; show _ + 1 ≤ _; omega), _, rfl, r, _, 1, _, rfl, rfl, SqT.of hR2, rfl, _, _, rfl, rfl, .inr ⟨by decide, by decide⟩, b * 2, rfl, g2, _, _, rfl, rfl, (by rw [e1, ps, e2, S_cat, S_len, S_len, List.length_append, sizeLine_eq]; show _ + 1 + _ ≤ _; omega), ?_⟩
      rw [e1, ps, e2, S_cat, S_cat]
      exact k _ _ (by rw [List.length_append, List.length_append]; show _ + 1 + _ ≤ _; omega) P2 B12
    refine ⟨_, rfl, rfl, _, rfl, ite2 (fun _ => ?_) (fun _ => ?_)⟩
    · refine ⟨_, rfl, _, rfl, (n : Int), rfl, S x, rfl, small_S (by omega), ?_⟩
      refine ⟨_, rfl, p, l, 7, rfl, P2, ⟨by decide, by decide⟩, fun v H3 v0 v1 P3 B3 => ?_⟩
      obtain ⟨c, hc⟩ := at7 v0 v1
      refine ⟨_, v, c, rfl, rfl, by decide +kernel, hc, ?_⟩
      rw [S_take]
      refine ⟨_, _, rfl, rfl, ?_, _, rfl, _, rfl, (n : Int), rfl, S x, rfl, small_S (by omega), ?_⟩
      · show (S (x.take n)).length + (S [c]).length ≤ sizeLine
        rw [S_len, S_len, List.length_take, sizeLine_eq]
        show _ + 1 ≤ _
        omega
      rw [S_drop]
      refine ⟨_, _, rfl, rfl, ?_, ?_⟩
      · show (S (x.take n) ++ S [c]).length + (S (x.drop n)).length ≤ sizeLine
        rw [S_cat, S_len, S_len, List.length_append, List.length_take, List.length_drop, sizeLine_eq]
        show _ + 1 + _ ≤ _
        omega
      · show Q (.str (S (x.take n) ++ S [c] ++ S (x.drop n))) H3
        rw [S_cat, S_cat]
        exact k _ _ (by rw [List.length_append, List.length_append, List.length_take, List.length_drop]; show _ + 1 + _ ≤ _; omega) P3 (B12.trans B3)
    refine ⟨_, rfl, rfl, _, rfl, ite2 (fun _ => ?_) (fun _ => ?_)⟩
    · refine ⟨_, rfl, _, rfl, (n : Int), rfl, S x, rfl, small_S (by omega), _, rfl, _, rfl, _, _, rfl, rfl, ((n : Int) + 1), rfl, S x, rfl, small_S (by omega), ?_⟩
      rw [S_take, show ((n : Int) + 1) = ((n + 1 : Nat) : Int) by omega, S_drop]
      refine ⟨_, _, rfl, rfl, ?_, ?_⟩
      · rw [S_len, S_len, List.length_take, List.length_drop, sizeLine_eq]
        omega
      · rw [S_cat]
        exact k _ _ (by rw [List.length_append, List.length_take, List.length_drop]; omega) P2 B12
    refine ⟨_, rfl, rfl, _, rfl, ite2 (fun _ => ?_) (fun _ => ?_)⟩
    · obtain ⟨g1, y1, e1, l1⟩ := txt_int (i := t) (by omega)
      obtain ⟨g2, y2, e2, l2⟩ := txt_int (i := b) (by omega)
      refine ⟨_, rfl, r, _, 0, _, rfl, rfl, SqT.of hR2, rfl,  t, rfl, g1, _, _, rfl, rfl, (by rw [e1, ps, S_len, S_len, sizeLine_eq]; show _ + 1 ≤ _; omega), _, rfl, r, _, 1, _, rfl, rfl, SqT.of hR2, rfl,  b, rfl, g2, _, _, rfl, rfl, (by rw [e1, ps, e2, S_cat, S_len, S_len, List.length_append, sizeLine_eq]; show _ + 1 + _ ≤ _; omega), ?_⟩
      rw [e1, ps, e2, S_cat, S_cat]
      exact k _ _ (by rw [List.length_append, List.length_append]; show _ + 1 + _ ≤ _; omega) P2 B12
    refine ⟨_, rfl, rfl, _, rfl, ite2 (fun _ => ?_) (fun _ => ?_)⟩
    · obtain ⟨g1, y1, e1, l1⟩ := txt_int (i := -t) (by omega)
      obtain ⟨g2, y2, e2, l2⟩ := txt_int (i := -b) (by omega)
      refine ⟨_, rfl, r, _, 0, _, rfl, rfl, SqT.of hR2, rfl, _, rfl, -t, rfl, g1, _, _, rfl, rfl, (by rw [e1, ps, S_len, S_len, sizeLine_eq]; show _ + 1 ≤ _; omega), _, rfl, r, _, 1, _, rfl, rfl, SqT.of hR2, rfl, _, rfl, -b, rfl, g2, _, _, rfl, rfl, (by rw [e1, ps, e2, S_cat, S_len, S_len, List.length_append, sizeLine_eq]; show _ + 1 + _ ≤ _; omega), ?_⟩
      rw [e1, ps, e2, S_cat, S_cat]
      exact k _ _ (by rw [List.length_append, List.length_append]; show _ + 1 + _ ≤ _; omega) P2 B12
    refine ⟨_, rfl, rfl, _, rfl, ite2 (fun _ => ?_) (fun _ => ?_)⟩
    · refine ⟨_, rfl, _, _, rfl, rfl, ?_, ?_⟩
      · rw [ps, S_len, S_len, sizeLine_eq]
        show _ + 1 ≤ _
        omega
      · rw [ps, S_cat]
        exact k _ _ (by rw [List.length_append]; show _ + 1 ≤ _; omega) P2 B12
    refine ⟨_, rfl, rfl, _, rfl, ite2 (fun _ => ?_) (fun _ => ?_)⟩
    · refine ⟨_, rfl, _, _, rfl, rfl, ?_, ?_⟩
      · rw [ps, S_len, S_len, sizeLine_eq]
        show _ + 1 ≤ _
        omega
      refine ⟨_, rfl, p, l, 3, rfl, P2, ⟨by decide, by decide⟩, fun v H3 v0 v1 P3 B3 => ?_⟩
      obtain ⟨g1, y1, e1, l1⟩ := txt_int (i := 1 + v) (by have : (4 : Nat) < 10 ^ 42 := by decide +kernel
                                                          omega)
      refine ⟨_, _, rfl, rfl, 1 + v, rfl, g1, _, _, rfl, rfl, ?_, ?_⟩
      · rw [ps, e1, S_cat, S_len, S_len, List.length_append, sizeLine_eq]
        show _ + 1 + _ ≤ _
        omega
      · rw [ps, e1, S_cat, S_cat]
        exact k _ _ (by rw [List.length_append, List.length_append]; show _ + 1 + _ ≤ _; omega) P3 (B12.trans B3)
    exact ⟨_, rfl, k _ _ (by omega) P2 B12⟩
end
open SX (S S_len S_cat S_inj)
section
variable {P : Program} {w : World} {K : PySem.W.Frag} {mg : Str → Option Value} {base : Heap} {A : At}
def ratL (t b : Int) : List Nat := if b = 1 then decL t else decL t ++ 47 :: decL b
theorem slash_of {a b : List Nat} (h : 47 ∉ a) : slashAt (a ++ 47 :: b) = (a, some b) ∧ slashAt a = (a, none) := by
  induction a with
  | nil => exact ⟨rfl, rfl⟩
  | cons c r ih =>
    have hc : ¬ c = 47 := fun e => h (by rw [e]; exact List.mem_cons_self)
    obtain ⟨i1, i2⟩ := ih (fun z => h (List.mem_cons_of_mem _ z))
    constructor
    · show slashAt (c :: (r ++ 47 :: b)) = _
      rw [slashAt, if_neg hc, i1]
    · rw [slashAt, if_neg hc, i2]
theorem dec_noslash (i : Int) : 47 ∉ decL i := fun h => by
  have hd : ∀ n, 47 ∉ TL.numL n := fun n hm => by
    have := TL.numL_digits n 47 hm
    omega
  unfold decL at h
  split at h
  · rcases List.mem_cons.mp h with z | z
    · exact absurd z (by decide)
    · exact hd _ z
  · exact hd _ h
theorem rat_ratL {t b : Int} (hb : 1 ≤ b) (hg : Int.gcd t b = 1) : ratOf (ratL t b) = some (t, b) := by
  unfold ratL
  by_cases e : b = 1
  · rw [if_pos e]
    unfold ratOf
    rw [(slash_of (b := []) (dec_noslash t)).2]
    show (fromDec (decL t)).map _ = _
    rw [fromDec_decL, e]
    rfl
  · rw [if_neg e]
    unfold ratOf
    rw [(slash_of (dec_noslash t)).1]
    show (fromDec (decL t)).bind _ = _
    rw [fromDec_decL]
    show (fromDec (decL b)).bind _ = _
    rw [fromDec_decL]
    show (if b < 2 ∨ 1 < Nat.gcd t.natAbs b.natAbs then none else some (t, b)) = _
    have hg2 : Nat.gcd t.natAbs b.natAbs = 1 := hg
    rw [if_neg (by omega)]
def spLaw (K : PySem.W.Frag) : Sp := fun vs H Q _ => ∃ (a : Addr) (ns : List Int), vs = [.ref a] ∧ SqL K H a (ns.map V.int) ∧ ns.length ≤ 63 ∧ ∀ H', Q (.bl true) H'
theorem ok_law (T : Txt K mg A) : FnOk P w K mg base CX0 16 A.a_law A.d_law ["script"] (spLaw K) := by
  have G_law_pool : FnOk P w K mg base CX0 1 A.a_law_pool A.d_law_pool ["script"] (spPool K) := ok_pool T
  have G_law_draw : FnOk P w K mg base CX0 2 A.a_law_draw A.d_law_draw ["pool", "many"] spDraw := ok_draw T
  have G_law_number : FnOk P w K mg base CX0 3 A.a_law_number A.d_law_number ["pool", "most"] spNumber := ok_number T
  have G_law_frac : FnOk P w K mg base CX0 2 A.a_law_frac A.d_law_frac ["top", "bottom"] spFrac := ok_frac T
  have G_law_changed : FnOk P w K mg base CX0 3 A.a_law_changed A.d_law_changed ["pool", "text", "r"] spChg := ok_changed T
  have G_law_due : FnOk P w K mg base CX0 3 A.a_law_due A.d_law_due ["text"] spDue := ok_due T
  have G_write_ratio : FnOk P w K mg base CX0 10 A.a_write_ratio A.d_write_ratio ["r"] spWriteRatio := ok_write_ratio T
  have G_read_ratio : FnOk P w K mg base (L2.CX P w) 14 A.a_read_ratio A.d_read_ratio ["text"] (spReadRatio A.C_InvalidRatio) := ok_read_ratio T
  have G_law_same : FnOk P w K mg base CX0 2 A.a_law_same A.d_law_same ["actual", "due"] (spSame K 1) := ok_same T 1
  refine T.t_law.F.ok sc_law (fun vs H Q E h => ?_) (fun cdv AA outer s H vs Q E hr h => ?_)
  · obtain ⟨a, ns, rfl, _⟩ := h
    rfl
  · obtain ⟨a, ns, rfl, hS, _, k⟩ := h
    refine ⟨_, (pss_cons (ps_set (i := 1) sc_law.nd rfl (Or.inl rfl) (pe_call G_law_pool (hr.mono (by decide)) rfl T.t_law_pool.g T.t_law_pool.F.kp T.t_law_pool.b .nil pass0 (pa_cons (pv 0) pa_nil)))
      (pss_cons (ps_set (i := 2) sc_law.nd rfl (Or.inl rfl) (pe_call G_law_frac (hr.mono (by decide)) rfl T.t_law_frac.g T.t_law_frac.F.kp T.t_law_frac.b .nil pass0 (pa_cons (pe_call G_law_number (hr.mono (by decide)) rfl T.t_law_number.g T.t_law_number.F.kp T.t_law_number.b .nil pass0 (pa_cons (pv 1) (pa_cons (pe_op op_pow pe_int pe_int) pa_nil))) (pa_cons (pe_op op_add pe_int (pe_callB call_abs (by rfl) T.z_abs (by decide +kernel) (pa_cons (pe_call G_law_number (hr.mono (by decide)) rfl T.t_law_number.g T.t_law_number.F.kp T.t_law_number.b .nil pass0 (pa_cons (pv 1) (pa_cons (pe_ix ix_tup (pe_tup (pa_cons pe_int (pa_cons (pe_op op_pow pe_int pe_int) pa_nil))) (pe_call G_law_draw (hr.mono (by decide)) rfl T.t_law_draw.g T.t_law_draw.F.kp T.t_law_draw.b .nil pass0 (pa_cons (pv 1) (pa_cons pe_int pa_nil))) (fun _ _ => rfl)) pa_nil))) pa_nil))) pa_nil))))
      (pss_cons (ps_set (i := 3) sc_law.nd rfl (Or.inl rfl) (pe_callTy call_str_int (by rfl) T.z_str PyProof.Rows.boot_str (pa_cons (pe_ix ix_tup (pv 2) pe_int (fun _ _ => rfl)) pa_nil)))
      (pss_cons (ps_if (pt_cmpR op_gt (pe_ix ix_tup (pv 2) pe_int (fun _ _ => rfl)) pe_int (nomark _)) (pss_one (ps_set (i := 3) sc_law.nd rfl (Or.inl rfl) (pe_op op_add_str (pe_op op_add_str (pv 3) pe_str) (pe_callTy call_str_int (by rfl) T.z_str PyProof.Rows.boot_str (pa_cons (pe_ix ix_tup (pv 2) pe_int (fun _ _ => rfl)) pa_nil))))) pss_nil)
      (pss_cons (ps_if (PW.pt (pw_or (pt_not (pt_val (pe_call G_law_same (hr.mono (by decide)) rfl T.t_law_same.g T.t_law_same.F.kp T.t_law_same.b .nil pass0 (pa_cons (pe_call G_write_ratio (hr.mono (by decide)) rfl T.t_write_ratio.g T.t_write_ratio.F.kp T.t_write_ratio.b .nil pass0 (pa_cons (pv 2) pa_nil)) (pa_cons (pv 3) pa_nil))))) (pw_or1 (pt_not (pt_val (pe_call G_law_same (hr.mono (by decide)) rfl T.t_law_same.g T.t_law_same.F.kp T.t_law_same.b .nil pass0 (pa_cons (pe_call G_read_ratio (hr.mono (by decide)) rfl T.t_read_ratio.g T.t_read_ratio.F.kp T.t_read_ratio.b .nil passL (pa_cons (pv 3) pa_nil)) (pa_cons (pv 2) pa_nil)))))))) (pss_one (ps_ret pe_bl)) pss_nil)
      (pss_cons (ps_set (i := 4) sc_law.nd rfl (Or.inl rfl) (pe_call G_law_changed (hr.mono (by decide)) rfl T.t_law_changed.g T.t_law_changed.F.kp T.t_law_changed.b .nil pass0 (pa_cons (pv 1) (pa_cons (pv 3) (pa_cons (pv 2) pa_nil)))))
      (pss_cons (ps_set (i := 5) sc_law.nd rfl (Or.inl rfl) (pe_call G_law_due (hr.mono (by decide)) rfl T.t_law_due.g T.t_law_due.F.kp T.t_law_due.b .nil pass0 (pa_cons (pv 4) pa_nil)))
      (pss_cons (ps_try_as (i := 7) (Wout := fun _ _ _ _ => False) rfl rfl sc_law.nd rfl rfl ⟨rfl, by decide, Or.inl T.e_InvalidRatio.g⟩ takes0
        (fun W pn xe tk _ => by exact (pss_one (ps_set (i := 6) sc_law.nd rfl (Or.inl rfl) (pe_callS G_read_ratio (hr.mono (by decide)) rfl T.t_read_ratio.g T.t_read_ratio.F.kp T.t_read_ratio.b (fun σ => passAt tk σ) (by exact (pa_cons (pv 4) pa_nil))))))
        (fun a oe cls d pn hz hf => by exact (pss_one (ps_ret (pe_and (pe_cmp (pc_isN (pv 5))) (pe_and (pe_callB (call_isE2 T.e_InvalidRatio.e hz hf) (by rfl) T.z_isinstance PyProof.Rows.boot_isinstance (pa_cons (pv 7) (pa_cons (pe_glob (v := .ref A.C_OddsError) rfl T.e_OddsError.g rfl) pa_nil))) (pe_one (pe_not (pe_callB (call_isE2 T.e_InvalidRatio.e hz hf) (by rfl) T.z_isinstance PyProof.Rows.boot_isinstance (pa_cons (pv 7) (pa_cons (pe_glob (v := .ref A.C_InvalidNumeral) rfl T.e_InvalidNumeral.g rfl) pa_nil)))))))))))
      (pss_one (ps_ret (pe_and (pe_cmp (pc_notN (pv 5))) (pe_one (pe_call G_law_same (hr.mono (by decide)) rfl T.t_law_same.g T.t_law_same.F.kp T.t_law_same.b .nil pass0 (pa_cons (pv 6) (pa_cons (pv 5) pa_nil))))))))))))))), ?_⟩
    refine ⟨_, rfl, a, ns, rfl, hS, fun p l H1 P1 _ _ _ => ?_⟩
    refine ⟨_, rfl, _, _, rfl, rfl, ⟨by decide, by decide, by decide⟩, p, l, _, rfl, P1, by decide +kernel, fun v1 H2 hv1 P2 B2 => ?_⟩
    refine ⟨_, rfl, _, _, rfl, rfl, ⟨by decide, by decide, by decide⟩, (by show 2 ≤ sizeLine; decide), fun c nc => ?_⟩
    have s1 := fun o => same_upd (o := o) nc
    refine ⟨_, rfl, p, l, 2, rfl, P2.same (s1 _), ⟨by decide, by decide⟩, fun u H3 u0 u1 P3 B3 => ?_⟩
    obtain ⟨mm, hmem, em⟩ := pick_at (ms := [3, 10 ^ (40 : Int).toNat]) u0 u1
    have hall : ∀ x ∈ [(3 : Int), 10 ^ (40 : Int).toNat], 0 < x ∧ x ≤ 10 ^ (40 : Int).toNat := by decide +kernel
    obtain ⟨hm0, hm3⟩ := hall mm hmem
    have hc : H3 c = some _ := B3 c _ upd_same (P2.free nc)
    refine ⟨c, _, u, _, rfl, rfl, SqT.of hc, em, p, l, mm, rfl, P3, hm0, fun v2 H4 hv2 P4 B4 => ?_⟩
    have hN : ((10 : Int) ^ (40 : Int).toNat).natAbs = 10 ^ 40 := by decide +kernel
    have hN2 : ((10 : Int) ^ (40 : Int).toNat) = 10 ^ 40 := by decide +kernel
    have hT : (10 : Nat) ^ 40 < 2 ^ 161 := ten_lt 40
    have hT2 : (2 : Nat) ^ 162 < 2 ^ 8000 := Nat.pow_lt_pow_right (by decide) (by decide)
    have hT3 : (2 : Nat) ^ 161 + 2 ^ 161 = 2 ^ 162 := by decide +kernel
    rw [hN] at hv1
    have hmN : mm.natAbs ≤ 10 ^ 40 := by
      rw [hN2] at hm3
      omega
    have hv2' : v2.natAbs < 10 ^ 40 := by omega
    have eabs : (if v2 < 0 then -v2 else v2) = (v2.natAbs : Int) := by
      split <;> omega
    refine ⟨v2, rfl, _, _, rfl, rfl, v1, _, rfl, ⟨by omega, ?_⟩, ?_, fun r nr => ?_⟩
    · rw [eabs]
      omega
    · rw [eabs]
      omega
    rw [eabs]
    have hb0 : (1 + (v2.natAbs : Int)) ≠ 0 := by omega
    have bt : (rtop v1 (1 + (v2.natAbs : Int))).natAbs < 10 ^ 41 := Nat.lt_of_le_of_lt (rtop_le hb0) (by omega)
    have bb : (rbot v1 (1 + (v2.natAbs : Int))).natAbs < 10 ^ 41 := Nat.lt_of_le_of_lt (rbot_le hb0) (by omega)
    have hb1 : 1 ≤ rbot v1 (1 + (v2.natAbs : Int)) := rbot_pos hb0
    have hg : Int.gcd (rtop v1 (1 + (v2.natAbs : Int))) (rbot v1 (1 + (v2.natAbs : Int))) = 1 := r_gcd hb0
    generalize rtop v1 (1 + (v2.natAbs : Int)) = t at bt hg ⊢
    generalize rbot v1 (1 + (v2.natAbs : Int)) = b at bb hb1 hg ⊢
    have sr := same_upd (o := .tup [.int t, .int b]) nr
    have hr5 : (upd H4 r (.tup [.int t, .int b])) r = some (.tup [.int t, .int b]) := upd_same
    have P5 := P4.same sr
    generalize upd H4 r (.tup [.int t, .int b]) = H5 at sr hr5 P5 ⊢
    obtain ⟨g1, _⟩ := txt_int (i := t) (by omega)
    obtain ⟨g2, _⟩ := txt_int (i := b) (by omega)
    have lt := decL_len (w := 40) bt
    have lb := decL_len (w := 40) bb
    have hw : (ratL t b).length ≤ 100 := by
      unfold ratL
      split
      · omega
      · rw [List.length_append, List.length_cons]
        omega
    refine ⟨_, rfl, r, _, 0, _, rfl, rfl, SqT.of hr5, rfl, t, rfl, g1, ?_⟩
    rw [dec_toS]
    dsimp only [gName]
    refine seq_then (fun σ' H' => H' = H5 ∧ σ' = [some (.ref a), some (.ref p), some (.ref r), some (.str (S (ratL t b))), none, none, none, none]) ?_ (fun N hN => ?_)
    · rintro σ' H' ⟨rfl, rfl⟩
      have b5 : (10 : Nat) ^ 41 ≤ 10 ^ 5000 := Nat.pow_le_pow_right (by decide) (by decide)
      have te : PySem.W.exmOne K (.ref A.C_InvalidRatio) (.ref A.C_InvalidRatio) = some true := PySem.W.exm_ref T.e_InvalidRatio.b T.e_InvalidRatio.e.hd T.e_InvalidRatio.t T.e_InvalidRatio.s
      have er := rat_ratL hb1 hg
      refine ⟨_, rfl, r, t, b, rfl, hr5, ⟨by omega, by omega⟩, fun H6 s6 => ?_⟩
      refine ⟨_, rfl, _, _, rfl, Dat.scal trivial, _, rfl, iteF ?_⟩
      refine ⟨_, rfl, ratL t b, rfl, by omega, fun e => absurd (er.symm.trans e) (by intro z; cases z), fun t2 b2 e H7 q s7 nq hq => ?_⟩
      have e2 := Option.some.inj (er.symm.trans e)
      have et : t2 = t := (Prod.mk.inj e2).1.symm
      have eb : b2 = b := (Prod.mk.inj e2).2.symm
      subst et eb
      have hr7 := s7 _ _ (s6 _ _ hr5)
      have P7 := (P5.same s6).same s7
      refine ⟨_, rfl, _, _, rfl, Dat.ints (ns := [t2, b2]) (SqT.of hq) (SqT.of hr7) (by show 2 < 2 ^ 60; decide), _, rfl, iteF ?_⟩
      refine ⟨_, rfl, _, rfl, _, rfl, p, l, ratL t2 b2, r, t2, b2, rfl, P7, hw, hr7, ⟨bt, bb⟩, fun y H8 hy P8 B8 => ?_⟩
      refine ⟨_, rfl, y, rfl, by omega, fun en H9 s9 => ?_, fun t3 b3 en H9 q3 s9 nq3 hq3 => ?_⟩
      · refine ⟨_, rfl, y, rfl, by omega, fun _ H10 s10 => ?_, fun t4 b4 e4 => absurd (en.symm.trans e4) (by intro z; cases z)⟩
        refine ⟨true, te, fun _ a0 _ => ?_, fun z => Bool.noConfusion z⟩
        refine ⟨_, rfl, true, congrArg V.bl (decide_eq_true rfl), iteT ?_⟩
        refine ⟨_, rfl, rfl, rfl, _, _, true, rfl, fun u r => r, T.i_InvalidRatio_OddsError, true, rfl, iteT ?_⟩
        exact ⟨_, rfl, rfl, rfl, _, _, false, rfl, fun u r => r, T.i_InvalidRatio_InvalidNumeral, false, rfl, k _⟩
      · refine ⟨_, rfl, y, rfl, by omega, fun e4 => absurd (en.symm.trans e4) (by intro z; cases z), fun t4 b4 e4 H10 q4 s10 nq4 hq4 => ?_⟩
        have e5 := Option.some.inj (en.symm.trans e4)
        have et : t4 = t3 := (Prod.mk.inj e5).1.symm
        have eb : b4 = b3 := (Prod.mk.inj e5).2.symm
        subst et eb
        have nn : V.bl (!decide (V.ref q3 = V.non)) = V.bl true := by
          rw [decide_eq_false (by intro z; cases z)]
          rfl
        refine ⟨_, rfl, true, nn, iteT ?_⟩
        exact ⟨_, rfl, _, rfl, _, _, rfl, Dat.ints (ns := [t4, b4]) (SqT.of hq4) (SqT.of (s10 _ _ hq3)) (by show 2 < 2 ^ 60; decide), k _⟩
    · refine ⟨_, rfl, r, _, 1, _, rfl, rfl, SqT.of hr5, rfl, _, _, rfl, rfl, _, rfl, ite2 (fun c1 => ?_) (fun c1 => ?_)⟩
      · have c1 : 1 < b := of_decide_eq_true c1
        have e : ratL t b = decL t ++ 47 :: decL b := if_neg (by omega)
        refine ⟨_, rfl, _, _, rfl, rfl, ?_, _, rfl, r, _, 1, _, rfl, rfl, SqT.of hr5, rfl, b, rfl, g2, _, _, rfl, rfl, ?_, ?_⟩
        · rw [slash_S, S_len, S_len, sizeLine_eq]
          show _ + 1 ≤ _
          omega
        · rw [slash_S, dec_toS, S_cat, S_len, S_len, List.length_append, sizeLine_eq]
          show _ + 1 + _ ≤ _
          omega
        · refine hN _ _ ⟨rfl, ?_⟩
          rw [slash_S, dec_toS, S_cat, S_cat, e, List.append_assoc]
          rfl
      · have c1 : ¬ 1 < b := fun z => c1 (decide_eq_true z)
        have e : ratL t b = decL t := if_pos (by omega)
        refine hN _ _ ⟨rfl, ?_⟩
        rw [e]
        rfl
end
/-! the end -/
theorem all_mk {K : PySem.W.Frag} {h : Heap} {mg : Str → Option Value} {fa : Addr} (X : K.In h) (G : h.Ns mainGlobals mg) (hfa : mg "law" = some (.ref fa))
    {f0 f1 f2 f3 f4 f5 f6 f7 f8 f9 f10 f11 f12 f13 f14 f15 f16 f17 COddsError CInvalidNumeral CInvalidRatio : Addr} {od0 an0 od1 an1 od2 an2 od3 an3 od4 an4 od5 an5 od6 an6 od7 an7 od8 an8 od9 an9 od10 an10 od11 an11 od12 an12 od13 an13 od14 an14 od15 an15 od16 an16 od17 an17 : Option Addr} {sl0 sl1 sl2 sl3 sl4 sl5 sl6 sl7 sl8 sl9 sl10 sl11 sl12 sl13 sl14 sl15 sl16 sl17 : Array (Option Value)} {oc0 kV0 dc0 pm0 cd0 ct0 oc1 kV1 dc1 pm1 cd1 ct1 oc2 kV2 dc2 pm2 cd2 ct2 oc3 kV3 dc3 pm3 cd3 ct3 oc4 kV4 dc4 pm4 cd4 ct4 oc5 kV5 dc5 pm5 cd5 ct5 oc6 kV6 dc6 pm6 cd6 ct6 oc7 kV7 dc7 pm7 cd7 ct7 oc8 kV8 dc8 pm8 cd8 ct8 oc9 kV9 dc9 pm9 cd9 ct9 oc10 kV10 dc10 pm10 cd10 ct10 oc11 kV11 dc11 pm11 cd11 ct11 oc12 kV12 dc12 pm12 cd12 ct12 oc13 kV13 dc13 pm13 cd13 ct13 oc14 kV14 dc14 pm14 cd14 ct14 oc15 kV15 dc15 pm15 cd15 ct15 oc16 kV16 dc16 pm16 cd16 ct16 oc17 kV17 dc17 pm17 cd17 ct17 : Value}
    (a0 : PySem.W.nsIn K mainGlobals "to_digits" = some (some (.ref f0))) (l0 : K.lookup f0 = some ⟨oc0, od0, .func (PySem.W.fnOf "to_digits" "to_digits" (defArgs s_to_digits) (defBody s_to_digits) (defScope s_to_digits) .none kV0 dc0 pm0 an0 cd0 ct0), sl0⟩) (c0 : PySem.W.codeIn K cd0 "to_digits" = true) (k0 : PySem.W.keepIn K (.ref f0) = true)
    (a1 : PySem.W.nsIn K mainGlobals "from_digits" = some (some (.ref f1))) (l1 : K.lookup f1 = some ⟨oc1, od1, .func (PySem.W.fnOf "from_digits" "from_digits" (defArgs s_from_digits) (defBody s_from_digits) (defScope s_from_digits) .none kV1 dc1 pm1 an1 cd1 ct1), sl1⟩) (c1 : PySem.W.codeIn K cd1 "from_digits" = true) (k1 : PySem.W.keepIn K (.ref f1) = true)
    (a2 : PySem.W.nsIn K mainGlobals "has_numeral_form" = some (some (.ref f2))) (l2 : K.lookup f2 = some ⟨oc2, od2, .func (PySem.W.fnOf "has_numeral_form" "has_numeral_form" (defArgs s_has_numeral_form) (defBody s_has_numeral_form) (defScope s_has_numeral_form) .none kV2 dc2 pm2 an2 cd2 ct2), sl2⟩) (c2 : PySem.W.codeIn K cd2 "has_numeral_form" = true) (k2 : PySem.W.keepIn K (.ref f2) = true)
    (a3 : PySem.W.nsIn K mainGlobals "_numeral_of" = some (some (.ref f3))) (l3 : K.lookup f3 = some ⟨oc3, od3, .func (PySem.W.fnOf "_numeral_of" "_numeral_of" (defArgs s_numeral_of) (defBody s_numeral_of) (defScope s_numeral_of) .none kV3 dc3 pm3 an3 cd3 ct3), sl3⟩) (c3 : PySem.W.codeIn K cd3 "_numeral_of" = true) (k3 : PySem.W.keepIn K (.ref f3) = true)
    (a4 : PySem.W.nsIn K mainGlobals "_number_of" = some (some (.ref f4))) (l4 : K.lookup f4 = some ⟨oc4, od4, .func (PySem.W.fnOf "_number_of" "_number_of" (defArgs s_number_of) (defBody s_number_of) (defScope s_number_of) .none kV4 dc4 pm4 an4 cd4 ct4), sl4⟩) (c4 : PySem.W.codeIn K cd4 "_number_of" = true) (k4 : PySem.W.keepIn K (.ref f4) = true)
    (a5 : PySem.W.nsIn K mainGlobals "write_ratio" = some (some (.ref f5))) (l5 : K.lookup f5 = some ⟨oc5, od5, .func (PySem.W.fnOf "write_ratio" "write_ratio" (defArgs s_write_ratio) (defBody s_write_ratio) (defScope s_write_ratio) .none kV5 dc5 pm5 an5 cd5 ct5), sl5⟩) (c5 : PySem.W.codeIn K cd5 "write_ratio" = true) (k5 : PySem.W.keepIn K (.ref f5) = true)
    (a6 : PySem.W.nsIn K mainGlobals "read_ratio" = some (some (.ref f6))) (l6 : K.lookup f6 = some ⟨oc6, od6, .func (PySem.W.fnOf "read_ratio" "read_ratio" (defArgs s_read_ratio) (defBody s_read_ratio) (defScope s_read_ratio) .none kV6 dc6 pm6 an6 cd6 ct6), sl6⟩) (c6 : PySem.W.codeIn K cd6 "read_ratio" = true) (k6 : PySem.W.keepIn K (.ref f6) = true)
    (a7 : PySem.W.nsIn K mainGlobals "_law_same" = some (some (.ref f7))) (l7 : K.lookup f7 = some ⟨oc7, od7, .func (PySem.W.fnOf "_law_same" "_law_same" (defArgs s_law_same) (defBody s_law_same) (defScope s_law_same) .none kV7 dc7 pm7 an7 cd7 ct7), sl7⟩) (c7 : PySem.W.codeIn K cd7 "_law_same" = true) (k7 : PySem.W.keepIn K (.ref f7) = true)
    (a8 : PySem.W.nsIn K mainGlobals "_law_pool" = some (some (.ref f8))) (l8 : K.lookup f8 = some ⟨oc8, od8, .func (PySem.W.fnOf "_law_pool" "_law_pool" (defArgs s_law_pool) (defBody s_law_pool) (defScope s_law_pool) .none kV8 dc8 pm8 an8 cd8 ct8), sl8⟩) (c8 : PySem.W.codeIn K cd8 "_law_pool" = true) (k8 : PySem.W.keepIn K (.ref f8) = true)
    (a9 : PySem.W.nsIn K mainGlobals "_law_spread" = some (some (.ref f9))) (l9 : K.lookup f9 = some ⟨oc9, od9, .func (PySem.W.fnOf "_law_spread" "_law_spread" (defArgs s_law_spread) (defBody s_law_spread) (defScope s_law_spread) .none kV9 dc9 pm9 an9 cd9 ct9), sl9⟩) (c9 : PySem.W.codeIn K cd9 "_law_spread" = true) (k9 : PySem.W.keepIn K (.ref f9) = true)
    (a10 : PySem.W.nsIn K mainGlobals "_law_draw" = some (some (.ref f10))) (l10 : K.lookup f10 = some ⟨oc10, od10, .func (PySem.W.fnOf "_law_draw" "_law_draw" (defArgs s_law_draw) (defBody s_law_draw) (defScope s_law_draw) .none kV10 dc10 pm10 an10 cd10 ct10), sl10⟩) (c10 : PySem.W.codeIn K cd10 "_law_draw" = true) (k10 : PySem.W.keepIn K (.ref f10) = true)
    (a11 : PySem.W.nsIn K mainGlobals "_law_gcd" = some (some (.ref f11))) (l11 : K.lookup f11 = some ⟨oc11, od11, .func (PySem.W.fnOf "_law_gcd" "_law_gcd" (defArgs s_law_gcd) (defBody s_law_gcd) (defScope s_law_gcd) .none kV11 dc11 pm11 an11 cd11 ct11), sl11⟩) (c11 : PySem.W.codeIn K cd11 "_law_gcd" = true) (k11 : PySem.W.keepIn K (.ref f11) = true)
    (a12 : PySem.W.nsIn K mainGlobals "_law_frac" = some (some (.ref f12))) (l12 : K.lookup f12 = some ⟨oc12, od12, .func (PySem.W.fnOf "_law_frac" "_law_frac" (defArgs s_law_frac) (defBody s_law_frac) (defScope s_law_frac) .none kV12 dc12 pm12 an12 cd12 ct12), sl12⟩) (c12 : PySem.W.codeIn K cd12 "_law_frac" = true) (k12 : PySem.W.keepIn K (.ref f12) = true)
    (a13 : PySem.W.nsIn K mainGlobals "_law_is_decimal" = some (some (.ref f13))) (l13 : K.lookup f13 = some ⟨oc13, od13, .func (PySem.W.fnOf "_law_is_decimal" "_law_is_decimal" (defArgs s_law_is_decimal) (defBody s_law_is_decimal) (defScope s_law_is_decimal) .none kV13 dc13 pm13 an13 cd13 ct13), sl13⟩) (c13 : PySem.W.codeIn K cd13 "_law_is_decimal" = true) (k13 : PySem.W.keepIn K (.ref f13) = true)
    (a14 : PySem.W.nsIn K mainGlobals "_law_number" = some (some (.ref f14))) (l14 : K.lookup f14 = some ⟨oc14, od14, .func (PySem.W.fnOf "_law_number" "_law_number" (defArgs s_law_number) (defBody s_law_number) (defScope s_law_number) .none kV14 dc14 pm14 an14 cd14 ct14), sl14⟩) (c14 : PySem.W.codeIn K cd14 "_law_number" = true) (k14 : PySem.W.keepIn K (.ref f14) = true)
    (a15 : PySem.W.nsIn K mainGlobals "_law_due" = some (some (.ref f15))) (l15 : K.lookup f15 = some ⟨oc15, od15, .func (PySem.W.fnOf "_law_due" "_law_due" (defArgs s_law_due) (defBody s_law_due) (defScope s_law_due) .none kV15 dc15 pm15 an15 cd15 ct15), sl15⟩) (c15 : PySem.W.codeIn K cd15 "_law_due" = true) (k15 : PySem.W.keepIn K (.ref f15) = true)
    (a16 : PySem.W.nsIn K mainGlobals "_law_changed" = some (some (.ref f16))) (l16 : K.lookup f16 = some ⟨oc16, od16, .func (PySem.W.fnOf "_law_changed" "_law_changed" (defArgs s_law_changed) (defBody s_law_changed) (defScope s_law_changed) .none kV16 dc16 pm16 an16 cd16 ct16), sl16⟩) (c16 : PySem.W.codeIn K cd16 "_law_changed" = true) (k16 : PySem.W.keepIn K (.ref f16) = true)
    (a17 : PySem.W.nsIn K mainGlobals "law" = some (some (.ref f17))) (l17 : K.lookup f17 = some ⟨oc17, od17, .func (PySem.W.fnOf "law" "law" (defArgs s_law) (defBody s_law) (defScope s_law) .none kV17 dc17 pm17 an17 cd17 ct17), sl17⟩) (c17 : PySem.W.codeIn K cd17 "law" = true) (k17 : PySem.W.keepIn K (.ref f17) = true)
    (gOddsError : PySem.W.nsIn K mainGlobals "OddsError" = some (some (.ref COddsError))) (xOddsError : PySem.W.excIn K COddsError [.type "ValueError", .type "Exception", .type "BaseException", .type "object"] "ValueError.__new__" = true) (kkOddsError : PySem.W.keepIn K (.ref COddsError) = true) (bOddsError : PySem.W.subIn K (.ref COddsError) (.type "BaseException") = some true) (tOddsError : PySem.W.typeIn K (.ref COddsError) = some (.type "type")) (sOddsError : PySem.W.subIn K (.ref COddsError) (.ref COddsError) = some true)
    (gaOddsError : PySem.W.findIn K (.ref COddsError) "__getattribute__" = some (some (.builtin "BaseException.__getattribute__"))) (ggOddsError : PySem.W.findIn K (.ref COddsError) "__getattr__" = some none) (hdOddsError : PySem.W.hasDictIn K COddsError = true) (clOddsError : PySem.W.findIn K (.ref COddsError) "__class__" = some (some (.builtin "object.__class__"))) (mrOddsError : PySem.W.mroIn K COddsError (.type "object") = some true)
    (gInvalidNumeral : PySem.W.nsIn K mainGlobals "InvalidNumeral" = some (some (.ref CInvalidNumeral))) (xInvalidNumeral : PySem.W.excIn K CInvalidNumeral [.type "ValueError", .type "Exception", .type "BaseException", .type "object"] "ValueError.__new__" = true) (kkInvalidNumeral : PySem.W.keepIn K (.ref CInvalidNumeral) = true) (bInvalidNumeral : PySem.W.subIn K (.ref CInvalidNumeral) (.type "BaseException") = some true) (tInvalidNumeral : PySem.W.typeIn K (.ref CInvalidNumeral) = some (.type "type")) (sInvalidNumeral : PySem.W.subIn K (.ref CInvalidNumeral) (.ref CInvalidNumeral) = some true)
    (gaInvalidNumeral : PySem.W.findIn K (.ref CInvalidNumeral) "__getattribute__" = some (some (.builtin "BaseException.__getattribute__"))) (ggInvalidNumeral : PySem.W.findIn K (.ref CInvalidNumeral) "__getattr__" = some none) (hdInvalidNumeral : PySem.W.hasDictIn K CInvalidNumeral = true) (clInvalidNumeral : PySem.W.findIn K (.ref CInvalidNumeral) "__class__" = some (some (.builtin "object.__class__"))) (mrInvalidNumeral : PySem.W.mroIn K CInvalidNumeral (.type "object") = some true)
    (gInvalidRatio : PySem.W.nsIn K mainGlobals "InvalidRatio" = some (some (.ref CInvalidRatio))) (xInvalidRatio : PySem.W.excIn K CInvalidRatio [.type "ValueError", .type "Exception", .type "BaseException", .type "object"] "ValueError.__new__" = true) (kkInvalidRatio : PySem.W.keepIn K (.ref CInvalidRatio) = true) (bInvalidRatio : PySem.W.subIn K (.ref CInvalidRatio) (.type "BaseException") = some true) (tInvalidRatio : PySem.W.typeIn K (.ref CInvalidRatio) = some (.type "type")) (sInvalidRatio : PySem.W.subIn K (.ref CInvalidRatio) (.ref CInvalidRatio) = some true)
    (gaInvalidRatio : PySem.W.findIn K (.ref CInvalidRatio) "__getattribute__" = some (some (.builtin "BaseException.__getattribute__"))) (ggInvalidRatio : PySem.W.findIn K (.ref CInvalidRatio) "__getattr__" = some none) (hdInvalidRatio : PySem.W.hasDictIn K CInvalidRatio = true) (clInvalidRatio : PySem.W.findIn K (.ref CInvalidRatio) "__class__" = some (some (.builtin "object.__class__"))) (mrInvalidRatio : PySem.W.mroIn K CInvalidRatio (.type "object") = some true)
    (spg : PySem.W.specialIn K (.builtin "object.__class__") "__get__" = some (some (.builtin "getset_descriptor.__get__"))) (spt : PySem.W.takesIn K (.builtin "object.__class__") = some true)
    (zall : PySem.W.nsIn K mainGlobals "all" = some none)
    (zstr : PySem.W.nsIn K mainGlobals "str" = some none)
    (zdivmod : PySem.W.nsIn K mainGlobals "divmod" = some none)
    (zlen : PySem.W.nsIn K mainGlobals "len" = some none)
    (zint : PySem.W.nsIn K mainGlobals "int" = some none)
    (zisinstance : PySem.W.nsIn K mainGlobals "isinstance" = some none)
    (ztuple : PySem.W.nsIn K mainGlobals "tuple" = some none)
    (zlist : PySem.W.nsIn K mainGlobals "list" = some none)
    (zrange : PySem.W.nsIn K mainGlobals "range" = some none)
    (zbool : PySem.W.nsIn K mainGlobals "bool" = some none)
    (zabs : PySem.W.nsIn K mainGlobals "abs" = some none)
    (mgcd : PySem.W.nsIn K mainGlobals "gcd" = some (some (.builtin "math.gcd")))
    (iInvalidRatioOddsError : PySem.W.kitOne K (.ref CInvalidRatio) (.ref COddsError) = some true)
    (iInvalidRatioInvalidNumeral : PySem.W.kitOne K (.ref CInvalidRatio) (.ref CInvalidNumeral) = some false)
    (iInvalidNumeralInvalidRatio : PySem.W.kitOne K (.ref CInvalidNumeral) (.ref CInvalidRatio) = some false)
    {tkDIGITS : Tok} (gDIGITS : PySem.W.nsIn K mainGlobals "DIGITS" = some (some (.str (PySem.Str.ofString "0123456789") tkDIGITS)))
    {tkPIECE : Tok} (gPIECE : PySem.W.nsIn K mainGlobals "PIECE" = some (some (.int 64 tkPIECE))) :
    ∃ A : At, A.a_law = fa ∧ (∀ (s : Shared) (v : Value), BindsTo s A.d_law ⟨[v], []⟩ [("script", v)]) ∧ Txt K mg A := by
  have e := hfa.symm.trans (PySem.W.mg_of X G a17)
  cases e
  have F0 := fun_mk (st := s_to_digits) l0 c0 k0
  have b0 := F0.binds (ps := ["number"]) fun _ _ _ _ _ _ us hl => match us, hl with | [_], _ => rfl
  have F1 := fun_mk (st := s_from_digits) l1 c1 k1
  have b1 := F1.binds (ps := ["text"]) fun _ _ _ _ _ _ us hl => match us, hl with | [_], _ => rfl
  have F2 := fun_mk (st := s_has_numeral_form) l2 c2 k2
  have b2 := F2.binds (ps := ["text"]) fun _ _ _ _ _ _ us hl => match us, hl with | [_], _ => rfl
  have F3 := fun_mk (st := s_numeral_of) l3 c3 k3
  have b3 := F3.binds (ps := ["number"]) fun _ _ _ _ _ _ us hl => match us, hl with | [_], _ => rfl
  have F4 := fun_mk (st := s_number_of) l4 c4 k4
  have b4 := F4.binds (ps := ["digits"]) fun _ _ _ _ _ _ us hl => match us, hl with | [_], _ => rfl
  have F5 := fun_mk (st := s_write_ratio) l5 c5 k5
  have b5 := F5.binds (ps := ["r"]) fun _ _ _ _ _ _ us hl => match us, hl with | [_], _ => rfl
  have F6 := fun_mk (st := s_read_ratio) l6 c6 k6
  have b6 := F6.binds (ps := ["text"]) fun _ _ _ _ _ _ us hl => match us, hl with | [_], _ => rfl
  have F7 := fun_mk (st := s_law_same) l7 c7 k7
  have b7 := F7.binds (ps := ["actual", "due"]) fun _ _ _ _ _ _ us hl => match us, hl with | [_, _], _ => rfl
  have F8 := fun_mk (st := s_law_pool) l8 c8 k8
  have b8 := F8.binds (ps := ["script"]) fun _ _ _ _ _ _ us hl => match us, hl with | [_], _ => rfl
  have F9 := fun_mk (st := s_law_spread) l9 c9 k9
  have b9 := F9.binds (ps := ["cell"]) fun _ _ _ _ _ _ us hl => match us, hl with | [_], _ => rfl
  have F10 := fun_mk (st := s_law_draw) l10 c10 k10
  have b10 := F10.binds (ps := ["pool", "many"]) fun _ _ _ _ _ _ us hl => match us, hl with | [_, _], _ => rfl
  have F11 := fun_mk (st := s_law_gcd) l11 c11 k11
  have b11 := F11.binds (ps := ["a", "b"]) fun _ _ _ _ _ _ us hl => match us, hl with | [_, _], _ => rfl
  have F12 := fun_mk (st := s_law_frac) l12 c12 k12
  have b12 := F12.binds (ps := ["top", "bottom"]) fun _ _ _ _ _ _ us hl => match us, hl with | [_, _], _ => rfl
  have F13 := fun_mk (st := s_law_is_decimal) l13 c13 k13
  have b13 := F13.binds (ps := ["text"]) fun _ _ _ _ _ _ us hl => match us, hl with | [_], _ => rfl
  have F14 := fun_mk (st := s_law_number) l14 c14 k14
  have b14 := F14.binds (ps := ["pool", "most"]) fun _ _ _ _ _ _ us hl => match us, hl with | [_, _], _ => rfl
  have F15 := fun_mk (st := s_law_due) l15 c15 k15
  have b15 := F15.binds (ps := ["text"]) fun _ _ _ _ _ _ us hl => match us, hl with | [_], _ => rfl
  have F16 := fun_mk (st := s_law_changed) l16 c16 k16
  have b16 := F16.binds (ps := ["pool", "text", "r"]) fun _ _ _ _ _ _ us hl => match us, hl with | [_, _, _], _ => rfl
  have F17 := fun_mk (st := s_law) l17 c17 k17
  have b17 := F17.binds (ps := ["script"]) fun _ _ _ _ _ _ us hl => match us, hl with | [_], _ => rfl
  exact ⟨⟨f0, PySem.W.fnOf "to_digits" "to_digits" (defArgs s_to_digits) (defBody s_to_digits) (defScope s_to_digits) .none kV0 dc0 pm0 an0 cd0 ct0, f1, PySem.W.fnOf "from_digits" "from_digits" (defArgs s_from_digits) (defBody s_from_digits) (defScope s_from_digits) .none kV1 dc1 pm1 an1 cd1 ct1, f2, PySem.W.fnOf "has_numeral_form" "has_numeral_form" (defArgs s_has_numeral_form) (defBody s_has_numeral_form) (defScope s_has_numeral_form) .none kV2 dc2 pm2 an2 cd2 ct2, f3, PySem.W.fnOf "_numeral_of" "_numeral_of" (defArgs s_numeral_of) (defBody s_numeral_of) (defScope s_numeral_of) .none kV3 dc3 pm3 an3 cd3 ct3, f4, PySem.W.fnOf "_number_of" "_number_of" (defArgs s_number_of) (defBody s_number_of) (defScope s_number_of) .none kV4 dc4 pm4 an4 cd4 ct4, f5, PySem.W.fnOf "write_ratio" "write_ratio" (defArgs s_write_ratio) (defBody s_write_ratio) (defScope s_write_ratio) .none kV5 dc5 pm5 an5 cd5 ct5, f6, PySem.W.fnOf "read_ratio" "read_ratio" (defArgs s_read_ratio) (defBody s_read_ratio) (defScope s_read_ratio) .none kV6 dc6 pm6 an6 cd6 ct6, f7, PySem.W.fnOf "_law_same" "_law_same" (defArgs s_law_same) (defBody s_law_same) (defScope s_law_same) .none kV7 dc7 pm7 an7 cd7 ct7, f8, PySem.W.fnOf "_law_pool" "_law_pool" (defArgs s_law_pool) (defBody s_law_pool) (defScope s_law_pool) .none kV8 dc8 pm8 an8 cd8 ct8, f9, PySem.W.fnOf "_law_spread" "_law_spread" (defArgs s_law_spread) (defBody s_law_spread) (defScope s_law_spread) .none kV9 dc9 pm9 an9 cd9 ct9, f10, PySem.W.fnOf "_law_draw" "_law_draw" (defArgs s_law_draw) (defBody s_law_draw) (defScope s_law_draw) .none kV10 dc10 pm10 an10 cd10 ct10, f11, PySem.W.fnOf "_law_gcd" "_law_gcd" (defArgs s_law_gcd) (defBody s_law_gcd) (defScope s_law_gcd) .none kV11 dc11 pm11 an11 cd11 ct11, f12, PySem.W.fnOf "_law_frac" "_law_frac" (defArgs s_law_frac) (defBody s_law_frac) (defScope s_law_frac) .none kV12 dc12 pm12 an12 cd12 ct12, f13, PySem.W.fnOf "_law_is_decimal" "_law_is_decimal" (defArgs s_law_is_decimal) (defBody s_law_is_decimal) (defScope s_law_is_decimal) .none kV13 dc13 pm13 an13 cd13 ct13, f14, PySem.W.fnOf "_law_number" "_law_number" (defArgs s_law_number) (defBody s_law_number) (defScope s_law_number) .none kV14 dc14 pm14 an14 cd14 ct14, f15, PySem.W.fnOf "_law_due" "_law_due" (defArgs s_law_due) (defBody s_law_due) (defScope s_law_due) .none kV15 dc15 pm15 an15 cd15 ct15, f16, PySem.W.fnOf "_law_changed" "_law_changed" (defArgs s_law_changed) (defBody s_law_changed) (defScope s_law_changed) .none kV16 dc16 pm16 an16 cd16 ct16, fa, PySem.W.fnOf "law" "law" (defArgs s_law) (defBody s_law) (defScope s_law) .none kV17 dc17 pm17 an17 cd17 ct17, COddsError, CInvalidNumeral, CInvalidRatio⟩, rfl, fun s v => .of_eq rfl,
    ⟨⟨F0, PySem.W.mg_of X G a0, b0⟩,
    ⟨F1, PySem.W.mg_of X G a1, b1⟩,
    ⟨F2, PySem.W.mg_of X G a2, b2⟩,
    ⟨F3, PySem.W.mg_of X G a3, b3⟩,
    ⟨F4, PySem.W.mg_of X G a4, b4⟩,
    ⟨F5, PySem.W.mg_of X G a5, b5⟩,
    ⟨F6, PySem.W.mg_of X G a6, b6⟩,
    ⟨F7, PySem.W.mg_of X G a7, b7⟩,
    ⟨F8, PySem.W.mg_of X G a8, b8⟩,
    ⟨F9, PySem.W.mg_of X G a9, b9⟩,
    ⟨F10, PySem.W.mg_of X G a10, b10⟩,
    ⟨F11, PySem.W.mg_of X G a11, b11⟩,
    ⟨F12, PySem.W.mg_of X G a12, b12⟩,
    ⟨F13, PySem.W.mg_of X G a13, b13⟩,
    ⟨F14, PySem.W.mg_of X G a14, b14⟩,
    ⟨F15, PySem.W.mg_of X G a15, b15⟩,
    ⟨F16, PySem.W.mg_of X G a16, b16⟩,
    ⟨F17, PySem.W.mg_of X G a17, b17⟩,
    ⟨PySem.W.mg_of X G gOddsError, xOddsError, kkOddsError, bOddsError, tOddsError, sOddsError, ⟨gaOddsError, ggOddsError, bOddsError, hdOddsError, clOddsError, spg, spt, mrOddsError⟩⟩,
    ⟨PySem.W.mg_of X G gInvalidNumeral, xInvalidNumeral, kkInvalidNumeral, bInvalidNumeral, tInvalidNumeral, sInvalidNumeral, ⟨gaInvalidNumeral, ggInvalidNumeral, bInvalidNumeral, hdInvalidNumeral, clInvalidNumeral, spg, spt, mrInvalidNumeral⟩⟩,
    ⟨PySem.W.mg_of X G gInvalidRatio, xInvalidRatio, kkInvalidRatio, bInvalidRatio, tInvalidRatio, sInvalidRatio, ⟨gaInvalidRatio, ggInvalidRatio, bInvalidRatio, hdInvalidRatio, clInvalidRatio, spg, spt, mrInvalidRatio⟩⟩,
    PySem.W.mg_none_of X G zall,
    PySem.W.mg_none_of X G zstr,
    PySem.W.mg_none_of X G zdivmod,
    PySem.W.mg_none_of X G zlen,
    PySem.W.mg_none_of X G zint,
    PySem.W.mg_none_of X G zisinstance,
    PySem.W.mg_none_of X G ztuple,
    PySem.W.mg_none_of X G zlist,
    PySem.W.mg_none_of X G zrange,
    PySem.W.mg_none_of X G zbool,
    PySem.W.mg_none_of X G zabs,
    PySem.W.mg_of X G mgcd,
    ⟨_, PySem.W.mg_of X G gDIGITS, ⟨_, rfl⟩⟩,
    ⟨_, PySem.W.mg_of X G gPIECE, ⟨_, rfl⟩⟩,
    iInvalidRatioOddsError,
    iInvalidRatioInvalidNumeral,
    iInvalidNumeralInvalidRatio⟩⟩
theorem walk {l : PySem.W.OpenLaw} {q : Program} {loose : List Str} {XP : (Str → Option Value) → Heap → Prop} {YP : World → Heap → Prop} {d : DefRec} {K : Params → PySem.W.Frag} (hn : l.most = some 63) (hdf : d.params.defaults = [])
    (hY : ∀ (w : World) (h : Heap), YP w h → (K w.params).In h)
    (F : ∀ (w : World) (mg : Str → Option Value) (fa : Addr) (h : Heap), (K w.params).In h → h.Ns mainGlobals mg → mg d.name = some (.ref fa) →
      ∃ A : At, A.a_law = fa ∧ (∀ (s : Shared) (v : Value), BindsTo s A.d_law ⟨[v], []⟩ [("script", v)]) ∧ Txt (K w.params) mg A) :
    PySem.W.WalkO q loose XP YP l.row.toRowW d [] (fun f vs => PySem.call f vs) :=
  L2.walk_of (n := 63) (k := 16) (x := "script") (CX := fun _ => CX0) (sp := fun w => spLaw (K w.params)) hn (by decide) hdf ⟨rfl, by decide, by decide⟩ hY
    (fun w mg fa h X G e => by
      obtain ⟨A, rfl, hb, T⟩ := F w mg fa h X G e
      exact ⟨A.d_law, hb, fun base _ _ => ok_law T⟩)
    (fun _ _ a ns hl _ hS => ⟨a, ns, rfl, hS, hl, fun _ => rfl⟩) fun _ _ _ _ _ z => z
end O
open PySem PySem.W PyProof.Rows
set_option maxRecDepth 100000 in
set_option maxHeartbeats 0 in
theorem PySem.Challenge.cw_odds_k06_written_ratios_holds : PySem.Challenge.rw_odds_k06_written_ratios.Holds := by
  w_on; o_law; k_head; (case hw => w_witness2)
  k_fill
  refine O.walk (l := PySem.Challenge.rw_odds_k06_written_ratios) rfl rfl (fun w h Y => PySem.W.kIn_of Y) ?F
  case F =>
    intro w mg fa h KX G hmg
    refine' O.all_mk KX G hmg ?a0 ?l0 ?c0 ?k0 ?a1 ?l1 ?c1 ?k1 ?a2 ?l2 ?c2 ?k2 ?a3 ?l3 ?c3 ?k3 ?a4 ?l4 ?c4 ?k4 ?a5 ?l5 ?c5 ?k5 ?a6 ?l6 ?c6 ?k6 ?a7 ?l7 ?c7 ?k7 ?a8 ?l8 ?c8 ?k8 ?a9 ?l9 ?c9 ?k9 ?a10 ?l10 ?c10 ?k10 ?a11 ?l11 ?c11 ?k11 ?a12 ?l12 ?c12 ?k12 ?a13 ?l13 ?c13 ?k13 ?a14 ?l14 ?c14 ?k14 ?a15 ?l15 ?c15 ?k15 ?a16 ?l16 ?c16 ?k16 ?a17 ?l17 ?c17 ?k17 ?gOddsError ?xOddsError ?kkOddsError ?bOddsError ?tOddsError ?sOddsError ?gaOddsError ?ggOddsError ?hdOddsError ?clOddsError ?mrOddsError ?gInvalidNumeral ?xInvalidNumeral ?kkInvalidNumeral ?bInvalidNumeral ?tInvalidNumeral ?sInvalidNumeral ?gaInvalidNumeral ?ggInvalidNumeral ?hdInvalidNumeral ?clInvalidNumeral ?mrInvalidNumeral ?gInvalidRatio ?xInvalidRatio ?kkInvalidRatio ?bInvalidRatio ?tInvalidRatio ?sInvalidRatio ?gaInvalidRatio ?ggInvalidRatio ?hdInvalidRatio ?clInvalidRatio ?mrInvalidRatio ?spg ?spt ?zall ?zstr ?zdivmod ?zlen ?zint ?zisinstance ?ztuple ?zlist ?zrange ?zbool ?zabs ?mgcd ?iInvalidRatioOddsError ?iInvalidRatioInvalidNumeral ?iInvalidNumeralInvalidRatio ?gDIGITS ?gPIECE
    (case a0 => k_is)
    (case l0 => k_is)
    (case c0 => k_is)
    (case k0 => k_is)
    (case a1 => k_is)
    (case l1 => k_is)
    (case c1 => k_is)
    (case k1 => k_is)
    (case a2 => k_is)
    (case l2 => k_is)
    (case c2 => k_is)
    (case k2 => k_is)
    (case a3 => k_is)
    (case l3 => k_is)
    (case c3 => k_is)
    (case k3 => k_is)
    (case a4 => k_is)
    (case l4 => k_is)
    (case c4 => k_is)
    (case k4 => k_is)
    (case a5 => k_is)
    (case l5 => k_is)
    (case c5 => k_is)
    (case k5 => k_is)
    (case a6 => k_is)
    (case l6 => k_is)
    (case c6 => k_is)
    (case k6 => k_is)
    (case a7 => k_is)
    (case l7 => k_is)
    (case c7 => k_is)
    (case k7 => k_is)
    (case a8 => k_is)
    (case l8 => k_is)
    (case c8 => k_is)
    (case k8 => k_is)
    (case a9 => k_is)
    (case l9 => k_is)
    (case c9 => k_is)
    (case k9 => k_is)
    (case a10 => k_is)
    (case l10 => k_is)
    (case c10 => k_is)
    (case k10 => k_is)
    (case a11 => k_is)
    (case l11 => k_is)
    (case c11 => k_is)
    (case k11 => k_is)
    (case a12 => k_is)
    (case l12 => k_is)
    (case c12 => k_is)
    (case k12 => k_is)
    (case a13 => k_is)
    (case l13 => k_is)
    (case c13 => k_is)
    (case k13 => k_is)
    (case a14 => k_is)
    (case l14 => k_is)
    (case c14 => k_is)
    (case k14 => k_is)
    (case a15 => k_is)
    (case l15 => k_is)
    (case c15 => k_is)
    (case k15 => k_is)
    (case a16 => k_is)
    (case l16 => k_is)
    (case c16 => k_is)
    (case k16 => k_is)
    (case a17 => k_is)
    (case l17 => k_is)
    (case c17 => k_is)
    (case k17 => k_is)
    (case gOddsError => k_is)
    (case xOddsError => k_exc)
    (case kkOddsError => k_is)
    (case bOddsError => k_is)
    (case tOddsError => k_is)
    (case sOddsError => first | rfl | k_is)
    (case gaOddsError => k_is)
    (case ggOddsError => k_is)
    (case hdOddsError => k_is)
    (case clOddsError => k_is)
    (case mrOddsError => k_is)
    (case gInvalidNumeral => k_is)
    (case xInvalidNumeral => k_exc)
    (case kkInvalidNumeral => k_is)
    (case bInvalidNumeral => k_is)
    (case tInvalidNumeral => k_is)
    (case sInvalidNumeral => first | rfl | k_is)
    (case gaInvalidNumeral => k_is)
    (case ggInvalidNumeral => k_is)
    (case hdInvalidNumeral => k_is)
    (case clInvalidNumeral => k_is)
    (case mrInvalidNumeral => k_is)
    (case gInvalidRatio => k_is)
    (case xInvalidRatio => k_exc)
    (case kkInvalidRatio => k_is)
    (case bInvalidRatio => k_is)
    (case tInvalidRatio => k_is)
    (case sInvalidRatio => first | rfl | k_is)
    (case gaInvalidRatio => k_is)
    (case ggInvalidRatio => k_is)
    (case hdInvalidRatio => k_is)
    (case clInvalidRatio => k_is)
    (case mrInvalidRatio => k_is)
    (case spg => k_is)
    (case spt => k_is)
    (case zall => k_is)
    (case zstr => k_is)
    (case zdivmod => k_is)
    (case zlen => k_is)
    (case zint => k_is)
    (case zisinstance => k_is)
    (case ztuple => k_is)
    (case zlist => k_is)
    (case zrange => k_is)
    (case zbool => k_is)
    (case zabs => k_is)
    (case mgcd => k_is)
    (case iInvalidRatioOddsError => first | kit_is | k_is)
    (case iInvalidRatioInvalidNumeral => first | kit_is | k_is)
    (case iInvalidNumeralInvalidRatio => first | kit_is | k_is)
    (case gDIGITS => k_is)
    (case gPIECE => k_is)
