import PyProof.Rows.All
import Wide.All
import OpenK.AllK
import Wide.FinOn
import HandS.ForExc
import HandS.Wide
import HandS.WideBits
import HandS.Gcd
import HandS.IsInst
import HandS.ExcIs
import KE.RegKIsAll
import HandS.Codes
import HandS.StrMore
import HandS.Comp
import HandS.Iter
import HandS.Text
import KE.IntTextText
import PySem.Challenge.RW_odds_k01_long_decimal_forms
set_option Elab.async false
set_option linter.all false
set_option maxRecDepth 100000
set_option maxHeartbeats 4000000
namespace O
open PySem L2
def topS (i : Nat) : Stmt := PySem.Challenge.pw_odds_k01_long_decimal_forms.main.body.getD i (.Pass ⟨0, 0, 0, 0⟩)
abbrev s_to_digits : Stmt := topS 6
theorem sc_to_digits : FnScope ["number"] ["number"] (defScope s_to_digits) := ⟨rfl, rfl, rfl, by decide +kernel, rfl, by decide +kernel, by decide +kernel⟩
abbrev s_from_digits : Stmt := topS 7
theorem sc_from_digits : FnScope ["text", "digits", "number"] ["text"] (defScope s_from_digits) := ⟨rfl, rfl, rfl, by decide +kernel, rfl, by decide +kernel, by decide +kernel⟩
abbrev s_has_numeral_form : Stmt := topS 8
theorem sc_has_numeral_form : FnScope ["text", "letter"] ["text"] (defScope s_has_numeral_form) := ⟨rfl, rfl, rfl, by decide +kernel, rfl, by decide +kernel, by decide +kernel⟩
abbrev s_numeral_of : Stmt := topS 9
theorem sc_numeral_of : FnScope ["number", "power", "width", "high", "low"] ["number"] (defScope s_numeral_of) := ⟨rfl, rfl, rfl, by decide +kernel, rfl, by decide +kernel, by decide +kernel⟩
abbrev s_number_of : Stmt := topS 10
theorem sc_number_of : FnScope ["digits", "power", "width"] ["digits"] (defScope s_number_of) := ⟨rfl, rfl, rfl, by decide +kernel, rfl, by decide +kernel, by decide +kernel⟩
abbrev s_law_is_integer : Stmt := topS 12
theorem sc_law_is_integer : FnScope ["actual"] ["actual"] (defScope s_law_is_integer) := ⟨rfl, rfl, rfl, by decide +kernel, rfl, by decide +kernel, by decide +kernel⟩
abbrev s_law_pool : Stmt := topS 13
theorem sc_law_pool : FnScope ["script", "salt", "cell"] ["script"] (defScope s_law_pool) := ⟨rfl, rfl, rfl, by decide +kernel, rfl, by decide +kernel, by decide +kernel⟩
abbrev s_law_spread : Stmt := topS 14
theorem sc_law_spread : FnScope ["cell", "mixed", "total", "k"] ["cell"] (defScope s_law_spread) := ⟨rfl, rfl, rfl, by decide +kernel, rfl, by decide +kernel, by decide +kernel⟩
abbrev s_law_draw : Stmt := topS 15
theorem sc_law_draw : FnScope ["pool", "many", "cell", "mixed", "value"] ["pool", "many"] (defScope s_law_draw) := ⟨rfl, rfl, rfl, by decide +kernel, rfl, by decide +kernel, by decide +kernel⟩
abbrev s_law : Stmt := topS 16
theorem sc_law : FnScope ["script", "pool", "many", "digits", "value", "k", "piece", "told", "back"] ["script"] (defScope s_law) := ⟨rfl, rfl, rfl, by decide +kernel, rfl, by decide +kernel, by decide +kernel⟩
/-- a def of the text as it stands behind the top -/
structure DefT (K : PySem.W.Frag) (mg : Str → Option Value) (x : Str) (st : Stmt) (ps : List Str) (f : Addr) (fd : FuncData) : Prop where
  F : Fun K x x st f fd
  g : mg x = some (.ref f)
  b : Binds K fd ps []
/-- an error class of the text -/
structure ErrT (K : PySem.W.Frag) (mg : Str → Option Value) (x : Str) (C : Addr) : Prop where
  g : mg x = some (.ref C)
  ex : PySem.W.excIn K C [.type "ValueError", .type "Exception", .type "BaseException", .type "object"] "ValueError.__new__" = true
  k : PySem.W.keepIn K (.ref C) = true
  b : PySem.W.subIn K (.ref C) (.type "BaseException") = some true
  t : PySem.W.typeIn K (.ref C) = some (.type "type")
  s : PySem.W.subIn K (.ref C) (.ref C) = some true
  e : ExcC K C
structure At where
  a_to_digits : Addr
  d_to_digits : FuncData
  a_from_digits : Addr
  d_from_digits : FuncData
  a_has_numeral_form : Addr
  d_has_numeral_form : FuncData
  a_numeral_of : Addr
  d_numeral_of : FuncData
  a_number_of : Addr
  d_number_of : FuncData
  a_law_is_integer : Addr
  d_law_is_integer : FuncData
  a_law_pool : Addr
  d_law_pool : FuncData
  a_law_spread : Addr
  d_law_spread : FuncData
  a_law_draw : Addr
  d_law_draw : FuncData
  a_law : Addr
  d_law : FuncData
  C_OddsError : Addr
  C_InvalidNumeral : Addr
structure Txt (K : PySem.W.Frag) (mg : Str → Option Value) (A : At) : Prop where
  t_to_digits : DefT K mg "to_digits" s_to_digits ["number"] A.a_to_digits A.d_to_digits
  t_from_digits : DefT K mg "from_digits" s_from_digits ["text"] A.a_from_digits A.d_from_digits
  t_has_numeral_form : DefT K mg "has_numeral_form" s_has_numeral_form ["text"] A.a_has_numeral_form A.d_has_numeral_form
  t_numeral_of : DefT K mg "_numeral_of" s_numeral_of ["number"] A.a_numeral_of A.d_numeral_of
  t_number_of : DefT K mg "_number_of" s_number_of ["digits"] A.a_number_of A.d_number_of
  t_law_is_integer : DefT K mg "_law_is_integer" s_law_is_integer ["actual"] A.a_law_is_integer A.d_law_is_integer
  t_law_pool : DefT K mg "_law_pool" s_law_pool ["script"] A.a_law_pool A.d_law_pool
  t_law_spread : DefT K mg "_law_spread" s_law_spread ["cell"] A.a_law_spread A.d_law_spread
  t_law_draw : DefT K mg "_law_draw" s_law_draw ["pool", "many"] A.a_law_draw A.d_law_draw
  t_law : DefT K mg "law" s_law ["script"] A.a_law A.d_law
  e_OddsError : ErrT K mg "OddsError" A.C_OddsError
  e_InvalidNumeral : ErrT K mg "InvalidNumeral" A.C_InvalidNumeral
  z_all : mg "all" = none
  z_str : mg "str" = none
  z_divmod : mg "divmod" = none
  z_len : mg "len" = none
  z_int : mg "int" = none
  z_isinstance : mg "isinstance" = none
  z_bool : mg "bool" = none
  z_list : mg "list" = none
  z_range : mg "range" = none
  m_DIGITS : ∃ u, mg "DIGITS" = some u ∧ RelV (.str (Str.ofString "0123456789")) u
  m_PIECE : ∃ u, mg "PIECE" = some u ∧ RelV (.int 64) u
/-! Euclid's walk: how many turns it takes -/
structure Eu (a0 b0 i a b : Nat) : Prop where
  g : Nat.gcd a b = Nat.gcd a0 b0
  z : i = 0 → a = a0 ∧ b = b0
  p : 0 < i → b < a ∧ a * b * 2 ^ i ≤ 2 * (a0 * b0)
theorem eu_start (a b : Nat) : Eu a b 0 a b := ⟨rfl, fun _ => ⟨rfl, rfl⟩, fun h => absurd h (Nat.lt_irrefl 0)⟩
theorem eu_half {a b : Nat} (hb : b ≠ 0) (h : b < a) : 2 * (a % b) ≤ a := by
  have h1 := Nat.mod_lt a (Nat.pos_of_ne_zero hb)
  have h2 := Nat.div_add_mod a b
  have h3 : 1 ≤ a / b := Nat.div_pos (Nat.le_of_lt h) (Nat.pos_of_ne_zero hb)
  have h4 : b * 1 ≤ b * (a / b) := Nat.mul_le_mul_left b h3
  omega
theorem eu_next {a0 b0 i a b : Nat} (h : Eu a0 b0 i a b) (hb : b ≠ 0) : Eu a0 b0 (i + 1) b (a % b) := by
  have hl := Nat.mod_lt a (Nat.pos_of_ne_zero hb)
  refine ⟨?_, fun e => by omega, fun _ => ⟨hl, ?_⟩⟩
  · rw [← h.g, Nat.gcd_comm a b, Nat.gcd_rec b a, Nat.gcd_comm]
  · by_cases hi : i = 0
    · obtain ⟨rfl, rfl⟩ := h.z hi
      subst hi
      have h1 : a % b ≤ a := Nat.mod_le a b
      have h2 : b * (a % b) ≤ b * a := Nat.mul_le_mul_left b h1
      rw [Nat.mul_comm b a] at h2
      show b * (a % b) * 2 ≤ 2 * (a * b)
      omega
    · obtain ⟨h1, h2⟩ := h.p (Nat.pos_of_ne_zero hi)
      have h3 := eu_half hb h1
      have h4 : b * (2 * (a % b)) ≤ b * a := Nat.mul_le_mul_left b h3
      have h5 : b * (2 * (a % b)) * 2 ^ i ≤ b * a * 2 ^ i := Nat.mul_le_mul_right _ h4
      have e : b * (a % b) * 2 ^ (i + 1) = b * (2 * (a % b)) * 2 ^ i := by
        rw [Nat.pow_succ, Nat.mul_comm (2 ^ i) 2, ← Nat.mul_assoc, Nat.mul_assoc b (a % b) 2, Nat.mul_comm (a % b) 2]
      rw [e]
      rw [Nat.mul_comm b a] at h5
      exact Nat.le_trans h5 h2
theorem eu_stop {a0 b0 i a b m n : Nat} (h : Eu a0 b0 i a b) (hb : b ≠ 0) (ha0 : a0 < 2 ^ m) (hb0 : b0 < 2 ^ n) (hi : m + n + 2 ≤ i) : False := by
  obtain ⟨h1, h2⟩ := h.p (by omega)
  have h3 : 1 ≤ a * b := Nat.mul_pos (by omega) (Nat.pos_of_ne_zero hb)
  have h4 : 1 * 2 ^ i ≤ a * b * 2 ^ i := Nat.mul_le_mul_right _ h3
  have h5 : a0 * b0 ≤ 2 ^ m * 2 ^ n := Nat.mul_le_mul (Nat.le_of_lt ha0) (Nat.le_of_lt hb0)
  rw [← Nat.pow_add] at h5
  have h6 : 2 ^ (m + n + 2) ≤ 2 ^ i := Nat.pow_le_pow_right (by decide) hi
  have h7 : 2 ^ (m + n + 2) = 4 * 2 ^ (m + n) := by rw [Nat.pow_add]; omega
  have h8 : 0 < 2 ^ (m + n) := Nat.pow_pos (by decide)
  omega
/-! a quotient in lowest terms -/
def rsg (t b : Int) : Int := if b < 0 then -(Int.gcd t b : Int) else (Int.gcd t b : Int)
def rtop (t b : Int) : Int := t.fdiv (rsg t b)
def rbot (t b : Int) : Int := b.fdiv (rsg t b)
theorem rgcd_pos {t b : Int} (hb : b ≠ 0) : 0 < Int.gcd t b := Int.gcd_pos_of_ne_zero_right t hb
theorem rsg_ne {t b : Int} (hb : b ≠ 0) : rsg t b ≠ 0 := by
  have h := rgcd_pos (t := t) hb
  unfold rsg
  split <;> omega
theorem rsg_dvd (t b x : Int) (h : (Int.gcd t b : Int) ∣ x) : rsg t b ∣ x := by
  unfold rsg
  split
  · exact Int.neg_dvd.mpr h
  · exact h
theorem rtop_mul (t b : Int) : rtop t b * rsg t b = t := Int.fdiv_mul_cancel (rsg_dvd t b t (Int.gcd_dvd_left ..))
theorem rbot_mul (t b : Int) : rbot t b * rsg t b = b := Int.fdiv_mul_cancel (rsg_dvd t b b (Int.gcd_dvd_right ..))
theorem r_cross (t b : Int) : rtop t b * b = t * rbot t b := by
  have h1 := rtop_mul t b
  have h2 := rbot_mul t b
  calc rtop t b * b = rtop t b * (rbot t b * rsg t b) := by rw [h2]
    _ = rtop t b * rsg t b * rbot t b := by rw [Int.mul_comm (rbot t b), ← Int.mul_assoc]
    _ = t * rbot t b := by rw [h1]
theorem rbot_pos {t b : Int} (hb : b ≠ 0) : 1 ≤ rbot t b := by
  have h1 := rbot_mul t b
  have h2 := rgcd_pos (t := t) hb
  have h3 : 0 < rbot t b := by
    by_cases hn : b < 0
    · have e : rsg t b = -(Int.gcd t b : Int) := if_pos hn
      rw [e] at h1
      have h4 : rbot t b * (Int.gcd t b : Int) = -b := by
        rw [Int.mul_neg] at h1
        omega
      exact Int.pos_of_mul_pos_left (a := rbot t b) (b := (Int.gcd t b : Int)) (by omega) (by omega)
    · have e : rsg t b = (Int.gcd t b : Int) := if_neg hn
      rw [e] at h1
      exact Int.pos_of_mul_pos_left (a := rbot t b) (b := (Int.gcd t b : Int)) (by omega) (by omega)
  omega
theorem r_gcd {t b : Int} (hb : b ≠ 0) : Int.gcd (rtop t b) (rbot t b) = 1 := by
  have h1 := rtop_mul t b
  have h2 := rbot_mul t b
  have h3 := rgcd_pos (t := t) hb
  have h4 : Int.gcd (rtop t b * rsg t b) (rbot t b * rsg t b) = Int.gcd (rtop t b) (rbot t b) * (rsg t b).natAbs := Int.gcd_mul_right ..
  rw [h1, h2] at h4
  have h5 : (rsg t b).natAbs = Int.gcd t b := by
    unfold rsg
    split
    · rw [Int.natAbs_neg]; rfl
    · rfl
  rw [h5] at h4
  exact (Nat.mul_right_cancel h3 (by rw [Nat.one_mul]; exact h4)).symm
theorem r_le {x q s : Int} (h : q * s = x) (hs : s ≠ 0) : q.natAbs ≤ x.natAbs := by
  rw [← h, Int.natAbs_mul]
  exact Nat.le_mul_of_pos_right _ (by omega)
theorem rtop_le {t b : Int} (hb : b ≠ 0) : (rtop t b).natAbs ≤ t.natAbs := r_le (rtop_mul t b) (rsg_ne hb)
theorem rbot_le {t b : Int} (hb : b ≠ 0) : (rbot t b).natAbs ≤ b.natAbs := r_le (rbot_mul t b) (rsg_ne hb)
/-! ### what a sequence asks, through a word of what stands between -/
theorem seq_then {t u : TS} {D : Ends} {σ : St} {H : Hp} (P : St → Hp → Prop) (h2 : ∀ σ' H', P σ' H' → u D σ' H') (h1 : ∀ N : St → Hp → Prop, (∀ σ' H', P σ' H' → N σ' H') → t { D with nx := N } σ H) : tSeq t u D σ H := h1 (u D) h2
theorem seq_const {v : V} {i : Nat} {u : TS} {D : Ends} {σ : St} {H : Hp} (h : u D (σ.set i (some v)) H) : tSeq (tAsg (tC v) (gName i)) u D σ H := h
theorem same_upd {H : Hp} {p : Addr} {o : HO} (h : H p = none) : Same H (upd H p o) := fun b x e => by
  rw [upd_ne (ne_of_none e h)]
  exact e
/-- all that was tracked is as it was, but what stands at p -/
def But (p : Addr) (H H' : Hp) : Prop := ∀ c o, H c = some o → c ≠ p → H' c = some o
theorem But.refl (p : Addr) (H : Hp) : But p H H := fun _ _ h _ => h
theorem But.trans {p : Addr} {H H1 H2 : Hp} (a : But p H H1) (b : But p H1 H2) : But p H H2 := fun c o h n => b c o (a c o h n) n
theorem But.upd {p : Addr} {H H1 : Hp} {o : HO} (a : But p H H1) : But p H (L2.upd H1 p o) := fun c x h n => by
  rw [upd_ne n]
  exact a c x h n
theorem But.same {p : Addr} {H H1 : Hp} (a : Same H H1) : But p H H1 := fun c o h _ => a c o h
/-- the pool of draws at p: the script's copy, the place, what is left of a cell, how many draws, the salt -/
def PoolAt (H : Hp) (p l : Addr) : Prop := ∃ (ns : List Int) (pos cur cnt salt : Int), H p = some (.lst [.ref l, .int pos, .int cur, .int cnt, .int salt]) ∧ H l = some (.lst (ns.map V.int)) ∧ 0 ≤ pos ∧ l ≠ p
theorem PoolAt.same {H H' : Hp} {p l : Addr} (a : Same H H') (h : PoolAt H p l) : PoolAt H' p l := by
  obtain ⟨ns, pos, cur, cnt, salt, h1, h2, h3, h4⟩ := h
  exact ⟨ns, pos, cur, cnt, salt, a _ _ h1, a _ _ h2, h3, h4⟩
/-- a pool is no tuple -/
theorem PoolAt.ne {H : Hp} {p l t : Addr} {xs : List V} (h : PoolAt H p l) (ht : H t = some (.tup xs)) : t ≠ p := by
  obtain ⟨ns, pos, cur, cnt, salt, h1, _⟩ := h
  exact ne_of ht h1 (by intro z; cases z)
theorem PoolAt.free {H : Hp} {p l t : Addr} (h : PoolAt H p l) (ht : H t = none) : t ≠ p := by
  obtain ⟨ns, pos, cur, cnt, salt, h1, _⟩ := h
  exact (ne_of_none h1 ht).symm
theorem PoolAt.free2 {H : Hp} {p l t : Addr} (h : PoolAt H p l) (ht : H t = none) : t ≠ l := by
  obtain ⟨ns, pos, cur, cnt, salt, _, h1, _⟩ := h
  exact (ne_of_none h1 ht).symm
theorem PoolAt.upd {H : Hp} {p l t : Addr} {o : HO} (h : PoolAt H p l) (h1 : t ≠ p) (h2 : t ≠ l) : PoolAt (L2.upd H t o) p l := by
  obtain ⟨ns, pos, cur, cnt, salt, a1, a2, a3, a4⟩ := h
  exact ⟨ns, pos, cur, cnt, salt, by rw [upd_ne h1.symm]; exact a1, by rw [upd_ne h2.symm]; exact a2, a3, a4⟩
/-- an item of a written row of ints at a drawn place -/
theorem pick_at {ms : List Int} {v : Int} (h0 : 0 ≤ v) (h1 : v < ms.length) : ∃ m, m ∈ ms ∧ atI (ms.map V.int) v = some (.int m) := by
  obtain ⟨j, rfl⟩ := Int.eq_ofNat_of_zero_le h0
  have hj : j < ms.length := by omega
  refine ⟨ms[j], List.getElem_mem hj, atI_nat ?_⟩
  rw [List.getElem?_map, List.getElem?_eq_getElem hj]
  rfl
section
variable {P : Program} {w : World} {K : PySem.W.Frag} {mg : Str → Option Value} {base : Heap} {A : At}
/-! ### the law's own draws -/
def spSpread : Sp := fun vs H Q _ => ∃ c : Int, vs = [.int c] ∧ ∀ v : Int, Q (.int v) H
theorem ok_spread (T : Txt K mg A) : FnOk P w K mg base CX0 1 A.a_law_spread A.d_law_spread ["cell"] spSpread := by
  refine T.t_law_spread.F.ok sc_law_spread (fun vs H Q E h => ?_) (fun cdv AA outer s H vs Q E hr h => ?_)
  · obtain ⟨c, rfl, _⟩ := h
    rfl
  · obtain ⟨c, rfl, k⟩ := h
    refine ⟨_, pss_cons (ps_set (i := 1) sc_law_spread.nd rfl (Or.inl rfl) (pe_op op_mod (pe_callTy call_int1 (by rfl) T.z_int PyProof.Rows.boot_int (pa_cons (pv 0) pa_nil)) pe_int))
      (pss_cons (ps_set (i := 2) sc_law_spread.nd rfl (Or.inl rfl) pe_int)
      (pss_cons (ps_for PassesOwn.never rfl (pi_range1 rfl T.z_range (pa_cons pe_int pa_nil)) (pg_name (i := 3) sc_law_spread.nd rfl (Or.inl rfl))
        (pss_cons (ps_set (i := 1) sc_law_spread.nd rfl (Or.inl rfl) (pe_op op_mod (pe_callTy call_int1 (by rfl) T.z_int PyProof.Rows.boot_int (pa_cons (pe_op op_add (pe_op op_add (pe_op op_mul (pv 1) pe_int) pe_int) (pv 3)) pa_nil)) pe_int))
        (pss_one (ps_set (i := 2) sc_law_spread.nd rfl (Or.inl rfl) (pe_op op_add (pe_op op_mul (pv 2) pe_int) (pv 1))))))
      (pss_one (ps_ret (pv 2))))), ?_⟩
    refine ⟨_, rfl, .inl ⟨_, rfl, _, _, rfl, rfl, (by show (0 : Int) < 2147483647; decide), ?_⟩⟩
    refine ⟨4, rfl, by decide, by decide, for_range (n := 4) (fun i σ H2 => H2 = H ∧ ∃ (m t : Int) (v : Option V), σ = [some (.int c), some (.int m), some (.int t), v])
      ⟨rfl, _, _, none, rfl⟩ ?_ ?_⟩
    · rintro i σ H2 hi ⟨rfl, m, t, v, rfl⟩
      refine ⟨_, rfl, _, _, rfl, rfl, .inr ⟨by decide, by decide⟩, _, _, rfl, rfl, _, rfl, _, _, rfl, rfl, .inl ⟨_, rfl, _, _, rfl, rfl, (by show (0 : Int) < 2147483647; decide), ?_⟩⟩
      refine ⟨_, rfl, _, _, rfl, rfl, .inr ⟨by decide, by decide⟩, _, rfl, _, _, rfl, rfl, ?_⟩
      exact ⟨rfl, _, _, _, rfl⟩
    · rintro σ H2 ⟨rfl, m, t, v, rfl⟩
      exact ⟨_, rfl, k _⟩
def spPool (K : PySem.W.Frag) : Sp := fun vs H Q _ => ∃ (a : Addr) (ns : List Int), vs = [.ref a] ∧ SqL K H a (ns.map V.int) ∧ ∀ p l H', PoolAt H' p l → Same H H' → H p = none → H l = none → Q (.ref p) H'
theorem cut_ints {ns : List Int} {lo hi : Option Int} {i : Nat} {y : V} (h : (cutV (ns.map V.int) lo hi)[i]? = some y) : ∃ z, y = V.int z := by
  have h1 : y ∈ cutV (ns.map V.int) lo hi := List.mem_of_getElem? h
  have h2 : y ∈ ns.map V.int := List.mem_of_mem_drop (List.mem_of_mem_take h1)
  obtain ⟨z, _, e⟩ := List.mem_map.mp h2
  exact ⟨z, e.symm⟩
theorem ok_pool (T : Txt K mg A) : FnOk P w K mg base CX0 1 A.a_law_pool A.d_law_pool ["script"] (spPool K) := by
  refine T.t_law_pool.F.ok sc_law_pool (fun vs H Q E h => ?_) (fun cdv AA outer s H vs Q E hr h => ?_)
  · obtain ⟨a, ns, rfl, _⟩ := h
    rfl
  · obtain ⟨a, ns, rfl, hS, k⟩ := h
    refine ⟨_, pss_cons (ps_set (i := 1) sc_law_pool.nd rfl (Or.inl rfl) pe_int)
      (pss_cons (ps_for PassesOwn.never rfl (pi_list (pe_slice sl_list (pv 0) po_none (po_some pe_int))) (pg_name (i := 2) sc_law_pool.nd rfl (Or.inl rfl))
        (pss_one (ps_set (i := 1) sc_law_pool.nd rfl (Or.inl rfl) (pe_op op_mod (pe_callTy call_int1 (by rfl) T.z_int PyProof.Rows.boot_int (pa_cons (pe_op op_add (pe_op op_mul (pv 1) pe_int) (pv 2)) pa_nil)) pe_int))))
      (pss_one (ps_ret (pe_lst (pa_cons (pe_callTy call_list_of (by rfl) T.z_list PyProof.Rows.boot_list (pa_cons (pv 0) pa_nil)) (pa_cons pe_int (pa_cons pe_int (pa_cons pe_int (pa_cons (pv 1) pa_nil))))))))), ?_⟩
    refine ⟨.ref a, rfl, 63, rfl, a, ns.map V.int, rfl, hS, fun c nc => ?_⟩
    have s1 := same_upd (o := .lst (cutV (ns.map V.int) none (some 63))) nc
    refine ⟨c, rfl, ⟨_, .inl (.inl upd_same)⟩, for_list (K := K) (a := c) (xs := cutV (ns.map V.int) none (some 63)) (fun i σ H2 => H2 = upd H c (.lst (cutV (ns.map V.int) none (some 63))) ∧ ∃ (m : Int) (v : Option V), σ = [some (.ref a), some (.int m), v])
      ⟨rfl, _, none, rfl⟩ (fun i σ H2 _ ⟨e, _⟩ => by rw [e]; exact .inl (.inl upd_same)) ?_ ?_⟩
    · rintro i y σ H2 hi ⟨rfl, m, v, rfl⟩
      obtain ⟨z, rfl⟩ := cut_ints hi
      refine ⟨_, rfl, _, _, rfl, rfl, .inr ⟨by decide, by decide⟩, _, rfl, _, _, rfl, rfl, .inl ⟨_, rfl, _, _, rfl, rfl, (by show (0 : Int) < 1000003; decide), ?_⟩⟩
      exact ⟨rfl, _, _, rfl⟩
    · rintro σ H2 ⟨rfl, m, v, rfl⟩
      refine ⟨.ref a, rfl, a, ns.map V.int, rfl, .inl (s1.seq hS), fun l nl => ?_⟩
      have s2 := same_upd (o := .lst (ns.map V.int)) nl
      refine ⟨_, rfl, (by show 5 ≤ sizeLine; decide), fun p np => ?_⟩
      have s3 := fun o => same_upd (o := o) np
      have ne : l ≠ p := ne_of_none upd_same np
      exact k p l _ ⟨ns, 0, 0, 0, m, upd_same, by rw [upd_ne ne, upd_same], Int.le_refl 0, ne⟩ (s1.trans (s2.trans (s3 _))) ((s1.trans s2).free np) (s1.free nl)
def spDraw : Sp := fun vs H Q _ => ∃ (p l : Addr) (many : Int), vs = [.ref p, .int many] ∧ PoolAt H p l ∧ (0 < many ∧ many.natAbs < 2 ^ 8000) ∧ ∀ v H', 0 ≤ v → v < many → PoolAt H' p l → But p H H' → Q (.int v) H'
theorem ok_draw (T : Txt K mg A) : FnOk P w K mg base CX0 2 A.a_law_draw A.d_law_draw ["pool", "many"] spDraw := by
  have GS : FnOk P w K mg base CX0 1 A.a_law_spread A.d_law_spread ["cell"] spSpread := ok_spread T
  refine T.t_law_draw.F.ok sc_law_draw (fun vs H Q E h => ?_) (fun cdv AA outer s H vs Q E hr h => ?_)
  · obtain ⟨p, l, many, rfl, _⟩ := h
    rfl
  · obtain ⟨p, l, many, rfl, ⟨ns, pos, cur, cnt, salt, hp, hl, hpos, hne⟩, ⟨hm, hmb⟩, k⟩ := h
    refine ⟨_, pss_cons (ps_if (PW.pt (pw_and (pt_cmpR op_le (pe_ix ix_list (pv 0) pe_int (fun _ _ => rfl)) pe_int (nomark _)) (pw_and1 (pt_cmpR op_lt (pe_ix ix_list (pv 0) pe_int (fun _ _ => rfl)) (pe_callB call_len_seq (by rfl) T.z_len PySem.boot_len (pa_cons (pe_ix ix_list (pv 0) pe_int (fun _ _ => rfl)) pa_nil)) (nomark _)))))
        (pss_cons (ps_set (i := 2) sc_law_draw.nd rfl (Or.inl rfl) (pe_ix ix_list (pe_ix ix_list (pv 0) pe_int (fun _ _ => rfl)) (pe_ix ix_list (pv 0) pe_int (fun _ _ => rfl)) (fun _ _ => rfl)))
        (pss_cons (ps_asg (pe_op op_add (pe_ix ix_list (pv 0) pe_int (fun _ _ => rfl)) pe_int) (pg_sub (pv 0) pe_int set_list))
        (pss_cons (ps_asg (pv 2) (pg_sub (pv 0) pe_int set_list))
        (pss_one (ps_if (pt_cmpR op_lt (pv 2) pe_int (nomark _))
          (pss_one (ps_asg (pe_call GS hr rfl T.t_law_spread.g T.t_law_spread.F.kp T.t_law_spread.b .nil pass0 (pa_cons (pv 2) pa_nil)) (pg_sub (pv 0) pe_int set_list))) pss_nil))))) pss_nil)
      (pss_cons (ps_asg (pe_op op_add (pe_ix ix_list (pv 0) pe_int (fun _ _ => rfl)) pe_int) (pg_sub (pv 0) pe_int set_list))
      (pss_cons (ps_if (pt_cmpR op_le (pe_ix ix_list (pv 0) pe_int (fun _ _ => rfl)) pe_int (nomark _))
        (pss_cons (ps_set (i := 3) sc_law_draw.nd rfl (Or.inl rfl) (pe_op op_mod (pe_callTy call_int1 (by rfl) T.z_int PyProof.Rows.boot_int (pa_cons (pe_op op_add (pe_op op_add (pe_op op_mul (pe_ix ix_list (pv 0) pe_int (fun _ _ => rfl)) pe_int) (pe_op op_mul (pe_ix ix_list (pv 0) pe_int (fun _ _ => rfl)) pe_int)) pe_int) pa_nil)) pe_int))
        (pss_cons (ps_set (i := 3) sc_law_draw.nd rfl (Or.inl rfl) (pe_op op_mod (pe_callTy call_int1 (by rfl) T.z_int PyProof.Rows.boot_int (pa_cons (pe_op op_add (pe_op op_mul (pv 3) pe_int) (pe_ix ix_list (pv 0) pe_int (fun _ _ => rfl))) pa_nil)) pe_int))
        (pss_one (ps_ret (pe_op op_mod (pe_op op_fdiv (pv 3) pe_int) (pv 1)))))) pss_nil)
      (pss_cons (ps_set (i := 4) sc_law_draw.nd rfl (Or.inl rfl) (pe_op op_mod (pe_callTy call_int1 (by rfl) T.z_int PyProof.Rows.boot_int (pa_cons (pe_ix ix_list (pv 0) pe_int (fun _ _ => rfl)) pa_nil)) (pv 1)))
      (pss_cons (ps_asg (pe_op op_fdivW (pe_ix ix_list (pv 0) pe_int (fun _ _ => rfl)) (pv 1)) (pg_sub (pv 0) pe_int set_list))
      (pss_one (ps_ret (pv 4))))))), ?_⟩
    refine seq_then (fun σ' H' => ∃ (vc : Option V) (pos' cur' : Int), σ' = [some (.ref p), some (.int many), vc, none, none] ∧ But p H H' ∧ H' p = some (.lst [.ref l, .int pos', .int cur', .int cnt, .int salt]) ∧ 0 ≤ pos') ?_ (fun N hN => ?_)
    · -- behind the first if
      rintro σ' H1 ⟨vc, pos', cur', rfl, B1, hp1, hpos1⟩
      refine ⟨_, rfl, p, _, 3, _, rfl, rfl, SqL.of hp1, rfl, _, _, rfl, rfl, _, rfl, p, _, 3, 3, rfl, rfl, hp1, rfl, ?_⟩
      have hp2 : (upd H1 p (.lst [.ref l, .int pos', .int cur', .int (cnt + 1), .int salt])) p = some (.lst [.ref l, .int pos', .int cur', .int (cnt + 1), .int salt]) := upd_same
      have B2 : But p H (upd H1 p (.lst [.ref l, .int pos', .int cur', .int (cnt + 1), .int salt])) := B1.upd
      refine ⟨_, rfl, p, _, 2, _, rfl, rfl, SqL.of hp2, rfl, _, _, rfl, rfl, _, rfl, ite2 (fun _ => ?_) (fun _ => ?_)⟩
      · refine ⟨_, rfl, p, _, 4, _, rfl, rfl, SqL.of hp2, rfl, _, _, rfl, rfl, .inr ⟨by decide, by decide⟩, _, rfl, p, _, 3, _, rfl, rfl, SqL.of hp2, rfl, _, _, rfl, rfl, .inr ⟨by decide, by decide⟩, _, _, rfl, rfl, _, _, rfl, rfl, .inl ⟨_, rfl, _, _, rfl, rfl, (by show (0 : Int) < 2147483647; decide), ?_⟩⟩
        refine ⟨_, rfl, _, _, rfl, rfl, .inr ⟨by decide, by decide⟩, _, rfl, p, _, 3, _, rfl, rfl, SqL.of hp2, rfl, _, _, rfl, rfl, .inl ⟨_, rfl, _, _, rfl, rfl, (by show (0 : Int) < 2147483629; decide), ?_⟩⟩
        refine ⟨_, rfl, _, _, rfl, rfl, ⟨by decide, by decide⟩, _, rfl, _, _, rfl, rfl, hm, ?_⟩
        exact k _ _ (Int.emod_nonneg _ (by omega)) (Int.emod_lt_of_pos _ hm) ⟨ns, _, _, _, _, hp2, B2 _ _ hl hne, hpos1, hne⟩ B2
      · refine ⟨_, rfl, p, _, 2, _, rfl, rfl, SqL.of hp2, rfl, .inl ⟨_, rfl, _, rfl, _, _, rfl, rfl, hm, ?_⟩⟩
        refine ⟨_, rfl, p, _, 2, _, rfl, rfl, SqL.of hp2, rfl, _, rfl, _, _, rfl, rfl, wide_div hm hmb (by decide) (by decide), _, rfl, p, _, 2, 2, rfl, rfl, hp2, rfl, ?_⟩
        refine ⟨_, rfl, ?_⟩
        exact k _ _ (Int.emod_nonneg _ (by omega)) (Int.emod_lt_of_pos _ hm) ⟨ns, _, _, _, _, upd_same, B2.upd _ _ hl hne, hpos1, hne⟩ B2.upd
    · -- the first if
      refine ⟨_, rfl, p, _, 2, _, rfl, rfl, SqL.of hp, rfl, _, _, rfl, rfl, _, rfl, ite2 (fun _ => ?_) (fun _ => ?_)⟩
      · refine ⟨_, rfl, p, _, 1, _, rfl, rfl, SqL.of hp, rfl, _, rfl, p, _, 0, _, rfl, rfl, SqL.of hp, rfl, l, _, rfl, .inl (SqL.of hl), _, _, rfl, rfl, _, rfl, ite2 (fun c2 => ?_) (fun _ => ?_)⟩
        · have c2 : pos < ((ns.map V.int).length : Int) := of_decide_eq_true c2
          rw [List.length_map] at c2
          obtain ⟨z, _, ez⟩ := pick_at hpos c2
          refine ⟨_, rfl, p, _, 0, _, rfl, rfl, SqL.of hp, rfl, _, rfl, p, _, 1, _, rfl, rfl, SqL.of hp, rfl, l, _, pos, _, rfl, rfl, SqL.of hl, ez, ?_⟩
          refine ⟨_, rfl, p, _, 1, _, rfl, rfl, SqL.of hp, rfl, _, _, rfl, rfl, _, rfl, p, _, 1, 1, rfl, rfl, hp, rfl, ?_⟩
          have hp1 : (upd H p (.lst [.ref l, .int (pos + 1), .int cur, .int cnt, .int salt])) p = some (.lst [.ref l, .int (pos + 1), .int cur, .int cnt, .int salt]) := upd_same
          refine ⟨_, rfl, _, rfl, p, _, 2, 2, rfl, rfl, hp1, rfl, ?_⟩
          have hp2 : (upd (upd H p (.lst [.ref l, .int (pos + 1), .int cur, .int cnt, .int salt])) p (.lst [.ref l, .int (pos + 1), .int z, .int cnt, .int salt])) p = some (.lst [.ref l, .int (pos + 1), .int z, .int cnt, .int salt]) := upd_same
          refine ⟨_, rfl, _, _, rfl, rfl, _, rfl, ite2 (fun _ => ?_) (fun _ => ?_)⟩
          · refine ⟨_, rfl, z, rfl, fun v => ⟨_, rfl, p, _, 2, 2, rfl, rfl, hp2, rfl, ?_⟩⟩
            exact hN _ _ ⟨_, _, _, rfl, (((But.refl p H).upd).upd).upd, upd_same, by omega⟩
          · exact hN _ _ ⟨_, _, _, rfl, ((But.refl p H).upd).upd, hp2, by omega⟩
        · exact hN _ _ ⟨none, _, _, rfl, But.refl p H, hp, hpos⟩
      · refine iteF ?_
        exact hN _ _ ⟨none, _, _, rfl, But.refl p H, hp, hpos⟩
end
/-! ### texts by their codes -/
open SX (S S_len S_cat S_inj)
theorem S_take (l : List Nat) (k : Nat) : cutS (S l) none (some (k : Int)) = S (l.take k) := by
  show (⟨((l.drop (HT.sIx (S l).length 0 none)).take (HT.sIx (S l).length (S l).length (some (k : Int)) - HT.sIx (S l).length 0 none)).toArray⟩ : Str) = S (l.take k)
  rw [HT.sIx_none, HT.sIx_nat, S_len, List.drop_zero, Nat.sub_zero]
  congr 2
  rw [List.take_eq_take_iff]
  omega
theorem S_drop (l : List Nat) (k : Nat) : cutS (S l) (some (k : Int)) none = S (l.drop k) := by
  show (⟨((l.drop (HT.sIx (S l).length 0 (some (k : Int)))).take (HT.sIx (S l).length (S l).length none - HT.sIx (S l).length 0 (some (k : Int)))).toArray⟩ : Str) = S (l.drop k)
  rw [HT.sIx_none, HT.sIx_nat, S_len]
  by_cases h : k ≤ l.length
  · rw [Nat.min_eq_left h, List.take_of_length_le (by rw [List.length_drop]; exact Nat.le_refl _)]
  · rw [Nat.min_eq_right (by omega), List.drop_eq_nil_of_le (show l.length ≤ k by omega), Nat.sub_self, List.take_zero]
theorem S_take_neg (l : List Nat) {k : Nat} (h : k ≤ l.length) (h0 : 0 < k) : cutS (S l) none (some (-(k : Int))) = S (l.take (l.length - k)) := by
  have e : HT.sIx (S l).length (S l).length (some (-(k : Int))) = l.length - k := by
    show (if -(k : Int) < 0 then (-(k : Int) + ((S l).length : Int)).toNat else min (-(k : Int)).toNat (S l).length) = l.length - k
    rw [if_pos (by omega), S_len]
    omega
  show (⟨((l.drop (HT.sIx (S l).length 0 none)).take (HT.sIx (S l).length (S l).length (some (-(k : Int))) - HT.sIx (S l).length 0 none)).toArray⟩ : Str) = S (l.take (l.length - k))
  rw [e, HT.sIx_none, List.drop_zero, Nat.sub_zero]
theorem S_drop_neg (l : List Nat) {k : Nat} (h : k ≤ l.length) (h0 : 0 < k) : cutS (S l) (some (-(k : Int))) none = S (l.drop (l.length - k)) := by
  have e : HT.sIx (S l).length 0 (some (-(k : Int))) = l.length - k := by
    show (if -(k : Int) < 0 then (-(k : Int) + ((S l).length : Int)).toNat else min (-(k : Int)).toNat (S l).length) = l.length - k
    rw [if_pos (by omega), S_len]
    omega
  show (⟨((l.drop (HT.sIx (S l).length 0 (some (-(k : Int))))).take (HT.sIx (S l).length (S l).length none - HT.sIx (S l).length 0 (some (-(k : Int))))).toArray⟩ : Str) = S (l.drop (l.length - k))
  rw [e, HT.sIx_none, S_len, List.take_of_length_le (by rw [List.length_drop]; exact Nat.le_refl _)]
/-- equality of texts -/
theorem dec_S (a b : List Nat) : decide (V.str (S a) = V.str (S b)) = decide (a = b) := by
  rw [Bool.eq_iff_iff, decide_eq_true_eq, decide_eq_true_eq]
  exact ⟨fun h => S_inj (V.str.inj h), fun h => by rw [h]⟩
theorem rm_prefix (l : List Nat) (c : Nat) : Txt.removeprefix (S l) (S [c]) = S (if l.head? = some c then l.tail else l) := by
  have e : Builtin.Str.subAt (S l) (S [c]) 0 = decide (l.head? = some c) := by
    unfold Builtin.Str.subAt
    cases l with
    | nil => rfl
    | cons d r =>
      have e1 : (S (d :: r)).cps.extract 0 (0 + (S [c]).length) = #[d] := by
        apply Array.toList_inj.mp
        rw [Array.toList_extract]
        rfl
      rw [e1]
      rw [Bool.eq_iff_iff, beq_iff_eq, decide_eq_true_eq]
      constructor
      · intro h
        have h2 : [d] = [c] := congrArg Array.toList h
        rw [List.head?_cons]
        exact congrArg some (List.cons.inj h2).1
      · intro h
        rw [List.head?_cons] at h
        rw [Option.some.inj h]
  unfold Txt.removeprefix
  rw [e]
  by_cases h : l.head? = some c
  · rw [decide_eq_true h, if_pos rfl, if_pos h]
    cases l with
    | nil => cases h
    | cons d r =>
      show Txt.affix (S (d :: r)) (some (1, (S (d :: r)).length)) = S r
      have hl : (S (d :: r)).length = r.length + 1 := S_len _
      have hne : ¬ ((S (d :: r)).length - 1 = (S (d :: r)).length) := by rw [hl]; omega
      simp only [Txt.affix]
      rw [if_neg (fun z => hne (beq_iff_eq.mp z))]
      refine TL.ext_tl ?_
      rw [TL.tl_strSub_end]
      rfl
  · rw [decide_eq_false h, if_neg Bool.false_ne_true, if_neg h]
    rfl
theorem starts_one (l : List Nat) (c : Nat) : Txt.startswith (S l) (S [c]) = decide (l.head? = some c) := by
  unfold Txt.startswith
  cases l with
  | nil => rfl
  | cons d r =>
    have e1 : (S (d :: r)).cps.extract 0 (0 + (S [c]).length) = #[d] := by
      apply Array.toList_inj.mp
      rw [Array.toList_extract]
      rfl
    unfold Builtin.Str.subAt
    rw [e1]
    have e2 : decide (0 + (S [c]).length ≤ (S (d :: r)).length) = true := decide_eq_true (by rw [S_len, S_len]; simp)
    rw [e2, Bool.true_and]
    rw [Bool.eq_iff_iff, beq_iff_eq, decide_eq_true_eq]
    constructor
    · intro h
      have h2 : [d] = [c] := congrArg Array.toList h
      rw [List.head?_cons]
      exact congrArg some (List.cons.inj h2).1
    · intro h
      rw [List.head?_cons] at h
      rw [Option.some.inj h]
/-- a walk over a text, sign by sign -/
theorem for_str {l : List Nat} {g : TG} {tb : TS} {D : Ends} {σ : St} {H : Hp} (Pv : Nat → St → Hp → Prop) (h0 : Pv 0 σ H)
    (hs : ∀ i c σ H, l[i]? = some c → Pv i σ H → g (.str (S [c])) σ H fun σ2 H2 => tb { D with nx := Pv (i + 1), ct := Pv (i + 1), bk := D.nx } σ2 H2) (hd : ∀ σ H, Pv l.length σ H → D.nx σ H) :
    ∃ W : Nat → Nat → St → Hp → Prop, (∃ m, W 0 m σ H) ∧ ∀ i m σ H, W i m σ H →
      ((Its (S l)).stop i H ∧ D.nx σ H) ∨ ((Its (S l)).go i H ∧ ∃ N : St → Hp → Prop, (∀ σ' H', N σ' H' → ∃ m', m' < m ∧ W (i + 1) m' σ' H') ∧ ∀ x H', (Its (S l)).yld i H x H' → g x σ H' fun σ2 H2 => tb { D with nx := N, ct := N, bk := D.nx } σ2 H2) := by
  refine ⟨fun i m σ H => m = l.length - i ∧ i ≤ l.length ∧ Pv i σ H, ⟨l.length, by simp, Nat.zero_le _, h0⟩, ?_⟩
  rintro i m σ H ⟨rfl, hi, p⟩
  by_cases hlt : i < l.length
  · refine .inr ⟨(by show i < l.toArray.size; simpa using hlt), Pv (i + 1), fun σ' H' p' => ⟨l.length - (i + 1), by omega, rfl, hlt, p'⟩, fun x H' y => ?_⟩
    obtain ⟨e, c, hc, rfl⟩ := y
    subst e
    exact hs i c _ _ (by simpa using hc) p
  · have e : i = l.length := by omega
    subst e
    exact .inl ⟨(by show l.toArray.size ≤ l.length; simp), hd σ H p⟩
/-- a comprehension over a text -/
theorem lc_str {l : List Nat} {g : TG} {tt : TT} {te : TE} {vs : List Nat} {σ : St} {H1 : Hp} {D : Addr} {Qd : Hp → Prop} (Pv : Nat → Hp → Prop) (h0 : Pv 0 (upd H1 D (.lst [])))
    (hs : ∀ i c H, l[i]? = some c → Pv i H → g (.str (S [c])) (wipe σ vs) H fun σ2 H2 => wipe σ2 vs = wipe σ vs ∧ tt σ2 H2 fun b H3 =>
      if b = true then te σ2 H3 fun y H4 => ∃ acc, H4 D = some (.lst acc) ∧ acc.length < sizeLine ∧ Pv (i + 1) (upd H4 D (.lst (acc ++ [y]))) else Pv (i + 1) H3) (hd : ∀ H, Pv l.length H → Qd H) :
    ∃ W : Nat → Nat → Hp → Prop, (∃ m, W 0 m (upd H1 D (.lst []))) ∧ ∀ i m H, W i m H →
      ((Its (S l)).stop i H ∧ Qd H) ∨ ((Its (S l)).go i H ∧ ∃ Nx : Hp → Prop, (∀ H', Nx H' → ∃ m', m' < m ∧ W (i + 1) m' H') ∧ ∀ x H', (Its (S l)).yld i H x H' → g x (wipe σ vs) H' fun σ2 H2 => wipe σ2 vs = wipe σ vs ∧ tt σ2 H2 fun b H3 =>
        if b = true then te σ2 H3 fun y H4 => ∃ acc, H4 D = some (.lst acc) ∧ acc.length < sizeLine ∧ Nx (upd H4 D (.lst (acc ++ [y]))) else Nx H3) := by
  refine ⟨fun i m H => m = l.length - i ∧ i ≤ l.length ∧ Pv i H, ⟨l.length, by simp, Nat.zero_le _, h0⟩, ?_⟩
  rintro i m H ⟨rfl, hi, p⟩
  by_cases hlt : i < l.length
  · refine .inr ⟨(by show i < l.toArray.size; simpa using hlt), Pv (i + 1), fun H' p' => ⟨l.length - (i + 1), by omega, rfl, hlt, p'⟩, fun x H' y => ?_⟩
    obtain ⟨e, c, hc, rfl⟩ := y
    subst e
    exact hs i c _ (by simpa using hc) p
  · have e : i = l.length := by omega
    subst e
    exact .inl ⟨(by show l.toArray.size ≤ l.length; simp), hd H p⟩
/-! ### numerals: the mathematics -/
open NumText (AllDigits digitsVal)
def isDig (c : Nat) : Bool := decide (48 ≤ c) && decide (c ≤ 57)
theorem isDig_iff (c : Nat) : isDig c = true ↔ 48 ≤ c ∧ c ≤ 57 := by
  unfold isDig
  rw [Bool.and_eq_true, decide_eq_true_eq, decide_eq_true_eq]
theorem all_digits {l : List Nat} (h : l.all isDig = true) : AllDigits l := fun c hc => (isDig_iff c).mp (List.all_eq_true.mp h c hc)
theorem digits_all {l : List Nat} (h : AllDigits l) : l.all isDig = true := List.all_eq_true.mpr fun c hc => (isDig_iff c).mpr (h c hc)
/-- the ten digits as a text's codes -/
theorem dig_mem (c : Nat) : decide (c ∈ (Str.ofString "0123456789").cps.toList) = isDig c := by
  have e : (Str.ofString "0123456789").cps.toList = [48, 49, 50, 51, 52, 53, 54, 55, 56, 57] := by decide +kernel
  rw [e, Bool.eq_iff_iff, decide_eq_true_eq, isDig_iff]
  simp only [List.mem_cons, List.not_mem_nil, or_false]
  omega
def numForm (l : List Nat) : Bool := !(decide (l = []) || (decide (l.head? = some 48) && !decide (l = [48]))) && l.all isDig
theorem numForm_ne {l : List Nat} (h : numForm l = true) : l ≠ [] := fun e => by subst e; exact absurd h (by decide)
theorem numForm_dig {l : List Nat} (h : numForm l = true) : AllDigits l := all_digits (Bool.and_eq_true_iff.mp h).2
theorem val_app (a b : List Nat) : digitsVal (a ++ b) = digitsVal a * 10 ^ b.length + digitsVal b := by
  have key : ∀ (b : List Nat) (x : Nat), b.foldl (fun acc c => acc * 10 + (c - 48)) x = x * 10 ^ b.length + b.foldl (fun acc c => acc * 10 + (c - 48)) 0 := by
    intro b
    induction b with
    | nil => intro x; simp
    | cons c r ih =>
      intro x
      rw [List.foldl_cons, List.foldl_cons, ih (x * 10 + (c - 48)), ih (0 * 10 + (c - 48)), List.length_cons, Nat.pow_succ, Nat.add_mul, Nat.zero_mul, Nat.zero_add]
      rw [Nat.mul_assoc x 10, Nat.mul_comm 10 (10 ^ r.length), ← Nat.add_assoc]
  unfold digitsVal
  rw [List.foldl_append]
  exact key b _
theorem val_lt : ∀ (l : List Nat), AllDigits l → digitsVal l < 10 ^ l.length := by
  have key : ∀ (l : List Nat) (x : Nat), AllDigits l → l.foldl (fun acc c => acc * 10 + (c - 48)) x < (x + 1) * 10 ^ l.length := by
    intro l
    induction l with
    | nil => intro x _; simp
    | cons c r ih =>
      intro x h
      have hc := h c (List.mem_cons_self)
      have h2 := ih (x * 10 + (c - 48)) fun d hd => h d (List.mem_cons_of_mem _ hd)
      rw [List.foldl_cons, List.length_cons, Nat.pow_succ]
      refine Nat.lt_of_lt_of_le h2 ?_
      have h3 : x * 10 + (c - 48) + 1 ≤ (x + 1) * 10 := by omega
      have h4 := Nat.mul_le_mul_right (10 ^ r.length) h3
      rw [Nat.mul_assoc, Nat.mul_comm 10] at h4
      exact h4
  intro l h
  have z := key l 0 h
  rw [Nat.zero_add, Nat.one_mul] at z
  exact z
theorem ten_lt (n : Nat) : 10 ^ n < 2 ^ (4 * n + 1) := by
  have h : 10 ^ n ≤ 16 ^ n := Nat.pow_le_pow_left (by decide) n
  have e : 2 ^ (4 * n + 1) = 2 * 16 ^ n := by
    rw [Nat.pow_succ, Nat.pow_mul, Nat.mul_comm]
  have p : 0 < 16 ^ n := Nat.pow_pos (by decide)
  omega
/-- the integer whose decimal form the codes are -/
def fromDec (l : List Nat) : Option Int :=
  if l = [45, 48] ∨ numForm (if l.head? = some 45 then l.tail else l) = false then none
  else some (if l.head? = some 45 then -((digitsVal (if l.head? = some 45 then l.tail else l) : Nat) : Int) else ((digitsVal (if l.head? = some 45 then l.tail else l) : Nat) : Int))
open SX (S S_len S_cat S_inj)
open NumText (AllDigits digitsVal)
section
variable {P : Program} {w : World} {K : PySem.W.Frag} {mg : Str → Option Value} {base : Heap} {A : At}
def spNumForm : Sp := fun vs H Q _ => ∃ l : List Nat, vs = [.str (S l)] ∧ l.length ≤ 100000 ∧ ∀ H', Same H H' → Q (.bl (numForm l)) H'
theorem at_head {l : List Nat} {c : Nat} (h : l.head? = some c) : atI (S l).cps.toList 0 = some c := by
  cases l with
  | nil => cases h
  | cons d r =>
    have e : d = c := Option.some.inj h
    subst e
    exact atI_nat (j := 0) rfl
theorem empty_S (l : List Nat) : decide (V.str (S l) = V.str (Str.ofString "")) = decide (l = []) := dec_S l []
theorem zero_S (l : List Nat) : decide (V.str (S l) = V.str (Str.ofString "0")) = decide (l = [48]) := dec_S l [48]
theorem one_zero_S (c : Nat) : decide (V.str ⟨#[c]⟩ = V.str (Str.ofString "0")) = decide (c = 48) := by
  have e := dec_S [c] [48]
  have e2 : decide ([c] = [48]) = decide (c = 48) := by simp
  rw [e2] at e
  exact e
theorem small_S {l : List Nat} (h : l.length ≤ 100000) : (S l).length ≤ sizeLine := by
  rw [S_len, sizeLine_eq]
  omega
theorem ok_num_form (T : Txt K mg A) : FnOk P w K mg base CX0 1 A.a_has_numeral_form A.d_has_numeral_form ["text"] spNumForm := by
  obtain ⟨uD, eD, rD⟩ := T.m_DIGITS
  refine T.t_has_numeral_form.F.ok sc_has_numeral_form (fun vs H Q E h => ?_) (fun cdv AA outer s H vs Q E hr h => ?_)
  · obtain ⟨l, rfl, _⟩ := h
    rfl
  · obtain ⟨l, rfl, hl, k⟩ := h
    refine ⟨_, (pss_cons (ps_if (PW.pt (pw_or (pt_cmpR op_eq (pv 0) pe_str (nomark _)) (pw_or1 (PW.pt (pw_and (pt_cmpR op_eq (pe_ix ix_str (pv 0) pe_int (fun _ _ => rfl)) pe_str (nomark _)) (pw_and1 (pt_cmpR op_ne (pv 0) pe_str (nomark _)))))))) (pss_one (ps_ret pe_bl)) pss_nil)
      (pss_one (ps_ret (pe_callB (cr_all rfl) (by rfl) T.z_all (by decide +kernel) (pa_cons (pe_lc (own := [("letter", 1)]) (g := gName 1) (tt := tYes) (by rfl) sc_has_numeral_form.nd (pi_str (pv 0)) (blkOk_by (own := [("letter", 1)]) (N := ["text", "letter"]) (sc := defScope s_has_numeral_form) (by decide +kernel)) (fun _ _ _ _ _ => pg_name (i := 1) sc_has_numeral_form.nd rfl (Or.inl rfl)) (fun _ _ _ _ _ => pts_nil) (fun _ _ _ _ _ => (pe_cmpR op_in_sign (pv 1) (pe_glob rfl eD rD) (by rfl)))) pa_nil))))), ?_⟩
    refine ⟨_, rfl, rfl, _, rfl, ite2 (fun h1 => ?_) (fun h1 => ?_)⟩
    · have e : decide (l = []) = true := (empty_S l).symm.trans h1
      have ek : numForm l = false := by unfold numForm; rw [e]; rfl
      rw [ek] at k
      exact iteT (k H (Same.refl H))
    · have h1 : decide (l = []) = false := by rw [← empty_S l]; exact Bool.eq_false_iff.mpr h1
      obtain ⟨c, r, rfl⟩ : ∃ c r, l = c :: r := List.exists_cons_of_ne_nil (of_decide_eq_false h1)
      refine ⟨_, rfl, _, _, c, rfl, rfl, small_S hl, at_head rfl, rfl, _, rfl, ?_⟩
      have rest : ∀ (b : Bool), (decide ((c :: r).head? = some 48) && !decide (c :: r = [48])) = b → b = false → numForm (c :: r) = (c :: r).all isDig := fun b e e2 => by
        unfold numForm
        rw [h1, e, e2]
        rfl
      have tail : (numForm (c :: r) = (c :: r).all isDig) → ∀ (t : TS) (D : Ends) (σ : St), True := fun _ _ _ _ => trivial
      refine ite2 (fun h2 => ?_) (fun h2 => ?_)
      · have h2 : decide (c = 48) = true := (one_zero_S c).symm.trans h2
        refine ⟨_, rfl, rfl, _, rfl, ite2 (fun h3 => ?_) (fun h3 => ?_)⟩
        · have h3 : (!decide (c :: r = [48])) = true := by rw [← zero_S (c :: r)]; exact h3
          have ek : numForm (c :: r) = false := by
            unfold numForm
            have e4 : decide ((c :: r).head? = some 48) = true := decide_eq_true (by rw [of_decide_eq_true h2]; rfl)
            rw [h1, e4, h3]
            rfl
          rw [ek] at k
          exact k H (Same.refl H)
        · have h3 : (!decide (c :: r = [48])) = false := by rw [← zero_S (c :: r)]; exact Bool.eq_false_iff.mpr h3
          rw [rest _ (by rw [h3, Bool.and_false]) rfl] at k
          refine ⟨_, rfl, S (c :: r), rfl, fun p np => lc_str (l := c :: r) (fun i H2 => ∃ H3, Same H H3 ∧ H2 = upd H3 p (.lst ((((c :: r).take i).map isDig).map V.bl)) ∧ H3 p = none)
            ⟨H, Same.refl H, rfl, np⟩ ?_ ?_⟩
          · rintro i b H2 hi ⟨H3, s3, rfl, n3⟩
            refine ⟨rfl, ?_⟩
            refine ⟨_, rfl, _, _, rfl, rfl, ?_⟩
            rw [dig_mem b]
            refine ⟨_, upd_same, ?_, H3, s3, ?_, n3⟩
            · rw [List.length_map, List.length_map, List.length_take, sizeLine_eq]
              omega
            · rw [upd_upd, List.take_add_one, hi, List.map_append, List.map_append]
              rfl
          · rintro H2 ⟨H3, s3, rfl, n3⟩
            refine ⟨_, _, rfl, SqL.of upd_same, ?_⟩
            have e5 : ((((c :: r).take (c :: r).length).map isDig).all id) = (c :: r).all isDig := by
              rw [List.take_length, List.all_map]
              rfl
            rw [e5]
            exact k _ (s3.trans (same_upd n3))
      · have h2 : decide (c = 48) = false := by rw [← one_zero_S c]; exact Bool.eq_false_iff.mpr h2
        have e4 : decide ((c :: r).head? = some 48) = false := decide_eq_false fun e => (of_decide_eq_false h2) (Option.some.inj e)
        rw [rest _ (by rw [e4, Bool.false_and]) rfl] at k
        refine iteF ?_
        refine ⟨_, rfl, S (c :: r), rfl, fun p np => lc_str (l := c :: r) (fun i H2 => ∃ H3, Same H H3 ∧ H2 = upd H3 p (.lst ((((c :: r).take i).map isDig).map V.bl)) ∧ H3 p = none)
          ⟨H, Same.refl H, rfl, np⟩ ?_ ?_⟩
        · rintro i b H2 hi ⟨H3, s3, rfl, n3⟩
          refine ⟨rfl, ?_⟩
          refine ⟨_, rfl, _, _, rfl, rfl, ?_⟩
          rw [dig_mem b]
          refine ⟨_, upd_same, ?_, H3, s3, ?_, n3⟩
          · rw [List.length_map, List.length_map, List.length_take, sizeLine_eq]
            omega
          · rw [upd_upd, List.take_add_one, hi, List.map_append, List.map_append]
            rfl
        · rintro H2 ⟨H3, s3, rfl, n3⟩
          refine ⟨_, _, rfl, SqL.of upd_same, ?_⟩
          have e5 : ((((c :: r).take (c :: r).length).map isDig).all id) = (c :: r).all isDig := by
            rw [List.take_length, List.all_map]
            rfl
          rw [e5]
          exact k _ (s3.trans (same_upd n3))
def spNumberOf (n : Nat) : Sp := fun vs H Q _ => ∃ l : List Nat, vs = [.str (S l)] ∧ AllDigits l ∧ l ≠ [] ∧ l.length ≤ 64 * 2 ^ n ∧ n ≤ 10 ∧ Q (.int ((digitsVal l : Nat) : Int)) H
theorem dig_take {l : List Nat} (h : AllDigits l) (k : Nat) : AllDigits (l.take k) := fun c hc => h c (List.mem_of_mem_take hc)
theorem dig_drop {l : List Nat} (h : AllDigits l) (k : Nat) : AllDigits (l.drop k) := fun c hc => h c (List.mem_of_mem_drop hc)
theorem ten_pow (k : Nat) : (10 : Int) ^ k = ((10 ^ k : Nat) : Int) := by
  induction k with
  | zero => rfl
  | succ k ih =>
    rw [Int.pow_succ, ih, Nat.pow_succ, Int.natCast_mul]
    rfl
theorem pow_two_10 {n : Nat} (h : n ≤ 10) : 2 ^ n ≤ 1024 := Nat.pow_le_pow_right (by decide) h
theorem ten_abs (k : Nat) : ((10 ^ k : Nat) : Int).natAbs < 2 ^ (4 * k + 1) := by
  rw [Int.natAbs_natCast]
  exact ten_lt k
theorem ok_number_of (T : Txt K mg A) : ∀ n : Nat, FnOk P w K mg base CX0 (n + 1) A.a_number_of A.d_number_of ["digits"] (spNumberOf n)
  | 0 => by
    obtain ⟨uP, eP, rP⟩ := T.m_PIECE
    refine T.t_number_of.F.ok sc_number_of (fun vs H Q E h => ?_) (fun cdv AA outer s H vs Q E hr h => ?_)
    · obtain ⟨l, rfl, _⟩ := h
      rfl
    · obtain ⟨l, rfl, hd, hne, hl, _, k⟩ := h
      have hl : l.length ≤ 64 := hl
      refine ⟨_, pss_cons (ps_if (pt_cmpR op_le (pe_callB call_len_str (by rfl) T.z_len PySem.boot_len (pa_cons (pv 0) pa_nil)) (pe_glob rfl eP rP) (nomark _)) (pss_one (ps_ret (pe_callTy call_int_str (by rfl) T.z_int PyProof.Rows.boot_int (pa_cons (pv 0) pa_nil)))) pss_nil) pss_never, ?_⟩
      refine ⟨_, rfl, _, rfl, small_S (by omega), _, _, rfl, rfl, _, rfl, ?_⟩
      have e : decide (((S l).length : Int) ≤ 64) = true := decide_eq_true (by rw [S_len]; omega)
      refine ite2 (fun _ => ?_) (fun h => absurd e h)
      exact ⟨_, rfl, _, _, rfl, intText_digits (x := S l) hd hne (by rw [S_len]; omega), by rw [S_len]; omega, k⟩
  | n + 1 => by
    have G_number_of : FnOk P w K mg base CX0 (n + 1) A.a_number_of A.d_number_of ["digits"] (spNumberOf n) := ok_number_of T n
    obtain ⟨uP, eP, rP⟩ := T.m_PIECE
    refine T.t_number_of.F.ok sc_number_of (fun vs H Q E h => ?_) (fun cdv AA outer s H vs Q E hr h => ?_)
    · obtain ⟨l, rfl, _⟩ := h
      rfl
    · obtain ⟨l, rfl, hd, hne, hl, hn, k⟩ := h
      have p1 := pow_two_10 hn
      have ep : 2 ^ (n + 1) = 2 * 2 ^ n := by rw [Nat.pow_succ]; omega
      have hl5 : l.length ≤ 65536 := by omega
      refine ⟨_, (pss_cons (ps_if (pt_cmpR op_le (pe_callB call_len_str (by rfl) T.z_len PySem.boot_len (pa_cons (pv 0) pa_nil)) (pe_glob rfl eP rP) (nomark _)) (pss_one (ps_ret (pe_callTy call_int_str (by rfl) T.z_int PyProof.Rows.boot_int (pa_cons (pv 0) pa_nil)))) pss_nil)
      (pss_cons (ps_set (i := 1) sc_number_of.nd rfl (Or.inl rfl) (pe_op op_pow pe_int pe_int))
      (pss_cons (ps_set (i := 2) sc_number_of.nd rfl (Or.inl rfl) (pe_glob rfl eP rP))
      (pss_cons (ps_while PassesOwn.never (pt_cmpR op_lt (pe_op op_mul (pv 2) pe_int) (pe_callB call_len_str (by rfl) T.z_len PySem.boot_len (pa_cons (pv 0) pa_nil)) (nomark _)) (pss_cons (ps_set (i := 1) sc_number_of.nd rfl (Or.inl rfl) (pe_op op_mulW (pv 1) (pv 1)))
      (pss_one (ps_set (i := 2) sc_number_of.nd rfl (Or.inl rfl) (pe_op op_mul (pv 2) pe_int)))))
      (pss_one (ps_ret (pe_op op_add (pe_op op_mulW (pe_call G_number_of hr rfl T.t_number_of.g T.t_number_of.F.kp T.t_number_of.b .nil pass0 (pa_cons (pe_slice sl_str (pv 0) po_none (po_some (pe_un un_neg (pv 2)))) pa_nil)) (pv 1)) (pe_call G_number_of hr rfl T.t_number_of.g T.t_number_of.F.kp T.t_number_of.b .nil pass0 (pa_cons (pe_slice sl_str (pv 0) (po_some (pe_un un_neg (pv 2))) po_none) pa_nil))))))))), ?_⟩
      refine ⟨_, rfl, _, rfl, small_S (by omega), _, _, rfl, rfl, _, rfl, ?_⟩
      refine ite2 (fun h1 => ?_) (fun h1 => ?_)
      · have h1 : ((S l).length : Int) ≤ 64 := of_decide_eq_true h1
        rw [S_len] at h1
        exact ⟨_, rfl, _, _, rfl, intText_digits (x := S l) hd hne (by rw [S_len]; omega), by rw [S_len]; omega, k⟩
      · have h1 : ¬ ((S l).length : Int) ≤ 64 := fun z => h1 (decide_eq_true z)
        rw [S_len] at h1
        refine ⟨_, _, rfl, rfl, ⟨by decide, by decide, by decide⟩, ?_⟩
        refine while_by (fun σ H2 => H2 = H ∧ ∃ j : Nat, σ = [some (.str (S l)), some (.int ((10 ^ (64 * 2 ^ j) : Nat) : Int)), some (.int ((64 * 2 ^ j : Nat) : Int))] ∧ 64 * 2 ^ j < l.length)
          (fun σ _ => match σ with | [_, _, some (.int i)] => l.length - i.toNat | _ => 0) ⟨rfl, 0, ?_, by omega⟩ ?_ ?_
        · have e : V.int ((10 : Int) ^ (64 : Int).toNat) = V.int ((10 ^ (64 * 2 ^ 0) : Nat) : Int) := by rw [ten_pow]; rfl
          have e2 : ∀ z : V, z = V.int ((10 ^ (64 * 2 ^ 0) : Nat) : Int) → [some (V.str (S l)), some z, some (V.int 64)] = [some (V.str (S l)), some (V.int ((10 ^ (64 * 2 ^ 0) : Nat) : Int)), some (V.int ((64 * 2 ^ 0 : Nat) : Int))] := fun z hz => by rw [hz]; rfl
          exact e2 _ e
        · rintro σ H2 ⟨rfl, j, rfl, hj⟩
          refine ⟨_, rfl, _, _, rfl, rfl, .inr ⟨by decide, by decide⟩, _, rfl, _, rfl, small_S (by omega), _, _, rfl, rfl, _, rfl, ?_⟩
          have ej : 2 ^ (j + 1) = 2 * 2 ^ j := by rw [Nat.pow_succ]; omega
          refine ite2 (fun h2 => ?_) (fun h2 => ?_)
          · have h2 : ((64 * 2 ^ j : Nat) : Int) * 2 < ((S l).length : Int) := of_decide_eq_true h2
            rw [S_len] at h2
            have hb := ten_abs (64 * 2 ^ j)
            refine ⟨_, rfl, _, rfl, _, _, rfl, rfl, wide_mul hb hb (by omega) (by omega) (by omega), ?_⟩
            refine ⟨_, rfl, _, _, rfl, rfl, .inr ⟨by decide, by decide⟩, ?_⟩
            have e1 : ((10 ^ (64 * 2 ^ j) : Nat) : Int) * ((10 ^ (64 * 2 ^ j) : Nat) : Int) = ((10 ^ (64 * 2 ^ (j + 1)) : Nat) : Int) := by
              rw [← Int.natCast_mul, ← Nat.pow_add]
              congr 2
              omega
            have e2 : ((64 * 2 ^ j : Nat) : Int) * 2 = ((64 * 2 ^ (j + 1) : Nat) : Int) := by omega
            refine ⟨⟨rfl, j + 1, ?_, by omega⟩, ?_⟩
            · rw [← e1, ← e2]
              rfl
            · show l.length - (((64 * 2 ^ j : Nat) : Int) * 2).toNat < l.length - ((64 * 2 ^ j : Nat) : Int).toNat
              have pj : 0 < 2 ^ j := Nat.pow_pos (by decide)
              rw [e2, Int.toNat_natCast, Int.toNat_natCast]
              omega
          · have h2 : ¬ ((64 * 2 ^ j : Nat) : Int) * 2 < ((S l).length : Int) := fun z => h2 (decide_eq_true z)
            rw [S_len] at h2
            generalize hw : 64 * 2 ^ j = wd at hj h2 ⊢
            have hwd : 64 ≤ wd := by
              have : 0 < 2 ^ j := Nat.pow_pos (by decide)
              omega
            have hwn : wd ≤ 64 * 2 ^ n := by
              have hjn : 2 ^ j < 2 ^ (n + 1) := by omega
              have hjn2 : j < n + 1 := (Nat.pow_lt_pow_iff_right (by decide)).mp hjn
              have : 2 ^ j ≤ 2 ^ n := Nat.pow_le_pow_right (by decide) (by omega)
              omega
            have t1 : (l.take (l.length - wd)).length = l.length - wd := by rw [List.length_take]; omega
            have t2 : (l.drop (l.length - wd)).length = wd := by rw [List.length_drop]; omega
            refine ⟨_, rfl, _, rfl, _, rfl, _, rfl, S l, rfl, small_S (by omega), ?_⟩
            rw [S_take_neg l (by omega) (by omega)]
            refine ⟨_, rfl, dig_take hd _, (fun e => by rw [e] at t1; simp at t1; omega), by omega, by omega, ?_⟩
            have v1 := val_lt _ (dig_take hd (l.length - wd))
            rw [t1] at v1
            have v2 : (((digitsVal (l.take (l.length - wd))) : Nat) : Int).natAbs < 2 ^ (4 * (l.length - wd) + 1) := by
              rw [Int.natAbs_natCast]
              exact Nat.lt_trans v1 (ten_lt _)
            refine ⟨_, rfl, _, _, rfl, rfl, wide_mul v2 (ten_abs wd) (by omega) (by omega) (by omega), ?_⟩
            refine ⟨_, rfl, _, rfl, _, rfl, _, rfl, S l, rfl, small_S (by omega), ?_⟩
            rw [S_drop_neg l (by omega) (by omega)]
            refine ⟨_, rfl, dig_drop hd _, (fun e => by rw [e] at t2; simp at t2; omega), by omega, by omega, ?_⟩
            refine ⟨_, _, rfl, rfl, ?_⟩
            have ev : digitsVal l = digitsVal (l.take (l.length - wd)) * 10 ^ wd + digitsVal (l.drop (l.length - wd)) := by
              have z := val_app (l.take (l.length - wd)) (l.drop (l.length - wd))
              rw [List.take_append_drop, t2] at z
              exact z
            rw [ev, Int.natCast_add, Int.natCast_mul] at k
            exact k
        · intro σ H2 Q1 Q2 f h
          obtain ⟨v, e1, i, j, e2, e3, c, v', e4, z, e5, e6, i2, j2, e7, e8, kk, e9, q⟩ := h
          exact ⟨v, e1, i, j, e2, e3, c, v', e4, z, e5, e6, i2, j2, e7, e8, kk, e9, f _ _ q⟩
def spFromDigits (C : Addr) : Sp := fun vs H Q E => ∃ l : List Nat, vs = [.str (S l)] ∧ l.length ≤ 60000 ∧ (fromDec l = none → ∀ H', Same H H' → E (.ref C) none H') ∧ (∀ n, fromDec l = some n → ∀ H', Same H H' → Q (.int n) H')
theorem min_zero_S (l : List Nat) : decide (V.str (S l) = V.str (Str.ofString "-0")) = decide (l = [45, 48]) := dec_S l [45, 48]
theorem ok_from_digits (T : Txt K mg A) : FnOk P w K mg base (L2.CX P w) 12 A.a_from_digits A.d_from_digits ["text"] (spFromDigits A.C_InvalidNumeral) := by
  have G_has_numeral_form : FnOk P w K mg base CX0 1 A.a_has_numeral_form A.d_has_numeral_form ["text"] spNumForm := ok_num_form T
  have G_number_of : FnOk P w K mg base CX0 11 A.a_number_of A.d_number_of ["digits"] (spNumberOf 10) := ok_number_of T 10
  refine T.t_from_digits.F.okX sc_from_digits (fun vs H Q E h => ?_) (fun cdv AA outer s H vs Q E hr h => ?_)
  · obtain ⟨l, rfl, _⟩ := h
    rfl
  · obtain ⟨l, rfl, hl, kE, kQ⟩ := h
    refine ⟨_, (pss_cons (ps_set (i := 1) sc_from_digits.nd rfl (Or.inl rfl) (pe_m1 PySem.F.slot_str_removeprefix PySem.F.type_str_removeprefix mt_removeprefix (pv 0) pe_str))
      (pss_cons (ps_if (PW.pt (pw_or (pt_cmpR op_eq (pv 0) pe_str (nomark _)) (pw_or1 (pt_not (pt_val (pe_call G_has_numeral_form (hr.mono (by decide)) rfl T.t_has_numeral_form.g T.t_has_numeral_form.F.kp T.t_has_numeral_form.b .nil pass0 (pa_cons (pv 1) pa_nil))))))) (pss_one (ps_raise rfl (takes_of rfl rfl rfl rfl) (pmk_own PySem.F.excBase_ValueError T.e_InvalidNumeral.ex T.e_InvalidNumeral.g T.e_InvalidNumeral.k (raises_own T.e_InvalidNumeral.b T.e_InvalidNumeral.t) rfl))) pss_nil)
      (pss_cons (ps_set (i := 2) sc_from_digits.nd rfl (Or.inl rfl) (pe_call G_number_of (hr.mono (by decide)) rfl T.t_number_of.g T.t_number_of.F.kp T.t_number_of.b .nil pass0 (pa_cons (pv 1) pa_nil)))
      (pss_cons (ps_if (pt_val (pe_m1 PySem.F.slot_str_startswith PySem.F.type_str_startswith mt_startswith (pv 0) pe_str)) (pss_one (ps_ret (pe_un un_neg (pv 2)))) pss_nil)
      (pss_one (ps_ret (pv 2))))))), ?_⟩
    refine ⟨_, rfl, ⟨_, rfl⟩, _, _, rfl, rfl, small_S (by omega), ?_⟩
    rw [show Txt.removeprefix (S l) (Str.ofString "-") = S (if l.head? = some 45 then l.tail else l) from rm_prefix l 45]
    have hdl : (if l.head? = some 45 then l.tail else l).length ≤ 60000 := by
      split
      · rw [List.length_tail]; omega
      · exact hl
    have ef : fromDec l = if l = [45, 48] ∨ numForm (if l.head? = some 45 then l.tail else l) = false then none
      else some (if l.head? = some 45 then -((digitsVal (if l.head? = some 45 then l.tail else l) : Nat) : Int) else ((digitsVal (if l.head? = some 45 then l.tail else l) : Nat) : Int)) := rfl
    generalize (if l.head? = some 45 then l.tail else l) = d at ef hdl ⊢
    refine ⟨_, rfl, rfl, _, rfl, ite2 (fun h1 => ?_) (fun h1 => ?_)⟩
    · have h1 : l = [45, 48] := of_decide_eq_true ((min_zero_S l).symm.trans h1)
      rw [if_pos (Or.inl h1)] at ef
      exact kE ef H (Same.refl H)
    · have h1 : ¬ l = [45, 48] := fun e => h1 ((min_zero_S l).trans (decide_eq_true e))
      refine ⟨_, rfl, d, rfl, by omega, fun H' s' => ⟨_, rfl, ?_⟩⟩
      cases hf : numForm d with
      | false =>
        rw [if_pos (Or.inr hf)] at ef
        exact kE ef H' s'
      | true =>
        rw [if_neg (fun z => z.elim h1 fun z => by rw [hf] at z; cases z)] at ef
        refine iteF ?_
        refine ⟨_, rfl, d, rfl, numForm_dig hf, numForm_ne hf, by omega, by decide, ?_⟩
        refine ⟨_, rfl, ⟨_, rfl⟩, _, _, rfl, rfl, _, rfl, ?_⟩
        rw [show Txt.startswith (S l) (Str.ofString "-") = decide (l.head? = some 45) from starts_one l 45]
        refine ite2 (fun h2 => ?_) (fun h2 => ?_)
        · rw [if_pos (of_decide_eq_true h2)] at ef
          exact ⟨_, rfl, _, rfl, kQ _ ef H' s'⟩
        · rw [if_neg (fun z => h2 (decide_eq_true z))] at ef
          exact ⟨_, rfl, kQ _ ef H' s'⟩
end
/-! ### decimal texts: the mathematics of writing -/
open SX (S S_len S_cat S_inj)
open NumText (AllDigits digitsVal)
open TL (numL numL_lt numL_step numL_digits numL_ne numL_val)
/-- the w digits of m, with leading zeros -/
def padL : Nat → Nat → List Nat
  | 0, _ => []
  | w + 1, m => padL w (m / 10) ++ [48 + m % 10]
theorem padL_len : ∀ w m, (padL w m).length = w
  | 0, _ => rfl
  | w + 1, m => by rw [padL, List.length_append, padL_len w]; rfl
theorem padL_zero : ∀ w, padL w 0 = List.replicate w 48
  | 0 => rfl
  | w + 1 => by
    rw [padL, Nat.zero_div, padL_zero w, Nat.zero_mod, List.replicate_succ']
theorem padL_app : ∀ (b a x y : Nat), y < 10 ^ b → padL (a + b) (x * 10 ^ b + y) = padL a x ++ padL b y
  | 0, a, x, y, h => by
    have e : y = 0 := by rw [Nat.pow_zero] at h; omega
    subst e
    simp [padL]
  | b + 1, a, x, y, h => by
    have h2 : y / 10 < 10 ^ b := by rw [Nat.pow_succ] at h; omega
    have e1 : (x * 10 ^ (b + 1) + y) / 10 = x * 10 ^ b + y / 10 := by
      rw [Nat.pow_succ, ← Nat.mul_assoc]
      omega
    have e2 : (x * 10 ^ (b + 1) + y) % 10 = y % 10 := by
      rw [Nat.pow_succ, ← Nat.mul_assoc]
      omega
    show padL (a + b) ((x * 10 ^ (b + 1) + y) / 10) ++ [48 + (x * 10 ^ (b + 1) + y) % 10] = padL a x ++ (padL b (y / 10) ++ [48 + y % 10])
    rw [e1, e2, padL_app b a x (y / 10) h2, List.append_assoc]
theorem numL_pad : ∀ (w h m : Nat), 1 ≤ h → m < 10 ^ w → numL (h * 10 ^ w + m) = numL h ++ padL w m
  | 0, h, m, hh, hm => by
    have e : m = 0 := by rw [Nat.pow_zero] at hm; omega
    subst e
    simp [padL]
  | w + 1, h, m, hh, hm => by
    have h2 : m / 10 < 10 ^ w := by rw [Nat.pow_succ] at hm; omega
    have p : 0 < 10 ^ w := Nat.pow_pos (by decide)
    have p2 : 1 * 10 ^ w ≤ h * 10 ^ w := Nat.mul_le_mul_right _ hh
    have e1 : (h * 10 ^ (w + 1) + m) / 10 = h * 10 ^ w + m / 10 := by
      rw [Nat.pow_succ, ← Nat.mul_assoc]
      omega
    have e2 : (h * 10 ^ (w + 1) + m) % 10 = m % 10 := by
      rw [Nat.pow_succ, ← Nat.mul_assoc]
      omega
    have h10 : 10 ≤ h * 10 ^ (w + 1) + m := by
      rw [Nat.pow_succ, ← Nat.mul_assoc]
      omega
    rw [numL_step h10, e1, e2, numL_pad w h (m / 10) hh h2, List.append_assoc]
    rfl
theorem numL_len_pos (n : Nat) : 1 ≤ (numL n).length := List.length_pos_iff.mpr (numL_ne n)
theorem numL_le : ∀ (w m : Nat), m < 10 ^ (w + 1) → (numL m).length ≤ w + 1
  | 0, m, h => by rw [numL_lt (by simpa using h)]; exact Nat.le_refl 1
  | w + 1, m, h => by
    by_cases h9 : m < 10
    · rw [numL_lt h9]
      simp
    · have h2 : m / 10 < 10 ^ (w + 1) := by rw [Nat.pow_succ] at h; omega
      rw [numL_step (by omega), List.length_append]
      have := numL_le w (m / 10) h2
      simp
      omega
theorem padL_num : ∀ (w m : Nat), m < 10 ^ (w + 1) → padL (w + 1) m = List.replicate (w + 1 - (numL m).length) 48 ++ numL m
  | 0, m, h => by
    have h9 : m < 10 := by simpa using h
    rw [numL_lt h9]
    show [] ++ [48 + m % 10] = _
    rw [Nat.mod_eq_of_lt h9]
    rfl
  | w + 1, m, h => by
    have h2 : m / 10 < 10 ^ (w + 1) := by rw [Nat.pow_succ] at h; omega
    by_cases h9 : m < 10
    · rw [numL_lt h9]
      show padL (w + 1) (m / 10) ++ [48 + m % 10] = _
      rw [Nat.div_eq_of_lt h9, padL_zero, Nat.mod_eq_of_lt h9]
      rfl
    · show padL (w + 1) (m / 10) ++ [48 + m % 10] = _
      have hl := numL_le w (m / 10) h2
      rw [numL_step (show 10 ≤ m by omega), padL_num w (m / 10) h2, List.length_append, List.append_assoc]
      have e : w + 1 + 1 - ((numL (m / 10)).length + [48 + m % 10].length) = w + 1 - (numL (m / 10)).length := by
        rw [List.length_singleton]
        omega
      rw [e]
/-- the first digit of a number that is not zero -/
theorem numL_head : ∀ n : Nat, 1 ≤ n → ∃ c r, numL n = c :: r ∧ c ≠ 48 := by
  intro n
  induction n using Nat.strongRecOn with
  | _ n ih =>
    intro h
    by_cases h9 : n < 10
    · exact ⟨48 + n, [], numL_lt h9, by omega⟩
    · obtain ⟨c, r, e, hc⟩ := ih (n / 10) (by omega) (by omega)
      exact ⟨c, r ++ [48 + n % 10], by rw [numL_step (by omega), e]; rfl, hc⟩
theorem numL_last (n : Nat) : ∃ r, numL n = r ++ [48 + n % 10] := by
  by_cases h9 : n < 10
  · exact ⟨[], by rw [numL_lt h9, Nat.mod_eq_of_lt h9]; rfl⟩
  · exact ⟨_, numL_step (by omega)⟩
theorem numForm_num (n : Nat) : numForm (numL n) = true := by
  unfold numForm
  have e1 : decide (numL n = []) = false := decide_eq_false (numL_ne n)
  have e3 : (numL n).all isDig = true := digits_all (numL_digits n)
  rw [e1, e3]
  by_cases h0 : n = 0
  · subst h0
    decide +kernel
  · obtain ⟨c, r, e, hc⟩ := numL_head n (by omega)
    rw [e]
    have e2 : decide ((c :: r).head? = some 48) = false := decide_eq_false fun z => hc (Option.some.inj z)
    rw [e2]
    rfl
/-- the decimal form of an integer -/
def decL (i : Int) : List Nat := if i < 0 then 45 :: numL i.natAbs else numL i.natAbs
theorem fromDec_decL (i : Int) : fromDec (decL i) = some i := by
  unfold decL
  by_cases h : i < 0
  · rw [if_pos h]
    unfold fromDec
    have e : (45 :: numL i.natAbs).head? = some 45 := rfl
    have n0 : 1 ≤ i.natAbs := by omega
    obtain ⟨c, r, ec, hc⟩ := numL_head i.natAbs n0
    have hne : ¬ (45 :: numL i.natAbs = [45, 48] ∨ numForm (numL i.natAbs) = false) := by
      rintro (z | z)
      · rw [ec] at z
        exact hc (List.cons.inj (List.cons.inj z).2).1
      · rw [numForm_num] at z
        cases z
    rw [if_pos e, if_pos e]
    show (if 45 :: numL i.natAbs = [45, 48] ∨ numForm (numL i.natAbs) = false then none else some (-((digitsVal (numL i.natAbs) : Nat) : Int))) = some i
    rw [if_neg hne, numL_val]
    congr 1
    omega
  · rw [if_neg h]
    unfold fromDec
    have e : ¬ (numL i.natAbs).head? = some 45 := fun z => by
      have hm : 45 ∈ numL i.natAbs := List.mem_of_mem_head? z
      have := numL_digits i.natAbs 45 hm
      omega
    have hne : ¬ (numL i.natAbs = [45, 48] ∨ numForm (numL i.natAbs) = false) := by
      rintro (z | z)
      · rw [z] at e
        exact e rfl
      · rw [numForm_num] at z
        cases z
    rw [if_neg e, if_neg e, if_neg hne, numL_val]
    congr 1
    omega
theorem decL_len {i : Int} {w : Nat} (h : i.natAbs < 10 ^ (w + 1)) : (decL i).length ≤ w + 2 := by
  have := numL_le w _ h
  unfold decL
  split
  · rw [List.length_cons]; omega
  · omega
theorem zfill_S {l : List Nat} (hl : AllDigits l) (w : Nat) : Txt.zfill (S l) (w : Int) = S (List.replicate (w - l.length) 48 ++ l) := by
  unfold Txt.zfill
  have el := S_len l
  by_cases h : (w : Int) ≤ ((S l).length : Int)
  · rw [if_pos h]
    rw [el] at h
    rw [show w - l.length = 0 by omega]
    rfl
  · rw [if_neg h]
    have e : Builtin.Str.padded (S l) (w - l.length) 0 48 = S (List.replicate (w - l.length) 48 ++ l) := by
      refine TL.ext_tl ?_
      unfold Builtin.Str.padded TL.tl
      simp
    unfold PySem.zfilled
    rw [Int.toNat_natCast, el]
    cases l with
    | nil => exact e
    | cons c r =>
      have hc := hl c (List.mem_cons_self)
      have e0 : (S (c :: r)).cps[0]? = some c := rfl
      rw [e0]
      split
      · rename_i h43
        have := Option.some.inj h43
        omega
      · rename_i h45
        have := Option.some.inj h45
        omega
      · exact e
theorem num_S (n : Nat) : Str.ofString (toString ((n : Nat) : Int)) = S (numL n) := SX.num_S n
theorem mul_S (l : List Nat) {n : Int} (h0 : 0 ≤ n) : Txt.mul (S l) n = S (List.replicate n.toNat l).flatten := by
  have key : ∀ (m : Nat) (acc : Array Nat), ((List.replicate m l.toArray).foldl (· ++ ·) acc).toList = acc.toList ++ (List.replicate m l).flatten := by
    intro m
    induction m with
    | zero => intro acc; simp
    | succ m ih =>
      intro acc
      rw [List.replicate_succ, List.foldl_cons, ih, List.replicate_succ, List.flatten_cons]
      simp
  unfold Txt.mul
  by_cases h1 : n < 1
  · have e : n = 0 := by omega
    subst e
    rw [if_pos h1]
    rfl
  · rw [if_neg h1]
    by_cases h2 : (n == 1 || (S l).length == 0) = true
    · rw [if_pos h2]
      rcases Bool.or_eq_true_iff.mp h2 with z | z
      · have e : n = 1 := by simpa using z
        subst e
        show S l = S ([l].flatten)
        simp
      · have e : l = [] := by
          have : (S l).length = 0 := by simpa using z
          rw [S_len] at this
          exact List.length_eq_zero_iff.mp this
        subst e
        simp
    · rw [if_neg h2]
      refine TL.ext_tl ?_
      show ((List.replicate n.toNat l.toArray).foldl (· ++ ·) #[]).toList = _
      rw [key]
      rfl
/-- a short text taken several times -/
theorem op_mulS {X : Cx} : OpR X (binaryOp .Mult) (fun x y H Q => ∃ (l : List Nat) (n : Int), x = .str (S l) ∧ y = .int n ∧ (0 ≤ n ∧ n ≤ 10000) ∧ l.length ≤ 1000 ∧ Q (.str (S (List.replicate n.toNat l).flatten)) H) := by
  intro pins s σ H x y v u Q I rx ry h
  obtain ⟨l, n, rfl, rfl, ⟨h0, h1⟩, hl, q⟩ := h
  obtain ⟨t, rfl⟩ := rx
  obtain ⟨t', rfl⟩ := ry
  refine PySem.SB.mul ⟨?_, ?_, ?_⟩ fun t2 k => ⟨.str _, H, I.tok _, ⟨t2, by rw [mul_S l h0]⟩, q⟩
  · rw [Bool.or_eq_false_iff]
    exact ⟨decide_eq_false (by omega), decide_eq_false (by omega)⟩
  · intro _ _ hgt
    rw [S_len] at hgt
    have h2 : (1000 : Int) ≤ (2 ^ 63 - 1) / n := by
      rw [Int.le_ediv_iff_mul_le (by omega)]
      omega
    omega
  · intro _ _
    unfold Builtin.Str.tooLong
    rw [S_len, sizeLine_eq]
    refine decide_eq_false ?_
    have h3 : l.length * n.toNat ≤ 1000 * 10000 := Nat.mul_le_mul hl (by omega)
    omega
open SX (S S_len S_cat S_inj)
open NumText (AllDigits digitsVal)
open TL (numL numL_lt numL_step numL_digits numL_ne numL_val)
section
variable {P : Program} {w : World} {K : PySem.W.Frag} {mg : Str → Option Value} {base : Heap} {A : At}
theorem log_lt {n k : Nat} (h : n < 2 ^ k) (h0 : 0 < k) : n.log2 < k := PySem.Flt.log2_lt_of h0 h
theorem le_log {n k : Nat} (h : 2 ^ k ≤ n) : k ≤ n.log2 := by
  have hn : n ≠ 0 := by
    have : 0 < 2 ^ k := Nat.pow_pos (by decide)
    omega
  exact (Nat.le_log2 hn).mpr h
/-- divmod of such numbers is done by C itself -/
theorem div_small {n j : Nat} (hn : n < 10 ^ 5400) (hp : 10 ^ (64 * 2 ^ j) ≤ n) : CDivP (n : Int) ((10 ^ (64 * 2 ^ j) : Nat) : Int) := by
  have p0 : 0 < 10 ^ (64 * 2 ^ j) := Nat.pow_pos (by decide)
  refine ⟨by omega, ?_⟩
  have n0 : n ≠ 0 := by omega
  have hj : j ≤ 6 := Decidable.byContradiction fun c => by
    have : 2 ^ 7 ≤ 2 ^ j := Nat.pow_le_pow_right (by decide) (by omega)
    have h2 : 10 ^ 5400 ≤ 10 ^ (64 * 2 ^ j) := Nat.pow_le_pow_right (by decide) (by omega)
    omega
  show (decide ((if ((10 ^ (64 * 2 ^ j) : Nat) : Int) == 0 then 0 else ((10 ^ (64 * 2 ^ j) : Nat) : Int).natAbs.log2 / 30 + 1) > 300) && decide ((if (n : Int) == 0 then 0 else (n : Int).natAbs.log2 / 30 + 1) > (if ((10 ^ (64 * 2 ^ j) : Nat) : Int) == 0 then 0 else ((10 ^ (64 * 2 ^ j) : Nat) : Int).natAbs.log2 / 30 + 1) + 150)) = false
  have e1 : ¬ ((((10 ^ (64 * 2 ^ j) : Nat) : Int) == 0) = true) := fun z => by
    have := eq_of_beq z
    omega
  have e2 : ¬ (((n : Int) == 0) = true) := fun z => by
    have := eq_of_beq z
    omega
  rw [if_neg e1, if_neg e2, Int.natAbs_natCast, Int.natAbs_natCast]
  by_cases h6 : j = 6
  · subst h6
    have l1 : 13500 ≤ (10 ^ (64 * 2 ^ 6)).log2 := le_log (by decide +kernel)
    have l2 : n.log2 < 17940 := log_lt (Nat.lt_trans hn (by decide +kernel)) (by decide)
    rw [Bool.and_eq_false_iff]
    right
    exact decide_eq_false (by omega)
  · have h5 : 64 * 2 ^ j ≤ 2048 := by
      have : 2 ^ j ≤ 2 ^ 5 := Nat.pow_le_pow_right (by decide) (by omega)
      omega
    have l1 : (10 ^ (64 * 2 ^ j)).log2 < 8200 := log_lt (Nat.lt_of_le_of_lt (Nat.pow_le_pow_right (by decide) h5) (by decide +kernel)) (by decide)
    rw [Bool.and_eq_false_iff]
    left
    exact decide_eq_false (by omega)
def spNumeralOf (lv : Nat) : Sp := fun vs H Q _ => ∃ n : Nat, vs = [.int (n : Int)] ∧ n < 10 ^ (64 * 2 ^ lv) ∧ n < 10 ^ 5400 ∧ lv ≤ 10 ∧ ∀ H', Same H H' → Q (.str (S (numL n))) H'
theorem log_64 {n : Nat} (h : n < 10 ^ 64) : (n : Int).natAbs.log2 < 1920 := by
  rw [Int.natAbs_natCast]
  exact Nat.lt_trans (log_lt (Nat.lt_trans h (by decide +kernel : 10 ^ 64 < 2 ^ 300)) (by decide)) (by decide)
theorem lt_pow {n : Nat} {k : Nat} : ((n : Int) < (10 : Int) ^ k) ↔ n < 10 ^ k := by
  rw [ten_pow]
  omega
theorem ten64 {z : Int} (h : z = (10 : Int) ^ (64 : Int).toNat) : z = ((10 ^ 64 : Nat) : Int) := h.trans (ten_pow _)
/-- ** whose answer is a letter -/
theorem op_powP {X : Cx} : OpR X (binaryOp .Pow) (fun x y H Q => ∃ i j, x = .int i ∧ y = .int j ∧ CPow i j ∧ ∀ z, z = i ^ j.toNat → Q (.int z) H) := by
  intro pins s σ H x y v u Q I rx ry h
  obtain ⟨i, j, rfl, rfl, c, q⟩ := h
  exact op_pow pins s σ H _ _ v u Q I rx ry ⟨i, j, rfl, rfl, c, q _ rfl⟩
theorem num_len {n : Nat} (h : n < 10 ^ 5400) : (numL n).length ≤ 5400 := numL_le 5399 n h
theorem ok_numeral_of (T : Txt K mg A) : ∀ lv : Nat, FnOk P w K mg base CX0 (lv + 1) A.a_numeral_of A.d_numeral_of ["number"] (spNumeralOf lv)
  | 0 => by
    obtain ⟨uP, eP, rP⟩ := T.m_PIECE
    refine T.t_numeral_of.F.ok sc_numeral_of (fun vs H Q E h => ?_) (fun cdv AA outer s H vs Q E hr h => ?_)
    · obtain ⟨n, rfl, _⟩ := h
      rfl
    · obtain ⟨n, rfl, h1, _, _, k⟩ := h
      have h1 : n < 10 ^ 64 := h1
      refine ⟨_, pss_cons (ps_set (i := 1) sc_numeral_of.nd rfl (Or.inl rfl) (pe_op op_powP pe_int pe_int)) (pss_cons (ps_if (pt_cmpR op_lt (pv 0) (pv 1) (nomark _)) (pss_one (ps_ret (pe_callTy call_str_int (by rfl) T.z_str PyProof.Rows.boot_str (pa_cons (pv 0) pa_nil)))) pss_nil) pss_never), ?_⟩
      refine ⟨_, _, rfl, rfl, ⟨by decide, by decide, by decide⟩, fun pw epw => ?_⟩
      have epw := ten64 epw
      refine ⟨_, rfl, _, rfl, _, _, rfl, rfl, _, rfl, ?_⟩
      refine ite2 (fun _ => ?_) (fun h => absurd (decide_eq_true (show (n : Int) < pw by omega)) h)
      refine ⟨_, rfl, _, rfl, log_64 h1, ?_⟩
      rw [num_S]
      exact k H (Same.refl H)
  | lv + 1 => by
    have G_numeral_of : FnOk P w K mg base CX0 (lv + 1) A.a_numeral_of A.d_numeral_of ["number"] (spNumeralOf lv) := ok_numeral_of T lv
    obtain ⟨uP, eP, rP⟩ := T.m_PIECE
    refine T.t_numeral_of.F.ok sc_numeral_of (fun vs H Q E h => ?_) (fun cdv AA outer s H vs Q E hr h => ?_)
    · obtain ⟨n, rfl, _⟩ := h
      rfl
    · obtain ⟨n, rfl, h1, h54, hlv, k⟩ := h
      refine ⟨_, (pss_cons (ps_set (i := 1) sc_numeral_of.nd rfl (Or.inl rfl) (pe_op op_powP pe_int pe_int))
      (pss_cons (ps_if (pt_cmpR op_lt (pv 0) (pv 1) (nomark _)) (pss_one (ps_ret (pe_callTy call_str_int (by rfl) T.z_str PyProof.Rows.boot_str (pa_cons (pv 0) pa_nil)))) pss_nil)
      (pss_cons (ps_set (i := 2) sc_numeral_of.nd rfl (Or.inl rfl) (pe_glob rfl eP rP))
      (pss_cons (ps_while PassesOwn.never (pt_cmpR op_le (pe_op op_mulW (pv 1) (pv 1)) (pv 0) (nomark _)) (pss_cons (ps_set (i := 1) sc_numeral_of.nd rfl (Or.inl rfl) (pe_op op_mulW (pv 1) (pv 1)))
      (pss_one (ps_set (i := 2) sc_numeral_of.nd rfl (Or.inl rfl) (pe_op op_mul (pv 2) pe_int)))))
      (pss_cons (ps_asg (pe_callB call_divmodW (by rfl) T.z_divmod (by decide +kernel) (pa_cons (pv 0) (pa_cons (pv 1) pa_nil))) (pg_tup rfl (pgs_cons (pg_name (i := 3) sc_numeral_of.nd rfl (Or.inl rfl)) (pgs_cons (pg_name (i := 4) sc_numeral_of.nd rfl (Or.inl rfl)) pgs_nil))))
      (pss_one (ps_ret (pe_op op_add_str (pe_call G_numeral_of hr rfl T.t_numeral_of.g T.t_numeral_of.F.kp T.t_numeral_of.b .nil pass0 (pa_cons (pv 3) pa_nil)) (pe_m1 PySem.F.slot_str_zfill PySem.F.type_str_zfill mt_zfill (pe_call G_numeral_of hr rfl T.t_numeral_of.g T.t_numeral_of.F.kp T.t_numeral_of.b .nil pass0 (pa_cons (pv 4) pa_nil)) (pv 2)))))))))), ?_⟩
      refine ⟨_, _, rfl, rfl, ⟨by decide, by decide, by decide⟩, fun pw epw => ?_⟩
      have epw := ten64 epw
      refine ⟨_, rfl, _, rfl, _, _, rfl, rfl, _, rfl, ?_⟩
      refine ite2 (fun h2 => ?_) (fun h2 => ?_)
      · have h2 : (n : Int) < pw := of_decide_eq_true h2
        have h2 : n < 10 ^ 64 := by omega
        refine ⟨_, rfl, _, rfl, log_64 h2, ?_⟩
        rw [num_S]
        exact k H (Same.refl H)
      · have h2 : 10 ^ 64 ≤ n := by
          have z : ¬ (n : Int) < pw := fun z => h2 (decide_eq_true z)
          omega
        refine while_by (fun σ H2 => H2 = H ∧ ∃ j : Nat, σ = [some (.int (n : Int)), some (.int ((10 ^ (64 * 2 ^ j) : Nat) : Int)), some (.int ((64 * 2 ^ j : Nat) : Int)), none, none] ∧ 10 ^ (64 * 2 ^ j) ≤ n)
          (fun σ _ => match σ with | [_, _, some (.int i), _, _] => 5400 - i.toNat | _ => 0) ⟨rfl, 0, ?_, h2⟩ ?_ ?_
        · have e : V.int pw = V.int ((10 ^ (64 * 2 ^ 0) : Nat) : Int) := by rw [epw]
          have e2 : ∀ z : V, z = V.int ((10 ^ (64 * 2 ^ 0) : Nat) : Int) → [some (V.int (n : Int)), some z, some (V.int 64), none, none] = [some (V.int (n : Int)), some (V.int ((10 ^ (64 * 2 ^ 0) : Nat) : Int)), some (V.int ((64 * 2 ^ 0 : Nat) : Int)), none, none] := fun z hz => by rw [hz]; rfl
          exact e2 _ e
        · rintro σ H2 ⟨rfl, j, rfl, hj⟩
          have hw : 64 * 2 ^ j < 5400 := Decidable.byContradiction fun c => by
            have : 10 ^ 5400 ≤ 10 ^ (64 * 2 ^ j) := Nat.pow_le_pow_right (by decide) (by omega)
            omega
          have hb := ten_abs (64 * 2 ^ j)
          refine ⟨_, rfl, _, rfl, _, _, rfl, rfl, wide_mul hb hb (by omega) (by omega) (by omega), ?_⟩
          have ej : 2 ^ (j + 1) = 2 * 2 ^ j := by rw [Nat.pow_succ]; omega
          have e1 : ((10 ^ (64 * 2 ^ j) : Nat) : Int) * ((10 ^ (64 * 2 ^ j) : Nat) : Int) = ((10 ^ (64 * 2 ^ (j + 1)) : Nat) : Int) := by
            rw [← Int.natCast_mul, ← Nat.pow_add]
            congr 2
            omega
          refine ⟨_, rfl, _, _, rfl, rfl, _, rfl, ?_⟩
          refine ite2 (fun h3 => ?_) (fun h3 => ?_)
          · have h3 : ((10 ^ (64 * 2 ^ j) : Nat) : Int) * ((10 ^ (64 * 2 ^ j) : Nat) : Int) ≤ (n : Int) := of_decide_eq_true h3
            rw [e1] at h3
            refine ⟨_, rfl, _, rfl, _, _, rfl, rfl, wide_mul hb hb (by omega) (by omega) (by omega), ?_⟩
            refine ⟨_, rfl, _, _, rfl, rfl, .inr ⟨by decide, by decide⟩, ?_⟩
            have e2 : ((64 * 2 ^ j : Nat) : Int) * 2 = ((64 * 2 ^ (j + 1) : Nat) : Int) := by omega
            refine ⟨⟨rfl, j + 1, ?_, by omega⟩, ?_⟩
            · rw [← e1, ← e2]
              rfl
            · show 5400 - (((64 * 2 ^ j : Nat) : Int) * 2).toNat < 5400 - ((64 * 2 ^ j : Nat) : Int).toNat
              have pj : 0 < 2 ^ j := Nat.pow_pos (by decide)
              rw [e2, Int.toNat_natCast, Int.toNat_natCast]
              omega
          · have h3 : ¬ ((10 ^ (64 * 2 ^ j) : Nat) : Int) * ((10 ^ (64 * 2 ^ j) : Nat) : Int) ≤ (n : Int) := fun z => h3 (decide_eq_true z)
            rw [e1] at h3
            have h4 : n < 10 ^ (64 * 2 ^ (j + 1)) := by omega
            have p0 : 0 < 10 ^ (64 * 2 ^ j) := Nat.pow_pos (by decide)
            have hjl : j ≤ lv := Decidable.byContradiction fun c => by
              have c1 : 2 ^ (lv + 1) ≤ 2 ^ j := Nat.pow_le_pow_right (by decide) (by omega)
              have c2 : 10 ^ (64 * 2 ^ (lv + 1)) ≤ 10 ^ (64 * 2 ^ j) := Nat.pow_le_pow_right (by decide) (by omega)
              omega
            have hj2 : 2 ^ j ≤ 2 ^ lv := Nat.pow_le_pow_right (by decide) hjl
            have hle : 10 ^ (64 * 2 ^ j) ≤ 10 ^ (64 * 2 ^ lv) := Nat.pow_le_pow_right (by decide) (by omega)
            have hd := div_small h54 hj
            have hsq : 10 ^ (64 * 2 ^ (j + 1)) = 10 ^ (64 * 2 ^ j) * 10 ^ (64 * 2 ^ j) := by
              rw [← Nat.pow_add]
              congr 1
              omega
            have hhi : n / 10 ^ (64 * 2 ^ j) < 10 ^ (64 * 2 ^ j) := by
              rw [Nat.div_lt_iff_lt_mul p0, ← hsq]
              exact h4
            have hlo : n % 10 ^ (64 * 2 ^ j) < 10 ^ (64 * 2 ^ j) := Nat.mod_lt _ p0
            have hh1 : 1 ≤ n / 10 ^ (64 * 2 ^ j) := Nat.div_pos hj p0
            have hdm : n / 10 ^ (64 * 2 ^ j) * 10 ^ (64 * 2 ^ j) + n % 10 ^ (64 * 2 ^ j) = n := by
              rw [Nat.mul_comm]
              exact Nat.div_add_mod n _
            have hpn := numL_pad (64 * 2 ^ j) _ _ hh1 hlo
            rw [hdm] at hpn
            have hj3 : 0 < 2 ^ j := Nat.pow_pos (by decide)
            have hwp : 1 ≤ 64 * 2 ^ j := by omega
            obtain ⟨w', hw'⟩ : ∃ w', 64 * 2 ^ j = w' + 1 := ⟨64 * 2 ^ j - 1, by omega⟩
            have hpad := padL_num w' (n % 10 ^ (64 * 2 ^ j)) (by rw [← hw']; exact hlo)
            rw [← hw'] at hpad
            rw [hpad] at hpn
            refine ⟨_, rfl, _, rfl, _, _, rfl, hd, fun p np => ?_⟩
            have s1 := same_upd (o := .tup [.int ((n : Int) / ((10 ^ (64 * 2 ^ j) : Nat) : Int)), .int ((n : Int) % ((10 ^ (64 * 2 ^ j) : Nat) : Int))]) np
            refine ⟨p, _, rfl, SqT.of upd_same, rfl, _, _, rfl, _, _, rfl, rfl, ?_⟩
            refine ⟨_, rfl, n / 10 ^ (64 * 2 ^ j), (by rw [Int.natCast_ediv]; rfl), Nat.lt_of_lt_of_le hhi hle, Nat.lt_of_le_of_lt (Nat.div_le_self _ _) h54, by omega, fun H3 s3 => ?_⟩
            refine ⟨_, rfl, n % 10 ^ (64 * 2 ^ j), (by rw [Int.natCast_emod]; rfl), Nat.lt_of_lt_of_le hlo hle, Nat.lt_of_le_of_lt (Nat.mod_le _ _) h54, by omega, fun H4 s4 => ?_⟩
            refine ⟨⟨_, rfl⟩, _, rfl, _, _, rfl, rfl, ?_, ?_⟩
            · unfold PadOk fitsSsize Builtin.Str.tooLong
              rw [Bool.and_eq_true, Bool.not_eq_true', Bool.not_eq_true', Bool.or_eq_false_iff]
              refine ⟨⟨decide_eq_false (by omega), decide_eq_false (by omega)⟩, decide_eq_false ?_⟩
              rw [Int.toNat_natCast, sizeLine_eq]
              omega
            · rw [zfill_S (numL_digits _)]
              refine ⟨_, _, rfl, rfl, ?_, ?_⟩
              · rw [S_len, S_len, List.length_append, List.length_replicate, sizeLine_eq]
                have l1 := num_len (Nat.lt_of_le_of_lt (Nat.div_le_self n (10 ^ (64 * 2 ^ j))) h54)
                have l2 := num_len (Nat.lt_of_le_of_lt (Nat.mod_le n (10 ^ (64 * 2 ^ j))) h54)
                omega
              · rw [S_cat, ← hpn]
                exact k H4 (s1.trans (s3.trans s4))
        · intro σ H2 Q1 Q2 f h
          obtain ⟨v1, e1, v2, e2, i, j, e3, e4, c, v3, e5, i2, j2, e6, e7, kk, e8, q⟩ := h
          exact ⟨v1, e1, v2, e2, i, j, e3, e4, c, v3, e5, i2, j2, e6, e7, kk, e8, f _ _ q⟩
def spToDigits : Sp := fun vs H Q _ => ∃ i : Int, vs = [.int i] ∧ i.natAbs < 10 ^ 5400 ∧ ∀ H', Same H H' → Q (.str (S (decL i))) H'
theorem ok_to_digits (T : Txt K mg A) : FnOk P w K mg base CX0 9 A.a_to_digits A.d_to_digits ["number"] spToDigits := by
  have G_numeral_of : FnOk P w K mg base CX0 8 A.a_numeral_of A.d_numeral_of ["number"] (spNumeralOf 7) := ok_numeral_of T 7
  refine T.t_to_digits.F.ok sc_to_digits (fun vs H Q E h => ?_) (fun cdv AA outer s H vs Q E hr h => ?_)
  · obtain ⟨i, rfl, _⟩ := h
    rfl
  · obtain ⟨i, rfl, hi, k⟩ := h
    have big : i.natAbs < 10 ^ (64 * 2 ^ 7) := Nat.lt_trans hi (Nat.pow_lt_pow_right (by decide) (by decide))
    refine ⟨_, (pss_cons (ps_if (pt_cmpR op_lt (pv 0) pe_int (nomark _)) (pss_one (ps_ret (pe_op op_add_str pe_str (pe_call G_numeral_of (hr.mono (by decide)) rfl T.t_numeral_of.g T.t_numeral_of.F.kp T.t_numeral_of.b .nil pass0 (pa_cons (pe_un un_neg (pv 0)) pa_nil))))) pss_nil)
      (pss_one (ps_ret (pe_call G_numeral_of (hr.mono (by decide)) rfl T.t_numeral_of.g T.t_numeral_of.F.kp T.t_numeral_of.b .nil pass0 (pa_cons (pv 0) pa_nil))))), ?_⟩
    refine ⟨_, rfl, _, _, rfl, rfl, _, rfl, ite2 (fun h1 => ?_) (fun h1 => ?_)⟩
    · have h1 : i < 0 := of_decide_eq_true h1
      refine ⟨_, rfl, _, rfl, i.natAbs, (by rw [show ((i.natAbs : Nat) : Int) = -i by omega]; rfl), big, hi, by decide, fun H3 s3 => ?_⟩
      refine ⟨_, _, rfl, rfl, ?_, ?_⟩
      · show (S [45]).length + (S (numL i.natAbs)).length ≤ sizeLine
        have l1 := num_len hi
        rw [S_len, S_len, sizeLine_eq, List.length_singleton]
        omega
      · rw [show Str.ofString "-" ++ S (numL i.natAbs) = S ([45] ++ numL i.natAbs) from S_cat [45] _]
        have e : decL i = [45] ++ numL i.natAbs := if_pos h1
        rw [← e]
        exact k H3 s3
    · have h1 : ¬ i < 0 := fun z => h1 (decide_eq_true z)
      refine ⟨_, rfl, i.natAbs, (by rw [show ((i.natAbs : Nat) : Int) = i by omega]; rfl), big, hi, by decide, fun H3 s3 => ?_⟩
      have e : decL i = numL i.natAbs := if_neg h1
      rw [← e]
      exact k H3 s3
end
section
variable {P : Program} {w : World} {K : PySem.W.Frag} {mg : Str → Option Value} {base : Heap} {A : At}
def spIsInt : Sp := fun vs H Q _ => ∃ i : Int, vs = [.int i] ∧ Q (.bl true) H
theorem ok_is_integer (T : Txt K mg A) : FnOk P w K mg base CX0 1 A.a_law_is_integer A.d_law_is_integer ["actual"] spIsInt := by
  refine T.t_law_is_integer.F.ok sc_law_is_integer (fun vs H Q E h => ?_) (fun cdv AA outer s H vs Q E hr h => ?_)
  · obtain ⟨i, rfl, _⟩ := h
    rfl
  · obtain ⟨i, rfl, k⟩ := h
    refine ⟨_, pss_one (ps_ret (pe_and (pe_callB call_isi (by rfl) T.z_isinstance PyProof.Rows.boot_isinstance (pa_cons (pv 0) (pa_cons (pe_bltn (v := .ty "int") (by rfl) T.z_int PyProof.Rows.boot_int rfl) pa_nil)))
      (pe_one (pe_not (pe_callB call_isi (by rfl) T.z_isinstance PyProof.Rows.boot_isinstance (pa_cons (pv 0) (pa_cons (pe_bltn (v := .ty "bool") (by rfl) T.z_bool PyProof.Rows.boot_bool rfl) pa_nil))))))), ?_⟩
    refine ⟨_, rfl, .int i, .ty "int", .type "int", .type "int", true, rfl, .ty _, .base (.int i), kit_ty (by decide +kernel), true, rfl, iteT ?_⟩
    exact ⟨_, rfl, .int i, .ty "bool", .type "int", .type "bool", false, rfl, .ty _, .base (.int i), kit_ty (by decide +kernel), false, rfl, k⟩
end
def spLaw (K : PySem.W.Frag) : Sp := fun vs H Q _ => ∃ (a : Addr) (ns : List Int), vs = [.ref a] ∧ SqL K H a (ns.map V.int) ∧ ns.length ≤ 63 ∧ ∀ H', Q (.bl true) H'
open SX (S S_len S_cat S_inj)
open NumText (AllDigits digitsVal)
open TL (numL numL_lt numL_step numL_digits numL_ne numL_val)
theorem flat48 (k : Nat) : (List.replicate k [48]).flatten = List.replicate k 48 := by
  induction k with
  | zero => rfl
  | succ k ih => rw [List.replicate_succ, List.flatten_cons, ih, List.replicate_succ]; rfl
/-- the first sign that is no zero of a padded numeral of two digits at least -/
theorem pad_first {w V i : Nat} (hV : V < 10 ^ (w + 1)) (h10 : 10 ≤ V) (hi : i < w) (hz : ∀ j, j < i → (padL (w + 1) V)[j]? = some 48) (hc : (padL (w + 1) V)[i]? ≠ some 48) : (padL (w + 1) V).drop i = numL V := by
  obtain ⟨c, r, e, h48⟩ := numL_head V (by omega)
  have hp := padL_num w V hV
  have hl := numL_le w V hV
  rw [hp] at hz hc ⊢
  generalize hk : w + 1 - (numL V).length = k at hz hc ⊢
  have at_k : (List.replicate k 48 ++ numL V)[k]? = some c := by
    rw [List.getElem?_append_right (by rw [List.length_replicate]; exact Nat.le_refl _), List.length_replicate, Nat.sub_self, e]
    rfl
  have h1 : ¬ i < k := fun h => hc (by
    rw [List.getElem?_append_left (by rw [List.length_replicate]; exact h), List.getElem?_replicate, if_pos h])
  have h2 : ¬ k < i := fun h => h48 (Option.some.inj (at_k.symm.trans (hz k h)))
  have h3 : i = k := by omega
  subst h3
  have := List.drop_left (l₁ := List.replicate i 48) (l₂ := numL V)
  rw [List.length_replicate] at this
  exact this
theorem pad_none {w V : Nat} (hV : V < 10 ^ (w + 1)) (h10 : 10 ≤ V) (hz : ∀ j, j < w → (padL (w + 1) V)[j]? = some 48) : False := by
  obtain ⟨c, r, e, h48⟩ := numL_head V (by omega)
  have hp := padL_num w V hV
  have hl := numL_le w V hV
  have hl2 : 2 ≤ (numL V).length := by
    rw [numL_step h10, List.length_append]
    have := numL_len_pos (V / 10)
    rw [List.length_singleton]
    omega
  have at_k : (List.replicate (w + 1 - (numL V).length) 48 ++ numL V)[w + 1 - (numL V).length]? = some c := by
    rw [List.getElem?_append_right (by rw [List.length_replicate]; exact Nat.le_refl _), List.length_replicate, Nat.sub_self, e]
    rfl
  have z := hz (w + 1 - (numL V).length) (by omega)
  rw [hp] at z
  exact h48 (Option.some.inj (at_k.symm.trans z))
section
variable {P : Program} {w : World} {K : PySem.W.Frag} {mg : Str → Option Value} {base : Heap} {A : At}
theorem ok_law (T : Txt K mg A) : FnOk P w K mg base CX0 14 A.a_law A.d_law ["script"] (spLaw K) := by
  have G_law_pool : FnOk P w K mg base CX0 1 A.a_law_pool A.d_law_pool ["script"] (spPool K) := ok_pool T
  have G_law_draw : FnOk P w K mg base CX0 2 A.a_law_draw A.d_law_draw ["pool", "many"] spDraw := ok_draw T
  have G_to_digits : FnOk P w K mg base CX0 9 A.a_to_digits A.d_to_digits ["number"] spToDigits := ok_to_digits T
  have G_from_digits : FnOk P w K mg base (L2.CX P w) 12 A.a_from_digits A.d_from_digits ["text"] (spFromDigits A.C_InvalidNumeral) := ok_from_digits T
  have G_law_is_integer : FnOk P w K mg base CX0 1 A.a_law_is_integer A.d_law_is_integer ["actual"] spIsInt := ok_is_integer T
  refine T.t_law.F.ok sc_law (fun vs H Q E h => ?_) (fun cdv AA outer s H vs Q E hr h => ?_)
  · obtain ⟨a, ns, rfl, _⟩ := h
    rfl
  · obtain ⟨a, ns, rfl, hS, _, k⟩ := h
    refine ⟨_, (pss_cons (ps_set (i := 1) sc_law.nd rfl (Or.inl rfl) (pe_call G_law_pool (hr.mono (by decide)) rfl T.t_law_pool.g T.t_law_pool.F.kp T.t_law_pool.b .nil pass0 (pa_cons (pv 0) pa_nil)))
      (pss_cons (ps_set (i := 2) sc_law.nd rfl (Or.inl rfl) pe_int)
      (pss_cons (ps_if (pt_cmpR op_eq (pe_call G_law_draw (hr.mono (by decide)) rfl T.t_law_draw.g T.t_law_draw.F.kp T.t_law_draw.b .nil pass0 (pa_cons (pv 1) (pa_cons pe_int pa_nil))) pe_int (nomark _)) (pss_one (ps_set (i := 2) sc_law.nd rfl (Or.inl rfl) (pe_op op_add pe_int (pe_call G_law_draw (hr.mono (by decide)) rfl T.t_law_draw.g T.t_law_draw.F.kp T.t_law_draw.b .nil pass0 (pa_cons (pv 1) (pa_cons pe_int pa_nil)))))) pss_nil)
      (pss_cons (ps_set (i := 3) sc_law.nd rfl (Or.inl rfl) pe_str)
      (pss_cons (ps_set (i := 4) sc_law.nd rfl (Or.inl rfl) pe_int)
      (pss_cons (ps_for PassesOwn.never rfl (pi_range1 rfl T.z_range (pa_cons (pv 2) pa_nil)) (pg_name (i := 5) sc_law.nd rfl (Or.inl rfl)) (pss_cons (ps_set (i := 6) sc_law.nd rfl (Or.inl rfl) (pe_call G_law_draw (hr.mono (by decide)) rfl T.t_law_draw.g T.t_law_draw.F.kp T.t_law_draw.b .nil pass0 (pa_cons (pv 1) (pa_cons (pe_ix ix_tup (pe_tup (pa_cons pe_int (pa_cons (pe_op op_pow pe_int pe_int) pa_nil))) (pe_call G_law_draw (hr.mono (by decide)) rfl T.t_law_draw.g T.t_law_draw.F.kp T.t_law_draw.b .nil pass0 (pa_cons (pv 1) (pa_cons pe_int pa_nil))) (fun _ _ => rfl)) pa_nil))))
      (pss_cons (ps_set (i := 4) sc_law.nd rfl (Or.inl rfl) (pe_op op_add (pe_op op_mulW (pv 4) (pe_op op_pow pe_int pe_int)) (pv 6)))
      (pss_one (ps_set (i := 3) sc_law.nd rfl (Or.inl rfl) (pe_op op_add_str (pe_op op_add_str (pv 3) (pe_op op_mulS pe_str (pe_op op_sub pe_int (pe_callB call_len_str (by rfl) T.z_len PySem.boot_len (pa_cons (pe_callTy call_str_int (by rfl) T.z_str PyProof.Rows.boot_str (pa_cons (pv 6) pa_nil)) pa_nil))))) (pe_callTy call_str_int (by rfl) T.z_str PyProof.Rows.boot_str (pa_cons (pv 6) pa_nil))))))))
      (pss_cons (ps_for PassesOwn.never rfl (pi_range1 rfl T.z_range (pa_cons (pe_op op_sub (pe_callB call_len_str (by rfl) T.z_len PySem.boot_len (pa_cons (pv 3) pa_nil)) pe_int) pa_nil)) (pg_name (i := 5) sc_law.nd rfl (Or.inl rfl)) (pss_one (ps_if (pt_cmpR op_ne (pe_ix ix_str (pv 3) (pv 5) (fun _ _ => rfl)) pe_str (nomark _)) (pss_cons (ps_set (i := 3) sc_law.nd rfl (Or.inl rfl) (pe_slice sl_str (pv 3) (po_some (pv 5)) po_none))
      (pss_one ps_break)) pss_nil)))
      (pss_cons (ps_if (pt_cmpR op_lt (pv 4) pe_int (nomark _)) (pss_one (ps_set (i := 3) sc_law.nd rfl (Or.inl rfl) (pe_ix ix_str (pv 3) (pe_un un_neg pe_int) (fun _ _ => rfl)))) pss_nil)
      (pss_cons (ps_if (PW.pt (pw_and (pt_cmpR op_eq (pe_call G_law_draw (hr.mono (by decide)) rfl T.t_law_draw.g T.t_law_draw.F.kp T.t_law_draw.b .nil pass0 (pa_cons (pv 1) (pa_cons pe_int pa_nil))) pe_int (nomark _)) (pw_and1 (pt_cmpR op_gt (pv 4) pe_int (nomark _))))) (pss_cons (ps_set (i := 4) sc_law.nd rfl (Or.inl rfl) (pe_un un_neg (pv 4)))
      (pss_one (ps_set (i := 3) sc_law.nd rfl (Or.inl rfl) (pe_op op_add_str pe_str (pv 3))))) pss_nil)
      (pss_cons (ps_set (i := 7) sc_law.nd rfl (Or.inl rfl) (pe_call G_to_digits (hr.mono (by decide)) rfl T.t_to_digits.g T.t_to_digits.F.kp T.t_to_digits.b .nil pass0 (pa_cons (pv 4) pa_nil)))
      (pss_cons (ps_set (i := 8) sc_law.nd rfl (Or.inl rfl) (pe_call G_from_digits (hr.mono (by decide)) rfl T.t_from_digits.g T.t_from_digits.F.kp T.t_from_digits.b .nil passL (pa_cons (pv 3) pa_nil)))
      (pss_one (ps_ret (pe_and (pe_callB call_isi (by rfl) T.z_isinstance PyProof.Rows.boot_isinstance (pa_cons (pv 7) (pa_cons (pe_bltn (v := .ty "str") (by rfl) T.z_str PyProof.Rows.boot_str rfl) pa_nil))) (pe_and (pe_cmpR op_eq (pv 7) (pv 3) (nomark _)) (pe_and (pe_call G_law_is_integer (hr.mono (by decide)) rfl T.t_law_is_integer.g T.t_law_is_integer.F.kp T.t_law_is_integer.b .nil pass0 (pa_cons (pv 8) pa_nil)) (pe_one (pe_cmpR op_eq (pv 8) (pv 4) (nomark _))))))))))))))))))), ?_⟩
    refine ⟨_, rfl, a, ns, rfl, hS, fun p l H1 P1 _ _ _ => ?_⟩
    dsimp only [gName]
    refine seq_const ?_
    refine seq_then (fun σ' H' => ∃ m : Nat, 1 ≤ m ∧ m ≤ 299 ∧ σ' = [some (.ref a), some (.ref p), some (.int (m : Int)), none, none, none, none, none, none] ∧ PoolAt H' p l) ?_ (fun N hN => ?_)
    · rintro σ' H2 ⟨m, hm1, hm2, rfl, P2⟩
      refine seq_const ?_
      refine seq_const ?_
      refine ⟨_, rfl, _, rfl, by omega, by omega, ?_⟩
      refine for_range (n := ((m : Nat) : Int).toNat) (fun i σ H3 => ∃ (V : Nat) (v5 v6 : Option L2.V), V < 10 ^ (18 * i) ∧ σ = [some (.ref a), some (.ref p), some (.int (m : Int)), some (.str (S (padL (18 * i) V))), some (.int (V : Int)), v5, v6, none, none] ∧ PoolAt H3 p l)
        ⟨0, none, none, by decide, rfl, P2⟩ ?_ ?_
      · rintro i σ H3 hi ⟨V, v5, v6, hV, rfl, P3⟩
        have hi2 : i < 299 := by omega
        refine ⟨_, rfl, _, _, rfl, rfl, ⟨by decide, by decide, by decide⟩, (by show 2 ≤ sizeLine; decide), fun t nt => ?_⟩
        have s1 := fun o => same_upd (o := o) nt
        refine ⟨_, rfl, p, l, 2, rfl, P3.same (s1 _), ⟨by decide, by decide⟩, fun v H4 v0 v1 P4 B4 => ?_⟩
        obtain ⟨mm, hmem, em⟩ := pick_at (ms := [10, 10 ^ (18 : Int).toNat]) v0 v1
        have hall : ∀ x ∈ [(10 : Int), 10 ^ (18 : Int).toNat], 0 < x ∧ x ≤ 1000000000000000000 := by decide +kernel
        have ht : H4 t = some _ := B4 t _ upd_same (P3.free nt)
        obtain ⟨hm0, hm3⟩ := hall mm hmem
        refine ⟨t, _, v, _, rfl, rfl, SqT.of ht, em, ?_⟩
        refine ⟨p, l, mm, rfl, P4, ⟨hm0, ?_⟩, fun pc H5 w0 w1 P5 B5 => ?_⟩
        · have : (2 : Nat) ^ 64 < 2 ^ 8000 := Nat.pow_lt_pow_right (by decide) (by decide)
          omega
        obtain ⟨pn, rfl⟩ := Int.eq_ofNat_of_zero_le w0
        have hpn : pn < 10 ^ 18 := by omega
        have hVb : ((V : Nat) : Int).natAbs < 2 ^ (4 * (18 * i) + 1) := by
          rw [Int.natAbs_natCast]
          exact Nat.lt_trans hV (ten_lt _)
        have hpb : ((10 : Int) ^ (18 : Int).toNat).natAbs < 2 ^ 64 := by decide +kernel
        refine ⟨_, rfl, _, _, rfl, rfl, ⟨by decide, by decide, by decide⟩, _, _, rfl, rfl, wide_mul hVb hpb (by omega) (by decide) (by omega), _, rfl, _, _, rfl, rfl, ?_⟩
        have elog : ((pn : Nat) : Int).natAbs.log2 < 1920 := by
          rw [Int.natAbs_natCast]
          exact Nat.lt_trans (log_lt (Nat.lt_trans hpn (by decide +kernel : 10 ^ 18 < 2 ^ 64)) (by decide)) (by decide)
        have hl18 := numL_le 17 pn hpn
        refine ⟨_, rfl, _, rfl, _, rfl, elog, ?_⟩
        rw [num_S]
        refine ⟨_, rfl, small_S (by omega), _, _, rfl, rfl, [48], _, rfl, rfl, ⟨by rw [S_len]; omega, by rw [S_len]; omega⟩, by decide, ?_⟩
        rw [flat48]
        refine ⟨_, _, rfl, rfl, ?_, ?_⟩
        · rw [S_len, S_len, padL_len, List.length_replicate, S_len, sizeLine_eq]
          omega
        · rw [S_cat]
          refine ⟨_, rfl, _, rfl, elog, ?_⟩
          rw [num_S]
          refine ⟨_, _, rfl, rfl, ?_, ?_⟩
          · rw [S_len, S_len, List.length_append, padL_len, List.length_replicate]
            try rw [S_len]
            rw [sizeLine_eq]
            omega
          · rw [S_cat, List.append_assoc, S_len]
            have e1 : (18 - ((numL pn).length : Int)).toNat = 18 - (numL pn).length := by omega
            have e2 : 18 * (i + 1) = 18 * i + 18 := by omega
            have e3 := padL_app 18 (18 * i) V pn hpn
            rw [e1, ← padL_num 17 pn hpn, ← e3]
            refine ⟨V * 10 ^ 18 + pn, some (.int (0 + (i : Int))), some (.int (pn : Int)), ?_, ?_, P5⟩
            · rw [e2, Nat.pow_add]
              have : V * 10 ^ 18 + pn < (V + 1) * 10 ^ 18 := by rw [Nat.add_mul]; omega
              exact Nat.lt_of_lt_of_le this (Nat.mul_le_mul_right _ hV)
            · rw [e2, Int.natCast_add, Int.natCast_mul]
              rfl
      · rintro σ H3 ⟨V, v5, v6, hV, rfl, P3⟩
        rw [Int.toNat_natCast] at hV ⊢
        obtain ⟨wd, hw⟩ : ∃ wd, 18 * m = wd + 1 := ⟨18 * m - 1, by omega⟩
        rw [hw] at hV ⊢
        have hV54 : V < 10 ^ 5400 := Nat.lt_of_lt_of_le hV (Nat.pow_le_pow_right (by decide) (by omega))
        have hlast : padL (wd + 1) V = padL wd (V / 10) ++ [48 + V % 10] := rfl
        have hlen : (padL (wd + 1) V).length = wd + 1 := padL_len _ _
        dsimp only
        refine seq_then (fun σ' H' => H' = H3 ∧ ∃ (D r : List Nat) (v5 : Option L2.V), σ' = [some (.ref a), some (.ref p), some (.int (m : Int)), some (.str (S D)), some (.int (V : Int)), v5, v6, none, none] ∧ (10 ≤ V → D = numL V) ∧ D = r ++ [48 + V % 10] ∧ D.length ≤ 6000) ?_ (fun N hN => ?_)
        · rintro σ' H4 ⟨rfl, D, r, v5, rfl, hD1, hD2, hD3⟩
          refine seq_then (fun σ' H' => H' = H4 ∧ ∃ v5 : Option L2.V, σ' = [some (.ref a), some (.ref p), some (.int (m : Int)), some (.str (S (numL V))), some (.int (V : Int)), v5, v6, none, none]) ?_ (fun N hN => ?_)
          · rintro σ' H5 ⟨rfl, v5, rfl⟩
            refine seq_then (fun σ' H' => ∃ (z : Int) (v5 : Option L2.V), z.natAbs = V ∧ σ' = [some (.ref a), some (.ref p), some (.int (m : Int)), some (.str (S (decL z))), some (.int z), v5, v6, none, none]) ?_ (fun N hN => ?_)
            · rintro σ' H6 ⟨z, v5, hz, rfl⟩
              refine ⟨_, rfl, z, rfl, by omega, fun H7 _ => ?_⟩
              have hdl := decL_len (w := 5399) (i := z) (by omega)
              refine ⟨_, rfl, decL z, rfl, by omega, fun e => ?_, fun n e H8 _ => ?_⟩
              · rw [fromDec_decL] at e
                cases e
              · rw [fromDec_decL] at e
                obtain rfl := Option.some.inj e
                refine ⟨_, rfl, _, .ty "str", .type "str", .type "str", true, rfl, .ty _, .base (.str _), kit_ty (by decide +kernel), true, rfl, iteT ?_⟩
                refine ⟨_, rfl, _, rfl, rfl, true, (by rw [decide_eq_true rfl]), iteT ?_⟩
                refine ⟨_, rfl, z, rfl, true, rfl, iteT ?_⟩
                refine ⟨_, rfl, _, rfl, rfl, ?_⟩
                rw [decide_eq_true rfl]
                exact k _
            · refine ⟨_, rfl, p, l, 3, rfl, P3, ⟨by decide, by decide⟩, fun u H6 _ _ P6 B6 => ⟨rfl, _, rfl, ite2 (fun _ => ?_) (fun _ => ?_)⟩⟩
              · refine ⟨_, rfl, _, _, rfl, rfl, _, rfl, ite2 (fun hp => ?_) (fun hp => ?_)⟩
                · have hp : 0 < ((V : Nat) : Int) := of_decide_eq_true hp
                  refine ⟨_, rfl, _, rfl, ?_⟩
                  refine ⟨_, rfl, _, _, rfl, rfl, ?_, ?_⟩
                  · show (S [45]).length + (S (numL V)).length ≤ sizeLine
                    have := numL_le 5399 V hV54
                    rw [S_len, S_len, sizeLine_eq, List.length_singleton]
                    omega
                  · rw [show Str.ofString "-" ++ S (numL V) = S ([45] ++ numL V) from S_cat [45] _]
                    refine hN _ _ ⟨-((V : Nat) : Int), v5, by omega, ?_⟩
                    have e : decL (-((V : Nat) : Int)) = [45] ++ numL V := by
                      unfold decL
                      rw [if_pos (by omega), Int.natAbs_neg, Int.natAbs_natCast]
                      rfl
                    rw [e]
                    rfl
                · refine hN _ _ ⟨((V : Nat) : Int), v5, by omega, ?_⟩
                  have e : decL ((V : Nat) : Int) = numL V := by
                    unfold decL
                    rw [if_neg (by omega), Int.natAbs_natCast]
                  rw [e]
              · refine iteF (hN _ _ ⟨((V : Nat) : Int), v5, by omega, ?_⟩)
                have e : decL ((V : Nat) : Int) = numL V := by
                  unfold decL
                  rw [if_neg (by omega), Int.natAbs_natCast]
                rw [e]
          · refine ⟨_, rfl, _, _, rfl, rfl, _, rfl, ite2 (fun h9 => ?_) (fun h9 => ?_)⟩
            · have h9 : ((V : Nat) : Int) < 10 := of_decide_eq_true h9
              refine ⟨_, rfl, _, rfl, _, _, 48 + V % 10, rfl, rfl, small_S (by omega), ?_, ?_⟩
              · rw [hD2]
                exact atI_last r _
              · refine hN _ _ ⟨rfl, v5, ?_⟩
                rw [numL_lt (show V < 10 by omega), Nat.mod_eq_of_lt (show V < 10 by omega)]
                rfl
            · have h9 : ¬ ((V : Nat) : Int) < 10 := fun z => h9 (decide_eq_true z)
              refine hN _ _ ⟨rfl, v5, ?_⟩
              rw [hD1 (by omega)]
        · refine ⟨_, rfl, _, rfl, small_S (by omega), _, _, rfl, rfl, _, rfl, (by rw [S_len]; omega), (by rw [S_len]; omega), ?_⟩
          have en : (((S (padL (wd + 1) V)).length : Int) - 1).toNat = wd := by
            rw [S_len]
            omega
          rw [en]
          refine for_range (n := wd) (fun i σ H4 => H4 = H3 ∧ ∃ v5 : Option L2.V, σ = [some (.ref a), some (.ref p), some (.int (m : Int)), some (.str (S (padL (wd + 1) V))), some (.int (V : Int)), v5, v6, none, none] ∧ ∀ j, j < i → (padL (wd + 1) V)[j]? = some 48)
            ⟨rfl, v5, rfl, fun j hj => absurd hj (Nat.not_lt_zero j)⟩ ?_ ?_
          · rintro i σ H4 hi ⟨rfl, v5, rfl, hz⟩
            have hil : i < (padL (wd + 1) V).length := by omega
            have ec := List.getElem?_eq_getElem hil
            generalize (padL (wd + 1) V)[i] = c at ec
            refine ⟨_, rfl, _, rfl, _, _, c, rfl, rfl, small_S (by omega), (by rw [Int.zero_add]; exact atI_nat ec), rfl, _, rfl, ite2 (fun h1 => ?_) (fun h1 => ?_)⟩
            · have h1 : (!decide (L2.V.str (S [c]) = L2.V.str (S [48]))) = true := h1
              rw [dec_S] at h1
              have hc : (padL (wd + 1) V)[i]? ≠ some 48 := fun e => by
                rw [ec] at e
                rw [Option.some.inj e] at h1
                exact absurd h1 (by decide)
              refine ⟨_, rfl, _, rfl, _, rfl, S (padL (wd + 1) V), rfl, small_S (by omega), ?_⟩
              rw [Int.zero_add, S_drop]
              refine hN _ _ ⟨rfl, _, (padL wd (V / 10)).drop i, some (.int (0 + (i : Int))), by rw [Int.zero_add]; rfl, fun h10 => pad_first hV h10 hi hz hc, ?_, ?_⟩
              · rw [hlast, List.drop_append_of_le_length (by rw [padL_len]; omega)]
              · rw [List.length_drop]
                omega
            · have h1 : ¬ (!decide (L2.V.str (S [c]) = L2.V.str (S [48]))) = true := h1
              rw [dec_S] at h1
              have hc : c = 48 := Decidable.byContradiction fun e => h1 (by
                rw [decide_eq_false (fun z => e (List.cons.inj z).1)]
                rfl)
              refine ⟨rfl, _, rfl, fun j hj => ?_⟩
              by_cases e : j = i
              · subst e
                rw [ec, hc]
              · exact hz j (by omega)
          · rintro σ H4 ⟨rfl, v5, rfl, hz⟩
            exact hN _ _ ⟨rfl, _, padL wd (V / 10), v5, rfl, fun h10 => (pad_none hV h10 hz).elim, hlast, by omega⟩
    · refine ⟨_, rfl, p, l, 3, rfl, P1, ⟨by decide, by decide⟩, fun u H2 _ _ P2 B2 => ⟨rfl, _, rfl, ite2 (fun _ => ?_) (fun _ => ?_)⟩⟩
      · refine ⟨_, rfl, p, l, 299, rfl, P2, ⟨by decide, by decide⟩, fun v H3 v0 v1 P3 B3 => ⟨_, _, rfl, rfl, ?_⟩⟩
        obtain ⟨n, rfl⟩ := Int.eq_ofNat_of_zero_le v0
        refine hN _ _ ⟨1 + n, by omega, by omega, ?_, P3⟩
        rw [show ((1 + n : Nat) : Int) = 1 + (n : Int) by omega]
        rfl
      · exact hN _ _ ⟨1, by omega, by omega, rfl, P2⟩
end
/-! the end -/
theorem all_mk {K : PySem.W.Frag} {h : Heap} {mg : Str → Option Value} {fa : Addr} (X : K.In h) (G : h.Ns mainGlobals mg) (hfa : mg "law" = some (.ref fa))
    {f0 f1 f2 f3 f4 f5 f6 f7 f8 f9 COddsError CInvalidNumeral : Addr} {od0 an0 od1 an1 od2 an2 od3 an3 od4 an4 od5 an5 od6 an6 od7 an7 od8 an8 od9 an9 : Option Addr} {sl0 sl1 sl2 sl3 sl4 sl5 sl6 sl7 sl8 sl9 : Array (Option Value)} {oc0 kV0 dc0 pm0 cd0 ct0 oc1 kV1 dc1 pm1 cd1 ct1 oc2 kV2 dc2 pm2 cd2 ct2 oc3 kV3 dc3 pm3 cd3 ct3 oc4 kV4 dc4 pm4 cd4 ct4 oc5 kV5 dc5 pm5 cd5 ct5 oc6 kV6 dc6 pm6 cd6 ct6 oc7 kV7 dc7 pm7 cd7 ct7 oc8 kV8 dc8 pm8 cd8 ct8 oc9 kV9 dc9 pm9 cd9 ct9 : Value}
    (a0 : PySem.W.nsIn K mainGlobals "to_digits" = some (some (.ref f0))) (l0 : K.lookup f0 = some ⟨oc0, od0, .func (PySem.W.fnOf "to_digits" "to_digits" (defArgs s_to_digits) (defBody s_to_digits) (defScope s_to_digits) .none kV0 dc0 pm0 an0 cd0 ct0), sl0⟩) (c0 : PySem.W.codeIn K cd0 "to_digits" = true) (k0 : PySem.W.keepIn K (.ref f0) = true)
    (a1 : PySem.W.nsIn K mainGlobals "from_digits" = some (some (.ref f1))) (l1 : K.lookup f1 = some ⟨oc1, od1, .func (PySem.W.fnOf "from_digits" "from_digits" (defArgs s_from_digits) (defBody s_from_digits) (defScope s_from_digits) .none kV1 dc1 pm1 an1 cd1 ct1), sl1⟩) (c1 : PySem.W.codeIn K cd1 "from_digits" = true) (k1 : PySem.W.keepIn K (.ref f1) = true)
    (a2 : PySem.W.nsIn K mainGlobals "has_numeral_form" = some (some (.ref f2))) (l2 : K.lookup f2 = some ⟨oc2, od2, .func (PySem.W.fnOf "has_numeral_form" "has_numeral_form" (defArgs s_has_numeral_form) (defBody s_has_numeral_form) (defScope s_has_numeral_form) .none kV2 dc2 pm2 an2 cd2 ct2), sl2⟩) (c2 : PySem.W.codeIn K cd2 "has_numeral_form" = true) (k2 : PySem.W.keepIn K (.ref f2) = true)
    (a3 : PySem.W.nsIn K mainGlobals "_numeral_of" = some (some (.ref f3))) (l3 : K.lookup f3 = some ⟨oc3, od3, .func (PySem.W.fnOf "_numeral_of" "_numeral_of" (defArgs s_numeral_of) (defBody s_numeral_of) (defScope s_numeral_of) .none kV3 dc3 pm3 an3 cd3 ct3), sl3⟩) (c3 : PySem.W.codeIn K cd3 "_numeral_of" = true) (k3 : PySem.W.keepIn K (.ref f3) = true)
    (a4 : PySem.W.nsIn K mainGlobals "_number_of" = some (some (.ref f4))) (l4 : K.lookup f4 = some ⟨oc4, od4, .func (PySem.W.fnOf "_number_of" "_number_of" (defArgs s_number_of) (defBody s_number_of) (defScope s_number_of) .none kV4 dc4 pm4 an4 cd4 ct4), sl4⟩) (c4 : PySem.W.codeIn K cd4 "_number_of" = true) (k4 : PySem.W.keepIn K (.ref f4) = true)
    (a5 : PySem.W.nsIn K mainGlobals "_law_is_integer" = some (some (.ref f5))) (l5 : K.lookup f5 = some ⟨oc5, od5, .func (PySem.W.fnOf "_law_is_integer" "_law_is_integer" (defArgs s_law_is_integer) (defBody s_law_is_integer) (defScope s_law_is_integer) .none kV5 dc5 pm5 an5 cd5 ct5), sl5⟩) (c5 : PySem.W.codeIn K cd5 "_law_is_integer" = true) (k5 : PySem.W.keepIn K (.ref f5) = true)
    (a6 : PySem.W.nsIn K mainGlobals "_law_pool" = some (some (.ref f6))) (l6 : K.lookup f6 = some ⟨oc6, od6, .func (PySem.W.fnOf "_law_pool" "_law_pool" (defArgs s_law_pool) (defBody s_law_pool) (defScope s_law_pool) .none kV6 dc6 pm6 an6 cd6 ct6), sl6⟩) (c6 : PySem.W.codeIn K cd6 "_law_pool" = true) (k6 : PySem.W.keepIn K (.ref f6) = true)
    (a7 : PySem.W.nsIn K mainGlobals "_law_spread" = some (some (.ref f7))) (l7 : K.lookup f7 = some ⟨oc7, od7, .func (PySem.W.fnOf "_law_spread" "_law_spread" (defArgs s_law_spread) (defBody s_law_spread) (defScope s_law_spread) .none kV7 dc7 pm7 an7 cd7 ct7), sl7⟩) (c7 : PySem.W.codeIn K cd7 "_law_spread" = true) (k7 : PySem.W.keepIn K (.ref f7) = true)
    (a8 : PySem.W.nsIn K mainGlobals "_law_draw" = some (some (.ref f8))) (l8 : K.lookup f8 = some ⟨oc8, od8, .func (PySem.W.fnOf "_law_draw" "_law_draw" (defArgs s_law_draw) (defBody s_law_draw) (defScope s_law_draw) .none kV8 dc8 pm8 an8 cd8 ct8), sl8⟩) (c8 : PySem.W.codeIn K cd8 "_law_draw" = true) (k8 : PySem.W.keepIn K (.ref f8) = true)
    (a9 : PySem.W.nsIn K mainGlobals "law" = some (some (.ref f9))) (l9 : K.lookup f9 = some ⟨oc9, od9, .func (PySem.W.fnOf "law" "law" (defArgs s_law) (defBody s_law) (defScope s_law) .none kV9 dc9 pm9 an9 cd9 ct9), sl9⟩) (c9 : PySem.W.codeIn K cd9 "law" = true) (k9 : PySem.W.keepIn K (.ref f9) = true)
    (gOddsError : PySem.W.nsIn K mainGlobals "OddsError" = some (some (.ref COddsError))) (xOddsError : PySem.W.excIn K COddsError [.type "ValueError", .type "Exception", .type "BaseException", .type "object"] "ValueError.__new__" = true) (kkOddsError : PySem.W.keepIn K (.ref COddsError) = true) (bOddsError : PySem.W.subIn K (.ref COddsError) (.type "BaseException") = some true) (tOddsError : PySem.W.typeIn K (.ref COddsError) = some (.type "type")) (sOddsError : PySem.W.subIn K (.ref COddsError) (.ref COddsError) = some true)
    (gaOddsError : PySem.W.findIn K (.ref COddsError) "__getattribute__" = some (some (.builtin "BaseException.__getattribute__"))) (ggOddsError : PySem.W.findIn K (.ref COddsError) "__getattr__" = some none) (hdOddsError : PySem.W.hasDictIn K COddsError = true) (clOddsError : PySem.W.findIn K (.ref COddsError) "__class__" = some (some (.builtin "object.__class__"))) (mrOddsError : PySem.W.mroIn K COddsError (.type "object") = some true)
    (gInvalidNumeral : PySem.W.nsIn K mainGlobals "InvalidNumeral" = some (some (.ref CInvalidNumeral))) (xInvalidNumeral : PySem.W.excIn K CInvalidNumeral [.type "ValueError", .type "Exception", .type "BaseException", .type "object"] "ValueError.__new__" = true) (kkInvalidNumeral : PySem.W.keepIn K (.ref CInvalidNumeral) = true) (bInvalidNumeral : PySem.W.subIn K (.ref CInvalidNumeral) (.type "BaseException") = some true) (tInvalidNumeral : PySem.W.typeIn K (.ref CInvalidNumeral) = some (.type "type")) (sInvalidNumeral : PySem.W.subIn K (.ref CInvalidNumeral) (.ref CInvalidNumeral) = some true)
    (gaInvalidNumeral : PySem.W.findIn K (.ref CInvalidNumeral) "__getattribute__" = some (some (.builtin "BaseException.__getattribute__"))) (ggInvalidNumeral : PySem.W.findIn K (.ref CInvalidNumeral) "__getattr__" = some none) (hdInvalidNumeral : PySem.W.hasDictIn K CInvalidNumeral = true) (clInvalidNumeral : PySem.W.findIn K (.ref CInvalidNumeral) "__class__" = some (some (.builtin "object.__class__"))) (mrInvalidNumeral : PySem.W.mroIn K CInvalidNumeral (.type "object") = some true)
    (spg : PySem.W.specialIn K (.builtin "object.__class__") "__get__" = some (some (.builtin "getset_descriptor.__get__"))) (spt : PySem.W.takesIn K (.builtin "object.__class__") = some true)
    (zall : PySem.W.nsIn K mainGlobals "all" = some none)
    (zstr : PySem.W.nsIn K mainGlobals "str" = some none)
    (zdivmod : PySem.W.nsIn K mainGlobals "divmod" = some none)
    (zlen : PySem.W.nsIn K mainGlobals "len" = some none)
    (zint : PySem.W.nsIn K mainGlobals "int" = some none)
    (zisinstance : PySem.W.nsIn K mainGlobals "isinstance" = some none)
    (zbool : PySem.W.nsIn K mainGlobals "bool" = some none)
    (zlist : PySem.W.nsIn K mainGlobals "list" = some none)
    (zrange : PySem.W.nsIn K mainGlobals "range" = some none)
    {tkDIGITS : Tok} (gDIGITS : PySem.W.nsIn K mainGlobals "DIGITS" = some (some (.str (PySem.Str.ofString "0123456789") tkDIGITS)))
    {tkPIECE : Tok} (gPIECE : PySem.W.nsIn K mainGlobals "PIECE" = some (some (.int 64 tkPIECE))) :
    ∃ A : At, A.a_law = fa ∧ (∀ (s : Shared) (v : Value), BindsTo s A.d_law ⟨[v], []⟩ [("script", v)]) ∧ Txt K mg A := by
  have e := hfa.symm.trans (PySem.W.mg_of X G a9)
  cases e
  have F0 := fun_mk (st := s_to_digits) l0 c0 k0
  have b0 := F0.binds (ps := ["number"]) fun _ _ _ _ _ _ us hl => match us, hl with | [_], _ => rfl
  have F1 := fun_mk (st := s_from_digits) l1 c1 k1
  have b1 := F1.binds (ps := ["text"]) fun _ _ _ _ _ _ us hl => match us, hl with | [_], _ => rfl
  have F2 := fun_mk (st := s_has_numeral_form) l2 c2 k2
  have b2 := F2.binds (ps := ["text"]) fun _ _ _ _ _ _ us hl => match us, hl with | [_], _ => rfl
  have F3 := fun_mk (st := s_numeral_of) l3 c3 k3
  have b3 := F3.binds (ps := ["number"]) fun _ _ _ _ _ _ us hl => match us, hl with | [_], _ => rfl
  have F4 := fun_mk (st := s_number_of) l4 c4 k4
  have b4 := F4.binds (ps := ["digits"]) fun _ _ _ _ _ _ us hl => match us, hl with | [_], _ => rfl
  have F5 := fun_mk (st := s_law_is_integer) l5 c5 k5
  have b5 := F5.binds (ps := ["actual"]) fun _ _ _ _ _ _ us hl => match us, hl with | [_], _ => rfl
  have F6 := fun_mk (st := s_law_pool) l6 c6 k6
  have b6 := F6.binds (ps := ["script"]) fun _ _ _ _ _ _ us hl => match us, hl with | [_], _ => rfl
  have F7 := fun_mk (st := s_law_spread) l7 c7 k7
  have b7 := F7.binds (ps := ["cell"]) fun _ _ _ _ _ _ us hl => match us, hl with | [_], _ => rfl
  have F8 := fun_mk (st := s_law_draw) l8 c8 k8
  have b8 := F8.binds (ps := ["pool", "many"]) fun _ _ _ _ _ _ us hl => match us, hl with | [_, _], _ => rfl
  have F9 := fun_mk (st := s_law) l9 c9 k9
  have b9 := F9.binds (ps := ["script"]) fun _ _ _ _ _ _ us hl => match us, hl with | [_], _ => rfl
  exact ⟨⟨f0, PySem.W.fnOf "to_digits" "to_digits" (defArgs s_to_digits) (defBody s_to_digits) (defScope s_to_digits) .none kV0 dc0 pm0 an0 cd0 ct0, f1, PySem.W.fnOf "from_digits" "from_digits" (defArgs s_from_digits) (defBody s_from_digits) (defScope s_from_digits) .none kV1 dc1 pm1 an1 cd1 ct1, f2, PySem.W.fnOf "has_numeral_form" "has_numeral_form" (defArgs s_has_numeral_form) (defBody s_has_numeral_form) (defScope s_has_numeral_form) .none kV2 dc2 pm2 an2 cd2 ct2, f3, PySem.W.fnOf "_numeral_of" "_numeral_of" (defArgs s_numeral_of) (defBody s_numeral_of) (defScope s_numeral_of) .none kV3 dc3 pm3 an3 cd3 ct3, f4, PySem.W.fnOf "_number_of" "_number_of" (defArgs s_number_of) (defBody s_number_of) (defScope s_number_of) .none kV4 dc4 pm4 an4 cd4 ct4, f5, PySem.W.fnOf "_law_is_integer" "_law_is_integer" (defArgs s_law_is_integer) (defBody s_law_is_integer) (defScope s_law_is_integer) .none kV5 dc5 pm5 an5 cd5 ct5, f6, PySem.W.fnOf "_law_pool" "_law_pool" (defArgs s_law_pool) (defBody s_law_pool) (defScope s_law_pool) .none kV6 dc6 pm6 an6 cd6 ct6, f7, PySem.W.fnOf "_law_spread" "_law_spread" (defArgs s_law_spread) (defBody s_law_spread) (defScope s_law_spread) .none kV7 dc7 pm7 an7 cd7 ct7, f8, PySem.W.fnOf "_law_draw" "_law_draw" (defArgs s_law_draw) (defBody s_law_draw) (defScope s_law_draw) .none kV8 dc8 pm8 an8 cd8 ct8, fa, PySem.W.fnOf "law" "law" (defArgs s_law) (defBody s_law) (defScope s_law) .none kV9 dc9 pm9 an9 cd9 ct9, COddsError, CInvalidNumeral⟩, rfl, fun s v => .of_eq rfl,
    ⟨⟨F0, PySem.W.mg_of X G a0, b0⟩,
    ⟨F1, PySem.W.mg_of X G a1, b1⟩,
    ⟨F2, PySem.W.mg_of X G a2, b2⟩,
    ⟨F3, PySem.W.mg_of X G a3, b3⟩,
    ⟨F4, PySem.W.mg_of X G a4, b4⟩,
    ⟨F5, PySem.W.mg_of X G a5, b5⟩,
    ⟨F6, PySem.W.mg_of X G a6, b6⟩,
    ⟨F7, PySem.W.mg_of X G a7, b7⟩,
    ⟨F8, PySem.W.mg_of X G a8, b8⟩,
    ⟨F9, PySem.W.mg_of X G a9, b9⟩,
    ⟨PySem.W.mg_of X G gOddsError, xOddsError, kkOddsError, bOddsError, tOddsError, sOddsError, ⟨gaOddsError, ggOddsError, bOddsError, hdOddsError, clOddsError, spg, spt, mrOddsError⟩⟩,
    ⟨PySem.W.mg_of X G gInvalidNumeral, xInvalidNumeral, kkInvalidNumeral, bInvalidNumeral, tInvalidNumeral, sInvalidNumeral, ⟨gaInvalidNumeral, ggInvalidNumeral, bInvalidNumeral, hdInvalidNumeral, clInvalidNumeral, spg, spt, mrInvalidNumeral⟩⟩,
    PySem.W.mg_none_of X G zall,
    PySem.W.mg_none_of X G zstr,
    PySem.W.mg_none_of X G zdivmod,
    PySem.W.mg_none_of X G zlen,
    PySem.W.mg_none_of X G zint,
    PySem.W.mg_none_of X G zisinstance,
    PySem.W.mg_none_of X G zbool,
    PySem.W.mg_none_of X G zlist,
    PySem.W.mg_none_of X G zrange,
    ⟨_, PySem.W.mg_of X G gDIGITS, ⟨_, rfl⟩⟩,
    ⟨_, PySem.W.mg_of X G gPIECE, ⟨_, rfl⟩⟩⟩⟩
theorem walk {l : PySem.W.OpenLaw} {q : Program} {loose : List Str} {XP : (Str → Option Value) → Heap → Prop} {YP : World → Heap → Prop} {d : DefRec} {K : Params → PySem.W.Frag} (hn : l.most = some 63) (hdf : d.params.defaults = [])
    (hY : ∀ (w : World) (h : Heap), YP w h → (K w.params).In h)
    (F : ∀ (w : World) (mg : Str → Option Value) (fa : Addr) (h : Heap), (K w.params).In h → h.Ns mainGlobals mg → mg d.name = some (.ref fa) →
      ∃ A : At, A.a_law = fa ∧ (∀ (s : Shared) (v : Value), BindsTo s A.d_law ⟨[v], []⟩ [("script", v)]) ∧ Txt (K w.params) mg A) :
    PySem.W.WalkO q loose XP YP l.row.toRowW d [] (fun f vs => PySem.call f vs) :=
  L2.walk_of (n := 63) (k := 14) (x := "script") (CX := fun _ => CX0) (sp := fun w => spLaw (K w.params)) hn (by decide) hdf ⟨rfl, by decide, by decide⟩ hY
    (fun w mg fa h X G e => by
      obtain ⟨A, rfl, hb, T⟩ := F w mg fa h X G e
      exact ⟨A.d_law, hb, fun base _ _ => ok_law T⟩)
    (fun _ _ a ns hl _ hS => ⟨a, ns, rfl, hS, hl, fun _ => rfl⟩) fun _ _ _ _ _ z => z
end O
open PySem PySem.W PyProof.Rows
set_option maxRecDepth 100000 in
set_option maxHeartbeats 0 in
theorem PySem.Challenge.cw_odds_k01_long_decimal_forms_holds : PySem.Challenge.rw_odds_k01_long_decimal_forms.Holds := by
  w_on; o_law; k_head; (case hw => w_witness2)
  k_fill
  refine O.walk (l := PySem.Challenge.rw_odds_k01_long_decimal_forms) rfl rfl (fun w h Y => PySem.W.kIn_of Y) ?F
  case F =>
    intro w mg fa h KX G hmg
    refine' O.all_mk KX G hmg ?a0 ?l0 ?c0 ?k0 ?a1 ?l1 ?c1 ?k1 ?a2 ?l2 ?c2 ?k2 ?a3 ?l3 ?c3 ?k3 ?a4 ?l4 ?c4 ?k4 ?a5 ?l5 ?c5 ?k5 ?a6 ?l6 ?c6 ?k6 ?a7 ?l7 ?c7 ?k7 ?a8 ?l8 ?c8 ?k8 ?a9 ?l9 ?c9 ?k9 ?gOddsError ?xOddsError ?kkOddsError ?bOddsError ?tOddsError ?sOddsError ?gaOddsError ?ggOddsError ?hdOddsError ?clOddsError ?mrOddsError ?gInvalidNumeral ?xInvalidNumeral ?kkInvalidNumeral ?bInvalidNumeral ?tInvalidNumeral ?sInvalidNumeral ?gaInvalidNumeral ?ggInvalidNumeral ?hdInvalidNumeral ?clInvalidNumeral ?mrInvalidNumeral ?spg ?spt ?zall ?zstr ?zdivmod ?zlen ?zint ?zisinstance ?zbool ?zlist ?zrange ?gDIGITS ?gPIECE
    (case a0 => k_is)
    (case l0 => k_is)
    (case c0 => k_is)
    (case k0 => k_is)
    (case a1 => k_is)
    (case l1 => k_is)
    (case c1 => k_is)
    (case k1 => k_is)
    (case a2 => k_is)
    (case l2 => k_is)
    (case c2 => k_is)
    (case k2 => k_is)
    (case a3 => k_is)
    (case l3 => k_is)
    (case c3 => k_is)
    (case k3 => k_is)
    (case a4 => k_is)
    (case l4 => k_is)
    (case c4 => k_is)
    (case k4 => k_is)
    (case a5 => k_is)
    (case l5 => k_is)
    (case c5 => k_is)
    (case k5 => k_is)
    (case a6 => k_is)
    (case l6 => k_is)
    (case c6 => k_is)
    (case k6 => k_is)
    (case a7 => k_is)
    (case l7 => k_is)
    (case c7 => k_is)
    (case k7 => k_is)
    (case a8 => k_is)
    (case l8 => k_is)
    (case c8 => k_is)
    (case k8 => k_is)
    (case a9 => k_is)
    (case l9 => k_is)
    (case c9 => k_is)
    (case k9 => k_is)
    (case gOddsError => k_is)
    (case xOddsError => k_exc)
    (case kkOddsError => k_is)
    (case bOddsError => k_is)
    (case tOddsError => k_is)
    (case sOddsError => first | rfl | k_is)
    (case gaOddsError => k_is)
    (case ggOddsError => k_is)
    (case hdOddsError => k_is)
    (case clOddsError => k_is)
    (case mrOddsError => k_is)
    (case gInvalidNumeral => k_is)
    (case xInvalidNumeral => k_exc)
    (case kkInvalidNumeral => k_is)
    (case bInvalidNumeral => k_is)
    (case tInvalidNumeral => k_is)
    (case sInvalidNumeral => first | rfl | k_is)
    (case gaInvalidNumeral => k_is)
    (case ggInvalidNumeral => k_is)
    (case hdInvalidNumeral => k_is)
    (case clInvalidNumeral => k_is)
    (case mrInvalidNumeral => k_is)
    (case spg => k_is)
    (case spt => k_is)
    (case zall => k_is)
    (case zstr => k_is)
    (case zdivmod => k_is)
    (case zlen => k_is)
    (case zint => k_is)
    (case zisinstance => k_is)
    (case zbool => k_is)
    (case zlist => k_is)
    (case zrange => k_is)
    (case gDIGITS => k_is)
    (case gPIECE => k_is)
