import PyProof.Rows.All
import Wide.All
import OpenK.AllK
import Wide.FinOn
import HandS.ForExc
import HandS.Wide
import HandS.WideBits
import HandS.Gcd
import HandS.IsInst
import HandS.ExcIs
import KE.RegKIsAll
import PySem.Challenge.RW_odds_k05_comparisons_and_sums
set_option Elab.async false
set_option linter.all false
set_option maxRecDepth 100000
set_option maxHeartbeats 4000000
namespace O
open PySem L2
def topS (i : Nat) : Stmt := PySem.Challenge.pw_odds_k05_comparisons_and_sums.main.body.getD i (.Pass ⟨0, 0, 0, 0⟩)
abbrev s_ratio : Stmt := topS 7
theorem sc_ratio : FnScope ["top", "bottom", "shared"] ["top", "bottom"] (defScope s_ratio) := ⟨rfl, rfl, rfl, by decide +kernel, rfl, by decide +kernel, by decide +kernel⟩
abbrev s_plus : Stmt := topS 8
theorem sc_plus : FnScope ["a", "b"] ["a", "b"] (defScope s_plus) := ⟨rfl, rfl, rfl, by decide +kernel, rfl, by decide +kernel, by decide +kernel⟩
abbrev s_minus : Stmt := topS 9
theorem sc_minus : FnScope ["a", "b"] ["a", "b"] (defScope s_minus) := ⟨rfl, rfl, rfl, by decide +kernel, rfl, by decide +kernel, by decide +kernel⟩
abbrev s_times : Stmt := topS 10
theorem sc_times : FnScope ["a", "b"] ["a", "b"] (defScope s_times) := ⟨rfl, rfl, rfl, by decide +kernel, rfl, by decide +kernel, by decide +kernel⟩
abbrev s_compare : Stmt := topS 11
theorem sc_compare : FnScope ["a", "b", "left", "right"] ["a", "b"] (defScope s_compare) := ⟨rfl, rfl, rfl, by decide +kernel, rfl, by decide +kernel, by decide +kernel⟩
abbrev s_plus_all : Stmt := topS 12
theorem sc_plus_all : FnScope ["ratios", "total", "r"] ["ratios"] (defScope s_plus_all) := ⟨rfl, rfl, rfl, by decide +kernel, rfl, by decide +kernel, by decide +kernel⟩
abbrev s_times_all : Stmt := topS 13
theorem sc_times_all : FnScope ["ratios", "total", "r"] ["ratios"] (defScope s_times_all) := ⟨rfl, rfl, rfl, by decide +kernel, rfl, by decide +kernel, by decide +kernel⟩
abbrev s_rest : Stmt := topS 14
theorem sc_rest : FnScope ["r"] ["r"] (defScope s_rest) := ⟨rfl, rfl, rfl, by decide +kernel, rfl, by decide +kernel, by decide +kernel⟩
abbrev s_is_chance : Stmt := topS 15
theorem sc_is_chance : FnScope ["r"] ["r"] (defScope s_is_chance) := ⟨rfl, rfl, rfl, by decide +kernel, rfl, by decide +kernel, by decide +kernel⟩
abbrev s_law_same : Stmt := topS 17
theorem sc_law_same : FnScope ["actual", "due", "k"] ["actual", "due"] (defScope s_law_same) := ⟨rfl, rfl, rfl, by decide +kernel, rfl, by decide +kernel, by decide +kernel⟩
abbrev s_law_pool : Stmt := topS 18
theorem sc_law_pool : FnScope ["script", "salt", "cell"] ["script"] (defScope s_law_pool) := ⟨rfl, rfl, rfl, by decide +kernel, rfl, by decide +kernel, by decide +kernel⟩
abbrev s_law_spread : Stmt := topS 19
theorem sc_law_spread : FnScope ["cell", "mixed", "total", "k"] ["cell"] (defScope s_law_spread) := ⟨rfl, rfl, rfl, by decide +kernel, rfl, by decide +kernel, by decide +kernel⟩
abbrev s_law_draw : Stmt := topS 20
theorem sc_law_draw : FnScope ["pool", "many", "cell", "mixed", "value"] ["pool", "many"] (defScope s_law_draw) := ⟨rfl, rfl, rfl, by decide +kernel, rfl, by decide +kernel, by decide +kernel⟩
abbrev s_law_gcd : Stmt := topS 21
theorem sc_law_gcd : FnScope ["a", "b", "k", "left"] ["a", "b"] (defScope s_law_gcd) := ⟨rfl, rfl, rfl, by decide +kernel, rfl, by decide +kernel, by decide +kernel⟩
abbrev s_law_frac : Stmt := topS 22
theorem sc_law_frac : FnScope ["top", "bottom", "common"] ["top", "bottom"] (defScope s_law_frac) := ⟨rfl, rfl, rfl, by decide +kernel, rfl, by decide +kernel, by decide +kernel⟩
abbrev s_law_plus : Stmt := topS 23
theorem sc_law_plus : FnScope ["a", "b"] ["a", "b"] (defScope s_law_plus) := ⟨rfl, rfl, rfl, by decide +kernel, rfl, by decide +kernel, by decide +kernel⟩
abbrev s_law_times : Stmt := topS 24
theorem sc_law_times : FnScope ["a", "b"] ["a", "b"] (defScope s_law_times) := ⟨rfl, rfl, rfl, by decide +kernel, rfl, by decide +kernel, by decide +kernel⟩
abbrev s_law_number : Stmt := topS 25
theorem sc_law_number : FnScope ["pool", "most", "value"] ["pool", "most"] (defScope s_law_number) := ⟨rfl, rfl, rfl, by decide +kernel, rfl, by decide +kernel, by decide +kernel⟩
abbrev s_law : Stmt := topS 26
theorem sc_law : FnScope ["script", "pool", "row", "k", "one", "total", "whole", "other", "gap", "due", "kept"] ["script"] (defScope s_law) := ⟨rfl, rfl, rfl, by decide +kernel, rfl, by decide +kernel, by decide +kernel⟩
/-- a def of the text as it stands behind the top -/
structure DefT (K : PySem.W.Frag) (mg : Str → Option Value) (x : Str) (st : Stmt) (ps : List Str) (f : Addr) (fd : FuncData) : Prop where
  F : Fun K x x st f fd
  g : mg x = some (.ref f)
  b : Binds K fd ps []
/-- an error class of the text -/
structure ErrT (K : PySem.W.Frag) (mg : Str → Option Value) (x : Str) (C : Addr) : Prop where
  g : mg x = some (.ref C)
  ex : PySem.W.excIn K C [.type "ValueError", .type "Exception", .type "BaseException", .type "object"] "ValueError.__new__" = true
  k : PySem.W.keepIn K (.ref C) = true
  b : PySem.W.subIn K (.ref C) (.type "BaseException") = some true
  t : PySem.W.typeIn K (.ref C) = some (.type "type")
  s : PySem.W.subIn K (.ref C) (.ref C) = some true
  e : ExcC K C
structure At where
  a_ratio : Addr
  d_ratio : FuncData
  a_plus : Addr
  d_plus : FuncData
  a_minus : Addr
  d_minus : FuncData
  a_times : Addr
  d_times : FuncData
  a_compare : Addr
  d_compare : FuncData
  a_plus_all : Addr
  d_plus_all : FuncData
  a_times_all : Addr
  d_times_all : FuncData
  a_rest : Addr
  d_rest : FuncData
  a_is_chance : Addr
  d_is_chance : FuncData
  a_law_same : Addr
  d_law_same : FuncData
  a_law_pool : Addr
  d_law_pool : FuncData
  a_law_spread : Addr
  d_law_spread : FuncData
  a_law_draw : Addr
  d_law_draw : FuncData
  a_law_gcd : Addr
  d_law_gcd : FuncData
  a_law_frac : Addr
  d_law_frac : FuncData
  a_law_plus : Addr
  d_law_plus : FuncData
  a_law_times : Addr
  d_law_times : FuncData
  a_law_number : Addr
  d_law_number : FuncData
  a_law : Addr
  d_law : FuncData
  C_OddsError : Addr
  C_ZeroDivisor : Addr
structure Txt (K : PySem.W.Frag) (mg : Str → Option Value) (A : At) : Prop where
  t_ratio : DefT K mg "ratio" s_ratio ["top", "bottom"] A.a_ratio A.d_ratio
  t_plus : DefT K mg "plus" s_plus ["a", "b"] A.a_plus A.d_plus
  t_minus : DefT K mg "minus" s_minus ["a", "b"] A.a_minus A.d_minus
  t_times : DefT K mg "times" s_times ["a", "b"] A.a_times A.d_times
  t_compare : DefT K mg "compare" s_compare ["a", "b"] A.a_compare A.d_compare
  t_plus_all : DefT K mg "plus_all" s_plus_all ["ratios"] A.a_plus_all A.d_plus_all
  t_times_all : DefT K mg "times_all" s_times_all ["ratios"] A.a_times_all A.d_times_all
  t_rest : DefT K mg "rest" s_rest ["r"] A.a_rest A.d_rest
  t_is_chance : DefT K mg "is_chance" s_is_chance ["r"] A.a_is_chance A.d_is_chance
  t_law_same : DefT K mg "_law_same" s_law_same ["actual", "due"] A.a_law_same A.d_law_same
  t_law_pool : DefT K mg "_law_pool" s_law_pool ["script"] A.a_law_pool A.d_law_pool
  t_law_spread : DefT K mg "_law_spread" s_law_spread ["cell"] A.a_law_spread A.d_law_spread
  t_law_draw : DefT K mg "_law_draw" s_law_draw ["pool", "many"] A.a_law_draw A.d_law_draw
  t_law_gcd : DefT K mg "_law_gcd" s_law_gcd ["a", "b"] A.a_law_gcd A.d_law_gcd
  t_law_frac : DefT K mg "_law_frac" s_law_frac ["top", "bottom"] A.a_law_frac A.d_law_frac
  t_law_plus : DefT K mg "_law_plus" s_law_plus ["a", "b"] A.a_law_plus A.d_law_plus
  t_law_times : DefT K mg "_law_times" s_law_times ["a", "b"] A.a_law_times A.d_law_times
  t_law_number : DefT K mg "_law_number" s_law_number ["pool", "most"] A.a_law_number A.d_law_number
  t_law : DefT K mg "law" s_law ["script"] A.a_law A.d_law
  e_OddsError : ErrT K mg "OddsError" A.C_OddsError
  e_ZeroDivisor : ErrT K mg "ZeroDivisor" A.C_ZeroDivisor
  z_isinstance : mg "isinstance" = none
  z_tuple : mg "tuple" = none
  z_list : mg "list" = none
  z_len : mg "len" = none
  z_range : mg "range" = none
  z_bool : mg "bool" = none
  z_int : mg "int" = none
  z_str : mg "str" = none
  z_abs : mg "abs" = none
  m_gcd : mg "gcd" = some (.builtin "math.gcd")
  k_ZERO : ∃ z, mg "ZERO" = some (.ref z) ∧ ∀ H, SqT K H z [.int 0, .int 1]
  k_ONE : ∃ z, mg "ONE" = some (.ref z) ∧ ∀ H, SqT K H z [.int 1, .int 1]
/-! Euclid's walk: how many turns it takes -/
structure Eu (a0 b0 i a b : Nat) : Prop where
  g : Nat.gcd a b = Nat.gcd a0 b0
  z : i = 0 → a = a0 ∧ b = b0
  p : 0 < i → b < a ∧ a * b * 2 ^ i ≤ 2 * (a0 * b0)
theorem eu_start (a b : Nat) : Eu a b 0 a b := ⟨rfl, fun _ => ⟨rfl, rfl⟩, fun h => absurd h (Nat.lt_irrefl 0)⟩
theorem eu_half {a b : Nat} (hb : b ≠ 0) (h : b < a) : 2 * (a % b) ≤ a := by
  have h1 := Nat.mod_lt a (Nat.pos_of_ne_zero hb)
  have h2 := Nat.div_add_mod a b
  have h3 : 1 ≤ a / b := Nat.div_pos (Nat.le_of_lt h) (Nat.pos_of_ne_zero hb)
  have h4 : b * 1 ≤ b * (a / b) := Nat.mul_le_mul_left b h3
  omega
theorem eu_next {a0 b0 i a b : Nat} (h : Eu a0 b0 i a b) (hb : b ≠ 0) : Eu a0 b0 (i + 1) b (a % b) := by
  have hl := Nat.mod_lt a (Nat.pos_of_ne_zero hb)
  refine ⟨?_, fun e => by omega, fun _ => ⟨hl, ?_⟩⟩
  · rw [← h.g, Nat.gcd_comm a b, Nat.gcd_rec b a, Nat.gcd_comm]
  · by_cases hi : i = 0
    · obtain ⟨rfl, rfl⟩ := h.z hi
      subst hi
      have h1 : a % b ≤ a := Nat.mod_le a b
      have h2 : b * (a % b) ≤ b * a := Nat.mul_le_mul_left b h1
      rw [Nat.mul_comm b a] at h2
      show b * (a % b) * 2 ≤ 2 * (a * b)
      omega
    · obtain ⟨h1, h2⟩ := h.p (Nat.pos_of_ne_zero hi)
      have h3 := eu_half hb h1
      have h4 : b * (2 * (a % b)) ≤ b * a := Nat.mul_le_mul_left b h3
      have h5 : b * (2 * (a % b)) * 2 ^ i ≤ b * a * 2 ^ i := Nat.mul_le_mul_right _ h4
      have e : b * (a % b) * 2 ^ (i + 1) = b * (2 * (a % b)) * 2 ^ i := by
        rw [Nat.pow_succ, Nat.mul_comm (2 ^ i) 2, ← Nat.mul_assoc, Nat.mul_assoc b (a % b) 2, Nat.mul_comm (a % b) 2]
      rw [e]
      rw [Nat.mul_comm b a] at h5
      exact Nat.le_trans h5 h2
theorem eu_stop {a0 b0 i a b m n : Nat} (h : Eu a0 b0 i a b) (hb : b ≠ 0) (ha0 : a0 < 2 ^ m) (hb0 : b0 < 2 ^ n) (hi : m + n + 2 ≤ i) : False := by
  obtain ⟨h1, h2⟩ := h.p (by omega)
  have h3 : 1 ≤ a * b := Nat.mul_pos (by omega) (Nat.pos_of_ne_zero hb)
  have h4 : 1 * 2 ^ i ≤ a * b * 2 ^ i := Nat.mul_le_mul_right _ h3
  have h5 : a0 * b0 ≤ 2 ^ m * 2 ^ n := Nat.mul_le_mul (Nat.le_of_lt ha0) (Nat.le_of_lt hb0)
  rw [← Nat.pow_add] at h5
  have h6 : 2 ^ (m + n + 2) ≤ 2 ^ i := Nat.pow_le_pow_right (by decide) hi
  have h7 : 2 ^ (m + n + 2) = 4 * 2 ^ (m + n) := by rw [Nat.pow_add]; omega
  have h8 : 0 < 2 ^ (m + n) := Nat.pow_pos (by decide)
  omega
/-! a quotient in lowest terms -/
def rsg (t b : Int) : Int := if b < 0 then -(Int.gcd t b : Int) else (Int.gcd t b : Int)
def rtop (t b : Int) : Int := t.fdiv (rsg t b)
def rbot (t b : Int) : Int := b.fdiv (rsg t b)
theorem rgcd_pos {t b : Int} (hb : b ≠ 0) : 0 < Int.gcd t b := Int.gcd_pos_of_ne_zero_right t hb
theorem rsg_ne {t b : Int} (hb : b ≠ 0) : rsg t b ≠ 0 := by
  have h := rgcd_pos (t := t) hb
  unfold rsg
  split <;> omega
theorem rsg_dvd (t b x : Int) (h : (Int.gcd t b : Int) ∣ x) : rsg t b ∣ x := by
  unfold rsg
  split
  · exact Int.neg_dvd.mpr h
  · exact h
theorem rtop_mul (t b : Int) : rtop t b * rsg t b = t := Int.fdiv_mul_cancel (rsg_dvd t b t (Int.gcd_dvd_left ..))
theorem rbot_mul (t b : Int) : rbot t b * rsg t b = b := Int.fdiv_mul_cancel (rsg_dvd t b b (Int.gcd_dvd_right ..))
theorem r_cross (t b : Int) : rtop t b * b = t * rbot t b := by
  have h1 := rtop_mul t b
  have h2 := rbot_mul t b
  calc rtop t b * b = rtop t b * (rbot t b * rsg t b) := by rw [h2]
    _ = rtop t b * rsg t b * rbot t b := by rw [Int.mul_comm (rbot t b), ← Int.mul_assoc]
    _ = t * rbot t b := by rw [h1]
theorem rbot_pos {t b : Int} (hb : b ≠ 0) : 1 ≤ rbot t b := by
  have h1 := rbot_mul t b
  have h2 := rgcd_pos (t := t) hb
  have h3 : 0 < rbot t b := by
    by_cases hn : b < 0
    · have e : rsg t b = -(Int.gcd t b : Int) := if_pos hn
      rw [e] at h1
      have h4 : rbot t b * (Int.gcd t b : Int) = -b := by
        rw [Int.mul_neg] at h1
        omega
      exact Int.pos_of_mul_pos_left (a := rbot t b) (b := (Int.gcd t b : Int)) (by omega) (by omega)
    · have e : rsg t b = (Int.gcd t b : Int) := if_neg hn
      rw [e] at h1
      exact Int.pos_of_mul_pos_left (a := rbot t b) (b := (Int.gcd t b : Int)) (by omega) (by omega)
  omega
theorem r_gcd {t b : Int} (hb : b ≠ 0) : Int.gcd (rtop t b) (rbot t b) = 1 := by
  have h1 := rtop_mul t b
  have h2 := rbot_mul t b
  have h3 := rgcd_pos (t := t) hb
  have h4 : Int.gcd (rtop t b * rsg t b) (rbot t b * rsg t b) = Int.gcd (rtop t b) (rbot t b) * (rsg t b).natAbs := Int.gcd_mul_right ..
  rw [h1, h2] at h4
  have h5 : (rsg t b).natAbs = Int.gcd t b := by
    unfold rsg
    split
    · rw [Int.natAbs_neg]; rfl
    · rfl
  rw [h5] at h4
  exact (Nat.mul_right_cancel h3 (by rw [Nat.one_mul]; exact h4)).symm
theorem r_le {x q s : Int} (h : q * s = x) (hs : s ≠ 0) : q.natAbs ≤ x.natAbs := by
  rw [← h, Int.natAbs_mul]
  exact Nat.le_mul_of_pos_right _ (by omega)
theorem rtop_le {t b : Int} (hb : b ≠ 0) : (rtop t b).natAbs ≤ t.natAbs := r_le (rtop_mul t b) (rsg_ne hb)
theorem rbot_le {t b : Int} (hb : b ≠ 0) : (rbot t b).natAbs ≤ b.natAbs := r_le (rbot_mul t b) (rsg_ne hb)
/-! ### what a sequence asks, through a word of what stands between -/
theorem seq_then {t u : TS} {D : Ends} {σ : St} {H : Hp} (P : St → Hp → Prop) (h2 : ∀ σ' H', P σ' H' → u D σ' H') (h1 : ∀ N : St → Hp → Prop, (∀ σ' H', P σ' H' → N σ' H') → t { D with nx := N } σ H) : tSeq t u D σ H := h1 (u D) h2
theorem seq_const {v : V} {i : Nat} {u : TS} {D : Ends} {σ : St} {H : Hp} (h : u D (σ.set i (some v)) H) : tSeq (tAsg (tC v) (gName i)) u D σ H := h
theorem same_upd {H : Hp} {p : Addr} {o : HO} (h : H p = none) : Same H (upd H p o) := fun b x e => by
  rw [upd_ne (ne_of_none e h)]
  exact e
/-- all that was tracked is as it was, but what stands at p -/
def But (p : Addr) (H H' : Hp) : Prop := ∀ c o, H c = some o → c ≠ p → H' c = some o
theorem But.refl (p : Addr) (H : Hp) : But p H H := fun _ _ h _ => h
theorem But.trans {p : Addr} {H H1 H2 : Hp} (a : But p H H1) (b : But p H1 H2) : But p H H2 := fun c o h n => b c o (a c o h n) n
theorem But.upd {p : Addr} {H H1 : Hp} {o : HO} (a : But p H H1) : But p H (L2.upd H1 p o) := fun c x h n => by
  rw [upd_ne n]
  exact a c x h n
theorem But.same {p : Addr} {H H1 : Hp} (a : Same H H1) : But p H H1 := fun c o h _ => a c o h
/-- the pool of draws at p: the script's copy, the place, what is left of a cell, how many draws, the salt -/
def PoolAt (H : Hp) (p l : Addr) : Prop := ∃ (ns : List Int) (pos cur cnt salt : Int), H p = some (.lst [.ref l, .int pos, .int cur, .int cnt, .int salt]) ∧ H l = some (.lst (ns.map V.int)) ∧ 0 ≤ pos ∧ l ≠ p
theorem PoolAt.same {H H' : Hp} {p l : Addr} (a : Same H H') (h : PoolAt H p l) : PoolAt H' p l := by
  obtain ⟨ns, pos, cur, cnt, salt, h1, h2, h3, h4⟩ := h
  exact ⟨ns, pos, cur, cnt, salt, a _ _ h1, a _ _ h2, h3, h4⟩
/-- a pool is no tuple -/
theorem PoolAt.ne {H : Hp} {p l t : Addr} {xs : List V} (h : PoolAt H p l) (ht : H t = some (.tup xs)) : t ≠ p := by
  obtain ⟨ns, pos, cur, cnt, salt, h1, _⟩ := h
  exact ne_of ht h1 (by intro z; cases z)
theorem PoolAt.free {H : Hp} {p l t : Addr} (h : PoolAt H p l) (ht : H t = none) : t ≠ p := by
  obtain ⟨ns, pos, cur, cnt, salt, h1, _⟩ := h
  exact (ne_of_none h1 ht).symm
theorem PoolAt.free2 {H : Hp} {p l t : Addr} (h : PoolAt H p l) (ht : H t = none) : t ≠ l := by
  obtain ⟨ns, pos, cur, cnt, salt, _, h1, _⟩ := h
  exact (ne_of_none h1 ht).symm
theorem PoolAt.upd {H : Hp} {p l t : Addr} {o : HO} (h : PoolAt H p l) (h1 : t ≠ p) (h2 : t ≠ l) : PoolAt (L2.upd H t o) p l := by
  obtain ⟨ns, pos, cur, cnt, salt, a1, a2, a3, a4⟩ := h
  exact ⟨ns, pos, cur, cnt, salt, by rw [upd_ne h1.symm]; exact a1, by rw [upd_ne h2.symm]; exact a2, a3, a4⟩
/-- an item of a written row of ints at a drawn place -/
theorem pick_at {ms : List Int} {v : Int} (h0 : 0 ≤ v) (h1 : v < ms.length) : ∃ m, m ∈ ms ∧ atI (ms.map V.int) v = some (.int m) := by
  obtain ⟨j, rfl⟩ := Int.eq_ofNat_of_zero_le h0
  have hj : j < ms.length := by omega
  refine ⟨ms[j], List.getElem_mem hj, atI_nat ?_⟩
  rw [List.getElem?_map, List.getElem?_eq_getElem hj]
  rfl
section
variable {P : Program} {w : World} {K : PySem.W.Frag} {mg : Str → Option Value} {base : Heap} {A : At}
/-! ### the law's own draws -/
def spSpread : Sp := fun vs H Q _ => ∃ c : Int, vs = [.int c] ∧ ∀ v : Int, Q (.int v) H
theorem ok_spread (T : Txt K mg A) : FnOk P w K mg base CX0 1 A.a_law_spread A.d_law_spread ["cell"] spSpread := by
  refine T.t_law_spread.F.ok sc_law_spread (fun vs H Q E h => ?_) (fun cdv AA outer s H vs Q E hr h => ?_)
  · obtain ⟨c, rfl, _⟩ := h
    rfl
  · obtain ⟨c, rfl, k⟩ := h
    refine ⟨_, pss_cons (ps_set (i := 1) sc_law_spread.nd rfl (Or.inl rfl) (pe_op op_mod (pe_callTy call_int1 (by rfl) T.z_int PyProof.Rows.boot_int (pa_cons (pv 0) pa_nil)) pe_int))
      (pss_cons (ps_set (i := 2) sc_law_spread.nd rfl (Or.inl rfl) pe_int)
      (pss_cons (ps_for PassesOwn.never rfl (pi_range1 rfl T.z_range (pa_cons pe_int pa_nil)) (pg_name (i := 3) sc_law_spread.nd rfl (Or.inl rfl))
        (pss_cons (ps_set (i := 1) sc_law_spread.nd rfl (Or.inl rfl) (pe_op op_mod (pe_callTy call_int1 (by rfl) T.z_int PyProof.Rows.boot_int (pa_cons (pe_op op_add (pe_op op_add (pe_op op_mul (pv 1) pe_int) pe_int) (pv 3)) pa_nil)) pe_int))
        (pss_one (ps_set (i := 2) sc_law_spread.nd rfl (Or.inl rfl) (pe_op op_add (pe_op op_mul (pv 2) pe_int) (pv 1))))))
      (pss_one (ps_ret (pv 2))))), ?_⟩
    refine ⟨_, rfl, .inl ⟨_, rfl, _, _, rfl, rfl, (by show (0 : Int) < 2147483647; decide), ?_⟩⟩
    refine ⟨4, rfl, by decide, by decide, for_range (n := 4) (fun i σ H2 => H2 = H ∧ ∃ (m t : Int) (v : Option V), σ = [some (.int c), some (.int m), some (.int t), v])
      ⟨rfl, _, _, none, rfl⟩ ?_ ?_⟩
    · rintro i σ H2 hi ⟨rfl, m, t, v, rfl⟩
      refine ⟨_, rfl, _, _, rfl, rfl, .inr ⟨by decide, by decide⟩, _, _, rfl, rfl, _, rfl, _, _, rfl, rfl, .inl ⟨_, rfl, _, _, rfl, rfl, (by show (0 : Int) < 2147483647; decide), ?_⟩⟩
      refine ⟨_, rfl, _, _, rfl, rfl, .inr ⟨by decide, by decide⟩, _, rfl, _, _, rfl, rfl, ?_⟩
      exact ⟨rfl, _, _, _, rfl⟩
    · rintro σ H2 ⟨rfl, m, t, v, rfl⟩
      exact ⟨_, rfl, k _⟩
def spPool (K : PySem.W.Frag) : Sp := fun vs H Q _ => ∃ (a : Addr) (ns : List Int), vs = [.ref a] ∧ SqL K H a (ns.map V.int) ∧ ∀ p l H', PoolAt H' p l → Same H H' → H p = none → H l = none → Q (.ref p) H'
theorem cut_ints {ns : List Int} {lo hi : Option Int} {i : Nat} {y : V} (h : (cutV (ns.map V.int) lo hi)[i]? = some y) : ∃ z, y = V.int z := by
  have h1 : y ∈ cutV (ns.map V.int) lo hi := List.mem_of_getElem? h
  have h2 : y ∈ ns.map V.int := List.mem_of_mem_drop (List.mem_of_mem_take h1)
  obtain ⟨z, _, e⟩ := List.mem_map.mp h2
  exact ⟨z, e.symm⟩
theorem ok_pool (T : Txt K mg A) : FnOk P w K mg base CX0 1 A.a_law_pool A.d_law_pool ["script"] (spPool K) := by
  refine T.t_law_pool.F.ok sc_law_pool (fun vs H Q E h => ?_) (fun cdv AA outer s H vs Q E hr h => ?_)
  · obtain ⟨a, ns, rfl, _⟩ := h
    rfl
  · obtain ⟨a, ns, rfl, hS, k⟩ := h
    refine ⟨_, pss_cons (ps_set (i := 1) sc_law_pool.nd rfl (Or.inl rfl) pe_int)
      (pss_cons (ps_for PassesOwn.never rfl (pi_list (pe_slice sl_list (pv 0) po_none (po_some pe_int))) (pg_name (i := 2) sc_law_pool.nd rfl (Or.inl rfl))
        (pss_one (ps_set (i := 1) sc_law_pool.nd rfl (Or.inl rfl) (pe_op op_mod (pe_callTy call_int1 (by rfl) T.z_int PyProof.Rows.boot_int (pa_cons (pe_op op_add (pe_op op_mul (pv 1) pe_int) (pv 2)) pa_nil)) pe_int))))
      (pss_one (ps_ret (pe_lst (pa_cons (pe_callTy call_list_of (by rfl) T.z_list PyProof.Rows.boot_list (pa_cons (pv 0) pa_nil)) (pa_cons pe_int (pa_cons pe_int (pa_cons pe_int (pa_cons (pv 1) pa_nil))))))))), ?_⟩
    refine ⟨.ref a, rfl, 63, rfl, a, ns.map V.int, rfl, hS, fun c nc => ?_⟩
    have s1 := same_upd (o := .lst (cutV (ns.map V.int) none (some 63))) nc
    refine ⟨c, rfl, ⟨_, .inl (.inl upd_same)⟩, for_list (K := K) (a := c) (xs := cutV (ns.map V.int) none (some 63)) (fun i σ H2 => H2 = upd H c (.lst (cutV (ns.map V.int) none (some 63))) ∧ ∃ (m : Int) (v : Option V), σ = [some (.ref a), some (.int m), v])
      ⟨rfl, _, none, rfl⟩ (fun i σ H2 _ ⟨e, _⟩ => by rw [e]; exact .inl (.inl upd_same)) ?_ ?_⟩
    · rintro i y σ H2 hi ⟨rfl, m, v, rfl⟩
      obtain ⟨z, rfl⟩ := cut_ints hi
      refine ⟨_, rfl, _, _, rfl, rfl, .inr ⟨by decide, by decide⟩, _, rfl, _, _, rfl, rfl, .inl ⟨_, rfl, _, _, rfl, rfl, (by show (0 : Int) < 1000003; decide), ?_⟩⟩
      exact ⟨rfl, _, _, rfl⟩
    · rintro σ H2 ⟨rfl, m, v, rfl⟩
      refine ⟨.ref a, rfl, a, ns.map V.int, rfl, .inl (s1.seq hS), fun l nl => ?_⟩
      have s2 := same_upd (o := .lst (ns.map V.int)) nl
      refine ⟨_, rfl, (by show 5 ≤ sizeLine; decide), fun p np => ?_⟩
      have s3 := fun o => same_upd (o := o) np
      have ne : l ≠ p := ne_of_none upd_same np
      exact k p l _ ⟨ns, 0, 0, 0, m, upd_same, by rw [upd_ne ne, upd_same], Int.le_refl 0, ne⟩ (s1.trans (s2.trans (s3 _))) ((s1.trans s2).free np) (s1.free nl)
def spDraw : Sp := fun vs H Q _ => ∃ (p l : Addr) (many : Int), vs = [.ref p, .int many] ∧ PoolAt H p l ∧ (0 < many ∧ many.natAbs < 2 ^ 8000) ∧ ∀ v H', 0 ≤ v → v < many → PoolAt H' p l → But p H H' → Q (.int v) H'
theorem ok_draw (T : Txt K mg A) : FnOk P w K mg base CX0 2 A.a_law_draw A.d_law_draw ["pool", "many"] spDraw := by
  have GS : FnOk P w K mg base CX0 1 A.a_law_spread A.d_law_spread ["cell"] spSpread := ok_spread T
  refine T.t_law_draw.F.ok sc_law_draw (fun vs H Q E h => ?_) (fun cdv AA outer s H vs Q E hr h => ?_)
  · obtain ⟨p, l, many, rfl, _⟩ := h
    rfl
  · obtain ⟨p, l, many, rfl, ⟨ns, pos, cur, cnt, salt, hp, hl, hpos, hne⟩, ⟨hm, hmb⟩, k⟩ := h
    refine ⟨_, pss_cons (ps_if (PW.pt (pw_and (pt_cmpR op_le (pe_ix ix_list (pv 0) pe_int (fun _ _ => rfl)) pe_int (nomark _)) (pw_and1 (pt_cmpR op_lt (pe_ix ix_list (pv 0) pe_int (fun _ _ => rfl)) (pe_callB call_len_seq (by rfl) T.z_len PySem.boot_len (pa_cons (pe_ix ix_list (pv 0) pe_int (fun _ _ => rfl)) pa_nil)) (nomark _)))))
        (pss_cons (ps_set (i := 2) sc_law_draw.nd rfl (Or.inl rfl) (pe_ix ix_list (pe_ix ix_list (pv 0) pe_int (fun _ _ => rfl)) (pe_ix ix_list (pv 0) pe_int (fun _ _ => rfl)) (fun _ _ => rfl)))
        (pss_cons (ps_asg (pe_op op_add (pe_ix ix_list (pv 0) pe_int (fun _ _ => rfl)) pe_int) (pg_sub (pv 0) pe_int set_list))
        (pss_cons (ps_asg (pv 2) (pg_sub (pv 0) pe_int set_list))
        (pss_one (ps_if (pt_cmpR op_lt (pv 2) pe_int (nomark _))
          (pss_one (ps_asg (pe_call GS hr rfl T.t_law_spread.g T.t_law_spread.F.kp T.t_law_spread.b .nil pass0 (pa_cons (pv 2) pa_nil)) (pg_sub (pv 0) pe_int set_list))) pss_nil))))) pss_nil)
      (pss_cons (ps_asg (pe_op op_add (pe_ix ix_list (pv 0) pe_int (fun _ _ => rfl)) pe_int) (pg_sub (pv 0) pe_int set_list))
      (pss_cons (ps_if (pt_cmpR op_le (pe_ix ix_list (pv 0) pe_int (fun _ _ => rfl)) pe_int (nomark _))
        (pss_cons (ps_set (i := 3) sc_law_draw.nd rfl (Or.inl rfl) (pe_op op_mod (pe_callTy call_int1 (by rfl) T.z_int PyProof.Rows.boot_int (pa_cons (pe_op op_add (pe_op op_add (pe_op op_mul (pe_ix ix_list (pv 0) pe_int (fun _ _ => rfl)) pe_int) (pe_op op_mul (pe_ix ix_list (pv 0) pe_int (fun _ _ => rfl)) pe_int)) pe_int) pa_nil)) pe_int))
        (pss_cons (ps_set (i := 3) sc_law_draw.nd rfl (Or.inl rfl) (pe_op op_mod (pe_callTy call_int1 (by rfl) T.z_int PyProof.Rows.boot_int (pa_cons (pe_op op_add (pe_op op_mul (pv 3) pe_int) (pe_ix ix_list (pv 0) pe_int (fun _ _ => rfl))) pa_nil)) pe_int))
        (pss_one (ps_ret (pe_op op_mod (pe_op op_fdiv (pv 3) pe_int) (pv 1)))))) pss_nil)
      (pss_cons (ps_set (i := 4) sc_law_draw.nd rfl (Or.inl rfl) (pe_op op_mod (pe_callTy call_int1 (by rfl) T.z_int PyProof.Rows.boot_int (pa_cons (pe_ix ix_list (pv 0) pe_int (fun _ _ => rfl)) pa_nil)) (pv 1)))
      (pss_cons (ps_asg (pe_op op_fdivW (pe_ix ix_list (pv 0) pe_int (fun _ _ => rfl)) (pv 1)) (pg_sub (pv 0) pe_int set_list))
      (pss_one (ps_ret (pv 4))))))), ?_⟩
    refine seq_then (fun σ' H' => ∃ (vc : Option V) (pos' cur' : Int), σ' = [some (.ref p), some (.int many), vc, none, none] ∧ But p H H' ∧ H' p = some (.lst [.ref l, .int pos', .int cur', .int cnt, .int salt]) ∧ 0 ≤ pos') ?_ (fun N hN => ?_)
    · -- behind the first if
      rintro σ' H1 ⟨vc, pos', cur', rfl, B1, hp1, hpos1⟩
      refine ⟨_, rfl, p, _, 3, _, rfl, rfl, SqL.of hp1, rfl, _, _, rfl, rfl, _, rfl, p, _, 3, 3, rfl, rfl, hp1, rfl, ?_⟩
      have hp2 : (upd H1 p (.lst [.ref l, .int pos', .int cur', .int (cnt + 1), .int salt])) p = some (.lst [.ref l, .int pos', .int cur', .int (cnt + 1), .int salt]) := upd_same
      have B2 : But p H (upd H1 p (.lst [.ref l, .int pos', .int cur', .int (cnt + 1), .int salt])) := B1.upd
      refine ⟨_, rfl, p, _, 2, _, rfl, rfl, SqL.of hp2, rfl, _, _, rfl, rfl, _, rfl, ite2 (fun _ => ?_) (fun _ => ?_)⟩
      · refine ⟨_, rfl, p, _, 4, _, rfl, rfl, SqL.of hp2, rfl, _, _, rfl, rfl, .inr ⟨by decide, by decide⟩, _, rfl, p, _, 3, _, rfl, rfl, SqL.of hp2, rfl, _, _, rfl, rfl, .inr ⟨by decide, by decide⟩, _, _, rfl, rfl, _, _, rfl, rfl, .inl ⟨_, rfl, _, _, rfl, rfl, (by show (0 : Int) < 2147483647; decide), ?_⟩⟩
        refine ⟨_, rfl, _, _, rfl, rfl, .inr ⟨by decide, by decide⟩, _, rfl, p, _, 3, _, rfl, rfl, SqL.of hp2, rfl, _, _, rfl, rfl, .inl ⟨_, rfl, _, _, rfl, rfl, (by show (0 : Int) < 2147483629; decide), ?_⟩⟩
        refine ⟨_, rfl, _, _, rfl, rfl, ⟨by decide, by decide⟩, _, rfl, _, _, rfl, rfl, hm, ?_⟩
        exact k _ _ (Int.emod_nonneg _ (by omega)) (Int.emod_lt_of_pos _ hm) ⟨ns, _, _, _, _, hp2, B2 _ _ hl hne, hpos1, hne⟩ B2
      · refine ⟨_, rfl, p, _, 2, _, rfl, rfl, SqL.of hp2, rfl, .inl ⟨_, rfl, _, rfl, _, _, rfl, rfl, hm, ?_⟩⟩
        refine ⟨_, rfl, p, _, 2, _, rfl, rfl, SqL.of hp2, rfl, _, rfl, _, _, rfl, rfl, wide_div hm hmb (by decide) (by decide), _, rfl, p, _, 2, 2, rfl, rfl, hp2, rfl, ?_⟩
        refine ⟨_, rfl, ?_⟩
        exact k _ _ (Int.emod_nonneg _ (by omega)) (Int.emod_lt_of_pos _ hm) ⟨ns, _, _, _, _, upd_same, B2.upd _ _ hl hne, hpos1, hne⟩ B2.upd
    · -- the first if
      refine ⟨_, rfl, p, _, 2, _, rfl, rfl, SqL.of hp, rfl, _, _, rfl, rfl, _, rfl, ite2 (fun _ => ?_) (fun _ => ?_)⟩
      · refine ⟨_, rfl, p, _, 1, _, rfl, rfl, SqL.of hp, rfl, _, rfl, p, _, 0, _, rfl, rfl, SqL.of hp, rfl, l, _, rfl, .inl (SqL.of hl), _, _, rfl, rfl, _, rfl, ite2 (fun c2 => ?_) (fun _ => ?_)⟩
        · have c2 : pos < ((ns.map V.int).length : Int) := of_decide_eq_true c2
          rw [List.length_map] at c2
          obtain ⟨z, _, ez⟩ := pick_at hpos c2
          refine ⟨_, rfl, p, _, 0, _, rfl, rfl, SqL.of hp, rfl, _, rfl, p, _, 1, _, rfl, rfl, SqL.of hp, rfl, l, _, pos, _, rfl, rfl, SqL.of hl, ez, ?_⟩
          refine ⟨_, rfl, p, _, 1, _, rfl, rfl, SqL.of hp, rfl, _, _, rfl, rfl, _, rfl, p, _, 1, 1, rfl, rfl, hp, rfl, ?_⟩
          have hp1 : (upd H p (.lst [.ref l, .int (pos + 1), .int cur, .int cnt, .int salt])) p = some (.lst [.ref l, .int (pos + 1), .int cur, .int cnt, .int salt]) := upd_same
          refine ⟨_, rfl, _, rfl, p, _, 2, 2, rfl, rfl, hp1, rfl, ?_⟩
          have hp2 : (upd (upd H p (.lst [.ref l, .int (pos + 1), .int cur, .int cnt, .int salt])) p (.lst [.ref l, .int (pos + 1), .int z, .int cnt, .int salt])) p = some (.lst [.ref l, .int (pos + 1), .int z, .int cnt, .int salt]) := upd_same
          refine ⟨_, rfl, _, _, rfl, rfl, _, rfl, ite2 (fun _ => ?_) (fun _ => ?_)⟩
          · refine ⟨_, rfl, z, rfl, fun v => ⟨_, rfl, p, _, 2, 2, rfl, rfl, hp2, rfl, ?_⟩⟩
            exact hN _ _ ⟨_, _, _, rfl, (((But.refl p H).upd).upd).upd, upd_same, by omega⟩
          · exact hN _ _ ⟨_, _, _, rfl, ((But.refl p H).upd).upd, hp2, by omega⟩
        · exact hN _ _ ⟨none, _, _, rfl, But.refl p H, hp, hpos⟩
      · refine iteF ?_
        exact hN _ _ ⟨none, _, _, rfl, But.refl p H, hp, hpos⟩
end
section
variable {P : Program} {w : World} {K : PySem.W.Frag} {mg : Str → Option Value} {base : Heap} {A : At}
theorem abs_nat (i : Int) : (if i < 0 then -i else i) = ((i.natAbs : Nat) : Int) := by omega
theorem lt_bits (n : Nat) : n < 2 ^ Builtin.Int.intBits (n : Int) := by
  unfold Builtin.Int.intBits
  split
  · rename_i h
    have e : (n : Int) = 0 := by simpa using h
    have e2 : n = 0 := by omega
    subst e2
    decide
  · exact Nat.lt_log2_self
def spGcd : Sp := fun vs H Q _ => ∃ a b : Int, vs = [.int a, .int b] ∧ (a.natAbs < 2 ^ 1000000 ∧ b.natAbs < 2 ^ 1000000) ∧ Q (.int (Int.gcd a b : Nat)) H
theorem ok_gcd (T : Txt K mg A) : FnOk P w K mg base CX0 1 A.a_law_gcd A.d_law_gcd ["a", "b"] spGcd := by
  refine T.t_law_gcd.F.ok sc_law_gcd (fun vs H Q E h => ?_) (fun cdv AA outer s H vs Q E hr h => ?_)
  · obtain ⟨a, b, rfl, _⟩ := h
    rfl
  · obtain ⟨a, b, rfl, ⟨ha, hb⟩, k⟩ := h
    refine ⟨_, pss_cons (ps_set (i := 0) sc_law_gcd.nd rfl (Or.inl rfl) (pe_callB call_abs (by rfl) T.z_abs (by decide +kernel) (pa_cons (pv 0) pa_nil)))
      (pss_cons (ps_set (i := 1) sc_law_gcd.nd rfl (Or.inl rfl) (pe_callB call_abs (by rfl) T.z_abs (by decide +kernel) (pa_cons (pv 1) pa_nil)))
      (pss_cons (ps_for PassesOwn.never rfl (pi_range1 rfl T.z_range (pa_cons (pe_op op_add (pe_op op_add (pe_op op_add (pe_bits (pv 0)) (pe_bits (pv 1))) pe_int) (pe_bits (pv 0))) pa_nil)) (pg_name (i := 2) sc_law_gcd.nd rfl (Or.inl rfl))
        (pss_cons (ps_if (pt_cmpR op_eq (pv 1) pe_int (nomark _)) (pss_one ps_break) pss_nil)
        (pss_cons (ps_set (i := 3) sc_law_gcd.nd rfl (Or.inl rfl) (pe_op op_mod (pe_callTy call_int1 (by rfl) T.z_int PyProof.Rows.boot_int (pa_cons (pv 0) pa_nil)) (pv 1)))
        (pss_cons (ps_set (i := 0) sc_law_gcd.nd rfl (Or.inl rfl) (pv 1))
        (pss_one (ps_set (i := 1) sc_law_gcd.nd rfl (Or.inl rfl) (pv 3)))))))
      (pss_one (ps_ret (pv 0))))), ?_⟩
    refine ⟨_, rfl, _, rfl, ?_⟩
    refine ⟨_, rfl, _, rfl, ?_⟩
    rw [abs_nat, abs_nat]
    generalize hx : a.natAbs = x at *
    generalize hy : b.natAbs = y at *
    have e0 : Int.gcd a b = Nat.gcd x y := by
      rw [← hx, ← hy]
      rfl
    have bx := lt_bits x
    have by' := lt_bits y
    have cx : Builtin.Int.intBits (x : Int) ≤ 1000000 := PyProof.Rows.intBits_le (by simpa using ha)
    have cy : Builtin.Int.intBits (y : Int) ≤ 1000000 := PyProof.Rows.intBits_le (by simpa using hb)
    refine ⟨_, rfl, _, rfl, _, rfl, _, rfl, _, _, rfl, rfl, _, _, rfl, rfl, _, rfl, _, rfl, _, _, rfl, rfl, ?_⟩
    generalize Builtin.Int.intBits (x : Int) = m at *
    generalize Builtin.Int.intBits (y : Int) = n at *
    have en : ((m : Int) + (n : Int) + 2 + (m : Int)).toNat = m + n + 2 + m := by omega
    refine ⟨_, rfl, by omega, by omega, ?_⟩
    rw [en]
    refine for_range (n := m + n + 2 + m) (fun i σ H2 => H2 = H ∧ ∃ (c d : Nat) (v1 v2 : Option V), σ = [some (.int (c : Int)), some (.int (d : Int)), v1, v2] ∧ Eu x y i c d)
      ⟨rfl, x, y, none, none, rfl, eu_start x y⟩ ?_ ?_
    · rintro i σ H2 hi ⟨rfl, c, d, v1, v2, rfl, I⟩
      refine ⟨_, rfl, rfl, _, rfl, ite2 (fun h0 => ?_) (fun h0 => ?_)⟩
      · have e := V.int.inj (of_decide_eq_true h0)
        have e : d = 0 := by omega
        subst e
        refine ⟨_, rfl, ?_⟩
        have g := I.g
        rw [Nat.gcd_zero_right] at g
        rw [g, ← e0]
        exact k
      · have hd : d ≠ 0 := fun e => h0 (decide_eq_true (by rw [e]; rfl))
        refine ⟨_, rfl, .inl ⟨_, rfl, _, rfl, _, _, rfl, rfl, by omega, ?_⟩⟩
        refine ⟨_, rfl, _, rfl, ?_⟩
        exact ⟨rfl, d, c % d, _, _, by rw [Int.natCast_emod]; rfl, eu_next I hd⟩
    · rintro σ H2 ⟨rfl, c, d, v1, v2, rfl, I⟩
      have hd : d = 0 := Decidable.byContradiction fun hd => eu_stop I hd bx by' (by omega)
      subst hd
      refine ⟨_, rfl, ?_⟩
      have g := I.g
      rw [Nat.gcd_zero_right] at g
      rw [g, ← e0]
      exact k
end
/-- // by a divisor of either sign -/
theorem op_fdivG {X : Cx} : OpR X (binaryOp .FloorDiv) (rI (fun _ j => j ≠ 0 ∧ j.natAbs.log2 < 9000) fun i j => .int (i.fdiv j)) := opI fun _ _ _ _ _ _ _ hc q => PyProof.Rows.floordiv_int hc.1 q (.inl (PyProof.noPylong_of_log2 hc.2))
/-- isinstance(e, C) where the suite holds the error e -/
theorem call_isE2 {X : Cx} {a D : Addr} {oe : Obj} {cls : Value} {d : Option Addr} {pn : List (Addr × Obj)} (C : ExcC X.K D) (hz : Zc cls d oe) (hf : ∃ vs, oe.data = .fields vs) : CallR (X.suite a ((a, oe) :: pn)) (.builtin "isinstance") (fun xs H Q => cls = .ref D ∧ d = none ∧ rIsE X.K D a xs H Q) := by
  intro pins s σ H xs us Q I r h
  obtain ⟨rfl, rfl, h⟩ := h
  exact call_isE C hz hf pins s σ H xs us Q I r h
section
variable {P : Program} {w : World} {K : PySem.W.Frag} {mg : Str → Option Value} {base : Heap} {A : At}
/-! ### the program's ratio -/
def spRatio (C : Addr) : Sp := fun vs H Q E => ∃ t b : Int, vs = [.int t, .int b] ∧ (t.natAbs < 2 ^ 8000 ∧ b.natAbs < 2 ^ 8000) ∧ (b = 0 → E (.ref C) none H) ∧
  (b ≠ 0 → ∀ p, H p = none → Q (.ref p) (upd H p (.tup [.int (rtop t b), .int (rbot t b)])))
theorem ok_ratio (T : Txt K mg A) : FnOk P w K mg base (L2.CX P w) 2 A.a_ratio A.d_ratio ["top", "bottom"] (spRatio A.C_ZeroDivisor) := by
  refine T.t_ratio.F.okX sc_ratio (fun vs H Q E h => ?_) (fun cdv AA outer s H vs Q E hr h => ?_)
  · obtain ⟨t, b, rfl, _⟩ := h
    rfl
  · obtain ⟨t, b, rfl, ⟨ht, hb⟩, kE, kQ⟩ := h
    refine ⟨_, pss_cons (ps_if (pt_cmpR op_eq (pv 1) pe_int (nomark _)) (pss_one (ps_raise rfl (takes_of rfl rfl rfl rfl) (pmk_own PySem.F.excBase_ValueError T.e_ZeroDivisor.ex T.e_ZeroDivisor.g T.e_ZeroDivisor.k (raises_own T.e_ZeroDivisor.b T.e_ZeroDivisor.t) rfl))) pss_nil)
      (pss_cons (ps_set (i := 2) sc_ratio.nd rfl (Or.inl rfl) (pe_callBfun cr_gcd (by rfl) T.m_gcd (pa_cons (pv 0) (pa_cons (pv 1) pa_nil))))
      (pss_cons (ps_if (pt_cmpR op_lt (pv 1) pe_int (nomark _)) (pss_one (ps_set (i := 2) sc_ratio.nd rfl (Or.inl rfl) (pe_un un_neg (pv 2)))) pss_nil)
      (pss_one (ps_ret (pe_tup (pa_cons (pe_op op_fdivG (pv 0) (pv 2)) (pa_cons (pe_op op_fdivG (pv 1) (pv 2)) pa_nil))))))), ?_⟩
    refine ⟨_, rfl, rfl, _, rfl, ite2 (fun h0 => ?_) (fun h0 => ?_)⟩
    · have e := V.int.inj (of_decide_eq_true h0)
      exact kE e
    · have hb0 : b ≠ 0 := fun e => h0 (decide_eq_true (by rw [e]))
      have kQ := kQ hb0
      refine ⟨_, rfl, _, rfl, _, _, rfl, ?_⟩
      have hs := rsg_ne (t := t) hb0
      have hg := rgcd_pos (t := t) hb0
      have hle : Int.gcd t b ≤ b.natAbs := Nat.le_of_dvd (by omega) (Nat.gcd_dvd_right _ _)
      have hsb : (rsg t b).natAbs.log2 < 9000 := by
        have e : (rsg t b).natAbs = Int.gcd t b := by
          unfold rsg
          split
          · rw [Int.natAbs_neg]; rfl
          · rfl
        rw [e]
        have z := PySem.Flt.log2_lt_of (show 0 < 8000 by decide) (Nat.lt_of_le_of_lt hle hb)
        omega
      dsimp only [gName]
      refine seq_then (fun σ' H' => H' = H ∧ σ' = [some (.int t), some (.int b), some (.int (rsg t b))]) ?_ (fun N hN => ?_)
      · rintro σ' H' ⟨rfl, rfl⟩
        refine ⟨_, rfl, _, rfl, _, _, rfl, rfl, ⟨hs, hsb⟩, _, rfl, _, rfl, _, _, rfl, rfl, ⟨hs, hsb⟩, (by show 2 ≤ sizeLine; decide), fun p np => ?_⟩
        exact kQ p np
      · refine ⟨_, rfl, _, _, rfl, rfl, _, rfl, ite2 (fun h1 => ?_) (fun h1 => ?_)⟩
        · have h1 : b < 0 := of_decide_eq_true h1
          refine ⟨_, rfl, _, rfl, hN _ _ ⟨rfl, ?_⟩⟩
          have e : rsg t b = -(Int.gcd t b : Int) := if_pos h1
          rw [e]
          rfl
        · have h1 : ¬ b < 0 := fun z => h1 (decide_eq_true z)
          refine hN _ _ ⟨rfl, ?_⟩
          have e : rsg t b = (Int.gcd t b : Int) := if_neg h1
          rw [e]
          rfl
end
section
variable {P : Program} {w : World} {K : PySem.W.Frag} {mg : Str → Option Value} {base : Heap} {A : At}
/-! ### a drawn number -/
def spNumber : Sp := fun vs H Q _ => ∃ (p l : Addr) (most : Int), vs = [.ref p, .int most] ∧ PoolAt H p l ∧ 0 < most ∧ ∀ (v : Int) H', v.natAbs < most.natAbs → PoolAt H' p l → But p H H' → Q (.int v) H'
theorem ok_number (T : Txt K mg A) : FnOk P w K mg base CX0 3 A.a_law_number A.d_law_number ["pool", "most"] spNumber := by
  have GD : FnOk P w K mg base CX0 2 A.a_law_draw A.d_law_draw ["pool", "many"] spDraw := ok_draw T
  refine T.t_law_number.F.ok sc_law_number (fun vs H Q E h => ?_) (fun cdv AA outer s H vs Q E hr h => ?_)
  · obtain ⟨p, l, most, rfl, _⟩ := h
    rfl
  · obtain ⟨p, l, most, rfl, hP, hm, k⟩ := h
    refine ⟨_, pss_cons (ps_set (i := 2) sc_law_number.nd rfl (Or.inl rfl) (pe_call GD hr rfl T.t_law_draw.g T.t_law_draw.F.kp T.t_law_draw.b .nil pass0 (pa_cons (pv 0) (pa_cons
          (pe_ix ix_tup (pe_tup (pa_cons pe_int (pa_cons pe_int (pa_cons pe_int (pa_cons pe_int (pa_cons (pe_op op_pow pe_int pe_int) pa_nil)))))) (pe_call GD hr rfl T.t_law_draw.g T.t_law_draw.F.kp T.t_law_draw.b .nil pass0 (pa_cons (pv 0) (pa_cons pe_int pa_nil))) (fun _ _ => rfl)) pa_nil))))
      (pss_cons (ps_if (pt_cmpR op_eq (pe_call GD hr rfl T.t_law_draw.g T.t_law_draw.F.kp T.t_law_draw.b .nil pass0 (pa_cons (pv 0) (pa_cons pe_int pa_nil))) pe_int (nomark _)) (pss_one (ps_set (i := 2) sc_law_number.nd rfl (Or.inl rfl) (pe_un un_neg (pv 2)))) pss_nil)
      (pss_one (ps_ret (pe_ifExp (pt_cmpR op_ge (pv 2) pe_int (nomark _)) (pe_op op_mod (pv 2) (pv 1)) (pe_un un_neg (pe_op op_mod (pe_callTy call_int1 (by rfl) T.z_int PyProof.Rows.boot_int (pa_cons (pe_un un_neg (pv 2)) pa_nil)) (pv 1))))))), ?_⟩
    refine ⟨_, rfl, _, _, rfl, rfl, ⟨by decide, by decide, by decide⟩, (by show 5 ≤ sizeLine; decide), fun t nt => ?_⟩
    have s1 := fun o => same_upd (o := o) nt
    refine ⟨_, rfl, p, l, 5, rfl, hP.same (s1 _), ⟨by decide, by decide⟩, fun v H1 v0 v1 P1 B1 => ?_⟩
    obtain ⟨m, hmem, em⟩ := pick_at (ms := [2, 10, 1000, 1000000000, 10 ^ (40 : Int).toNat]) v0 v1
    have hall : ∀ x ∈ [(2 : Int), 10, 1000, 1000000000, 10 ^ (40 : Int).toNat], 0 < x ∧ x.natAbs < 2 ^ 8000 := by decide +kernel
    have ht : H1 t = some _ := B1 t _ upd_same (hP.free nt)
    refine ⟨t, _, v, _, rfl, rfl, SqT.of ht, em, ?_⟩
    have b1 : But p H H1 := (But.same (s1 _)).trans B1
    refine ⟨p, l, m, rfl, P1, hall m hmem, fun v2 H2 w0 w1 P2 B2 => ?_⟩
    have b2 : But p H H2 := b1.trans B2
    dsimp only [gName]
    refine seq_then (fun σ' H' => ∃ z : Int, σ' = [some (.ref p), some (.int most), some (.int z)] ∧ PoolAt H' p l ∧ But p H H') ?_ (fun N hN => ?_)
    · rintro σ' H' ⟨z, rfl, P3, b3⟩
      refine ⟨_, rfl, _, _, rfl, rfl, _, rfl, ite2 (fun h1 => ?_) (fun h1 => ?_)⟩
      · refine ⟨_, rfl, _, rfl, _, _, rfl, rfl, hm, k _ _ ?_ P3 b3⟩
        have e1 := Int.emod_nonneg z (show most ≠ 0 by omega)
        have e2 := Int.emod_lt_of_pos z hm
        omega
      · refine ⟨_, rfl, _, rfl, .inl ⟨_, rfl, _, rfl, _, _, rfl, rfl, hm, _, rfl, k _ _ ?_ P3 b3⟩⟩
        have e1 := Int.emod_nonneg (-z) (show most ≠ 0 by omega)
        have e2 := Int.emod_lt_of_pos (-z) hm
        omega
    · refine ⟨_, rfl, p, l, 3, rfl, P2, ⟨by decide, by decide⟩, fun v3 H3 _ _ P3 B3 => ⟨rfl, _, rfl, ite2 (fun _ => ?_) (fun _ => ?_)⟩⟩
      · exact ⟨_, rfl, _, rfl, hN _ _ ⟨_, rfl, P3, b2.trans B3⟩⟩
      · exact hN _ _ ⟨_, rfl, P3, b2.trans B3⟩
end
/-! ### equal data, wherever it stands -/
def scalV : V → Prop
  | .non => True
  | .bl _ => True
  | .int _ => True
  | .str _ => True
  | _ => False
/-- x and y are equal data, at most n deep -/
def Dat (K : PySem.W.Frag) (H : Hp) : Nat → V → V → Prop
  | 0, x, y => x = y ∧ scalV x
  | n + 1, x, y => (x = y ∧ scalV x) ∨ ∃ (a b : Addr) (xs ys : List V), x = .ref a ∧ y = .ref b ∧ ((SqL K H a xs ∧ SqL K H b ys) ∨ (SqT K H a xs ∧ SqT K H b ys)) ∧ xs.length = ys.length ∧ ys.length < 2 ^ 60 ∧
      ∀ (i : Nat) (u v : V), xs[i]? = some u → ys[i]? = some v → Dat K H n u v
theorem Dat.scal {K : PySem.W.Frag} {H : Hp} {n : Nat} {x : V} (h : scalV x) : Dat K H n x x := by
  cases n with
  | zero => exact ⟨rfl, h⟩
  | succ n => exact .inl ⟨rfl, h⟩
theorem Dat.int (K : PySem.W.Frag) (H : Hp) (n : Nat) (i : Int) : Dat K H n (.int i) (.int i) := Dat.scal trivial
theorem Dat.bl (K : PySem.W.Frag) (H : Hp) (n : Nat) (i : Bool) : Dat K H n (.bl i) (.bl i) := Dat.scal trivial
/-- two tuples of the same ints -/
theorem Dat.ints {K : PySem.W.Frag} {H : Hp} {n : Nat} {a b : Addr} {ns : List Int} (ha : SqT K H a (ns.map V.int)) (hb : SqT K H b (ns.map V.int)) (hl : ns.length < 2 ^ 60) : Dat K H (n + 1) (.ref a) (.ref b) := by
  refine .inr ⟨a, b, _, _, rfl, rfl, .inr ⟨ha, hb⟩, rfl, by rw [List.length_map]; exact hl, fun i u v hu hv => ?_⟩
  have e : u = v := Option.some.inj (hu.symm.trans hv)
  subst e
  rw [List.getElem?_map] at hu
  cases z : ns[i]? with
  | none =>
    rw [z] at hu
    cases hu
  | some m =>
    rw [z] at hu
    have e : V.int m = u := Option.some.inj hu
    rw [← e]
    exact Dat.int K H n m
theorem Same.tup {K : PySem.W.Frag} {H H' : Hp} {a : Addr} {xs : List V} (e : Same H H') (h : SqT K H a xs) : SqT K H' a xs := by
  rcases h with (h | ⟨o, h⟩) | h
  · exact .inl (.inl (e _ _ h))
  · exact .inl (.inr ⟨o, e _ _ h⟩)
  · exact .inr h
theorem SqL.ty {K : PySem.W.Frag} {H : Hp} {a : Addr} {xs : List V} (h : SqL K H a xs) : TyX K H (.ref a) (.type "list") := by
  rcases h with (h | ⟨o, h⟩) | ⟨o, its, n, h, hc, _⟩
  · exact .base (.lst h)
  · exact .base (.frz h)
  · exact .kList h hc
theorem SqT.ty {K : PySem.W.Frag} {H : Hp} {a : Addr} {xs : List V} (h : SqT K H a xs) : TyX K H (.ref a) (.type "tuple") := by
  rcases h with (h | ⟨o, h⟩) | ⟨o, its, n, h, hc, _⟩
  · exact .base (.tup h)
  · exact .fTuple h
  · exact .kTuple h hc
theorem Dat.same {K : PySem.W.Frag} {H H' : Hp} (s : Same H H') : ∀ {n : Nat} {x y : V}, Dat K H n x y → Dat K H' n x y
  | 0, x, y, h => h
  | n + 1, x, y, h => by
    rcases h with h | ⟨a, b, xs, ys, e1, e2, h, hl, hb, k⟩
    · exact .inl h
    · refine .inr ⟨a, b, xs, ys, e1, e2, ?_, hl, hb, fun i u v hu hv => Dat.same s (k i u v hu hv)⟩
      rcases h with ⟨h1, h2⟩ | ⟨h1, h2⟩
      · exact .inl ⟨s.seq h1, s.seq h2⟩
      · exact .inr ⟨Same.tup s h1, Same.tup s h2⟩
section
variable {P : Program} {w : World} {K : PySem.W.Frag} {mg : Str → Option Value} {base : Heap} {A : At}
def spSame (K : PySem.W.Frag) (n : Nat) : Sp := fun vs H Q _ => ∃ x y : V, vs = [x, y] ∧ Dat K H n x y ∧ Q (.bl true) H
/-- the four kinds of flat values, asked by isinstance -/
theorem same_flat {H : Hp} {x : V} (h : scalV x) : (x = .non) ∨ (∃ b, x = .bl b) ∨ (∃ i, x = .int i) ∨ ∃ z, x = .str z := by
  cases x <;> first | exact .inl rfl | exact .inr (.inl ⟨_, rfl⟩) | exact .inr (.inr (.inl ⟨_, rfl⟩)) | exact .inr (.inr (.inr ⟨_, rfl⟩)) | exact h.elim
theorem flat_ty {K : PySem.W.Frag} {H : Hp} {x : V} (h : scalV x) : ∃ t : String, TyX K H x (.type t) ∧ kitB t "tuple" = some false ∧ kitB t "list" = some false ∧
    ((x = .non ∧ t = "NoneType") ∨ ((∃ b, x = .bl b) ∧ t = "bool") ∨ ((∃ i, x = .int i) ∧ t = "int") ∨ ((∃ z, x = .str z) ∧ t = "str")) := by
  rcases same_flat (H := H) h with rfl | ⟨b, rfl⟩ | ⟨i, rfl⟩ | ⟨z, rfl⟩
  · exact ⟨_, .base .non, by decide +kernel, by decide +kernel, .inl ⟨rfl, rfl⟩⟩
  · exact ⟨_, .base (.bl b), by decide +kernel, by decide +kernel, .inr (.inl ⟨⟨_, rfl⟩, rfl⟩)⟩
  · exact ⟨_, .base (.int i), by decide +kernel, by decide +kernel, .inr (.inr (.inl ⟨⟨_, rfl⟩, rfl⟩))⟩
  · exact ⟨_, .base (.str z), by decide +kernel, by decide +kernel, .inr (.inr (.inr ⟨⟨_, rfl⟩, rfl⟩))⟩
theorem eq_refl_V (x : V) : decide (x = x) = true := decide_eq_true rfl
theorem ok_same (T : Txt K mg A) : ∀ n : Nat, FnOk P w K mg base CX0 (n + 1) A.a_law_same A.d_law_same ["actual", "due"] (spSame K n)
  | 0 => by
    refine T.t_law_same.F.ok sc_law_same (fun vs H Q E h => ?_) (fun cdv AA outer s H vs Q E hr h => ?_)
    · obtain ⟨x, y, rfl, _⟩ := h
      rfl
    · obtain ⟨x, y, rfl, ⟨rfl, hs⟩, k⟩ := h
      refine ⟨_, pss_cons (ps_if (PW.pt (pw_or (pt_val (pe_callB call_isi (by rfl) T.z_isinstance PyProof.Rows.boot_isinstance (pa_cons (pv 1) (pa_cons (pe_bltn (v := .ty "tuple") (by rfl) T.z_tuple PyProof.Rows.boot_tuple rfl) pa_nil))))
          (pw_or1 (pt_val (pe_callB call_isi (by rfl) T.z_isinstance PyProof.Rows.boot_isinstance (pa_cons (pv 1) (pa_cons (pe_bltn (v := .ty "list") (by rfl) T.z_list PyProof.Rows.boot_list rfl) pa_nil))))))) pss_never pss_nil)
        (pss_cons (ps_if (pt_cmp (pc_isN (pv 1))) (pss_one (ps_ret (pe_cmp (pc_isN (pv 0))))) pss_nil)
        (pss_cons (ps_if (pt_val (pe_callB call_isi (by rfl) T.z_isinstance PyProof.Rows.boot_isinstance (pa_cons (pv 1) (pa_cons (pe_bltn (v := .ty "bool") (by rfl) T.z_bool PyProof.Rows.boot_bool rfl) pa_nil))))
          (pss_one (ps_ret (pe_and (pe_callB call_isi (by rfl) T.z_isinstance PyProof.Rows.boot_isinstance (pa_cons (pv 0) (pa_cons (pe_bltn (v := .ty "bool") (by rfl) T.z_bool PyProof.Rows.boot_bool rfl) pa_nil))) (pe_one (pe_cmpR op_eq (pv 0) (pv 1) (nomark _)))))) pss_nil)
        (pss_cons (ps_if (pt_val (pe_callB call_isi (by rfl) T.z_isinstance PyProof.Rows.boot_isinstance (pa_cons (pv 1) (pa_cons (pe_bltn (v := .ty "int") (by rfl) T.z_int PyProof.Rows.boot_int rfl) pa_nil))))
          (pss_one (ps_ret (pe_and (pe_callB call_isi (by rfl) T.z_isinstance PyProof.Rows.boot_isinstance (pa_cons (pv 0) (pa_cons (pe_bltn (v := .ty "int") (by rfl) T.z_int PyProof.Rows.boot_int rfl) pa_nil)))
            (pe_and (pe_not (pe_callB call_isi (by rfl) T.z_isinstance PyProof.Rows.boot_isinstance (pa_cons (pv 0) (pa_cons (pe_bltn (v := .ty "bool") (by rfl) T.z_bool PyProof.Rows.boot_bool rfl) pa_nil)))) (pe_one (pe_cmpR op_eq (pv 0) (pv 1) (nomark _))))))) pss_nil)
        (pss_one (ps_ret (pe_and (pe_callB call_isi (by rfl) T.z_isinstance PyProof.Rows.boot_isinstance (pa_cons (pv 0) (pa_cons (pe_bltn (v := .ty "str") (by rfl) T.z_str PyProof.Rows.boot_str rfl) pa_nil))) (pe_one (pe_cmpR op_eq (pv 0) (pv 1) (nomark _))))))))), ?_⟩
      obtain ⟨t, ty, kt, kl, hx⟩ := flat_ty (K := K) (H := H) hs
      refine ⟨_, rfl, x, .ty "tuple", _, .type "tuple", false, rfl, .ty _, ty, kit_ty kt, false, rfl, iteF ?_⟩
      refine ⟨_, rfl, x, .ty "list", _, .type "list", false, rfl, .ty _, ty, kit_ty kl, false, rfl, iteF ?_⟩
      rcases hx with ⟨rfl, rfl⟩ | ⟨⟨b, rfl⟩, rfl⟩ | ⟨⟨i, rfl⟩, rfl⟩ | ⟨⟨z, rfl⟩, rfl⟩
      · exact ⟨_, rfl, true, rfl, iteT ⟨_, rfl, k⟩⟩
      · refine ⟨_, rfl, false, rfl, iteF ?_⟩
        refine ⟨_, rfl, _, .ty "bool", _, .type "bool", true, rfl, .ty _, ty, kit_ty (by decide +kernel), true, rfl, iteT ?_⟩
        refine ⟨_, rfl, _, .ty "bool", _, .type "bool", true, rfl, .ty _, ty, kit_ty (by decide +kernel), true, rfl, iteT ?_⟩
        refine ⟨_, rfl, _, rfl, rfl, ?_⟩
        rw [eq_refl_V]
        exact k
      · refine ⟨_, rfl, false, rfl, iteF ?_⟩
        refine ⟨_, rfl, _, .ty "bool", _, .type "bool", false, rfl, .ty _, ty, kit_ty (by decide +kernel), false, rfl, iteF ?_⟩
        refine ⟨_, rfl, _, .ty "int", _, .type "int", true, rfl, .ty _, ty, kit_ty (by decide +kernel), true, rfl, iteT ?_⟩
        refine ⟨_, rfl, _, .ty "int", _, .type "int", true, rfl, .ty _, ty, kit_ty (by decide +kernel), true, rfl, iteT ?_⟩
        refine ⟨_, rfl, _, .ty "bool", _, .type "bool", false, rfl, .ty _, ty, kit_ty (by decide +kernel), false, rfl, true, rfl, iteT ?_⟩
        refine ⟨_, rfl, _, rfl, rfl, ?_⟩
        rw [eq_refl_V]
        exact k
      · refine ⟨_, rfl, false, rfl, iteF ?_⟩
        refine ⟨_, rfl, _, .ty "bool", _, .type "bool", false, rfl, .ty _, ty, kit_ty (by decide +kernel), false, rfl, iteF ?_⟩
        refine ⟨_, rfl, _, .ty "int", _, .type "int", false, rfl, .ty _, ty, kit_ty (by decide +kernel), false, rfl, iteF ?_⟩
        refine ⟨_, rfl, _, .ty "str", _, .type "str", true, rfl, .ty _, ty, kit_ty (by decide +kernel), true, rfl, iteT ?_⟩
        refine ⟨_, rfl, _, rfl, rfl, ?_⟩
        rw [eq_refl_V]
        exact k
  | n + 1 => by
    have IH : FnOk P w K mg base CX0 (n + 1) A.a_law_same A.d_law_same ["actual", "due"] (spSame K n) := ok_same T n
    refine T.t_law_same.F.ok sc_law_same (fun vs H Q E h => ?_) (fun cdv AA outer s H vs Q E hr h => ?_)
    · obtain ⟨x, y, rfl, _⟩ := h
      rfl
    · obtain ⟨x, y, rfl, hd, k⟩ := h
      refine ⟨_, pss_cons (ps_if (PW.pt (pw_or (pt_val (pe_callB call_isi (by rfl) T.z_isinstance PyProof.Rows.boot_isinstance (pa_cons (pv 1) (pa_cons (pe_bltn (v := .ty "tuple") (by rfl) T.z_tuple PyProof.Rows.boot_tuple rfl) pa_nil))))
          (pw_or1 (pt_val (pe_callB call_isi (by rfl) T.z_isinstance PyProof.Rows.boot_isinstance (pa_cons (pv 1) (pa_cons (pe_bltn (v := .ty "list") (by rfl) T.z_list PyProof.Rows.boot_list rfl) pa_nil)))))))
          (pss_cons (ps_if (PW.pt (pw_or (pt_cmpR op_ne (pe_callB call_isi (by rfl) T.z_isinstance PyProof.Rows.boot_isinstance (pa_cons (pv 1) (pa_cons (pe_bltn (v := .ty "tuple") (by rfl) T.z_tuple PyProof.Rows.boot_tuple rfl) pa_nil))) (pe_callB call_isi (by rfl) T.z_isinstance PyProof.Rows.boot_isinstance (pa_cons (pv 0) (pa_cons (pe_bltn (v := .ty "tuple") (by rfl) T.z_tuple PyProof.Rows.boot_tuple rfl) pa_nil))) (nomark _))
              (pw_or1 (pt_cmpR op_ne (pe_callB call_isi (by rfl) T.z_isinstance PyProof.Rows.boot_isinstance (pa_cons (pv 1) (pa_cons (pe_bltn (v := .ty "list") (by rfl) T.z_list PyProof.Rows.boot_list rfl) pa_nil))) (pe_callB call_isi (by rfl) T.z_isinstance PyProof.Rows.boot_isinstance (pa_cons (pv 0) (pa_cons (pe_bltn (v := .ty "list") (by rfl) T.z_list PyProof.Rows.boot_list rfl) pa_nil))) (nomark _)))))
              (pss_one (ps_ret pe_bl)) pss_nil)
          (pss_cons (ps_if (pt_cmpR op_ne (pe_callB call_len_seq (by rfl) T.z_len PySem.boot_len (pa_cons (pv 0) pa_nil)) (pe_callB call_len_seq (by rfl) T.z_len PySem.boot_len (pa_cons (pv 1) pa_nil)) (nomark _)) (pss_one (ps_ret pe_bl)) pss_nil)
          (pss_cons (ps_for PassesOwn.never rfl (pi_range1 rfl T.z_range (pa_cons (pe_callB call_len_seq (by rfl) T.z_len PySem.boot_len (pa_cons (pv 1) pa_nil)) pa_nil)) (pg_name (i := 2) sc_law_same.nd rfl (Or.inl rfl))
            (pss_one (ps_if (pt_not (pt_val (pe_call IH hr rfl T.t_law_same.g T.t_law_same.F.kp T.t_law_same.b .nil pass0 (pa_cons (pe_ix ix_seq (pv 0) (pv 2) (fun _ _ => rfl)) (pa_cons (pe_ix ix_seq (pv 1) (pv 2) (fun _ _ => rfl)) pa_nil))))) (pss_one (ps_ret pe_bl)) pss_nil)))
          (pss_one (ps_ret pe_bl))))) pss_nil)
        (pss_cons (ps_if (pt_cmp (pc_isN (pv 1))) (pss_one (ps_ret (pe_cmp (pc_isN (pv 0))))) pss_nil)
        (pss_cons (ps_if (pt_val (pe_callB call_isi (by rfl) T.z_isinstance PyProof.Rows.boot_isinstance (pa_cons (pv 1) (pa_cons (pe_bltn (v := .ty "bool") (by rfl) T.z_bool PyProof.Rows.boot_bool rfl) pa_nil))))
          (pss_one (ps_ret (pe_and (pe_callB call_isi (by rfl) T.z_isinstance PyProof.Rows.boot_isinstance (pa_cons (pv 0) (pa_cons (pe_bltn (v := .ty "bool") (by rfl) T.z_bool PyProof.Rows.boot_bool rfl) pa_nil))) (pe_one (pe_cmpR op_eq (pv 0) (pv 1) (nomark _)))))) pss_nil)
        (pss_cons (ps_if (pt_val (pe_callB call_isi (by rfl) T.z_isinstance PyProof.Rows.boot_isinstance (pa_cons (pv 1) (pa_cons (pe_bltn (v := .ty "int") (by rfl) T.z_int PyProof.Rows.boot_int rfl) pa_nil))))
          (pss_one (ps_ret (pe_and (pe_callB call_isi (by rfl) T.z_isinstance PyProof.Rows.boot_isinstance (pa_cons (pv 0) (pa_cons (pe_bltn (v := .ty "int") (by rfl) T.z_int PyProof.Rows.boot_int rfl) pa_nil)))
            (pe_and (pe_not (pe_callB call_isi (by rfl) T.z_isinstance PyProof.Rows.boot_isinstance (pa_cons (pv 0) (pa_cons (pe_bltn (v := .ty "bool") (by rfl) T.z_bool PyProof.Rows.boot_bool rfl) pa_nil)))) (pe_one (pe_cmpR op_eq (pv 0) (pv 1) (nomark _))))))) pss_nil)
        (pss_one (ps_ret (pe_and (pe_callB call_isi (by rfl) T.z_isinstance PyProof.Rows.boot_isinstance (pa_cons (pv 0) (pa_cons (pe_bltn (v := .ty "str") (by rfl) T.z_str PyProof.Rows.boot_str rfl) pa_nil))) (pe_one (pe_cmpR op_eq (pv 0) (pv 1) (nomark _))))))))), ?_⟩
      rcases hd with ⟨rfl, hs⟩ | ⟨a, b, xs, ys, rfl, rfl, hab, hl, hb, hk⟩
      · obtain ⟨t, ty, kt, kl, hx⟩ := flat_ty (K := K) (H := H) hs
        refine ⟨_, rfl, x, .ty "tuple", _, .type "tuple", false, rfl, .ty _, ty, kit_ty kt, false, rfl, iteF ?_⟩
        refine ⟨_, rfl, x, .ty "list", _, .type "list", false, rfl, .ty _, ty, kit_ty kl, false, rfl, iteF ?_⟩
        rcases hx with ⟨rfl, rfl⟩ | ⟨⟨b, rfl⟩, rfl⟩ | ⟨⟨i, rfl⟩, rfl⟩ | ⟨⟨z, rfl⟩, rfl⟩
        · exact ⟨_, rfl, true, rfl, iteT ⟨_, rfl, k⟩⟩
        · refine ⟨_, rfl, false, rfl, iteF ?_⟩
          refine ⟨_, rfl, _, .ty "bool", _, .type "bool", true, rfl, .ty _, ty, kit_ty (by decide +kernel), true, rfl, iteT ?_⟩
          refine ⟨_, rfl, _, .ty "bool", _, .type "bool", true, rfl, .ty _, ty, kit_ty (by decide +kernel), true, rfl, iteT ?_⟩
          refine ⟨_, rfl, _, rfl, rfl, ?_⟩
          rw [eq_refl_V]
          exact k
        · refine ⟨_, rfl, false, rfl, iteF ?_⟩
          refine ⟨_, rfl, _, .ty "bool", _, .type "bool", false, rfl, .ty _, ty, kit_ty (by decide +kernel), false, rfl, iteF ?_⟩
          refine ⟨_, rfl, _, .ty "int", _, .type "int", true, rfl, .ty _, ty, kit_ty (by decide +kernel), true, rfl, iteT ?_⟩
          refine ⟨_, rfl, _, .ty "int", _, .type "int", true, rfl, .ty _, ty, kit_ty (by decide +kernel), true, rfl, iteT ?_⟩
          refine ⟨_, rfl, _, .ty "bool", _, .type "bool", false, rfl, .ty _, ty, kit_ty (by decide +kernel), false, rfl, true, rfl, iteT ?_⟩
          refine ⟨_, rfl, _, rfl, rfl, ?_⟩
          rw [eq_refl_V]
          exact k
        · refine ⟨_, rfl, false, rfl, iteF ?_⟩
          refine ⟨_, rfl, _, .ty "bool", _, .type "bool", false, rfl, .ty _, ty, kit_ty (by decide +kernel), false, rfl, iteF ?_⟩
          refine ⟨_, rfl, _, .ty "int", _, .type "int", false, rfl, .ty _, ty, kit_ty (by decide +kernel), false, rfl, iteF ?_⟩
          refine ⟨_, rfl, _, .ty "str", _, .type "str", true, rfl, .ty _, ty, kit_ty (by decide +kernel), true, rfl, iteT ?_⟩
          refine ⟨_, rfl, _, rfl, rfl, ?_⟩
          rw [eq_refl_V]
          exact k
      · rcases hab with ⟨ha, hbb⟩ | ⟨ha, hbb⟩
        · -- lists
          refine ⟨_, rfl, _, .ty "tuple", _, .type "tuple", false, rfl, .ty _, (SqL.ty hbb), kit_ty (by decide +kernel), false, rfl, iteF ?_⟩
          refine ⟨_, rfl, _, .ty "list", _, .type "list", true, rfl, .ty _, (SqL.ty hbb), kit_ty (by decide +kernel), true, rfl, iteT ?_⟩
          refine ⟨_, rfl, _, .ty "tuple", _, .type "tuple", false, rfl, .ty _, (SqL.ty hbb), kit_ty (by decide +kernel), _, rfl, _, .ty "tuple", _, .type "tuple", false, rfl, .ty _, (SqL.ty ha), kit_ty (by decide +kernel), rfl, false, rfl, iteF ?_⟩
          refine ⟨_, rfl, _, .ty "list", _, .type "list", true, rfl, .ty _, (SqL.ty hbb), kit_ty (by decide +kernel), _, rfl, _, .ty "list", _, .type "list", true, rfl, .ty _, (SqL.ty ha), kit_ty (by decide +kernel), rfl, false, rfl, iteF ?_⟩
          refine ⟨_, rfl, _, xs, rfl, .inl ha, _, rfl, _, ys, rfl, .inl hbb, rfl, false, (by rw [hl, eq_refl_V]; rfl), iteF ?_⟩
          refine ⟨_, rfl, _, ys, rfl, .inl hbb, _, rfl, by omega, by omega, ?_⟩
          refine for_range (n := (ys.length : Int).toNat) (fun i σ H2 => H2 = H ∧ ∃ v : Option V, σ = [some (.ref a), some (.ref b), v]) ⟨rfl, none, rfl⟩ ?_ ?_
          · rintro i σ H2 hi ⟨rfl, v, rfl⟩
            have h1 : i < ys.length := by omega
            have h2 : i < xs.length := by omega
            have e1 := List.getElem?_eq_getElem h2
            have e2 := List.getElem?_eq_getElem h1
            refine ⟨_, rfl, _, rfl, .inl ⟨a, xs, _, _, rfl, rfl, ha, (by rw [Int.zero_add]; exact atI_nat e1), ?_⟩⟩
            refine ⟨_, rfl, _, rfl, .inl ⟨b, ys, _, _, rfl, rfl, hbb, (by rw [Int.zero_add]; exact atI_nat e2), ?_⟩⟩
            exact ⟨_, _, rfl, hk i _ _ e1 e2, true, rfl, iteF ⟨rfl, _, rfl⟩⟩
          · rintro σ H2 ⟨rfl, v, rfl⟩
            exact k
        · -- tuples
          refine ⟨_, rfl, _, .ty "tuple", _, .type "tuple", true, rfl, .ty _, (SqT.ty hbb), kit_ty (by decide +kernel), true, rfl, iteT ?_⟩
          refine ⟨_, rfl, _, .ty "tuple", _, .type "tuple", true, rfl, .ty _, (SqT.ty hbb), kit_ty (by decide +kernel), _, rfl, _, .ty "tuple", _, .type "tuple", true, rfl, .ty _, (SqT.ty ha), kit_ty (by decide +kernel), rfl, false, rfl, iteF ?_⟩
          refine ⟨_, rfl, _, .ty "list", _, .type "list", false, rfl, .ty _, (SqT.ty hbb), kit_ty (by decide +kernel), _, rfl, _, .ty "list", _, .type "list", false, rfl, .ty _, (SqT.ty ha), kit_ty (by decide +kernel), rfl, false, rfl, iteF ?_⟩
          refine ⟨_, rfl, _, xs, rfl, .inr ha, _, rfl, _, ys, rfl, .inr hbb, rfl, false, (by rw [hl, eq_refl_V]; rfl), iteF ?_⟩
          refine ⟨_, rfl, _, ys, rfl, .inr hbb, _, rfl, by omega, by omega, ?_⟩
          refine for_range (n := (ys.length : Int).toNat) (fun i σ H2 => H2 = H ∧ ∃ v : Option V, σ = [some (.ref a), some (.ref b), v]) ⟨rfl, none, rfl⟩ ?_ ?_
          · rintro i σ H2 hi ⟨rfl, v, rfl⟩
            have h1 : i < ys.length := by omega
            have h2 : i < xs.length := by omega
            have e1 := List.getElem?_eq_getElem h2
            have e2 := List.getElem?_eq_getElem h1
            refine ⟨_, rfl, _, rfl, .inr (.inl ⟨a, xs, _, _, rfl, rfl, ha, (by rw [Int.zero_add]; exact atI_nat e1), ?_⟩)⟩
            refine ⟨_, rfl, _, rfl, .inr (.inl ⟨b, ys, _, _, rfl, rfl, hbb, (by rw [Int.zero_add]; exact atI_nat e2), ?_⟩)⟩
            exact ⟨_, _, rfl, hk i _ _ e1 e2, true, rfl, iteF ⟨rfl, _, rfl⟩⟩
          · rintro σ H2 ⟨rfl, v, rfl⟩
            exact k
end
theorem big_lt {i : Int} {a b : Nat} (h : i.natAbs < 2 ^ a) (hab : a ≤ b) : i.natAbs < 2 ^ b := Nat.lt_of_lt_of_le h (Nat.pow_le_pow_right (by decide) hab)
theorem add_lt {i j : Int} {a : Nat} (hi : i.natAbs < 2 ^ a) (hj : j.natAbs < 2 ^ a) : (i + j).natAbs < 2 ^ (a + 1) := by
  have e : 2 ^ (a + 1) = 2 * 2 ^ a := by rw [Nat.pow_succ]; omega
  omega
theorem sub_lt {i j : Int} {a : Nat} (hi : i.natAbs < 2 ^ a) (hj : j.natAbs < 2 ^ a) : (i - j).natAbs < 2 ^ (a + 1) := by
  have e : 2 ^ (a + 1) = 2 * 2 ^ a := by rw [Nat.pow_succ]; omega
  omega
theorem rtop_of (t b : Int) : rtop t b = if b < 0 then (-t).fdiv (Int.gcd t b : Int) else t.fdiv (Int.gcd t b : Int) := by
  unfold rtop rsg
  split
  · rw [← Int.neg_fdiv_neg, Int.neg_neg]
  · rfl
theorem rbot_of (t b : Int) : rbot t b = if b < 0 then (-b).fdiv (Int.gcd t b : Int) else b.fdiv (Int.gcd t b : Int) := by
  unfold rbot rsg
  split
  · rw [← Int.neg_fdiv_neg, Int.neg_neg]
  · rfl
section
variable {P : Program} {w : World} {K : PySem.W.Frag} {mg : Str → Option Value} {base : Heap} {A : At}
def spFrac : Sp := fun vs H Q _ => ∃ t b : Int, vs = [.int t, .int b] ∧ (t.natAbs < 2 ^ 8000 ∧ b.natAbs < 2 ^ 8000) ∧ b ≠ 0 ∧ ∀ p, H p = none → Q (.ref p) (upd H p (.tup [.int (rtop t b), .int (rbot t b)]))
theorem ok_frac (T : Txt K mg A) : FnOk P w K mg base CX0 2 A.a_law_frac A.d_law_frac ["top", "bottom"] spFrac := by
  have GG : FnOk P w K mg base CX0 1 A.a_law_gcd A.d_law_gcd ["a", "b"] spGcd := ok_gcd T
  refine T.t_law_frac.F.ok sc_law_frac (fun vs H Q E h => ?_) (fun cdv AA outer s H vs Q E hr h => ?_)
  · obtain ⟨t, b, rfl, _⟩ := h
    rfl
  · obtain ⟨t, b, rfl, ⟨ht, hb⟩, hb0, k⟩ := h
    refine ⟨_, pss_cons (ps_if (pt_cmpR op_lt (pv 1) pe_int (nomark _)) (pss_cons (ps_set (i := 0) sc_law_frac.nd rfl (Or.inl rfl) (pe_un un_neg (pv 0))) (pss_one (ps_set (i := 1) sc_law_frac.nd rfl (Or.inl rfl) (pe_un un_neg (pv 1))))) pss_nil)
      (pss_cons (ps_set (i := 2) sc_law_frac.nd rfl (Or.inl rfl) (pe_call GG hr rfl T.t_law_gcd.g T.t_law_gcd.F.kp T.t_law_gcd.b .nil pass0 (pa_cons (pv 0) (pa_cons (pv 1) pa_nil))))
      (pss_one (ps_ret (pe_tup (pa_cons (pe_op op_fdivG (pv 0) (pv 2)) (pa_cons (pe_op op_fdivG (pv 1) (pv 2)) pa_nil)))))), ?_⟩
    have hg := rgcd_pos (t := t) hb0
    have hle : Int.gcd t b ≤ b.natAbs := Nat.le_of_dvd (by omega) (Nat.gcd_dvd_right _ _)
    have hlog : (Int.gcd t b).log2 < 9000 := by
      have z := PySem.Flt.log2_lt_of (show 0 < 8000 by decide) (Nat.lt_of_le_of_lt hle hb)
      omega
    refine seq_then (fun σ' H' => H' = H ∧ ∃ t' b' : Int, σ' = [some (.int t'), some (.int b'), none] ∧ Int.gcd t' b' = Int.gcd t b ∧ t'.natAbs = t.natAbs ∧ b'.natAbs = b.natAbs ∧ rtop t b = t'.fdiv (Int.gcd t b : Int) ∧ rbot t b = b'.fdiv (Int.gcd t b : Int)) ?_ (fun N hN => ?_)
    · rintro σ' H' ⟨rfl, t', b', rfl, eg, et, eb, e1, e2⟩
      have big : (2 : Nat) ^ 8000 < 2 ^ 1000000 := Nat.pow_lt_pow_right (by decide) (by decide)
      refine ⟨_, rfl, _, rfl, t', b', rfl, ⟨by rw [et]; exact Nat.lt_trans ht big, by rw [eb]; exact Nat.lt_trans hb big⟩, ?_⟩
      rw [eg]
      have hz : ((Int.gcd t b : Nat) : Int) ≠ 0 ∧ ((Int.gcd t b : Nat) : Int).natAbs.log2 < 9000 := ⟨by omega, by rw [Int.natAbs_natCast]; exact hlog⟩
      refine ⟨_, rfl, _, rfl, _, _, rfl, rfl, hz, _, rfl, _, rfl, _, _, rfl, rfl, hz, (by show 2 ≤ sizeLine; decide), fun p np => ?_⟩
      have kp := k p np
      rw [e1, e2] at kp
      exact kp
    · refine ⟨_, rfl, _, _, rfl, rfl, _, rfl, ite2 (fun h1 => ?_) (fun h1 => ?_)⟩
      · have h1 : b < 0 := of_decide_eq_true h1
        refine ⟨_, rfl, _, rfl, _, rfl, _, rfl, hN _ _ ⟨rfl, -t, -b, rfl, ?_, Int.natAbs_neg t, Int.natAbs_neg b, ?_, ?_⟩⟩
        · rw [Int.gcd_neg, Int.neg_gcd]
        · rw [rtop_of, if_pos h1]
        · rw [rbot_of, if_pos h1]
      · have h1 : ¬ b < 0 := fun z => h1 (decide_eq_true z)
        refine hN _ _ ⟨rfl, t, b, rfl, rfl, rfl, rfl, ?_, ?_⟩
        · rw [rtop_of, if_neg h1]
        · rw [rbot_of, if_neg h1]
/-- a tuple of two ints that stands at p -/
abbrev RatAt (K : PySem.W.Frag) (H : Hp) (p : Addr) (t b : Int) : Prop := SqT K H p [.int t, .int b]
def small (i : Int) : Prop := i.natAbs < 2 ^ 3000
theorem small_mul {i j : Int} (hi : small i) (hj : small j) : CMulW i j ∧ (i * j).natAbs < 2 ^ 6000 := ⟨wide_mul hi hj (by decide) (by decide) (by decide), wide_lt hi hj⟩
theorem small_8000 {i : Int} (h : i.natAbs < 2 ^ 6001) : i.natAbs < 2 ^ 8000 := big_lt h (by decide)
theorem mid_8000 {i : Int} (h : i.natAbs < 2 ^ 6000) : i.natAbs < 2 ^ 8000 := big_lt h (by decide)
def spLPlus (K : PySem.W.Frag) : Sp := fun vs H Q _ => ∃ (pa pb : Addr) (a1 a2 b1 b2 : Int), vs = [.ref pa, .ref pb] ∧ (RatAt K H pa a1 a2 ∧ RatAt K H pb b1 b2) ∧ (small a1 ∧ small a2 ∧ small b1 ∧ small b2) ∧ (a2 ≠ 0 ∧ b2 ≠ 0) ∧
  ∀ p, H p = none → Q (.ref p) (upd H p (.tup [.int (rtop (a1 * b2 + b1 * a2) (a2 * b2)), .int (rbot (a1 * b2 + b1 * a2) (a2 * b2))]))
theorem ok_lplus (T : Txt K mg A) : FnOk P w K mg base CX0 3 A.a_law_plus A.d_law_plus ["a", "b"] (spLPlus K) := by
  have GF : FnOk P w K mg base CX0 2 A.a_law_frac A.d_law_frac ["top", "bottom"] spFrac := ok_frac T
  refine T.t_law_plus.F.ok sc_law_plus (fun vs H Q E h => ?_) (fun cdv AA outer s H vs Q E hr h => ?_)
  · obtain ⟨pa, pb, a1, a2, b1, b2, rfl, _⟩ := h
    rfl
  · obtain ⟨pa, pb, a1, a2, b1, b2, rfl, ⟨ha, hb⟩, ⟨s1, s2, s3, s4⟩, ⟨na, nb⟩, k⟩ := h
    refine ⟨_, pss_one (ps_ret (pe_call GF hr rfl T.t_law_frac.g T.t_law_frac.F.kp T.t_law_frac.b .nil pass0 (pa_cons
      (pe_op op_add (pe_op op_mulW (pe_ix ix_tup (pv 0) pe_int (fun _ _ => rfl)) (pe_ix ix_tup (pv 1) pe_int (fun _ _ => rfl))) (pe_op op_mulW (pe_ix ix_tup (pv 1) pe_int (fun _ _ => rfl)) (pe_ix ix_tup (pv 0) pe_int (fun _ _ => rfl))))
      (pa_cons (pe_op op_mulW (pe_ix ix_tup (pv 0) pe_int (fun _ _ => rfl)) (pe_ix ix_tup (pv 1) pe_int (fun _ _ => rfl))) pa_nil)))), ?_⟩
    refine ⟨_, rfl, pa, _, 0, _, rfl, rfl, ha, rfl, _, rfl, pb, _, 1, _, rfl, rfl, hb, rfl, _, _, rfl, rfl, (small_mul s1 s4).1, ?_⟩
    refine ⟨_, rfl, pb, _, 0, _, rfl, rfl, hb, rfl, _, rfl, pa, _, 1, _, rfl, rfl, ha, rfl, _, _, rfl, rfl, (small_mul s3 s2).1, _, _, rfl, rfl, ?_⟩
    refine ⟨_, rfl, pa, _, 1, _, rfl, rfl, ha, rfl, _, rfl, pb, _, 1, _, rfl, rfl, hb, rfl, _, _, rfl, rfl, (small_mul s2 s4).1, ?_⟩
    exact ⟨_, _, rfl, ⟨small_8000 (add_lt (small_mul s1 s4).2 (small_mul s3 s2).2), mid_8000 (small_mul s2 s4).2⟩, Int.mul_ne_zero na nb, k⟩
def spLTimes (K : PySem.W.Frag) : Sp := fun vs H Q _ => ∃ (pa pb : Addr) (a1 a2 b1 b2 : Int), vs = [.ref pa, .ref pb] ∧ (RatAt K H pa a1 a2 ∧ RatAt K H pb b1 b2) ∧ (small a1 ∧ small a2 ∧ small b1 ∧ small b2) ∧ (a2 ≠ 0 ∧ b2 ≠ 0) ∧
  ∀ p, H p = none → Q (.ref p) (upd H p (.tup [.int (rtop (a1 * b1) (a2 * b2)), .int (rbot (a1 * b1) (a2 * b2))]))
theorem ok_ltimes (T : Txt K mg A) : FnOk P w K mg base CX0 3 A.a_law_times A.d_law_times ["a", "b"] (spLTimes K) := by
  have GF : FnOk P w K mg base CX0 2 A.a_law_frac A.d_law_frac ["top", "bottom"] spFrac := ok_frac T
  refine T.t_law_times.F.ok sc_law_times (fun vs H Q E h => ?_) (fun cdv AA outer s H vs Q E hr h => ?_)
  · obtain ⟨pa, pb, a1, a2, b1, b2, rfl, _⟩ := h
    rfl
  · obtain ⟨pa, pb, a1, a2, b1, b2, rfl, ⟨ha, hb⟩, ⟨s1, s2, s3, s4⟩, ⟨na, nb⟩, k⟩ := h
    refine ⟨_, pss_one (ps_ret (pe_call GF hr rfl T.t_law_frac.g T.t_law_frac.F.kp T.t_law_frac.b .nil pass0 (pa_cons
      (pe_op op_mulW (pe_ix ix_tup (pv 0) pe_int (fun _ _ => rfl)) (pe_ix ix_tup (pv 1) pe_int (fun _ _ => rfl)))
      (pa_cons (pe_op op_mulW (pe_ix ix_tup (pv 0) pe_int (fun _ _ => rfl)) (pe_ix ix_tup (pv 1) pe_int (fun _ _ => rfl))) pa_nil)))), ?_⟩
    refine ⟨_, rfl, pa, _, 0, _, rfl, rfl, ha, rfl, _, rfl, pb, _, 0, _, rfl, rfl, hb, rfl, _, _, rfl, rfl, (small_mul s1 s3).1, ?_⟩
    refine ⟨_, rfl, pa, _, 1, _, rfl, rfl, ha, rfl, _, rfl, pb, _, 1, _, rfl, rfl, hb, rfl, _, _, rfl, rfl, (small_mul s2 s4).1, ?_⟩
    exact ⟨_, _, rfl, ⟨mid_8000 (small_mul s1 s3).2, mid_8000 (small_mul s2 s4).2⟩, Int.mul_ne_zero na nb, k⟩
end
section
variable {P : Program} {w : World} {K : PySem.W.Frag} {mg : Str → Option Value} {base : Heap} {A : At}
theorem ok_plus (T : Txt K mg A) : FnOk P w K mg base CX0 3 A.a_plus A.d_plus ["a", "b"] (spLPlus K) := by
  have GR : FnOk P w K mg base (L2.CX P w) 2 A.a_ratio A.d_ratio ["top", "bottom"] (spRatio A.C_ZeroDivisor) := ok_ratio T
  refine T.t_plus.F.ok sc_plus (fun vs H Q E h => ?_) (fun cdv AA outer s H vs Q E hr h => ?_)
  · obtain ⟨pa, pb, a1, a2, b1, b2, rfl, _⟩ := h
    rfl
  · obtain ⟨pa, pb, a1, a2, b1, b2, rfl, ⟨ha, hb⟩, ⟨s1, s2, s3, s4⟩, ⟨na, nb⟩, k⟩ := h
    refine ⟨_, pss_one (ps_ret (pe_call GR hr rfl T.t_ratio.g T.t_ratio.F.kp T.t_ratio.b .nil passL (pa_cons
      (pe_op op_add (pe_op op_mulW (pe_ix ix_tup (pv 0) pe_int (fun _ _ => rfl)) (pe_ix ix_tup (pv 1) pe_int (fun _ _ => rfl))) (pe_op op_mulW (pe_ix ix_tup (pv 1) pe_int (fun _ _ => rfl)) (pe_ix ix_tup (pv 0) pe_int (fun _ _ => rfl))))
      (pa_cons (pe_op op_mulW (pe_ix ix_tup (pv 0) pe_int (fun _ _ => rfl)) (pe_ix ix_tup (pv 1) pe_int (fun _ _ => rfl))) pa_nil)))), ?_⟩
    refine ⟨_, rfl, pa, _, 0, _, rfl, rfl, ha, rfl, _, rfl, pb, _, 1, _, rfl, rfl, hb, rfl, _, _, rfl, rfl, (small_mul s1 s4).1, ?_⟩
    refine ⟨_, rfl, pb, _, 0, _, rfl, rfl, hb, rfl, _, rfl, pa, _, 1, _, rfl, rfl, ha, rfl, _, _, rfl, rfl, (small_mul s3 s2).1, _, _, rfl, rfl, ?_⟩
    refine ⟨_, rfl, pa, _, 1, _, rfl, rfl, ha, rfl, _, rfl, pb, _, 1, _, rfl, rfl, hb, rfl, _, _, rfl, rfl, (small_mul s2 s4).1, ?_⟩
    exact ⟨_, _, rfl, ⟨small_8000 (add_lt (small_mul s1 s4).2 (small_mul s3 s2).2), mid_8000 (small_mul s2 s4).2⟩, fun e => absurd e (Int.mul_ne_zero na nb), fun _ => k⟩
end
section
variable {P : Program} {w : World} {K : PySem.W.Frag} {mg : Str → Option Value} {base : Heap} {A : At}
def spMinus (K : PySem.W.Frag) : Sp := fun vs H Q _ => ∃ (pa pb : Addr) (a1 a2 b1 b2 : Int), vs = [.ref pa, .ref pb] ∧ (RatAt K H pa a1 a2 ∧ RatAt K H pb b1 b2) ∧ (small a1 ∧ small a2 ∧ small b1 ∧ small b2) ∧ (a2 ≠ 0 ∧ b2 ≠ 0) ∧
  ∀ p, H p = none → Q (.ref p) (upd H p (.tup [.int (rtop (a1 * b2 - b1 * a2) (a2 * b2)), .int (rbot (a1 * b2 - b1 * a2) (a2 * b2))]))
theorem ok_minus (T : Txt K mg A) : FnOk P w K mg base CX0 3 A.a_minus A.d_minus ["a", "b"] (spMinus K) := by
  have GR : FnOk P w K mg base (L2.CX P w) 2 A.a_ratio A.d_ratio ["top", "bottom"] (spRatio A.C_ZeroDivisor) := ok_ratio T
  refine T.t_minus.F.ok sc_minus (fun vs H Q E h => ?_) (fun cdv AA outer s H vs Q E hr h => ?_)
  · obtain ⟨pa, pb, a1, a2, b1, b2, rfl, _⟩ := h
    rfl
  · obtain ⟨pa, pb, a1, a2, b1, b2, rfl, ⟨ha, hb⟩, ⟨s1, s2, s3, s4⟩, ⟨na, nb⟩, k⟩ := h
    refine ⟨_, pss_one (ps_ret (pe_call GR hr rfl T.t_ratio.g T.t_ratio.F.kp T.t_ratio.b .nil passL (pa_cons
      (pe_op op_sub (pe_op op_mulW (pe_ix ix_tup (pv 0) pe_int (fun _ _ => rfl)) (pe_ix ix_tup (pv 1) pe_int (fun _ _ => rfl))) (pe_op op_mulW (pe_ix ix_tup (pv 1) pe_int (fun _ _ => rfl)) (pe_ix ix_tup (pv 0) pe_int (fun _ _ => rfl))))
      (pa_cons (pe_op op_mulW (pe_ix ix_tup (pv 0) pe_int (fun _ _ => rfl)) (pe_ix ix_tup (pv 1) pe_int (fun _ _ => rfl))) pa_nil)))), ?_⟩
    refine ⟨_, rfl, pa, _, 0, _, rfl, rfl, ha, rfl, _, rfl, pb, _, 1, _, rfl, rfl, hb, rfl, _, _, rfl, rfl, (small_mul s1 s4).1, ?_⟩
    refine ⟨_, rfl, pb, _, 0, _, rfl, rfl, hb, rfl, _, rfl, pa, _, 1, _, rfl, rfl, ha, rfl, _, _, rfl, rfl, (small_mul s3 s2).1, _, _, rfl, rfl, ?_⟩
    refine ⟨_, rfl, pa, _, 1, _, rfl, rfl, ha, rfl, _, rfl, pb, _, 1, _, rfl, rfl, hb, rfl, _, _, rfl, rfl, (small_mul s2 s4).1, ?_⟩
    exact ⟨_, _, rfl, ⟨small_8000 (sub_lt (small_mul s1 s4).2 (small_mul s3 s2).2), mid_8000 (small_mul s2 s4).2⟩, fun e => absurd e (Int.mul_ne_zero na nb), fun _ => k⟩
end
section
variable {P : Program} {w : World} {K : PySem.W.Frag} {mg : Str → Option Value} {base : Heap} {A : At}
theorem ok_times (T : Txt K mg A) : FnOk P w K mg base CX0 3 A.a_times A.d_times ["a", "b"] (spLTimes K) := by
  have GR : FnOk P w K mg base (L2.CX P w) 2 A.a_ratio A.d_ratio ["top", "bottom"] (spRatio A.C_ZeroDivisor) := ok_ratio T
  refine T.t_times.F.ok sc_times (fun vs H Q E h => ?_) (fun cdv AA outer s H vs Q E hr h => ?_)
  · obtain ⟨pa, pb, a1, a2, b1, b2, rfl, _⟩ := h
    rfl
  · obtain ⟨pa, pb, a1, a2, b1, b2, rfl, ⟨ha, hb⟩, ⟨s1, s2, s3, s4⟩, ⟨na, nb⟩, k⟩ := h
    refine ⟨_, pss_one (ps_ret (pe_call GR hr rfl T.t_ratio.g T.t_ratio.F.kp T.t_ratio.b .nil passL (pa_cons
      (pe_op op_mulW (pe_ix ix_tup (pv 0) pe_int (fun _ _ => rfl)) (pe_ix ix_tup (pv 1) pe_int (fun _ _ => rfl)))
      (pa_cons (pe_op op_mulW (pe_ix ix_tup (pv 0) pe_int (fun _ _ => rfl)) (pe_ix ix_tup (pv 1) pe_int (fun _ _ => rfl))) pa_nil)))), ?_⟩
    refine ⟨_, rfl, pa, _, 0, _, rfl, rfl, ha, rfl, _, rfl, pb, _, 0, _, rfl, rfl, hb, rfl, _, _, rfl, rfl, (small_mul s1 s3).1, ?_⟩
    refine ⟨_, rfl, pa, _, 1, _, rfl, rfl, ha, rfl, _, rfl, pb, _, 1, _, rfl, rfl, hb, rfl, _, _, rfl, rfl, (small_mul s2 s4).1, ?_⟩
    exact ⟨_, _, rfl, ⟨mid_8000 (small_mul s1 s3).2, mid_8000 (small_mul s2 s4).2⟩, fun e => absurd e (Int.mul_ne_zero na nb), fun _ => k⟩
end
/-- a fraction of the law's own, in lowest terms -/
structure Frac (H : Hp) (p : Addr) (t b : Int) (n : Nat) : Prop where
  at' : H p = some (.tup [.int t, .int b])
  pos : 1 ≤ b
  lt : t.natAbs < 2 ^ n
  lb : b.natAbs < 2 ^ n
theorem Frac.of {H : Hp} {p : Addr} {t b : Int} {n : Nat} (hb : b ≠ 0) (h1 : t.natAbs < 2 ^ n) (h2 : b.natAbs < 2 ^ n) : Frac (upd H p (.tup [.int (rtop t b), .int (rbot t b)])) p (rtop t b) (rbot t b) n :=
  ⟨upd_same, rbot_pos hb, Nat.lt_of_le_of_lt (rtop_le hb) h1, Nat.lt_of_le_of_lt (rbot_le hb) h2⟩
theorem Frac.keep {H H' : Hp} {p : Addr} {t b : Int} {n : Nat} (h : Frac H p t b n) (k : H' p = some (.tup [.int t, .int b])) : Frac H' p t b n := ⟨k, h.pos, h.lt, h.lb⟩
theorem Frac.but {H H' : Hp} {p q : Addr} {t b : Int} {n : Nat} (h : Frac H p t b n) (B : But q H H') (ne : p ≠ q) : Frac H' p t b n := h.keep (B _ _ h.at' ne)
theorem Frac.same {H H' : Hp} {p : Addr} {t b : Int} {n : Nat} (h : Frac H p t b n) (s : Same H H') : Frac H' p t b n := h.keep (s _ _ h.at')
/-! ### sums and products of rows of fractions -/
def pstep (s f : Int × Int) : Int × Int := (rtop (s.1 * f.2 + f.1 * s.2) (s.2 * f.2), rbot (s.1 * f.2 + f.1 * s.2) (s.2 * f.2))
def tstep (s f : Int × Int) : Int × Int := (rtop (s.1 * f.1) (s.2 * f.2), rbot (s.1 * f.1) (s.2 * f.2))
/-- in lowest terms, below 2 ^ n -/
def Lim (n : Nat) (s : Int × Int) : Prop := 1 ≤ s.2 ∧ s.1.natAbs < 2 ^ n ∧ s.2.natAbs < 2 ^ n
theorem lim_plus {s f : Int × Int} {x y : Nat} (hs : Lim x s) (hf : Lim y f) : Lim (x + y + 1) (pstep s f) := by
  have n1 : s.2 ≠ 0 := by have := hs.1; omega
  have n2 : f.2 ≠ 0 := by have := hf.1; omega
  have nz := Int.mul_ne_zero n1 n2
  have h1 : (s.1 * f.2).natAbs < 2 ^ (x + y) := wide_lt hs.2.1 hf.2.2
  have h2 : (f.1 * s.2).natAbs < 2 ^ (x + y) := by
    rw [Int.mul_comm]
    exact wide_lt hs.2.2 hf.2.1
  have h3 : (s.2 * f.2).natAbs < 2 ^ (x + y) := wide_lt hs.2.2 hf.2.2
  exact ⟨rbot_pos nz, Nat.lt_of_le_of_lt (rtop_le nz) (add_lt h1 h2), Nat.lt_of_le_of_lt (rbot_le nz) (big_lt h3 (by omega))⟩
theorem lim_times {s f : Int × Int} {x y : Nat} (hs : Lim x s) (hf : Lim y f) : Lim (x + y + 1) (tstep s f) := by
  have n1 : s.2 ≠ 0 := by have := hs.1; omega
  have n2 : f.2 ≠ 0 := by have := hf.1; omega
  have nz := Int.mul_ne_zero n1 n2
  have h1 : (s.1 * f.1).natAbs < 2 ^ (x + y) := wide_lt hs.2.1 hf.2.1
  have h3 : (s.2 * f.2).natAbs < 2 ^ (x + y) := wide_lt hs.2.2 hf.2.2
  exact ⟨rbot_pos nz, Nat.lt_of_le_of_lt (rtop_le nz) (big_lt h1 (by omega)), Nat.lt_of_le_of_lt (rbot_le nz) (big_lt h3 (by omega))⟩
abbrev FRow := List (Addr × Int × Int)
def psum (l : FRow) : Int × Int := (l.map (·.2)).foldl pstep (0, 1)
def pprod (l : FRow) : Int × Int := (l.map (·.2)).foldl tstep (1, 1)
theorem take_more {α : Type} {l : List α} {i : Nat} {x : α} (h : l[i]? = some x) : l.take (i + 1) = l.take i ++ [x] := by
  rw [List.take_add_one, h]
  rfl
theorem psum_more {l : FRow} {i : Nat} {f : Addr × Int × Int} (h : l[i]? = some f) : psum (l.take (i + 1)) = pstep (psum (l.take i)) f.2 := by
  unfold psum
  rw [take_more h, List.map_append, List.foldl_append]
  rfl
theorem pprod_more {l : FRow} {i : Nat} {f : Addr × Int × Int} (h : l[i]? = some f) : pprod (l.take (i + 1)) = tstep (pprod (l.take i)) f.2 := by
  unfold pprod
  rw [take_more h, List.map_append, List.foldl_append]
  rfl
theorem mem_at {α : Type} {l : List α} {i : Nat} {x : α} (h : l[i]? = some x) : x ∈ l := List.mem_of_getElem? h
theorem psum_lim {l : FRow} (hl : ∀ f ∈ l, Lim 140 f.2) : ∀ i, i ≤ l.length → Lim (141 * i + 1) (psum (l.take i))
  | 0, _ => by
    rw [List.take_zero]
    exact ⟨Int.le_refl 1, by decide, by decide⟩
  | i + 1, h => by
    have e := List.getElem?_eq_getElem (show i < l.length from h)
    rw [psum_more e]
    have z := lim_plus (psum_lim hl i (by omega)) (hl _ (mem_at e))
    exact (show 141 * (i + 1) + 1 = 141 * i + 1 + 140 + 1 by omega) ▸ z
theorem pprod_lim {l : FRow} (hl : ∀ f ∈ l, Lim 140 f.2) : ∀ i, i ≤ l.length → Lim (141 * i + 1) (pprod (l.take i))
  | 0, _ => by
    rw [List.take_zero]
    exact ⟨Int.le_refl 1, by decide, by decide⟩
  | i + 1, h => by
    have e := List.getElem?_eq_getElem (show i < l.length from h)
    rw [pprod_more e]
    have z := lim_times (pprod_lim hl i (by omega)) (hl _ (mem_at e))
    exact (show 141 * (i + 1) + 1 = 141 * i + 1 + 140 + 1 by omega) ▸ z
theorem Lim.small {n : Nat} {s : Int × Int} (h : Lim n s) (hn : n ≤ 3000) : O.small s.1 ∧ O.small s.2 ∧ s.2 ≠ 0 := ⟨big_lt h.2.1 hn, big_lt h.2.2 hn, by have := h.1; omega⟩
theorem Frac.lim {H : Hp} {p : Addr} {t b : Int} {n : Nat} (h : Frac H p t b n) : Lim n (t, b) := ⟨h.pos, h.lt, h.lb⟩
/-- a row of fractions stands at r -/
structure RowAt (K : PySem.W.Frag) (H : Hp) (r : Addr) (fs : FRow) : Prop where
  lst : SqL K H r (fs.map fun f => V.ref f.1)
  all : ∀ f ∈ fs, Frac H f.1 f.2.1 f.2.2 140
theorem RowAt.same {K : PySem.W.Frag} {H H' : Hp} {r : Addr} {fs : FRow} (h : RowAt K H r fs) (s : Same H H') : RowAt K H' r fs := ⟨s.seq h.lst, fun f hf => (h.all f hf).same s⟩
theorem RowAt.lims {K : PySem.W.Frag} {H : Hp} {r : Addr} {fs : FRow} (h : RowAt K H r fs) : ∀ f ∈ fs, Lim 140 f.2 := fun f hf => (h.all f hf).lim
theorem row_item {fs : FRow} {i : Nat} {y : V} (h : (fs.map fun f => V.ref f.1)[i]? = some y) : ∃ f, fs[i]? = some f ∧ y = .ref f.1 := by
  rw [List.getElem?_map] at h
  cases e : fs[i]? with
  | none =>
    rw [e] at h
    cases h
  | some f =>
    rw [e] at h
    exact ⟨f, rfl, (Option.some.inj h).symm⟩
section
variable {P : Program} {w : World} {K : PySem.W.Frag} {mg : Str → Option Value} {base : Heap} {A : At}
def cmp3 (l r : Int) : Int := if l < r then -1 else if r < l then 1 else 0
def spCompare (K : PySem.W.Frag) : Sp := fun vs H Q _ => ∃ (pa pb : Addr) (a1 a2 b1 b2 : Int), vs = [.ref pa, .ref pb] ∧ (RatAt K H pa a1 a2 ∧ RatAt K H pb b1 b2) ∧ (small a1 ∧ small a2 ∧ small b1 ∧ small b2) ∧ Q (.int (cmp3 (a1 * b2) (b1 * a2))) H
theorem ok_compare (T : Txt K mg A) : FnOk P w K mg base CX0 1 A.a_compare A.d_compare ["a", "b"] (spCompare K) := by
  refine T.t_compare.F.ok sc_compare (fun vs H Q E h => ?_) (fun cdv AA outer s H vs Q E hr h => ?_)
  · obtain ⟨pa, pb, a1, a2, b1, b2, rfl, _⟩ := h
    rfl
  · obtain ⟨pa, pb, a1, a2, b1, b2, rfl, ⟨ha, hb⟩, ⟨s1, s2, s3, s4⟩, k⟩ := h
    refine ⟨_, (pss_cons (ps_set (i := 2) sc_compare.nd rfl (Or.inl rfl) (pe_op op_mulW (pe_ix ix_tup (pv 0) pe_int (fun _ _ => rfl)) (pe_ix ix_tup (pv 1) pe_int (fun _ _ => rfl))))
      (pss_cons (ps_set (i := 3) sc_compare.nd rfl (Or.inl rfl) (pe_op op_mulW (pe_ix ix_tup (pv 1) pe_int (fun _ _ => rfl)) (pe_ix ix_tup (pv 0) pe_int (fun _ _ => rfl))))
      (pss_cons (ps_if (pt_cmpR op_lt (pv 2) (pv 3) (nomark _)) (pss_one (ps_ret (pe_un un_neg pe_int))) pss_nil)
      (pss_cons (ps_if (pt_cmpR op_gt (pv 2) (pv 3) (nomark _)) (pss_one (ps_ret pe_int)) pss_nil)
      (pss_one (ps_ret pe_int)))))), ?_⟩
    refine ⟨_, rfl, pa, _, 0, _, rfl, rfl, ha, rfl, _, rfl, pb, _, 1, _, rfl, rfl, hb, rfl, _, _, rfl, rfl, (small_mul s1 s4).1, ?_⟩
    refine ⟨_, rfl, pb, _, 0, _, rfl, rfl, hb, rfl, _, rfl, pa, _, 1, _, rfl, rfl, ha, rfl, _, _, rfl, rfl, (small_mul s3 s2).1, ?_⟩
    refine ⟨_, rfl, _, rfl, _, _, rfl, rfl, _, rfl, ite2 (fun h1 => ?_) (fun h1 => ?_)⟩
    · have h1 : a1 * b2 < b1 * a2 := of_decide_eq_true h1
      rw [show cmp3 (a1 * b2) (b1 * a2) = -1 from if_pos h1] at k
      exact ⟨_, rfl, k⟩
    · have h1 : ¬ a1 * b2 < b1 * a2 := fun z => h1 (decide_eq_true z)
      have e1 : cmp3 (a1 * b2) (b1 * a2) = if b1 * a2 < a1 * b2 then 1 else 0 := if_neg h1
      refine ⟨_, rfl, _, rfl, _, _, rfl, rfl, _, rfl, ite2 (fun h2 => ?_) (fun h2 => ?_)⟩
      · have h2 : b1 * a2 < a1 * b2 := of_decide_eq_true h2
        rw [e1, if_pos h2] at k
        exact k
      · have h2 : ¬ b1 * a2 < a1 * b2 := fun z => h2 (decide_eq_true z)
        rw [e1, if_neg h2] at k
        exact k
def spChance (K : PySem.W.Frag) : Sp := fun vs H Q _ => ∃ (r : Addr) (t b : Int), vs = [.ref r] ∧ RatAt K H r t b ∧ Q (.bl (decide (0 ≤ t) && decide (t ≤ b))) H
theorem ok_chance (T : Txt K mg A) : FnOk P w K mg base CX0 1 A.a_is_chance A.d_is_chance ["r"] (spChance K) := by
  refine T.t_is_chance.F.ok sc_is_chance (fun vs H Q E h => ?_) (fun cdv AA outer s H vs Q E hr h => ?_)
  · obtain ⟨r, t, b, rfl, _⟩ := h
    rfl
  · obtain ⟨r, t, b, rfl, hR, k⟩ := h
    refine ⟨_, (pss_one (ps_ret (pe_chain op_le op_le pe_int (pe_ix ix_tup (pv 0) pe_int (fun _ _ => rfl)) (pe_ix ix_tup (pv 0) pe_int (fun _ _ => rfl))))), ?_⟩
    refine ⟨_, rfl, r, _, 0, _, rfl, rfl, hR, rfl, _, _, rfl, rfl, _, rfl, ite2 (fun h1 => ?_) (fun h1 => ?_)⟩
    · have h1 : (0 : Int) ≤ t := of_decide_eq_true h1
      refine ⟨_, rfl, r, _, 1, _, rfl, rfl, hR, rfl, _, _, rfl, rfl, ?_⟩
      rw [decide_eq_true h1, Bool.true_and] at k
      exact k
    · have h1 : ¬ (0 : Int) ≤ t := fun z => h1 (decide_eq_true z)
      rw [decide_eq_false h1, Bool.false_and] at k
      exact k
def spRest (K : PySem.W.Frag) : Sp := fun vs H Q _ => ∃ (r : Addr) (t b : Int), vs = [.ref r] ∧ RatAt K H r t b ∧ (small t ∧ small b) ∧ b ≠ 0 ∧ ∀ p, H p = none → Q (.ref p) (upd H p (.tup [.int (rtop (1 * b - t * 1) (1 * b)), .int (rbot (1 * b - t * 1) (1 * b))]))
theorem ok_rest (T : Txt K mg A) : FnOk P w K mg base CX0 4 A.a_rest A.d_rest ["r"] (spRest K) := by
  have G_minus : FnOk P w K mg base CX0 3 A.a_minus A.d_minus ["a", "b"] (spMinus K) := ok_minus T
  refine T.t_rest.F.ok sc_rest (fun vs H Q E h => ?_) (fun cdv AA outer s H vs Q E hr h => ?_)
  · obtain ⟨r, t, b, rfl, _⟩ := h
    rfl
  · obtain ⟨r, t, b, rfl, hR, ⟨s1, s2⟩, nb, k⟩ := h
    obtain ⟨z, eO, hO⟩ := T.k_ONE
    refine ⟨_, (pss_one (ps_ret (pe_call G_minus (hr.mono (by decide)) rfl T.t_minus.g T.t_minus.F.kp T.t_minus.b .nil pass0 (pa_cons (pe_glob (v := .ref z) rfl eO rfl) (pa_cons (pv 0) pa_nil))))), ?_⟩
    exact ⟨_, rfl, z, r, 1, 1, t, b, rfl, ⟨hO _, hR⟩, ⟨by show (1 : Int).natAbs < 2 ^ 3000; exact Nat.one_lt_two_pow (by decide), by show (1 : Int).natAbs < 2 ^ 3000; exact Nat.one_lt_two_pow (by decide), s1, s2⟩, ⟨by decide, nb⟩, k⟩
def spPlusAll (K : PySem.W.Frag) : Sp := fun vs H Q _ => ∃ (r : Addr) (fs : FRow), vs = [.ref r] ∧ RowAt K H r fs ∧ fs.length ≤ 20 ∧ ∀ q H', Same H H' → RatAt K H' q (psum fs).1 (psum fs).2 → Q (.ref q) H'
theorem ok_plus_all (T : Txt K mg A) : FnOk P w K mg base CX0 4 A.a_plus_all A.d_plus_all ["ratios"] (spPlusAll K) := by
  have G_plus : FnOk P w K mg base CX0 3 A.a_plus A.d_plus ["a", "b"] (spLPlus K) := ok_plus T
  refine T.t_plus_all.F.ok sc_plus_all (fun vs H Q E h => ?_) (fun cdv AA outer s H vs Q E hr h => ?_)
  · obtain ⟨r, fs, rfl, _⟩ := h
    rfl
  · obtain ⟨r, fs, rfl, hR, hlen, k⟩ := h
    obtain ⟨z, eZ, hZ⟩ := T.k_ZERO
    refine ⟨_, (pss_cons (ps_set (i := 1) sc_plus_all.nd rfl (Or.inl rfl) (pe_glob (v := .ref z) rfl eZ rfl))
      (pss_cons (ps_for PassesOwn.never rfl (pi_list (pv 0)) (pg_name (i := 2) sc_plus_all.nd rfl (Or.inl rfl)) (pss_one (ps_set (i := 1) sc_plus_all.nd rfl (Or.inl rfl) (pe_call G_plus (hr.mono (by decide)) rfl T.t_plus.g T.t_plus.F.kp T.t_plus.b .nil pass0 (pa_cons (pv 1) (pa_cons (pv 2) pa_nil))))))
      (pss_one (ps_ret (pv 1))))), ?_⟩
    refine ⟨_, rfl, r, rfl, ⟨_, hR.lst⟩, for_list (K := K) (a := r) (xs := fs.map fun f => V.ref f.1) (fun i σ H2 => ∃ (q : Addr) (v : Option V), σ = [some (.ref r), some (.ref q), v] ∧ Same H H2 ∧ RatAt K H2 q (psum (fs.take i)).1 (psum (fs.take i)).2)
      ⟨z, none, rfl, Same.refl H, hZ _⟩ (fun i σ H2 _ ⟨_, _, _, s2, _⟩ => s2.seq hR.lst) ?_ ?_⟩
    · rintro i y σ H2 hi ⟨q, v, rfl, s2, hq⟩
      obtain ⟨f, hf, rfl⟩ := row_item hi
      have hil : i ≤ fs.length := Nat.le_of_lt (List.getElem?_eq_some_iff.mp hf).1
      obtain ⟨a1, a2, a3⟩ := (psum_lim hR.lims i hil).small (by omega)
      obtain ⟨b1, b2, b3⟩ := (hR.lims f (mem_at hf)).small (by decide)
      have F2 := (hR.all f (mem_at hf)).same s2
      refine ⟨_, rfl, _, rfl, q, f.1, _, _, f.2.1, f.2.2, rfl, ⟨hq, SqT.of F2.at'⟩, ⟨a1, a2, b1, b2⟩, ⟨a3, b3⟩, fun p np => ?_⟩
      refine ⟨p, _, rfl, s2.trans (same_upd np), ?_⟩
      rw [psum_more hf]
      exact SqT.of upd_same
    · rintro σ H2 ⟨q, v, rfl, s2, hq⟩
      rw [List.length_map, List.take_length] at hq
      exact ⟨_, rfl, k q _ s2 hq⟩
def spTimesAll (K : PySem.W.Frag) : Sp := fun vs H Q _ => ∃ (r : Addr) (fs : FRow), vs = [.ref r] ∧ RowAt K H r fs ∧ fs.length ≤ 20 ∧ ∀ q H', Same H H' → RatAt K H' q (pprod fs).1 (pprod fs).2 → Q (.ref q) H'
theorem ok_times_all (T : Txt K mg A) : FnOk P w K mg base CX0 4 A.a_times_all A.d_times_all ["ratios"] (spTimesAll K) := by
  have G_times : FnOk P w K mg base CX0 3 A.a_times A.d_times ["a", "b"] (spLTimes K) := ok_times T
  refine T.t_times_all.F.ok sc_times_all (fun vs H Q E h => ?_) (fun cdv AA outer s H vs Q E hr h => ?_)
  · obtain ⟨r, fs, rfl, _⟩ := h
    rfl
  · obtain ⟨r, fs, rfl, hR, hlen, k⟩ := h
    obtain ⟨z, eO, hO⟩ := T.k_ONE
    refine ⟨_, (pss_cons (ps_set (i := 1) sc_times_all.nd rfl (Or.inl rfl) (pe_glob (v := .ref z) rfl eO rfl))
      (pss_cons (ps_for PassesOwn.never rfl (pi_list (pv 0)) (pg_name (i := 2) sc_times_all.nd rfl (Or.inl rfl)) (pss_one (ps_set (i := 1) sc_times_all.nd rfl (Or.inl rfl) (pe_call G_times (hr.mono (by decide)) rfl T.t_times.g T.t_times.F.kp T.t_times.b .nil pass0 (pa_cons (pv 1) (pa_cons (pv 2) pa_nil))))))
      (pss_one (ps_ret (pv 1))))), ?_⟩
    refine ⟨_, rfl, r, rfl, ⟨_, hR.lst⟩, for_list (K := K) (a := r) (xs := fs.map fun f => V.ref f.1) (fun i σ H2 => ∃ (q : Addr) (v : Option V), σ = [some (.ref r), some (.ref q), v] ∧ Same H H2 ∧ RatAt K H2 q (pprod (fs.take i)).1 (pprod (fs.take i)).2)
      ⟨z, none, rfl, Same.refl H, hO _⟩ (fun i σ H2 _ ⟨_, _, _, s2, _⟩ => s2.seq hR.lst) ?_ ?_⟩
    · rintro i y σ H2 hi ⟨q, v, rfl, s2, hq⟩
      obtain ⟨f, hf, rfl⟩ := row_item hi
      have hil : i ≤ fs.length := Nat.le_of_lt (List.getElem?_eq_some_iff.mp hf).1
      obtain ⟨a1, a2, a3⟩ := (pprod_lim hR.lims i hil).small (by omega)
      obtain ⟨b1, b2, b3⟩ := (hR.lims f (mem_at hf)).small (by decide)
      have F2 := (hR.all f (mem_at hf)).same s2
      refine ⟨_, rfl, _, rfl, q, f.1, _, _, f.2.1, f.2.2, rfl, ⟨hq, SqT.of F2.at'⟩, ⟨a1, a2, b1, b2⟩, ⟨a3, b3⟩, fun p np => ?_⟩
      refine ⟨p, _, rfl, s2.trans (same_upd np), ?_⟩
      rw [pprod_more hf]
      exact SqT.of upd_same
    · rintro σ H2 ⟨q, v, rfl, s2, hq⟩
      rw [List.length_map, List.take_length] at hq
      exact ⟨_, rfl, k q _ s2 hq⟩
end
def spLaw (K : PySem.W.Frag) : Sp := fun vs H Q _ => ∃ (a : Addr) (ns : List Int), vs = [.ref a] ∧ SqL K H a (ns.map V.int) ∧ ns.length ≤ 63 ∧ ∀ H', Q (.bl true) H'
/-- the row while it is made: the list at r, its fractions, the pool -/
structure Row1 (H : Hp) (p l r : Addr) (fs : FRow) : Prop where
  row : H r = some (.lst (fs.map fun f => V.ref f.1))
  all : ∀ f ∈ fs, Frac H f.1 f.2.1 f.2.2 140
  pool : PoolAt H p l
  np : r ≠ p
  nl : r ≠ l
theorem Row1.but {H H' : Hp} {p l r : Addr} {fs : FRow} (h : Row1 H p l r fs) (B : But p H H') (P : PoolAt H' p l) : Row1 H' p l r fs :=
  ⟨B _ _ h.row h.np, fun f hf => (h.all f hf).but B (h.pool.ne (h.all f hf).at'), P, h.np, h.nl⟩
theorem Row1.same {H H' : Hp} {p l r : Addr} {fs : FRow} (h : Row1 H p l r fs) (s : Same H H') : Row1 H' p l r fs :=
  ⟨s _ _ h.row, fun f hf => (h.all f hf).same s, h.pool.same s, h.np, h.nl⟩
theorem Frac.ne_lst {H : Hp} {p r : Addr} {t b : Int} {n : Nat} {xs : List V} (h : Frac H p t b n) (hr : H r = some (.lst xs)) : p ≠ r := ne_of h.at' hr (by intro z; cases z)
theorem Row1.add {H : Hp} {p l r q : Addr} {t b : Int} {fs : FRow} (h : Row1 H p l r fs) (F : Frac H q t b 140) : Row1 (upd H r (.lst ((fs.map fun f => V.ref f.1) ++ [.ref q]))) p l r (fs ++ [(q, t, b)]) := by
  refine ⟨?_, fun f hf => ?_, h.pool.upd h.np h.nl, h.np, h.nl⟩
  · rw [upd_same, List.map_append]
    rfl
  · rcases List.mem_append.mp hf with z | z
    · exact (h.all f z).keep (by rw [upd_ne ((h.all f z).ne_lst h.row)]; exact (h.all f z).at')
    · obtain rfl := List.mem_singleton.mp z
      exact F.keep (by rw [upd_ne (F.ne_lst h.row)]; exact F.at')
theorem at_prev {α : Type} {xs : List α} {i : Nat} (h : i < xs.length) : ∃ y, y ∈ xs ∧ atI xs ((i : Int) - 1) = some y := by
  cases i with
  | succ j =>
    have e := List.getElem?_eq_getElem (show j < xs.length by omega)
    refine ⟨_, List.mem_of_getElem? e, ?_⟩
    rw [show ((j + 1 : Nat) : Int) - 1 = (j : Int) by omega]
    exact atI_nat e
  | zero =>
    rcases List.eq_nil_or_concat xs with rfl | ⟨ys, y, rfl⟩
    · exact absurd h (Nat.lt_irrefl 0)
    · refine ⟨y, by simp, ?_⟩
      have e := atI_last ys y
      rw [List.concat_eq_append]
      exact e
section
variable {P : Program} {w : World} {K : PySem.W.Frag} {mg : Str → Option Value} {base : Heap} {A : At}
theorem frac_data (K : PySem.W.Frag) (H : Hp) : ∀ (fs : FRow), (∀ f ∈ fs, Frac H f.1 f.2.1 f.2.2 140) → DpAll K H (fs.map fun f => V.ref f.1) (fs.map fun f => PyData.tuple [.int f.2.1, .int f.2.2])
  | [], _ => .nil
  | f :: fs, h => .cons (.tup (SqT.of (h f (List.mem_cons_self)).at') (.cons (.int _) (.cons (.int _) .nil))) (frac_data K H fs fun g hg => h g (List.mem_cons_of_mem _ hg))
theorem frac_lay : ∀ (fs : FRow), PyData.canLayAll0 (fs.map fun f => PyData.tuple [.int f.2.1, .int f.2.2]) = true
  | [] => rfl
  | f :: fs => by
    show (PyData.canLay0 (.tuple [.int f.2.1, .int f.2.2]) && PyData.canLayAll0 (fs.map fun f => PyData.tuple [.int f.2.1, .int f.2.2])) = true
    rw [frac_lay fs]
    rfl
theorem frac_depth : ∀ (fs : FRow), PyData.depthAll (fs.map fun f => PyData.tuple [.int f.2.1, .int f.2.2]) ≤ 1
  | [] => Nat.zero_le 1
  | f :: fs => by
    show max (PyData.depth (.tuple [.int f.2.1, .int f.2.2])) (PyData.depthAll (fs.map fun f => PyData.tuple [.int f.2.1, .int f.2.2])) ≤ 1
    exact Nat.max_le.mpr ⟨Nat.le_refl 1, frac_depth fs⟩
theorem frac_shaped (fs : FRow) : SeqAt.shaped (.list (fs.map fun f => PyData.tuple [.int f.2.1, .int f.2.2])) = true := by
  unfold SeqAt.shaped
  rw [Bool.and_eq_true]
  refine ⟨frac_lay fs, decide_eq_true ?_⟩
  have e := frac_depth fs
  show PyData.depthAll (fs.map fun f => PyData.tuple [.int f.2.1, .int f.2.2]) + 1 ≤ 64
  omega
theorem ok_law (T : Txt K mg A) : FnOk P w K mg base CX0 6 A.a_law A.d_law ["script"] (spLaw K) := by
  have G_law_pool : FnOk P w K mg base CX0 1 A.a_law_pool A.d_law_pool ["script"] (spPool K) := ok_pool T
  have G_law_draw : FnOk P w K mg base CX0 2 A.a_law_draw A.d_law_draw ["pool", "many"] spDraw := ok_draw T
  have G_law_number : FnOk P w K mg base CX0 3 A.a_law_number A.d_law_number ["pool", "most"] spNumber := ok_number T
  have G_law_frac : FnOk P w K mg base CX0 2 A.a_law_frac A.d_law_frac ["top", "bottom"] spFrac := ok_frac T
  have G_law_same : FnOk P w K mg base CX0 2 A.a_law_same A.d_law_same ["actual", "due"] (spSame K 1) := ok_same T 1
  have G_law_plus : FnOk P w K mg base CX0 3 A.a_law_plus A.d_law_plus ["a", "b"] (spLPlus K) := ok_lplus T
  have G_law_times : FnOk P w K mg base CX0 3 A.a_law_times A.d_law_times ["a", "b"] (spLTimes K) := ok_ltimes T
  have G_rest : FnOk P w K mg base CX0 4 A.a_rest A.d_rest ["r"] (spRest K) := ok_rest T
  have G_is_chance : FnOk P w K mg base CX0 1 A.a_is_chance A.d_is_chance ["r"] (spChance K) := ok_chance T
  have G_compare : FnOk P w K mg base CX0 1 A.a_compare A.d_compare ["a", "b"] (spCompare K) := ok_compare T
  have G_plus_all : FnOk P w K mg base CX0 4 A.a_plus_all A.d_plus_all ["ratios"] (spPlusAll K) := ok_plus_all T
  have G_times_all : FnOk P w K mg base CX0 4 A.a_times_all A.d_times_all ["ratios"] (spTimesAll K) := ok_times_all T
  refine T.t_law.F.ok sc_law (fun vs H Q E h => ?_) (fun cdv AA outer s H vs Q E hr h => ?_)
  · obtain ⟨a, ns, rfl, _⟩ := h
    rfl
  · obtain ⟨a, ns, rfl, hS, _, k⟩ := h
    refine ⟨_, (pss_cons (ps_set (i := 1) sc_law.nd rfl (Or.inl rfl) (pe_call G_law_pool (hr.mono (by decide)) rfl T.t_law_pool.g T.t_law_pool.F.kp T.t_law_pool.b .nil pass0 (pa_cons (pv 0) pa_nil)))
      (pss_cons (ps_set (i := 2) sc_law.nd rfl (Or.inl rfl) (pe_lst pa_nil))
      (pss_cons (ps_for PassesOwn.never rfl (pi_range1 rfl T.z_range (pa_cons (pe_call G_law_draw (hr.mono (by decide)) rfl T.t_law_draw.g T.t_law_draw.F.kp T.t_law_draw.b .nil pass0 (pa_cons (pv 1) (pa_cons pe_int pa_nil))) pa_nil)) (pg_name (i := 3) sc_law.nd rfl (Or.inl rfl)) (pss_cons (ps_set (i := 4) sc_law.nd rfl (Or.inl rfl) (pe_call G_law_frac (hr.mono (by decide)) rfl T.t_law_frac.g T.t_law_frac.F.kp T.t_law_frac.b .nil pass0 (pa_cons (pe_op op_sub (pe_call G_law_draw (hr.mono (by decide)) rfl T.t_law_draw.g T.t_law_draw.F.kp T.t_law_draw.b .nil pass0 (pa_cons (pv 1) (pa_cons pe_int pa_nil))) pe_int) (pa_cons (pe_op op_add pe_int (pe_call G_law_draw (hr.mono (by decide)) rfl T.t_law_draw.g T.t_law_draw.F.kp T.t_law_draw.b .nil pass0 (pa_cons (pv 1) (pa_cons pe_int pa_nil)))) pa_nil))))
      (pss_cons (ps_if (pt_cmpR op_eq (pe_call G_law_draw (hr.mono (by decide)) rfl T.t_law_draw.g T.t_law_draw.F.kp T.t_law_draw.b .nil pass0 (pa_cons (pv 1) (pa_cons pe_int pa_nil))) pe_int (nomark _)) (pss_one (ps_set (i := 4) sc_law.nd rfl (Or.inl rfl) (pe_call G_law_frac (hr.mono (by decide)) rfl T.t_law_frac.g T.t_law_frac.F.kp T.t_law_frac.b .nil pass0 (pa_cons (pe_call G_law_number (hr.mono (by decide)) rfl T.t_law_number.g T.t_law_number.F.kp T.t_law_number.b .nil pass0 (pa_cons (pv 1) (pa_cons (pe_op op_pow pe_int pe_int) pa_nil))) (pa_cons (pe_op op_add pe_int (pe_callB call_abs (by rfl) T.z_abs (by decide +kernel) (pa_cons (pe_call G_law_number (hr.mono (by decide)) rfl T.t_law_number.g T.t_law_number.F.kp T.t_law_number.b .nil pass0 (pa_cons (pv 1) (pa_cons (pe_op op_pow pe_int pe_int) pa_nil))) pa_nil))) pa_nil))))) pss_nil)
      (pss_cons (ps_if (PW.pt (pw_and (pt_cmpR op_eq (pe_call G_law_draw (hr.mono (by decide)) rfl T.t_law_draw.g T.t_law_draw.F.kp T.t_law_draw.b .nil pass0 (pa_cons (pv 1) (pa_cons pe_int pa_nil))) pe_int (nomark _)) (pw_and1 (pt_cmpR op_gt (pe_callB call_len_seq (by rfl) T.z_len PySem.boot_len (pa_cons (pv 2) pa_nil)) pe_int (nomark _))))) (pss_one (ps_set (i := 4) sc_law.nd rfl (Or.inl rfl) (pe_ix ix_list (pv 2) (pe_un un_neg pe_int) (fun _ _ => rfl)))) pss_nil)
      (pss_one (ps_expr (pe_bm PySem.F.plainAttrs_list PySem.F.slot_list_append PySem.F.type_list_append mt_append (pv 2) (pa_cons (pv 4) pa_nil))))))))
      (pss_cons (ps_set (i := 5) sc_law.nd rfl (Or.inl rfl) (pe_tup (pa_cons pe_int (pa_cons pe_int pa_nil))))
      (pss_cons (ps_set (i := 6) sc_law.nd rfl (Or.inl rfl) (pe_tup (pa_cons pe_int (pa_cons pe_int pa_nil))))
      (pss_cons (ps_for PassesOwn.never rfl (pi_range1 rfl T.z_range (pa_cons (pe_callB call_len_seq (by rfl) T.z_len PySem.boot_len (pa_cons (pv 2) pa_nil)) pa_nil)) (pg_name (i := 3) sc_law.nd rfl (Or.inl rfl)) (pss_cons (ps_set (i := 4) sc_law.nd rfl (Or.inl rfl) (pe_ix ix_list (pv 2) (pv 3) (fun _ _ => rfl)))
      (pss_cons (ps_set (i := 5) sc_law.nd rfl (Or.inl rfl) (pe_call G_law_plus (hr.mono (by decide)) rfl T.t_law_plus.g T.t_law_plus.F.kp T.t_law_plus.b .nil pass0 (pa_cons (pv 5) (pa_cons (pv 4) pa_nil))))
      (pss_cons (ps_set (i := 6) sc_law.nd rfl (Or.inl rfl) (pe_call G_law_times (hr.mono (by decide)) rfl T.t_law_times.g T.t_law_times.F.kp T.t_law_times.b .nil pass0 (pa_cons (pv 6) (pa_cons (pv 4) pa_nil))))
      (pss_cons (ps_if (pt_not (pt_val (pe_call G_law_same (hr.mono (by decide)) rfl T.t_law_same.g T.t_law_same.F.kp T.t_law_same.b .nil pass0 (pa_cons (pe_call G_rest (hr.mono (by decide)) rfl T.t_rest.g T.t_rest.F.kp T.t_rest.b .nil pass0 (pa_cons (pv 4) pa_nil)) (pa_cons (pe_call G_law_plus (hr.mono (by decide)) rfl T.t_law_plus.g T.t_law_plus.F.kp T.t_law_plus.b .nil pass0 (pa_cons (pe_tup (pa_cons pe_int (pa_cons pe_int pa_nil))) (pa_cons (pe_tup (pa_cons (pe_un un_neg (pe_ix ix_tup (pv 4) pe_int (fun _ _ => rfl))) (pa_cons (pe_ix ix_tup (pv 4) pe_int (fun _ _ => rfl)) pa_nil))) pa_nil))) pa_nil))))) (pss_one (ps_ret pe_bl)) pss_nil)
      (pss_cons (ps_if (pt_not (pt_val (pe_call G_law_same (hr.mono (by decide)) rfl T.t_law_same.g T.t_law_same.F.kp T.t_law_same.b .nil pass0 (pa_cons (pe_call G_is_chance (hr.mono (by decide)) rfl T.t_is_chance.g T.t_is_chance.F.kp T.t_is_chance.b .nil pass0 (pa_cons (pv 4) pa_nil)) (pa_cons (pe_and (pe_cmpR op_ge (pe_ix ix_tup (pv 4) pe_int (fun _ _ => rfl)) pe_int (nomark _)) (pe_one (pe_cmpR op_le (pe_ix ix_tup (pv 4) pe_int (fun _ _ => rfl)) (pe_ix ix_tup (pv 4) pe_int (fun _ _ => rfl)) (nomark _)))) pa_nil))))) (pss_one (ps_ret pe_bl)) pss_nil)
      (pss_cons (ps_set (i := 7) sc_law.nd rfl (Or.inl rfl) (pe_ix ix_list (pv 2) (pe_op op_sub (pv 3) pe_int) (fun _ _ => rfl)))
      (pss_cons (ps_set (i := 8) sc_law.nd rfl (Or.inl rfl) (pe_op op_sub (pe_op op_mulW (pe_ix ix_tup (pv 4) pe_int (fun _ _ => rfl)) (pe_ix ix_tup (pv 7) pe_int (fun _ _ => rfl))) (pe_op op_mulW (pe_ix ix_tup (pv 7) pe_int (fun _ _ => rfl)) (pe_ix ix_tup (pv 4) pe_int (fun _ _ => rfl)))))
      (pss_cons (ps_set (i := 9) sc_law.nd rfl (Or.inl rfl) pe_int)
      (pss_cons (ps_if (pt_cmpR op_ne (pv 8) pe_int (nomark _)) (pss_one (ps_set (i := 9) sc_law.nd rfl (Or.inl rfl) (pe_ifExp (pt_cmpR op_gt (pv 8) pe_int (nomark _)) pe_int (pe_un un_neg pe_int)))) pss_nil)
      (pss_one (ps_if (pt_not (pt_val (pe_call G_law_same (hr.mono (by decide)) rfl T.t_law_same.g T.t_law_same.F.kp T.t_law_same.b .nil pass0 (pa_cons (pe_call G_compare (hr.mono (by decide)) rfl T.t_compare.g T.t_compare.F.kp T.t_compare.b .nil pass0 (pa_cons (pv 4) (pa_cons (pv 7) pa_nil))) (pa_cons (pv 9) pa_nil))))) (pss_one (ps_ret pe_bl)) pss_nil))))))))))))
      (pss_cons (ps_set (i := 10) sc_law.nd rfl (Or.inl rfl) (pe_callTy call_list_of (by rfl) T.z_list PyProof.Rows.boot_list (pa_cons (pv 2) pa_nil)))
      (pss_one (ps_ret (pe_and (pe_call G_law_same (hr.mono (by decide)) rfl T.t_law_same.g T.t_law_same.F.kp T.t_law_same.b .nil pass0 (pa_cons (pe_call G_plus_all (hr.mono (by decide)) rfl T.t_plus_all.g T.t_plus_all.F.kp T.t_plus_all.b .nil pass0 (pa_cons (pv 2) pa_nil)) (pa_cons (pv 5) pa_nil))) (pe_and (pe_call G_law_same (hr.mono (by decide)) rfl T.t_law_same.g T.t_law_same.F.kp T.t_law_same.b .nil pass0 (pa_cons (pe_call G_times_all (hr.mono (by decide)) rfl T.t_times_all.g T.t_times_all.F.kp T.t_times_all.b .nil pass0 (pa_cons (pv 2) pa_nil)) (pa_cons (pv 6) pa_nil))) (pe_one (pe_cmpR (op_eqD hr.units) (pv 2) (pv 10) (nomark _)))))))))))))), ?_⟩
    have e140 : ∀ v : Int, v.natAbs < ((10 : Int) ^ (40 : Int).toNat).natAbs → v.natAbs < 2 ^ 139 := fun v h => Nat.lt_trans h (by decide +kernel)
    have lt8 : ∀ {v : Int}, v.natAbs < 2 ^ 140 → v.natAbs < 2 ^ 8000 := fun h => big_lt h (by decide)
    -- pool, row
    refine ⟨_, rfl, a, ns, rfl, hS, fun p l H1 P1 _ _ _ => ?_⟩
    refine ⟨Nat.zero_le _, fun r nr => ?_⟩
    have R0 : Row1 (upd H1 r (.lst [])) p l r [] := ⟨upd_same, fun f hf => (by cases hf), P1.same (same_upd nr), P1.free nr, P1.free2 nr⟩
    refine ⟨_, rfl, p, l, 8, rfl, R0.pool, ⟨by decide, by decide⟩, fun v H3 v0 v1 P3 B3 => ⟨v, rfl, by omega, by omega, ?_⟩⟩
    have R1 := R0.but B3 P3
    refine for_range (n := v.toNat) (fun i σ H2 => ∃ (fs : FRow) (v3 v4 : Option V), fs.length = i ∧ σ = [some (.ref a), some (.ref p), some (.ref r), v3, v4, none, none, none, none, none, none] ∧ Row1 H2 p l r fs)
      ⟨[], none, none, rfl, rfl, R1⟩ ?_ ?_
    · rintro i σ H2 hi ⟨fs, v3, v4, hfs, rfl, R2⟩
      -- one
      refine ⟨_, rfl, p, l, 25, rfl, R2.pool, ⟨by decide, by decide⟩, fun u1 H4 u10 u11 P4 B4 => ⟨_, _, rfl, rfl, ?_⟩⟩
      have R4 := R2.but B4 P4
      refine ⟨_, rfl, p, l, 12, rfl, P4, ⟨by decide, by decide⟩, fun u2 H5 u20 u21 P5 B5 => ⟨_, _, rfl, rfl, ?_⟩⟩
      have R5 := R4.but B5 P5
      have c1 : (u1 - 8).natAbs < 2 ^ 140 := by omega
      have c2 : (1 + u2).natAbs < 2 ^ 140 := by omega
      have c3 : 1 + u2 ≠ 0 := by omega
      refine ⟨_, _, rfl, ⟨lt8 c1, lt8 c2⟩, c3, fun q nq => ?_⟩
      have F6 := Frac.of (H := H5) (p := q) c3 c1 c2
      have R6 := R5.same (same_upd (o := .tup [.int (rtop (u1 - 8) (1 + u2)), .int (rbot (u1 - 8) (1 + u2))]) nq)
      dsimp only [gName]
      refine seq_then (fun σ' H' => ∃ (q : Addr) (t b : Int) (v3 : Option V), σ' = [some (.ref a), some (.ref p), some (.ref r), v3, some (.ref q), none, none, none, none, none, none] ∧ Row1 H' p l r fs ∧ Frac H' q t b 140) ?_ (fun N hN => ?_)
      · rintro σ' H7 ⟨q, t, b, v3, rfl, R7, F7⟩
        refine seq_then (fun σ' H' => ∃ (q : Addr) (t b : Int) (v3 : Option V), σ' = [some (.ref a), some (.ref p), some (.ref r), v3, some (.ref q), none, none, none, none, none, none] ∧ Row1 H' p l r fs ∧ Frac H' q t b 140) ?_ (fun N hN => ?_)
        · rintro σ' H8 ⟨q, t, b, v3, rfl, R8, F8⟩
          refine ⟨_, rfl, .inl ⟨rfl, _, SqL.of R8.row⟩, _, rfl, r, _, _, rfl, rfl, R8.row, ?_, ?_⟩
          · rw [List.length_map]
            exact small1000 (by omega)
          · refine ⟨fs ++ [(q, t, b)], _, _, ?_, rfl, R8.add F8⟩
            rw [List.length_append, hfs]
            rfl
        · refine ⟨_, rfl, p, l, 5, rfl, R7.pool, ⟨by decide, by decide⟩, fun u5 H8 _ _ P8 B8 => ⟨rfl, _, rfl, ite2 (fun _ => ?_) (fun _ => ?_)⟩⟩
          · have R8 := R7.but B8 P8
            have F8 := F7.but B8 (R7.pool.ne F7.at')
            refine ⟨_, rfl, r, _, rfl, .inl (SqL.of R8.row), _, _, rfl, rfl, _, rfl, ite2 (fun hg => ?_) (fun _ => ?_)⟩
            · have hg : (0 : Int) < ((fs.map fun f => V.ref f.1).length : Int) := of_decide_eq_true hg
              rw [List.length_map] at hg
              rcases List.eq_nil_or_concat fs with rfl | ⟨gs, f, rfl⟩
              · exact absurd hg (by decide)
              · refine ⟨_, rfl, _, rfl, r, _, _, _, rfl, rfl, SqL.of R8.row, (by rw [List.concat_eq_append, List.map_append]; exact atI_last _ _), ?_⟩
                exact hN _ _ ⟨f.1, f.2.1, f.2.2, _, rfl, R8, R8.all f (by simp)⟩
            · exact hN _ _ ⟨q, t, b, _, rfl, R8, F8⟩
          · exact iteF (hN _ _ ⟨q, t, b, _, rfl, R7.but B8 P8, F7.but B8 (R7.pool.ne F7.at')⟩)
      · refine ⟨_, rfl, p, l, 5, rfl, R6.pool, ⟨by decide, by decide⟩, fun u5 H8 _ _ P8 B8 => ⟨rfl, _, rfl, ite2 (fun _ => ?_) (fun _ => ?_)⟩⟩
        · have R8 := R6.but B8 P8
          refine ⟨_, rfl, _, _, rfl, rfl, ⟨by decide, by decide, by decide⟩, p, l, _, rfl, P8, by decide +kernel, fun z1 H9 hz1 P9 B9 => ?_⟩
          refine ⟨_, rfl, _, _, rfl, rfl, ⟨by decide, by decide, by decide⟩, p, l, _, rfl, P9, by decide +kernel, fun z2 H10 hz2 P10 B10 => ⟨_, rfl, _, _, rfl, rfl, ?_⟩⟩
          rw [abs_nat]
          have hz1 := e140 _ hz1
          have hz2 := e140 _ hz2
          have d0 : (1 + (z2.natAbs : Int)) ≠ 0 := by omega
          have d1 : (1 + (z2.natAbs : Int)).natAbs < 2 ^ 140 := by omega
          have e1 : z1.natAbs < 2 ^ 140 := by omega
          have R10 := R8.but (B9.trans B10) P10
          refine ⟨z1, _, rfl, ⟨lt8 e1, lt8 d1⟩, d0, fun q2 n2 => ?_⟩
          exact hN _ _ ⟨q2, _, _, _, rfl, R10.same (same_upd n2), Frac.of d0 e1 d1⟩
        · exact hN _ _ ⟨q, _, _, _, rfl, R6.but B8 P8, F6.but B8 (R6.pool.ne F6.at')⟩
    · rintro σ H2 ⟨fs, v3, v4, hfs, rfl, R2⟩
      have hlen : fs.length ≤ 7 := by omega
      have A2 : RowAt K H2 r fs := ⟨SqL.of R2.row, R2.all⟩
      refine ⟨(by show 2 ≤ sizeLine; decide), fun q1 n1 => ?_⟩
      have s1 := same_upd (o := .tup [.int 0, .int 1]) n1
      refine ⟨(by show 2 ≤ sizeLine; decide), fun q2 n2 => ?_⟩
      have s2 := same_upd (o := .tup [.int 1, .int 1]) n2
      have s12 := s1.trans s2
      refine ⟨_, rfl, r, _, rfl, .inl (A2.same s12).lst, ((fs.map fun f => V.ref f.1).length : Int), rfl, (by rw [List.length_map]; omega), (by rw [List.length_map]; omega), ?_⟩
      refine for_range (n := (((fs.map fun f => V.ref f.1).length : Nat) : Int).toNat) (fun i σ H3 => ∃ (qt qw : Addr) (v3 v4 v7 v8 v9 : Option V), σ = [some (.ref a), some (.ref p), some (.ref r), v3, v4, some (.ref qt), some (.ref qw), v7, v8, v9, none] ∧ Same H2 H3 ∧
          RatAt K H3 qt (psum (fs.take i)).1 (psum (fs.take i)).2 ∧ RatAt K H3 qw (pprod (fs.take i)).1 (pprod (fs.take i)).2)
        ⟨q1, q2, v3, v4, none, none, none, rfl, s12, SqT.of (s2 _ _ upd_same), SqT.of upd_same⟩ ?_ ?_
      · rintro i σ H3 hi ⟨qt, qw, w3, w4, w7, w8, w9, rfl, s3, ht, hw⟩
        have hi : i < fs.length := by rw [List.length_map] at hi; omega
        have ef := List.getElem?_eq_getElem hi
        have A3 := A2.same s3
        have F3 := A3.all _ (mem_at ef)
        generalize fs[i] = f at ef F3
        -- one
        refine ⟨_, rfl, _, rfl, r, _, _, .ref f.1, rfl, rfl, A3.lst, (by rw [Int.zero_add]; refine atI_nat ?_; rw [List.getElem?_map, ef]; rfl), ?_⟩
        obtain ⟨a1, a2, a3⟩ := (psum_lim A3.lims i (Nat.le_of_lt hi)).small (by omega)
        obtain ⟨m1, m2, m3⟩ := (pprod_lim A3.lims i (Nat.le_of_lt hi)).small (by omega)
        obtain ⟨b1, b2, b3⟩ := F3.lim.small (by decide)
        -- total, whole
        refine ⟨_, rfl, _, rfl, qt, f.1, _, _, f.2.1, f.2.2, rfl, ⟨ht, SqT.of F3.at'⟩, ⟨a1, a2, b1, b2⟩, ⟨a3, b3⟩, fun t1 nt1 => ?_⟩
        have s4 := s3.trans (same_upd (o := .tup [.int (rtop ((psum (fs.take i)).1 * f.2.2 + f.2.1 * (psum (fs.take i)).2) ((psum (fs.take i)).2 * f.2.2)), .int (rbot ((psum (fs.take i)).1 * f.2.2 + f.2.1 * (psum (fs.take i)).2) ((psum (fs.take i)).2 * f.2.2))]) nt1)
        have x4 := same_upd (o := .tup [.int (rtop ((psum (fs.take i)).1 * f.2.2 + f.2.1 * (psum (fs.take i)).2) ((psum (fs.take i)).2 * f.2.2)), .int (rbot ((psum (fs.take i)).1 * f.2.2 + f.2.1 * (psum (fs.take i)).2) ((psum (fs.take i)).2 * f.2.2))]) nt1
        have ht4 : RatAt K (upd H3 t1 (.tup [.int (rtop ((psum (fs.take i)).1 * f.2.2 + f.2.1 * (psum (fs.take i)).2) ((psum (fs.take i)).2 * f.2.2)), .int (rbot ((psum (fs.take i)).1 * f.2.2 + f.2.1 * (psum (fs.take i)).2) ((psum (fs.take i)).2 * f.2.2))])) t1 (psum (fs.take (i + 1))).1 (psum (fs.take (i + 1))).2 := by
          rw [psum_more ef]
          exact SqT.of upd_same
        generalize upd H3 t1 (.tup [.int (rtop ((psum (fs.take i)).1 * f.2.2 + f.2.1 * (psum (fs.take i)).2) ((psum (fs.take i)).2 * f.2.2)), .int (rbot ((psum (fs.take i)).1 * f.2.2 + f.2.1 * (psum (fs.take i)).2) ((psum (fs.take i)).2 * f.2.2))]) = H4 at s4 x4 ht4 ⊢
        have F4 := F3.same x4
        refine ⟨_, rfl, _, rfl, qw, f.1, _, _, f.2.1, f.2.2, rfl, ⟨Same.tup x4 hw, SqT.of F4.at'⟩, ⟨m1, m2, b1, b2⟩, ⟨m3, b3⟩, fun t2 nt2 => ?_⟩
        have x5 := same_upd (o := .tup [.int (rtop ((pprod (fs.take i)).1 * f.2.1) ((pprod (fs.take i)).2 * f.2.2)), .int (rbot ((pprod (fs.take i)).1 * f.2.1) ((pprod (fs.take i)).2 * f.2.2))]) nt2
        have hw5 : RatAt K (upd H4 t2 (.tup [.int (rtop ((pprod (fs.take i)).1 * f.2.1) ((pprod (fs.take i)).2 * f.2.2)), .int (rbot ((pprod (fs.take i)).1 * f.2.1) ((pprod (fs.take i)).2 * f.2.2))])) t2 (pprod (fs.take (i + 1))).1 (pprod (fs.take (i + 1))).2 := by
          rw [pprod_more ef]
          exact SqT.of upd_same
        have ht5 := Same.tup x5 ht4
        have s5 := s4.trans x5
        have F5 := F4.same x5
        generalize upd H4 t2 (.tup [.int (rtop ((pprod (fs.take i)).1 * f.2.1) ((pprod (fs.take i)).2 * f.2.2)), .int (rbot ((pprod (fs.take i)).1 * f.2.1) ((pprod (fs.take i)).2 * f.2.2))]) = H5 at s5 ht5 hw5 F5 ⊢
        -- rest
        refine ⟨_, rfl, f.1, f.2.1, f.2.2, rfl, SqT.of F5.at', ⟨b1, b2⟩, b3, fun r1 nr1 => ?_⟩
        have x6 := same_upd (o := .tup [.int (rtop (1 * f.2.2 - f.2.1 * 1) (1 * f.2.2)), .int (rbot (1 * f.2.2 - f.2.1 * 1) (1 * f.2.2))]) nr1
        have hr6 : SqT K (upd H5 r1 (.tup [.int (rtop (1 * f.2.2 - f.2.1 * 1) (1 * f.2.2)), .int (rbot (1 * f.2.2 - f.2.1 * 1) (1 * f.2.2))])) r1 [.int (rtop (1 * f.2.2 - f.2.1 * 1) (1 * f.2.2)), .int (rbot (1 * f.2.2 - f.2.1 * 1) (1 * f.2.2))] := SqT.of upd_same
        generalize upd H5 r1 (.tup [.int (rtop (1 * f.2.2 - f.2.1 * 1) (1 * f.2.2)), .int (rbot (1 * f.2.2 - f.2.1 * 1) (1 * f.2.2))]) = H6 at x6 hr6 ⊢
        have F6 := F5.same x6
        refine ⟨(by show 2 ≤ sizeLine; decide), fun r2 nr2 => ?_⟩
        have x7 := same_upd (o := .tup [.int 1, .int 1]) nr2
        refine ⟨_, rfl, f.1, _, 0, _, rfl, rfl, SqT.of (F6.same x7).at', rfl, _, rfl, _, rfl, f.1, _, 1, _, rfl, rfl, SqT.of (F6.same x7).at', rfl, (by show 2 ≤ sizeLine; decide), fun r3 nr3 => ?_⟩
        have x8 := same_upd (o := .tup [.int (-f.2.1), .int f.2.2]) nr3
        have one_small : small 1 := by show (1 : Int).natAbs < 2 ^ 3000; exact Nat.one_lt_two_pow (by decide)
        refine ⟨r2, r3, 1, 1, -f.2.1, f.2.2, rfl, ⟨SqT.of (x8 _ _ upd_same), SqT.of upd_same⟩, ⟨one_small, one_small, (by show (-f.2.1).natAbs < 2 ^ 3000; rw [Int.natAbs_neg]; exact b1), b2⟩, ⟨by decide, b3⟩, fun r4 nr4 => ?_⟩
        have em : 1 * f.2.2 + -f.2.1 * 1 = 1 * f.2.2 - f.2.1 * 1 := by omega
        rw [em]
        have x9 := same_upd (o := .tup [.int (rtop (1 * f.2.2 - f.2.1 * 1) (1 * f.2.2)), .int (rbot (1 * f.2.2 - f.2.1 * 1) (1 * f.2.2))]) nr4
        have x69 := x7.trans (x8.trans x9)
        refine ⟨_, _, rfl, Dat.ints (ns := [_, _]) (Same.tup x69 hr6) (SqT.of upd_same) (by show 2 < 2 ^ 60; decide), true, rfl, iteF ?_⟩
        have x59 := x6.trans x69
        have F9 := F5.same x59
        have s9 := s5.trans x59
        have ht9 := Same.tup x59 ht5
        have hw9 := Same.tup x59 hw5
        generalize upd (upd (upd H6 r2 (.tup [.int 1, .int 1])) r3 (.tup [.int (-f.2.1), .int f.2.2])) r4 (.tup [.int (rtop (1 * f.2.2 - f.2.1 * 1) (1 * f.2.2)), .int (rbot (1 * f.2.2 - f.2.1 * 1) (1 * f.2.2))]) = H9 at F9 s9 ht9 hw9 ⊢
        -- is_chance
        refine ⟨_, rfl, f.1, f.2.1, f.2.2, rfl, SqT.of F9.at', ?_⟩
        refine ⟨_, rfl, f.1, _, 0, _, rfl, rfl, SqT.of F9.at', rfl, _, _, rfl, rfl, _, rfl, ?_⟩
        have A9 := A2.same s9
        have after : ∀ (c : Bool), c = (decide (0 ≤ f.2.1) && decide (f.2.1 ≤ f.2.2)) → Dat K H9 1 (.bl (decide (0 ≤ f.2.1) && decide (f.2.1 ≤ f.2.2))) (.bl c) := fun c e => by rw [e]; exact Dat.bl K H9 1 _
        obtain ⟨y, hy, ey⟩ := at_prev (xs := fs.map fun f => V.ref f.1) (i := i) (by rw [List.length_map]; exact hi)
        obtain ⟨g, hg, rfl⟩ := List.mem_map.mp hy
        have Fg := A9.all g hg
        obtain ⟨g1, g2, g3⟩ := Fg.lim.small (by decide)
        refine ite2 (fun h1 => ?_) (fun h1 => ?_)
        · have h1 : (0 : Int) ≤ f.2.1 := of_decide_eq_true h1
          refine ⟨_, rfl, f.1, _, 0, _, rfl, rfl, SqT.of F9.at', rfl, _, rfl, f.1, _, 1, _, rfl, rfl, SqT.of F9.at', rfl, _, _, rfl, rfl, ?_⟩
          refine ⟨_, _, rfl, after _ (by rw [decide_eq_true h1, Bool.true_and]), true, rfl, iteF ?_⟩
          -- compare
          refine ⟨_, rfl, _, rfl, _, _, rfl, rfl, r, _, _, _, rfl, rfl, A9.lst, (by rw [Int.zero_add]; exact ey), ?_⟩
          refine ⟨_, rfl, f.1, _, 0, _, rfl, rfl, SqT.of F9.at', rfl, _, rfl, g.1, _, 1, _, rfl, rfl, SqT.of Fg.at', rfl, _, _, rfl, rfl, (small_mul b1 g2).1, ?_⟩
          refine ⟨_, rfl, g.1, _, 0, _, rfl, rfl, SqT.of Fg.at', rfl, _, rfl, f.1, _, 1, _, rfl, rfl, SqT.of F9.at', rfl, _, _, rfl, rfl, (small_mul g1 b2).1, _, _, rfl, rfl, ?_⟩
          dsimp only [gName]
          refine seq_const ?_
          refine seq_then (fun σ' H' => H' = H9 ∧ ∃ (w8 : Option V), σ' = [some (.ref a), some (.ref p), some (.ref r), some (.int (0 + (i : Int))), some (.ref f.1), some (.ref t1), some (.ref t2), some (.ref g.1), w8, some (.int (cmp3 (f.2.1 * g.2.2) (g.2.1 * f.2.2))), none]) ?_ (fun N hN => ?_)
          · rintro σ' H' ⟨rfl, w8, rfl⟩
            refine ⟨_, rfl, _, rfl, f.1, g.1, f.2.1, f.2.2, g.2.1, g.2.2, rfl, ⟨SqT.of F9.at', SqT.of Fg.at'⟩, ⟨b1, b2, g1, g2⟩, ?_⟩
            refine ⟨_, rfl, _, _, rfl, Dat.int K _ 1 _, true, rfl, iteF ?_⟩
            exact ⟨t1, t2, _, _, _, _, _, rfl, s9, ht9, hw9⟩
          · refine ⟨_, rfl, rfl, _, rfl, ite2 (fun hz => ?_) (fun hz => ?_)⟩
            · refine ⟨_, rfl, _, _, rfl, rfl, _, rfl, ite2 (fun hp => ?_) (fun hp => ?_)⟩
              · have hp : 0 < f.2.1 * g.2.2 - g.2.1 * f.2.2 := of_decide_eq_true hp
                refine hN _ _ ⟨rfl, some (.int (f.2.1 * g.2.2 - g.2.1 * f.2.2)), ?_⟩
                rw [show cmp3 (f.2.1 * g.2.2) (g.2.1 * f.2.2) = 1 by unfold cmp3; rw [if_neg (by omega), if_pos (by omega)]]
                rfl
              · have hp : ¬ 0 < f.2.1 * g.2.2 - g.2.1 * f.2.2 := fun z => hp (decide_eq_true z)
                have hz : f.2.1 * g.2.2 - g.2.1 * f.2.2 ≠ 0 := fun z => by
                  have hz : (!decide (V.int (f.2.1 * g.2.2 - g.2.1 * f.2.2) = V.int 0)) = true := hz
                  rw [z] at hz
                  exact absurd hz (by decide)
                refine ⟨_, rfl, hN _ _ ⟨rfl, some (.int (f.2.1 * g.2.2 - g.2.1 * f.2.2)), ?_⟩⟩
                rw [show cmp3 (f.2.1 * g.2.2) (g.2.1 * f.2.2) = -1 by unfold cmp3; rw [if_pos (by omega)]]
                rfl
            · have hz : f.2.1 * g.2.2 - g.2.1 * f.2.2 = 0 := Decidable.byContradiction fun z => hz (by
                show (!decide (V.int (f.2.1 * g.2.2 - g.2.1 * f.2.2) = V.int 0)) = true
                rw [decide_eq_false (fun e => z (V.int.inj e))]
                rfl)
              refine hN _ _ ⟨rfl, some (.int (f.2.1 * g.2.2 - g.2.1 * f.2.2)), ?_⟩
              rw [show cmp3 (f.2.1 * g.2.2) (g.2.1 * f.2.2) = 0 by unfold cmp3; rw [if_neg (by omega), if_neg (by omega)]]
              rfl
        · have h1 : ¬ (0 : Int) ≤ f.2.1 := fun z => h1 (decide_eq_true z)
          refine ⟨_, _, rfl, after _ (by rw [decide_eq_false h1, Bool.false_and]), true, rfl, iteF ?_⟩
          -- compare
          refine ⟨_, rfl, _, rfl, _, _, rfl, rfl, r, _, _, _, rfl, rfl, A9.lst, (by rw [Int.zero_add]; exact ey), ?_⟩
          refine ⟨_, rfl, f.1, _, 0, _, rfl, rfl, SqT.of F9.at', rfl, _, rfl, g.1, _, 1, _, rfl, rfl, SqT.of Fg.at', rfl, _, _, rfl, rfl, (small_mul b1 g2).1, ?_⟩
          refine ⟨_, rfl, g.1, _, 0, _, rfl, rfl, SqT.of Fg.at', rfl, _, rfl, f.1, _, 1, _, rfl, rfl, SqT.of F9.at', rfl, _, _, rfl, rfl, (small_mul g1 b2).1, _, _, rfl, rfl, ?_⟩
          dsimp only [gName]
          refine seq_const ?_
          refine seq_then (fun σ' H' => H' = H9 ∧ ∃ (w8 : Option V), σ' = [some (.ref a), some (.ref p), some (.ref r), some (.int (0 + (i : Int))), some (.ref f.1), some (.ref t1), some (.ref t2), some (.ref g.1), w8, some (.int (cmp3 (f.2.1 * g.2.2) (g.2.1 * f.2.2))), none]) ?_ (fun N hN => ?_)
          · rintro σ' H' ⟨rfl, w8, rfl⟩
            refine ⟨_, rfl, _, rfl, f.1, g.1, f.2.1, f.2.2, g.2.1, g.2.2, rfl, ⟨SqT.of F9.at', SqT.of Fg.at'⟩, ⟨b1, b2, g1, g2⟩, ?_⟩
            refine ⟨_, rfl, _, _, rfl, Dat.int K _ 1 _, true, rfl, iteF ?_⟩
            exact ⟨t1, t2, _, _, _, _, _, rfl, s9, ht9, hw9⟩
          · refine ⟨_, rfl, rfl, _, rfl, ite2 (fun hz => ?_) (fun hz => ?_)⟩
            · refine ⟨_, rfl, _, _, rfl, rfl, _, rfl, ite2 (fun hp => ?_) (fun hp => ?_)⟩
              · have hp : 0 < f.2.1 * g.2.2 - g.2.1 * f.2.2 := of_decide_eq_true hp
                refine hN _ _ ⟨rfl, some (.int (f.2.1 * g.2.2 - g.2.1 * f.2.2)), ?_⟩
                rw [show cmp3 (f.2.1 * g.2.2) (g.2.1 * f.2.2) = 1 by unfold cmp3; rw [if_neg (by omega), if_pos (by omega)]]
                rfl
              · have hp : ¬ 0 < f.2.1 * g.2.2 - g.2.1 * f.2.2 := fun z => hp (decide_eq_true z)
                have hz : f.2.1 * g.2.2 - g.2.1 * f.2.2 ≠ 0 := fun z => by
                  have hz : (!decide (V.int (f.2.1 * g.2.2 - g.2.1 * f.2.2) = V.int 0)) = true := hz
                  rw [z] at hz
                  exact absurd hz (by decide)
                refine ⟨_, rfl, hN _ _ ⟨rfl, some (.int (f.2.1 * g.2.2 - g.2.1 * f.2.2)), ?_⟩⟩
                rw [show cmp3 (f.2.1 * g.2.2) (g.2.1 * f.2.2) = -1 by unfold cmp3; rw [if_pos (by omega)]]
                rfl
            · have hz : f.2.1 * g.2.2 - g.2.1 * f.2.2 = 0 := Decidable.byContradiction fun z => hz (by
                show (!decide (V.int (f.2.1 * g.2.2 - g.2.1 * f.2.2) = V.int 0)) = true
                rw [decide_eq_false (fun e => z (V.int.inj e))]
                rfl)
              refine hN _ _ ⟨rfl, some (.int (f.2.1 * g.2.2 - g.2.1 * f.2.2)), ?_⟩
              rw [show cmp3 (f.2.1 * g.2.2) (g.2.1 * f.2.2) = 0 by unfold cmp3; rw [if_neg (by omega), if_neg (by omega)]]
              rfl
      · rintro σ H3 ⟨qt, qw, w3, w4, w7, w8, w9, rfl, s3, ht, hw⟩
        have A3 := A2.same s3
        have en : (((fs.map fun f => V.ref f.1).length : Nat) : Int).toNat = fs.length := by rw [List.length_map]; omega
        rw [en, List.take_length] at ht hw
        -- kept
        refine ⟨_, rfl, r, _, rfl, .inl A3.lst, fun kp nk => ?_⟩
        have x4 := same_upd (o := .lst (fs.map fun f => V.ref f.1)) nk
        have A4 := A3.same x4
        have K4 : SqL K (upd H3 kp (.lst (fs.map fun f => V.ref f.1))) kp (fs.map fun f => V.ref f.1) := SqL.of upd_same
        have ht4 := Same.tup x4 ht
        have hw4 := Same.tup x4 hw
        refine ⟨_, rfl, r, fs, rfl, A4, by omega, fun q5 H5 x5 hq5 => ?_⟩
        refine ⟨_, rfl, _, _, rfl, Dat.ints (ns := [_, _]) hq5 (Same.tup x5 ht4) (by show 2 < 2 ^ 60; decide), true, rfl, iteT ?_⟩
        refine ⟨_, rfl, r, fs, rfl, A4.same x5, by omega, fun q6 H6 x6 hq6 => ?_⟩
        refine ⟨_, rfl, _, _, rfl, Dat.ints (ns := [_, _]) hq6 (Same.tup (x5.trans x6) hw4) (by show 2 < 2 ^ 60; decide), true, rfl, iteT ?_⟩
        have A6 := A4.same (x5.trans x6)
        have K6 := (x5.trans x6).seq K4
        refine ⟨_, rfl, _, rfl, _, _, .lst A6.lst (frac_data K H6 fs A6.all), .lst K6 (frac_data K H6 fs A6.all), frac_shaped fs, frac_shaped fs, ?_⟩
        rw [SeqAt.eqv_refl _ (SeqAt.canLay_of_shaped (frac_shaped fs))]
        exact k _
end
/-! the end -/
theorem all_mk {K : PySem.W.Frag} {h : Heap} {mg : Str → Option Value} {fa : Addr} (X : K.In h) (G : h.Ns mainGlobals mg) (hfa : mg "law" = some (.ref fa))
    {f0 f1 f2 f3 f4 f5 f6 f7 f8 f9 f10 f11 f12 f13 f14 f15 f16 f17 f18 COddsError CZeroDivisor : Addr} {od0 an0 od1 an1 od2 an2 od3 an3 od4 an4 od5 an5 od6 an6 od7 an7 od8 an8 od9 an9 od10 an10 od11 an11 od12 an12 od13 an13 od14 an14 od15 an15 od16 an16 od17 an17 od18 an18 : Option Addr} {sl0 sl1 sl2 sl3 sl4 sl5 sl6 sl7 sl8 sl9 sl10 sl11 sl12 sl13 sl14 sl15 sl16 sl17 sl18 : Array (Option Value)} {oc0 kV0 dc0 pm0 cd0 ct0 oc1 kV1 dc1 pm1 cd1 ct1 oc2 kV2 dc2 pm2 cd2 ct2 oc3 kV3 dc3 pm3 cd3 ct3 oc4 kV4 dc4 pm4 cd4 ct4 oc5 kV5 dc5 pm5 cd5 ct5 oc6 kV6 dc6 pm6 cd6 ct6 oc7 kV7 dc7 pm7 cd7 ct7 oc8 kV8 dc8 pm8 cd8 ct8 oc9 kV9 dc9 pm9 cd9 ct9 oc10 kV10 dc10 pm10 cd10 ct10 oc11 kV11 dc11 pm11 cd11 ct11 oc12 kV12 dc12 pm12 cd12 ct12 oc13 kV13 dc13 pm13 cd13 ct13 oc14 kV14 dc14 pm14 cd14 ct14 oc15 kV15 dc15 pm15 cd15 ct15 oc16 kV16 dc16 pm16 cd16 ct16 oc17 kV17 dc17 pm17 cd17 ct17 oc18 kV18 dc18 pm18 cd18 ct18 : Value}
    (a0 : PySem.W.nsIn K mainGlobals "ratio" = some (some (.ref f0))) (l0 : K.lookup f0 = some ⟨oc0, od0, .func (PySem.W.fnOf "ratio" "ratio" (defArgs s_ratio) (defBody s_ratio) (defScope s_ratio) .none kV0 dc0 pm0 an0 cd0 ct0), sl0⟩) (c0 : PySem.W.codeIn K cd0 "ratio" = true) (k0 : PySem.W.keepIn K (.ref f0) = true)
    (a1 : PySem.W.nsIn K mainGlobals "plus" = some (some (.ref f1))) (l1 : K.lookup f1 = some ⟨oc1, od1, .func (PySem.W.fnOf "plus" "plus" (defArgs s_plus) (defBody s_plus) (defScope s_plus) .none kV1 dc1 pm1 an1 cd1 ct1), sl1⟩) (c1 : PySem.W.codeIn K cd1 "plus" = true) (k1 : PySem.W.keepIn K (.ref f1) = true)
    (a2 : PySem.W.nsIn K mainGlobals "minus" = some (some (.ref f2))) (l2 : K.lookup f2 = some ⟨oc2, od2, .func (PySem.W.fnOf "minus" "minus" (defArgs s_minus) (defBody s_minus) (defScope s_minus) .none kV2 dc2 pm2 an2 cd2 ct2), sl2⟩) (c2 : PySem.W.codeIn K cd2 "minus" = true) (k2 : PySem.W.keepIn K (.ref f2) = true)
    (a3 : PySem.W.nsIn K mainGlobals "times" = some (some (.ref f3))) (l3 : K.lookup f3 = some ⟨oc3, od3, .func (PySem.W.fnOf "times" "times" (defArgs s_times) (defBody s_times) (defScope s_times) .none kV3 dc3 pm3 an3 cd3 ct3), sl3⟩) (c3 : PySem.W.codeIn K cd3 "times" = true) (k3 : PySem.W.keepIn K (.ref f3) = true)
    (a4 : PySem.W.nsIn K mainGlobals "compare" = some (some (.ref f4))) (l4 : K.lookup f4 = some ⟨oc4, od4, .func (PySem.W.fnOf "compare" "compare" (defArgs s_compare) (defBody s_compare) (defScope s_compare) .none kV4 dc4 pm4 an4 cd4 ct4), sl4⟩) (c4 : PySem.W.codeIn K cd4 "compare" = true) (k4 : PySem.W.keepIn K (.ref f4) = true)
    (a5 : PySem.W.nsIn K mainGlobals "plus_all" = some (some (.ref f5))) (l5 : K.lookup f5 = some ⟨oc5, od5, .func (PySem.W.fnOf "plus_all" "plus_all" (defArgs s_plus_all) (defBody s_plus_all) (defScope s_plus_all) .none kV5 dc5 pm5 an5 cd5 ct5), sl5⟩) (c5 : PySem.W.codeIn K cd5 "plus_all" = true) (k5 : PySem.W.keepIn K (.ref f5) = true)
    (a6 : PySem.W.nsIn K mainGlobals "times_all" = some (some (.ref f6))) (l6 : K.lookup f6 = some ⟨oc6, od6, .func (PySem.W.fnOf "times_all" "times_all" (defArgs s_times_all) (defBody s_times_all) (defScope s_times_all) .none kV6 dc6 pm6 an6 cd6 ct6), sl6⟩) (c6 : PySem.W.codeIn K cd6 "times_all" = true) (k6 : PySem.W.keepIn K (.ref f6) = true)
    (a7 : PySem.W.nsIn K mainGlobals "rest" = some (some (.ref f7))) (l7 : K.lookup f7 = some ⟨oc7, od7, .func (PySem.W.fnOf "rest" "rest" (defArgs s_rest) (defBody s_rest) (defScope s_rest) .none kV7 dc7 pm7 an7 cd7 ct7), sl7⟩) (c7 : PySem.W.codeIn K cd7 "rest" = true) (k7 : PySem.W.keepIn K (.ref f7) = true)
    (a8 : PySem.W.nsIn K mainGlobals "is_chance" = some (some (.ref f8))) (l8 : K.lookup f8 = some ⟨oc8, od8, .func (PySem.W.fnOf "is_chance" "is_chance" (defArgs s_is_chance) (defBody s_is_chance) (defScope s_is_chance) .none kV8 dc8 pm8 an8 cd8 ct8), sl8⟩) (c8 : PySem.W.codeIn K cd8 "is_chance" = true) (k8 : PySem.W.keepIn K (.ref f8) = true)
    (a9 : PySem.W.nsIn K mainGlobals "_law_same" = some (some (.ref f9))) (l9 : K.lookup f9 = some ⟨oc9, od9, .func (PySem.W.fnOf "_law_same" "_law_same" (defArgs s_law_same) (defBody s_law_same) (defScope s_law_same) .none kV9 dc9 pm9 an9 cd9 ct9), sl9⟩) (c9 : PySem.W.codeIn K cd9 "_law_same" = true) (k9 : PySem.W.keepIn K (.ref f9) = true)
    (a10 : PySem.W.nsIn K mainGlobals "_law_pool" = some (some (.ref f10))) (l10 : K.lookup f10 = some ⟨oc10, od10, .func (PySem.W.fnOf "_law_pool" "_law_pool" (defArgs s_law_pool) (defBody s_law_pool) (defScope s_law_pool) .none kV10 dc10 pm10 an10 cd10 ct10), sl10⟩) (c10 : PySem.W.codeIn K cd10 "_law_pool" = true) (k10 : PySem.W.keepIn K (.ref f10) = true)
    (a11 : PySem.W.nsIn K mainGlobals "_law_spread" = some (some (.ref f11))) (l11 : K.lookup f11 = some ⟨oc11, od11, .func (PySem.W.fnOf "_law_spread" "_law_spread" (defArgs s_law_spread) (defBody s_law_spread) (defScope s_law_spread) .none kV11 dc11 pm11 an11 cd11 ct11), sl11⟩) (c11 : PySem.W.codeIn K cd11 "_law_spread" = true) (k11 : PySem.W.keepIn K (.ref f11) = true)
    (a12 : PySem.W.nsIn K mainGlobals "_law_draw" = some (some (.ref f12))) (l12 : K.lookup f12 = some ⟨oc12, od12, .func (PySem.W.fnOf "_law_draw" "_law_draw" (defArgs s_law_draw) (defBody s_law_draw) (defScope s_law_draw) .none kV12 dc12 pm12 an12 cd12 ct12), sl12⟩) (c12 : PySem.W.codeIn K cd12 "_law_draw" = true) (k12 : PySem.W.keepIn K (.ref f12) = true)
    (a13 : PySem.W.nsIn K mainGlobals "_law_gcd" = some (some (.ref f13))) (l13 : K.lookup f13 = some ⟨oc13, od13, .func (PySem.W.fnOf "_law_gcd" "_law_gcd" (defArgs s_law_gcd) (defBody s_law_gcd) (defScope s_law_gcd) .none kV13 dc13 pm13 an13 cd13 ct13), sl13⟩) (c13 : PySem.W.codeIn K cd13 "_law_gcd" = true) (k13 : PySem.W.keepIn K (.ref f13) = true)
    (a14 : PySem.W.nsIn K mainGlobals "_law_frac" = some (some (.ref f14))) (l14 : K.lookup f14 = some ⟨oc14, od14, .func (PySem.W.fnOf "_law_frac" "_law_frac" (defArgs s_law_frac) (defBody s_law_frac) (defScope s_law_frac) .none kV14 dc14 pm14 an14 cd14 ct14), sl14⟩) (c14 : PySem.W.codeIn K cd14 "_law_frac" = true) (k14 : PySem.W.keepIn K (.ref f14) = true)
    (a15 : PySem.W.nsIn K mainGlobals "_law_plus" = some (some (.ref f15))) (l15 : K.lookup f15 = some ⟨oc15, od15, .func (PySem.W.fnOf "_law_plus" "_law_plus" (defArgs s_law_plus) (defBody s_law_plus) (defScope s_law_plus) .none kV15 dc15 pm15 an15 cd15 ct15), sl15⟩) (c15 : PySem.W.codeIn K cd15 "_law_plus" = true) (k15 : PySem.W.keepIn K (.ref f15) = true)
    (a16 : PySem.W.nsIn K mainGlobals "_law_times" = some (some (.ref f16))) (l16 : K.lookup f16 = some ⟨oc16, od16, .func (PySem.W.fnOf "_law_times" "_law_times" (defArgs s_law_times) (defBody s_law_times) (defScope s_law_times) .none kV16 dc16 pm16 an16 cd16 ct16), sl16⟩) (c16 : PySem.W.codeIn K cd16 "_law_times" = true) (k16 : PySem.W.keepIn K (.ref f16) = true)
    (a17 : PySem.W.nsIn K mainGlobals "_law_number" = some (some (.ref f17))) (l17 : K.lookup f17 = some ⟨oc17, od17, .func (PySem.W.fnOf "_law_number" "_law_number" (defArgs s_law_number) (defBody s_law_number) (defScope s_law_number) .none kV17 dc17 pm17 an17 cd17 ct17), sl17⟩) (c17 : PySem.W.codeIn K cd17 "_law_number" = true) (k17 : PySem.W.keepIn K (.ref f17) = true)
    (a18 : PySem.W.nsIn K mainGlobals "law" = some (some (.ref f18))) (l18 : K.lookup f18 = some ⟨oc18, od18, .func (PySem.W.fnOf "law" "law" (defArgs s_law) (defBody s_law) (defScope s_law) .none kV18 dc18 pm18 an18 cd18 ct18), sl18⟩) (c18 : PySem.W.codeIn K cd18 "law" = true) (k18 : PySem.W.keepIn K (.ref f18) = true)
    (gOddsError : PySem.W.nsIn K mainGlobals "OddsError" = some (some (.ref COddsError))) (xOddsError : PySem.W.excIn K COddsError [.type "ValueError", .type "Exception", .type "BaseException", .type "object"] "ValueError.__new__" = true) (kkOddsError : PySem.W.keepIn K (.ref COddsError) = true) (bOddsError : PySem.W.subIn K (.ref COddsError) (.type "BaseException") = some true) (tOddsError : PySem.W.typeIn K (.ref COddsError) = some (.type "type")) (sOddsError : PySem.W.subIn K (.ref COddsError) (.ref COddsError) = some true)
    (gaOddsError : PySem.W.findIn K (.ref COddsError) "__getattribute__" = some (some (.builtin "BaseException.__getattribute__"))) (ggOddsError : PySem.W.findIn K (.ref COddsError) "__getattr__" = some none) (hdOddsError : PySem.W.hasDictIn K COddsError = true) (clOddsError : PySem.W.findIn K (.ref COddsError) "__class__" = some (some (.builtin "object.__class__"))) (mrOddsError : PySem.W.mroIn K COddsError (.type "object") = some true)
    (gZeroDivisor : PySem.W.nsIn K mainGlobals "ZeroDivisor" = some (some (.ref CZeroDivisor))) (xZeroDivisor : PySem.W.excIn K CZeroDivisor [.type "ValueError", .type "Exception", .type "BaseException", .type "object"] "ValueError.__new__" = true) (kkZeroDivisor : PySem.W.keepIn K (.ref CZeroDivisor) = true) (bZeroDivisor : PySem.W.subIn K (.ref CZeroDivisor) (.type "BaseException") = some true) (tZeroDivisor : PySem.W.typeIn K (.ref CZeroDivisor) = some (.type "type")) (sZeroDivisor : PySem.W.subIn K (.ref CZeroDivisor) (.ref CZeroDivisor) = some true)
    (gaZeroDivisor : PySem.W.findIn K (.ref CZeroDivisor) "__getattribute__" = some (some (.builtin "BaseException.__getattribute__"))) (ggZeroDivisor : PySem.W.findIn K (.ref CZeroDivisor) "__getattr__" = some none) (hdZeroDivisor : PySem.W.hasDictIn K CZeroDivisor = true) (clZeroDivisor : PySem.W.findIn K (.ref CZeroDivisor) "__class__" = some (some (.builtin "object.__class__"))) (mrZeroDivisor : PySem.W.mroIn K CZeroDivisor (.type "object") = some true)
    (spg : PySem.W.specialIn K (.builtin "object.__class__") "__get__" = some (some (.builtin "getset_descriptor.__get__"))) (spt : PySem.W.takesIn K (.builtin "object.__class__") = some true)
    (zisinstance : PySem.W.nsIn K mainGlobals "isinstance" = some none)
    (ztuple : PySem.W.nsIn K mainGlobals "tuple" = some none)
    (zlist : PySem.W.nsIn K mainGlobals "list" = some none)
    (zlen : PySem.W.nsIn K mainGlobals "len" = some none)
    (zrange : PySem.W.nsIn K mainGlobals "range" = some none)
    (zbool : PySem.W.nsIn K mainGlobals "bool" = some none)
    (zint : PySem.W.nsIn K mainGlobals "int" = some none)
    (zstr : PySem.W.nsIn K mainGlobals "str" = some none)
    (zabs : PySem.W.nsIn K mainGlobals "abs" = some none)
    (mgcd : PySem.W.nsIn K mainGlobals "gcd" = some (some (.builtin "math.gcd")))
    {ZZERO : Addr} {ddZERO : Option Addr} {slZERO : Array (Option Value)} {nnZERO : Nat} {tZERO0 tZERO1 : Tok} (gZERO : PySem.W.nsIn K mainGlobals "ZERO" = some (some (.ref ZZERO))) (lZERO : K.lookup ZZERO = some ⟨.type "tuple", ddZERO, .seq #[.int 0 tZERO0, .int 1 tZERO1] nnZERO, slZERO⟩)
    {ZONE : Addr} {ddONE : Option Addr} {slONE : Array (Option Value)} {nnONE : Nat} {tONE0 tONE1 : Tok} (gONE : PySem.W.nsIn K mainGlobals "ONE" = some (some (.ref ZONE))) (lONE : K.lookup ZONE = some ⟨.type "tuple", ddONE, .seq #[.int 1 tONE0, .int 1 tONE1] nnONE, slONE⟩) :
    ∃ A : At, A.a_law = fa ∧ (∀ (s : Shared) (v : Value), BindsTo s A.d_law ⟨[v], []⟩ [("script", v)]) ∧ Txt K mg A := by
  have e := hfa.symm.trans (PySem.W.mg_of X G a18)
  cases e
  have F0 := fun_mk (st := s_ratio) l0 c0 k0
  have b0 := F0.binds (ps := ["top", "bottom"]) fun _ _ _ _ _ _ us hl => match us, hl with | [_, _], _ => rfl
  have F1 := fun_mk (st := s_plus) l1 c1 k1
  have b1 := F1.binds (ps := ["a", "b"]) fun _ _ _ _ _ _ us hl => match us, hl with | [_, _], _ => rfl
  have F2 := fun_mk (st := s_minus) l2 c2 k2
  have b2 := F2.binds (ps := ["a", "b"]) fun _ _ _ _ _ _ us hl => match us, hl with | [_, _], _ => rfl
  have F3 := fun_mk (st := s_times) l3 c3 k3
  have b3 := F3.binds (ps := ["a", "b"]) fun _ _ _ _ _ _ us hl => match us, hl with | [_, _], _ => rfl
  have F4 := fun_mk (st := s_compare) l4 c4 k4
  have b4 := F4.binds (ps := ["a", "b"]) fun _ _ _ _ _ _ us hl => match us, hl with | [_, _], _ => rfl
  have F5 := fun_mk (st := s_plus_all) l5 c5 k5
  have b5 := F5.binds (ps := ["ratios"]) fun _ _ _ _ _ _ us hl => match us, hl with | [_], _ => rfl
  have F6 := fun_mk (st := s_times_all) l6 c6 k6
  have b6 := F6.binds (ps := ["ratios"]) fun _ _ _ _ _ _ us hl => match us, hl with | [_], _ => rfl
  have F7 := fun_mk (st := s_rest) l7 c7 k7
  have b7 := F7.binds (ps := ["r"]) fun _ _ _ _ _ _ us hl => match us, hl with | [_], _ => rfl
  have F8 := fun_mk (st := s_is_chance) l8 c8 k8
  have b8 := F8.binds (ps := ["r"]) fun _ _ _ _ _ _ us hl => match us, hl with | [_], _ => rfl
  have F9 := fun_mk (st := s_law_same) l9 c9 k9
  have b9 := F9.binds (ps := ["actual", "due"]) fun _ _ _ _ _ _ us hl => match us, hl with | [_, _], _ => rfl
  have F10 := fun_mk (st := s_law_pool) l10 c10 k10
  have b10 := F10.binds (ps := ["script"]) fun _ _ _ _ _ _ us hl => match us, hl with | [_], _ => rfl
  have F11 := fun_mk (st := s_law_spread) l11 c11 k11
  have b11 := F11.binds (ps := ["cell"]) fun _ _ _ _ _ _ us hl => match us, hl with | [_], _ => rfl
  have F12 := fun_mk (st := s_law_draw) l12 c12 k12
  have b12 := F12.binds (ps := ["pool", "many"]) fun _ _ _ _ _ _ us hl => match us, hl with | [_, _], _ => rfl
  have F13 := fun_mk (st := s_law_gcd) l13 c13 k13
  have b13 := F13.binds (ps := ["a", "b"]) fun _ _ _ _ _ _ us hl => match us, hl with | [_, _], _ => rfl
  have F14 := fun_mk (st := s_law_frac) l14 c14 k14
  have b14 := F14.binds (ps := ["top", "bottom"]) fun _ _ _ _ _ _ us hl => match us, hl with | [_, _], _ => rfl
  have F15 := fun_mk (st := s_law_plus) l15 c15 k15
  have b15 := F15.binds (ps := ["a", "b"]) fun _ _ _ _ _ _ us hl => match us, hl with | [_, _], _ => rfl
  have F16 := fun_mk (st := s_law_times) l16 c16 k16
  have b16 := F16.binds (ps := ["a", "b"]) fun _ _ _ _ _ _ us hl => match us, hl with | [_, _], _ => rfl
  have F17 := fun_mk (st := s_law_number) l17 c17 k17
  have b17 := F17.binds (ps := ["pool", "most"]) fun _ _ _ _ _ _ us hl => match us, hl with | [_, _], _ => rfl
  have F18 := fun_mk (st := s_law) l18 c18 k18
  have b18 := F18.binds (ps := ["script"]) fun _ _ _ _ _ _ us hl => match us, hl with | [_], _ => rfl
  exact ⟨⟨f0, PySem.W.fnOf "ratio" "ratio" (defArgs s_ratio) (defBody s_ratio) (defScope s_ratio) .none kV0 dc0 pm0 an0 cd0 ct0, f1, PySem.W.fnOf "plus" "plus" (defArgs s_plus) (defBody s_plus) (defScope s_plus) .none kV1 dc1 pm1 an1 cd1 ct1, f2, PySem.W.fnOf "minus" "minus" (defArgs s_minus) (defBody s_minus) (defScope s_minus) .none kV2 dc2 pm2 an2 cd2 ct2, f3, PySem.W.fnOf "times" "times" (defArgs s_times) (defBody s_times) (defScope s_times) .none kV3 dc3 pm3 an3 cd3 ct3, f4, PySem.W.fnOf "compare" "compare" (defArgs s_compare) (defBody s_compare) (defScope s_compare) .none kV4 dc4 pm4 an4 cd4 ct4, f5, PySem.W.fnOf "plus_all" "plus_all" (defArgs s_plus_all) (defBody s_plus_all) (defScope s_plus_all) .none kV5 dc5 pm5 an5 cd5 ct5, f6, PySem.W.fnOf "times_all" "times_all" (defArgs s_times_all) (defBody s_times_all) (defScope s_times_all) .none kV6 dc6 pm6 an6 cd6 ct6, f7, PySem.W.fnOf "rest" "rest" (defArgs s_rest) (defBody s_rest) (defScope s_rest) .none kV7 dc7 pm7 an7 cd7 ct7, f8, PySem.W.fnOf "is_chance" "is_chance" (defArgs s_is_chance) (defBody s_is_chance) (defScope s_is_chance) .none kV8 dc8 pm8 an8 cd8 ct8, f9, PySem.W.fnOf "_law_same" "_law_same" (defArgs s_law_same) (defBody s_law_same) (defScope s_law_same) .none kV9 dc9 pm9 an9 cd9 ct9, f10, PySem.W.fnOf "_law_pool" "_law_pool" (defArgs s_law_pool) (defBody s_law_pool) (defScope s_law_pool) .none kV10 dc10 pm10 an10 cd10 ct10, f11, PySem.W.fnOf "_law_spread" "_law_spread" (defArgs s_law_spread) (defBody s_law_spread) (defScope s_law_spread) .none kV11 dc11 pm11 an11 cd11 ct11, f12, PySem.W.fnOf "_law_draw" "_law_draw" (defArgs s_law_draw) (defBody s_law_draw) (defScope s_law_draw) .none kV12 dc12 pm12 an12 cd12 ct12, f13, PySem.W.fnOf "_law_gcd" "_law_gcd" (defArgs s_law_gcd) (defBody s_law_gcd) (defScope s_law_gcd) .none kV13 dc13 pm13 an13 cd13 ct13, f14, PySem.W.fnOf "_law_frac" "_law_frac" (defArgs s_law_frac) (defBody s_law_frac) (defScope s_law_frac) .none kV14 dc14 pm14 an14 cd14 ct14, f15, PySem.W.fnOf "_law_plus" "_law_plus" (defArgs s_law_plus) (defBody s_law_plus) (defScope s_law_plus) .none kV15 dc15 pm15 an15 cd15 ct15, f16, PySem.W.fnOf "_law_times" "_law_times" (defArgs s_law_times) (defBody s_law_times) (defScope s_law_times) .none kV16 dc16 pm16 an16 cd16 ct16, f17, PySem.W.fnOf "_law_number" "_law_number" (defArgs s_law_number) (defBody s_law_number) (defScope s_law_number) .none kV17 dc17 pm17 an17 cd17 ct17, fa, PySem.W.fnOf "law" "law" (defArgs s_law) (defBody s_law) (defScope s_law) .none kV18 dc18 pm18 an18 cd18 ct18, COddsError, CZeroDivisor⟩, rfl, fun s v => .of_eq rfl,
    ⟨⟨F0, PySem.W.mg_of X G a0, b0⟩,
    ⟨F1, PySem.W.mg_of X G a1, b1⟩,
    ⟨F2, PySem.W.mg_of X G a2, b2⟩,
    ⟨F3, PySem.W.mg_of X G a3, b3⟩,
    ⟨F4, PySem.W.mg_of X G a4, b4⟩,
    ⟨F5, PySem.W.mg_of X G a5, b5⟩,
    ⟨F6, PySem.W.mg_of X G a6, b6⟩,
    ⟨F7, PySem.W.mg_of X G a7, b7⟩,
    ⟨F8, PySem.W.mg_of X G a8, b8⟩,
    ⟨F9, PySem.W.mg_of X G a9, b9⟩,
    ⟨F10, PySem.W.mg_of X G a10, b10⟩,
    ⟨F11, PySem.W.mg_of X G a11, b11⟩,
    ⟨F12, PySem.W.mg_of X G a12, b12⟩,
    ⟨F13, PySem.W.mg_of X G a13, b13⟩,
    ⟨F14, PySem.W.mg_of X G a14, b14⟩,
    ⟨F15, PySem.W.mg_of X G a15, b15⟩,
    ⟨F16, PySem.W.mg_of X G a16, b16⟩,
    ⟨F17, PySem.W.mg_of X G a17, b17⟩,
    ⟨F18, PySem.W.mg_of X G a18, b18⟩,
    ⟨PySem.W.mg_of X G gOddsError, xOddsError, kkOddsError, bOddsError, tOddsError, sOddsError, ⟨gaOddsError, ggOddsError, bOddsError, hdOddsError, clOddsError, spg, spt, mrOddsError⟩⟩,
    ⟨PySem.W.mg_of X G gZeroDivisor, xZeroDivisor, kkZeroDivisor, bZeroDivisor, tZeroDivisor, sZeroDivisor, ⟨gaZeroDivisor, ggZeroDivisor, bZeroDivisor, hdZeroDivisor, clZeroDivisor, spg, spt, mrZeroDivisor⟩⟩,
    PySem.W.mg_none_of X G zisinstance,
    PySem.W.mg_none_of X G ztuple,
    PySem.W.mg_none_of X G zlist,
    PySem.W.mg_none_of X G zlen,
    PySem.W.mg_none_of X G zrange,
    PySem.W.mg_none_of X G zbool,
    PySem.W.mg_none_of X G zint,
    PySem.W.mg_none_of X G zstr,
    PySem.W.mg_none_of X G zabs,
    PySem.W.mg_of X G mgcd,
    ⟨ZZERO, PySem.W.mg_of X G gZERO, fun H => .inr ⟨_, _, _, lZERO, rfl, rfl, by show 2 ≤ sizeLine; decide, .cons ⟨_, rfl⟩ (.cons ⟨_, rfl⟩ (.nil))⟩⟩,
    ⟨ZONE, PySem.W.mg_of X G gONE, fun H => .inr ⟨_, _, _, lONE, rfl, rfl, by show 2 ≤ sizeLine; decide, .cons ⟨_, rfl⟩ (.cons ⟨_, rfl⟩ (.nil))⟩⟩⟩⟩
theorem walk {l : PySem.W.OpenLaw} {q : Program} {loose : List Str} {XP : (Str → Option Value) → Heap → Prop} {YP : World → Heap → Prop} {d : DefRec} {K : Params → PySem.W.Frag} (hn : l.most = some 63) (hdf : d.params.defaults = [])
    (hY : ∀ (w : World) (h : Heap), YP w h → (K w.params).In h)
    (F : ∀ (w : World) (mg : Str → Option Value) (fa : Addr) (h : Heap), (K w.params).In h → h.Ns mainGlobals mg → mg d.name = some (.ref fa) →
      ∃ A : At, A.a_law = fa ∧ (∀ (s : Shared) (v : Value), BindsTo s A.d_law ⟨[v], []⟩ [("script", v)]) ∧ Txt (K w.params) mg A) :
    PySem.W.WalkO q loose XP YP l.row.toRowW d [] (fun f vs => PySem.call f vs) :=
  L2.walk_of (n := 63) (k := 6) (x := "script") (CX := fun _ => CX0) (sp := fun w => spLaw (K w.params)) hn (by decide) hdf ⟨rfl, by decide, by decide⟩ hY
    (fun w mg fa h X G e => by
      obtain ⟨A, rfl, hb, T⟩ := F w mg fa h X G e
      exact ⟨A.d_law, hb, fun base _ _ => ok_law T⟩)
    (fun _ _ a ns hl _ hS => ⟨a, ns, rfl, hS, hl, fun _ => rfl⟩) fun _ _ _ _ _ z => z
end O
open PySem PySem.W PyProof.Rows
set_option maxRecDepth 100000 in
set_option maxHeartbeats 0 in
theorem PySem.Challenge.cw_odds_k05_comparisons_and_sums_holds : PySem.Challenge.rw_odds_k05_comparisons_and_sums.Holds := by
  w_on; o_law; k_head; (case hw => w_witness2)
  k_fill
  refine O.walk (l := PySem.Challenge.rw_odds_k05_comparisons_and_sums) rfl rfl (fun w h Y => PySem.W.kIn_of Y) ?F
  case F =>
    intro w mg fa h KX G hmg
    refine' O.all_mk KX G hmg ?a0 ?l0 ?c0 ?k0 ?a1 ?l1 ?c1 ?k1 ?a2 ?l2 ?c2 ?k2 ?a3 ?l3 ?c3 ?k3 ?a4 ?l4 ?c4 ?k4 ?a5 ?l5 ?c5 ?k5 ?a6 ?l6 ?c6 ?k6 ?a7 ?l7 ?c7 ?k7 ?a8 ?l8 ?c8 ?k8 ?a9 ?l9 ?c9 ?k9 ?a10 ?l10 ?c10 ?k10 ?a11 ?l11 ?c11 ?k11 ?a12 ?l12 ?c12 ?k12 ?a13 ?l13 ?c13 ?k13 ?a14 ?l14 ?c14 ?k14 ?a15 ?l15 ?c15 ?k15 ?a16 ?l16 ?c16 ?k16 ?a17 ?l17 ?c17 ?k17 ?a18 ?l18 ?c18 ?k18 ?gOddsError ?xOddsError ?kkOddsError ?bOddsError ?tOddsError ?sOddsError ?gaOddsError ?ggOddsError ?hdOddsError ?clOddsError ?mrOddsError ?gZeroDivisor ?xZeroDivisor ?kkZeroDivisor ?bZeroDivisor ?tZeroDivisor ?sZeroDivisor ?gaZeroDivisor ?ggZeroDivisor ?hdZeroDivisor ?clZeroDivisor ?mrZeroDivisor ?spg ?spt ?zisinstance ?ztuple ?zlist ?zlen ?zrange ?zbool ?zint ?zstr ?zabs ?mgcd ?gZERO ?lZERO ?gONE ?lONE
    (case a0 => k_is)
    (case l0 => k_is)
    (case c0 => k_is)
    (case k0 => k_is)
    (case a1 => k_is)
    (case l1 => k_is)
    (case c1 => k_is)
    (case k1 => k_is)
    (case a2 => k_is)
    (case l2 => k_is)
    (case c2 => k_is)
    (case k2 => k_is)
    (case a3 => k_is)
    (case l3 => k_is)
    (case c3 => k_is)
    (case k3 => k_is)
    (case a4 => k_is)
    (case l4 => k_is)
    (case c4 => k_is)
    (case k4 => k_is)
    (case a5 => k_is)
    (case l5 => k_is)
    (case c5 => k_is)
    (case k5 => k_is)
    (case a6 => k_is)
    (case l6 => k_is)
    (case c6 => k_is)
    (case k6 => k_is)
    (case a7 => k_is)
    (case l7 => k_is)
    (case c7 => k_is)
    (case k7 => k_is)
    (case a8 => k_is)
    (case l8 => k_is)
    (case c8 => k_is)
    (case k8 => k_is)
    (case a9 => k_is)
    (case l9 => k_is)
    (case c9 => k_is)
    (case k9 => k_is)
    (case a10 => k_is)
    (case l10 => k_is)
    (case c10 => k_is)
    (case k10 => k_is)
    (case a11 => k_is)
    (case l11 => k_is)
    (case c11 => k_is)
    (case k11 => k_is)
    (case a12 => k_is)
    (case l12 => k_is)
    (case c12 => k_is)
    (case k12 => k_is)
    (case a13 => k_is)
    (case l13 => k_is)
    (case c13 => k_is)
    (case k13 => k_is)
    (case a14 => k_is)
    (case l14 => k_is)
    (case c14 => k_is)
    (case k14 => k_is)
    (case a15 => k_is)
    (case l15 => k_is)
    (case c15 => k_is)
    (case k15 => k_is)
    (case a16 => k_is)
    (case l16 => k_is)
    (case c16 => k_is)
    (case k16 => k_is)
    (case a17 => k_is)
    (case l17 => k_is)
    (case c17 => k_is)
    (case k17 => k_is)
    (case a18 => k_is)
    (case l18 => k_is)
    (case c18 => k_is)
    (case k18 => k_is)
    (case gOddsError => k_is)
    (case xOddsError => k_exc)
    (case kkOddsError => k_is)
    (case bOddsError => k_is)
    (case tOddsError => k_is)
    (case sOddsError => first | rfl | k_is)
    (case gaOddsError => k_is)
    (case ggOddsError => k_is)
    (case hdOddsError => k_is)
    (case clOddsError => k_is)
    (case mrOddsError => k_is)
    (case gZeroDivisor => k_is)
    (case xZeroDivisor => k_exc)
    (case kkZeroDivisor => k_is)
    (case bZeroDivisor => k_is)
    (case tZeroDivisor => k_is)
    (case sZeroDivisor => first | rfl | k_is)
    (case gaZeroDivisor => k_is)
    (case ggZeroDivisor => k_is)
    (case hdZeroDivisor => k_is)
    (case clZeroDivisor => k_is)
    (case mrZeroDivisor => k_is)
    (case spg => k_is)
    (case spt => k_is)
    (case zisinstance => k_is)
    (case ztuple => k_is)
    (case zlist => k_is)
    (case zlen => k_is)
    (case zrange => k_is)
    (case zbool => k_is)
    (case zint => k_is)
    (case zstr => k_is)
    (case zabs => k_is)
    (case mgcd => k_is)
    (case gZERO => k_is)
    (case lZERO => k_is)
    (case gONE => k_is)
    (case lONE => k_is)
