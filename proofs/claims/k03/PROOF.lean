import PyProof.Rows.All
import Wide.All
import OpenK.AllK
import Wide.FinOn
import HandS.ForExc
import HandS.Wide
import HandS.WideBits
import HandS.Gcd
import HandS.IsInst
import HandS.ExcIs
import KE.RegKIsAll
import PySem.Challenge.RW_odds_k03_ratio_in_lowest_terms
set_option Elab.async false
set_option linter.all false
set_option maxRecDepth 100000
set_option maxHeartbeats 4000000
namespace O
open PySem L2
def topS (i : Nat) : Stmt := PySem.Challenge.pw_odds_k03_ratio_in_lowest_terms.main.body.getD i (.Pass ⟨0, 0, 0, 0⟩)
abbrev s_ratio : Stmt := topS 6
theorem sc_ratio : FnScope ["top", "bottom", "shared"] ["top", "bottom"] (defScope s_ratio) := ⟨rfl, rfl, rfl, by decide +kernel, rfl, by decide +kernel, by decide +kernel⟩
abbrev s_law_is_integer : Stmt := topS 8
theorem sc_law_is_integer : FnScope ["actual"] ["actual"] (defScope s_law_is_integer) := ⟨rfl, rfl, rfl, by decide +kernel, rfl, by decide +kernel, by decide +kernel⟩
abbrev s_law_pool : Stmt := topS 9
theorem sc_law_pool : FnScope ["script", "salt", "cell"] ["script"] (defScope s_law_pool) := ⟨rfl, rfl, rfl, by decide +kernel, rfl, by decide +kernel, by decide +kernel⟩
abbrev s_law_spread : Stmt := topS 10
theorem sc_law_spread : FnScope ["cell", "mixed", "total", "k"] ["cell"] (defScope s_law_spread) := ⟨rfl, rfl, rfl, by decide +kernel, rfl, by decide +kernel, by decide +kernel⟩
abbrev s_law_draw : Stmt := topS 11
theorem sc_law_draw : FnScope ["pool", "many", "cell", "mixed", "value"] ["pool", "many"] (defScope s_law_draw) := ⟨rfl, rfl, rfl, by decide +kernel, rfl, by decide +kernel, by decide +kernel⟩
abbrev s_law_gcd : Stmt := topS 12
theorem sc_law_gcd : FnScope ["a", "b", "k", "left"] ["a", "b"] (defScope s_law_gcd) := ⟨rfl, rfl, rfl, by decide +kernel, rfl, by decide +kernel, by decide +kernel⟩
abbrev s_law_number : Stmt := topS 16
theorem sc_law_number : FnScope ["pool", "most", "value"] ["pool", "most"] (defScope s_law_number) := ⟨rfl, rfl, rfl, by decide +kernel, rfl, by decide +kernel, by decide +kernel⟩
abbrev s_law : Stmt := topS 17
theorem sc_law : FnScope ["script", "pool", "factor", "top", "bottom", "told", "e"] ["script"] (defScope s_law) := ⟨rfl, rfl, rfl, by decide +kernel, rfl, by decide +kernel, by decide +kernel⟩
/-- a def of the text as it stands behind the top -/
structure DefT (K : PySem.W.Frag) (mg : Str → Option Value) (x : Str) (st : Stmt) (ps : List Str) (f : Addr) (fd : FuncData) : Prop where
  F : Fun K x x st f fd
  g : mg x = some (.ref f)
  b : Binds K fd ps []
/-- an error class of the text -/
structure ErrT (K : PySem.W.Frag) (mg : Str → Option Value) (x : Str) (C : Addr) : Prop where
  g : mg x = some (.ref C)
  ex : PySem.W.excIn K C [.type "ValueError", .type "Exception", .type "BaseException", .type "object"] "ValueError.__new__" = true
  k : PySem.W.keepIn K (.ref C) = true
  b : PySem.W.subIn K (.ref C) (.type "BaseException") = some true
  t : PySem.W.typeIn K (.ref C) = some (.type "type")
  s : PySem.W.subIn K (.ref C) (.ref C) = some true
  e : ExcC K C
structure At where
  a_ratio : Addr
  d_ratio : FuncData
  a_law_is_integer : Addr
  d_law_is_integer : FuncData
  a_law_pool : Addr
  d_law_pool : FuncData
  a_law_spread : Addr
  d_law_spread : FuncData
  a_law_draw : Addr
  d_law_draw : FuncData
  a_law_gcd : Addr
  d_law_gcd : FuncData
  a_law_number : Addr
  d_law_number : FuncData
  a_law : Addr
  d_law : FuncData
  C_OddsError : Addr
  C_InvalidNumeral : Addr
  C_ZeroDivisor : Addr
structure Txt (K : PySem.W.Frag) (mg : Str → Option Value) (A : At) : Prop where
  t_ratio : DefT K mg "ratio" s_ratio ["top", "bottom"] A.a_ratio A.d_ratio
  t_law_is_integer : DefT K mg "_law_is_integer" s_law_is_integer ["actual"] A.a_law_is_integer A.d_law_is_integer
  t_law_pool : DefT K mg "_law_pool" s_law_pool ["script"] A.a_law_pool A.d_law_pool
  t_law_spread : DefT K mg "_law_spread" s_law_spread ["cell"] A.a_law_spread A.d_law_spread
  t_law_draw : DefT K mg "_law_draw" s_law_draw ["pool", "many"] A.a_law_draw A.d_law_draw
  t_law_gcd : DefT K mg "_law_gcd" s_law_gcd ["a", "b"] A.a_law_gcd A.d_law_gcd
  t_law_number : DefT K mg "_law_number" s_law_number ["pool", "most"] A.a_law_number A.d_law_number
  t_law : DefT K mg "law" s_law ["script"] A.a_law A.d_law
  e_OddsError : ErrT K mg "OddsError" A.C_OddsError
  e_InvalidNumeral : ErrT K mg "InvalidNumeral" A.C_InvalidNumeral
  e_ZeroDivisor : ErrT K mg "ZeroDivisor" A.C_ZeroDivisor
  z_isinstance : mg "isinstance" = none
  z_int : mg "int" = none
  z_bool : mg "bool" = none
  z_list : mg "list" = none
  z_range : mg "range" = none
  z_len : mg "len" = none
  z_abs : mg "abs" = none
  z_tuple : mg "tuple" = none
  m_gcd : mg "gcd" = some (.builtin "math.gcd")
  i_ZeroDivisor_OddsError : PySem.W.kitOne K (.ref A.C_ZeroDivisor) (.ref A.C_OddsError) = some true
  i_ZeroDivisor_InvalidNumeral : PySem.W.kitOne K (.ref A.C_ZeroDivisor) (.ref A.C_InvalidNumeral) = some false
end O
namespace O
/-! Euclid's walk: how many turns it takes -/
structure Eu (a0 b0 i a b : Nat) : Prop where
  g : Nat.gcd a b = Nat.gcd a0 b0
  z : i = 0 → a = a0 ∧ b = b0
  p : 0 < i → b < a ∧ a * b * 2 ^ i ≤ 2 * (a0 * b0)
theorem eu_start (a b : Nat) : Eu a b 0 a b := ⟨rfl, fun _ => ⟨rfl, rfl⟩, fun h => absurd h (Nat.lt_irrefl 0)⟩
theorem eu_half {a b : Nat} (hb : b ≠ 0) (h : b < a) : 2 * (a % b) ≤ a := by
  have h1 := Nat.mod_lt a (Nat.pos_of_ne_zero hb)
  have h2 := Nat.div_add_mod a b
  have h3 : 1 ≤ a / b := Nat.div_pos (Nat.le_of_lt h) (Nat.pos_of_ne_zero hb)
  have h4 : b * 1 ≤ b * (a / b) := Nat.mul_le_mul_left b h3
  omega
theorem eu_next {a0 b0 i a b : Nat} (h : Eu a0 b0 i a b) (hb : b ≠ 0) : Eu a0 b0 (i + 1) b (a % b) := by
  have hl := Nat.mod_lt a (Nat.pos_of_ne_zero hb)
  refine ⟨?_, fun e => by omega, fun _ => ⟨hl, ?_⟩⟩
  · rw [← h.g, Nat.gcd_comm a b, Nat.gcd_rec b a, Nat.gcd_comm]
  · by_cases hi : i = 0
    · obtain ⟨rfl, rfl⟩ := h.z hi
      subst hi
      have h1 : a % b ≤ a := Nat.mod_le a b
      have h2 : b * (a % b) ≤ b * a := Nat.mul_le_mul_left b h1
      rw [Nat.mul_comm b a] at h2
      show b * (a % b) * 2 ≤ 2 * (a * b)
      omega
    · obtain ⟨h1, h2⟩ := h.p (Nat.pos_of_ne_zero hi)
      have h3 := eu_half hb h1
      have h4 : b * (2 * (a % b)) ≤ b * a := Nat.mul_le_mul_left b h3
      have h5 : b * (2 * (a % b)) * 2 ^ i ≤ b * a * 2 ^ i := Nat.mul_le_mul_right _ h4
      have e : b * (a % b) * 2 ^ (i + 1) = b * (2 * (a % b)) * 2 ^ i := by
        rw [Nat.pow_succ, Nat.mul_comm (2 ^ i) 2, ← Nat.mul_assoc, Nat.mul_assoc b (a % b) 2, Nat.mul_comm (a % b) 2]
      rw [e]
      rw [Nat.mul_comm b a] at h5
      exact Nat.le_trans h5 h2
theorem eu_stop {a0 b0 i a b m n : Nat} (h : Eu a0 b0 i a b) (hb : b ≠ 0) (ha0 : a0 < 2 ^ m) (hb0 : b0 < 2 ^ n) (hi : m + n + 2 ≤ i) : False := by
  obtain ⟨h1, h2⟩ := h.p (by omega)
  have h3 : 1 ≤ a * b := Nat.mul_pos (by omega) (Nat.pos_of_ne_zero hb)
  have h4 : 1 * 2 ^ i ≤ a * b * 2 ^ i := Nat.mul_le_mul_right _ h3
  have h5 : a0 * b0 ≤ 2 ^ m * 2 ^ n := Nat.mul_le_mul (Nat.le_of_lt ha0) (Nat.le_of_lt hb0)
  rw [← Nat.pow_add] at h5
  have h6 : 2 ^ (m + n + 2) ≤ 2 ^ i := Nat.pow_le_pow_right (by decide) hi
  have h7 : 2 ^ (m + n + 2) = 4 * 2 ^ (m + n) := by rw [Nat.pow_add]; omega
  have h8 : 0 < 2 ^ (m + n) := Nat.pow_pos (by decide)
  omega
/-! a quotient in lowest terms -/
def rsg (t b : Int) : Int := if b < 0 then -(Int.gcd t b : Int) else (Int.gcd t b : Int)
def rtop (t b : Int) : Int := t.fdiv (rsg t b)
def rbot (t b : Int) : Int := b.fdiv (rsg t b)
theorem rgcd_pos {t b : Int} (hb : b ≠ 0) : 0 < Int.gcd t b := Int.gcd_pos_of_ne_zero_right t hb
theorem rsg_ne {t b : Int} (hb : b ≠ 0) : rsg t b ≠ 0 := by
  have h := rgcd_pos (t := t) hb
  unfold rsg
  split <;> omega
theorem rsg_dvd (t b x : Int) (h : (Int.gcd t b : Int) ∣ x) : rsg t b ∣ x := by
  unfold rsg
  split
  · exact Int.neg_dvd.mpr h
  · exact h
theorem rtop_mul (t b : Int) : rtop t b * rsg t b = t := Int.fdiv_mul_cancel (rsg_dvd t b t (Int.gcd_dvd_left ..))
theorem rbot_mul (t b : Int) : rbot t b * rsg t b = b := Int.fdiv_mul_cancel (rsg_dvd t b b (Int.gcd_dvd_right ..))
theorem r_cross (t b : Int) : rtop t b * b = t * rbot t b := by
  have h1 := rtop_mul t b
  have h2 := rbot_mul t b
  calc rtop t b * b = rtop t b * (rbot t b * rsg t b) := by rw [h2]
    _ = rtop t b * rsg t b * rbot t b := by rw [Int.mul_comm (rbot t b), ← Int.mul_assoc]
    _ = t * rbot t b := by rw [h1]
theorem rbot_pos {t b : Int} (hb : b ≠ 0) : 1 ≤ rbot t b := by
  have h1 := rbot_mul t b
  have h2 := rgcd_pos (t := t) hb
  have h3 : 0 < rbot t b := by
    by_cases hn : b < 0
    · have e : rsg t b = -(Int.gcd t b : Int) := if_pos hn
      rw [e] at h1
      have h4 : rbot t b * (Int.gcd t b : Int) = -b := by
        rw [Int.mul_neg] at h1
        omega
      exact Int.pos_of_mul_pos_left (a := rbot t b) (b := (Int.gcd t b : Int)) (by omega) (by omega)
    · have e : rsg t b = (Int.gcd t b : Int) := if_neg hn
      rw [e] at h1
      exact Int.pos_of_mul_pos_left (a := rbot t b) (b := (Int.gcd t b : Int)) (by omega) (by omega)
  omega
theorem r_gcd {t b : Int} (hb : b ≠ 0) : Int.gcd (rtop t b) (rbot t b) = 1 := by
  have h1 := rtop_mul t b
  have h2 := rbot_mul t b
  have h3 := rgcd_pos (t := t) hb
  have h4 : Int.gcd (rtop t b * rsg t b) (rbot t b * rsg t b) = Int.gcd (rtop t b) (rbot t b) * (rsg t b).natAbs := Int.gcd_mul_right ..
  rw [h1, h2] at h4
  have h5 : (rsg t b).natAbs = Int.gcd t b := by
    unfold rsg
    split
    · rw [Int.natAbs_neg]; rfl
    · rfl
  rw [h5] at h4
  exact (Nat.mul_right_cancel h3 (by rw [Nat.one_mul]; exact h4)).symm
theorem r_le {x q s : Int} (h : q * s = x) (hs : s ≠ 0) : q.natAbs ≤ x.natAbs := by
  rw [← h, Int.natAbs_mul]
  exact Nat.le_mul_of_pos_right _ (by omega)
theorem rtop_le {t b : Int} (hb : b ≠ 0) : (rtop t b).natAbs ≤ t.natAbs := r_le (rtop_mul t b) (rsg_ne hb)
theorem rbot_le {t b : Int} (hb : b ≠ 0) : (rbot t b).natAbs ≤ b.natAbs := r_le (rbot_mul t b) (rsg_ne hb)
end O
namespace O
open PySem L2
/-! ### what a sequence asks, through a word of what stands between -/
theorem seq_then {t u : TS} {D : Ends} {σ : St} {H : Hp} (P : St → Hp → Prop) (h2 : ∀ σ' H', P σ' H' → u D σ' H') (h1 : ∀ N : St → Hp → Prop, (∀ σ' H', P σ' H' → N σ' H') → t { D with nx := N } σ H) : tSeq t u D σ H := h1 (u D) h2
theorem same_upd {H : Hp} {p : Addr} {o : HO} (h : H p = none) : Same H (upd H p o) := fun b x e => by
  rw [upd_ne (ne_of_none e h)]
  exact e
/-- all that was tracked is as it was, but what stands at p -/
def But (p : Addr) (H H' : Hp) : Prop := ∀ c o, H c = some o → c ≠ p → H' c = some o
theorem But.refl (p : Addr) (H : Hp) : But p H H := fun _ _ h _ => h
theorem But.trans {p : Addr} {H H1 H2 : Hp} (a : But p H H1) (b : But p H1 H2) : But p H H2 := fun c o h n => b c o (a c o h n) n
theorem But.upd {p : Addr} {H H1 : Hp} {o : HO} (a : But p H H1) : But p H (L2.upd H1 p o) := fun c x h n => by
  rw [upd_ne n]
  exact a c x h n
theorem But.same {p : Addr} {H H1 : Hp} (a : Same H H1) : But p H H1 := fun c o h _ => a c o h
/-- the pool of draws at p: the script's copy, the place, what is left of a cell, how many draws, the salt -/
def PoolAt (H : Hp) (p : Addr) : Prop := ∃ (l : Addr) (ns : List Int) (pos cur cnt salt : Int), H p = some (.lst [.ref l, .int pos, .int cur, .int cnt, .int salt]) ∧ H l = some (.lst (ns.map V.int)) ∧ 0 ≤ pos ∧ l ≠ p
theorem PoolAt.same {H H' : Hp} {p : Addr} (a : Same H H') (h : PoolAt H p) : PoolAt H' p := by
  obtain ⟨l, ns, pos, cur, cnt, salt, h1, h2, h3, h4⟩ := h
  exact ⟨l, ns, pos, cur, cnt, salt, a _ _ h1, a _ _ h2, h3, h4⟩
/-- a pool is no tuple -/
theorem PoolAt.ne {H : Hp} {p t : Addr} {xs : List V} (h : PoolAt H p) (ht : H t = some (.tup xs)) : t ≠ p := by
  obtain ⟨l, ns, pos, cur, cnt, salt, h1, _⟩ := h
  exact ne_of ht h1 (by intro z; cases z)
theorem PoolAt.free {H : Hp} {p t : Addr} (h : PoolAt H p) (ht : H t = none) : t ≠ p := by
  obtain ⟨l, ns, pos, cur, cnt, salt, h1, _⟩ := h
  exact (ne_of_none h1 ht).symm
/-- an item of a written row of ints at a drawn place -/
theorem pick_at {ms : List Int} {v : Int} (h0 : 0 ≤ v) (h1 : v < ms.length) : ∃ m, m ∈ ms ∧ atI (ms.map V.int) v = some (.int m) := by
  obtain ⟨j, rfl⟩ := Int.eq_ofNat_of_zero_le h0
  have hj : j < ms.length := by omega
  refine ⟨ms[j], List.getElem_mem hj, atI_nat ?_⟩
  rw [List.getElem?_map, List.getElem?_eq_getElem hj]
  rfl
section
variable {P : Program} {w : World} {K : PySem.W.Frag} {mg : Str → Option Value} {base : Heap} {A : At}
/-! ### the law's own draws -/
def spSpread : Sp := fun vs H Q _ => ∃ c : Int, vs = [.int c] ∧ ∀ v : Int, Q (.int v) H
theorem ok_spread (T : Txt K mg A) : FnOk P w K mg base CX0 1 A.a_law_spread A.d_law_spread ["cell"] spSpread := by
  refine T.t_law_spread.F.ok sc_law_spread (fun vs H Q E h => ?_) (fun cdv AA outer s H vs Q E hr h => ?_)
  · obtain ⟨c, rfl, _⟩ := h
    rfl
  · obtain ⟨c, rfl, k⟩ := h
    refine ⟨_, pss_cons (ps_set (i := 1) sc_law_spread.nd rfl (Or.inl rfl) (pe_op op_mod (pe_callTy call_int1 (by rfl) T.z_int PyProof.Rows.boot_int (pa_cons (pv 0) pa_nil)) pe_int))
      (pss_cons (ps_set (i := 2) sc_law_spread.nd rfl (Or.inl rfl) pe_int)
      (pss_cons (ps_for PassesOwn.never rfl (pi_range1 rfl T.z_range (pa_cons pe_int pa_nil)) (pg_name (i := 3) sc_law_spread.nd rfl (Or.inl rfl))
        (pss_cons (ps_set (i := 1) sc_law_spread.nd rfl (Or.inl rfl) (pe_op op_mod (pe_callTy call_int1 (by rfl) T.z_int PyProof.Rows.boot_int (pa_cons (pe_op op_add (pe_op op_add (pe_op op_mul (pv 1) pe_int) pe_int) (pv 3)) pa_nil)) pe_int))
        (pss_one (ps_set (i := 2) sc_law_spread.nd rfl (Or.inl rfl) (pe_op op_add (pe_op op_mul (pv 2) pe_int) (pv 1))))))
      (pss_one (ps_ret (pv 2))))), ?_⟩
    refine ⟨_, rfl, .inl ⟨_, rfl, _, _, rfl, rfl, (by show (0 : Int) < 2147483647; decide), ?_⟩⟩
    refine ⟨4, rfl, by decide, by decide, for_range (n := 4) (fun i σ H2 => H2 = H ∧ ∃ (m t : Int) (v : Option V), σ = [some (.int c), some (.int m), some (.int t), v])
      ⟨rfl, _, _, none, rfl⟩ ?_ ?_⟩
    · rintro i σ H2 hi ⟨rfl, m, t, v, rfl⟩
      refine ⟨_, rfl, _, _, rfl, rfl, .inr ⟨by decide, by decide⟩, _, _, rfl, rfl, _, rfl, _, _, rfl, rfl, .inl ⟨_, rfl, _, _, rfl, rfl, (by show (0 : Int) < 2147483647; decide), ?_⟩⟩
      refine ⟨_, rfl, _, _, rfl, rfl, .inr ⟨by decide, by decide⟩, _, rfl, _, _, rfl, rfl, ?_⟩
      exact ⟨rfl, _, _, _, rfl⟩
    · rintro σ H2 ⟨rfl, m, t, v, rfl⟩
      exact ⟨_, rfl, k _⟩
def spPool (K : PySem.W.Frag) : Sp := fun vs H Q _ => ∃ (a : Addr) (ns : List Int), vs = [.ref a] ∧ SqL K H a (ns.map V.int) ∧ ∀ p H', PoolAt H' p → Same H H' → H p = none → Q (.ref p) H'
theorem cut_ints {ns : List Int} {lo hi : Option Int} {i : Nat} {y : V} (h : (cutV (ns.map V.int) lo hi)[i]? = some y) : ∃ z, y = V.int z := by
  have h1 : y ∈ cutV (ns.map V.int) lo hi := List.mem_of_getElem? h
  have h2 : y ∈ ns.map V.int := List.mem_of_mem_drop (List.mem_of_mem_take h1)
  obtain ⟨z, _, e⟩ := List.mem_map.mp h2
  exact ⟨z, e.symm⟩
theorem ok_pool (T : Txt K mg A) : FnOk P w K mg base CX0 1 A.a_law_pool A.d_law_pool ["script"] (spPool K) := by
  refine T.t_law_pool.F.ok sc_law_pool (fun vs H Q E h => ?_) (fun cdv AA outer s H vs Q E hr h => ?_)
  · obtain ⟨a, ns, rfl, _⟩ := h
    rfl
  · obtain ⟨a, ns, rfl, hS, k⟩ := h
    refine ⟨_, pss_cons (ps_set (i := 1) sc_law_pool.nd rfl (Or.inl rfl) pe_int)
      (pss_cons (ps_for PassesOwn.never rfl (pi_list (pe_slice sl_list (pv 0) po_none (po_some pe_int))) (pg_name (i := 2) sc_law_pool.nd rfl (Or.inl rfl))
        (pss_one (ps_set (i := 1) sc_law_pool.nd rfl (Or.inl rfl) (pe_op op_mod (pe_callTy call_int1 (by rfl) T.z_int PyProof.Rows.boot_int (pa_cons (pe_op op_add (pe_op op_mul (pv 1) pe_int) (pv 2)) pa_nil)) pe_int))))
      (pss_one (ps_ret (pe_lst (pa_cons (pe_callTy call_list_of (by rfl) T.z_list PyProof.Rows.boot_list (pa_cons (pv 0) pa_nil)) (pa_cons pe_int (pa_cons pe_int (pa_cons pe_int (pa_cons (pv 1) pa_nil))))))))), ?_⟩
    refine ⟨.ref a, rfl, 63, rfl, a, ns.map V.int, rfl, hS, fun c nc => ?_⟩
    have s1 := same_upd (o := .lst (cutV (ns.map V.int) none (some 63))) nc
    refine ⟨c, rfl, ⟨_, .inl (.inl upd_same)⟩, for_list (K := K) (a := c) (xs := cutV (ns.map V.int) none (some 63)) (fun i σ H2 => H2 = upd H c (.lst (cutV (ns.map V.int) none (some 63))) ∧ ∃ (m : Int) (v : Option V), σ = [some (.ref a), some (.int m), v])
      ⟨rfl, _, none, rfl⟩ (fun i σ H2 _ ⟨e, _⟩ => by rw [e]; exact .inl (.inl upd_same)) ?_ ?_⟩
    · rintro i y σ H2 hi ⟨rfl, m, v, rfl⟩
      obtain ⟨z, rfl⟩ := cut_ints hi
      refine ⟨_, rfl, _, _, rfl, rfl, .inr ⟨by decide, by decide⟩, _, rfl, _, _, rfl, rfl, .inl ⟨_, rfl, _, _, rfl, rfl, (by show (0 : Int) < 1000003; decide), ?_⟩⟩
      exact ⟨rfl, _, _, rfl⟩
    · rintro σ H2 ⟨rfl, m, v, rfl⟩
      refine ⟨.ref a, rfl, a, ns.map V.int, rfl, .inl (s1.seq hS), fun l nl => ?_⟩
      have s2 := same_upd (o := .lst (ns.map V.int)) nl
      refine ⟨_, rfl, (by show 5 ≤ sizeLine; decide), fun p np => ?_⟩
      have s3 := fun o => same_upd (o := o) np
      have ne : l ≠ p := ne_of_none upd_same np
      exact k p _ ⟨l, ns, 0, 0, 0, m, upd_same, by rw [upd_ne ne, upd_same], Int.le_refl 0, ne⟩ (s1.trans (s2.trans (s3 _))) ((s1.trans s2).free np)
def spDraw : Sp := fun vs H Q _ => ∃ (p : Addr) (many : Int), vs = [.ref p, .int many] ∧ PoolAt H p ∧ (0 < many ∧ many.natAbs < 2 ^ 8000) ∧ ∀ v H', 0 ≤ v → v < many → PoolAt H' p → But p H H' → Q (.int v) H'
theorem ok_draw (T : Txt K mg A) : FnOk P w K mg base CX0 2 A.a_law_draw A.d_law_draw ["pool", "many"] spDraw := by
  have GS : FnOk P w K mg base CX0 1 A.a_law_spread A.d_law_spread ["cell"] spSpread := ok_spread T
  refine T.t_law_draw.F.ok sc_law_draw (fun vs H Q E h => ?_) (fun cdv AA outer s H vs Q E hr h => ?_)
  · obtain ⟨p, many, rfl, _⟩ := h
    rfl
  · obtain ⟨p, many, rfl, ⟨l, ns, pos, cur, cnt, salt, hp, hl, hpos, hne⟩, ⟨hm, hmb⟩, k⟩ := h
    refine ⟨_, pss_cons (ps_if (PW.pt (pw_and (pt_cmpR op_le (pe_ix ix_list (pv 0) pe_int (fun _ _ => rfl)) pe_int (nomark _)) (pw_and1 (pt_cmpR op_lt (pe_ix ix_list (pv 0) pe_int (fun _ _ => rfl)) (pe_callB call_len_seq (by rfl) T.z_len PySem.boot_len (pa_cons (pe_ix ix_list (pv 0) pe_int (fun _ _ => rfl)) pa_nil)) (nomark _)))))
        (pss_cons (ps_set (i := 2) sc_law_draw.nd rfl (Or.inl rfl) (pe_ix ix_list (pe_ix ix_list (pv 0) pe_int (fun _ _ => rfl)) (pe_ix ix_list (pv 0) pe_int (fun _ _ => rfl)) (fun _ _ => rfl)))
        (pss_cons (ps_asg (pe_op op_add (pe_ix ix_list (pv 0) pe_int (fun _ _ => rfl)) pe_int) (pg_sub (pv 0) pe_int set_list))
        (pss_cons (ps_asg (pv 2) (pg_sub (pv 0) pe_int set_list))
        (pss_one (ps_if (pt_cmpR op_lt (pv 2) pe_int (nomark _))
          (pss_one (ps_asg (pe_call GS hr rfl T.t_law_spread.g T.t_law_spread.F.kp T.t_law_spread.b .nil pass0 (pa_cons (pv 2) pa_nil)) (pg_sub (pv 0) pe_int set_list))) pss_nil))))) pss_nil)
      (pss_cons (ps_asg (pe_op op_add (pe_ix ix_list (pv 0) pe_int (fun _ _ => rfl)) pe_int) (pg_sub (pv 0) pe_int set_list))
      (pss_cons (ps_if (pt_cmpR op_le (pe_ix ix_list (pv 0) pe_int (fun _ _ => rfl)) pe_int (nomark _))
        (pss_cons (ps_set (i := 3) sc_law_draw.nd rfl (Or.inl rfl) (pe_op op_mod (pe_callTy call_int1 (by rfl) T.z_int PyProof.Rows.boot_int (pa_cons (pe_op op_add (pe_op op_add (pe_op op_mul (pe_ix ix_list (pv 0) pe_int (fun _ _ => rfl)) pe_int) (pe_op op_mul (pe_ix ix_list (pv 0) pe_int (fun _ _ => rfl)) pe_int)) pe_int) pa_nil)) pe_int))
        (pss_cons (ps_set (i := 3) sc_law_draw.nd rfl (Or.inl rfl) (pe_op op_mod (pe_callTy call_int1 (by rfl) T.z_int PyProof.Rows.boot_int (pa_cons (pe_op op_add (pe_op op_mul (pv 3) pe_int) (pe_ix ix_list (pv 0) pe_int (fun _ _ => rfl))) pa_nil)) pe_int))
        (pss_one (ps_ret (pe_op op_mod (pe_op op_fdiv (pv 3) pe_int) (pv 1)))))) pss_nil)
      (pss_cons (ps_set (i := 4) sc_law_draw.nd rfl (Or.inl rfl) (pe_op op_mod (pe_callTy call_int1 (by rfl) T.z_int PyProof.Rows.boot_int (pa_cons (pe_ix ix_list (pv 0) pe_int (fun _ _ => rfl)) pa_nil)) (pv 1)))
      (pss_cons (ps_asg (pe_op op_fdivW (pe_ix ix_list (pv 0) pe_int (fun _ _ => rfl)) (pv 1)) (pg_sub (pv 0) pe_int set_list))
      (pss_one (ps_ret (pv 4))))))), ?_⟩
    refine seq_then (fun σ' H' => ∃ (vc : Option V) (pos' cur' : Int), σ' = [some (.ref p), some (.int many), vc, none, none] ∧ But p H H' ∧ H' p = some (.lst [.ref l, .int pos', .int cur', .int cnt, .int salt]) ∧ 0 ≤ pos') ?_ (fun N hN => ?_)
    · -- behind the first if
      rintro σ' H1 ⟨vc, pos', cur', rfl, B1, hp1, hpos1⟩
      refine ⟨_, rfl, p, _, 3, _, rfl, rfl, SqL.of hp1, rfl, _, _, rfl, rfl, _, rfl, p, _, 3, 3, rfl, rfl, hp1, rfl, ?_⟩
      have hp2 : (upd H1 p (.lst [.ref l, .int pos', .int cur', .int (cnt + 1), .int salt])) p = some (.lst [.ref l, .int pos', .int cur', .int (cnt + 1), .int salt]) := upd_same
      have B2 : But p H (upd H1 p (.lst [.ref l, .int pos', .int cur', .int (cnt + 1), .int salt])) := B1.upd
      refine ⟨_, rfl, p, _, 2, _, rfl, rfl, SqL.of hp2, rfl, _, _, rfl, rfl, _, rfl, ite2 (fun _ => ?_) (fun _ => ?_)⟩
      · refine ⟨_, rfl, p, _, 4, _, rfl, rfl, SqL.of hp2, rfl, _, _, rfl, rfl, .inr ⟨by decide, by decide⟩, _, rfl, p, _, 3, _, rfl, rfl, SqL.of hp2, rfl, _, _, rfl, rfl, .inr ⟨by decide, by decide⟩, _, _, rfl, rfl, _, _, rfl, rfl, .inl ⟨_, rfl, _, _, rfl, rfl, (by show (0 : Int) < 2147483647; decide), ?_⟩⟩
        refine ⟨_, rfl, _, _, rfl, rfl, .inr ⟨by decide, by decide⟩, _, rfl, p, _, 3, _, rfl, rfl, SqL.of hp2, rfl, _, _, rfl, rfl, .inl ⟨_, rfl, _, _, rfl, rfl, (by show (0 : Int) < 2147483629; decide), ?_⟩⟩
        refine ⟨_, rfl, _, _, rfl, rfl, ⟨by decide, by decide⟩, _, rfl, _, _, rfl, rfl, hm, ?_⟩
        exact k _ _ (Int.emod_nonneg _ (by omega)) (Int.emod_lt_of_pos _ hm) ⟨l, ns, _, _, _, _, hp2, B2 _ _ hl hne, hpos1, hne⟩ B2
      · refine ⟨_, rfl, p, _, 2, _, rfl, rfl, SqL.of hp2, rfl, .inl ⟨_, rfl, _, rfl, _, _, rfl, rfl, hm, ?_⟩⟩
        refine ⟨_, rfl, p, _, 2, _, rfl, rfl, SqL.of hp2, rfl, _, rfl, _, _, rfl, rfl, wide_div hm hmb (by decide) (by decide), _, rfl, p, _, 2, 2, rfl, rfl, hp2, rfl, ?_⟩
        refine ⟨_, rfl, ?_⟩
        exact k _ _ (Int.emod_nonneg _ (by omega)) (Int.emod_lt_of_pos _ hm) ⟨l, ns, _, _, _, _, upd_same, B2.upd _ _ hl hne, hpos1, hne⟩ B2.upd
    · -- the first if
      refine ⟨_, rfl, p, _, 2, _, rfl, rfl, SqL.of hp, rfl, _, _, rfl, rfl, _, rfl, ite2 (fun _ => ?_) (fun _ => ?_)⟩
      · refine ⟨_, rfl, p, _, 1, _, rfl, rfl, SqL.of hp, rfl, _, rfl, p, _, 0, _, rfl, rfl, SqL.of hp, rfl, l, _, rfl, .inl (SqL.of hl), _, _, rfl, rfl, _, rfl, ite2 (fun c2 => ?_) (fun _ => ?_)⟩
        · have c2 : pos < ((ns.map V.int).length : Int) := of_decide_eq_true c2
          rw [List.length_map] at c2
          obtain ⟨z, _, ez⟩ := pick_at hpos c2
          refine ⟨_, rfl, p, _, 0, _, rfl, rfl, SqL.of hp, rfl, _, rfl, p, _, 1, _, rfl, rfl, SqL.of hp, rfl, l, _, pos, _, rfl, rfl, SqL.of hl, ez, ?_⟩
          refine ⟨_, rfl, p, _, 1, _, rfl, rfl, SqL.of hp, rfl, _, _, rfl, rfl, _, rfl, p, _, 1, 1, rfl, rfl, hp, rfl, ?_⟩
          have hp1 : (upd H p (.lst [.ref l, .int (pos + 1), .int cur, .int cnt, .int salt])) p = some (.lst [.ref l, .int (pos + 1), .int cur, .int cnt, .int salt]) := upd_same
          refine ⟨_, rfl, _, rfl, p, _, 2, 2, rfl, rfl, hp1, rfl, ?_⟩
          have hp2 : (upd (upd H p (.lst [.ref l, .int (pos + 1), .int cur, .int cnt, .int salt])) p (.lst [.ref l, .int (pos + 1), .int z, .int cnt, .int salt])) p = some (.lst [.ref l, .int (pos + 1), .int z, .int cnt, .int salt]) := upd_same
          refine ⟨_, rfl, _, _, rfl, rfl, _, rfl, ite2 (fun _ => ?_) (fun _ => ?_)⟩
          · refine ⟨_, rfl, z, rfl, fun v => ⟨_, rfl, p, _, 2, 2, rfl, rfl, hp2, rfl, ?_⟩⟩
            exact hN _ _ ⟨_, _, _, rfl, (((But.refl p H).upd).upd).upd, upd_same, by omega⟩
          · exact hN _ _ ⟨_, _, _, rfl, ((But.refl p H).upd).upd, hp2, by omega⟩
        · exact hN _ _ ⟨none, _, _, rfl, But.refl p H, hp, hpos⟩
      · refine iteF ?_
        exact hN _ _ ⟨none, _, _, rfl, But.refl p H, hp, hpos⟩
end
end O
namespace O
open PySem L2
section
variable {P : Program} {w : World} {K : PySem.W.Frag} {mg : Str → Option Value} {base : Heap} {A : At}
def spIsInt : Sp := fun vs H Q _ => ∃ i : Int, vs = [.int i] ∧ Q (.bl true) H
theorem ok_is_integer (T : Txt K mg A) : FnOk P w K mg base CX0 1 A.a_law_is_integer A.d_law_is_integer ["actual"] spIsInt := by
  refine T.t_law_is_integer.F.ok sc_law_is_integer (fun vs H Q E h => ?_) (fun cdv AA outer s H vs Q E hr h => ?_)
  · obtain ⟨i, rfl, _⟩ := h
    rfl
  · obtain ⟨i, rfl, k⟩ := h
    refine ⟨_, pss_one (ps_ret (pe_and (pe_callB call_isi (by rfl) T.z_isinstance PyProof.Rows.boot_isinstance (pa_cons (pv 0) (pa_cons (pe_bltn (v := .ty "int") (by rfl) T.z_int PyProof.Rows.boot_int rfl) pa_nil)))
      (pe_one (pe_not (pe_callB call_isi (by rfl) T.z_isinstance PyProof.Rows.boot_isinstance (pa_cons (pv 0) (pa_cons (pe_bltn (v := .ty "bool") (by rfl) T.z_bool PyProof.Rows.boot_bool rfl) pa_nil))))))), ?_⟩
    refine ⟨_, rfl, .int i, .ty "int", .type "int", .type "int", true, rfl, .ty _, .base (.int i), kit_ty (by decide +kernel), true, rfl, iteT ?_⟩
    exact ⟨_, rfl, .int i, .ty "bool", .type "int", .type "bool", false, rfl, .ty _, .base (.int i), kit_ty (by decide +kernel), false, rfl, k⟩
theorem abs_nat (i : Int) : (if i < 0 then -i else i) = ((i.natAbs : Nat) : Int) := by omega
theorem lt_bits (n : Nat) : n < 2 ^ Builtin.Int.intBits (n : Int) := by
  unfold Builtin.Int.intBits
  split
  · rename_i h
    have e : (n : Int) = 0 := by simpa using h
    have e2 : n = 0 := by omega
    subst e2
    decide
  · exact Nat.lt_log2_self
def spGcd : Sp := fun vs H Q _ => ∃ a b : Int, vs = [.int a, .int b] ∧ (a.natAbs < 2 ^ 1000000 ∧ b.natAbs < 2 ^ 1000000) ∧ Q (.int (Int.gcd a b : Nat)) H
theorem ok_gcd (T : Txt K mg A) : FnOk P w K mg base CX0 1 A.a_law_gcd A.d_law_gcd ["a", "b"] spGcd := by
  refine T.t_law_gcd.F.ok sc_law_gcd (fun vs H Q E h => ?_) (fun cdv AA outer s H vs Q E hr h => ?_)
  · obtain ⟨a, b, rfl, _⟩ := h
    rfl
  · obtain ⟨a, b, rfl, ⟨ha, hb⟩, k⟩ := h
    refine ⟨_, pss_cons (ps_set (i := 0) sc_law_gcd.nd rfl (Or.inl rfl) (pe_callB call_abs (by rfl) T.z_abs (by decide +kernel) (pa_cons (pv 0) pa_nil)))
      (pss_cons (ps_set (i := 1) sc_law_gcd.nd rfl (Or.inl rfl) (pe_callB call_abs (by rfl) T.z_abs (by decide +kernel) (pa_cons (pv 1) pa_nil)))
      (pss_cons (ps_for PassesOwn.never rfl (pi_range1 rfl T.z_range (pa_cons (pe_op op_add (pe_op op_add (pe_op op_add (pe_bits (pv 0)) (pe_bits (pv 1))) pe_int) (pe_bits (pv 0))) pa_nil)) (pg_name (i := 2) sc_law_gcd.nd rfl (Or.inl rfl))
        (pss_cons (ps_if (pt_cmpR op_eq (pv 1) pe_int (nomark _)) (pss_one ps_break) pss_nil)
        (pss_cons (ps_set (i := 3) sc_law_gcd.nd rfl (Or.inl rfl) (pe_op op_mod (pe_callTy call_int1 (by rfl) T.z_int PyProof.Rows.boot_int (pa_cons (pv 0) pa_nil)) (pv 1)))
        (pss_cons (ps_set (i := 0) sc_law_gcd.nd rfl (Or.inl rfl) (pv 1))
        (pss_one (ps_set (i := 1) sc_law_gcd.nd rfl (Or.inl rfl) (pv 3)))))))
      (pss_one (ps_ret (pv 0))))), ?_⟩
    refine ⟨_, rfl, _, rfl, ?_⟩
    refine ⟨_, rfl, _, rfl, ?_⟩
    rw [abs_nat, abs_nat]
    generalize hx : a.natAbs = x at *
    generalize hy : b.natAbs = y at *
    have e0 : Int.gcd a b = Nat.gcd x y := by
      rw [← hx, ← hy]
      rfl
    have bx := lt_bits x
    have by' := lt_bits y
    have cx : Builtin.Int.intBits (x : Int) ≤ 1000000 := PyProof.Rows.intBits_le (by simpa using ha)
    have cy : Builtin.Int.intBits (y : Int) ≤ 1000000 := PyProof.Rows.intBits_le (by simpa using hb)
    refine ⟨_, rfl, _, rfl, _, rfl, _, rfl, _, _, rfl, rfl, _, _, rfl, rfl, _, rfl, _, rfl, _, _, rfl, rfl, ?_⟩
    generalize Builtin.Int.intBits (x : Int) = m at *
    generalize Builtin.Int.intBits (y : Int) = n at *
    have en : ((m : Int) + (n : Int) + 2 + (m : Int)).toNat = m + n + 2 + m := by omega
    refine ⟨_, rfl, by omega, by omega, ?_⟩
    rw [en]
    refine for_range (n := m + n + 2 + m) (fun i σ H2 => H2 = H ∧ ∃ (c d : Nat) (v1 v2 : Option V), σ = [some (.int (c : Int)), some (.int (d : Int)), v1, v2] ∧ Eu x y i c d)
      ⟨rfl, x, y, none, none, rfl, eu_start x y⟩ ?_ ?_
    · rintro i σ H2 hi ⟨rfl, c, d, v1, v2, rfl, I⟩
      refine ⟨_, rfl, rfl, _, rfl, ite2 (fun h0 => ?_) (fun h0 => ?_)⟩
      · have e := V.int.inj (of_decide_eq_true h0)
        have e : d = 0 := by omega
        subst e
        refine ⟨_, rfl, ?_⟩
        have g := I.g
        rw [Nat.gcd_zero_right] at g
        rw [g, ← e0]
        exact k
      · have hd : d ≠ 0 := fun e => h0 (decide_eq_true (by rw [e]; rfl))
        refine ⟨_, rfl, .inl ⟨_, rfl, _, rfl, _, _, rfl, rfl, by omega, ?_⟩⟩
        refine ⟨_, rfl, _, rfl, ?_⟩
        exact ⟨rfl, d, c % d, _, _, by rw [Int.natCast_emod]; rfl, eu_next I hd⟩
    · rintro σ H2 ⟨rfl, c, d, v1, v2, rfl, I⟩
      have hd : d = 0 := Decidable.byContradiction fun hd => eu_stop I hd bx by' (by omega)
      subst hd
      refine ⟨_, rfl, ?_⟩
      have g := I.g
      rw [Nat.gcd_zero_right] at g
      rw [g, ← e0]
      exact k
end
end O
namespace O
open PySem L2
/-- // by a divisor of either sign -/
theorem op_fdivG {X : Cx} : OpR X (binaryOp .FloorDiv) (rI (fun _ j => j ≠ 0 ∧ j.natAbs.log2 < 9000) fun i j => .int (i.fdiv j)) := opI fun _ _ _ _ _ _ _ hc q => PyProof.Rows.floordiv_int hc.1 q (.inl (PyProof.noPylong_of_log2 hc.2))
/-- isinstance(e, C) where the suite holds the error e -/
theorem call_isE2 {X : Cx} {a D : Addr} {oe : Obj} {cls : Value} {d : Option Addr} {pn : List (Addr × Obj)} (C : ExcC X.K D) (hz : Zc cls d oe) (hf : ∃ vs, oe.data = .fields vs) : CallR (X.suite a ((a, oe) :: pn)) (.builtin "isinstance") (fun xs H Q => cls = .ref D ∧ d = none ∧ rIsE X.K D a xs H Q) := by
  intro pins s σ H xs us Q I r h
  obtain ⟨rfl, rfl, h⟩ := h
  exact call_isE C hz hf pins s σ H xs us Q I r h
section
variable {P : Program} {w : World} {K : PySem.W.Frag} {mg : Str → Option Value} {base : Heap} {A : At}
/-! ### the program's ratio -/
def spRatio (C : Addr) : Sp := fun vs H Q E => ∃ t b : Int, vs = [.int t, .int b] ∧ (t.natAbs < 2 ^ 8000 ∧ b.natAbs < 2 ^ 8000) ∧ (b = 0 → E (.ref C) none H) ∧
  (b ≠ 0 → ∀ p, H p = none → Q (.ref p) (upd H p (.tup [.int (rtop t b), .int (rbot t b)])))
theorem ok_ratio (T : Txt K mg A) : FnOk P w K mg base (L2.CX P w) 2 A.a_ratio A.d_ratio ["top", "bottom"] (spRatio A.C_ZeroDivisor) := by
  refine T.t_ratio.F.okX sc_ratio (fun vs H Q E h => ?_) (fun cdv AA outer s H vs Q E hr h => ?_)
  · obtain ⟨t, b, rfl, _⟩ := h
    rfl
  · obtain ⟨t, b, rfl, ⟨ht, hb⟩, kE, kQ⟩ := h
    refine ⟨_, pss_cons (ps_if (pt_cmpR op_eq (pv 1) pe_int (nomark _)) (pss_one (ps_raise rfl (takes_of rfl rfl rfl rfl) (pmk_own PySem.F.excBase_ValueError T.e_ZeroDivisor.ex T.e_ZeroDivisor.g T.e_ZeroDivisor.k (raises_own T.e_ZeroDivisor.b T.e_ZeroDivisor.t) rfl))) pss_nil)
      (pss_cons (ps_set (i := 2) sc_ratio.nd rfl (Or.inl rfl) (pe_callBfun cr_gcd (by rfl) T.m_gcd (pa_cons (pv 0) (pa_cons (pv 1) pa_nil))))
      (pss_cons (ps_if (pt_cmpR op_lt (pv 1) pe_int (nomark _)) (pss_one (ps_set (i := 2) sc_ratio.nd rfl (Or.inl rfl) (pe_un un_neg (pv 2)))) pss_nil)
      (pss_one (ps_ret (pe_tup (pa_cons (pe_op op_fdivG (pv 0) (pv 2)) (pa_cons (pe_op op_fdivG (pv 1) (pv 2)) pa_nil))))))), ?_⟩
    refine ⟨_, rfl, rfl, _, rfl, ite2 (fun h0 => ?_) (fun h0 => ?_)⟩
    · have e := V.int.inj (of_decide_eq_true h0)
      exact kE e
    · have hb0 : b ≠ 0 := fun e => h0 (decide_eq_true (by rw [e]))
      have kQ := kQ hb0
      refine ⟨_, rfl, _, rfl, _, _, rfl, ?_⟩
      have hs := rsg_ne (t := t) hb0
      have hg := rgcd_pos (t := t) hb0
      have hle : Int.gcd t b ≤ b.natAbs := Nat.le_of_dvd (by omega) (Nat.gcd_dvd_right _ _)
      have hsb : (rsg t b).natAbs.log2 < 9000 := by
        have e : (rsg t b).natAbs = Int.gcd t b := by
          unfold rsg
          split
          · rw [Int.natAbs_neg]; rfl
          · rfl
        rw [e]
        have z := PySem.Flt.log2_lt_of (show 0 < 8000 by decide) (Nat.lt_of_le_of_lt hle hb)
        omega
      dsimp only [gName]
      refine seq_then (fun σ' H' => H' = H ∧ σ' = [some (.int t), some (.int b), some (.int (rsg t b))]) ?_ (fun N hN => ?_)
      · rintro σ' H' ⟨rfl, rfl⟩
        refine ⟨_, rfl, _, rfl, _, _, rfl, rfl, ⟨hs, hsb⟩, _, rfl, _, rfl, _, _, rfl, rfl, ⟨hs, hsb⟩, (by show 2 ≤ sizeLine; decide), fun p np => ?_⟩
        exact kQ p np
      · refine ⟨_, rfl, _, _, rfl, rfl, _, rfl, ite2 (fun h1 => ?_) (fun h1 => ?_)⟩
        · have h1 : b < 0 := of_decide_eq_true h1
          refine ⟨_, rfl, _, rfl, hN _ _ ⟨rfl, ?_⟩⟩
          have e : rsg t b = -(Int.gcd t b : Int) := if_pos h1
          rw [e]
          rfl
        · have h1 : ¬ b < 0 := fun z => h1 (decide_eq_true z)
          refine hN _ _ ⟨rfl, ?_⟩
          have e : rsg t b = (Int.gcd t b : Int) := if_neg h1
          rw [e]
          rfl
/-! ### a drawn number -/
def spNumber : Sp := fun vs H Q _ => ∃ (p : Addr) (most : Int), vs = [.ref p, .int most] ∧ PoolAt H p ∧ 0 < most ∧ ∀ (v : Int) H', v.natAbs < most.natAbs → PoolAt H' p → But p H H' → Q (.int v) H'
theorem ok_number (T : Txt K mg A) : FnOk P w K mg base CX0 3 A.a_law_number A.d_law_number ["pool", "most"] spNumber := by
  have GD : FnOk P w K mg base CX0 2 A.a_law_draw A.d_law_draw ["pool", "many"] spDraw := ok_draw T
  refine T.t_law_number.F.ok sc_law_number (fun vs H Q E h => ?_) (fun cdv AA outer s H vs Q E hr h => ?_)
  · obtain ⟨p, most, rfl, _⟩ := h
    rfl
  · obtain ⟨p, most, rfl, hP, hm, k⟩ := h
    refine ⟨_, pss_cons (ps_set (i := 2) sc_law_number.nd rfl (Or.inl rfl) (pe_call GD hr rfl T.t_law_draw.g T.t_law_draw.F.kp T.t_law_draw.b .nil pass0 (pa_cons (pv 0) (pa_cons
          (pe_ix ix_tup (pe_tup (pa_cons pe_int (pa_cons pe_int (pa_cons pe_int (pa_cons pe_int (pa_cons (pe_op op_pow pe_int pe_int) pa_nil)))))) (pe_call GD hr rfl T.t_law_draw.g T.t_law_draw.F.kp T.t_law_draw.b .nil pass0 (pa_cons (pv 0) (pa_cons pe_int pa_nil))) (fun _ _ => rfl)) pa_nil))))
      (pss_cons (ps_if (pt_cmpR op_eq (pe_call GD hr rfl T.t_law_draw.g T.t_law_draw.F.kp T.t_law_draw.b .nil pass0 (pa_cons (pv 0) (pa_cons pe_int pa_nil))) pe_int (nomark _)) (pss_one (ps_set (i := 2) sc_law_number.nd rfl (Or.inl rfl) (pe_un un_neg (pv 2)))) pss_nil)
      (pss_one (ps_ret (pe_ifExp (pt_cmpR op_ge (pv 2) pe_int (nomark _)) (pe_op op_mod (pv 2) (pv 1)) (pe_un un_neg (pe_op op_mod (pe_callTy call_int1 (by rfl) T.z_int PyProof.Rows.boot_int (pa_cons (pe_un un_neg (pv 2)) pa_nil)) (pv 1))))))), ?_⟩
    refine ⟨_, rfl, _, _, rfl, rfl, ⟨by decide, by decide, by decide⟩, (by show 5 ≤ sizeLine; decide), fun t nt => ?_⟩
    have s1 := fun o => same_upd (o := o) nt
    refine ⟨_, rfl, p, 5, rfl, hP.same (s1 _), ⟨by decide, by decide⟩, fun v H1 v0 v1 P1 B1 => ?_⟩
    obtain ⟨m, hmem, em⟩ := pick_at (ms := [2, 10, 1000, 1000000000, 10 ^ (40 : Int).toNat]) v0 v1
    have hall : ∀ x ∈ [(2 : Int), 10, 1000, 1000000000, 10 ^ (40 : Int).toNat], 0 < x ∧ x.natAbs < 2 ^ 8000 := by decide +kernel
    have ht : H1 t = some _ := B1 t _ upd_same (hP.free nt)
    refine ⟨t, _, v, _, rfl, rfl, SqT.of ht, em, ?_⟩
    have b1 : But p H H1 := (But.same (s1 _)).trans B1
    refine ⟨p, m, rfl, P1, hall m hmem, fun v2 H2 w0 w1 P2 B2 => ?_⟩
    have b2 : But p H H2 := b1.trans B2
    dsimp only [gName]
    refine seq_then (fun σ' H' => ∃ z : Int, σ' = [some (.ref p), some (.int most), some (.int z)] ∧ PoolAt H' p ∧ But p H H') ?_ (fun N hN => ?_)
    · rintro σ' H' ⟨z, rfl, P3, b3⟩
      refine ⟨_, rfl, _, _, rfl, rfl, _, rfl, ite2 (fun h1 => ?_) (fun h1 => ?_)⟩
      · refine ⟨_, rfl, _, rfl, _, _, rfl, rfl, hm, k _ _ ?_ P3 b3⟩
        have e1 := Int.emod_nonneg z (show most ≠ 0 by omega)
        have e2 := Int.emod_lt_of_pos z hm
        omega
      · refine ⟨_, rfl, _, rfl, .inl ⟨_, rfl, _, rfl, _, _, rfl, rfl, hm, _, rfl, k _ _ ?_ P3 b3⟩⟩
        have e1 := Int.emod_nonneg (-z) (show most ≠ 0 by omega)
        have e2 := Int.emod_lt_of_pos (-z) hm
        omega
    · refine ⟨_, rfl, p, 3, rfl, P2, ⟨by decide, by decide⟩, fun v3 H3 _ _ P3 B3 => ⟨rfl, _, rfl, ite2 (fun _ => ?_) (fun _ => ?_)⟩⟩
      · exact ⟨_, rfl, _, rfl, hN _ _ ⟨_, rfl, P3, b2.trans B3⟩⟩
      · exact hN _ _ ⟨_, rfl, P3, b2.trans B3⟩
end
end O
namespace O
open PySem L2
section
variable {P : Program} {w : World} {K : PySem.W.Frag} {mg : Str → Option Value} {base : Heap} {A : At}
def spLaw (K : PySem.W.Frag) : Sp := fun vs H Q _ => ∃ (a : Addr) (ns : List Int), vs = [.ref a] ∧ SqL K H a (ns.map V.int) ∧ ns.length ≤ 63 ∧ ∀ H', Q (.bl true) H'
theorem ok_law (T : Txt K mg A) : FnOk P w K mg base CX0 5 A.a_law A.d_law ["script"] (spLaw K) := by
  have GP : FnOk P w K mg base CX0 1 A.a_law_pool A.d_law_pool ["script"] (spPool K) := ok_pool T
  have GD : FnOk P w K mg base CX0 2 A.a_law_draw A.d_law_draw ["pool", "many"] spDraw := ok_draw T
  have GN : FnOk P w K mg base CX0 3 A.a_law_number A.d_law_number ["pool", "most"] spNumber := ok_number T
  have GR : FnOk P w K mg base (L2.CX P w) 2 A.a_ratio A.d_ratio ["top", "bottom"] (spRatio A.C_ZeroDivisor) := ok_ratio T
  have GI : FnOk P w K mg base CX0 1 A.a_law_is_integer A.d_law_is_integer ["actual"] spIsInt := ok_is_integer T
  have GG : FnOk P w K mg base CX0 1 A.a_law_gcd A.d_law_gcd ["a", "b"] spGcd := ok_gcd T
  refine T.t_law.F.ok sc_law (fun vs H Q E h => ?_) (fun cdv AA outer s H vs Q E hr h => ?_)
  · obtain ⟨a, ns, rfl, _⟩ := h
    rfl
  · obtain ⟨a, ns, rfl, hS, _, k⟩ := h
    have hr1 : Room 1 _ := hr.mono (by decide)
    have hr2 : Room 2 _ := hr.mono (by decide)
    have hr3 : Room 3 _ := hr.mono (by decide)
    refine ⟨_, pss_cons (ps_set (i := 1) sc_law.nd rfl (Or.inl rfl) (pe_call GP hr1 rfl T.t_law_pool.g T.t_law_pool.F.kp T.t_law_pool.b .nil pass0 (pa_cons (pv 0) pa_nil)))
      (pss_cons (ps_set (i := 2) sc_law.nd rfl (Or.inl rfl) (pe_op op_add pe_int (pe_call GD hr2 rfl T.t_law_draw.g T.t_law_draw.F.kp T.t_law_draw.b .nil pass0 (pa_cons (pv 1) (pa_cons
          (pe_ix ix_tup (pe_tup (pa_cons pe_int (pa_cons pe_int (pa_cons (pe_op op_pow pe_int pe_int) pa_nil)))) (pe_call GD hr2 rfl T.t_law_draw.g T.t_law_draw.F.kp T.t_law_draw.b .nil pass0 (pa_cons (pv 1) (pa_cons pe_int pa_nil))) (fun _ _ => rfl)) pa_nil)))))
      (pss_cons (ps_set (i := 3) sc_law.nd rfl (Or.inl rfl) (pe_op op_mulW (pe_call GN hr3 rfl T.t_law_number.g T.t_law_number.F.kp T.t_law_number.b .nil pass0 (pa_cons (pv 1) (pa_cons (pe_op op_pow pe_int pe_int) pa_nil))) (pv 2)))
      (pss_cons (ps_set (i := 4) sc_law.nd rfl (Or.inl rfl) (pe_op op_mulW (pe_call GN hr3 rfl T.t_law_number.g T.t_law_number.F.kp T.t_law_number.b .nil pass0 (pa_cons (pv 1) (pa_cons (pe_op op_pow pe_int pe_int) pa_nil))) (pv 2)))
      (pss_cons (ps_if (pt_cmpR op_eq (pe_call GD hr2 rfl T.t_law_draw.g T.t_law_draw.F.kp T.t_law_draw.b .nil pass0 (pa_cons (pv 1) (pa_cons pe_int pa_nil))) pe_int (nomark _)) (pss_one (ps_set (i := 4) sc_law.nd rfl (Or.inl rfl) pe_int)) pss_nil)
      (pss_cons (ps_try_as (i := 6) (tb := fun W => tAsg (tCallS (spRatio A.C_ZeroDivisor) (WE W) (tCons (tVar 3) (tCons (tVar 4) tNil))) (gName 5))
          (ts := fun a cls d => tRet (tAndV (tOp rEq (tVar 4) (tC (.int 0))) (tAndV (tCB (fun xs H Q => cls = .ref A.C_ZeroDivisor ∧ d = none ∧ rIsE K A.C_ZeroDivisor a xs H Q) (tCons (tVar 6) (tCons (tC (.ref A.C_OddsError)) tNil)))
            (tNotV (tCB (fun xs H Q => cls = .ref A.C_ZeroDivisor ∧ d = none ∧ rIsE K A.C_ZeroDivisor a xs H Q) (tCons (tVar 6) (tCons (tC (.ref A.C_InvalidNumeral)) tNil)))))))
          (Wout := fun _ _ _ _ => False) rfl rfl sc_law.nd rfl rfl ⟨rfl, by decide, Or.inl T.e_ZeroDivisor.g⟩ takes0
          (fun W pn xe tk _ => pss_one (ps_set (i := 5) sc_law.nd rfl (Or.inl rfl) (by exact (pe_callS GR hr2 rfl T.t_ratio.g T.t_ratio.F.kp T.t_ratio.b (fun σ => passAt tk σ) (by exact (pa_cons (pv 3) (pa_cons (pv 4) pa_nil)))))))
          (fun a oe cls d pn hz hf => pss_one (ps_ret (by exact (pe_and (pe_cmpR op_eq (pv 4) pe_int (nomark _)) (pe_and (pe_callB (call_isE2 T.e_ZeroDivisor.e hz hf) (by rfl) T.z_isinstance PyProof.Rows.boot_isinstance (pa_cons (pv 6) (pa_cons (pe_glob rfl T.e_OddsError.g rfl) pa_nil)))
            (pe_one (pe_not (pe_callB (call_isE2 T.e_ZeroDivisor.e hz hf) (by rfl) T.z_isinstance PyProof.Rows.boot_isinstance (pa_cons (pv 6) (pa_cons (pe_glob rfl T.e_InvalidNumeral.g rfl) pa_nil))))))))))) 
      (pss_cons (ps_if (PW.pt (pw_or (pt_cmpR op_eq (pv 4) pe_int (nomark _)) (pw_or (pt_not (pt_val (pe_callB call_isi (by rfl) T.z_isinstance PyProof.Rows.boot_isinstance (pa_cons (pv 5) (pa_cons (pe_bltn (v := .ty "tuple") (by rfl) T.z_tuple PyProof.Rows.boot_tuple rfl) pa_nil)))))
          (pw_or1 (pt_cmpR op_ne (pe_callB call_len_seq (by rfl) T.z_len PySem.boot_len (pa_cons (pv 5) pa_nil)) pe_int (nomark _)))))) (pss_one (ps_ret pe_bl)) pss_nil)
      (pss_cons (ps_if (PW.pt (pw_or (pt_not (pt_val (pe_call GI hr1 rfl T.t_law_is_integer.g T.t_law_is_integer.F.kp T.t_law_is_integer.b .nil pass0 (pa_cons (pe_ix ix_tup (pv 5) pe_int (fun _ _ => rfl)) pa_nil))))
          (pw_or (pt_not (pt_val (pe_call GI hr1 rfl T.t_law_is_integer.g T.t_law_is_integer.F.kp T.t_law_is_integer.b .nil pass0 (pa_cons (pe_ix ix_tup (pv 5) pe_int (fun _ _ => rfl)) pa_nil))))
          (pw_or1 (pt_cmpR op_lt (pe_ix ix_tup (pv 5) pe_int (fun _ _ => rfl)) pe_int (nomark _)))))) (pss_one (ps_ret pe_bl)) pss_nil)
      (pss_one (ps_ret (pe_and (pe_cmpR op_eq (pe_op op_mulW (pe_ix ix_tup (pv 5) pe_int (fun _ _ => rfl)) (pv 4)) (pe_op op_mulW (pv 3) (pe_ix ix_tup (pv 5) pe_int (fun _ _ => rfl))) (nomark _))
          (pe_one (pe_cmpR op_eq (pe_call GG hr1 rfl T.t_law_gcd.g T.t_law_gcd.F.kp T.t_law_gcd.b .nil pass0 (pa_cons (pe_ix ix_tup (pv 5) pe_int (fun _ _ => rfl)) (pa_cons (pe_ix ix_tup (pv 5) pe_int (fun _ _ => rfl)) pa_nil))) pe_int (nomark _))))))))))))), ?_⟩
    -- pool, factor
    refine ⟨_, rfl, a, ns, rfl, hS, fun p H1 P1 _ _ => ?_⟩
    refine ⟨_, rfl, _, _, rfl, rfl, ⟨by decide, by decide, by decide⟩, (by show 3 ≤ sizeLine; decide), fun t nt => ?_⟩
    have s1 := fun o => same_upd (o := o) nt
    refine ⟨_, rfl, p, 3, rfl, P1.same (s1 _), ⟨by decide, by decide⟩, fun v H2 v0 v1 P2 B2 => ?_⟩
    obtain ⟨m, hmem, em⟩ := pick_at (ms := [1, 100, 10 ^ (20 : Int).toNat]) v0 v1
    have hall : ∀ x ∈ [(1 : Int), 100, 10 ^ (20 : Int).toNat], 0 < x ∧ x.natAbs < 2 ^ 68 := by decide +kernel
    have ht : H2 t = some _ := B2 t _ upd_same (P1.free nt)
    obtain ⟨hm0, hm1⟩ := hall m hmem
    refine ⟨t, _, v, _, rfl, rfl, SqT.of ht, em, ?_⟩
    refine ⟨p, m, rfl, P2, ⟨hm0, Nat.lt_trans hm1 (Nat.pow_lt_pow_right (by decide) (by decide))⟩, fun v2 H3 w0 w1 P3 B3 => ⟨_, _, rfl, rfl, ?_⟩⟩
    have hf : (1 + v2).natAbs < 2 ^ 70 := by omega
    -- top, bottom
    refine ⟨_, rfl, _, _, rfl, rfl, ⟨by decide, by decide, by decide⟩, p, _, rfl, P3, by decide +kernel, fun z1 H4 hz1 P4 B4 => ⟨_, rfl, _, _, rfl, rfl, ?_⟩⟩
    have hz1 : z1.natAbs < 2 ^ 140 := Nat.lt_trans hz1 (by decide +kernel)
    refine ⟨wide_mul hz1 hf (by decide) (by decide) (by decide), ?_⟩
    have ht1 := wide_lt hz1 hf
    refine ⟨_, rfl, _, _, rfl, rfl, ⟨by decide, by decide, by decide⟩, p, _, rfl, P4, by decide +kernel, fun z2 H5 hz2 P5 B5 => ⟨_, rfl, _, _, rfl, rfl, ?_⟩⟩
    have hz2 : z2.natAbs < 2 ^ 140 := Nat.lt_trans hz2 (by decide +kernel)
    refine ⟨wide_mul hz2 hf (by decide) (by decide) (by decide), ?_⟩
    have hb1 := wide_lt hz2 hf
    obtain ⟨top, etop⟩ : ∃ top, z1 * (1 + v2) = top := ⟨_, rfl⟩
    rw [etop] at ht1
    dsimp only [gName]
    refine seq_then (fun σ' H' => ∃ b : Int, σ' = [some (.ref a), some (.ref p), some (.int (1 + v2)), some (.int top), some (.int b), none, none] ∧ b.natAbs < 2 ^ (140 + 70)) ?_ (fun N hN => ?_)
    · rintro σ' H6 ⟨b, rfl, hb⟩
      have big : (2 : Nat) ^ (140 + 70) < 2 ^ 8000 := Nat.pow_lt_pow_right (by decide) (by decide)
      have te : PySem.W.exmOne K (.ref A.C_ZeroDivisor) (.ref A.C_ZeroDivisor) = some true := PySem.W.exm_ref T.e_ZeroDivisor.b T.e_ZeroDivisor.e.hd T.e_ZeroDivisor.t T.e_ZeroDivisor.s
      refine ⟨_, rfl, _, rfl, top, b, rfl, ⟨Nat.lt_trans ht1 big, Nat.lt_trans hb big⟩, fun e0 => ?_, fun hb0 q nq => ?_⟩
      · subst e0
        refine ⟨true, te, fun _ a0 _ => ?_, fun z => Bool.noConfusion z⟩
        refine ⟨_, rfl, rfl, true, rfl, iteT ?_⟩
        refine ⟨_, rfl, rfl, rfl, _, _, true, rfl, fun u r => r, T.i_ZeroDivisor_OddsError, true, rfl, iteT ?_⟩
        exact ⟨_, rfl, rfl, rfl, _, _, false, rfl, fun u r => r, T.i_ZeroDivisor_InvalidNumeral, false, rfl, k _⟩
      · have hq : (upd H6 q (.tup [.int (rtop top b), .int (rbot top b)])) q = some (.tup [.int (rtop top b), .int (rbot top b)]) := upd_same
        have nb : ¬ (V.int b = V.int 0) := fun e => hb0 (V.int.inj e)
        refine ⟨_, rfl, rfl, false, (by rw [decide_eq_false nb]), iteF ?_⟩
        refine ⟨_, rfl, .ref q, .ty "tuple", .type "tuple", .type "tuple", true, rfl, .ty _, .base (.tup hq), kit_ty (by decide +kernel), true, rfl, iteF ?_⟩
        refine ⟨_, rfl, q, _, rfl, .inr (SqT.of hq), rfl, false, rfl, iteF ?_⟩
        -- the two places
        refine ⟨_, rfl, q, _, 0, _, rfl, rfl, SqT.of hq, rfl, _, rfl, true, rfl, iteF ?_⟩
        refine ⟨_, rfl, q, _, 1, _, rfl, rfl, SqT.of hq, rfl, _, rfl, true, rfl, iteF ?_⟩
        have h1 := rbot_pos (t := top) hb0
        refine ⟨_, rfl, q, _, 1, _, rfl, rfl, SqT.of hq, rfl, _, _, rfl, rfl, false, (by show V.bl (decide (rbot top b < 1)) = V.bl false; rw [decide_eq_false (by omega)]), iteF ?_⟩
        have l1 : (rtop top b).natAbs < 2 ^ (140 + 70) := Nat.lt_of_le_of_lt (rtop_le hb0) ht1
        have l2 : (rbot top b).natAbs < 2 ^ (140 + 70) := Nat.lt_of_le_of_lt (rbot_le hb0) hb
        refine ⟨_, rfl, q, _, 0, _, rfl, rfl, SqT.of hq, rfl, _, rfl, _, _, rfl, rfl, wide_mul l1 hb (by decide) (by decide) (by decide), ?_⟩
        refine ⟨_, rfl, _, rfl, q, _, 1, _, rfl, rfl, SqT.of hq, rfl, _, _, rfl, rfl, wide_mul ht1 l2 (by decide) (by decide) (by decide), rfl, true, ?_, iteT ?_⟩
        · show V.bl (decide (V.int (rtop top b * b) = V.int (top * rbot top b))) = V.bl true
          rw [r_cross, decide_eq_true rfl]
        have big2 : (2 : Nat) ^ (140 + 70) < 2 ^ 1000000 := Nat.pow_lt_pow_right (by decide) (by decide)
        refine ⟨_, rfl, q, _, 0, _, rfl, rfl, SqT.of hq, rfl, _, rfl, q, _, 1, _, rfl, rfl, SqT.of hq, rfl, _, _, rfl, ⟨Nat.lt_trans l1 big2, Nat.lt_trans l2 big2⟩, rfl, ?_⟩
        have eg : decide (V.int ((Int.gcd (rtop top b) (rbot top b) : Nat) : Int) = V.int 1) = true := by
          rw [r_gcd hb0]
          rfl
        rw [eg]
        exact k _
    · refine ⟨_, rfl, p, 8, rfl, P5, ⟨by decide, by decide⟩, fun v6 H6 _ _ P6 B6 => ⟨rfl, _, rfl, ite2 (fun _ => ?_) (fun _ => ?_)⟩⟩
      · exact hN _ _ ⟨0, by rw [← etop]; rfl, by decide⟩
      · exact hN _ _ ⟨z2 * (1 + v2), by rw [← etop]; rfl, hb1⟩
end
end O
namespace O
open PySem L2
/-! the end -/
theorem all_mk {K : PySem.W.Frag} {h : Heap} {mg : Str → Option Value} {fa : Addr} (X : K.In h) (G : h.Ns mainGlobals mg) (hfa : mg "law" = some (.ref fa))
    {f0 f1 f2 f3 f4 f5 f6 f7 COddsError CInvalidNumeral CZeroDivisor : Addr} {od0 an0 od1 an1 od2 an2 od3 an3 od4 an4 od5 an5 od6 an6 od7 an7 : Option Addr} {sl0 sl1 sl2 sl3 sl4 sl5 sl6 sl7 : Array (Option Value)} {oc0 kV0 dc0 pm0 cd0 ct0 oc1 kV1 dc1 pm1 cd1 ct1 oc2 kV2 dc2 pm2 cd2 ct2 oc3 kV3 dc3 pm3 cd3 ct3 oc4 kV4 dc4 pm4 cd4 ct4 oc5 kV5 dc5 pm5 cd5 ct5 oc6 kV6 dc6 pm6 cd6 ct6 oc7 kV7 dc7 pm7 cd7 ct7 : Value}
    (a0 : PySem.W.nsIn K mainGlobals "ratio" = some (some (.ref f0))) (l0 : K.lookup f0 = some ⟨oc0, od0, .func (PySem.W.fnOf "ratio" "ratio" (defArgs s_ratio) (defBody s_ratio) (defScope s_ratio) .none kV0 dc0 pm0 an0 cd0 ct0), sl0⟩) (c0 : PySem.W.codeIn K cd0 "ratio" = true) (k0 : PySem.W.keepIn K (.ref f0) = true)
    (a1 : PySem.W.nsIn K mainGlobals "_law_is_integer" = some (some (.ref f1))) (l1 : K.lookup f1 = some ⟨oc1, od1, .func (PySem.W.fnOf "_law_is_integer" "_law_is_integer" (defArgs s_law_is_integer) (defBody s_law_is_integer) (defScope s_law_is_integer) .none kV1 dc1 pm1 an1 cd1 ct1), sl1⟩) (c1 : PySem.W.codeIn K cd1 "_law_is_integer" = true) (k1 : PySem.W.keepIn K (.ref f1) = true)
    (a2 : PySem.W.nsIn K mainGlobals "_law_pool" = some (some (.ref f2))) (l2 : K.lookup f2 = some ⟨oc2, od2, .func (PySem.W.fnOf "_law_pool" "_law_pool" (defArgs s_law_pool) (defBody s_law_pool) (defScope s_law_pool) .none kV2 dc2 pm2 an2 cd2 ct2), sl2⟩) (c2 : PySem.W.codeIn K cd2 "_law_pool" = true) (k2 : PySem.W.keepIn K (.ref f2) = true)
    (a3 : PySem.W.nsIn K mainGlobals "_law_spread" = some (some (.ref f3))) (l3 : K.lookup f3 = some ⟨oc3, od3, .func (PySem.W.fnOf "_law_spread" "_law_spread" (defArgs s_law_spread) (defBody s_law_spread) (defScope s_law_spread) .none kV3 dc3 pm3 an3 cd3 ct3), sl3⟩) (c3 : PySem.W.codeIn K cd3 "_law_spread" = true) (k3 : PySem.W.keepIn K (.ref f3) = true)
    (a4 : PySem.W.nsIn K mainGlobals "_law_draw" = some (some (.ref f4))) (l4 : K.lookup f4 = some ⟨oc4, od4, .func (PySem.W.fnOf "_law_draw" "_law_draw" (defArgs s_law_draw) (defBody s_law_draw) (defScope s_law_draw) .none kV4 dc4 pm4 an4 cd4 ct4), sl4⟩) (c4 : PySem.W.codeIn K cd4 "_law_draw" = true) (k4 : PySem.W.keepIn K (.ref f4) = true)
    (a5 : PySem.W.nsIn K mainGlobals "_law_gcd" = some (some (.ref f5))) (l5 : K.lookup f5 = some ⟨oc5, od5, .func (PySem.W.fnOf "_law_gcd" "_law_gcd" (defArgs s_law_gcd) (defBody s_law_gcd) (defScope s_law_gcd) .none kV5 dc5 pm5 an5 cd5 ct5), sl5⟩) (c5 : PySem.W.codeIn K cd5 "_law_gcd" = true) (k5 : PySem.W.keepIn K (.ref f5) = true)
    (a6 : PySem.W.nsIn K mainGlobals "_law_number" = some (some (.ref f6))) (l6 : K.lookup f6 = some ⟨oc6, od6, .func (PySem.W.fnOf "_law_number" "_law_number" (defArgs s_law_number) (defBody s_law_number) (defScope s_law_number) .none kV6 dc6 pm6 an6 cd6 ct6), sl6⟩) (c6 : PySem.W.codeIn K cd6 "_law_number" = true) (k6 : PySem.W.keepIn K (.ref f6) = true)
    (a7 : PySem.W.nsIn K mainGlobals "law" = some (some (.ref f7))) (l7 : K.lookup f7 = some ⟨oc7, od7, .func (PySem.W.fnOf "law" "law" (defArgs s_law) (defBody s_law) (defScope s_law) .none kV7 dc7 pm7 an7 cd7 ct7), sl7⟩) (c7 : PySem.W.codeIn K cd7 "law" = true) (k7 : PySem.W.keepIn K (.ref f7) = true)
    (gOddsError : PySem.W.nsIn K mainGlobals "OddsError" = some (some (.ref COddsError))) (xOddsError : PySem.W.excIn K COddsError [.type "ValueError", .type "Exception", .type "BaseException", .type "object"] "ValueError.__new__" = true) (kkOddsError : PySem.W.keepIn K (.ref COddsError) = true) (bOddsError : PySem.W.subIn K (.ref COddsError) (.type "BaseException") = some true) (tOddsError : PySem.W.typeIn K (.ref COddsError) = some (.type "type")) (sOddsError : PySem.W.subIn K (.ref COddsError) (.ref COddsError) = some true)
    (gaOddsError : PySem.W.findIn K (.ref COddsError) "__getattribute__" = some (some (.builtin "BaseException.__getattribute__"))) (ggOddsError : PySem.W.findIn K (.ref COddsError) "__getattr__" = some none) (hdOddsError : PySem.W.hasDictIn K COddsError = true) (clOddsError : PySem.W.findIn K (.ref COddsError) "__class__" = some (some (.builtin "object.__class__"))) (mrOddsError : PySem.W.mroIn K COddsError (.type "object") = some true)
    (gInvalidNumeral : PySem.W.nsIn K mainGlobals "InvalidNumeral" = some (some (.ref CInvalidNumeral))) (xInvalidNumeral : PySem.W.excIn K CInvalidNumeral [.type "ValueError", .type "Exception", .type "BaseException", .type "object"] "ValueError.__new__" = true) (kkInvalidNumeral : PySem.W.keepIn K (.ref CInvalidNumeral) = true) (bInvalidNumeral : PySem.W.subIn K (.ref CInvalidNumeral) (.type "BaseException") = some true) (tInvalidNumeral : PySem.W.typeIn K (.ref CInvalidNumeral) = some (.type "type")) (sInvalidNumeral : PySem.W.subIn K (.ref CInvalidNumeral) (.ref CInvalidNumeral) = some true)
    (gaInvalidNumeral : PySem.W.findIn K (.ref CInvalidNumeral) "__getattribute__" = some (some (.builtin "BaseException.__getattribute__"))) (ggInvalidNumeral : PySem.W.findIn K (.ref CInvalidNumeral) "__getattr__" = some none) (hdInvalidNumeral : PySem.W.hasDictIn K CInvalidNumeral = true) (clInvalidNumeral : PySem.W.findIn K (.ref CInvalidNumeral) "__class__" = some (some (.builtin "object.__class__"))) (mrInvalidNumeral : PySem.W.mroIn K CInvalidNumeral (.type "object") = some true)
    (gZeroDivisor : PySem.W.nsIn K mainGlobals "ZeroDivisor" = some (some (.ref CZeroDivisor))) (xZeroDivisor : PySem.W.excIn K CZeroDivisor [.type "ValueError", .type "Exception", .type "BaseException", .type "object"] "ValueError.__new__" = true) (kkZeroDivisor : PySem.W.keepIn K (.ref CZeroDivisor) = true) (bZeroDivisor : PySem.W.subIn K (.ref CZeroDivisor) (.type "BaseException") = some true) (tZeroDivisor : PySem.W.typeIn K (.ref CZeroDivisor) = some (.type "type")) (sZeroDivisor : PySem.W.subIn K (.ref CZeroDivisor) (.ref CZeroDivisor) = some true)
    (gaZeroDivisor : PySem.W.findIn K (.ref CZeroDivisor) "__getattribute__" = some (some (.builtin "BaseException.__getattribute__"))) (ggZeroDivisor : PySem.W.findIn K (.ref CZeroDivisor) "__getattr__" = some none) (hdZeroDivisor : PySem.W.hasDictIn K CZeroDivisor = true) (clZeroDivisor : PySem.W.findIn K (.ref CZeroDivisor) "__class__" = some (some (.builtin "object.__class__"))) (mrZeroDivisor : PySem.W.mroIn K CZeroDivisor (.type "object") = some true)
    (spg : PySem.W.specialIn K (.builtin "object.__class__") "__get__" = some (some (.builtin "getset_descriptor.__get__"))) (spt : PySem.W.takesIn K (.builtin "object.__class__") = some true)
    (zisinstance : PySem.W.nsIn K mainGlobals "isinstance" = some none)
    (zint : PySem.W.nsIn K mainGlobals "int" = some none)
    (zbool : PySem.W.nsIn K mainGlobals "bool" = some none)
    (zlist : PySem.W.nsIn K mainGlobals "list" = some none)
    (zrange : PySem.W.nsIn K mainGlobals "range" = some none)
    (zlen : PySem.W.nsIn K mainGlobals "len" = some none)
    (zabs : PySem.W.nsIn K mainGlobals "abs" = some none)
    (ztuple : PySem.W.nsIn K mainGlobals "tuple" = some none)
    (mgcd : PySem.W.nsIn K mainGlobals "gcd" = some (some (.builtin "math.gcd")))
    (iZeroDivisorOddsError : PySem.W.kitOne K (.ref CZeroDivisor) (.ref COddsError) = some true)
    (iZeroDivisorInvalidNumeral : PySem.W.kitOne K (.ref CZeroDivisor) (.ref CInvalidNumeral) = some false) :
    ∃ A : At, A.a_law = fa ∧ (∀ (s : Shared) (v : Value), BindsTo s A.d_law ⟨[v], []⟩ [("script", v)]) ∧ Txt K mg A := by
  have e := hfa.symm.trans (PySem.W.mg_of X G a7)
  cases e
  have F0 := fun_mk (st := s_ratio) l0 c0 k0
  have b0 := F0.binds (ps := ["top", "bottom"]) fun _ _ _ _ _ _ us hl => match us, hl with | [_, _], _ => rfl
  have F1 := fun_mk (st := s_law_is_integer) l1 c1 k1
  have b1 := F1.binds (ps := ["actual"]) fun _ _ _ _ _ _ us hl => match us, hl with | [_], _ => rfl
  have F2 := fun_mk (st := s_law_pool) l2 c2 k2
  have b2 := F2.binds (ps := ["script"]) fun _ _ _ _ _ _ us hl => match us, hl with | [_], _ => rfl
  have F3 := fun_mk (st := s_law_spread) l3 c3 k3
  have b3 := F3.binds (ps := ["cell"]) fun _ _ _ _ _ _ us hl => match us, hl with | [_], _ => rfl
  have F4 := fun_mk (st := s_law_draw) l4 c4 k4
  have b4 := F4.binds (ps := ["pool", "many"]) fun _ _ _ _ _ _ us hl => match us, hl with | [_, _], _ => rfl
  have F5 := fun_mk (st := s_law_gcd) l5 c5 k5
  have b5 := F5.binds (ps := ["a", "b"]) fun _ _ _ _ _ _ us hl => match us, hl with | [_, _], _ => rfl
  have F6 := fun_mk (st := s_law_number) l6 c6 k6
  have b6 := F6.binds (ps := ["pool", "most"]) fun _ _ _ _ _ _ us hl => match us, hl with | [_, _], _ => rfl
  have F7 := fun_mk (st := s_law) l7 c7 k7
  have b7 := F7.binds (ps := ["script"]) fun _ _ _ _ _ _ us hl => match us, hl with | [_], _ => rfl
  exact ⟨⟨f0, PySem.W.fnOf "ratio" "ratio" (defArgs s_ratio) (defBody s_ratio) (defScope s_ratio) .none kV0 dc0 pm0 an0 cd0 ct0, f1, PySem.W.fnOf "_law_is_integer" "_law_is_integer" (defArgs s_law_is_integer) (defBody s_law_is_integer) (defScope s_law_is_integer) .none kV1 dc1 pm1 an1 cd1 ct1, f2, PySem.W.fnOf "_law_pool" "_law_pool" (defArgs s_law_pool) (defBody s_law_pool) (defScope s_law_pool) .none kV2 dc2 pm2 an2 cd2 ct2, f3, PySem.W.fnOf "_law_spread" "_law_spread" (defArgs s_law_spread) (defBody s_law_spread) (defScope s_law_spread) .none kV3 dc3 pm3 an3 cd3 ct3, f4, PySem.W.fnOf "_law_draw" "_law_draw" (defArgs s_law_draw) (defBody s_law_draw) (defScope s_law_draw) .none kV4 dc4 pm4 an4 cd4 ct4, f5, PySem.W.fnOf "_law_gcd" "_law_gcd" (defArgs s_law_gcd) (defBody s_law_gcd) (defScope s_law_gcd) .none kV5 dc5 pm5 an5 cd5 ct5, f6, PySem.W.fnOf "_law_number" "_law_number" (defArgs s_law_number) (defBody s_law_number) (defScope s_law_number) .none kV6 dc6 pm6 an6 cd6 ct6, fa, PySem.W.fnOf "law" "law" (defArgs s_law) (defBody s_law) (defScope s_law) .none kV7 dc7 pm7 an7 cd7 ct7, COddsError, CInvalidNumeral, CZeroDivisor⟩, rfl, fun s v => .of_eq rfl,
    ⟨⟨F0, PySem.W.mg_of X G a0, b0⟩,
    ⟨F1, PySem.W.mg_of X G a1, b1⟩,
    ⟨F2, PySem.W.mg_of X G a2, b2⟩,
    ⟨F3, PySem.W.mg_of X G a3, b3⟩,
    ⟨F4, PySem.W.mg_of X G a4, b4⟩,
    ⟨F5, PySem.W.mg_of X G a5, b5⟩,
    ⟨F6, PySem.W.mg_of X G a6, b6⟩,
    ⟨F7, PySem.W.mg_of X G a7, b7⟩,
    ⟨PySem.W.mg_of X G gOddsError, xOddsError, kkOddsError, bOddsError, tOddsError, sOddsError, ⟨gaOddsError, ggOddsError, bOddsError, hdOddsError, clOddsError, spg, spt, mrOddsError⟩⟩,
    ⟨PySem.W.mg_of X G gInvalidNumeral, xInvalidNumeral, kkInvalidNumeral, bInvalidNumeral, tInvalidNumeral, sInvalidNumeral, ⟨gaInvalidNumeral, ggInvalidNumeral, bInvalidNumeral, hdInvalidNumeral, clInvalidNumeral, spg, spt, mrInvalidNumeral⟩⟩,
    ⟨PySem.W.mg_of X G gZeroDivisor, xZeroDivisor, kkZeroDivisor, bZeroDivisor, tZeroDivisor, sZeroDivisor, ⟨gaZeroDivisor, ggZeroDivisor, bZeroDivisor, hdZeroDivisor, clZeroDivisor, spg, spt, mrZeroDivisor⟩⟩,
    PySem.W.mg_none_of X G zisinstance,
    PySem.W.mg_none_of X G zint,
    PySem.W.mg_none_of X G zbool,
    PySem.W.mg_none_of X G zlist,
    PySem.W.mg_none_of X G zrange,
    PySem.W.mg_none_of X G zlen,
    PySem.W.mg_none_of X G zabs,
    PySem.W.mg_none_of X G ztuple,
    PySem.W.mg_of X G mgcd,
    iZeroDivisorOddsError,
    iZeroDivisorInvalidNumeral⟩⟩
theorem walk {l : PySem.W.OpenLaw} {q : Program} {loose : List Str} {XP : (Str → Option Value) → Heap → Prop} {YP : World → Heap → Prop} {d : DefRec} {K : Params → PySem.W.Frag} (hn : l.most = some 63) (hdf : d.params.defaults = [])
    (hY : ∀ (w : World) (h : Heap), YP w h → (K w.params).In h)
    (F : ∀ (w : World) (mg : Str → Option Value) (fa : Addr) (h : Heap), (K w.params).In h → h.Ns mainGlobals mg → mg d.name = some (.ref fa) →
      ∃ A : At, A.a_law = fa ∧ (∀ (s : Shared) (v : Value), BindsTo s A.d_law ⟨[v], []⟩ [("script", v)]) ∧ Txt (K w.params) mg A) :
    PySem.W.WalkO q loose XP YP l.row.toRowW d [] (fun f vs => PySem.call f vs) :=
  L2.walk_of (n := 63) (k := 5) (x := "script") (CX := fun _ => CX0) (sp := fun w => spLaw (K w.params)) hn (by decide) hdf ⟨rfl, by decide, by decide⟩ hY
    (fun w mg fa h X G e => by
      obtain ⟨A, rfl, hb, T⟩ := F w mg fa h X G e
      exact ⟨A.d_law, hb, fun base _ _ => ok_law T⟩)
    (fun _ _ a ns hl _ hS => ⟨a, ns, rfl, hS, hl, fun _ => rfl⟩) fun _ _ _ _ _ z => z
end O
open PySem PySem.W PyProof.Rows
set_option maxRecDepth 100000 in
set_option maxHeartbeats 0 in
theorem PySem.Challenge.cw_odds_k03_ratio_in_lowest_terms_holds : PySem.Challenge.rw_odds_k03_ratio_in_lowest_terms.Holds := by
  w_on; o_law; k_head; (case hw => w_witness2)
  k_fill
  refine O.walk (l := PySem.Challenge.rw_odds_k03_ratio_in_lowest_terms) rfl rfl (fun w h Y => PySem.W.kIn_of Y) ?F
  case F =>
    intro w mg fa h KX G hmg
    refine' O.all_mk KX G hmg ?a0 ?l0 ?c0 ?k0 ?a1 ?l1 ?c1 ?k1 ?a2 ?l2 ?c2 ?k2 ?a3 ?l3 ?c3 ?k3 ?a4 ?l4 ?c4 ?k4 ?a5 ?l5 ?c5 ?k5 ?a6 ?l6 ?c6 ?k6 ?a7 ?l7 ?c7 ?k7 ?gOddsError ?xOddsError ?kkOddsError ?bOddsError ?tOddsError ?sOddsError ?gaOddsError ?ggOddsError ?hdOddsError ?clOddsError ?mrOddsError ?gInvalidNumeral ?xInvalidNumeral ?kkInvalidNumeral ?bInvalidNumeral ?tInvalidNumeral ?sInvalidNumeral ?gaInvalidNumeral ?ggInvalidNumeral ?hdInvalidNumeral ?clInvalidNumeral ?mrInvalidNumeral ?gZeroDivisor ?xZeroDivisor ?kkZeroDivisor ?bZeroDivisor ?tZeroDivisor ?sZeroDivisor ?gaZeroDivisor ?ggZeroDivisor ?hdZeroDivisor ?clZeroDivisor ?mrZeroDivisor ?spg ?spt ?zisinstance ?zint ?zbool ?zlist ?zrange ?zlen ?zabs ?ztuple ?mgcd ?iZeroDivisorOddsError ?iZeroDivisorInvalidNumeral
    (case a0 => k_is)
    (case l0 => k_is)
    (case c0 => k_is)
    (case k0 => k_is)
    (case a1 => k_is)
    (case l1 => k_is)
    (case c1 => k_is)
    (case k1 => k_is)
    (case a2 => k_is)
    (case l2 => k_is)
    (case c2 => k_is)
    (case k2 => k_is)
    (case a3 => k_is)
    (case l3 => k_is)
    (case c3 => k_is)
    (case k3 => k_is)
    (case a4 => k_is)
    (case l4 => k_is)
    (case c4 => k_is)
    (case k4 => k_is)
    (case a5 => k_is)
    (case l5 => k_is)
    (case c5 => k_is)
    (case k5 => k_is)
    (case a6 => k_is)
    (case l6 => k_is)
    (case c6 => k_is)
    (case k6 => k_is)
    (case a7 => k_is)
    (case l7 => k_is)
    (case c7 => k_is)
    (case k7 => k_is)
    (case gOddsError => k_is)
    (case xOddsError => k_exc)
    (case kkOddsError => k_is)
    (case bOddsError => k_is)
    (case tOddsError => k_is)
    (case sOddsError => first | rfl | k_is)
    (case gaOddsError => k_is)
    (case ggOddsError => k_is)
    (case hdOddsError => k_is)
    (case clOddsError => k_is)
    (case mrOddsError => k_is)
    (case gInvalidNumeral => k_is)
    (case xInvalidNumeral => k_exc)
    (case kkInvalidNumeral => k_is)
    (case bInvalidNumeral => k_is)
    (case tInvalidNumeral => k_is)
    (case sInvalidNumeral => first | rfl | k_is)
    (case gaInvalidNumeral => k_is)
    (case ggInvalidNumeral => k_is)
    (case hdInvalidNumeral => k_is)
    (case clInvalidNumeral => k_is)
    (case mrInvalidNumeral => k_is)
    (case gZeroDivisor => k_is)
    (case xZeroDivisor => k_exc)
    (case kkZeroDivisor => k_is)
    (case bZeroDivisor => k_is)
    (case tZeroDivisor => k_is)
    (case sZeroDivisor => first | rfl | k_is)
    (case gaZeroDivisor => k_is)
    (case ggZeroDivisor => k_is)
    (case hdZeroDivisor => k_is)
    (case clZeroDivisor => k_is)
    (case mrZeroDivisor => k_is)
    (case spg => k_is)
    (case spt => k_is)
    (case zisinstance => k_is)
    (case zint => k_is)
    (case zbool => k_is)
    (case zlist => k_is)
    (case zrange => k_is)
    (case zlen => k_is)
    (case zabs => k_is)
    (case ztuple => k_is)
    (case mgcd => k_is)
    (case iZeroDivisorOddsError => first | kit_is | k_is)
    (case iZeroDivisorInvalidNumeral => first | kit_is | k_is)
