import PyProof.Rows.All
import Wide.All
import OpenK.AllK
import Wide.FinOn
import HandS.ForMost
import HandS.EndBits
import HandS.Set
import HandS.SetFor
import HandS.IsInst
import PyProof.ReprRoads
import PyProof.EqAt
import PyProof.EqKinds
import PyProof.TupleCall
import HandS.Walk
import HandS.Conv
import HandS.Style
import HandS.TupAny
import KE.KSortedM
import KE.SortData
import KE.DataCmp
import PyProof.Rows.RuleB_bool
import PySem.Challenge.RW_handsorted_k02_order_by_rules
set_option Elab.async false
set_option linter.all false
set_option maxRecDepth 100000
set_option maxHeartbeats 8000000
namespace Hk
open PySem L2 PySem.Spec PyProof.Rows
def top (i : Nat) : Stmt := PySem.Challenge.pw_handsorted_k02_order_by_rules.main.body.getD i (.Pass ⟨0, 0, 0, 0⟩)
abbrev sKey : Stmt := top 1
abbrev sCompare : Stmt := top 2
abbrev sRuleOrder : Stmt := top 3
abbrev sDeck : Stmt := top 5
abbrev sDraw : Stmt := top 6
abbrev sChoose : Stmt := top 7
abbrev sShuf : Stmt := top 8
abbrev sFields : Stmt := top 9
abbrev sIds : Stmt := top 10
abbrev sRule : Stmt := top 11
abbrev sSign : Stmt := top 12
abbrev sSorted : Stmt := top 13
abbrev sLaw : Stmt := top 14
/-! ### numbers of any size -/
def CPowG (i j : Int) : Prop := 0 ≤ j ∧ (Builtin.Int.intBits i : Int) * j ≤ 2 ^ 27
section
variable {X : Cx}
theorem op_mulG : OpR X (binaryOp .Mult) (rI IntMulOk fun i j => .int (i * j)) := opI fun _ _ _ _ _ _ _ hc q => mul_int q hc
theorem op_powG : OpR X (binaryOp .Pow) (rI CPowG fun i j => .int (i ^ j.toNat)) := opI fun _ _ _ _ _ _ _ hc q => pow_int hc.1 hc.2 q
end
theorem mulOk_bits {i j : Int} {a b : Nat} (ha : Builtin.Int.intBits i ≤ a) (hb : Builtin.Int.intBits j ≤ b) (h : a + b ≤ 100000000) : IntMulOk i j := by
  have e : bitsLine = 134217728 := by decide
  unfold IntMulOk
  intro z
  rw [Bool.and_eq_true] at z
  have z2 := z.2
  unfold Builtin.Int.intTooBig at z2
  have z3 := of_decide_eq_true z2
  rw [e] at z3
  omega
theorem bits_le {i : Int} {n : Nat} (h : i.natAbs < 2 ^ n) : Builtin.Int.intBits i ≤ n := intBits_le h
/-- the turn of the deck's loop -/
theorem turn_bits {m e : Int} {k : Nat} (h0 : 0 ≤ m) (h1 : m < 2147483600) (he : Builtin.Int.intBits e ≤ k) (hk : 30 ≤ k) :
    Builtin.Int.intBits (m * 20011 + e * e + 13) ≤ 2 * k + 1 := by
  refine bits_le ?_
  have a1 : e.natAbs < 2 ^ k := Nat.lt_of_lt_of_le (natAbs_lt_pow_bits e) (Nat.pow_le_pow_right (by omega) he)
  have a2 : (e * e).natAbs < 2 ^ (2 * k) := by
    rw [Int.natAbs_mul, Nat.two_mul, Nat.pow_add]
    exact Nat.mul_lt_mul'' a1 a1
  have a3 : (m * 20011 + 13).natAbs < 2 ^ 60 := by
    have : (2 : Nat) ^ 60 = 1152921504606846976 := by decide
    omega
  have a4 : (2 : Nat) ^ 60 ≤ 2 ^ (2 * k) := Nat.pow_le_pow_right (by omega) (by omega)
  have a5 : (2 : Nat) ^ (2 * k + 1) = 2 ^ (2 * k) + 2 ^ (2 * k) := by rw [Nat.pow_succ, Nat.mul_two]
  rw [a5]
  generalize (2 : Nat) ^ (2 * k) = B at *
  generalize e * e = q at *
  omega
/-! ### the deck -/
def dk (x y : Int) : List (Key × V) := [(.inr "digits", .int x), (.inr "mixed", .int y)]
def DeckAt (H : Hp) (d : Addr) : Prop := ∃ x y : Int, H d = some (.dK (dk x y)) ∧ 0 ≤ x ∧ 0 ≤ y ∧ y < 2147483600
/-- all that was tracked is as it was, but what stands at d -/
def But (d : Addr) (H H' : Hp) : Prop := ∀ b o, b ≠ d → H b = some o → H' b = some o
theorem But.refl (d : Addr) (H : Hp) : But d H H := fun _ _ _ h => h
theorem But.trans {d : Addr} {H H1 H2 : Hp} (a : But d H H1) (b : But d H1 H2) : But d H H2 := fun c o n h => b c o n (a c o n h)
theorem But.of {d : Addr} {H H' : Hp} (a : Same H H') : But d H H' := fun c o _ h => a c o h
theorem But.upd {d : Addr} {H : Hp} {o : HO} : But d H (upd H d o) := fun b u n h => by rw [upd_ne n]; exact h
theorem But.new {d p : Addr} {H : Hp} {o : HO} (h : H p = none) : But d H (L2.upd H p o) := fun b u n e => by rw [upd_ne (ne_of_none e h)]; exact e
theorem Same.new {p : Addr} {H : Hp} {o : HO} (h : H p = none) : Same H (L2.upd H p o) := fun b u e => by rw [upd_ne (ne_of_none e h)]; exact e
theorem DeckAt.same {H H' : Hp} {d : Addr} (D : DeckAt H d) (s : Same H H') : DeckAt H' d := let ⟨x, y, h, r⟩ := D; ⟨x, y, s _ _ h, r⟩
theorem dm_ : ¬ (("digits" : Str) = "mixed") := by decide +kernel
theorem md_ : ¬ (("mixed" : Str) = "digits") := by decide +kernel
theorem dk_digits (x y : Int) : valV (dk x y) (Sum.inr "digits" : Key) = some (.int x) := by
  unfold valV dk
  rw [List.find?_cons_of_pos]
  · rfl
  · exact decide_eq_true rfl
theorem dk_mixed (x y : Int) : valV (dk x y) (Sum.inr "mixed" : Key) = some (.int y) := by
  unfold valV dk
  rw [List.find?_cons_of_neg, List.find?_cons_of_pos]
  · rfl
  · exact decide_eq_true rfl
  · intro q
    exact dm_ (Sum.inr.inj (of_decide_eq_true q))
theorem dk_put_digits (x y z : Int) : putK (dk x y) (Sum.inr "digits" : Key) (.int z) = dk z y := by
  unfold putK dk
  have n : ¬ (Sum.inr "mixed" : Key) = (Sum.inr "digits" : Key) := fun q => md_ (Sum.inr.inj q)
  simp only [List.any_cons, decide_true, Bool.true_or, if_true, List.map_cons, List.map_nil, if_neg n]
theorem dk_put_mixed (x y z : Int) : putK (dk x y) (Sum.inr "mixed" : Key) (.int z) = dk x z := by
  unfold putK dk
  have n : ¬ (Sum.inr "digits" : Key) = (Sum.inr "mixed" : Key) := fun q => dm_ (Sum.inr.inj q)
  simp only [List.any_cons, decide_true, Bool.true_or, Bool.or_true, if_true, List.map_cons, List.map_nil, if_neg n]
theorem dk_merge (x y : Int) : mergeK [] [((Sum.inr "digits" : Key), V.int x), ((Sum.inr "mixed" : Key), V.int y)] = dk x y := by
  unfold mergeK putK dk
  have n : ¬ (Sum.inr "digits" : Key) = (Sum.inr "mixed" : Key) := fun q => dm_ (Sum.inr.inj q)
  simp only [List.foldl_cons, List.foldl_nil, List.any_nil, List.nil_append, List.any_cons, decide_eq_false n, Bool.or_self]
  rfl
structure TxtD (mg : Str → Option Value) : Prop where
  len : mg "len" = none
section
variable {P : Program} {w : World} {K : PySem.W.Frag} {mg : Str → Option Value} {base : Heap}
def spDeck (K : PySem.W.Frag) : Sp := fun vs H Q _ => ∃ (a : Addr) (ns : List Int) (st : Int), vs = [.ref a, .int st] ∧ SqL K H a (ns.map V.int) ∧ ns.length ≤ 63 ∧ (∀ z ∈ ns, Builtin.Int.intBits z ≤ 1048576) ∧ 0 ≤ st ∧ st ≤ 63 ∧
  ∀ (d : Addr) (H' : Hp), H d = none → Same H H' → DeckAt H' d → Q (.ref d) H'
theorem scDeck : FnScope ["script", "start", "mixed", "entry", "digits"] ["script", "start"] (defScope sDeck) := ⟨rfl, rfl, rfl, by decide +kernel, rfl, by decide +kernel, by decide +kernel⟩
theorem ok_deck {f : Addr} {fd : FuncData} (F : Fun K "_law_deck" "_law_deck" sDeck f fd) (T : TxtD mg) : FnOk P w K mg base CX0 1 f fd ["script", "start"] (spDeck K) := by
  refine F.ok scDeck (fun vs H Q E h => ?_) (fun cdv A outer s H vs Q E hr h => ?_)
  · obtain ⟨a, ns, st, rfl, _⟩ := h
    rfl
  · obtain ⟨a, ns, st, rfl, hS, hlen, hb, h0, h1, k⟩ := h
    have hu := hu_of hr
    refine ⟨_, pss_cons (ps_set (i := 2) scDeck.nd rfl (Or.inl rfl) (pe_op op_add pe_int (pe_op op_mul (pv 1) pe_int)))
      (pss_cons (ps_for PassesOwn.never rfl (pi_list (pv 0)) (pg_name (i := 3) scDeck.nd rfl (Or.inl rfl))
        (pss_one (ps_set (i := 2) scDeck.nd rfl (Or.inl rfl) (pe_op op_add (pe_op op_mod (pe_op op_powG (pe_op op_add (pe_op op_add (pe_op op_mul (pv 2) pe_int) (pe_op op_mulG (pv 3) (pv 3))) pe_int) pe_int) pe_int) pe_int))))
      (pss_cons (ps_set (i := 4) scDeck.nd rfl (Or.inl rfl) (pe_ifExp (PW.pt (pw_and (pt_cmpR op_lt (pv 1) (pe_callB call_len_seq (by rfl) T.len PySem.boot_len (pa_cons (pv 0) pa_nil)) (nomark _))
          (pw_and1 (pt_cmpR op_ge (pe_ix ix_list (pv 0) (pv 1) (fun _ _ => rfl)) (pe_op op_pow pe_int pe_int) (nomark _)))))
          (pe_op op_sub (pe_ix ix_list (pv 0) (pv 1) (fun _ _ => rfl)) (pe_op op_pow pe_int pe_int)) pe_int))
      (pss_one (ps_ret (pe_disp (pps_cons pe_str (pv 4) (pps_cons pe_str (pv 2) pps_nil)) (by rfl) (by rfl) (fun z => by cases z) (by decide)))))), ?_⟩
    refine ⟨_, rfl, _, _, rfl, rfl, .inr ⟨by decide, by decide⟩, _, _, rfl, rfl, ?_⟩
    refine ⟨_, rfl, a, rfl, ⟨_, hS⟩, for_list (K := K) (a := a) (xs := ns.map V.int) (fun i σ H' => ∃ (m : Int) (v : Option V), σ = [some (.ref a), some (.int st), some (.int m), v, none] ∧ H' = H ∧ 0 ≤ m ∧ m < 2147483600)
      ⟨_, none, rfl, rfl, by omega, by omega⟩ (fun i σ H' _ ⟨_, _, _, e, _⟩ => by rw [e]; exact hS) ?_ ?_⟩
    · rintro i y σ H' hi ⟨m, v, rfl, rfl, m0, m1⟩
      obtain ⟨e, he, rfl⟩ : ∃ e, e ∈ ns ∧ y = V.int e := by
        rw [List.getElem?_map] at hi
        cases q : ns[i]? with
        | none => rw [q] at hi; cases hi
        | some u => rw [q] at hi; exact ⟨u, List.mem_of_getElem? q, (Option.some.inj hi).symm⟩
      have hbits := hb e he
      have hT := turn_bits (k := 1048576) m0 m1 hbits (by decide)
      refine ⟨_, rfl, _, _, rfl, rfl, .inr ⟨by decide, by decide⟩, _, rfl, _, rfl, _, _, rfl, rfl, mulOk_bits hbits hbits (by decide), _, _, rfl, rfl, _, _, rfl, rfl, _, _, rfl, rfl, ⟨by decide, ?_⟩, _, _, rfl, rfl, (by show (0 : Int) < 2147483549; decide), _, _, rfl, rfl, ?_⟩
      · have z : (2 : Int) ^ 27 = 134217728 := by decide
        rw [z]
        generalize Builtin.Int.intBits (m * 20011 + e * e + 13) = B at hT ⊢
        omega
      · refine ⟨_, _, rfl, rfl, ?_, ?_⟩
        · have := Int.emod_nonneg ((m * 20011 + e * e + 13) ^ (2 : Int).toNat) (b := 2147483549) (by decide)
          generalize (m * 20011 + e * e + 13) ^ (2 : Int).toNat % 2147483549 = z at *
          omega
        · have := Int.emod_lt_of_pos ((m * 20011 + e * e + 13) ^ (2 : Int).toNat) (b := 2147483549) (by decide)
          generalize (m * 20011 + e * e + 13) ^ (2 : Int).toNat % 2147483549 = z at *
          omega
    · rintro σ H' ⟨m, v, rfl, rfl, m0, m1⟩
      have fin : ∀ (x : Int) (σ' : L2.St), 0 ≤ x → σ' = [some (.ref a), some (.int st), some (.int m), v, some (.int x)] →
          (tRet (tDisp [(tC (.str "digits"), tVar 4), (tC (.str "mixed"), tVar 2)])) { nx := fun _ H' => Q .non H', rt := Q } σ' H' := by
        rintro x σ' hx rfl
        intro p hp
        refine ⟨_, rfl, _, rfl, upd_same, [((Sum.inr "digits" : Key), V.int x), ((Sum.inr "mixed" : Key), V.int m)], rfl, (by show 2 ≤ 15; decide), ?_⟩
        rw [upd_upd, dk_merge]
        exact k p _ hp (Same.new hp) ⟨x, m, upd_same, hx, m0, m1⟩
      refine ⟨_, rfl, _, rfl, a, _, rfl, .inl hS, _, _, rfl, rfl, _, rfl, ?_⟩
      refine ite2 (fun hlt => ?_) (fun hlt => ?_)
      · have hlt' : st < (ns.map V.int).length := of_decide_eq_true hlt
        rw [List.length_map] at hlt'
        obtain ⟨n, rfl⟩ : ∃ n : Nat, st = (n : Int) := ⟨st.toNat, by omega⟩
        have hn : n < ns.length := by omega
        have hat : (ns.map V.int)[n]? = some (V.int ns[n]) := by rw [List.getElem?_map, List.getElem?_eq_getElem hn]; rfl
        refine ⟨_, rfl, _, rfl, a, _, _, _, rfl, rfl, hS, atI_nat hat, _, _, rfl, rfl, ⟨by decide, by decide, by decide⟩, _, _, rfl, rfl, _, rfl, ?_⟩
        refine ite2 (fun hge => ?_) (fun hge => ?_)
        · have hge' := of_decide_eq_true hge
          refine ⟨_, rfl, _, rfl, a, _, _, _, rfl, rfl, hS, atI_nat hat, _, _, rfl, rfl, ⟨by decide, by decide, by decide⟩, _, _, rfl, rfl, ?_⟩
          exact fin _ _ (by omega) rfl
        · exact fin 0 _ (Int.le_refl _) rfl
      · refine iteF ?_
        exact fin 0 _ (Int.le_refl _) rfl
end
theorem But.seq {d a : Addr} {H H' : Hp} {K : PySem.W.Frag} {xs : List V} (D : DeckAt H d) (s : But d H H') (h : SqL K H a xs) : SqL K H' a xs := by
  obtain ⟨x, y, hd, _⟩ := D
  rcases h with (h | ⟨o, h⟩) | h
  · exact .inl (.inl (s _ _ (ne_of h hd (by intro z; cases z)) h))
  · exact .inl (.inr ⟨o, s _ _ (ne_of h hd (by intro z; cases z)) h⟩)
  · exact .inr h
theorem But.lst {d a : Addr} {H H' : Hp} {xs : List V} (D : DeckAt H d) (s : But d H H') (h : H a = some (.lst xs)) : H' a = some (.lst xs) := by
  obtain ⟨x, y, hd, _⟩ := D
  exact s _ _ (ne_of h hd (by intro z; cases z)) h
theorem But.tup {d a : Addr} {H H' : Hp} {xs : List V} (D : DeckAt H d) (s : But d H H') (h : H a = some (.tup xs)) : H' a = some (.tup xs) := by
  obtain ⟨x, y, hd, _⟩ := D
  exact s _ _ (ne_of h hd (by intro z; cases z)) h
/-- new behind is new ahead -/
theorem But.free {d p : Addr} {H H' : Hp} (D : DeckAt H' d) (s : But d H H') (h : H' p = none) : H p = none := by
  obtain ⟨x, y, hd, _⟩ := D
  cases q : H p with
  | none => rfl
  | some o =>
    have := s _ _ (fun e => by rw [e, hd] at h; cases h) q
    rw [h] at this
    cases this
theorem pow6 : (10 : Int) ^ (6 : Int).toNat = 1000000 := by decide
section
variable {P : Program} {w : World} {K : PySem.W.Frag} {mg : Str → Option Value} {base : Heap}
/-! ### a draw -/
def spDraw : Sp := fun vs H Q _ => ∃ (d : Addr) (n : Int), vs = [.ref d, .int n] ∧ DeckAt H d ∧ 0 < n ∧ n < 1073741824 ∧ ∀ (r : Int) (H' : Hp), 0 ≤ r → r < n → DeckAt H' d → But d H H' → Q (.int r) H'
theorem scDraw : FnScope ["deck", "size", "found"] ["deck", "size"] (defScope sDraw) := ⟨rfl, rfl, rfl, by decide +kernel, rfl, by decide +kernel, by decide +kernel⟩
theorem ok_draw {f : Addr} {fd : FuncData} (F : Fun K "_law_draw" "_law_draw" sDraw f fd) : FnOk P w K mg base CX0 1 f fd ["deck", "size"] spDraw := by
  refine F.ok scDraw (fun vs H Q E h => ?_) (fun cdv A outer s H vs Q E hr h => ?_)
  · obtain ⟨d, n, rfl, _⟩ := h
    rfl
  · obtain ⟨d, n, rfl, ⟨x, y, hd, x0, y0, y1⟩, n0, n1, k⟩ := h
    have hu := hu_of hr
    refine ⟨_, pss_cons (ps_if (pt_cmpR op_ge (pe_dget hu (pv 0) pe_str (fun _ _ => rfl)) (pv 1) (nomark _))
        (pss_cons (ps_set (i := 2) scDraw.nd rfl (Or.inl rfl) (pe_op op_mod (pe_dget hu (pv 0) pe_str (fun _ _ => rfl)) (pv 1)))
        (pss_cons (ps_dput hu (pv 0) pe_str (pe_op op_fdiv (pe_dget hu (pv 0) pe_str (fun _ _ => rfl)) (pv 1)) rfl)
        (pss_one (ps_ret (pv 2))))) pss_nil)
      (pss_cons (ps_dput hu (pv 0) pe_str (pe_op op_mod (pe_op op_add (pe_op op_mul (pe_dget hu (pv 0) pe_str (fun _ _ => rfl)) pe_int) pe_int) pe_int) rfl)
      (pss_one (ps_ret (pe_op op_mod (pe_op op_fdiv (pe_op op_mod (pe_op op_pow (pe_op op_mod (pe_op op_pow (pe_dget hu (pv 0) pe_str (fun _ _ => rfl)) pe_int) pe_int) pe_int) pe_int) pe_int) (pv 1))))), ?_⟩
    have gx : ∀ {H : Hp} {x y : Int}, H d = some (.dK (dk x y)) → DGet H d (.str "digits") (some (.int x)) := fun {H x y} e => by
      have := DGet.k (k := Sum.inr "digits") e
      rw [dk_digits] at this
      exact this
    have gy : ∀ {H : Hp} {x y : Int}, H d = some (.dK (dk x y)) → DGet H d (.str "mixed") (some (.int y)) := fun {H x y} e => by
      have := DGet.k (k := Sum.inr "mixed") e
      rw [dk_mixed] at this
      exact this
    have px : ∀ {H : Hp} {x y z : Int}, H d = some (.dK (dk x y)) → DPut H d (.str "digits") (.int z) (upd H d (.dK (dk z y))) := fun {H x y z} e => by
      have := DPut.k (k := Sum.inr "digits") (v := .int z) e (by show 2 < sizeLine; decide)
      rw [dk_put_digits] at this
      exact this
    have py : ∀ {H : Hp} {x y z : Int}, H d = some (.dK (dk x y)) → DPut H d (.str "mixed") (.int z) (upd H d (.dK (dk x z))) := fun {H x y z} e => by
      have := DPut.k (k := Sum.inr "mixed") (v := .int z) e (by show 2 < sizeLine; decide)
      rw [dk_put_mixed] at this
      exact this
    refine ⟨_, rfl, d, _, rfl, gx hd, _, rfl, _, _, rfl, rfl, _, rfl, ?_⟩
    refine ite2 (fun c => ?_) (fun c => ?_)
    · refine ⟨_, rfl, d, _, rfl, gx hd, _, rfl, _, _, rfl, rfl, n0, ?_⟩
      refine ⟨_, rfl, d, _, rfl, gx hd, _, rfl, _, _, rfl, rfl, ⟨n0, n1⟩, _, rfl, d, _, rfl, px hd, ?_⟩
      exact ⟨_, rfl, k _ _ (Int.emod_nonneg _ (by omega)) (Int.emod_lt_of_pos _ n0) ⟨_, y, upd_same, Int.ediv_nonneg x0 (by omega), y0, y1⟩ But.upd⟩
    · have m0 := Int.emod_nonneg (y * 39373 + 2027) (b := 2147483549) (by decide)
      have m1 := Int.emod_lt_of_pos (y * 39373 + 2027) (b := 2147483549) (by decide)
      refine ⟨_, rfl, d, _, rfl, gy hd, _, _, rfl, rfl, .inr ⟨by decide, by decide⟩, _, _, rfl, rfl, _, _, rfl, rfl, (by show (0 : Int) < 2147483549; decide), _, rfl, d, _, rfl, py hd, ?_⟩
      refine ⟨_, rfl, d, _, rfl, gy upd_same, _, _, rfl, rfl, ⟨by decide, by decide, by omega⟩, _, _, rfl, rfl, (by show (0 : Int) < 2147483423; decide), ?_⟩
      have q0 := Int.emod_nonneg (((y * 39373 + 2027) % 2147483549) ^ (2 : Int).toNat) (b := 2147483423) (by decide)
      have q1 := Int.emod_lt_of_pos (((y * 39373 + 2027) % 2147483549) ^ (2 : Int).toNat) (b := 2147483423) (by decide)
      refine ⟨_, _, rfl, rfl, ⟨by decide, by decide, by omega⟩, _, _, rfl, rfl, (by show (0 : Int) < 998244353; decide), _, _, rfl, rfl, ⟨by decide, by decide⟩, _, rfl, _, _, rfl, rfl, n0, ?_⟩
      exact k _ _ (Int.emod_nonneg _ (by omega)) (Int.emod_lt_of_pos _ n0) ⟨x, _, upd_same, x0, m0, by omega⟩ But.upd
/-! ### one of some things -/
def spChoose (K : PySem.W.Frag) : Sp := fun vs H Q _ => ∃ (d t : Addr) (xs : List V), vs = [.ref d, .ref t] ∧ DeckAt H d ∧ SqL K H t xs ∧ xs ≠ [] ∧ xs.length < 1000000 ∧ ∀ (v : V) (H' : Hp), v ∈ xs → DeckAt H' d → But d H H' → Q v H'
theorem scChoose : FnScope ["deck", "things"] ["deck", "things"] (defScope sChoose) := ⟨rfl, rfl, rfl, by decide +kernel, rfl, by decide +kernel, by decide +kernel⟩
theorem ok_choose {f fD : Addr} {fd fdD : FuncData} (F : Fun K "_law_choose" "_law_choose" sChoose f fd) (T : TxtD mg) (FD : Fun K "_law_draw" "_law_draw" sDraw fD fdD) (bD : Binds K fdD ["deck", "size"] []) (mD : mg "_law_draw" = some (.ref fD)) :
    FnOk P w K mg base CX0 2 f fd ["deck", "things"] (spChoose K) := by
  have GD : FnOk P w K mg base CX0 1 fD fdD ["deck", "size"] spDraw := ok_draw FD
  refine F.ok scChoose (fun vs H Q E h => ?_) (fun cdv A outer s H vs Q E hr h => ?_)
  · obtain ⟨d, t, xs, rfl, _⟩ := h
    rfl
  · obtain ⟨d, t, xs, rfl, D, hS, h0, h1, k⟩ := h
    refine ⟨_, pss_one (ps_ret (pe_ix ix_list (pv 1) (pe_call GD hr rfl mD FD.kp bD .nil pass0 (pa_cons (pv 0) (pa_cons (pe_callB call_len_seq (by rfl) T.len PySem.boot_len (pa_cons (pv 1) pa_nil)) pa_nil))) (fun _ _ => rfl))), ?_⟩
    have hl : 0 < xs.length := List.length_pos_iff.mpr h0
    refine ⟨_, rfl, _, rfl, _, rfl, t, _, rfl, .inl hS, d, _, rfl, D, by omega, by omega, fun r H' r0 r1 D' B => ?_⟩
    obtain ⟨n, rfl⟩ : ∃ n : Nat, r = (n : Int) := ⟨r.toNat, by omega⟩
    have hn : n < xs.length := by omega
    have hat : xs[n]? = some xs[n] := List.getElem?_eq_getElem hn
    exact ⟨t, _, _, _, rfl, rfl, B.seq D hS, atI_nat hat, k _ _ (List.getElem_mem hn) D' B⟩
end
/-! ### the walk through the ids meets a free one -/
theorem len_le_of_sub : ∀ (xs ys : List Int), xs.Nodup → (∀ x ∈ xs, x ∈ ys) → xs.length ≤ ys.length
  | [], _, _, _ => Nat.zero_le _
  | x :: r, ys, hn, hs => by
    have hx : x ∈ ys := hs x List.mem_cons_self
    have hn' := List.nodup_cons.mp hn
    have ih := len_le_of_sub r (ys.erase x) hn'.2 fun z hz => (List.mem_erase_of_ne (fun e => hn'.1 (by rw [← e]; exact hz))).mpr (hs z (List.mem_cons_of_mem _ hz))
    have hl := List.length_erase_of_mem hx
    have : 0 < ys.length := List.length_pos_of_mem hx
    show r.length + 1 ≤ ys.length
    omega
def nx (z : Int) (i : Nat) : Int := (z - 1 + (i : Int)) % 1000000 + 1
theorem nx_zero {z : Int} (h0 : 1 ≤ z) (h1 : z ≤ 1000000) : nx z 0 = z := by unfold nx; omega
theorem nx_succ {z : Int} {i : Nat} : nx z i % 1000000 + 1 = nx z (i + 1) := by unfold nx; omega
theorem nx_lo (z : Int) (i : Nat) : 1 ≤ nx z i := by unfold nx; omega
theorem nx_hi (z : Int) (i : Nat) : nx z i ≤ 1000000 := by unfold nx; omega
theorem nx_inj {z : Int} {i j : Nat} (hi : i < 1000) (hj : j < 1000) (h : nx z i = nx z j) : i = j := by unfold nx at h; omega
theorem nx_few {z : Int} {js : List Int} {t : Nat} (ht : t ≤ 500) (h : ∀ i, i < t → nx z i ∈ js) : t ≤ js.length := by
  have a : ((List.range t).map (nx z)).Nodup := by
    refine List.pairwise_map.mpr ?_
    refine List.Pairwise.imp_of_mem ?_ (List.pairwise_lt_range (n := t))
    intro i j hi hj l e
    have q := nx_inj (by have := List.mem_range.mp hi; omega) (by have := List.mem_range.mp hj; omega) e
    omega
  have b := len_le_of_sub _ js a (fun x hx => by
    obtain ⟨i, hi, rfl⟩ := List.mem_map.mp hx
    exact h i (List.mem_range.mp hi))
  rw [List.length_map, List.length_range] at b
  exact b
theorem eqV_int (i j : Int) : eqV (.int i) (.int j) = decide (i = j) := by
  first
    | rfl
    | simp [eqV]
theorem inV_int (z : Int) (js : List Int) : inV (.int z) (js.map V.int) = decide (z ∈ js) := by
  unfold inV
  rw [List.any_map]
  induction js with
  | nil => rfl
  | cons a r ih =>
    rw [List.any_cons, ih]
    show (eqV (.int a) (.int z) || decide (z ∈ r)) = decide (z ∈ a :: r)
    rw [eqV_int]
    by_cases e : a = z
    · subst e
      simp
    · have e' : ¬ z = a := fun q => e q.symm
      simp [e, e']
theorem all_flat (js : List Int) : (js.map V.int).all flatV = true := by
  induction js with
  | nil => rfl
  | cons a r ih => exact ih
section
variable {P : Program} {w : World} {K : PySem.W.Frag} {mg : Str → Option Value} {base : Heap}
/-- so many different ids -/
def IdsL (js : List Int) : Prop := js.Nodup ∧ ∀ z ∈ js, 1 ≤ z ∧ z ≤ 1000000
def spIds : Sp := fun vs H Q _ => ∃ (d : Addr) (n : Nat), vs = [.ref d, .int n] ∧ DeckAt H d ∧ n ≤ 300 ∧
  ∀ (l : Addr) (js : List Int) (H' : Hp), H l = none → But d H H' → DeckAt H' d → H' l = some (.lst (js.map V.int)) → js.length = n → IdsL js → Q (.ref l) H'
theorem scIds : FnScope ["deck", "many", "found", "number"] ["deck", "many"] (defScope sIds) := ⟨rfl, rfl, rfl, by decide +kernel, rfl, by decide +kernel, by decide +kernel⟩
theorem ok_ids {f fD fC : Addr} {fd fdD fdC : FuncData} (F : Fun K "_law_ids" "_law_ids" sIds f fd) (T : TxtD mg) (FD : Fun K "_law_draw" "_law_draw" sDraw fD fdD) (bD : Binds K fdD ["deck", "size"] []) (mD : mg "_law_draw" = some (.ref fD))
    (FC : Fun K "_law_choose" "_law_choose" sChoose fC fdC) (bC : Binds K fdC ["deck", "things"] []) (mC : mg "_law_choose" = some (.ref fC)) :
    FnOk P w K mg base CX0 3 f fd ["deck", "many"] spIds := by
  have GD : FnOk P w K mg base CX0 1 fD fdD ["deck", "size"] spDraw := ok_draw FD
  have GC : FnOk P w K mg base CX0 2 fC fdC ["deck", "things"] (spChoose K) := ok_choose FC T FD bD mD
  refine F.ok scIds (fun vs H Q E h => ?_) (fun cdv A outer s H vs Q E hr h => ?_)
  · obtain ⟨d, n, rfl, _⟩ := h
    rfl
  · obtain ⟨d, n, rfl, D, n1, k⟩ := h
    have hr1 : Room 1 _ := hr.mono (by decide)
    refine ⟨_, pss_cons (ps_set (i := 2) scIds.nd rfl (Or.inl rfl) (pe_lst pa_nil))
      (pss_cons (ps_while PassesOwn.never (pt_cmpR op_lt (pe_callB call_len_seq (by rfl) T.len PySem.boot_len (pa_cons (pv 2) pa_nil)) (pv 1) (nomark _))
        (pss_cons (ps_set (i := 3) scIds.nd rfl (Or.inl rfl) (pe_call GC hr rfl mC FC.kp bC .nil pass0 (pa_cons (pv 0) (pa_cons (pe_lst
            (pa_cons (pe_op op_add pe_int (pe_call GD hr1 rfl mD FD.kp bD .nil pass0 (pa_cons (pv 0) (pa_cons pe_int pa_nil))))
            (pa_cons (pe_op op_add pe_int (pe_call GD hr1 rfl mD FD.kp bD .nil pass0 (pa_cons (pv 0) (pa_cons (pe_op op_pow pe_int pe_int) pa_nil))))
            (pa_cons (pe_op op_sub (pe_op op_pow pe_int pe_int) (pe_callB call_len_seq (by rfl) T.len PySem.boot_len (pa_cons (pv 2) pa_nil))) pa_nil)))) pa_nil))))
        (pss_cons (ps_while PassesOwn.never (pt_cmpR op_in_seq (pv 3) (pv 2) (by rfl))
          (pss_one (ps_set (i := 3) scIds.nd rfl (Or.inl rfl) (pe_op op_add (pe_op op_mod (pv 3) (pe_op op_pow pe_int pe_int)) pe_int))))
        (pss_one (ps_expr (pe_bm PySem.F.plainAttrs_list PySem.F.slot_list_append PySem.F.type_list_append mt_append (pv 2) (pa_cons (pv 3) pa_nil)))))))
      (pss_one (ps_ret (pv 2)))), ?_⟩
    refine ⟨Nat.zero_le _, fun l hl => ?_⟩
    have nld : l ≠ d := fun e => by obtain ⟨_, _, hd, _⟩ := D; rw [e, hd] at hl; cases hl
    refine ⟨fun m σ H' => ∃ (js : List Int) (v : Option V), σ = [some (.ref d), some (.int n), some (.ref l), v] ∧ m = n - js.length ∧ js.length ≤ n ∧ IdsL js ∧ H' l = some (.lst (js.map V.int)) ∧ DeckAt H' d ∧ But d H H',
      ⟨_, [], none, rfl, rfl, Nat.zero_le _, ⟨List.nodup_nil, fun z h => by cases h⟩, upd_same, D.same (Same.new hl), But.new hl⟩, ?_⟩
    rintro m σ H1 ⟨js, v, rfl, rfl, hlen, hI, hL, D1, B1⟩
    refine ⟨_, rfl, l, _, rfl, .inl (SqL.of hL), _, rfl, _, _, rfl, rfl, _, rfl, ?_⟩
    refine ite2 (fun c => ?_) (fun c => ?_)
    · have c' : ((js.map V.int).length : Int) < n := of_decide_eq_true c
      rw [List.length_map] at c'
      have c2 : js.length < n := by omega
      refine ⟨fun σ' H' => ∃ m', m' < n - js.length ∧ ∃ (js : List Int) (v : Option V), σ' = [some (.ref d), some (.int n), some (.ref l), v] ∧ m' = n - js.length ∧ js.length ≤ n ∧ IdsL js ∧ H' l = some (.lst (js.map V.int)) ∧ DeckAt H' d ∧ But d H H', fun _ _ z => z, ?_⟩
      -- number = _law_choose(deck, [..])
      refine ⟨_, rfl, ?_⟩
      refine ⟨_, rfl, d, 30, rfl, D1, by decide, by decide, fun r1 H2 r10 r11 D2 B2 => ?_⟩
      refine ⟨_, _, rfl, rfl, _, rfl, _, _, rfl, rfl, ⟨by decide, by decide, by decide⟩, d, _, rfl, D2, (by rw [pow6]; decide), (by rw [pow6]; decide), fun r2 H3 r20 r21 D3 B3 => ?_⟩
      rw [pow6] at r21
      have hL3 : H3 l = some (.lst (js.map V.int)) := B3.lst D2 (B2.lst D1 hL)
      refine ⟨_, _, rfl, rfl, _, _, rfl, rfl, ⟨by decide, by decide, by decide⟩, _, rfl, l, _, rfl, .inl (SqL.of hL3), _, _, rfl, rfl, ?_⟩
      refine ⟨by show 3 ≤ sizeLine; decide, fun p hp => ?_⟩
      have D4 : ∀ o, DeckAt (upd H3 p o) d := fun o => D3.same (Same.new hp)
      refine ⟨d, p, _, rfl, D4 _, SqL.of upd_same, (by intro z; cases z), (by show 3 < 1000000; decide), fun v H4 hv D5 B5 => ?_⟩
      have hL4 : H4 l = some (.lst (js.map V.int)) := B5.lst (D4 _) (by rw [upd_ne (ne_of_none hL3 hp)]; exact hL3)
      obtain ⟨z, rfl, z0, z1⟩ : ∃ z : Int, v = .int z ∧ 1 ≤ z ∧ z ≤ 1000000 := by
        rw [pow6, List.length_map] at hv
        rcases List.mem_cons.mp hv with e | hv
        · exact ⟨_, e, by omega, by omega⟩
        rcases List.mem_cons.mp hv with e | hv
        · exact ⟨_, e, by omega, by omega⟩
        rcases List.mem_cons.mp hv with e | hv
        · exact ⟨_, e, by omega, by omega⟩
        · cases hv
      -- while number in found
      refine ⟨fun m σ' H' => ∃ t : Nat, σ' = [some (.ref d), some (.int n), some (.ref l), some (.int (nx z t))] ∧ m = 400 - t ∧ H' = H4 ∧ (∀ i, i < t → nx z i ∈ js) ∧ t ≤ 400,
        ⟨_, 0, by rw [nx_zero z0 z1]; rfl, rfl, rfl, (fun i h => by omega), by omega⟩, ?_⟩
      rintro m σ' H' ⟨t, rfl, rfl, rfl, ht, ht4⟩
      refine ⟨_, rfl, _, rfl, l, _, rfl, .inl (SqL.of hL4), rfl, all_flat js, _, rfl, ?_⟩
      rw [inV_int]
      refine ite2 (fun c => ?_) (fun c => ?_)
      · have hz : nx z t ∈ js := of_decide_eq_true c
        have few := nx_few (z := z) (js := js) (t := t + 1) (by omega) (fun i hi => by
          by_cases e : i = t
          · rw [e]; exact hz
          · exact ht i (by omega))
        refine ⟨fun σ'' H'' => ∃ m', m' < 400 - t ∧ ∃ t : Nat, σ'' = [some (.ref d), some (.int n), some (.ref l), some (.int (nx z t))] ∧ m' = 400 - t ∧ H'' = H' ∧ (∀ i, i < t → nx z i ∈ js) ∧ t ≤ 400, fun _ _ q => q, ?_⟩
        refine ⟨_, rfl, _, _, rfl, rfl, ⟨by decide, by decide, by decide⟩, _, _, rfl, rfl, (by show (0 : Int) < 10 ^ (6 : Int).toNat; rw [pow6]; decide), _, _, rfl, rfl, ?_⟩
        refine ⟨400 - (t + 1), by omega, t + 1, ?_, rfl, rfl, fun i hi => ?_, by omega⟩
        · rw [pow6]
          show [some (V.ref d), some (V.int n), some (V.ref l), some (V.int (nx z t % 1000000 + 1))] = _
          rw [nx_succ]
        · by_cases e : i = t
          · rw [e]; exact hz
          · exact ht i (by omega)
      · have hz : nx z t ∉ js := fun q => c (decide_eq_true q)
        refine ⟨_, rfl, .inl ⟨rfl, _, SqL.of hL4⟩, _, rfl, l, _, _, rfl, rfl, hL4, (by rw [List.length_map]; exact small1000 (by omega)), ?_⟩
        refine ⟨n - (js.length + 1), by omega, js ++ [nx z t], some (.int (nx z t)), rfl, by rw [List.length_append]; rfl, by rw [List.length_append]; exact c2, ⟨?_, ?_⟩, ?_, ?_, ?_⟩
        · refine List.nodup_append.mpr ⟨hI.1, by simp, ?_⟩
          intro a ha b hb e
          have : b = nx z t := by simpa using hb
          rw [e, this] at ha
          exact hz ha
        · intro y hy
          rcases List.mem_append.mp hy with h | h
          · exact hI.2 y h
          · have : y = nx z t := by simpa using h
            rw [this]
            exact ⟨nx_lo _ _, nx_hi _ _⟩
        · rw [upd_same, List.map_append]; rfl
        · obtain ⟨x, y, hd, r⟩ := D5
          exact ⟨x, y, by rw [upd_ne nld.symm]; exact hd, r⟩
        · intro b o hb e
          have nb : b ≠ l := ne_of_none e hl
          rw [upd_ne nb]
          have e4 := B3 b o hb (B2 b o hb (B1 b o hb e))
          exact B5 b o hb (by rw [upd_ne (ne_of_none e4 hp)]; exact e4)
    · have c' : ¬ ((js.map V.int).length : Int) < n := fun q => c (decide_eq_true q)
      rw [List.length_map] at c'
      exact ⟨_, rfl, k l js H1 hl B1 D1 hL (by omega) hI⟩
end
/-! ### sets of ints -/
/-- S is the set of the ints ns, n their number -/
def SetIs (ns : List Int) (S : Int → Bool) (n : Nat) : Prop := (∀ k, S k = decide (k ∈ ns)) ∧ ∃ L : List Int, L.Nodup ∧ L.length = n ∧ ∀ k, k ∈ L ↔ k ∈ ns
theorem shorter : ∀ ns : List Int, ¬ ns.Nodup → ∃ ms : List Int, ms.length < ns.length ∧ ∀ k ∈ ns, k ∈ ms
  | [], h => absurd List.nodup_nil h
  | a :: r, h => by
    by_cases ha : a ∈ r
    · exact ⟨r, Nat.lt_succ_self _, fun k hk => by
        rcases List.mem_cons.mp hk with e | e
        · rw [e]; exact ha
        · exact e⟩
    · have hr : ¬ r.Nodup := fun q => h (List.nodup_cons.mpr ⟨ha, q⟩)
      obtain ⟨ms, h1, h2⟩ := shorter r hr
      exact ⟨a :: ms, Nat.succ_lt_succ h1, fun k hk => by
        rcases List.mem_cons.mp hk with e | e
        · rw [e]; exact List.mem_cons_self
        · exact List.mem_cons_of_mem _ (h2 k e)⟩
theorem SetIs.count {ns : List Int} {S : Int → Bool} {n : Nat} (h : SetIs ns S n) : ((n : Int) = (ns.length : Int)) ↔ ns.Nodup := by
  obtain ⟨_, L, h1, h2, h3⟩ := h
  have a := len_le_of_sub L ns h1 fun k hk => (h3 k).mp hk
  constructor
  · intro e
    by_cases hN : ns.Nodup
    · exact hN
    · obtain ⟨ms, m1, m2⟩ := shorter ns hN
      have b := len_le_of_sub L ms h1 fun k hk => m2 k ((h3 k).mp hk)
      omega
  · intro hN
    have b := len_le_of_sub ns L hN fun k hk => (h3 k).mpr hk
    omega
theorem firstMet_nodup (val : Nat → Int) : ∀ i, (firstMet val i).Nodup
  | 0 => by rw [firstMet_zero]; exact List.nodup_nil
  | i + 1 => by
    rw [firstMet_succ]
    unfold step_dedup
    have ih := firstMet_nodup val i
    split
    · exact ih
    · rename_i h
      refine List.nodup_append.mpr ⟨ih, by simp, ?_⟩
      intro a ha b hb e
      have : b = val i := by simpa using hb
      refine h (List.any_eq_true.mpr ⟨a, ha, ?_⟩)
      rw [e, this]
      simp
theorem getD_range (ns : List Int) : (List.range ns.length).map (fun i => ns.getD i 0) = ns := by
  apply List.ext_getElem
  · simp
  · intro i h1 h2
    simp [List.getD, h2]
theorem firstMet_mem (ns : List Int) (k : Int) : k ∈ firstMet (fun i => ns.getD i 0) ns.length ↔ k ∈ ns := by
  have h := firstMet_any (fun i => ns.getD i 0) ns.length k
  rw [getD_range] at h
  have e : ∀ l : List Int, (l.any (· == k) = true) ↔ k ∈ l := fun l => by
    rw [List.any_eq_true]
    constructor
    · rintro ⟨x, hx, q⟩
      have : x = k := by simpa using q
      rw [← this]; exact hx
    · intro hk
      exact ⟨k, hk, by simp⟩
  rw [← e, ← e, h]
def rSetI (K : PySem.W.Frag) : List V → Hp → VK → Prop := fun xs H Q => ∃ (p : Addr) (ns : List Int), xs = [.ref p] ∧ (SqL K H p (ns.map V.int) ∨ SqT K H p (ns.map V.int)) ∧ ns.length ≤ 4000 ∧
  ∀ (q : Addr) (S : Int → Bool) (n : Nat), H q = none → SetIs ns S n → n ≤ ns.length → Q (.ref q) (upd H q (.set S n))
section
variable {X : Cx}
theorem cr_setI (hc : X.calm = true) : CallR X (.type "set") (rSetI X.K) := by
  intro pins s σ H xs us Q I r h
  obtain ⟨p, ns, rfl, hq, hlen, k⟩ := h
  rw [Vals.ref1 r]
  have hs : scanBound = 4096 := rfl
  rcases hq with hq | hq
  · obtain ⟨its, rv, pl, hz⟩ := I.list hq
    have hl := rv.length
    rw [List.length_map] at hl
    refine call_set_list (I.ok.hd hc) pl.isList (ns := ns) (Vals.ints rv) (by rw [List.size_toArray, hs]; omega) fun h' tk R kk => ?_
    have esz : its.toArray.size = ns.length := by rw [List.size_toArray]; omega
    rw [esz] at R
    have hn := firstMet_mem ns
    have hset : SetIs ns (fun k' => (firstMet (fun i => ns.getD i 0) ns.length).any (· == k')) (firstMet (fun i => ns.getD i 0) ns.length).length := by
      refine ⟨fun k => ?_, _, firstMet_nodup _ _, rfl, hn⟩
      rw [Bool.eq_iff_iff, decide_eq_true_iff, ← hn k, List.any_eq_true]
      constructor
      · rintro ⟨x, hx, q⟩
        have : x = k := by simpa using q
        rw [← this]; exact hx
      · intro hk
        exact ⟨k, hk, by simp⟩
    have I' := I.laid (a := s.heap.objs.size) (o := .set _ _) (h' := h') (t' := tk) (fun b u e => kk b u (Heap.lt_size e) e) (Nat.le_refl _) R
    exact ⟨.ref _, _, I', rfl, k _ _ _ (I.hok.fresh (Nat.le_refl _)) hset (firstMet_length_le _ _)⟩
  · obtain ⟨its, rv, pl, hz⟩ := I.tuple hq
    have hl := rv.length
    rw [List.length_map] at hl
    refine call_set_tupI ns (I.ok.hd hc) pl (Vals.ints rv) (by rw [hs]; omega) fun h' tk c R hle kk => ?_
    have hset : SetIs ns (fun j => decide (j ∈ ns)) c := by
      obtain ⟨o, es, ep, t, h1, h2, h3, h4, h5, h6, h7, h8, h9, _⟩ := id R
      refine ⟨fun k => rfl, es.toList.map keyOf, h5, ?_, fun k => ?_⟩
      · rw [List.length_map, ← h9]; rfl
      · rw [← h6 k, decide_eq_true_iff]
    have I' := I.laid (a := s.heap.objs.size) (o := .set _ _) (h' := h') (t' := tk) (fun b u e => kk b u e) (Nat.le_refl _) (SetR.setOf R)
    exact ⟨.ref _, _, I', rfl, k _ _ _ (I.hok.fresh (Nat.le_refl _)) hset hle⟩
def rInSet (neg : Bool) : R2 := fun x y H Q => ∃ (k : Int) (a : Addr) (S : Int → Bool) (n : Nat), x = .int k ∧ y = .ref a ∧ H a = some (.set S n) ∧ Q (.bl (if neg then !S k else S k)) H
theorem op_inSet : OpR X (compareOp .In) (rInSet false) := by
  intro pins s σ H x y v u Q I rx ry h
  obtain ⟨k, a, S, n, rfl, rfl, ha, q⟩ := h
  cases ry
  obtain ⟨t, rfl⟩ := rx
  exact wpAny_inSet_of (knd := PySem.intKind X.prog X.w) (k := k) (by first | rfl | simp [PySem.intKind, Value.isInt]) rfl (I.hok a _ ha) ⟨.bl (S k), H, I.tok _, rfl, q⟩
theorem op_notInSet : OpR X (compareOp .NotIn) (rInSet true) := by
  intro pins s σ H x y v u Q I rx ry h
  obtain ⟨k, a, S, n, rfl, rfl, ha, q⟩ := h
  cases ry
  obtain ⟨t, rfl⟩ := rx
  exact wpAny_notInSet_of (knd := PySem.intKind X.prog X.w) (k := k) (by first | rfl | simp [PySem.intKind, Value.isInt]) rfl (I.hok a _ ha) ⟨.bl (!S k), H, I.tok _, rfl, q⟩
theorem call_lenSet : CallR X (.builtin "len") (fun xs H Q => ∃ a S n, xs = [.ref a] ∧ H a = some (.set S n) ∧ Q (.int n) H) := by
  intro pins s σ H xs us Q I r h
  obtain ⟨a, S, n, rfl, ha, q⟩ := h
  rw [Vals.ref1 r]
  obtain ⟨o, es, ep, t, h1, h2, h3, h4, h5, h6, h7, h8⟩ := I.hok a _ ha
  have hs : scanBound = 4096 := rfl
  refine call_len_set h1 h2 h3 h7 (by omega) ?_
  rw [h8]
  exact ⟨.int n, H, (I.tok (s.toks + 1 + 1)), ⟨_, rfl⟩, q⟩
end
/-! ### data in the heap: flat things, lists, tuples, the empty dict -/
mutual
inductive DV (K : PySem.W.Frag) (H : Hp) : V → PyData → Prop
  | non : DV K H .non .none
  | bl (b : Bool) : DV K H (.bl b) (.bool b)
  | int (i : Int) : DV K H (.int i) (.int i)
  | str (x : Str) : DV K H (.str x) (.str x)
  | lst {a : Addr} {xs : List V} {ds : List PyData} : SqL K H a xs → DVs K H xs ds → DV K H (.ref a) (.list ds)
  | tup {a : Addr} {xs : List V} {ds : List PyData} : SqT K H a xs → DVs K H xs ds → DV K H (.ref a) (.tuple ds)
  | dk0 {a : Addr} : H a = some (.dK []) → DV K H (.ref a) (.dict [])
inductive DVs (K : PySem.W.Frag) (H : Hp) : List V → List PyData → Prop
  | nil : DVs K H [] []
  | cons {v : V} {vs : List V} {d : PyData} {ds : List PyData} : DV K H v d → DVs K H vs ds → DVs K H (v :: vs) (d :: ds)
end
section
variable {K : PySem.W.Frag} {H H' : Hp}
theorem DVs.length {vs : List V} {ds : List PyData} (h : DVs K H vs ds) : vs.length = ds.length := by
  induction vs generalizing ds with
  | nil => cases h; rfl
  | cons v r ih => cases h with | cons _ t => exact congrArg Nat.succ (ih t)
theorem DVs.at {vs : List V} {ds : List PyData} (h : DVs K H vs ds) : ∀ {i : Nat} {v : V}, vs[i]? = some v → ∃ d, ds[i]? = some d ∧ DV K H v d := by
  induction vs generalizing ds with
  | nil => intro i v e; simp at e
  | cons v r ih =>
    cases h with
    | cons p t =>
      intro i u e
      cases i with
      | zero => simp at e; subst e; exact ⟨_, rfl, p⟩
      | succ i => simp at e; obtain ⟨d, h1, h2⟩ := ih t e; exact ⟨d, by simpa using h1, h2⟩
theorem Same.sq {a : Addr} {xs : List V} (e : Same H H') (h : SqL K H a xs) : SqL K H' a xs := e.seq h
theorem Same.tq {a : Addr} {xs : List V} (e : Same H H') (h : SqT K H a xs) : SqT K H' a xs := by
  rcases h with (h | ⟨o, h⟩) | h
  · exact .inl (.inl (e _ _ h))
  · exact .inl (.inr ⟨o, e _ _ h⟩)
  · exact .inr h
mutual
theorem DV.same (e : Same H H') : ∀ {d : PyData} {v : V}, DV K H v d → DV K H' v d
  | _, _, .non => .non
  | _, _, .bl b => .bl b
  | _, _, .int i => .int i
  | _, _, .str x => .str x
  | _, _, .lst h t => .lst (Same.sq e h) (DVs.same e t)
  | _, _, .tup h t => .tup (Same.tq e h) (DVs.same e t)
  | _, _, .dk0 h => .dk0 (e _ _ h)
theorem DVs.same (e : Same H H') : ∀ {ds : List PyData} {vs : List V}, DVs K H vs ds → DVs K H' vs ds
  | _, _, .nil => .nil
  | _, _, .cons p t => .cons (DV.same e p) (DVs.same e t)
end
/-- a value's built-in type by its name -/
def TyD (K : PySem.W.Frag) (H : Hp) (x : V) : Prop := ∃ nm : String, TyX K H x (.type nm) ∧ ((nm = "NoneType" ∧ x = .non) ∨ (nm = "bool" ∧ ∃ b, x = .bl b) ∨ (nm = "int" ∧ ∃ i, x = .int i) ∨ (nm = "str" ∧ ∃ z, x = .str z) ∨
  (nm = "list" ∧ ∃ a, x = .ref a) ∨ (nm = "tuple" ∧ ∃ a, x = .ref a) ∨ (nm = "dict" ∧ ∃ a, x = .ref a))
theorem tyL {a : Addr} {xs : List V} (h : SqL K H a xs) : TyX K H (.ref a) (.type "list") := by
  rcases h with (h | ⟨o, h⟩) | ⟨o, _, _, h, c, _⟩
  · exact .base (.lst h)
  · exact .base (.frz h)
  · exact .kList h c
theorem tyT {a : Addr} {xs : List V} (h : SqT K H a xs) : TyX K H (.ref a) (.type "tuple") := by
  rcases h with (h | ⟨o, h⟩) | ⟨o, _, _, h, c, _⟩
  · exact .base (.tup h)
  · exact .fTuple h
  · exact .kTuple h c
theorem DV.ty {v : V} {d : PyData} (h : DV K H v d) : TyD K H v := by
  cases h with
  | non => exact ⟨_, .base .non, .inl ⟨rfl, rfl⟩⟩
  | bl b => exact ⟨_, .base (.bl b), .inr (.inl ⟨rfl, b, rfl⟩)⟩
  | int i => exact ⟨_, .base (.int i), .inr (.inr (.inl ⟨rfl, i, rfl⟩))⟩
  | str x => exact ⟨_, .base (.str x), .inr (.inr (.inr (.inl ⟨rfl, x, rfl⟩)))⟩
  | lst h t => exact ⟨_, tyL h, .inr (.inr (.inr (.inr (.inl ⟨rfl, _, rfl⟩))))⟩
  | tup h t => exact ⟨_, tyT h, .inr (.inr (.inr (.inr (.inr (.inl ⟨rfl, _, rfl⟩)))))⟩
  | dk0 h => exact ⟨_, .base (.dK h), .inr (.inr (.inr (.inr (.inr (.inr ⟨rfl, _, rfl⟩)))))⟩
end
def wholeV : V → Bool
  | .int _ => true
  | _ => false
def wholeD : PyData → Bool
  | .int _ => true
  | _ => false
theorem DV.whole {K : PySem.W.Frag} {H : Hp} {v : V} {d : PyData} (h : DV K H v d) : wholeV v = wholeD d := by cases h <;> rfl
structure TxtV (mg : Str → Option Value) : Prop where
  len : mg "len" = none
  isi : mg "isinstance" = none
  int : mg "int" = none
  bool : mg "bool" = none
  tuple : mg "tuple" = none
  set : mg "set" = none
  all : mg "all" = none
  list : mg "list" = none
def isTup : PyData → Bool
  | .tuple _ => true
  | _ => false
def isLst : PyData → Bool
  | .list _ => true
  | _ => false
theorem kb1 : kitB "NoneType" "tuple" = some false := by decide +kernel
theorem kb2 : kitB "NoneType" "list" = some false := by decide +kernel
theorem kb3 : kitB "bool" "tuple" = some false := by decide +kernel
theorem kb4 : kitB "bool" "list" = some false := by decide +kernel
theorem kb5 : kitB "int" "tuple" = some false := by decide +kernel
theorem kb6 : kitB "int" "list" = some false := by decide +kernel
theorem kb7 : kitB "str" "tuple" = some false := by decide +kernel
theorem kb8 : kitB "str" "list" = some false := by decide +kernel
theorem kb9 : kitB "list" "tuple" = some false := by decide +kernel
theorem kb10 : kitB "list" "list" = some true := by decide +kernel
theorem kb11 : kitB "tuple" "tuple" = some true := by decide +kernel
theorem kb12 : kitB "tuple" "list" = some false := by decide +kernel
theorem kb13 : kitB "dict" "tuple" = some false := by decide +kernel
theorem kb14 : kitB "dict" "list" = some false := by decide +kernel
theorem DV.kit {K : PySem.W.Frag} {H : Hp} {v : V} {d : PyData} (h : DV K H v d) : ∃ nm : String, TyX K H v (.type nm) ∧ PySem.W.kitOne K (.type nm) (.type "tuple") = some (isTup d) ∧ PySem.W.kitOne K (.type nm) (.type "list") = some (isLst d) := by
  cases h with
  | non => exact ⟨_, .base .non, kit_ty kb1, kit_ty kb2⟩
  | bl b => exact ⟨_, .base (.bl b), kit_ty kb3, kit_ty kb4⟩
  | int i => exact ⟨_, .base (.int i), kit_ty kb5, kit_ty kb6⟩
  | str x => exact ⟨_, .base (.str x), kit_ty kb7, kit_ty kb8⟩
  | lst h t => exact ⟨_, tyL h, kit_ty kb9, kit_ty kb10⟩
  | tup h t => exact ⟨_, tyT h, kit_ty kb11, kit_ty kb12⟩
  | dk0 h => exact ⟨_, .base (.dK h), kit_ty kb13, kit_ty kb14⟩
/-! ### the plain functions -/
def intOf : PyData → Int
  | .int i => i
  | _ => 0
theorem whole_all {K : PySem.W.Frag} {H : Hp} : ∀ {ds : List PyData} {vs : List V}, DVs K H vs ds → ds.all wholeD = true → vs = (ds.map intOf).map V.int
  | _, _, .nil, _ => rfl
  | d :: ds, v :: vs, .cons p t, h => by
    rw [List.all_cons, Bool.and_eq_true] at h
    rw [List.map_cons, List.map_cons, ← whole_all t h.2]
    cases p <;> first | rfl | (exact absurd h.1 (by intro q; cases q))
theorem DVs.wholes {K : PySem.W.Frag} {H : Hp} {ds : List PyData} {vs : List V} (h : DVs K H vs ds) {i : Nat} {v : V} (e : vs[i]? = some v) : ∃ d, ds[i]? = some d ∧ wholeV v = wholeD d ∧ TyD K H v := by
  obtain ⟨d, h1, h2⟩ := h.at e
  exact ⟨d, h1, h2.whole, h2.ty⟩
theorem take_snoc {α : Type} {l : List α} {i : Nat} {x : α} (h : l[i]? = some x) : l.take (i + 1) = l.take i ++ [x] := by
  rw [List.take_succ, h]; rfl
theorem lt_of_some {α : Type} {l : List α} {i : Nat} {x : α} (h : l[i]? = some x) : i < l.length := (List.getElem?_eq_some_iff.mp h).1
theorem cut_to (xs : List V) (k : Nat) : cutV xs none (some (k : Int)) = xs.take k := by
  unfold cutV
  rw [HT.sIx_none, HT.sIx_nat, List.drop_zero, Nat.sub_zero]
  rcases Nat.le_total k xs.length with h | h
  · rw [Nat.min_eq_left h]
  · rw [Nat.min_eq_right h, List.take_length, List.take_of_length_le h]
theorem cut_from (xs : List V) (k : Nat) : cutV xs (some (k : Int)) none = xs.drop k := by
  unfold cutV
  rw [HT.sIx_none, HT.sIx_nat]
  rcases Nat.le_total k xs.length with h | h
  · rw [Nat.min_eq_left h, ← List.length_drop, List.take_length]
  · rw [Nat.min_eq_right h, Nat.sub_self, List.take_zero, List.drop_of_length_le h]
theorem eqvAll_ints : ∀ xs ys : List Int, PyData.eqvAll (xs.map .int) (ys.map .int) = decide (xs = ys)
  | [], [] => by simp [PyData.eqvAll]
  | [], _ :: _ => by simp [PyData.eqvAll]
  | _ :: _, [] => by simp [PyData.eqvAll]
  | x :: xs, y :: ys => by
    rw [List.map_cons, List.map_cons, PyData.eqvAll, eqvAll_ints xs ys, PyData.eqv]
    by_cases h : x = y
    · subst h
      simp
    · simp [h]
theorem canLay_ints : ∀ xs : List Int, PyData.canLayAll0 (xs.map .int) = true
  | [] => by rw [List.map_nil, PyData.canLayAll0]
  | x :: xs => by rw [List.map_cons, PyData.canLayAll0, canLay_ints xs, PyData.canLay0]; rfl
theorem depthAll_ints : ∀ xs : List Int, PyData.depthAll (xs.map .int) ≤ 1
  | [] => by rw [List.map_nil, PyData.depthAll]; omega
  | x :: xs => by
    have := depthAll_ints xs
    rw [List.map_cons, PyData.depthAll, PyData.depth]
    omega
theorem shaped_ints (xs : List Int) : SeqAt.shaped (.list (xs.map .int)) = true := by
  unfold SeqAt.shaped
  rw [Bool.and_eq_true]
  refine ⟨?_, decide_eq_true ?_⟩
  · rw [PyData.canLay0]; exact canLay_ints xs
  · have := depthAll_ints xs
    rw [PyData.depth]
    omega
theorem DpAll.ints {K : PySem.W.Frag} {H : Hp} : ∀ xs : List Int, DpAll K H (xs.map V.int) (xs.map .int)
  | [] => .nil
  | x :: xs => .cons (.int x) (DpAll.ints xs)
def rEqL (K : PySem.W.Frag) : R2 := fun x y H Q => ∃ (p q : Addr) (xs ys : List Int), x = .ref p ∧ y = .ref q ∧ SqL K H p (xs.map V.int) ∧ SqL K H q (ys.map V.int) ∧ Q (.bl (decide (xs = ys))) H
def rNeL (K : PySem.W.Frag) : R2 := fun x y H Q => ∃ (p q : Addr) (xs ys : List Int), x = .ref p ∧ y = .ref q ∧ SqL K H p (xs.map V.int) ∧ SqL K H q (ys.map V.int) ∧ Q (.bl (!decide (xs = ys))) H
section
variable {X : Cx}
theorem op_eqL (hu : X.A.units + 64 < cLine) : OpR X (compareOp .Eq) (rEqL X.K) := by
  intro pins s σ H x y v u Q I rx ry h
  obtain ⟨p, q, xs, ys, rfl, rfl, h1, h2, k⟩ := h
  refine op_eqD hu pins s σ H _ _ v u Q I rx ry ⟨_, _, .lst h1 (DpAll.ints xs), .lst h2 (DpAll.ints ys), shaped_ints xs, shaped_ints ys, ?_⟩
  rw [PyData.eqv, eqvAll_ints]
  exact k
theorem op_neL (hu : X.A.units + 64 < cLine) : OpR X (compareOp .NotEq) (rNeL X.K) := by
  intro pins s σ H x y v u Q I rx ry h
  obtain ⟨p, q, xs, ys, rfl, rfl, h1, h2, k⟩ := h
  refine op_neD hu pins s σ H _ _ v u Q I rx ry ⟨_, _, .lst h1 (DpAll.ints xs), .lst h2 (DpAll.ints ys), shaped_ints xs, shaped_ints ys, ?_⟩
  rw [PyData.eqv, eqvAll_ints]
  exact k
end
theorem hu64 {A : Around} {k : Nat} (hr : Room k A) : A.units + 64 < cLine := by have := hr.un; omega
/-- behind Hd: all as it was but the deck at d, and these objects stand -/
def Fs (d : Addr) (Hd : Hp) (fs : List (Addr × HO)) (H' : Hp) : Prop := But d Hd H' ∧ DeckAt H' d ∧ ∀ p ∈ fs, p.1 ≠ d ∧ H' p.1 = some p.2
section
variable {d p p0 p1 p2 p3 p4 p5 : Addr} {Hd H1 H2 : Hp} {fs : List (Addr × HO)} {o o0 o1 o2 o3 o4 o5 : HO}
theorem Fs.start (D : DeckAt Hd d) : Fs d Hd [] Hd := ⟨But.refl _ _, D, fun _ h => by cases h⟩
theorem Fs.step (F : Fs d Hd fs H1) (D : DeckAt H2 d) (B : But d H1 H2) : Fs d Hd fs H2 := ⟨F.1.trans B, D, fun q hq => ⟨(F.2.2 q hq).1, B _ _ (F.2.2 q hq).1 (F.2.2 q hq).2⟩⟩
theorem Fs.same (F : Fs d Hd fs H1) (s : Same H1 H2) : Fs d Hd fs H2 := F.step (F.2.1.same s) (But.of s)
theorem Fs.add (F : Fs d Hd fs H1) (h : H1 p = some o) (n : ∀ x y, o ≠ .dK (dk x y)) : Fs d Hd ((p, o) :: fs) H1 := ⟨F.1, F.2.1, fun q hq => by
  rcases List.mem_cons.mp hq with e | e
  · subst e
    obtain ⟨x, y, hd, _⟩ := F.2.1
    exact ⟨ne_of h hd (n x y), h⟩
  · exact F.2.2 q e⟩
theorem Fs.new (F : Fs d Hd fs H1) (h : H1 p = none) (n : ∀ x y, o ≠ .dK (dk x y)) : Fs d Hd ((p, o) :: fs) (upd H1 p o) := (F.same (Same.new h)).add upd_same n
theorem Fs.skip (F : Fs d Hd fs H1) (h : H1 p = none) : Fs d Hd fs (upd H1 p o) := F.same (Same.new h)
theorem Fs.tail (F : Fs d Hd ((p, o) :: fs) H1) : Fs d Hd fs H1 := ⟨F.1, F.2.1, fun q hq => F.2.2 q (List.mem_cons_of_mem _ hq)⟩
theorem Fs.deck (F : Fs d Hd fs H1) : DeckAt H1 d := F.2.1
theorem Fs.g0 (F : Fs d Hd ((p0, o0) :: fs) H1) : H1 p0 = some o0 := (F.2.2 _ List.mem_cons_self).2
theorem Fs.g1 (F : Fs d Hd ((p0, o0) :: (p1, o1) :: fs) H1) : H1 p1 = some o1 := F.tail.g0
theorem Fs.g2 (F : Fs d Hd ((p0, o0) :: (p1, o1) :: (p2, o2) :: fs) H1) : H1 p2 = some o2 := F.tail.g1
theorem Fs.g3 (F : Fs d Hd ((p0, o0) :: (p1, o1) :: (p2, o2) :: (p3, o3) :: fs) H1) : H1 p3 = some o3 := F.tail.g2
theorem Fs.g4 (F : Fs d Hd ((p0, o0) :: (p1, o1) :: (p2, o2) :: (p3, o3) :: (p4, o4) :: fs) H1) : H1 p4 = some o4 := F.tail.g3
/-- what stood ahead of the deck stands -/
theorem Fs.old {H : Hp} (F : Fs d Hd fs H1) (hd : H d = none) (s : Same H Hd) : Same H H1 := fun b u h => F.1 b u (ne_of_none h hd) (s b u h)
end
theorem nl {xs : List V} : ∀ x y, HO.lst xs ≠ .dK (dk x y) := fun _ _ h => by cases h
theorem nt {xs : List V} : ∀ x y, HO.tup xs ≠ .dK (dk x y) := fun _ _ h => by cases h
theorem cut_mid (js : List Int) {f t : Nat} (h : f < js.length) : cutV (js.map V.int) (some (f : Int)) (some ((f : Int) + 1 + (t : Int))) = ((js.drop f).take (t + 1)).map V.int := by
  unfold cutV
  have e : (f : Int) + 1 + (t : Int) = ((f + 1 + t : Nat) : Int) := by omega
  rw [e, HT.sIx_nat, HT.sIx_nat, List.length_map, Nat.min_eq_left (by omega : f ≤ js.length), List.map_take, List.map_drop]
  rcases Nat.le_total (f + 1 + t) js.length with q | q
  · rw [Nat.min_eq_left q]
    congr 1
    omega
  · rw [Nat.min_eq_right q, List.take_of_length_le, List.take_of_length_le]
    · rw [List.length_drop, List.length_map]; omega
    · rw [List.length_drop, List.length_map]; omega
/-! ### defs that are called where no repr is under way (their context's guards are known to be none) -/
/-- the promise of a def, wherever no guard stands -/
structure FnG (P : Program) (w : World) (K : PySem.W.Frag) (mg : Str → Option Value) (base : Heap) (k : Nat) (f : Addr) (fd : FuncData) (ps : List Str) (sp : Sp) : Prop where
  len : ∀ vs H Q E, sp vs H Q E → vs.length = ps.length
  go : ∀ {A : Around} {outer : List Env} {s : Shared} {H : Hp} {args : Args} {us : List Value} {vs : List V} {Q : VK} {E : XK}, A.guards = some [] → Room k A → Env0 P w K mg base A outer s H →
    BindsTo s fd args (ps.zip us) → Vals vs us → sp vs H Q E → codeAny (model P w) A (.call (.ref f) args) (CR CX0 outer P w H s Q E) s
section
variable {P : Program} {w : World} {K : PySem.W.Frag} {mg : Str → Option Value} {base : Heap}
/-- by its body -/
theorem FnG.mk' {x qual : Str} {st : Stmt} {f : Addr} {fd : FuncData} {N ps : List Str} {k : Nat} {sp : Sp} (F : Fun K x qual st f fd) (S : FnScope N ps (defScope st)) (len : ∀ vs H Q E, sp vs H Q E → vs.length = ps.length)
    (body : ∀ (cdv : Value) (A : Around) (outer : List Env) (s : Shared) (H : Hp) (vs : List V) (Q : VK) (E : XK), (A.deeper (envOfC qual (defScope st) s.heap.objs.size f cdv)).guards = some [] → Room k (A.deeper (envOfC qual (defScope st) s.heap.objs.size f cdv)) → sp vs H Q E →
      ∃ t, PSs (cxOf CX0 P w K mg base N qual (defScope st) f cdv A outer s H E).nox (defBody st) t ∧ t { nx := fun _ H' => Q .non H', rt := Q } (start N vs) H) : FnG P w K mg base (k + 1) f fd ps sp := by
  obtain ⟨oc, od, kV, doc, pm, an, cdv, ct, osl, rfl, lk, hcd⟩ := F.ex
  refine ⟨len, ?_⟩
  intro A outer s H args us vs Q E hg hr en hb rel hsp
  have kept : ∀ b o, base.get? b = some o → s.heap.get? b = some o := fun b o q => (en.bs b o q).1
  have inK := en.mod.kin.keeps kept
  refine codeAny_call_function hr.depth (inK _ _ lk) rfl S.co S.gen rfl (PySem.W.codeRec_of inK hcd) (hb _ _ _ _ ?_)
  have kinds : ∀ q ∈ ps.zip us, (defScope st).names.lookup q.1 = some .local ∨ ((defScope st).names.lookup q.1 = some .cell ∧ ((cellsFrom (s.heap.objs.size + 1) (defScope st).names []).lookup q.1).isSome = true) := by
    rintro ⟨n, v⟩ hq
    exact (S.par n (List.of_mem_zip hq).1).elim .inl fun c => .inr ⟨c, PySem.W.cellsFrom_some _ _ _ (.inl c)⟩
  refine wpAny_newFunctionEnv_cells S.kind kinds fun env he s1 ic => ?_
  subst he
  obtain ⟨t, ht, hq⟩ := body cdv A outer s H vs Q E hg (hr.deeper _) hsp
  have I0 := inv_start (CX := CX0) (E := E) S hr.hd en (len _ _ _ _ hsp) rel ic
  refine ⟨(en.mod.nolimit.keeps kept).keeps ic.toInCall.keep, codeAny_func ?_⟩
  refine wpAny_mono (ht.nox.run [] s1 _ H _ I0 hq) ?_ fun _ _ z => z
  rintro (_ | _ | _ | u) s' hs
  · obtain ⟨σ', H', J, q⟩ := hs
    exact ⟨.non, H', J.os, J.bare, J.base, J.hok, rfl, q⟩
  · obtain ⟨_, _, _, q⟩ := hs
    exact q.elim
  · obtain ⟨_, _, _, q⟩ := hs
    exact q.elim
  · obtain ⟨v, σ', H', J, rv, q⟩ := hs
    exact ⟨v, H', J.os, J.bare, J.base, J.hok, rv, q⟩
end
section
variable {X : Cx} {k : Nat} {f : Addr} {fd : FuncData} {ps : List Str} {sp : Sp} {E : XK} {x : Str} {p pos : Pos} {e : Expr} {es : List Expr} {t : TA}
/-- such a def called by its name -/
theorem pe_callG (F : FnG X.prog X.w X.K X.mg X.base k f fd ps sp) (hg : X.A.guards = some []) (hr : Room k X.A) (hx : Gl X x) (hm : X.mg x = some (.ref f)) (hk : PySem.W.keepIn X.K (.ref f) = true) (hb : L2.Binds X.K fd ps [])
    (ha : PA X (e :: es) t) (hdb : (x == ("__debug__" : Str)) = false := by decide) (he : starEach (e :: es) X.env = (false, eval e X.env) :: starEach es X.env := by rfl) (hpl : (backTo pos (starEach es X.env)).any (·.1) = false := by rfl) :
    PE X (.Call (.Name x p) (e :: es) [] pos) (tCall sp [] E t) := by
  constructor
  intro pins s σ H Q I h
  have run : ∀ {us : List Value} {vs : List V} {H1 : Hp} {s1 : Shared}, Inv X pins σ H1 s1 → Vals vs us → sp (vs ++ []) H1 Q E → wpAny (model X.prog X.w) X.A (call (.ref f) us) (EP X pins σ Q) X.xe s1 := by
    intro us vs H1 s1 I1 r q
    rw [List.append_nil] at q
    have hl : us.length = ps.length := by rw [← r.length]; exact F.len _ _ _ _ q
    have bt := hb s1 us I1.kIn (by rw [List.append_nil]; exact hl)
    rw [List.append_nil] at bt
    refine wpAny_call (codeAny_mono (F.go hg hr I1.env0 bt r q) ?_)
    rintro (_ | (_ | _ | _ | u)) s2 z
    · exact z.elim
    · exact z.elim
    · exact z.elim
    · exact z.elim
    · exact I1.after z
  refine wpAny_Call_Name_kw (ld_glob I hx hm ?_ hdb)
  exact PySem.W.callWith_K (h₀ := X.base) I.ok.mod.kin hk (thn (ha.run pos pins s σ H _ I h) fun us s1 ⟨vs, H1, I1, r, q⟩ => ⟨I1.kIn, run I1 r q⟩) he hpl
end
/-! ### the end of a law whose def is such a def -/
/-- the heap of which nothing is known but the script -/
def justScript (K : PySem.W.Frag) (a : Addr) (vs : List Value) (ns : List Int) : Hp := fun b =>
  if b = a ∧ K.lookup a = none then some (.frz { cls := .type "list", data := .seq vs.toArray } (.lst (ns.map V.int))) else none
section
variable {P : Program} {w : World} {K : PySem.W.Frag} {mg mb : Str → Option Value} {k : Nat} {fa a : Addr} {fd : FuncData} {x : Str} {sp : Sp} {s₁ : Shared} {vs : List Value} {ns : List Int}
theorem js_out {b : Addr} (h : b ≠ a) : justScript K a vs ns b = none := if_neg fun z => h z.1
theorem js_some {b : Addr} {u : HO} (h : justScript K a vs ns b = some u) : b = a ∧ K.lookup a = none ∧ u = .frz { cls := .type "list", data := .seq vs.toArray } (.lst (ns.map V.int)) := by
  unfold justScript at h
  split at h
  · rename_i c
    exact ⟨c.1, c.2, (Option.some.inj h).symm⟩
  · cases h
theorem lawG (KX : K.In s₁.heap) (hns : s₁.heap.Ns mainGlobals mg) (hb : s₁.heap.Ns builtinsNs mb) (hbb : ∀ x : Str, x ≠ "__name__" → mb x = bootBuiltins x) (hlim : s₁.heap.NoLimit) (hg : s₁.gens = #[])
    (ha : s₁.heap.get? a = some { cls := .type "list", data := .seq vs.toArray }) (hi : IntsAre vs ns) (hl : ns.length ≤ sizeLine) (hr : Room k callerA)
    (F : ∀ base : Heap, K.In base → base.Ns mainGlobals mg → FnG P w K mg base k fa fd [x] sp) (hbind : ∀ (s : Shared) (u : Value), BindsTo s fd ⟨[u], []⟩ [(x, u)])
    (hsp : ∀ H : Hp, Only H → SqL K H a (ns.map V.int) → sp [.ref a] H (fun v _ => v = .bl true) fun _ _ _ => False) :
    codeAny (model P w) callerA (.call (.ref fa) ⟨[.ref a], []⟩) (fun r s' => r = .ok (.ret (.bool true)) ∧ OldK s₁.heap s'.heap ∧ s'.os = s₁.os ∧ AllBare s'.gens) s₁ := by
  have rv := L2.vals_ints hi
  have hlen := hi.length
  obtain ⟨H, hH⟩ : ∃ H, H = justScript K a vs ns := ⟨_, rfl⟩
  have hcases : ∀ b, H b = none ∨ (b = a ∧ K.lookup a = none ∧ H b = some (.frz { cls := .type "list", data := .seq vs.toArray } (.lst (ns.map V.int)))) := by
    intro b
    cases q : H b with
    | none => exact .inl rfl
    | some u =>
      rw [hH] at q
      obtain ⟨h1, h2, h3⟩ := js_some q
      exact .inr ⟨h1, h2, by rw [h3]⟩
  have only : Only H := fun b => (hcases b).imp id fun z => ⟨_, _, z.2.2⟩
  have list : SqL K H a (ns.map V.int) := by
    cases hk : K.lookup a with
    | none => exact .inl (.inr ⟨{ cls := .type "list", data := .seq vs.toArray }, by rw [hH]; exact if_pos ⟨rfl, hk⟩⟩)
    | some o =>
      have q := KX a o hk
      rw [ha] at q
      obtain rfl := Option.some.inj q
      exact .inr ⟨_, vs.toArray, _, hk, rfl, rfl, rfl, by rw [List.size_toArray, hlen]; exact hl, rv⟩
  have held : HOk P w H s₁.heap := by
    intro b u q
    rcases hcases b with z | ⟨rfl, _, z⟩
    · rw [z] at q; cases q
    · rw [z] at q
      obtain rfl := Option.some.inj q
      exact ⟨ha, by rw [List.length_map]; exact hl, vs, _, rv, ha⟩
  -- the rest of the heap, in which the module's facts stand
  have stay : ∀ {b : Addr} {o : Obj}, s₁.heap.get? b = some o → (b = a → K.lookup a ≠ none) → (hidT s₁.heap H).get? b = some o := by
    intro b o e n
    refine hidT_get e ?_
    rcases hcases b with z | ⟨e1, e2, _⟩
    · exact z
    · exact absurd e2 (n e1)
  have names : ∀ {b : Addr} {m : Str → Option Value}, s₁.heap.Ns b m → (hidT s₁.heap H).Ns b m := by
    rintro b m ⟨o, es, ep, e, d, r⟩
    refine ⟨o, es, ep, stay e ?_, d, r⟩
    rintro rfl
    rw [ha] at e
    obtain rfl := Option.some.inj e
    exact absurd d (by intro z; cases z)
  have kin : K.In (hidT s₁.heap H) := fun b o e => stay (KX b o e) fun q => by rw [← q, e]; exact fun z => by cases z
  obtain ⟨mc, l1, l2⟩ := hlim
  have mod : Mod K mg (hidT s₁.heap H) := ⟨kin, names hns, ⟨mb, names hb, hbb⟩, ⟨mc, names l1, l2⟩⟩
  have env : Env0 P w K mg (hidT s₁.heap H) callerA [] s₁ H := ⟨rfl, mod, fun b o e => of_hidT e, Nat.le_of_eq (hidT_size _ _), trivial, fun b z => (by exact absurd (show b ∈ ([] : List Addr) from z) (by simp)), held, .of_eq hg⟩
  have vr : Vals [V.ref a] [Value.ref a] := .cons (show RelV (.ref a) (.ref a) from rfl) .nil
  refine codeAny_mono ((F _ kin (names hns)).go (us := [.ref a]) rfl hr env (hbind s₁ (.ref a)) vr (hsp H only list)) ?_
  rintro (_ | (_ | _ | _ | u)) s' z
  · exact z.elim
  · exact z.elim
  · exact z.elim
  · exact z.elim
  · obtain ⟨v, H', os, bare, un, ok', r', q⟩ := z
    have q1 : v = .bl true := q
    subst q1
    have q2 : u = Value.bool true := r'
    subst q2
    refine ⟨rfl, OldK.of_keep fun b o e => ?_, os, bare⟩
    rcases hcases b with z | ⟨e1, _, z⟩
    · exact un.keep b o e z (fun z => absurd (show b ∈ ([] : List Addr) from z) (by simp)) (by simp)
    · obtain ⟨g, _⟩ := ok' b _ (un.frzs b _ _ z)
      obtain ⟨g0, _⟩ := held b _ z
      rw [g0] at e
      rw [← Option.some.inj e]
      exact g
end
theorem walkG {l : PySem.W.OpenLaw} {n k : Nat} {q : Program} {loose : List Str} {XP : (Str → Option Value) → Heap → Prop} {YP : World → Heap → Prop} {d : DefRec} {K : Params → PySem.W.Frag} {sp : PySem.W.Frag → Sp} {x : Str}
    (hn : l.most = some n) (hn2 : n ≤ sizeLine) (hdf : d.params.defaults = []) (hr : Room k callerA) (hY : ∀ (w : World) (h : Heap), YP w h → (K w.params).In h)
    (F : ∀ (w : World) (mg : Str → Option Value) (fa : Addr) (h : Heap), (K w.params).In h → h.Ns mainGlobals mg → mg d.name = some (.ref fa) →
      ∃ fd : FuncData, (∀ (s : Shared) (u : Value), BindsTo s fd ⟨[u], []⟩ [(x, u)]) ∧ ∀ base : Heap, (K w.params).In base → base.Ns mainGlobals mg → FnG l.prog w (K w.params) mg base k fa fd [x] (sp (K w.params)))
    (hsp : ∀ (K : PySem.W.Frag) (H : Hp) (a : Addr) (ns : List Int), ns.length ≤ n → (∀ z ∈ ns, Builtin.Int.intBits z ≤ 1048576) → SqL K H a (ns.map V.int) → sp K [.ref a] H (fun v _ => v = .bl true) fun _ _ _ => False) :
    PySem.W.WalkO q loose XP YP l.row.toRowW d [] (fun f vs => PySem.call f vs) := by
  refine Att.attach_callB hn hdf ?_
  intro w s₀ s₁ mg mb fa o pm cd doc a vs ns G Y ho hd hcd hmg hobj hints hlen hbits hg
  obtain ⟨fd, hb, hF⟩ := F w mg fa _ (hY w _ Y) G.T.g hmg
  exact lawG (hY w _ Y) G.T.g G.T.b G.T.builtins G.T.nolimit hg hobj hints (Nat.le_trans hlen hn2) hr hF hb fun H _ hS => hsp _ H a ns hlen hbits hS
/-! ### repr of data -/
mutual
/-- how long its text is at most -/
def szD : PyData → Nat
  | .none => 4
  | .bool _ => 5
  | .int _ => 301
  | .str x => (reprText x).length
  | .list xs => szAll xs + 2
  | .tuple xs => szAll xs + 3
  | .dict _ => 2
def szAll : List PyData → Nat
  | [] => 0
  | x :: xs => szD x + 2 + szAll xs
end
mutual
/-- ints of moderate size, no dict -/
def modD : PyData → Bool
  | .none | .bool _ | .str _ => true
  | .int i => decide (i.natAbs < 2 ^ 300)
  | .list xs | .tuple xs => modAll xs
  | .dict _ => false
def modAll : List PyData → Bool
  | [] => true
  | x :: xs => modD x && modAll xs
end
theorem log_of {i : Int} (h : i.natAbs < 2 ^ 300) : i.natAbs.log2 < 300 := PySem.Flt.log2_lt_of (by decide) h
mutual
theorem showable_of : ∀ d : PyData, modD d = true → d.showable = true
  | .none, _ => by rw [PyData.showable]
  | .bool _, _ => by rw [PyData.showable]
  | .str _, _ => by rw [PyData.showable]
  | .int i, h => by
    rw [modD] at h
    rw [PyData.showable]
    have := log_of (of_decide_eq_true h)
    exact decide_eq_true (by omega)
  | .list xs, h => by
    rw [modD] at h
    rw [PyData.showable]
    exact showableAll_of xs h
  | .tuple xs, h => by
    rw [modD] at h
    rw [PyData.showable]
    exact showableAll_of xs h
  | .dict _, h => by rw [modD] at h; cases h
theorem showableAll_of : ∀ xs : List PyData, modAll xs = true → PyData.showableAll xs = true
  | [], _ => by rw [PyData.showableAll]
  | x :: xs, h => by
    rw [modAll, Bool.and_eq_true] at h
    rw [PyData.showableAll, showable_of x h.1, showableAll_of xs h.2]
    rfl
end
mutual
theorem nodict_of : ∀ d : PyData, modD d = true → d.hasDict = false
  | .none, _ => by rw [PyData.hasDict]
  | .bool _, _ => by rw [PyData.hasDict]
  | .str _, _ => by rw [PyData.hasDict]
  | .int i, h => by rw [PyData.hasDict]
  | .list xs, h => by
    rw [modD] at h
    rw [PyData.hasDict]
    exact nodictAll_of xs h
  | .tuple xs, h => by
    rw [modD] at h
    rw [PyData.hasDict]
    exact nodictAll_of xs h
  | .dict _, h => by rw [modD] at h; cases h
theorem nodictAll_of : ∀ xs : List PyData, modAll xs = true → PyData.hasDictAll xs = false
  | [], _ => by rw [PyData.hasDictAll]
  | x :: xs, h => by
    rw [modAll, Bool.and_eq_true] at h
    rw [PyData.hasDictAll, nodict_of x h.1, nodictAll_of xs h.2]
    rfl
end
def pile : List Str → Nat
  | [] => 0
  | t :: r => t.length + 2 + pile r
theorem textFrom_le : ∀ (ts : List Str) (k : Nat) (acc : Str), (textFrom k acc ts).length ≤ acc.length + pile ts
  | [], k, acc => by show acc.length ≤ acc.length + 0; omega
  | t :: r, k, acc => by
    have ih := textFrom_le r (k + 1) (acc ++ (if k > 0 then ", " else "" : String) ++ t)
    have e : (acc ++ (if k > 0 then ", " else "" : String) ++ t).length ≤ acc.length + 2 + t.length := by
      rw [strLen_append, strLen_append]
      split
      · show acc.length + 2 + t.length ≤ _; omega
      · show acc.length + 0 + t.length ≤ _; omega
    show (textFrom (k + 1) (acc ++ (if k > 0 then ", " else "" : String) ++ t) r).length ≤ acc.length + (t.length + 2 + pile r)
    omega
theorem listText_le (ts : List Str) : (listText ts).length ≤ pile ts + 2 := by
  unfold listText
  have h := textFrom_le ts 0 "["
  rw [strLen_append]
  have e1 : (("[" : String) : Str).length = 1 := rfl
  have e2 : (("]" : String) : Str).length = 1 := rfl
  rw [e2]
  rw [e1] at h
  omega
theorem join_le : ∀ ts : List Str, (Str.join ", " ts).length ≤ pile ts
  | [] => Nat.zero_le _
  | [x] => by show x.length ≤ x.length + 2 + 0; omega
  | x :: y :: r => by
    have ih := join_le (y :: r)
    show (x ++ ", " ++ Str.join ", " (y :: r)).length ≤ x.length + 2 + pile (y :: r)
    rw [strLen_append, strLen_append]
    have e2 : ((", " : String) : Str).length = 2 := rfl
    rw [e2]
    omega
theorem tupleText_le (ts : List Str) : (tupleText ts).length ≤ pile ts + 3 := by
  unfold tupleText
  have h := join_le ts
  rw [strLen_append, strLen_append]
  have e1 : (("(" : String) : Str).length = 1 := rfl
  have e2 : ((if ts.length == 1 then ",)" else ")" : String) : Str).length ≤ 2 := by
    split
    · exact Nat.le_refl _
    · exact Nat.le_succ _
  rw [e1]
  omega
mutual
theorem shown_le : ∀ d : PyData, modD d = true → d.shown.length ≤ szD d
  | .none, _ => by rw [PyData.shown, szD]; decide
  | .bool b, _ => by rw [PyData.shown, szD]; cases b <;> decide
  | .str x, _ => by rw [PyData.shown, szD]; exact Nat.le_refl _
  | .int i, h => by
    rw [modD] at h
    rw [PyData.shown, szD]
    have := int_text_length_le (k := 300) (by decide) (log_of (of_decide_eq_true h))
    have e : (Str.ofString (toString i)).length = (toString i).length := PySem.ofString_length _
    rw [e]
    omega
  | .list xs, h => by
    rw [modD] at h
    rw [PyData.shown, szD]
    have := listText_le (PyData.shownAll xs)
    have := shownAll_le xs h
    omega
  | .tuple xs, h => by
    rw [modD] at h
    rw [PyData.shown, szD]
    have := tupleText_le (PyData.shownAll xs)
    have := shownAll_le xs h
    omega
  | .dict _, h => by rw [modD] at h; cases h
theorem shownAll_le : ∀ xs : List PyData, modAll xs = true → pile (PyData.shownAll xs) ≤ szAll xs
  | [], _ => by rw [PyData.shownAll, szAll]; exact Nat.le_refl _
  | x :: xs, h => by
    rw [modAll, Bool.and_eq_true] at h
    have h1 := shown_le x h.1
    have h2 := shownAll_le xs h.2
    rw [PyData.shownAll, szAll]
    show x.shown.length + 2 + pile (PyData.shownAll xs) ≤ _
    omega
end
/-! ### data of the heap is read -/
section
variable {X : Cx} {pins : List (Addr × Obj)} {σ : L2.St} {H : Hp} {s : Shared}
mutual
theorem DV.reads (I : Inv X pins σ H s) : ∀ (d : PyData) (v : V) (u : Value), DV X.K H v d → RelV v u → ∃ as, Reads s.heap u d as
  | .none, _, _, .non, r => ⟨_, (show _ = Value.none from r) ▸ Reads.none⟩
  | .bool b, _, _, .bl _, r => ⟨_, (show _ = Value.bool b from r) ▸ Reads.bool b⟩
  | .int i, _, _, .int _, r => by
    obtain ⟨t, q⟩ := r
    rw [q]
    exact ⟨_, Reads.int i t⟩
  | .str x, _, _, .str _, r => by
    obtain ⟨t, q⟩ := r
    rw [q]
    exact ⟨_, Reads.str x t⟩
  | .list ds, _, u, .lst h t, r => by
    have r' : u = Value.ref _ := r
    subst r'
    obtain ⟨its, rv, ⟨o, n, ho, hc, _, hd⟩, _⟩ := I.list h
    obtain ⟨as, hr⟩ := DVs.reads I ds _ its t rv
    exact ⟨_, Reads.list ho hc hd hr⟩
  | .tuple ds, _, u, .tup h t, r => by
    have r' : u = Value.ref _ := r
    subst r'
    obtain ⟨its, rv, ⟨o, ho, hc, n, hd⟩, _⟩ := I.tuple h
    obtain ⟨as, hr⟩ := DVs.reads I ds _ its t rv
    exact ⟨_, Reads.tuple ho hc hd hr⟩
  | .dict _, _, u, .dk0 h, r => by
    have r' : u = Value.ref _ := r
    subst r'
    obtain ⟨_, _, vs, rel, o, es, ep, h1, h2, h3, h4⟩ := I.hok _ _ h
    cases rel
    have e0 : es.toList = [] := by
      have h5 := h4.2.1
      generalize es.toList = l at h5 ⊢
      cases h5
      rfl
    refine ⟨_, Reads.dict (as := []) (bs := []) h1 h2.1 h3 ?_ ?_⟩
    · rw [e0]; exact ReadsAll.nil
    · rw [e0]; exact ReadsAll.nil
theorem DVs.reads (I : Inv X pins σ H s) : ∀ (ds : List PyData) (vs : List V) (us : List Value), DVs X.K H vs ds → Vals vs us → ∃ as, ReadsAll s.heap us ds as
  | [], _, _, .nil, r => by
    cases r
    exact ⟨_, ReadsAll.nil⟩
  | d :: ds, _, _, .cons h1 h2, r => by
    cases r with
    | cons r1 r2 =>
      obtain ⟨as, q1⟩ := DV.reads I d _ _ h1 r1
      obtain ⟨bs, q2⟩ := DVs.reads I ds _ _ h2 r2
      exact ⟨_, ReadsAll.cons q1 q2⟩
end
/-- repr of a list or a tuple -/
def rRepr (K : PySem.W.Frag) : List V → Hp → VK → Prop := fun xs H Q => ∃ (a : Addr) (d : PyData), xs = [.ref a] ∧ DV K H (.ref a) d ∧ modD d = true ∧ d.depth ≤ 40 ∧ szD d ≤ 1000000 ∧ Q (.str d.shown) H
theorem call_repr (hg : X.A.guards = some []) (hu : X.A.units + 64 < cLine) : CallR X (.builtin "repr") (rRepr X.K) := by
  intro pins s σ H xs us Q I r h
  obtain ⟨a, d, rfl, hd, hm, hdep, hsz, q⟩ := h
  rw [Vals.ref1 r]
  obtain ⟨as, hr⟩ := DV.reads I d (.ref a) (.ref a) hd rfl
  have hl : d.shown.length ≤ sizeLine := by
    have := shown_le d hm
    rw [sizeLine_eq]
    omega
  exact repr_of_reads' hr (showable_of d hm) (fun z => by rw [nodict_of d hm] at z; cases z) hg (by omega) (fun _ _ e => e) (fun h' u tk kk => ⟨.str d.shown, H, I.kept kk, ⟨_, rfl⟩, q⟩) hl
end
theorem seqIndex_nat {k n : Nat} (h : k < n) : seqIndex? (k : Int) n = some k := by
  unfold seqIndex?
  have h1 : ¬ ((k : Int) < 0) := by omega
  simp only [h1, if_false]
  have h2 : (decide (0 ≤ (k : Int)) && decide ((k : Int) < (n : Int))) = true := by
    rw [Bool.and_eq_true]
    exact ⟨decide_eq_true (by omega), decide_eq_true (by omega)⟩
  rw [if_pos h2]
  simp
theorem erase_map (js : List Int) (k : Nat) : (js.map V.int).eraseIdx k = (js.eraseIdx k).map V.int := by
  exact L2.erase_mapI js k
section
variable {P : Program} {w : World} {K : PySem.W.Frag} {mg : Str → Option Value} {base : Heap}
/-! ### the things in a drawn sequence -/
def spShuf (K : PySem.W.Frag) : Sp := fun vs H Q _ => ∃ (d t : Addr) (js : List Int), vs = [.ref d, .ref t] ∧ DeckAt H d ∧ SqL K H t (js.map V.int) ∧ js.length ≤ 300 ∧
  ∀ (p : Addr) (ks : List Int) (H' : Hp), H p = none → But d H H' → DeckAt H' d → H' p = some (.lst (ks.map V.int)) → ks.Perm js → Q (.ref p) H'
structure TxtS (mg : Str → Option Value) : Prop where
  len : mg "len" = none
  list : mg "list" = none
theorem scShuf : FnScope ["deck", "things", "left", "found"] ["deck", "things"] (defScope sShuf) := ⟨rfl, rfl, rfl, by decide +kernel, rfl, by decide +kernel, by decide +kernel⟩
theorem ok_shuf {f fD : Addr} {fd fdD : FuncData} (F : Fun K "_law_shuffled" "_law_shuffled" sShuf f fd) (T : TxtS mg) (FD : Fun K "_law_draw" "_law_draw" sDraw fD fdD) (bD : L2.Binds K fdD ["deck", "size"] []) (mD : mg "_law_draw" = some (.ref fD)) :
    FnOk P w K mg base CX0 2 f fd ["deck", "things"] (spShuf K) := by
  have GD : FnOk P w K mg base CX0 1 fD fdD ["deck", "size"] spDraw := ok_draw FD
  refine F.ok scShuf (fun vs H Q E h => ?_) (fun cdv A outer s H vs Q E hr h => ?_)
  · obtain ⟨d, t, js, rfl, _⟩ := h
    rfl
  · obtain ⟨d, t, js, rfl, D, hT, hj, k⟩ := h
    have h64 := hu64 hr
    refine ⟨_, pss_cons (ps_par (i := 2) (j := 3) (by rfl) scShuf.nd rfl rfl (by decide) rfl rfl (pa_cons (pe_callTy call_list_of (by rfl) T.list (by decide +kernel) (pa_cons (pv 1) pa_nil)) (pa_cons (pe_lst pa_nil) pa_nil)) (by rfl))
      (pss_cons (ps_while PassesOwn.never (pt_cmpR (op_neL h64) (pv 2) (pe_lst pa_nil) (nomark _))
        (pss_one (ps_expr (pe_bm PySem.F.plainAttrs_list PySem.F.slot_list_append PySem.F.type_list_append mt_append (pv 3) (pa_cons
          (pe_bm PySem.F.plainAttrs_list PySem.F.slot_list_pop PySem.F.type_list_pop mt_popAt (pv 2) (pa_cons (pe_call GD hr rfl mD FD.kp bD .nil pass0 (pa_cons (pv 0) (pa_cons (pe_callB call_len_seq (by rfl) T.len PySem.boot_len (pa_cons (pv 2) pa_nil)) pa_nil))) pa_nil)) pa_nil)))))
      (pss_one (ps_ret (pv 3)))), ?_⟩
    refine ⟨_, rfl, t, _, rfl, .inl hT, fun l hl => ?_⟩
    have F1 : Fs d H [(l, .lst (js.map V.int))] _ := (Fs.start D).new hl nl
    refine ⟨Nat.zero_le _, fun r hr' => ?_⟩
    have F2 := F1.new hr' (o := .lst []) nl
    have hr0 : H r = none := Same.free (Same.new (o := .lst (js.map V.int)) hl) hr'
    have nlr : l ≠ r := ne_of_none F1.g0 hr'
    refine ⟨_, _, rfl, ?_⟩
    refine ⟨fun m σ H' => ∃ (ls fs : List Int), σ = [some (.ref d), some (.ref t), some (.ref l), some (.ref r)] ∧ m = ls.length ∧ (fs ++ ls).Perm js ∧ But d H H' ∧ DeckAt H' d ∧ H' l = some (.lst (ls.map V.int)) ∧ H' r = some (.lst (fs.map V.int)),
      ⟨_, js, [], rfl, rfl, List.Perm.refl _, F2.1, F2.deck, F2.g1, F2.g0⟩, ?_⟩
    rintro m σ H1 ⟨ls, fs, rfl, rfl, hp, B1, D1, hL, hR⟩
    have hlen : fs.length + ls.length = js.length := by have := hp.length_eq; rw [List.length_append] at this; exact this
    refine ⟨_, rfl, Nat.zero_le _, fun q hq => ?_⟩
    have s2 : Same H1 (upd H1 q (.lst [])) := Same.new hq
    refine ⟨l, q, ls, [], rfl, rfl, SqL.of (s2 _ _ hL), SqL.of upd_same, _, rfl, ?_⟩
    by_cases h0 : ls = []
    · subst h0
      refine iteF ?_
      rw [List.append_nil] at hp
      exact ⟨_, rfl, k r fs _ hr0 (B1.trans (But.of s2)) (D1.same s2) (s2 _ _ hR) hp⟩
    · rw [decide_eq_false h0]
      refine iteT ?_
      have hpos : 0 < ls.length := List.length_pos_iff.mpr h0
      refine ⟨fun σ' H' => ∃ m', m' < ls.length ∧ ∃ (ls fs : List Int), σ' = [some (.ref d), some (.ref t), some (.ref l), some (.ref r)] ∧ m' = ls.length ∧ (fs ++ ls).Perm js ∧ But d H H' ∧ DeckAt H' d ∧ H' l = some (.lst (ls.map V.int)) ∧ H' r = some (.lst (fs.map V.int)), fun _ _ z => z, ?_⟩
      have D2 := D1.same s2
      refine ⟨_, rfl, .inl ⟨rfl, _, SqL.of (s2 _ _ hR)⟩, _, rfl, .inl ⟨rfl, _, SqL.of (s2 _ _ hL)⟩, _, rfl, _, rfl, l, _, rfl, .inl (SqL.of (s2 _ _ hL)), d, _, rfl, D2, by rw [List.length_map]; omega, by rw [List.length_map]; omega, fun z H3 z0 z1 D3 B3 => ?_⟩
      rw [List.length_map] at z1
      obtain ⟨i, rfl⟩ : ∃ m : Nat, z = (m : Int) := ⟨z.toNat, by omega⟩
      have hi : i < ls.length := by omega
      have hL3 := B3.lst D2 (s2 _ _ hL)
      have hR3 := B3.lst D2 (s2 _ _ hR)
      have hy : ls[i]? = some ls[i] := List.getElem?_eq_getElem hi
      refine ⟨l, _, _, i, .int ls[i], rfl, rfl, hL3, by omega, by omega, seqIndex_nat (by rw [List.length_map]; exact hi), by rw [List.getElem?_map, hy]; rfl, ?_⟩
      rw [erase_map]
      have hR4 : upd H3 l (.lst ((ls.eraseIdx i).map V.int)) r = some (.lst (fs.map V.int)) := by rw [upd_ne nlr.symm]; exact hR3
      refine ⟨r, _, _, rfl, rfl, hR4, by rw [List.length_map]; exact small1000 (by omega), ?_⟩
      have hel : (ls.eraseIdx i).length + 1 = ls.length := by rw [List.length_eraseIdx_of_lt hi]; omega
      refine ⟨(ls.eraseIdx i).length, by omega, ls.eraseIdx i, fs ++ [ls[i]], rfl, rfl, ?_, ?_, ?_, ?_, ?_⟩
      · rw [List.append_assoc]
        exact (List.Perm.append_left fs (L2.erase_perm ls i _ hy)).trans hp
      · intro b o hb e
        have nbl : b ≠ l := ne_of_none e hl
        have nbr : b ≠ r := ne_of_none e hr0
        rw [upd_ne nbr, upd_ne nbl]
        exact B3 b o hb (s2 _ _ (B1 b o hb e))
      · obtain ⟨x, y, hd, rr⟩ := D3
        have n1 : d ≠ l := (ne_of hL3 hd (nl _ _)).symm
        have n2 : d ≠ r := (ne_of hR3 hd (nl _ _)).symm
        exact ⟨x, y, by rw [upd_ne n2, upd_ne n1]; exact hd, rr⟩
      · rw [upd_ne nlr, upd_same]
      · rw [upd_same, List.map_append]; rfl
end
/-! ### data that cannot change: flat things and tuples of such -/
mutual
inductive DT (H : Hp) : V → PyData → Prop
  | non : DT H .non .none
  | bl (b : Bool) : DT H (.bl b) (.bool b)
  | int (i : Int) : DT H (.int i) (.int i)
  | str (x : Str) : DT H (.str x) (.str x)
  | tup {a : Addr} {xs : List V} {ds : List PyData} : H a = some (.tup xs) → DTs H xs ds → DT H (.ref a) (.tuple ds)
inductive DTs (H : Hp) : List V → List PyData → Prop
  | nil : DTs H [] []
  | cons {v : V} {vs : List V} {d : PyData} {ds : List PyData} : DT H v d → DTs H vs ds → DTs H (v :: vs) (d :: ds)
end
/-- the tuples stand -/
def KeepT (H H' : Hp) : Prop := ∀ a xs, H a = some (.tup xs) → H' a = some (.tup xs)
theorem KeepT.refl (H : Hp) : KeepT H H := fun _ _ h => h
theorem KeepT.trans {H H1 H2 : Hp} (a : KeepT H H1) (b : KeepT H1 H2) : KeepT H H2 := fun c xs h => b c xs (a c xs h)
theorem KeepT.same {H H' : Hp} (s : Same H H') : KeepT H H' := fun a xs h => s a _ h
theorem KeepT.but {d : Addr} {H H' : Hp} (D : DeckAt H d) (s : But d H H') : KeepT H H' := fun a xs h => s.tup D h
theorem KeepT.put {x : Addr} {H : Hp} {ys : List V} {o : HO} (h : H x = some (.lst ys)) : KeepT H (upd H x o) := fun a xs e => by
  rw [upd_ne (ne_of e h (by intro z; cases z))]
  exact e
theorem KeepT.new {x : Addr} {H : Hp} {o : HO} (h : H x = none) : KeepT H (upd H x o) := KeepT.same (Same.new h)
mutual
theorem DT.keep {H H' : Hp} (e : KeepT H H') : ∀ {d : PyData} {v : V}, DT H v d → DT H' v d
  | _, _, .non => .non
  | _, _, .bl b => .bl b
  | _, _, .int i => .int i
  | _, _, .str x => .str x
  | _, _, .tup h t => .tup (e _ _ h) (DTs.keep e t)
theorem DTs.keep {H H' : Hp} (e : KeepT H H') : ∀ {ds : List PyData} {vs : List V}, DTs H vs ds → DTs H' vs ds
  | _, _, .nil => .nil
  | _, _, .cons p t => .cons (DT.keep e p) (DTs.keep e t)
end
mutual
theorem DT.dv {K : PySem.W.Frag} {H : Hp} : ∀ {d : PyData} {v : V}, DT H v d → DV K H v d
  | _, _, .non => .non
  | _, _, .bl b => .bl b
  | _, _, .int i => .int i
  | _, _, .str x => .str x
  | _, _, .tup h t => .tup (SqT.of h) (DTs.dv t)
theorem DTs.dv {K : PySem.W.Frag} {H : Hp} : ∀ {ds : List PyData} {vs : List V}, DTs H vs ds → DVs K H vs ds
  | _, _, .nil => .nil
  | _, _, .cons p t => .cons (DT.dv p) (DTs.dv t)
end
theorem DTs.ints {H : Hp} : ∀ ks : List Int, DTs H (ks.map V.int) (ks.map PyData.int)
  | [] => .nil
  | k :: r => .cons (.int k) (DTs.ints r)
theorem DTs.append {H : Hp} : ∀ {vs ws : List V} {ds es : List PyData}, DTs H vs ds → DTs H ws es → DTs H (vs ++ ws) (ds ++ es)
  | _, _, _, _, .nil, h => h
  | _, _, _, _, .cons p t, h => .cons p (DTs.append t h)
theorem DTs.take {H : Hp} : ∀ {vs : List V} {ds : List PyData} (n : Nat), DTs H vs ds → DTs H (vs.take n) (ds.take n)
  | _, _, 0, _ => .nil
  | _, _, _ + 1, .nil => .nil
  | _, _, n + 1, .cons p t => .cons p (DTs.take n t)
theorem DTs.length {H : Hp} : ∀ {vs : List V} {ds : List PyData}, DTs H vs ds → vs.length = ds.length
  | _, _, .nil => rfl
  | _, _, .cons _ t => congrArg Nat.succ (DTs.length t)
theorem DTs.none {H : Hp} : ∀ n : Nat, DTs H (List.replicate n V.non) (List.replicate n PyData.none)
  | 0 => .nil
  | n + 1 => .cons .non (DTs.none n)
/-! ### lists of ids as data -/
theorem modAll_ints : ∀ xs : List Int, (∀ z ∈ xs, z.natAbs < 2 ^ 300) → modAll (xs.map .int) = true
  | [], _ => by rw [List.map_nil, modAll]
  | x :: r, h => by
    rw [List.map_cons, modAll, modD, modAll_ints r fun z hz => h z (List.mem_cons_of_mem _ hz), decide_eq_true (h x List.mem_cons_self)]
    rfl
theorem szAll_ints : ∀ xs : List Int, szAll (xs.map .int) = xs.length * 303
  | [] => by rw [List.map_nil, szAll]; rfl
  | x :: r => by
    rw [List.map_cons, szAll, szD, szAll_ints r, List.length_cons]
    omega
theorem small_abs {z : Int} (h : -1000000000000 ≤ z) (h2 : z ≤ 1000000000000) : z.natAbs < 2 ^ 300 := by
  have : (1000000000001 : Nat) ≤ 2 ^ 300 := Nat.le_trans (by decide : 1000000000001 ≤ 2 ^ 50) (Nat.pow_le_pow_right (by decide) (by decide))
  generalize (2 : Nat) ^ 300 = B at *
  omega
structure Rok (d : PyData) : Prop where
  m : modD d = true
  dep : d.depth ≤ 40
  sz : szD d ≤ 1000000
theorem rok_ids {xs : List Int} (h : ∀ z ∈ xs, 1 ≤ z ∧ z ≤ 1000000) (hl : xs.length ≤ 300) : Rok (.list (xs.map .int)) := by
  refine ⟨?_, ?_, ?_⟩
  · rw [modD]
    exact modAll_ints xs fun z hz => by have := h z hz; exact small_abs (by omega) (by omega)
  · have := depthAll_ints xs
    rw [PyData.depth]
    omega
  · rw [szD, szAll_ints]
    omega
/-- changing one more object -/
theorem Fs.put {d x : Addr} {Hd H1 : Hp} {fs : List (Addr × HO)} {o : HO} (F : Fs d Hd fs H1) (h0 : Hd x = none) (hd : x ≠ d) (hn : ∀ p ∈ fs, p.1 ≠ x) : Fs d Hd fs (upd H1 x o) := by
  obtain ⟨f1, ⟨a, b, q, r⟩, f3⟩ := F
  refine ⟨fun c u hc e => ?_, ⟨a, b, by rw [upd_ne hd.symm]; exact q, r⟩, fun p hp => ⟨(f3 p hp).1, by rw [upd_ne (hn p hp)]; exact (f3 p hp).2⟩⟩
  rw [upd_ne (ne_of_none e h0)]
  exact f1 c u hc e
theorem Fs.apart {d x : Addr} {Hd H1 : Hp} {fs : List (Addr × HO)} (F : Fs d Hd fs H1) (h : H1 x = none) : Hd x = none ∧ x ≠ d ∧ ∀ p ∈ fs, p.1 ≠ x := by
  obtain ⟨f1, ⟨a, b, q, r⟩, f3⟩ := F
  have hd : x ≠ d := fun e => by rw [e, q] at h; cases h
  refine ⟨?_, hd, fun p hp => ne_of_none (f3 p hp).2 h⟩
  cases e : Hd x with
  | none => rfl
  | some u =>
    have := f1 x u hd e
    rw [h] at this; cases this
theorem ix_list_K1 {X : Cx} {K : PySem.W.Frag} (h : X.K = K) : IxR X (rIxL K) := by
  subst h
  exact ix_list
theorem pow9g : (10 : Int) ^ (9 : Int).toNat = 1000000000 := by decide
theorem Fs.repl {d x : Addr} {Hd H1 : Hp} {fs : List (Addr × HO)} {o o' : HO} (F : Fs d Hd ((x, o) :: fs) H1) (h0 : Hd x = none) (hn : ∀ p ∈ fs, p.1 ≠ x) (n : ∀ a b, o' ≠ .dK (dk a b)) : Fs d Hd ((x, o') :: fs) (upd H1 x o') :=
  (F.tail.put h0 (F.2.2 _ List.mem_cons_self).1 hn).add upd_same n
def fieldsL : List Int := [0, 0, 1, 1, 2, 3, 0 - 1, 0 - 2, 10 ^ (9 : Int).toNat, 0 - 10 ^ (9 : Int).toNat]
theorem fieldsL_b : ∀ z ∈ fieldsL, -1000000000 ≤ z ∧ z ≤ 1000000000 := by
  unfold fieldsL
  rw [pow9g]
  decide
section
variable {P : Program} {w : World} {K : PySem.W.Frag} {mg : Str → Option Value} {base : Heap}
structure TxtF (mg : Str → Option Value) : Prop where
  range : mg "range" = none
  tuple : mg "tuple" = none
  list : mg "list" = none
  len : mg "len" = none
/-! ### drawn fields -/
def spFields : Sp := fun vs H Q _ => ∃ (d : Addr) (n : Nat), vs = [.ref d, .int n] ∧ DeckAt H d ∧ n ≤ 4 ∧
  ∀ (p : Addr) (js : List Int) (H' : Hp), But d H H' → DeckAt H' d → H' p = some (.tup (js.map V.int)) → js.length = n → (∀ z ∈ js, -1000000000 ≤ z ∧ z ≤ 1000000000) → Q (.ref p) H'
theorem scFields : FnScope ["deck", "wide", "some", "place"] ["deck", "wide"] (defScope sFields) := ⟨rfl, rfl, rfl, by decide +kernel, rfl, by decide +kernel, by decide +kernel⟩
theorem ok_fields {f fC : Addr} {fd fdC : FuncData} (F : Fun K "_law_fields" "_law_fields" sFields f fd) (T : TxtF mg) (GC : FnOk P w K mg base CX0 2 fC fdC ["deck", "things"] (spChoose K)) (kC : PySem.W.keepIn K (.ref fC) = true) (bC : L2.Binds K fdC ["deck", "things"] []) (mC : mg "_law_choose" = some (.ref fC)) :
    FnOk P w K mg base CX0 3 f fd ["deck", "wide"] spFields := by
  refine F.ok scFields (fun vs H Q E h => ?_) (fun cdv A outer s H vs Q E hr h => ?_)
  · obtain ⟨d, n, rfl, _⟩ := h
    rfl
  · obtain ⟨d, n, rfl, D, hn, k⟩ := h
    refine ⟨_, pss_cons (ps_set (i := 2) scFields.nd rfl (Or.inr rfl) (pe_lst (pa_cons pe_int (pa_cons pe_int (pa_cons pe_int (pa_cons pe_int (pa_cons pe_int (pa_cons pe_int (pa_cons (pe_op op_sub pe_int pe_int) (pa_cons (pe_op op_sub pe_int pe_int) (pa_cons (pe_op op_pow pe_int pe_int) (pa_cons (pe_op op_sub pe_int (pe_op op_pow pe_int pe_int)) pa_nil))))))))))))
      (pss_one (ps_ret (pe_callTy call_tuple_of (by rfl) T.tuple (by decide +kernel) (pa_cons
        (pe_lc (own := [("place", 3)]) (g := gName 3) rfl scFields.nd (pi_range1 rfl T.range (pa_cons (pv 1) pa_nil)) (blkOk_by (N := ["deck", "wide", "some", "place"]) (sc := defScope sFields) (by decide +kernel)) (fun _ _ _ _ _ => pg_name (i := 3) scFields.nd rfl (Or.inl rfl)) (fun _ _ _ _ _ => pts_nil)
            (fun _ _ _ _ _ => pe_call GC hr rfl mC kC bC .nil pass0 (pa_cons (pv 0) (pa_cons (pv 2) pa_nil)))) pa_nil)))), ?_⟩
    have h16 := sizeLine_eq
    have cp9 : CPow 10 9 := ⟨by decide, by decide, by decide⟩
    refine ⟨_, _, rfl, rfl, ⟨_, _, rfl, rfl, ⟨_, _, rfl, rfl, cp9, ⟨_, _, rfl, rfl, cp9, ⟨_, _, rfl, rfl, ?_⟩⟩⟩⟩⟩
    refine ⟨by show 10 ≤ sizeLine; omega, fun p hp => ?_⟩
    have F1 : Fs d H [(p, .lst (fieldsL.map V.int))] (upd H p (.lst (fieldsL.map V.int))) := (Fs.start D).new hp nl
    refine ⟨_, rfl, (n : Int), rfl, by omega, by omega, fun D' hD' => ?_⟩
    obtain ⟨a0, a1, a2⟩ := F1.apart hD'
    refine lc_range (lo := 0) (n := ((n : Int)).toNat) (fun i H' => ∃ js : List Int, Fs d H [(D', .lst (js.map V.int)), (p, .lst (fieldsL.map V.int))] H' ∧ js.length = i ∧ ∀ z ∈ js, -1000000000 ≤ z ∧ z ≤ 1000000000) ⟨[], F1.new hD' nl, rfl, fun z h => by cases h⟩ ?_ ?_
    · rintro i H' hi ⟨js, F2, hl, hb⟩
      refine ⟨rfl, ?_⟩
      refine ⟨_, rfl, _, rfl, d, p, fieldsL.map V.int, rfl, F2.deck, SqL.of F2.g1, (by intro z; cases z), (by show 10 < 1000000; decide), fun v H3 hv D3 B3 => ?_⟩
      obtain ⟨z, hz, rfl⟩ := List.mem_map.mp hv
      have F3 := F2.step D3 B3
      refine ⟨_, F3.g0, by rw [List.length_map]; omega, js ++ [z], ?_, by rw [List.length_append, hl]; rfl, fun y hy => ?_⟩
      · have := F3.repl (o' := .lst (js.map V.int ++ [V.int z])) a0 a2 nl
        rw [List.map_append]
        exact this
      · rcases List.mem_append.mp hy with h | h
        · exact hb y h
        · have : y = z := by simpa using h
          rw [this]
          exact fieldsL_b z hz
    · rintro H' ⟨js, F2, hl, hb⟩
      refine ⟨D', js.map V.int, rfl, .inl ⟨SqL.of F2.g0, fun q hq => ?_⟩⟩
      exact k q js _ ((F2.skip hq).1) ((F2.skip hq).deck) upd_same (by omega) hb
/-! ### a drawn rule -/
def spRule : Sp := fun vs H Q _ => ∃ (d : Addr) (n : Nat), vs = [.ref d, .int n] ∧ DeckAt H d ∧ n ≤ 4 ∧
  ∀ (p : Addr) (js : List Int) (H' : Hp), But d H H' → DeckAt H' d → H' p = some (.tup (js.map V.int)) → js.length ≤ 4 → (∀ z ∈ js, z ≠ 0 ∧ z.natAbs ≤ n) → Q (.ref p) H'
abbrev NRu : List Str := ["deck", "wide", "signs", "columns", "place", "column"]
theorem scRule : FnScope NRu ["deck", "wide"] (defScope sRule) := ⟨rfl, rfl, rfl, by decide +kernel, rfl, by decide +kernel, by decide +kernel⟩
theorem ok_rule {f fC fD fS : Addr} {fd fdC fdD fdS : FuncData} (F : Fun K "_law_rule" "_law_rule" sRule f fd) (T : TxtF mg) (GC : FnOk P w K mg base CX0 2 fC fdC ["deck", "things"] (spChoose K)) (kC : PySem.W.keepIn K (.ref fC) = true) (bC : L2.Binds K fdC ["deck", "things"] []) (mC : mg "_law_choose" = some (.ref fC))
    (GD : FnOk P w K mg base CX0 1 fD fdD ["deck", "size"] spDraw) (kD : PySem.W.keepIn K (.ref fD) = true) (bD : L2.Binds K fdD ["deck", "size"] []) (mD : mg "_law_draw" = some (.ref fD))
    (GS : FnOk P w K mg base CX0 2 fS fdS ["deck", "things"] (spShuf K)) (kS : PySem.W.keepIn K (.ref fS) = true) (bS : L2.Binds K fdS ["deck", "things"] []) (mS : mg "_law_shuffled" = some (.ref fS)) :
    FnOk P w K mg base CX0 3 f fd ["deck", "wide"] spRule := by
  refine F.ok scRule (fun vs H Q E h => ?_) (fun cdv A outer s H vs Q E hr h => ?_)
  · obtain ⟨d, n, rfl, _⟩ := h
    rfl
  · obtain ⟨d, n, rfl, D, hn, k⟩ := h
    have hr1 : Room 1 _ := hr.mono (by decide)
    refine ⟨_, pss_cons (ps_set (i := 2) scRule.nd rfl (Or.inr rfl) (pe_lc (own := [("place", 4)]) (g := gName 4) rfl scRule.nd (pi_range1 rfl T.range (pa_cons (pv 1) pa_nil)) (blkOk_by (N := NRu) (sc := defScope sRule) (by decide +kernel)) (fun _ _ _ _ _ => pg_name (i := 4) scRule.nd rfl (Or.inl rfl)) (fun _ _ _ _ _ => pts_nil)
            (fun _ _ _ _ _ => pe_call GC hr rfl mC kC bC .nil pass0 (pa_cons (pv 0) (pa_cons (pe_lst (pa_cons pe_int (pa_cons pe_int (pa_cons (pe_op op_sub pe_int pe_int) pa_nil)))) pa_nil)))))
      (pss_cons (ps_set (i := 3) scRule.nd rfl (Or.inl rfl) (pe_slice sl_list (pe_call GS hr rfl mS kS bS .nil pass0 (pa_cons (pv 0) (pa_cons (pe_listRg rfl rfl T.list (prg_2 rfl T.range pe_int (pe_op op_add (pv 1) pe_int))) pa_nil))) po_none
          (po_some (pe_call GD hr1 rfl mD kD bD .nil pass0 (pa_cons (pv 0) (pa_cons (pe_op op_add (pv 1) pe_int) pa_nil))))))
      (pss_one (ps_ret (pe_callTy call_tuple_of (by rfl) T.tuple (by decide +kernel) (pa_cons
        (pe_lc (own := [("column", 5)]) (g := gName 5) rfl scRule.nd (pi_list (pv 3)) (blkOk_by (N := NRu) (sc := defScope sRule) (by decide +kernel)) (fun _ _ _ _ _ => pg_name (i := 5) scRule.nd rfl (Or.inl rfl)) (fun _ _ _ _ _ => pts_nil)
            (fun _ _ _ _ _ => pe_op op_mul (pv 5) (pe_ix (ix_list_K1 (K := K) rfl) (pv 2) (pe_op op_sub (pv 5) pe_int) (fun _ _ => rfl)))) pa_nil))))), ?_⟩
    have h16 := sizeLine_eq
    refine ⟨_, rfl, (n : Int), rfl, by omega, by omega, fun D' hD' => ?_⟩
    have F0 := Fs.start D
    obtain ⟨a0, a1, a2⟩ := F0.apart hD'
    refine lc_range (lo := 0) (n := ((n : Int)).toNat) (fun i H' => ∃ js : List Int, Fs d H [(D', .lst (js.map V.int))] H' ∧ js.length = i ∧ ∀ z ∈ js, z = 1 ∨ z = -1) ⟨[], F0.new hD' nl, rfl, fun z h => by cases h⟩ ?_ ?_
    · rintro i H' hi ⟨js, F2, hl, hb⟩
      refine ⟨rfl, ?_⟩
      refine ⟨_, rfl, ⟨_, _, rfl, rfl, ⟨by show 3 ≤ sizeLine; omega, fun q hq => ?_⟩⟩⟩
      have F3 := F2.new hq (o := .lst (([1, 1, 0 - 1] : List Int).map V.int)) nl
      refine ⟨d, q, ([1, 1, 0 - 1] : List Int).map V.int, rfl, F3.deck, SqL.of F3.g0, (by intro z; cases z), (by show 3 < 1000000; decide), fun v H3 hv D3 B3 => ?_⟩
      obtain ⟨z, hz, rfl⟩ := List.mem_map.mp hv
      have hzb : z = 1 ∨ z = -1 := by
        have : ∀ z ∈ ([1, 1, 0 - 1] : List Int), z = 1 ∨ z = -1 := by decide
        exact this z hz
      have F4 := (F3.tail).step D3 B3
      refine ⟨_, F4.g0, by rw [List.length_map]; omega, js ++ [z], ?_, by rw [List.length_append, hl]; rfl, fun y hy => ?_⟩
      · have := F4.repl (o' := .lst (js.map V.int ++ [V.int z])) a0 a2 nl
        rw [List.map_append]
        exact this
      · rcases List.mem_append.mp hy with h | h
        · exact hb y h
        · have : y = z := by simpa using h
          rw [this]
          exact hzb
    · rintro H1 ⟨ss, F1, hsl, hsb⟩
      -- columns
      refine ⟨_, rfl, ⟨_, rfl, _, _, rfl, rfl, _, _, rfl, rfl, RgOk.of_le (by decide) (by omega) (by decide) (by omega), fun q hq => ?_⟩⟩
      obtain ⟨cs, hcs⟩ : ∃ cs : List Int, cs = (List.range ((n : Int) + 1 - 1).toNat).map fun (i : Nat) => 1 + (i : Int) := ⟨_, rfl⟩
      have erg : rgV 1 ((n : Int) + 1) = cs.map V.int := by
        rw [hcs, List.map_map]
        rfl
      have hcl : cs.length = n := by
        rw [hcs, List.length_map, List.length_range]
        omega
      have hcb : ∀ c ∈ cs, 1 ≤ c ∧ c ≤ n := by
        intro c hc
        rw [hcs] at hc
        obtain ⟨i, hi, rfl⟩ := List.mem_map.mp hc
        have := List.mem_range.mp hi
        omega
      rw [erg]
      have F2 := F1.new hq (o := .lst (cs.map V.int)) nl
      refine ⟨d, q, cs, rfl, F2.deck, SqL.of F2.g0, by omega, fun p1 ks H3 hp1 B3 D3 hP1 perm => ?_⟩
      have F3 := (F2.step D3 B3).add hP1 nl
      have hkl := perm.length_eq
      refine ⟨_, rfl, ⟨_, rfl, _, _, rfl, rfl, d, _, rfl, D3, by omega, by omega, fun t H4 t0 t1 D4 B4 => ⟨t, rfl, ?_⟩⟩⟩
      obtain ⟨t, rfl⟩ : ∃ m : Nat, t = (m : Int) := ⟨t.toNat, by omega⟩
      have F4 := F3.step D4 B4
      refine ⟨p1, ks.map V.int, rfl, SqL.of F4.g0, fun p2 hp2 => ?_⟩
      obtain ⟨ts, hts⟩ : ∃ ts : List Int, ts = ks.take t := ⟨_, rfl⟩
      have ecut : cutV (ks.map V.int) none (some (t : Int)) = ts.map V.int := by
        rw [cut_to, hts, List.map_take]
      rw [ecut] at *
      have htl : ts.length ≤ 4 := by rw [hts, List.length_take]; omega
      have htb : ∀ c ∈ ts, 1 ≤ c ∧ c ≤ n := fun c hc => hcb c (perm.mem_iff.mp (List.mem_of_mem_take (by rw [hts] at hc; exact hc)))
      have F5 := F4.new hp2 (o := .lst (ts.map V.int)) nl
      refine ⟨_, rfl, p2, rfl, ⟨_, SqL.of F5.g0⟩, fun D5 hD5 => ?_⟩
      obtain ⟨b0, b1, b2⟩ := F5.apart hD5
      refine lc_list (K := K) (a := p2) (xs := ts.map V.int) (fun i H' => ∃ js : List Int, Fs d H [(D5, .lst (js.map V.int)), (p2, .lst (ts.map V.int)), (p1, .lst (ks.map V.int)), (q, .lst (cs.map V.int)), (D', .lst (ss.map V.int))] H' ∧ js.length = i ∧ ∀ z ∈ js, z ≠ 0 ∧ z.natAbs ≤ n)
        ⟨[], F5.new hD5 nl, rfl, fun z h => by cases h⟩ (fun i H' _ ⟨js, F6, _⟩ => SqL.of F6.g1) ?_ ?_
      · rintro i x H' hx ⟨js, F6, hl, hb⟩
        rw [List.getElem?_map] at hx
        obtain ⟨c, hc, rfl⟩ : ∃ c, ts[i]? = some c ∧ x = V.int c := by
          cases hq2 : ts[i]? with
          | none => rw [hq2] at hx; cases hx
          | some z => rw [hq2] at hx; exact ⟨z, rfl, (Option.some.inj hx).symm⟩
        have hcb2 := htb c (List.mem_of_getElem? hc)
        have hilt := lt_of_some hc
        obtain ⟨m, rfl⟩ : ∃ m : Nat, c = (m : Int) + 1 := ⟨(c - 1).toNat, by omega⟩
        have hm : m < ss.length := by omega
        have hat : (ss.map V.int)[m]? = some (V.int ss[m]) := by rw [List.getElem?_map, List.getElem?_eq_getElem hm]; rfl
        have hsm := hsb ss[m] (List.getElem_mem hm)
        refine ⟨rfl, ?_⟩
        refine ⟨_, rfl, ⟨_, rfl, ⟨_, rfl, _, _, rfl, rfl, ⟨D', ss.map V.int, _, _, rfl, rfl, SqL.of F6.g4, (by rw [show (m : Int) + 1 - 1 = (m : Int) from by omega]; exact atI_nat hat), ?_⟩⟩⟩⟩
        have hsm' : -1 ≤ ss[m] ∧ ss[m] ≤ 1 := by omega
        refine ⟨_, _, rfl, rfl, .inl ⟨by omega, by omega⟩, ?_⟩
        refine ⟨_, F6.g0, by rw [List.length_map]; omega, js ++ [((m : Int) + 1) * ss[m]], ?_, by rw [List.length_append, hl]; rfl, fun y hy => ?_⟩
        · have := F6.repl (o' := .lst (js.map V.int ++ [V.int (((m : Int) + 1) * ss[m])])) b0 b2 nl
          rw [List.map_append]
          exact this
        · rcases List.mem_append.mp hy with h | h
          · exact hb y h
          · have e : y = ((m : Int) + 1) * ss[m] := by simpa using h
            rcases hsm with e3 | e3 <;> rw [e, e3] <;> omega
      · rintro H6 ⟨js, F6, hl, hb⟩
        refine ⟨D5, js.map V.int, rfl, .inl ⟨SqL.of F6.g0, fun q6 hq6 => ?_⟩⟩
        rw [List.length_map] at hl
        exact k q6 js _ ((F6.skip hq6).1) ((F6.skip hq6).deck) upd_same (by omega) hb
end
/-! ### repr of data with empty dicts in it -/
mutual
/-- ints of moderate size, dicts only empty -/
def okD : PyData → Bool
  | .none | .bool _ | .str _ => true
  | .int i => decide (i.natAbs < 2 ^ 300)
  | .list xs | .tuple xs => okAll xs
  | .dict kvs => kvs.isEmpty
def okAll : List PyData → Bool
  | [] => true
  | x :: xs => okD x && okAll xs
end
mutual
theorem shown_le2 : ∀ d : PyData, okD d = true → d.shown.length ≤ szD d
  | .none, _ => shown_le .none rfl
  | .bool b, _ => shown_le (.bool b) rfl
  | .str x, _ => shown_le (.str x) rfl
  | .int i, h => shown_le (.int i) (by rw [okD] at h; rw [modD]; exact h)
  | .list xs, h => by
    have h2 : okAll xs = true := by rw [okD] at h; exact h
    have b := shownAll_le2 xs h2
    have a := listText_le (PyData.shownAll xs)
    rw [szD, PyData.shown]
    omega
  | .tuple xs, h => by
    have h2 : okAll xs = true := by rw [okD] at h; exact h
    have b := shownAll_le2 xs h2
    have a := tupleText_le (PyData.shownAll xs)
    rw [szD, PyData.shown]
    omega
  | .dict kvs, h => by
    rw [okD] at h
    have e : kvs = [] := List.isEmpty_iff.mp h
    subst e
    rw [szD, PyData.shown, PyData.shownKv]
    exact Nat.le_refl 2
theorem shownAll_le2 : ∀ xs : List PyData, okAll xs = true → pile (PyData.shownAll xs) ≤ szAll xs
  | [], _ => by rw [PyData.shownAll, szAll]; exact Nat.le_refl _
  | x :: xs, h => by
    rw [okAll, Bool.and_eq_true] at h
    have a := shown_le2 x h.1
    have b := shownAll_le2 xs h.2
    rw [szAll, PyData.shownAll]
    show x.shown.length + 2 + pile (PyData.shownAll xs) ≤ _
    omega
end
section
variable {X : Cx} {pins : List (Addr × Obj)} {σ : L2.St} {H : Hp} {s : Shared}
mutual
theorem DV.rk (I : Inv X pins σ H s) : ∀ (d : PyData) (v : V) (u : Value), DV X.K H v d → RelV v u → okD d = true → d.shown.length ≤ sizeLine → ∃ bs, ReadAtMost s.heap d.depth bs ∧ ReprK X.prog X.w bs s.heap d.depth u d.shown
  | .none, _, _, .non, r, _, _ => ⟨[], (fun _ q => by cases q), by rw [PyData.shown, (show _ = Value.none from r)]; exact .of_is ReprIs.none _ _ _⟩
  | .bool b, _, _, .bl _, r, _, _ => ⟨[], (fun _ q => by cases q), by rw [PyData.shown, (show _ = Value.bool b from r)]; exact .of_is (ReprIs.bool b) _ _ _⟩
  | .int i, _, _, .int _, r, h, _ => by
    obtain ⟨t, rfl⟩ := r
    rw [okD] at h
    have := log_of (of_decide_eq_true h)
    exact ⟨[], (fun _ q => by cases q), by rw [PyData.shown]; exact .of_is (ReprIs.int t (by omega)) _ _ _⟩
  | .str x, _, _, .str _, r, _, hz => by
    obtain ⟨t, rfl⟩ := r
    rw [PyData.shown] at hz
    exact ⟨[], (fun _ q => by cases q), by rw [PyData.shown]; exact .of_is (ReprIs.str x t hz) _ _ _⟩
  | .list ds, _, u, .lst h t, r, hok, hz => by
    have r' : u = Value.ref _ := r
    subst r'
    rw [okD] at hok
    rw [PyData.shown] at hz
    obtain ⟨its, rv, ⟨o, n, ho, hc, _, hd⟩, _⟩ := I.list h
    obtain ⟨as, hr⟩ := DVs.reads I ds _ its t rv
    obtain ⟨bs, hb, hk⟩ := DVs.rk I ds _ its t rv hok fun x hx => Nat.le_trans (listText_mem_le hx) hz
    have R := Reads.list ho hc hd hr
    have far := not_mem_of_deeper R (by rw [PyData.depth]; omega) hb
    refine ⟨_, ReadAtMost.cons R (by rw [PyData.depth]; omega) hb, ?_⟩
    rw [PyData.depth, PyData.shown]
    cases its with
    | nil =>
      cases rv
      cases t
      rw [PyData.shownAll, listText_nil]
      exact ReprK.listEmpty ho hc hd
    | cons y l => exact ReprK.list ho hc hd far (by rw [hk.length_eq]; rfl) fun i y e => hk.item i y (by rw [List.getElem?_toArray] at e; exact e)
  | .tuple ds, _, u, .tup h t, r, hok, hz => by
    have r' : u = Value.ref _ := r
    subst r'
    rw [okD] at hok
    rw [PyData.shown] at hz
    obtain ⟨its, rv, ⟨o, ho, hc, n, hd⟩, _⟩ := I.tuple h
    obtain ⟨as, hr⟩ := DVs.reads I ds _ its t rv
    obtain ⟨bs, hb, hk⟩ := DVs.rk I ds _ its t rv hok fun x hx => Nat.le_trans (tupleText_mem_le hx) hz
    have R := Reads.tuple ho hc hd hr
    have far := not_mem_of_deeper R (by rw [PyData.depth]; omega) hb
    refine ⟨_, ReadAtMost.cons R (by rw [PyData.depth]; omega) hb, ?_⟩
    rw [PyData.depth, PyData.shown]
    exact ReprK.tuple ho hc hd far hk
  | .dict _, _, u, .dk0 h, r, _, _ => by
    have r' : u = Value.ref _ := r
    subst r'
    obtain ⟨_, sy, vs, rel, o, es, ep, h1, h2, h3, h4⟩ := I.hok _ _ h
    cases rel
    have e0 : es.toList = [] := by
      have h5 := h4.2.1
      generalize es.toList = l at h5 ⊢
      cases h5
      rfl
    have R : Reads s.heap (.ref _) (.dict []) _ := Reads.dict (as := []) (bs := []) h1 h2.1 h3 (by rw [e0]; exact ReadsAll.nil) (by rw [e0]; exact ReadsAll.nil)
    have hb : ReadAtMost s.heap (PyData.depthKv []) [] := fun _ q => by cases q
    refine ⟨_, ReadAtMost.cons R (by rw [PyData.depth]; omega) hb, ?_⟩
    rw [PyData.depth, PyData.shown, PyData.shownKv]
    exact ReprK.dict h1 h2.1 h3 sy (fun q => by cases q) (by rw [e0]; exact .nil)
theorem DVs.rk (I : Inv X pins σ H s) : ∀ (ds : List PyData) (vs : List V) (us : List Value), DVs X.K H vs ds → Vals vs us → okAll ds = true → (∀ x ∈ PyData.shownAll ds, x.length ≤ sizeLine) → ∃ bs, ReadAtMost s.heap (PyData.depthAll ds) bs ∧ ReprAllK X.prog X.w bs s.heap (PyData.depthAll ds) us (PyData.shownAll ds)
  | [], _, _, .nil, r, _, _ => by
    cases r
    exact ⟨[], (fun _ q => by cases q), by rw [PyData.shownAll]; exact .nil⟩
  | d :: ds, _, _, .cons h1 h2, r, hok, hz => by
    cases r with
    | cons r1 r2 =>
      rw [okAll, Bool.and_eq_true] at hok
      rw [PyData.shownAll] at hz
      obtain ⟨p1, a1, k1⟩ := DV.rk I d _ _ h1 r1 hok.1 (hz _ List.mem_cons_self)
      obtain ⟨p2, a2, k2⟩ := DVs.rk I ds _ _ h2 r2 hok.2 fun x hx => hz x (List.mem_cons_of_mem _ hx)
      rw [PyData.shownAll, PyData.depthAll]
      refine ⟨p1 ++ p2, fun b hm => ?_, .cons ((k1.more fun b hb => List.mem_append_left _ hb).level_le (by omega)) (k2.more_le (fun b hb => List.mem_append_right _ hb) (by omega))⟩
      rcases List.mem_append.mp hm with q | q
      · obtain ⟨e, f, r, g⟩ := a1 b q
        exact ⟨e, f, r, by omega⟩
      · obtain ⟨e, f, r, g⟩ := a2 b q
        exact ⟨e, f, r, by omega⟩
end
/-- repr of any data -/
def rRepr2 (K : PySem.W.Frag) : List V → Hp → VK → Prop := fun xs H Q => ∃ (v : V) (d : PyData), xs = [v] ∧ DV K H v d ∧ okD d = true ∧ d.depth ≤ 40 ∧ szD d ≤ 1000000 ∧ Q (.str d.shown) H
theorem call_repr2 (hg : X.A.guards = some []) (hu : X.A.units + 64 < cLine) : CallR X (.builtin "repr") (rRepr2 X.K) := by
  intro pins s σ H xs us Q I r h
  obtain ⟨v, d, rfl, hd, hok, hdep, hsz, q⟩ := h
  have hl : d.shown.length ≤ sizeLine := by
    have := shown_le2 d hok
    rw [sizeLine_eq]
    omega
  obtain ⟨u, rfl, ru⟩ : ∃ u, us = [u] ∧ RelV v u := by
    cases r with
    | cons r1 r2 => cases r2; exact ⟨_, rfl, r1⟩
  have kk : ∀ b o, s.heap.get? b = some o → s.heap.get? b = some o := fun _ _ e => e
  cases hd with
  | non =>
    have r' : u = Value.none := ru
    subst r'
    rw [PyData.shown] at q
    exact PySem.P.repr_of_none ⟨.str _, H, I.tok _, ⟨_, rfl⟩, q⟩
  | bl b =>
    have r' : u = Value.bool b := ru
    subst r'
    rw [PyData.shown] at q
    exact PySem.P.repr_of_bool ⟨.str _, H, I.tok _, ⟨_, rfl⟩, q⟩
  | int i =>
    obtain ⟨t, rfl⟩ := ru
    rw [okD] at hok
    have := log_of (of_decide_eq_true hok)
    rw [PyData.shown] at q
    exact PySem.P.repr_of_int (by omega) ⟨.str _, H, I.tok _, ⟨_, rfl⟩, q⟩
  | str x =>
    obtain ⟨t, rfl⟩ := ru
    rw [PyData.shown] at q hl
    exact PySem.P.repr_of_str ⟨.str _, H, I.tok _, ⟨_, rfl⟩, q⟩ hl
  | lst h t =>
    rename_i a vs ds
    have r' : u = Value.ref a := ru
    subst r'
    rw [okD] at hok
    rw [PyData.shown] at hl q
    rw [PyData.depth] at hdep
    obtain ⟨its, rv, ⟨o, n, ho, hc, _, hdt⟩, _⟩ := I.list h
    obtain ⟨as, hr⟩ := DVs.reads I ds _ its t rv
    obtain ⟨bs, hb, hk⟩ := DVs.rk I ds _ its t rv hok fun x hx => Nat.le_trans (listText_mem_le hx) hl
    have far := not_mem_of_deeper (Reads.list ho hc hdt hr) (by rw [PyData.depth]; omega) hb
    refine call_repr_slot (by omega) ⟨o, ho, hc⟩ F.slot_list_repr.toG ?_
    cases its with
    | nil =>
      cases rv
      cases t
      rw [PyData.shownAll, listText_nil] at q
      exact call_list_repr_empty ⟨o, ho, hc⟩ ho hdt ⟨_, _, rfl, .str _, H, I.tok _, ⟨_, rfl⟩, q⟩
    | cons y l =>
      exact call_list_reprK ho hc hdt far (by rw [hk.length_eq]; rfl) (fun i y e => hk.item i y (by rw [List.getElem?_toArray] at e; exact e)) hg (fun b _ => Clear.nil b) (by show X.A.units + 1 + _ < cLine; omega) kk
        (fun h' u tk k => ⟨_, _, rfl, .str _, H, I.kept k, ⟨_, rfl⟩, q⟩) hl
  | tup h t =>
    rename_i a vs ds
    have r' : u = Value.ref a := ru
    subst r'
    rw [okD] at hok
    rw [PyData.shown] at hl q
    rw [PyData.depth] at hdep
    obtain ⟨its, rv, ⟨o, ho, hc, n, hdt⟩, _⟩ := I.tuple h
    obtain ⟨as, hr⟩ := DVs.reads I ds _ its t rv
    obtain ⟨bs, hb, hk⟩ := DVs.rk I ds _ its t rv hok fun x hx => Nat.le_trans (tupleText_mem_le hx) hl
    have far := not_mem_of_deeper (Reads.tuple ho hc hdt hr) (by rw [PyData.depth]; omega) hb
    refine call_repr_slot (by omega) ⟨o, ho, hc⟩ F.slot_tuple_repr ?_
    exact call_tuple_reprK ho hc hdt far hk hg (fun b _ => Clear.nil b) (by show X.A.units + 1 + _ < cLine; omega) kk
      (fun h' u tk k => ⟨_, _, rfl, .str _, H, I.kept k, ⟨_, rfl⟩, q⟩) hl
  | dk0 h =>
    rename_i a
    have r' : u = Value.ref a := ru
    subst r'
    rw [PyData.shown, PyData.shownKv] at q
    obtain ⟨_, sy, vs, rel, o, es, ep, h1, h2, h3, h4⟩ := I.hok _ _ h
    cases rel
    have e0 : es.toList = [] := by
      have h5 := h4.2.1
      generalize es.toList = l at h5 ⊢
      cases h5
      rfl
    refine call_repr_slot (by omega) ⟨o, h1, h2.1⟩ F.slot_dict_repr ?_
    exact call_dict_reprK (d := 0) (as := []) h1 h2.1 h3 sy (fun q => by cases q) (by rw [e0]; exact .nil) hg (fun b _ => Clear.nil b) (by show X.A.units + 1 + _ < cLine; omega) kk
      (fun h' u tk k => ⟨_, _, rfl, .str _, H, I.kept k, ⟨_, rfl⟩, q⟩) (by rw [sizeLine_eq]; decide)
end
/-! ### a list of lists of ints -/
def RowsAt (H : Hp) (a : Addr) (rows : List (List Int)) : Prop := ∃ ps : List Addr, H a = some (.lst (ps.map V.ref)) ∧ ps.length = rows.length ∧ (∀ (i : Nat) (p : Addr) (r : List Int), ps[i]? = some p → rows[i]? = some r → H p = some (.lst (r.map V.int)) ∧ p ≠ a)
theorem same_but {A B C : Hp} {d : Addr} (s : Same A B) (n : A d = none) (b : But d B C) : Same A C := fun p o e => b p o (ne_of_none e n) (s p o e)
theorem DVs.rows {K : PySem.W.Frag} {H : Hp} : ∀ {ps : List Addr} {rows : List (List Int)}, ps.length = rows.length → (∀ (i : Nat) (p : Addr) (r : List Int), ps[i]? = some p → rows[i]? = some r → H p = some (.lst (r.map V.int))) → DVs K H (ps.map V.ref) (rows.map fun r => .list (r.map .int))
  | [], [], _, _ => .nil
  | [], _ :: _, h, _ => by cases h
  | _ :: _, [], h, _ => by cases h
  | p :: ps, r :: rows, hl, h => .cons (.lst (SqL.of (h 0 p r rfl rfl)) (DVs.intsR r)) (DVs.rows (Nat.succ.inj hl) fun i q t h1 h2 => h (i + 1) q t h1 h2)
where
  DVs.intsR {K : PySem.W.Frag} {H : Hp} : ∀ ks : List Int, DVs K H (ks.map V.int) (ks.map PyData.int)
    | [] => .nil
    | k :: r => .cons (.int k) (DVs.intsR r)
theorem RowsAt.dv {K : PySem.W.Frag} {H : Hp} {a : Addr} {rows : List (List Int)} (R : RowsAt H a rows) : DV K H (.ref a) (.list (rows.map fun r => .list (r.map .int))) := by
  obtain ⟨ps, h1, h2, h3⟩ := R
  exact .lst (SqL.of h1) (DVs.rows h2 fun i p r e1 e2 => (h3 i p r e1 e2).1)
theorem RowsAt.nil {H : Hp} {a : Addr} (h : H a = some (.lst [])) : RowsAt H a [] := ⟨[], h, rfl, fun i p r e _ => by simp at e⟩
theorem RowsAt.same {H H' : Hp} {a : Addr} {rows : List (List Int)} (R : RowsAt H a rows) (s : Same H H') : RowsAt H' a rows := by
  obtain ⟨ps, h1, h2, h3⟩ := R
  exact ⟨ps, s _ _ h1, h2, fun i p r e1 e2 => ⟨s _ _ (h3 i p r e1 e2).1, (h3 i p r e1 e2).2⟩⟩
theorem RowsAt.but {H H' : Hp} {a d : Addr} {rows : List (List Int)} (R : RowsAt H a rows) (s : But d H H') (n : H d = none) : RowsAt H' a rows := R.same fun b o e => s b o (ne_of_none e n) e
/-- one more behind it -/
theorem RowsAt.push {H : Hp} {a p : Addr} {rows : List (List Int)} {r : List Int} (R : RowsAt H a rows) (hp : H p = some (.lst (r.map V.int))) (hne : p ≠ a) :
    ∃ xs, H a = some (.lst xs) ∧ xs.length = rows.length ∧ RowsAt (upd H a (.lst (xs ++ [.ref p]))) a (rows ++ [r]) := by
  obtain ⟨ps, h1, h2, h3⟩ := R
  refine ⟨ps.map V.ref, h1, by rw [List.length_map, h2], ps ++ [p], ?_, ?_, fun i q t e1 e2 => ?_⟩
  · rw [upd_same, List.map_append]; rfl
  · rw [List.length_append, List.length_append, h2]; rfl
  · by_cases hi : i < ps.length
    · rw [List.getElem?_append_left hi] at e1
      rw [List.getElem?_append_left (by omega)] at e2
      obtain ⟨z1, z2⟩ := h3 i q t e1 e2
      exact ⟨by rw [upd_ne z2]; exact z1, z2⟩
    · rw [List.getElem?_append_right (by omega)] at e1
      rw [List.getElem?_append_right (by omega)] at e2
      have hj : i - ps.length = 0 := by
        cases z : i - ps.length with
        | zero => rfl
        | succ m => rw [z] at e1; simp at e1
      rw [hj] at e1
      rw [show i - rows.length = 0 by omega] at e2
      simp at e1 e2
      subst e1; subst e2
      exact ⟨by rw [upd_ne hne]; exact hp, hne⟩
theorem rok_rows {rows : List (List Int)} (h : ∀ r ∈ rows, r.length ≤ 10 ∧ ∀ z ∈ r, 0 ≤ z ∧ z ≤ 1000000) (hl : rows.length ≤ 20) : Rok (.list (rows.map fun r => .list (r.map .int))) := by
  have hm : modAll (rows.map fun r => .list (r.map .int)) = true ∧ PyData.depthAll (rows.map fun r => .list (r.map .int)) ≤ 10 ∧ szAll (rows.map fun r => .list (r.map .int)) ≤ rows.length * 4000 := by
    clear hl
    induction rows with
    | nil => exact ⟨by rw [List.map_nil, modAll], by rw [List.map_nil, PyData.depthAll]; decide, by rw [List.map_nil, szAll]; omega⟩
    | cons r rows ih =>
      obtain ⟨i1, i2, i3⟩ := ih fun r hr => h r (List.mem_cons_of_mem _ hr)
      obtain ⟨j1, j2⟩ := h r List.mem_cons_self
      refine ⟨?_, ?_, ?_⟩
      · rw [List.map_cons, modAll, modD, modAll_ints r fun z hz => small_abs (by have := j2 z hz; omega) (by have := j2 z hz; omega), i1]; rfl
      · have := depthAll_ints r
        rw [List.map_cons, PyData.depthAll, PyData.depth]
        omega
      · rw [List.map_cons, szAll, szD, szAll_ints, List.length_cons]
        omega
  obtain ⟨m1, m2, m3⟩ := hm
  refine ⟨?_, ?_, ?_⟩
  · rw [modD]; exact m1
  · rw [PyData.depth]; omega
  · rw [szD]; omega
/-! ### sorted, < of data -/
theorem each_vals {β : Type} {val : β → V} : ∀ {bs : List β} {us : List Value}, Vals (bs.map val) us → PySem.W.EachIs (fun u b => RelV (val b) u) us bs
  | [], _, .nil => .nil
  | _ :: _, _, .cons r t => .cons r (each_vals t)
theorem vals_each {β : Type} {val : β → V} : ∀ {us : List Value} {bs : List β}, PySem.W.EachIs (fun u b => RelV (val b) u) us bs → Vals (bs.map val) us
  | _, _, .nil => .nil
  | _, _, .cons r t => .cons r (vals_each t)
/-- sorted(xs) of data that can be compared -/
def rSortD (K : PySem.W.Frag) : List V → Hp → VK → Prop := fun xs H Q => ∃ (a : Addr) (β : Type) (bs : List β) (enc : β → PyData) (val : β → V), xs = [.ref a] ∧ SqL K H a (bs.map val) ∧ (∀ b ∈ bs, DV K H (val b) (enc b)) ∧ PySem.W.AllAlike (bs.map enc) ∧ PySem.W.Sortable (bs.map enc) ∧ (∀ b ∈ bs, (enc b).depth ≤ 40) ∧
  ∀ p, H p = none → Q (.ref p) (upd H p (.lst ((bs.mergeSort (PySem.W.dataLe false enc)).map val)))
section
variable {X : Cx}
theorem each_reads {β : Type} {enc : β → PyData} {val : β → V} {pins : List (Addr × Obj)} {σ : L2.St} {H : Hp} {s : Shared} (I : L2.Inv X pins σ H s) : ∀ {us : List Value} {bs : List β}, PySem.W.EachIs (fun u b => RelV (val b) u) us bs → (∀ b ∈ bs, DV X.K H (val b) (enc b)) → PySem.W.EachIs (fun u b => ∃ as, Reads s.heap u (enc b) as) us bs
  | _, _, .nil, _ => .nil
  | _, _, .cons r t, h => .cons (DV.reads I _ _ _ (h _ List.mem_cons_self) r) (each_reads I t fun b hb => h b (List.mem_cons_of_mem _ hb))
theorem call_sortD (hu : X.A.units + 64 < cLine) : CallR X (.builtin "sorted") (rSortD X.K) := by
  intro pins s σ H xs us Q I r h
  obtain ⟨a, β, bs, enc, val, rfl, hS, hd, hal, hk, hdep, q⟩ := h
  obtain ⟨its, rv, hl, hz⟩ := I.list hS
  obtain ⟨u, rfl, ru⟩ := vals1 r
  obtain rfl : u = Value.ref a := ru
  have e := each_vals rv
  rw [List.length_map] at hz
  refine PySem.W.sorted_data (R := fun u b => RelV (val b) u) (vs := its) hl.isList e (each_reads I e hd) hal hk hz (fun b hb => by have := hdep b hb; omega) fun out hlen hout => ?_
  obtain ⟨n, hn⟩ := sortedAll_at s.heap its out.toArray
  have hle : s.heap.objs.size ≤ s.heap.objs.size + 1 := Nat.le_succ _
  refine ⟨.ref (s.heap.objs.size + 1), upd H (s.heap.objs.size + 1) (.lst ((bs.mergeSort (PySem.W.dataLe false enc)).map val)), I.laid (t' := s.toks) (fun b o e => sortedAll_old e) hle ⟨?_, out, n, vals_each hout, hn⟩, rfl, q _ (I.hok.fresh hle)⟩
  rw [List.length_map, List.length_mergeSort]
  exact hz
/-- x < y of data that can be compared -/
def rLtD (K : PySem.W.Frag) : R2 := fun x y H Q => ∃ dx dy : PyData, DV K H x dx ∧ DV K H y dy ∧ PySem.W.alike dx dy = true ∧ dx ≠ .none ∧ dx.depth ≤ 40 ∧ Q (.bl (PySem.W.dataLt dx dy)) H
theorem op_ltD (hu : X.A.units + 64 < cLine) : OpR X (compareOp .Lt) (rLtD X.K) := by
  intro pins s σ H x y v u Q I rx ry h
  obtain ⟨dx, dy, hx, hy, ha, hn, hdp, q⟩ := h
  obtain ⟨as, r1⟩ := DV.reads I _ _ _ hx rx
  obtain ⟨bs, r2⟩ := DV.reads I _ _ _ hy ry
  exact PySem.W.lt_data r1 r2 ha hn (by omega) ⟨.bl _, H, I, rfl, q⟩
end
/-! ### for x in d.items(): the pair as a whole -/
def ItRec (h : Heap) (it d : Addr) (i n ep : Nat) (f0 f1 ok ov : Value) : Prop :=
  h.get? it = some { cls := .type "dict_itemiterator", dict := none, data := .fields #[f0, f1, .ref d, .int i 0, .int n 0, .int ep 0, ok, ov], slots := #[] }
def ItAt (h : Heap) (it d : Addr) (i n ep : Nat) : Prop := ∃ f0 f1 ok ov, (f0 = .none ∨ ∃ a : Addr, f0 = rawInt a) ∧ ItRec h it d i n ep f0 f1 ok ov
section
variable {prog : Program} {w : World} {Ky : Type} [DecidableEq Ky] {knd : KeyKind prog w Ky} {A : Around} {E : Value → Shared → Prop} {s : Shared}
theorem next_itemN {it d : Addr} {i ep : Nat} {kvs : List (Ky × Value)} {k : Ky} {v : Value} {Q : Option Value → Shared → Prop} (hit : ItAt s.heap it d i kvs.length ep) (hm : s.heap.DictAt knd d kvs ep) (hx : kvs[i]? = some (k, v))
    (hQ : ∀ key h', knd.is k key = true → ItAt h' it d (i + 1) kvs.length ep → h'.get? s.heap.objs.size = some { cls := .type "tuple", data := .seq #[key, v] } → (∀ b o, b ≠ it → s.heap.get? b = some o → h'.get? b = some o) → Q (some (.ref s.heap.objs.size)) { s with heap := h' }) :
    wpAny (model prog w) A (pyNext (.ref it)) Q E s := by
  obtain ⟨hp, g, dr, tk, os⟩ := s
  obtain ⟨f0, f1, ok, ov, hf0, hit⟩ := hit
  have hit : hp.get? it = some { cls := .type "dict_itemiterator", dict := none, data := .fields #[f0, f1, .ref d, .int i 0, .int kvs.length 0, .int ep 0, ok, ov], slots := #[] } := hit
  obtain ⟨od, es, hod, hcd, hdd, hk, hpr, hn⟩ := id hm
  have hT : Shared.TypeIs ⟨hp, g, dr, tk, os⟩ (.ref it) "dict_itemiterator" := ⟨_, hit, rfl⟩
  unfold pyNext
  refine wpAny_bind (wpAny_attempt ?_)
  refine wpAny_callSpecial?_slot (name := Str.ofString "__next__") hT F.slot_dict_itemiterator_next ?_
  refine wpAny_call_entry F.slot_dict_itemiterator_next hT F.entry_dict_itemiterator_next ?_ (F.args_dict_itemiterator_next_1 _)
  refine wpAny_bind (wpAny_pure ?_)
  refine wpAny_bind ?_
  refine wpAny_bind ?_
  first | refine wpAny_bind (wpAny_typeNameOfWhole_itemiter hT (wpAny_pure ?_)) | refine wpAny_bind (wpAny_typeNameOf_itemiter hT (wpAny_pure ?_))
  refine wpAny_bind (wpAny_fieldsOf hit rfl ?_)
  have own1 : Builtin.Dict_items.ownsTuple "dict_itemiterator" = true := by decide
  simp only [own1, if_true]
  show wpAny _ _ (if (Value.ref d == Value.none) = true then _ else _) _ _ _
  rw [if_neg (show ¬ ((Value.ref d == Value.none) = true) from Bool.false_ne_true)]
  refine wpAny_bind (wpAny_pure ?_)
  refine wpAny_bind (wpAny_dictEntries hod hdd ?_)
  have hsz : es.size = kvs.length := by rw [← hpr.length]; simp
  rw [if_neg (by rw [hsz]; simp)]
  refine wpAny_bind (wpAny_pure ?_)
  refine wpAny_bind (wpAny_dictEpoch hod hdd ?_)
  rw [if_neg (by simp)]
  refine wpAny_pure ?_
  have hlt : i < kvs.length := by
    rcases Nat.lt_or_ge i kvs.length with h | h
    · exact h
    · simp [List.getElem?_eq_none h] at hx
  have hlt' : i < es.size := by rw [hsz]; exact hlt
  obtain ⟨hkey, hval⟩ := hpr.get? (e := es[i]) (by simp [hlt']) hx
  simp only [show ¬ ((i : Int) < 0) from by omega, if_false, Int.toNat_natCast, Array.getElem?_eq_getElem hlt']
  refine wpAny_bind ?_
  first | refine wpAny_bind (wpAny_typeNameOfWhole_itemiter hT (wpAny_pure ?_)) | refine wpAny_bind (wpAny_typeNameOf_itemiter hT (wpAny_pure ?_))
  refine wpAny_bind (wpAny_isOneOf_itemiter hT ?_)
  show wpAny _ _ (setField (.ref it) 3 (rawInt ((i : Int) + 1)) >>= _) _ _ ⟨hp, g, dr, tk, os⟩
  refine wpAny_bind (wpAny_setField_rec hit (by simp) fun h1 he1 hs1 => ?_)
  have hs1 : Heap.SameBut it hp h1 := hs1
  have he1 : ItRec h1 it d (i + 1) kvs.length ep f0 f1 ok ov := by
    have e : ((i + 1 : Nat) : Int) = (i : Int) + 1 := by omega
    unfold ItRec; rw [e]; simpa [rawInt] using he1
  have hT1 : Shared.TypeIs ⟨h1, g, dr, tk, os⟩ (.ref it) "dict_itemiterator" := ⟨_, he1, rfl⟩
  refine wpAny_bind (wpAny_holding ?_)
  refine wpAny_bind (wpAny_isOneOf_itemiter hT1 ?_)
  refine wpAny_bind (wpAny_isOneOf_itemiter hT1 ?_)
  show wpAny _ _ (Builtin.Dict_items.pairFromOwner (.ref it) 6 es[i].key es[i].val) _ _ ⟨h1, g, dr, tk, os⟩
  unfold Builtin.Dict_items.pairFromOwner
  refine wpAny_bind (wpAny_newTuple ?_)
  have he2 : ItRec (h1.push { cls := .type "tuple", data := .seq #[es[i].key, es[i].val] }) it d (i + 1) kvs.length ep f0 f1 ok ov := Heap.get?_push_of_some _ he1
  generalize hh2 : h1.push { cls := .type "tuple", data := .seq #[es[i].key, es[i].val] } = h2 at he2
  have hz1 : h1.objs.size = hp.objs.size := hs1.1
  have hil : it < hp.objs.size := Heap.lt_size hit
  have ht2 : h2.get? hp.objs.size = some { cls := .type "tuple", data := .seq #[es[i].key, es[i].val] } := by rw [← hh2, ← hz1]; exact Heap.get?_push_size _ rfl
  have hk2 : ∀ b o, b ≠ it → hp.get? b = some o → h2.get? b = some o := fun b o hb e => by rw [← hh2]; exact Heap.get?_push_of_some _ (hs1.extBut b o hb e)
  show wpAny _ _ (Builtin.Dict_items.ownedTupleIsFree (.ref it) >>= _) _ _ ⟨h2, g, dr, tk, os⟩
  rw [hz1]
  clear hh2 he1 hs1 hT1 hz1
  -- the pair is the caller's: kept by the iterator, or not
  have fill : ∀ (h2 : Heap) (f0 f1 ok ov : Value), ItRec h2 it d (i + 1) kvs.length ep f0 f1 ok ov → h2.get? hp.objs.size = some { cls := .type "tuple", data := .seq #[es[i].key, es[i].val] } → (∀ b o, b ≠ it → hp.get? b = some o → h2.get? b = some o) →
      ∀ E', wpAny (model prog w) A.in1 (do
        let old := [← field (.ref it) 6, ← field (.ref it) (6 + 1)]
        setField (.ref it) 6 es[i].key; setField (.ref it) (6 + 1) es[i].val
        setField (.ref it) 0 (rawInt hp.objs.size); setField (.ref it) 1 (.bool false)
        letGo old [Value.ref hp.objs.size]) (fun _ s' => ∃ h', s' = ⟨h', g, dr, tk, os⟩ ∧ ItAt h' it d (i + 1) kvs.length ep ∧ h'.get? hp.objs.size = some { cls := .type "tuple", data := .seq #[es[i].key, es[i].val] } ∧ ∀ b o, b ≠ it → hp.get? b = some o → h'.get? b = some o) E' ⟨h2, g, dr, tk, os⟩ := by
    intro h2 f0 f1 ok ov he2 ht2 hk2 E'
    refine wpAny_bind (wpAny_field (show h2.get? it = _ from he2) rfl (x := ok) rfl ?_)
    refine wpAny_bind (wpAny_field (show h2.get? it = _ from he2) rfl (x := ov) rfl ?_)
    refine wpAny_bind (wpAny_setField_rec he2 (by simp) fun h3 he3 hs3 => ?_)
    have hs3 : Heap.SameBut it h2 h3 := hs3
    have he3 : ItRec h3 it d (i + 1) kvs.length ep f0 f1 es[i].key ov := he3
    refine wpAny_bind (wpAny_setField_rec he3 (by simp) fun h4 he4 hs4 => ?_)
    have hs4 : Heap.SameBut it h3 h4 := hs4
    have he4 : ItRec h4 it d (i + 1) kvs.length ep f0 f1 es[i].key es[i].val := he4
    refine wpAny_bind (wpAny_setField_rec he4 (by simp) fun h5 he5 hs5 => ?_)
    have hs5 : Heap.SameBut it h4 h5 := hs5
    have he5 : ItRec h5 it d (i + 1) kvs.length ep (rawInt hp.objs.size) f1 es[i].key es[i].val := he5
    refine wpAny_bind (wpAny_setField_rec he5 (by simp) fun h6 he6 hs6 => ?_)
    have hs6 : Heap.SameBut it h5 h6 := hs6
    have he6 : ItRec h6 it d (i + 1) kvs.length ep (rawInt hp.objs.size) (.bool false) es[i].key es[i].val := he6
    refine wpAny_letGo ⟨h6, rfl, ⟨_, _, _, _, .inr ⟨_, rfl⟩, he6⟩, ?_, fun b o hb e => hs6.extBut b o hb (hs5.extBut b o hb (hs4.extBut b o hb (hs3.extBut b o hb (hk2 b o hb e))))⟩
    exact hs6.extBut _ _ (Nat.ne_of_gt hil) (hs5.extBut _ _ (Nat.ne_of_gt hil) (hs4.extBut _ _ (Nat.ne_of_gt hil) (hs3.extBut _ _ (Nat.ne_of_gt hil) ht2)))
  have isfree : ∀ (Q' : Bool → Shared → Prop) (E' : Value → Shared → Prop), (∀ (b : Bool) (h3 : Heap) (g0 g1 : Value), (g0 = .none ∨ ∃ a : Addr, g0 = rawInt a) → ItRec h3 it d (i + 1) kvs.length ep g0 g1 ok ov → h3.get? hp.objs.size = some { cls := .type "tuple", data := .seq #[es[i].key, es[i].val] } → (∀ b o, b ≠ it → hp.get? b = some o → h3.get? b = some o) →
      Q' b ⟨h3, g, dr, tk, os⟩) → wpAny (model prog w) A.in1 (Builtin.Dict_items.ownedTupleIsFree (.ref it)) Q' E' ⟨h2, g, dr, tk, os⟩ := by
    intro Q' E' hq
    unfold Builtin.Dict_items.ownedTupleIsFree
    refine wpAny_bind (wpAny_field (show h2.get? it = _ from he2) rfl (x := f0) rfl ?_)
    rcases hf0 with rfl | ⟨a, rfl⟩
    · exact wpAny_pure (hq true h2 _ _ (.inl rfl) he2 ht2 hk2)
    · show wpAny _ _ (loadIfAlive ((a : Int).toNat) >>= _) _ _ _
      refine wpAny_bind (fun Γ p _ => ?_)
      unfold loadIfAlive
      rw [Sem.wp_loadIfAlive, Sem.wp_pure]
      cases hal : (h2.get? ((a : Int).toNat)) with
      | none => exact wpAny_pure (hq true h2 _ _ (.inr ⟨a, rfl⟩) he2 ht2 hk2)
      | some ob =>
        refine wpAny_bind (wpAny_field (show h2.get? it = _ from he2) rfl (x := f1) rfl ?_)
        by_cases hb : (f1 != Value.bool true) = true
        · rw [if_pos hb]
          refine wpAny_bind (wpAny_setField_rec he2 (by simp) fun h3 he3 hs3 => ?_)
          have hs3 : Heap.SameBut it h2 h3 := hs3
          have he3 : ItRec h3 it d (i + 1) kvs.length ep (rawInt a) (.bool true) ok ov := he3
          exact wpAny_pure (hq false h3 _ _ (.inr ⟨a, rfl⟩) he3 (hs3.extBut _ _ (Nat.ne_of_gt hil) ht2) fun b o hb e => hs3.extBut b o hb (hk2 b o hb e))
        · rw [if_neg hb]
          exact wpAny_pure (hq false h2 _ _ (.inr ⟨a, rfl⟩) he2 ht2 hk2)
  have out : ∀ h', ItAt h' it d (i + 1) kvs.length ep → h'.get? hp.objs.size = some { cls := .type "tuple", data := .seq #[es[i].key, es[i].val] } → (∀ b o, b ≠ it → hp.get? b = some o → h'.get? b = some o) → Q (some (.ref hp.objs.size)) ⟨h', g, dr, tk, os⟩ := fun h' h1 h2 h3 =>
    hQ es[i].key h' hkey h1 (by rw [← hval]; exact h2) h3
  refine wpAny_bind (isfree _ _ fun b h3 g0 g1 hg0 he3 ht3 hk3 => ?_)
  cases b with
  | false =>
    rw [if_neg Bool.false_ne_true]
    exact wpAny_pure (wpAny_pure ⟨_, rfl, wpAny_pure (out h3 ⟨_, _, _, _, hg0, he3⟩ ht3 hk3)⟩)
  | true =>
    rw [if_pos rfl]
    refine wpAny_bind (wpAny_field (show h3.get? it = _ from he3) rfl (x := ok) rfl ?_)
    refine wpAny_bind (wpAny_field (show h3.get? it = _ from he3) rfl (x := ov) rfl ?_)
    refine wpAny_bind (wpAny_setField_rec he3 (by simp) fun h4 he4 hs4 => ?_)
    have hs4 : Heap.SameBut it h3 h4 := hs4
    have he4 : ItRec h4 it d (i + 1) kvs.length ep g0 g1 es[i].key ov := he4
    refine wpAny_bind (wpAny_setField_rec he4 (by simp) fun h5 he5 hs5 => ?_)
    have hs5 : Heap.SameBut it h4 h5 := hs5
    have he5 : ItRec h5 it d (i + 1) kvs.length ep g0 g1 es[i].key es[i].val := he5
    refine wpAny_bind (wpAny_setField_rec he5 (by simp) fun h6 he6 hs6 => ?_)
    have hs6 : Heap.SameBut it h5 h6 := hs6
    have he6 : ItRec h6 it d (i + 1) kvs.length ep (rawInt hp.objs.size) g1 es[i].key es[i].val := he6
    refine wpAny_bind (wpAny_setField_rec he6 (by simp) fun h7 he7 hs7 => ?_)
    have hs7 : Heap.SameBut it h6 h7 := hs7
    have he7 : ItRec h7 it d (i + 1) kvs.length ep (rawInt hp.objs.size) (.bool false) es[i].key es[i].val := he7
    refine wpAny_bind (wpAny_letGo (wpAny_pure (wpAny_pure ⟨_, rfl, wpAny_pure (out h7 ⟨_, _, _, _, .inr ⟨_, rfl⟩, he7⟩ ?_ ?_)⟩)))
    · exact hs7.extBut _ _ (Nat.ne_of_gt hil) (hs6.extBut _ _ (Nat.ne_of_gt hil) (hs5.extBut _ _ (Nat.ne_of_gt hil) (hs4.extBut _ _ (Nat.ne_of_gt hil) ht3)))
    · exact fun b o hb e => hs7.extBut b o hb (hs6.extBut b o hb (hs5.extBut b o hb (hs4.extBut b o hb (hk3 b o hb e))))
theorem next_endN {it d : Addr} {i ep : Nat} {kvs : List (Ky × Value)} {Q : Option Value → Shared → Prop} (hh : A.handled = none) (hit : ItAt s.heap it d i kvs.length ep) (hm : s.heap.DictAt knd d kvs ep) (hx : kvs[i]? = none)
    (hQ : ∀ h', Heap.ExtBut it s.heap h' → Q none { s with heap := h' }) : wpAny (model prog w) A (pyNext (.ref it)) Q E s := by
  obtain ⟨f0, f1, ok, ov, hf0, hit⟩ := hit
  have hit : s.heap.get? it = some { cls := .type "dict_itemiterator", dict := none, data := .fields #[f0, f1, .ref d, .int i 0, .int kvs.length 0, .int ep 0, ok, ov], slots := #[] } := hit
  obtain ⟨od, es, hod, hcd, hdd, hk, hpr, hn⟩ := id hm
  have hT : s.TypeIs (.ref it) "dict_itemiterator" := ⟨_, hit, rfl⟩
  unfold pyNext
  refine wpAny_bind (wpAny_attempt ?_)
  refine wpAny_callSpecial?_slot (name := Str.ofString "__next__") hT F.slot_dict_itemiterator_next ?_
  refine wpAny_call_entry F.slot_dict_itemiterator_next hT F.entry_dict_itemiterator_next ?_ (F.args_dict_itemiterator_next_1 _)
  refine wpAny_bind (wpAny_pure ?_)
  refine wpAny_bind ?_
  refine wpAny_bind ?_
  first | refine wpAny_bind (wpAny_typeNameOfWhole_itemiter hT (wpAny_pure ?_)) | refine wpAny_bind (wpAny_typeNameOf_itemiter hT (wpAny_pure ?_))
  refine wpAny_bind (wpAny_fieldsOf hit rfl ?_)
  have own1 : Builtin.Dict_items.ownsTuple "dict_itemiterator" = true := by decide
  simp only [own1, if_true]
  show wpAny _ _ (if (Value.ref d == Value.none) = true then _ else _) _ _ s
  rw [if_neg (show ¬ ((Value.ref d == Value.none) = true) from Bool.false_ne_true)]
  refine wpAny_bind (wpAny_pure ?_)
  refine wpAny_bind (wpAny_dictEntries hod hdd ?_)
  have hsz : es.size = kvs.length := by rw [← hpr.length]; simp
  rw [if_neg (by rw [hsz]; simp)]
  refine wpAny_bind (wpAny_pure ?_)
  refine wpAny_bind (wpAny_dictEpoch hod hdd ?_)
  rw [if_neg (by simp)]
  refine wpAny_pure ?_
  have hge : es.size ≤ i := by rw [hsz]; simpa using hx
  simp only [show ¬ ((i : Int) < 0) from by omega, if_false, Int.toNat_natCast, Array.getElem?_eq_none hge]
  refine wpAny_bind ?_
  first | refine wpAny_bind (wpAny_typeNameOfWhole_itemiter hT (wpAny_pure ?_)) | refine wpAny_bind (wpAny_typeNameOf_itemiter hT (wpAny_pure ?_))
  show wpAny _ _ (setField (.ref it) 2 .none >>= _) _ _ s
  refine wpAny_bind (wpAny_setField hit rfl (by simp) ?_)
  show wpAny _ _ (newExc (.type "StopIteration") [] >>= _) _ _ _
  refine wpAny_bind ?_
  simp only [newExc, newTuple]
  refine wpAny_bind (wpAny_newObj_type ?_ (by size_fits))
  refine wpAny_bind (m := firstArgMember _ _) (wpAny_of_eq (a := Value.none) (by first | rfl | (simp only [firstArgMember]; rfl)) ?_)
  refine wpAny_newObj_type ?_ (by size_fits)
  simp only [raiseNew]
  refine wpAny_bind (wpAny_handled ?_)
  rw [show A.in1.handled = none from hh]
  refine wpAny_bind (wpAny_pure (wpAny_throw ?_))
  refine wpAny_bind (wpAny_isInstance (T := "StopIteration") (b := true) ⟨_, Heap.get?_push_size _ rfl, rfl⟩ isSubtype_stop ?_)
  exact wpAny_pure (hQ _ (((Heap.SameBut.update ..).extBut.push _).push _))
end
section
variable {P : Program} {w : World} {K : PySem.W.Frag} {d : Addr} {o : Obj} {es : Array DictEntry} {ep : Nat}
theorem turn_itemsN {kvs : List (Key × V)} {x : Str} {px : Pos} (it : Addr) (hod : o.data = .dict es ep) : Turn P w K (.Name x px) (Iti d o kvs) [it] it (fun i h => ItAt h it d i kvs.length ep) where
  mem := List.mem_singleton.mpr rfl
  obj := fun i h st b hb => by
    have e := List.mem_singleton.mp hb
    subst e
    obtain ⟨f0, f1, ok, ov, _, e⟩ := st
    exact ⟨_, e, fun v z => nomatch z⟩
  keep := fun i h h' st k => let ⟨f0, f1, ok, ov, hf, e⟩ := st; ⟨f0, f1, ok, ov, hf, k it (List.mem_singleton.mpr rfl) _ e⟩
  item := by
    intro X hP hw hK hc i pins s σ H E I hf st hg
    subst hP hw hK
    obtain ⟨hd, hi⟩ := hg
    obtain ⟨hs, hgd, hx, es', ep', vs, hdt, hsz, kv, hm⟩ := I.frzK hd
    obtain ⟨rfl, rfl⟩ := dict_ep hod hdt
    obtain ⟨⟨k, v⟩, hkv⟩ : ∃ p, kvs[i]? = some p := ⟨kvs[i], List.getElem?_eq_getElem hi⟩
    obtain ⟨u, hu, ru⟩ := kv_get kv hkv
    have hl : kvs.length = vs.length := Paired.length kv
    rw [hl] at st
    have hlt : it < s.heap.objs.size := by
      obtain ⟨f0, f1, ok, ov, _, e⟩ := st
      exact Heap.lt_size e
    refine next_itemN st hm hu fun key h' hkey ho hT hk => ?_
    have new : L2.ObjOk X.prog X.w (upd H s.heap.objs.size (.tup [kV k, v])) h' s.heap.objs.size (.tup [kV k, v]) :=
      ⟨by show 2 ≤ sizeLine; decide, [key, u], .cons (relV_key (show keyIs k key = true from hkey)) (.cons ru .nil), ⟨_, hT, rfl, _, rfl⟩⟩
    have I1 : L2.Inv X pins σ (upd H s.heap.objs.size (.tup [kV k, v])) { s with heap := h' } :=
      I.turnedNew (t' := s.toks) (ch := [it]) (fun b ob hb e => hk b ob (fun z => hb (List.mem_singleton.mpr z)) e) hf (Nat.le_refl _) new
    refine ⟨_, rfl, wpAny_pure ⟨.ref s.heap.objs.size, _, I1, rfl, ⟨_, k, v, hkv, rfl, I.hok.fresh (Nat.le_refl _), rfl⟩, by rw [hl]; exact ho, fun b hb => ?_⟩⟩
    have e := List.mem_singleton.mp hb
    rw [e, upd_ne (Nat.ne_of_lt hlt)]
    exact (hf it (List.mem_singleton.mpr rfl)).1
  done := by
    intro X hP hw hK hc i pins s σ H E I hf st hg
    subst hP hw hK
    obtain ⟨hd, hi⟩ := hg
    obtain ⟨f0, f1, f2, f3, f4, f5⟩ := hf it (List.mem_singleton.mpr rfl)
    obtain ⟨hs, hgd, hx, es', ep', vs, hdt, hsz, kv, hm⟩ := I.frzK hd
    obtain ⟨rfl, rfl⟩ := dict_ep hod hdt
    have hl : kvs.length = vs.length := Paired.length kv
    rw [hl] at st
    exact next_endN (I.ok.hd hc) st hm (List.getElem?_eq_none (by omega)) fun h' eb => ⟨rfl, I.turned (t' := s.toks) (fun b ob hb e => eb b ob hb e) f0 f1 f3 f4 f5⟩
  self := fun A i s Q E st h => by
    obtain ⟨f0, f1, ok, ov, _, e⟩ := st
    have hT : s.TypeIs (.ref it) "dict_itemiterator" := ⟨_, e, rfl⟩
    refine wpAny_pyIter_slot hT PySem.F.slot_dict_itemiterator_iter (wpAny_call_entry PySem.F.slot_dict_itemiterator_iter hT PySem.W.kcp_entry ?_ (PySem.F.args_dict_itemiterator_iter_1 _))
    show wpAny _ _ (ret (.ref it)) _ _ s
    exact wpAny_pure ⟨_, rfl, "dict_itemiterator", _, hT, PySem.F.slot_dict_itemiterator_next.lookup, h⟩
end
section
variable {X : Cx} {e : Expr} {td : TE} {apos cpos : Pos} {x : Str} {px : Pos}
theorem pi_itemsN (he : PE X e td) (hbase : attributeBase e "items" X.env (eval e X.env) = eval e X.env := by rfl) (hline : (apos.endLine == cpos.line) = true := by rfl) :
    PI X (.Name x px) (.Call (.Attribute e "items" apos) [] [] cpos) (iItems td) := by
  refine ⟨fun pins s σ H R I h => ?_⟩
  refine wpAny_Call_method (T := "dict") (id := "dict.items") hbase rfl hline F.plainAttrs_dict F.slot_dict_items F.type_dict_items (thn (he.run pins s σ H _ I h) fun u s1 ⟨y, H1, I1, rx, d, o, kvs, ex, hd, q⟩ => ?_)
  subst ex
  obtain rfl : u = Value.ref d := rx
  obtain ⟨hs, hgd, hx, es, ep, vs, hdt, hsz, kv, hm⟩ := I1.frzK hd
  have hl : kvs.length = vs.length := Paired.length kv
  refine ⟨hm.dictOf.typeIs, hm.dictOf.mapOf.noDict, ?_⟩
  have I2 : L2.Inv X pins σ H1 { s1 with heap := s1.heap.push { cls := .type "dict_items", data := .fields #[.ref d] } } := I1.kept (t' := s1.toks) fun b ob q => Heap.get?_push_of_some _ q
  have fin : wpAny (model X.prog X.w) X.A (pyIter (.ref s1.heap.objs.size)) (PIE X pins σ (.Name x px) R) X.xe { s1 with heap := s1.heap.push { cls := .type "dict_items", data := .fields #[.ref d] } } := by
    refine wpAny_pyIter_items (d := d) (knd := mixKind X.prog X.w) ⟨_, Heap.get?_push_size _ rfl, rfl, rfl⟩ (hm.push _) (pi_one (tk := s1.toks) I2 _ (turn_itemsN _ hdt) ⟨.none, .bool false, .none, .none, .inl rfl, ?_⟩ q)
    rw [hl]
    exact Heap.get?_push_size _ rfl
  show wpAny _ _ (callWith cpos (.builtin "dict.items") [.ref d] [] []) _ X.xe s1
  exact method_meetsIn F.slot_dict_items F.entry_dict_items rfl (PySem.evalArgs_none ⟨rfl, hm.dictOf.typeIs, F.args_dict_items_1 _, _, meets_dict_items (mixKind X.prog X.w) d hs, ⟨vs, hm.dictOf⟩, fin⟩)
end
/-! ### the rule's order -/
def rankI (fs : List Int) (c : Int) : Int := if c > 0 then (fs[(c - 1).toNat]?).getD 0 else -((fs[(-c - 1).toNat]?).getD 0)
def keyI (cs : List Int) (e : Int × List Int) : List Int := cs.map (rankI e.2) ++ [e.1]
def ColsOk (cs : List Int) (n : Nat) : Prop := cs.length ≤ 4 ∧ ∀ c ∈ cs, c ≠ 0 ∧ c.natAbs ≤ n
def cmpI (a b : List Int) : Int := if a = b then 0 else if a < b then -1 else 1
theorem ix_tupK {X : Cx} {K : PySem.W.Frag} (h : X.K = K) : IxR X (rIxT K) := by
  subst h
  exact ix_tup
theorem alike_rows (a b : List Int) : PySem.W.alike (.list (a.map .int)) (.list (b.map .int)) = true := by
  show PySem.W.alike (.list (a.map .int)) (.list (b.map .int)) = true
  rw [PySem.W.alike]
  exact PySem.W.alike_ints a b
theorem dataLt_rows (a b : List Int) : PySem.W.dataLt (.list (a.map .int)) (.list (b.map .int)) = decide (a < b) := by
  rw [PySem.W.dataLt_list]
  exact PySem.W.dataLt_ints a b
theorem DVs.intsL {K : PySem.W.Frag} {H : Hp} : ∀ ks : List Int, DVs K H (ks.map V.int) (ks.map PyData.int)
  | [] => .nil
  | k :: r => .cons (.int k) (DVs.intsL r)
theorem depth_rows (a : List Int) : (PyData.list (a.map .int)).depth ≤ 40 := by
  rw [PyData.depth, PySem.W.depth_ints]
  decide
section
variable {P : Program} {w : World} {K : PySem.W.Frag} {mg : Str → Option Value} {base : Heap}
def spKey (K : PySem.W.Frag) : Sp := fun vs H Q _ => ∃ (r it pf : Addr) (cs fs : List Int) (i : Int), vs = [.ref r, .ref it] ∧ SqT K H r (cs.map V.int) ∧ SqT K H it [.int i, .ref pf] ∧ SqT K H pf (fs.map V.int) ∧ ColsOk cs fs.length ∧
  ∀ p H', Same H H' → H p = none → H' p = some (.lst ((keyI cs (i, fs)).map V.int)) → Q (.ref p) H'
theorem scKey : FnScope ["rule", "item", "row_id", "fields", "ranks", "column"] ["rule", "item"] (defScope sKey) := ⟨rfl, rfl, rfl, by decide +kernel, rfl, by decide +kernel, by decide +kernel⟩
theorem ok_key {f : Addr} {fd : FuncData} (F : Fun K "sort_key" "sort_key" sKey f fd) : FnOk P w K mg base CX0 1 f fd ["rule", "item"] (spKey K) := by
  refine F.ok scKey (fun vs H Q E h => ?_) (fun cdv A outer s H vs Q E hr h => ?_)
  · obtain ⟨r, it, pf, cs, fs, i, rfl, _⟩ := h
    rfl
  · obtain ⟨r, it, pf, cs, fs, i, rfl, hr1, hit, hpf, hc, k⟩ := h
    refine ⟨_, pss_cons (ps_asg (pv 1) (pg_tup rfl (pgs_cons (pg_name (i := 2) scKey.nd rfl (Or.inl rfl)) (pgs_cons (pg_name (i := 3) scKey.nd rfl (Or.inr rfl)) pgs_nil))))
      (pss_cons (ps_setLc (i := 4) (own := [("column", 5)]) (g := gName 5) rfl scKey.nd rfl rfl (sw_true rfl rfl rfl (by decide +kernel)) (pi_tup (pv 0)) (blkOk_by (N := ["rule", "item", "row_id", "fields", "ranks", "column"]) (sc := defScope sKey) (by decide +kernel)) (fun _ _ _ _ _ => pg_name (i := 5) scKey.nd rfl (Or.inl rfl))
          (fun _ _ _ _ _ => pts_nil) (fun _ _ _ _ _ => pe_ifExp (pt_cmpR op_gt (pv 5) pe_int (nomark _)) (pe_ix (ix_tupK (K := K) rfl) (pv 3) (pe_op op_sub (pv 5) pe_int) (fun _ _ => rfl)) (pe_un un_neg (pe_ix (ix_tupK (K := K) rfl) (pv 3) (pe_op op_sub (pe_un un_neg (pv 5)) pe_int) (fun _ _ => rfl)))))
      (pss_one (ps_ret (pe_op op_cat (pv 4) (pe_lst (pa_cons (pv 2) pa_nil)))))), ?_⟩
    have h16 : sizeLine = 16777216 := sizeLine_eq
    refine ⟨_, rfl, it, _, rfl, hit, rfl, _, _, rfl, _, _, rfl, rfl, ?_⟩
    refine ⟨_, rfl, r, rfl, ⟨_, hr1⟩, fun D hD => ?_⟩
    refine lc_tup (K := K) (a := r) (xs := cs.map V.int) (fun j H' => Same H H' ∧ H' D = some (.lst ((cs.take j).map fun c => V.int (rankI fs c)))) ⟨Same.new hD, upd_same⟩ (fun j H' _ q => Same.tq q.1 hr1) ?_ ?_
    · rintro j x H' hx ⟨s1, hL⟩
      obtain ⟨c, hc1, rfl⟩ : ∃ c, cs[j]? = some c ∧ x = V.int c := by
        rw [List.getElem?_map] at hx
        cases e : cs[j]? with
        | none => rw [e] at hx; cases hx
        | some c => rw [e] at hx; exact ⟨c, rfl, (Option.some.inj hx).symm⟩
      obtain ⟨hc0, hcn⟩ := hc.2 c (List.mem_of_getElem? hc1)
      have at_ : ∀ m : Nat, m < fs.length → (fs.map V.int)[m]? = some (V.int ((fs[m]?).getD 0)) := fun m hm => by
        rw [List.getElem?_map, List.getElem?_eq_getElem hm]; rfl
      have fin : ∀ v, v = rankI fs c → ∃ acc, H' D = some (.lst acc) ∧ acc.length < sizeLine ∧ Same H (upd H' D (.lst (acc ++ [V.int v]))) ∧ (upd H' D (.lst (acc ++ [V.int v]))) D = some (.lst ((cs.take (j + 1)).map fun c => V.int (rankI fs c))) := by
        rintro v rfl
        refine ⟨_, hL, ?_, fun b u e => by rw [upd_ne (ne_of_none e hD)]; exact s1 b u e, ?_⟩
        · rw [List.length_map, List.length_take, h16]; have := hc.1; omega
        · rw [upd_same, take_snoc hc1, List.map_append]; rfl
      refine ⟨rfl, _, rfl, _, _, rfl, rfl, _, rfl, ?_⟩
      refine ite2 (fun hp => ?_) (fun hp => ?_)
      · have hp : 0 < c := of_decide_eq_true hp
        refine ⟨_, rfl, _, rfl, _, _, rfl, rfl, pf, fs.map V.int, c - 1, V.int ((fs[(c - 1).toNat]?).getD 0), rfl, rfl, Same.tq s1 hpf, ?_, fin _ ?_⟩
        · obtain ⟨m, hm⟩ : ∃ m : Nat, c - 1 = (m : Int) := ⟨(c - 1).toNat, by omega⟩
          rw [hm, Int.toNat_natCast]
          exact atI_nat (at_ m (by omega))
        · unfold rankI
          rw [if_pos hp]
      · have hp : ¬ c > 0 := fun z => hp (decide_eq_true z)
        refine ⟨_, rfl, _, rfl, _, rfl, _, _, rfl, rfl, pf, fs.map V.int, -c - 1, V.int ((fs[(-c - 1).toNat]?).getD 0), rfl, rfl, Same.tq s1 hpf, ?_, _, rfl, fin _ ?_⟩
        · obtain ⟨m, hm⟩ : ∃ m : Nat, -c - 1 = (m : Int) := ⟨(-c - 1).toNat, by omega⟩
          rw [hm, Int.toNat_natCast]
          exact atI_nat (at_ m (by omega))
        · unfold rankI
          rw [if_neg hp]
    · rintro H' ⟨s1, hL⟩
      rw [List.length_map, List.take_length] at hL
      refine ⟨_, rfl, _, rfl, by show 1 ≤ sizeLine; decide, fun z hz => ⟨D, z, _, _, rfl, rfl, Same.new hz _ _ hL, upd_same, by rw [List.length_map, h16]; have := hc.1; show cs.length + 1 ≤ _; omega, fun p hp => ?_⟩⟩
      refine k p _ (s1.trans ((Same.new hz).trans (Same.new hp))) ?_ ?_
      · cases e : H p with
        | none => rfl
        | some u =>
          have := Same.new (o := .lst [.int i]) hz p u (s1 _ _ e)
          rw [hp] at this; cases this
      · rw [upd_same]
        unfold keyI
        rw [List.map_append, List.map_map]
        rfl
/-- compare_items -/
def spCmp (K : PySem.W.Frag) : Sp := fun vs H Q _ => ∃ (r a pa b pb : Addr) (cs fa fb : List Int) (ia ib : Int), vs = [.ref r, .ref a, .ref b] ∧ SqT K H r (cs.map V.int) ∧ SqT K H a [.int ia, .ref pa] ∧ SqT K H pa (fa.map V.int) ∧ SqT K H b [.int ib, .ref pb] ∧ SqT K H pb (fb.map V.int) ∧
  ColsOk cs fa.length ∧ ColsOk cs fb.length ∧ ∀ H', Same H H' → Q (.int (cmpI (keyI cs (ia, fa)) (keyI cs (ib, fb)))) H'
theorem scCmp : FnScope ["rule", "first", "second", "first_key", "second_key"] ["rule", "first", "second"] (defScope sCompare) := ⟨rfl, rfl, rfl, by decide +kernel, rfl, by decide +kernel, by decide +kernel⟩
theorem ok_cmp {f fK : Addr} {fd fdK : FuncData} (F : Fun K "compare_items" "compare_items" sCompare f fd) (GK : FnOk P w K mg base CX0 1 fK fdK ["rule", "item"] (spKey K)) (kK : PySem.W.keepIn K (.ref fK) = true) (bK : L2.Binds K fdK ["rule", "item"] []) (mK : mg "sort_key" = some (.ref fK)) :
    FnOk P w K mg base CX0 2 f fd ["rule", "first", "second"] (spCmp K) := by
  refine F.ok scCmp (fun vs H Q E h => ?_) (fun cdv A outer s H vs Q E hr h => ?_)
  · obtain ⟨r, a, pa, b, pb, cs, fa, fb, ia, ib, rfl, _⟩ := h
    rfl
  · obtain ⟨r, a, pa, b, pb, cs, fa, fb, ia, ib, rfl, hr1, ha, hpa, hb, hpb, ca, cb, k⟩ := h
    have h64 := hu64 hr
    refine ⟨_, pss_cons (ps_set (i := 3) scCmp.nd rfl (Or.inl rfl) (pe_call GK hr rfl mK kK bK .nil pass0 (pa_cons (pv 0) (pa_cons (pv 1) pa_nil))))
      (pss_cons (ps_set (i := 4) scCmp.nd rfl (Or.inl rfl) (pe_call GK hr rfl mK kK bK .nil pass0 (pa_cons (pv 0) (pa_cons (pv 2) pa_nil))))
      (pss_cons (ps_if (pt_cmpR (op_eqL h64) (pv 3) (pv 4) (nomark _)) (pss_one (ps_ret pe_int)) pss_nil)
      (pss_one (ps_ret (pe_ifExp (pt_cmpR (op_ltD h64) (pv 3) (pv 4) (nomark _)) (pe_un un_neg pe_int) pe_int))))), ?_⟩
    refine ⟨_, rfl, _, rfl, r, a, pa, cs, fa, ia, rfl, hr1, ha, hpa, ca, fun p H1 s1 hp hP => ?_⟩
    refine ⟨_, rfl, _, rfl, r, b, pb, cs, fb, ib, rfl, Same.tq s1 hr1, Same.tq s1 hb, Same.tq s1 hpb, cb, fun q H2 s2 hq hQ => ?_⟩
    have hP2 := s2 _ _ hP
    refine ⟨_, rfl, _, rfl, p, q, _, _, rfl, rfl, SqL.of hP2, SqL.of hQ, _, rfl, ite2 (fun e => ?_) (fun e => ?_)⟩
    · have e := of_decide_eq_true e
      have := k H2 (s1.trans s2)
      unfold cmpI at this
      rw [if_pos e] at this
      exact this
    · have e : ¬ (keyI cs (ia, fa) = keyI cs (ib, fb)) := fun z => e (decide_eq_true z)
      have kk := k H2 (s1.trans s2)
      unfold cmpI at kk
      rw [if_neg e] at kk
      refine ⟨_, rfl, _, rfl, .list ((keyI cs (ia, fa)).map .int), .list ((keyI cs (ib, fb)).map .int), .lst (SqL.of hP2) (DVs.intsL _), .lst (SqL.of hQ) (DVs.intsL _), alike_rows _ _, fun z => (by cases z), depth_rows _, _, rfl, ?_⟩
      rw [dataLt_rows]
      refine ite2 (fun e2 => ?_) (fun e2 => ?_)
      · have e2 := of_decide_eq_true e2
        rw [if_pos e2] at kk
        exact ⟨_, rfl, kk⟩
      · have e2 : ¬ (keyI cs (ia, fa) < keyI cs (ib, fb)) := fun z => e2 (decide_eq_true z)
        rw [if_neg e2] at kk
        exact kk
/-- rule_order -/
def StockK (K : PySem.W.Frag) (H : Hp) (kvs : List (Key × V)) (st : List (Int × List Int)) : Prop := kvs.length = st.length ∧ ∀ (i : Nat) (kv : Key × V) (e : Int × List Int), kvs[i]? = some kv → st[i]? = some e → kv.1 = .inl e.1 ∧ ∃ p, kv.2 = .ref p ∧ SqT K H p (e.2.map V.int)
def lastI (k : List Int) : Int := (k.getLast?).getD 0
def orderI (cs : List Int) (st : List (Int × List Int)) : List Int := ((st.map (keyI cs)).mergeSort fun a b => decide (a ≤ b)).map lastI
def spRuleO (K : PySem.W.Frag) : Sp := fun vs H Q _ => ∃ (r d : Addr) (cs : List Int) (kvs : List (Key × V)) (st : List (Int × List Int)), vs = [.ref r, .ref d] ∧ SqT K H r (cs.map V.int) ∧ H d = some (.dK kvs) ∧ StockK K H kvs st ∧ (∀ e ∈ st, ColsOk cs e.2.length) ∧ st.length ≤ 1000 ∧
  ∀ p H', Same H H' → H p = none → H' p = some (.lst ((orderI cs st).map V.int)) → Q (.ref p) H'
theorem scOrd : FnScope ["rule", "items", "keys", "item", "key"] ["rule", "items"] (defScope sRuleOrder) := ⟨rfl, rfl, rfl, by decide +kernel, rfl, by decide +kernel, by decide +kernel⟩
theorem ix_listK {X : Cx} {K : PySem.W.Frag} (h : X.K = K) : IxR X (rIxL K) := by
  subst h
  exact ix_list
theorem RowsAt.unlock {H : Hp} {a d : Addr} {od : Obj} {u o : HO} {rows : List (List Int)} (R : RowsAt H a rows) (h : H d = some (.frz od u)) : RowsAt (upd H d o) a rows := by
  obtain ⟨ps, h1, h2, h3⟩ := R
  refine ⟨ps, by rw [upd_ne (ne_of h1 h (fun z => by cases z))]; exact h1, h2, fun i p r e1 e2 => ?_⟩
  obtain ⟨z1, z2⟩ := h3 i p r e1 e2
  exact ⟨by rw [upd_ne (ne_of z1 h (fun z => by cases z))]; exact z1, z2⟩
theorem _root_.L2.SqT.lock {K : PySem.W.Frag} {H : Hp} {a d : Addr} {kvs : List (Key × V)} {o : HO} {xs : List V} (h : SqT K H a xs) (hd : H d = some (.dK kvs)) : SqT K (upd H d o) a xs := by
  rcases h with (h | ⟨o', h⟩) | h
  · exact .inl (.inl (by rw [upd_ne (ne_of h hd (fun z => by cases z))]; exact h))
  · exact .inl (.inr ⟨o', by rw [upd_ne (ne_of h hd (fun z => by cases z))]; exact h⟩)
  · exact .inr h
theorem ok_ruleO {f fK : Addr} {fd fdK : FuncData} (F : Fun K "rule_order" "rule_order" sRuleOrder f fd) (T : mg "sorted" = none) (GK : FnOk P w K mg base CX0 1 fK fdK ["rule", "item"] (spKey K)) (kK : PySem.W.keepIn K (.ref fK) = true) (bK : L2.Binds K fdK ["rule", "item"] []) (mK : mg "sort_key" = some (.ref fK)) :
    FnOk P w K mg base CX0 2 f fd ["rule", "items"] (spRuleO K) := by
  refine F.ok scOrd (fun vs H Q E h => ?_) (fun cdv A outer s H vs Q E hr h => ?_)
  · obtain ⟨r, d, cs, kvs, st, rfl, _⟩ := h
    rfl
  · obtain ⟨r, d, cs, kvs, st, rfl, hr1, hd, hst, hc, hl, k⟩ := h
    have h64 := hu64 hr
    refine ⟨_, pss_cons (ps_set (i := 2) scOrd.nd rfl (Or.inl rfl) (pe_callB (call_sortD h64) (by rfl) T (by decide +kernel) (pa_cons (pe_lock (pe_lc (own := [("item", 3)]) (g := gName 3) (tt := tYes) rfl scOrd.nd (pi_itemsN (pv 1)) (blkOk_by (N := ["rule", "items", "keys", "item", "key"]) (sc := defScope sRuleOrder) (by decide +kernel))
        (fun _ _ _ _ _ => pg_name (i := 3) scOrd.nd rfl (Or.inl rfl)) (fun _ _ _ _ _ => pts_nil) (fun _ _ _ _ _ => pe_call GK hr rfl mK kK bK .nil pass0 (pa_cons (pv 0) (pa_cons (pv 3) pa_nil))))) pa_nil)))
      (pss_one (ps_ret (pe_lc (own := [("key", 4)]) (g := gName 4) (tt := tYes) rfl scOrd.nd (pi_list (pv 2)) (blkOk_by (N := ["rule", "items", "keys", "item", "key"]) (sc := defScope sRuleOrder) (by decide +kernel))
        (fun _ _ _ _ _ => pg_name (i := 4) scOrd.nd rfl (Or.inl rfl)) (fun _ _ _ _ _ => pts_nil) (fun _ _ _ _ _ => pe_ix (ix_listK (K := K) rfl) (pv 4) (pe_un un_neg pe_int) (fun _ _ => rfl))))), ?_⟩
    have h16 : sizeLine = 16777216 := sizeLine_eq
    refine ⟨d, _, hd, True.intro, fun od => ?_⟩
    have hrd := hr1
    generalize hHl : upd H d (.frz od (.dK kvs)) = Hl
    have hlk : ∀ {a : Addr} {xs : List V}, SqT K H a xs → SqT K Hl a xs := fun hh => by rw [← hHl]; exact hh.lock hd
    have hdl : Hl d = some (.frz od (.dK kvs)) := by rw [← hHl]; exact upd_same
    have hlen : kvs.length = st.length := hst.1
    refine ⟨_, rfl, d, od, kvs, rfl, hdl, fun D hD => ?_⟩
    refine lc_it (walk_items (d := d) (o := od) (kvs := kvs)) (fun i H' => Same Hl H' ∧ RowsAt H' D ((st.take i).map (keyI cs))) ⟨Same.new hD, RowsAt.nil upd_same⟩ (fun i H' _ q => q.1 _ _ hdl) ?_ ?_
    · rintro i x Hi H' hi ⟨s1, hR⟩ ⟨T, x1, y1, rfl, hT, rfl, e1, e2⟩
      obtain ⟨kv, hkv⟩ : ∃ kv, kvs[i]? = some kv := ⟨kvs[i], List.getElem?_eq_getElem hi⟩
      obtain ⟨e, he⟩ : ∃ e, st[i]? = some e := ⟨st[i]'(by omega), List.getElem?_eq_getElem (by omega)⟩
      obtain ⟨z1, p, z2, z3⟩ := hst.2 i kv e hkv he
      have e1 : kvs[i]?.map (fun kv => kV kv.1) = some x1 := e1
      have e2 : kvs[i]?.map Prod.snd = some y1 := e2
      rw [hkv] at e1 e2
      have e1 : kV kv.1 = x1 := Option.some.inj e1
      have e2 : kv.2 = y1 := Option.some.inj e2
      rw [z1] at e1
      rw [z2] at e2
      subst e1; subst e2
      have sT := Same.new (o := .tup [kV (.inl e.1), .ref p]) hT
      refine ⟨rfl, ?_⟩
      refine ⟨_, rfl, _, rfl, r, T, p, cs, e.2, e.1, rfl, Same.tq (s1.trans sT) (hlk hr1), SqT.of upd_same, Same.tq (s1.trans sT) (hlk z3), hc e (List.mem_of_getElem? he), fun q H2 s2 hq hQ => ?_⟩
      have hR2 := (hR.same sT).same s2
      obtain ⟨xs, w1, w2, w3⟩ := hR2.push hQ (fun z => by
        subst z
        obtain ⟨ps, g1, _⟩ := hR.same sT
        rw [hq] at g1; cases g1)
      refine ⟨xs, w1, ?_, ?_, ?_⟩
      · rw [w2, List.length_map, List.length_take, h16]; omega
      · intro b u eb
        have : b ≠ D := ne_of_none eb hD
        rw [upd_ne this]
        exact s2 _ _ (sT _ _ (s1 _ _ eb))
      · rw [take_snoc he, List.map_append]
        exact w3
    · rintro H' ⟨s1, hR⟩
      rw [hlen, List.take_length] at hR
      have hdl' := s1 _ _ hdl
      refine ⟨hdl', ?_⟩
      have hR2 := hR.unlock (o := .dK kvs) hdl'
      have s2 : Same H (upd H' d (.dK kvs)) := fun b u eb => by
        by_cases z : b = d
        · subst z
          rw [hd] at eb
          rw [upd_same]; exact eb
        · rw [upd_ne z]
          refine s1 _ _ ?_
          rw [← hHl, upd_ne z]; exact eb
      generalize upd H' d (.dK kvs) = H2 at hR2 s2 ⊢
      obtain ⟨ps, g1, g2, g3⟩ := hR2
      have hrl : (st.map (keyI cs)).length ≤ 1000 := by rw [List.length_map]; exact hl
      have hzl : ∀ {α β : Type} (xs : List α) (ys : List β), xs.length = ys.length → (xs.zip ys).map Prod.fst = xs ∧ (xs.zip ys).map Prod.snd = ys := fun xs ys e => ⟨List.map_fst_zip (Nat.le_of_eq e), List.map_snd_zip (Nat.le_of_eq e.symm)⟩
      have hkeys : ∀ r ∈ st.map (keyI cs), ∃ i, r.getLast? = some i ∧ atI (r.map V.int) (-1) = some (.int (lastI r)) := fun r hr => by
        obtain ⟨e, _, rfl⟩ := List.mem_map.mp hr
        refine ⟨e.1, by unfold keyI; simp, ?_⟩
        have : lastI (keyI cs e) = e.1 := by unfold lastI keyI; simp
        rw [this]
        unfold keyI
        rw [List.map_append]
        exact atI_last _ _
      generalize hrows : st.map (keyI cs) = rows at g2 g3 hrl hkeys
      obtain ⟨zf, zs⟩ := hzl ps rows g2
      have hat : ∀ b ∈ ps.zip rows, H2 b.1 = some (.lst (b.2.map V.int)) ∧ b.2 ∈ rows := fun b hb => by
        obtain ⟨i, hi⟩ := List.mem_iff_getElem?.mp hb
        rw [List.getElem?_zip_eq_some] at hi
        exact ⟨(g3 i _ _ hi.1 hi.2).1, List.mem_of_getElem? hi.2⟩
      refine ⟨D, (Addr × List Int), ps.zip rows, (fun b => .list (b.2.map .int)), (fun b => .ref b.1), rfl, ?_, ?_, ?_, ?_, ?_, fun p hp => ?_⟩
      · have : (ps.zip rows).map (fun b => V.ref b.1) = ps.map V.ref := by
          rw [show (ps.zip rows).map (fun b => V.ref b.1) = ((ps.zip rows).map Prod.fst).map V.ref from (List.map_map ..).symm, zf]
        rw [this]
        exact SqL.of g1
      · exact fun b hb => .lst (SqL.of (hat b hb).1) (DVs.intsL _)
      · exact PySem.W.AllAlike.of fun b b' => alike_rows _ _
      · exact PySem.W.Sortable.others (enc := fun b : Addr × List Int => PyData.list (b.2.map .int)) (fun b => ⟨fun z => (by cases z), fun xs z => (by cases z)⟩)
      · exact fun b _ => depth_rows _
      · rw [PySem.W.dataLe_rows]
        have hsort : (((ps.zip rows).mergeSort fun p q => decide (p.2 ≤ q.2)).map Prod.snd) = rows.mergeSort fun a b => decide (a ≤ b) := by
          rw [PySem.W.sort_maps (s := fun a b => decide (a ≤ b)) Prod.snd (fun _ _ _ _ => rfl), zs]
        have hmem : ∀ b ∈ ((ps.zip rows).mergeSort fun p q => decide (p.2 ≤ q.2)), b ∈ ps.zip rows := fun b hb => List.mem_mergeSort.mp hb
        have hln : ((ps.zip rows).mergeSort fun p q => decide (p.2 ≤ q.2)).length ≤ 1000 := by
          rw [List.length_mergeSort, List.length_zip]; omega
        generalize ((ps.zip rows).mergeSort fun p q => decide (p.2 ≤ q.2)) = bs at hsort hmem hln ⊢
        have sp := Same.new (o := .lst (bs.map fun b => V.ref b.1)) hp
        refine ⟨_, rfl, _, rfl, ⟨_, SqL.of upd_same⟩, fun D2 hD2 => ?_⟩
        have hp2 : ∀ {H' : Hp}, Same (upd H2 p (.lst (bs.map fun b => V.ref b.1))) H' → SqL K H' p (bs.map fun b => V.ref b.1) := fun s => SqL.of (s _ _ upd_same)
        refine lc_list (K := K) (a := p) (xs := bs.map fun b => V.ref b.1) (fun j H' => Same (upd H2 p (.lst (bs.map fun b => V.ref b.1))) H' ∧ H' D2 = some (.lst ((bs.take j).map fun b => V.int (lastI b.2)))) ⟨Same.new hD2, upd_same⟩ (fun j H' _ q => hp2 q.1) ?_ ?_
        · rintro j x H' hx ⟨s3, hL⟩
          obtain ⟨b, hb, rfl⟩ : ∃ b, bs[j]? = some b ∧ x = V.ref b.1 := by
            rw [List.getElem?_map] at hx
            cases e : bs[j]? with
            | none => rw [e] at hx; cases hx
            | some c => rw [e] at hx; exact ⟨c, rfl, (Option.some.inj hx).symm⟩
          obtain ⟨u1, u2⟩ := hat b (hmem b (List.mem_of_getElem? hb))
          obtain ⟨_, _, u3⟩ := hkeys b.2 u2
          refine ⟨rfl, _, rfl, _, rfl, b.1, _, -1, _, rfl, rfl, SqL.of (s3 _ _ (sp _ _ u1)), u3, ?_⟩
          refine ⟨_, hL, ?_, fun c u e => by rw [upd_ne (ne_of_none e hD2)]; exact s3 c u e, ?_⟩
          · rw [List.length_map, List.length_take, h16]; omega
          · rw [upd_same, take_snoc hb, List.map_append]; rfl
        · rintro H' ⟨s3, hL⟩
          rw [List.length_map, List.take_length] at hL
          have s4 : Same H H' := s2.trans (sp.trans s3)
          refine k D2 H' s4 ?_ ?_
          · cases e : H D2 with
            | none => rfl
            | some u =>
              have := sp D2 u (s2 _ _ e)
              rw [hD2] at this; cases this
          · rw [hL]
            unfold orderI
            rw [hrows, ← hsort, List.map_map, List.map_map]
            rfl
end
/-! ### the law's own comparison -/
def atF (fs : List Int) (c : Int) : Int := (fs[c.natAbs - 1]?).getD 0
def signI : List Int → Int × List Int → Int × List Int → Int
  | [], l, r => (if r.1 < l.1 then 1 else 0) - (if l.1 < r.1 then 1 else 0)
  | c :: cs, l, r => if atF l.2 c = atF r.2 c then signI cs l r else if decide (atF r.2 c < atF l.2 c) = decide (0 < c) then 1 else -1
theorem rank_at {fs : List Int} {c : Int} (h : c ≠ 0) : rankI fs c = if c > 0 then atF fs c else -(atF fs c) := by
  unfold rankI atF
  by_cases hp : c > 0
  · rw [if_pos hp, if_pos hp]
    rw [show (c - 1).toNat = c.natAbs - 1 by omega]
  · rw [if_neg hp, if_neg hp]
    rw [show (-c - 1).toNat = c.natAbs - 1 by omega]
theorem cmpI_cons (x y : Int) (xs ys : List Int) : cmpI (x :: xs) (y :: ys) = if x = y then cmpI xs ys else if x < y then -1 else 1 := by
  unfold cmpI
  by_cases h : x = y
  · subst h
    rw [if_pos rfl]
    by_cases h2 : xs = ys
    · rw [if_pos (by rw [h2]), if_pos h2]
    · rw [if_neg (fun z => h2 (List.cons.inj z).2), if_neg h2]
      by_cases h3 : xs < ys
      · rw [if_pos h3, if_pos (List.cons_lt_cons_iff.mpr (.inr ⟨rfl, h3⟩))]
      · rw [if_neg h3, if_neg (fun z => by
          rcases List.cons_lt_cons_iff.mp z with q | q
          · omega
          · exact h3 q.2)]
  · rw [if_neg (fun z => h (List.cons.inj z).1), if_neg h]
    by_cases h3 : x < y
    · rw [if_pos h3, if_pos (List.cons_lt_cons_iff.mpr (.inl h3))]
    · rw [if_neg h3, if_neg (fun z => by
        rcases List.cons_lt_cons_iff.mp z with q | q
        · exact h3 q
        · exact h q.1)]
theorem sign_is : ∀ {cs : List Int} {l r : Int × List Int}, (∀ c ∈ cs, c ≠ 0) → signI cs l r = cmpI (keyI cs l) (keyI cs r)
  | [], l, r, _ => by
    show (if r.1 < l.1 then (1 : Int) else 0) - (if l.1 < r.1 then 1 else 0) = cmpI [l.1] [r.1]
    rw [cmpI_cons]
    by_cases h : l.1 = r.1
    · rw [if_pos h, h]; simp [cmpI]
    · rw [if_neg h]
      by_cases h2 : l.1 < r.1
      · rw [if_pos h2, if_pos h2, if_neg (by omega)]; rfl
      · rw [if_neg h2, if_neg h2, if_pos (by omega)]; rfl
  | c :: cs, l, r, h => by
    have h0 := h c List.mem_cons_self
    have ih := sign_is (cs := cs) (l := l) (r := r) fun z hz => h z (List.mem_cons_of_mem _ hz)
    show (if atF l.2 c = atF r.2 c then signI cs l r else _) = cmpI (rankI l.2 c :: keyI cs l) (rankI r.2 c :: keyI cs r)
    rw [cmpI_cons, rank_at h0, rank_at h0, ih]
    by_cases hp : c > 0
    · rw [if_pos hp, if_pos hp]
      by_cases he : atF l.2 c = atF r.2 c
      · rw [if_pos he, if_pos he]
      · rw [if_neg he, if_neg he, decide_eq_true (show 0 < c from hp)]
        by_cases hl : atF l.2 c < atF r.2 c
        · rw [if_pos hl, decide_eq_false (by omega : ¬ atF r.2 c < atF l.2 c), if_neg Bool.false_ne_true]
        · rw [if_neg hl, if_pos (decide_eq_true (by omega : atF r.2 c < atF l.2 c))]
    · rw [if_neg hp, if_neg hp]
      have hd : decide (0 < c) = false := decide_eq_false hp
      by_cases he : atF l.2 c = atF r.2 c
      · rw [if_pos he, if_pos (by rw [he])]
      · rw [if_neg he, if_neg (show ¬ (-(atF l.2 c) = -(atF r.2 c)) by omega), hd]
        by_cases hl : atF l.2 c < atF r.2 c
        · rw [if_neg (by omega : ¬ -(atF l.2 c) < -(atF r.2 c)), if_pos (decide_eq_false (by omega : ¬ atF r.2 c < atF l.2 c))]
        · rw [if_pos (by omega : -(atF l.2 c) < -(atF r.2 c)), if_neg (by rw [decide_eq_true (by omega : atF r.2 c < atF l.2 c)]; decide)]
def b2 (b : Bool) : Int := if b = true then 1 else 0
theorem op_subB {X : Cx} : OpR X (binaryOp .Sub) (fun x y H Q => ∃ b c : Bool, x = .bl b ∧ y = .bl c ∧ Q (.int (b2 b - b2 c)) H) := by
  intro pins s σ H x y v u Q I rx ry h
  obtain ⟨b, c, rfl, rfl, q⟩ := h
  have e1 : v = Value.bool b := rx
  have e2 : u = Value.bool c := ry
  subst e1; subst e2
  exact PyProof.Rows.sub_bool ⟨.int _, H, I.tok _, ⟨_, rfl⟩, q⟩
section
variable {P : Program} {w : World} {K : PySem.W.Frag} {mg : Str → Option Value} {base : Heap}
abbrev NS : List Str := ["rule", "left", "right", "column", "one", "other"]
theorem scSign : FnScope NS ["rule", "left", "right"] (defScope sSign) := ⟨rfl, rfl, rfl, by decide +kernel, rfl, by decide +kernel, by decide +kernel⟩
theorem ok_sign {f : Addr} {fd : FuncData} (F : Fun K "_law_sign" "_law_sign" sSign f fd) (T : mg "abs" = none) : FnOk P w K mg base CX0 1 f fd ["rule", "left", "right"] (spCmp K) := by
  refine F.ok scSign (fun vs H Q E h => ?_) (fun cdv A outer s H vs Q E hr h => ?_)
  · obtain ⟨r, a, pa, b, pb, cs, fa, fb, ia, ib, rfl, _⟩ := h
    rfl
  · obtain ⟨r, a, pa, b, pb, cs, fa, fb, ia, ib, rfl, hr1, ha, hpa, hb, hpb, ca, cb, k⟩ := h
    have k := k H (Same.refl H)
    rw [← sign_is (fun c hc => (ca.2 c hc).1)] at k
    refine ⟨_, pss_cons (ps_for PassesOwn.never rfl (pi_tup (pv 0)) (pg_name (i := 3) scSign.nd rfl (Or.inl rfl))
        (pss_cons (ps_par (i := 4) (j := 5) (by rfl) scSign.nd rfl rfl (by decide) rfl rfl
            (pa_cons (pe_ix ix_tup (pe_ix ix_tup (pv 1) pe_int (fun _ _ => rfl)) (pe_op op_sub (pe_callB call_abs (by rfl) T (by decide +kernel) (pa_cons (pv 3) pa_nil)) pe_int) (fun _ _ => rfl))
            (pa_cons (pe_ix ix_tup (pe_ix ix_tup (pv 2) pe_int (fun _ _ => rfl)) (pe_op op_sub (pe_callB call_abs (by rfl) T (by decide +kernel) (pa_cons (pv 3) pa_nil)) pe_int) (fun _ _ => rfl)) pa_nil)) (by rfl))
        (pss_one (ps_if (pt_cmpR op_ne (pv 4) (pv 5) (nomark _)) (pss_one (ps_ret (pe_ifExp (pt_cmpR op_eq (pe_cmpR op_gt (pv 4) (pv 5) (nomark _)) (pe_cmpR op_gt (pv 3) pe_int (nomark _)) (nomark _)) pe_int (pe_op op_sub pe_int pe_int)))) pss_nil))))
      (pss_one (ps_ret (pe_op op_subB (pe_cmpR op_gt (pe_ix ix_tup (pv 1) pe_int (fun _ _ => rfl)) (pe_ix ix_tup (pv 2) pe_int (fun _ _ => rfl)) (nomark _)) (pe_cmpR op_lt (pe_ix ix_tup (pv 1) pe_int (fun _ _ => rfl)) (pe_ix ix_tup (pv 2) pe_int (fun _ _ => rfl)) (nomark _))))), ?_⟩
    refine ⟨_, rfl, r, rfl, ⟨_, hr1⟩, ?_⟩
    refine for_tup (K := K) (a := r) (xs := cs.map V.int) (fun i σ H' => (∃ v3 v4 v5, σ = [some (.ref r), some (.ref a), some (.ref b), v3, v4, v5]) ∧ H' = H ∧ signI (cs.drop i) (ia, fa) (ib, fb) = signI cs (ia, fa) (ib, fb)) ⟨⟨_, _, _, rfl⟩, rfl, rfl⟩ (fun i σ H' _ e => by rw [e.2.1]; exact hr1) ?_ ?_
    · rintro i x σ H' hx ⟨⟨v3, v4, v5, rfl⟩, rfl, es⟩
      rw [List.getElem?_map] at hx
      obtain ⟨c, hc, rfl⟩ : ∃ c, cs[i]? = some c ∧ x = V.int c := by
        cases e : cs[i]? with
        | none => rw [e] at hx; cases hx
        | some z => rw [e] at hx; exact ⟨z, rfl, (Option.some.inj hx).symm⟩
      obtain ⟨hc0, hca⟩ := ca.2 c (List.mem_of_getElem? hc)
      obtain ⟨_, hcb⟩ := cb.2 c (List.mem_of_getElem? hc)
      have hdr : cs.drop i = c :: cs.drop (i + 1) := by
        have hi : i < cs.length := lt_of_some hc
        rw [List.drop_eq_getElem_cons hi]
        rw [List.getElem?_eq_getElem hi] at hc
        rw [Option.some.inj hc]
      have ea : (if c < 0 then -c else c) - 1 = ((c.natAbs - 1 : Nat) : Int) := by split <;> omega
      have at_ : ∀ fs : List Int, c.natAbs ≤ fs.length → atI (fs.map V.int) ((if c < 0 then -c else c) - 1) = some (V.int (atF fs c)) := fun fs hf => by
        rw [ea]
        refine atI_nat ?_
        unfold atF
        rw [List.getElem?_map, List.getElem?_eq_getElem (by omega)]; rfl
      refine ⟨_, rfl, a, _, 1, _, rfl, rfl, ha, rfl, _, rfl, _, rfl, _, _, rfl, rfl, pa, _, _, _, rfl, rfl, hpa, at_ fa hca, _, rfl, b, _, 1, _, rfl, rfl, hb, rfl, _, rfl, _, rfl, _, _, rfl, rfl, pb, _, _, _, rfl, rfl, hpb, at_ fb hcb, _, _, rfl, ?_⟩
      rw [hdr] at es
      have es : (if atF fa c = atF fb c then signI (cs.drop (i + 1)) (ia, fa) (ib, fb) else if decide (atF fb c < atF fa c) = decide (0 < c) then 1 else -1) = signI cs (ia, fa) (ib, fb) := es
      refine ⟨_, rfl, _, rfl, rfl, _, rfl, ?_⟩
      by_cases he : atF fa c = atF fb c
      · rw [if_pos he] at es
        rw [show (!decide (V.int (atF fa c) = V.int (atF fb c))) = false by rw [he]; simp]
        exact iteF ⟨⟨_, _, _, rfl⟩, rfl, es⟩
      · rw [if_neg he] at es
        rw [show (!decide (V.int (atF fa c) = V.int (atF fb c))) = true by simp [he]]
        refine iteT ?_
        refine ⟨_, rfl, _, rfl, _, _, rfl, rfl, _, rfl, _, _, rfl, rfl, rfl, ?_⟩
        refine ⟨_, rfl, ite2 (fun hp => ?_) (fun hp => ?_)⟩
        · have hp := of_decide_eq_true hp
          have hq : decide (atF fb c < atF fa c) = decide (0 < c) := by
            have : decide (atF fa c > atF fb c) = decide (c > 0) := by injection hp
            exact this
          rw [if_pos hq] at es
          rw [← es] at k
          exact k
        · have hq : ¬ decide (atF fb c < atF fa c) = decide (0 < c) := fun z => hp (decide_eq_true (show V.bl (decide (atF fa c > atF fb c)) = V.bl (decide (c > 0)) from congrArg V.bl z))
          rw [if_neg hq] at es
          rw [← es] at k
          exact ⟨_, _, rfl, rfl, k⟩
    · rintro σ H' ⟨⟨v3, v4, v5, rfl⟩, rfl, es⟩
      rw [List.length_map, List.drop_length] at es
      refine ⟨_, rfl, a, _, 0, _, rfl, rfl, ha, rfl, _, rfl, b, _, 0, _, rfl, rfl, hb, rfl, _, _, rfl, rfl, _, rfl, a, _, 0, _, rfl, rfl, ha, rfl, _, rfl, b, _, 0, _, rfl, rfl, hb, rfl, _, _, rfl, rfl, _, _, rfl, rfl, ?_⟩
      have e2 : signI cs (ia, fa) (ib, fb) = b2 (decide (ia > ib)) - b2 (decide (ia < ib)) := by
        rw [← es]
        unfold b2
        show (if ib < ia then (1 : Int) else 0) - (if ia < ib then 1 else 0) = _
        congr 1
        · by_cases h : ib < ia
          · rw [if_pos h, if_pos (decide_eq_true h)]
          · rw [if_neg h, if_neg (by simpa using h)]
        · by_cases h : ia < ib
          · rw [if_pos h, if_pos (decide_eq_true h)]
          · rw [if_neg h, if_neg (by simpa using h)]
      rw [e2] at k
      exact k
end
/-! ### one by one into place -/
theorem cmpI_neg {a b : List Int} : cmpI a b < 0 ↔ a < b := by
  unfold cmpI
  by_cases h : a = b
  · rw [if_pos h, h]
    exact ⟨fun z => by omega, fun z => absurd z (List.lt_irrefl b)⟩
  · rw [if_neg h]
    by_cases h2 : a < b
    · rw [if_pos h2]; exact ⟨fun _ => h2, fun _ => by decide⟩
    · rw [if_neg h2]; exact ⟨fun z => by omega, fun z => absurd z h2⟩
def lessK (cs : List Int) (x o : Int × List Int) : Bool := decide (cmpI (keyI cs o) (keyI cs x) < 0)
theorem lessK_is {cs : List Int} {x o : Int × List Int} : lessK cs x o = true ↔ keyI cs o < keyI cs x := by
  unfold lessK
  rw [decide_eq_true_eq, cmpI_neg]
def insE (cs : List Int) (E : List (Int × List Int)) (x : Int × List Int) : List (Int × List Int) := E.take (E.countP (lessK cs x)) ++ [x] ++ E.drop (E.countP (lessK cs x))
def sortedE (cs : List Int) (st : List (Int × List Int)) : List (Int × List Int) := st.foldl (insE cs) []
def Up (cs : List Int) (E : List (Int × List Int)) : Prop := E.Pairwise fun a b => keyI cs a ≤ keyI cs b
theorem cut_ok {cs : List Int} {x : Int × List Int} : ∀ {E : List (Int × List Int)}, Up cs E → (∀ o ∈ E.take (E.countP (lessK cs x)), keyI cs o < keyI cs x) ∧ ∀ o ∈ E.drop (E.countP (lessK cs x)), keyI cs x ≤ keyI cs o
  | [], _ => ⟨fun o h => by simp at h, fun o h => by simp at h⟩
  | e :: r, h => by
    obtain ⟨h1, h2⟩ := List.pairwise_cons.mp h
    obtain ⟨i1, i2⟩ := cut_ok (x := x) (E := r) h2
    by_cases hl : lessK cs x e = true
    · rw [List.countP_cons_of_pos hl, List.take_succ_cons, List.drop_succ_cons]
      refine ⟨fun o ho => ?_, i2⟩
      rcases List.mem_cons.mp ho with q | q
      · rw [q]; exact lessK_is.mp hl
      · exact i1 o q
    · have hx : keyI cs x ≤ keyI cs e := List.not_lt.mp fun z => hl (lessK_is.mpr z)
      have h0 : r.countP (lessK cs x) = 0 := List.countP_eq_zero.mpr fun o ho z => by
        have := List.lt_of_le_of_lt (List.le_trans hx (h1 o ho)) (lessK_is.mp z)
        exact List.lt_irrefl _ this
      rw [List.countP_cons_of_neg hl, h0]
      refine ⟨fun o ho => by simp at ho, fun o ho => ?_⟩
      rcases List.mem_cons.mp ho with q | q
      · rw [q]; exact hx
      · exact List.le_trans hx (h1 o q)
theorem ins_up {cs : List Int} {E : List (Int × List Int)} {x : Int × List Int} (h : Up cs E) : Up cs (insE cs E x) := by
  obtain ⟨c1, c2⟩ := cut_ok (x := x) h
  have hE : Up cs (E.take (E.countP (lessK cs x)) ++ E.drop (E.countP (lessK cs x))) := by rw [List.take_append_drop]; exact h
  obtain ⟨p1, p2, p3⟩ := List.pairwise_append.mp hE
  unfold insE Up
  rw [List.append_assoc]
  refine List.pairwise_append.mpr ⟨p1, List.pairwise_cons.mpr ⟨fun o ho => c2 o ho, p2⟩, fun a ha b hb => ?_⟩
  rcases List.mem_cons.mp hb with q | q
  · rw [q]; exact List.le_of_lt (c1 a ha)
  · exact p3 a ha b q
theorem ins_perm (cs : List Int) (E : List (Int × List Int)) (x : Int × List Int) : (insE cs E x).Perm (x :: E) := by
  unfold insE
  rw [List.append_assoc]
  have h := List.perm_middle (a := x) (l₁ := E.take (E.countP (lessK cs x))) (l₂ := E.drop (E.countP (lessK cs x)))
  rw [List.take_append_drop] at h
  exact h
theorem fold_ok {cs : List Int} : ∀ (st E : List (Int × List Int)), Up cs E → Up cs (st.foldl (insE cs) E) ∧ (st.foldl (insE cs) E).Perm (E ++ st)
  | [], E, h => ⟨h, by rw [List.append_nil]; exact List.Perm.refl _⟩
  | x :: r, E, h => by
    obtain ⟨h1, h2⟩ := fold_ok r (insE cs E x) (ins_up h)
    refine ⟨h1, h2.trans ?_⟩
    refine ((ins_perm cs E x).append_right r).trans ?_
    exact List.perm_middle.symm
theorem sortedE_perm (cs : List Int) (st : List (Int × List Int)) : (sortedE cs st).Perm st := (fold_ok st [] .nil).2
theorem sortedE_snoc (cs : List Int) (st : List (Int × List Int)) (x : Int × List Int) : sortedE cs (st ++ [x]) = insE cs (sortedE cs st) x := by
  unfold sortedE
  rw [List.foldl_append]; rfl
theorem sortedE_is (cs : List Int) (st : List (Int × List Int)) : (sortedE cs st).map Prod.fst = orderI cs st := by
  obtain ⟨h1, h2⟩ := fold_ok (cs := cs) st [] .nil
  have h3 : ((sortedE cs st).map (keyI cs)).Pairwise (fun a b => a ≤ b) := List.pairwise_map.mpr h1
  have h4 : ((st.map (keyI cs)).mergeSort fun a b => decide (a ≤ b)).Pairwise (fun a b => a ≤ b) := by
    have := List.pairwise_mergeSort (le := fun a b : List Int => decide (a ≤ b)) (fun a b c x y => decide_eq_true (List.le_trans (of_decide_eq_true x) (of_decide_eq_true y)))
      (fun a b => by
        rcases List.le_total a b with q | q
        · rw [decide_eq_true q]; rfl
        · rw [decide_eq_true q, Bool.or_true]) (st.map (keyI cs))
    exact this.imp fun z => of_decide_eq_true z
  have hp : ((sortedE cs st).map (keyI cs)).Perm ((st.map (keyI cs)).mergeSort fun a b => decide (a ≤ b)) := ((sortedE_perm cs st).map _).trans (List.mergeSort_perm _ _).symm
  have e := List.Perm.eq_of_pairwise (fun a b _ _ x y => List.le_antisymm x y) h3 h4 hp
  unfold orderI
  rw [← e, List.map_map]
  refine List.map_congr_left fun x _ => ?_
  show x.1 = lastI (keyI cs x)
  unfold lastI keyI; simp
/-! ### _law_sorted -/
/-- each entry is found by its id -/
theorem stock_at {K : PySem.W.Frag} {H : Hp} : ∀ {kvs : List (Key × V)} {st : List (Int × List Int)}, StockK K H kvs st → (st.map Prod.fst).Nodup → ∀ e ∈ st, ∃ p, valV kvs (.inl e.1) = some (.ref p) ∧ SqT K H p (e.2.map V.int)
  | [], [], _, _, e, he => by cases he
  | [], _ :: _, h, _, _, _ => by cases h.1
  | _ :: _, [], h, _, _, _ => by cases h.1
  | kv :: kvs, e0 :: st, h, nd, e, he => by
    obtain ⟨n1, n2⟩ := List.nodup_cons.mp nd
    obtain ⟨z1, p0, z2, z3⟩ := h.2 0 kv e0 rfl rfl
    rcases List.mem_cons.mp he with q | q
    · subst q
      exact ⟨p0, by rw [valV_pos z1, z2], z3⟩
    · have hs : StockK K H kvs st := ⟨Nat.succ.inj h.1, fun i a b h1 h2 => h.2 (i + 1) a b h1 h2⟩
      obtain ⟨p, h1, h2⟩ := stock_at hs n2 e q
      refine ⟨p, ?_, h2⟩
      have hne : kv.1 ≠ (.inl e.1 : Key) := fun z => by
        rw [z1] at z
        have : e0.1 = e.1 := by injection z
        exact n1 (List.mem_map.mpr ⟨e, q, this.symm⟩)
      unfold valV at h1 ⊢
      rw [List.find?_cons_of_neg (by simpa using hne)]
      exact h1
theorem StockK.same {K : PySem.W.Frag} {H H' : Hp} {kvs : List (Key × V)} {st : List (Int × List Int)} (h : StockK K H kvs st) (s : Same H H') : StockK K H' kvs st :=
  ⟨h.1, fun i a b h1 h2 => by
    obtain ⟨z1, p, z2, z3⟩ := h.2 i a b h1 h2
    exact ⟨z1, p, z2, Same.tq s z3⟩⟩
section
variable {P : Program} {w : World} {K : PySem.W.Frag} {mg : Str → Option Value} {base : Heap}
def spSorted (K : PySem.W.Frag) : Sp := fun vs H Q _ => ∃ (r d : Addr) (cs : List Int) (kvs : List (Key × V)) (st : List (Int × List Int)), vs = [.ref r, .ref d] ∧ SqT K H r (cs.map V.int) ∧ H d = some (.dK kvs) ∧ StockK K H kvs st ∧ (st.map Prod.fst).Nodup ∧ (∀ e ∈ st, ColsOk cs e.2.length) ∧ st.length ≤ 1000 ∧
  ∀ p H', Same H H' → H p = none → H' p = some (.lst ((orderI cs st).map V.int)) → Q (.ref p) H'
abbrev NT : List Str := ["rule", "stock", "found", "number", "entry", "at", "other"]
theorem scSorted : FnScope NT ["rule", "stock"] (defScope sSorted) := ⟨rfl, rfl, rfl, by decide +kernel, rfl, by decide +kernel, by decide +kernel⟩
theorem call_lenK {X : Cx} {K : PySem.W.Frag} (h : X.K = K) : CallR X (.builtin "len") (fun xs H Q => ∃ p ys, xs = [.ref p] ∧ (SqL K H p ys ∨ SqT K H p ys) ∧ Q (.int ys.length) H) := by
  subst h
  exact call_len_seq
theorem ok_sorted {f fS : Addr} {fd fdS : FuncData} (F : Fun K "_law_sorted" "_law_sorted" sSorted f fd) (T : mg "len" = none) (GS : FnOk P w K mg base CX0 1 fS fdS ["rule", "left", "right"] (spCmp K)) (kS : PySem.W.keepIn K (.ref fS) = true) (bS : L2.Binds K fdS ["rule", "left", "right"] []) (mS : mg "_law_sign" = some (.ref fS)) :
    FnOk P w K mg base CX0 2 f fd ["rule", "stock"] (spSorted K) := by
  refine F.ok scSorted (fun vs H Q E h => ?_) (fun cdv A outer s H vs Q E hr h => ?_)
  · obtain ⟨r, d, cs, kvs, st, rfl, _⟩ := h
    rfl
  · obtain ⟨r, d, cs, kvs, st, rfl, hr1, hd, hst, hnd, hc, hl, k⟩ := h
    have hu := hu_of hr
    refine ⟨_, pss_cons (ps_set (i := 2) scSorted.nd rfl (Or.inl rfl) (pe_lst pa_nil))
      (pss_cons (ps_lock (ps_for PassesOwn.never rfl (pi_keys (pv 1)) (pg_name (i := 3) scSorted.nd rfl (Or.inl rfl))
        (pss_cons (ps_set (i := 4) scSorted.nd rfl (Or.inr rfl) (pe_tup (pa_cons (pv 3) (pa_cons (pe_dget hu (pv 1) (pv 3) (fun _ _ => rfl)) pa_nil))))
        (pss_cons (ps_set (i := 5) scSorted.nd rfl (Or.inl rfl) (pe_callB call_len_seq (by rfl) T PySem.boot_len (pa_cons
            (pe_lc (own := [("other", 6)]) (g := gName 6) rfl scSorted.nd (pi_list (pv 2)) (blkOk_by (N := NT) (sc := defScope sSorted) (by decide +kernel)) (fun _ _ _ _ _ => pg_name (i := 6) scSorted.nd rfl (Or.inl rfl))
              (fun _ _ _ _ _ => pts_one (pt_cmpR op_lt (pe_call GS hr rfl mS kS bS .nil pass0 (pa_cons (pv 0) (pa_cons (pe_tup (pa_cons (pv 6) (pa_cons (pe_dget hu (pv 1) (pv 6) (fun _ _ => rfl)) pa_nil))) (pa_cons (pv 4) pa_nil)))) pe_int (nomark _)))
              (fun _ _ _ _ _ => pv 6)) pa_nil)))
        (pss_one (ps_expr (pe_bm PySem.F.plainAttrs_list PySem.F.slot_list_insert PySem.F.type_list_insert mt_insert (pv 2) (pa_cons (pv 5) (pa_cons (pv 3) pa_nil))))))))) 
      (pss_one (ps_ret (pv 2)))), ?_⟩
    have h16 := sizeLine_eq
    refine ⟨Nat.zero_le _, fun fo hfo => ?_⟩
    have hnd0 : d ≠ fo := ne_of_none hd hfo
    refine ⟨d, _, Same.new hfo _ _ hd, True.intro, fun od => ?_⟩
    have hd1 : (upd H fo (.lst [])) d = some (.dK kvs) := Same.new hfo _ _ hd
    generalize hHl : upd (upd H fo (.lst [])) d (.frz od (.dK kvs)) = Hl
    have hlk : ∀ {a : Addr} {xs : List V}, SqT K H a xs → SqT K Hl a xs := fun hh => by rw [← hHl]; exact (Same.tq (Same.new hfo) hh).lock hd1
    have hdl : Hl d = some (.frz od (.dK kvs)) := by rw [← hHl]; exact upd_same
    have hfl : Hl fo = some (.lst []) := by rw [← hHl, upd_ne hnd0.symm]; exact upd_same
    have hstl : StockK K Hl kvs st := ⟨hst.1, fun i a b h1 h2 => by
      obtain ⟨z1, p, z2, z3⟩ := hst.2 i a b h1 h2
      exact ⟨z1, p, z2, hlk z3⟩⟩
    have hrl := hlk hr1
    have hlen : kvs.length = st.length := hst.1
    -- what differs at fo alone keeps them
    have tqB : ∀ {H' : Hp} {a : Addr} {xs : List V}, But fo Hl H' → SqT K Hl a xs → SqT K H' a xs := fun B hh => by
      rcases hh with (h | ⟨o, h⟩) | h
      · exact .inl (.inl (B _ _ (ne_of h hfl (fun z => by cases z)) h))
      · exact .inl (.inr ⟨o, B _ _ (ne_of h hfl (fun z => by cases z)) h⟩)
      · exact .inr h
    refine ⟨_, rfl, d, od, rfl, .inl ⟨kvs, hdl, ?_⟩⟩
    refine for_it (walk_keys (d := d) (o := od) (kvs := kvs)) (fun i σ H' => (∃ v3 v4 v5 v6 : Option V, σ = [some (.ref r), some (.ref d), some (.ref fo), v3, v4, v5, v6]) ∧ H' fo = some (.lst (((sortedE cs (st.take i)).map Prod.fst).map V.int)) ∧ But fo Hl H')
      ⟨⟨_, _, _, _, rfl⟩, hfl, But.refl _ _⟩ (fun i σ H' _ q => q.2.2 _ _ hnd0 hdl) ?_ ?_
    · rintro i x σ H2 H2' hi ⟨⟨v3, v4, v5, v6, rfl⟩, hf2, B2⟩ ⟨rfl, kx, vx, hkx, rfl⟩
      obtain ⟨e, he⟩ : ∃ e, st[i]? = some e := ⟨st[i]'(by omega), List.getElem?_eq_getElem (by omega)⟩
      obtain ⟨z1, _⟩ := hstl.2 i _ e hkx he
      have z1 : kx = .inl e.1 := z1
      subst z1
      have hem := List.mem_of_getElem? he
      have dg : ∀ {H' : Hp}, H' d = some (.frz od (.dK kvs)) → ∀ o ∈ st, ∃ p, DGet H' d (.int o.1) (some (.ref p)) ∧ SqT K Hl p (o.2.map V.int) := fun {H'} hh o ho => by
        obtain ⟨p, p1, p2⟩ := stock_at hstl hnd o ho
        exact ⟨p, .inl ⟨kvs, .inl o.1, .inr ⟨od, hh⟩, rfl, p1.symm⟩, p2⟩
      obtain ⟨pe, g1, g2⟩ := dg (B2 _ _ hnd0 hdl) e hem
      refine ⟨_, rfl, _, rfl, _, rfl, d, _, rfl, g1, by show 2 ≤ sizeLine; omega, fun en hen => ?_⟩
      have s3 := Same.new (o := .tup [kV (.inl e.1), .ref pe]) hen
      have hf3 := s3 _ _ hf2
      have B3 : But fo Hl (upd H2' en (.tup [kV (.inl e.1), .ref pe])) := B2.trans (But.of s3)
      have hen3 : (upd H2' en (.tup [kV (.inl e.1), .ref pe])) en = some (.tup [.int e.1, .ref pe]) := upd_same
      generalize (upd H2' en (.tup [kV (.inl e.1), .ref pe]) : Hp) = H3 at hf3 B3 hen3 ⊢
      obtain ⟨E, hE⟩ : ∃ E, E = sortedE cs (st.take i) := ⟨_, rfl⟩
      rw [← hE] at hf3
      have hEm : ∀ o ∈ E, o ∈ st := fun o ho => List.mem_of_mem_take ((sortedE_perm cs (st.take i)).mem_iff.mp (by rw [← hE]; exact ho))
      have hEl : E.length ≤ 1000 := by rw [hE, (sortedE_perm cs (st.take i)).length_eq, List.length_take]; omega
      refine ⟨_, rfl, fo, rfl, ⟨_, SqL.of hf3⟩, fun D hD => ?_⟩
      refine lc_list (K := K) (a := fo) (xs := (E.map Prod.fst).map V.int) (fun j H' => Same H3 H' ∧ H' D = some (.lst ((((E.take j).filter (lessK cs e)).map Prod.fst).map V.int))) ⟨Same.new hD, upd_same⟩ (fun j H' _ q => SqL.of (q.1 _ _ hf3)) ?_ ?_
      · rintro j x H4 hx ⟨s4, hL⟩
        rw [List.getElem?_map, List.getElem?_map] at hx
        obtain ⟨o, ho, rfl⟩ : ∃ o, E[j]? = some o ∧ x = V.int o.1 := by
          cases q : E[j]? with
          | none => rw [q] at hx; cases hx
          | some z => rw [q] at hx; exact ⟨z, rfl, (Option.some.inj hx).symm⟩
        have hom := hEm o (List.mem_of_getElem? ho)
        obtain ⟨po, q1, q2⟩ := dg (s4 _ _ (B3 _ _ hnd0 hdl)) o hom
        refine ⟨rfl, _, rfl, _, rfl, _, rfl, _, rfl, d, _, rfl, q1, by show 2 ≤ sizeLine; omega, fun T hT => ?_⟩
        have s5 := Same.new (o := .tup [.int o.1, .ref po]) hT
        have t5 : ∀ {a : Addr} {xs : List V}, SqT K Hl a xs → SqT K (upd H4 T (.tup [.int o.1, .ref po])) a xs := fun hh => Same.tq s5 (Same.tq s4 (tqB B3 hh))
        refine ⟨_, rfl, r, T, po, en, pe, cs, o.2, e.2, o.1, e.1, rfl, t5 hrl, SqT.of upd_same, t5 q2, SqT.of (s5 _ _ (s4 _ _ hen3)), t5 g2, hc o hom, hc e hem, fun H6 s6 => ?_⟩
        have s46 := s4.trans (s5.trans s6)
        have hL6 := (s5.trans s6) _ _ hL
        refine ⟨_, _, rfl, rfl, _, rfl, ite2 (fun hp => ?_) (fun hp => ?_)⟩
        · have hle : lessK cs e o = true := hp
          refine ⟨_, rfl, _, hL6, ?_, fun b u q => ?_, ?_⟩
          · rw [List.length_map, List.length_map]
            have := List.length_filter_le (lessK cs e) (E.take j)
            rw [List.length_take] at this
            omega
          · rw [upd_ne (ne_of_none q hD)]; exact s46 _ _ q
          · rw [upd_same, take_snoc ho, List.filter_append, List.map_append, List.map_append]
            have : [o].filter (lessK cs e) = [o] := by rw [List.filter_cons_of_pos hle]; rfl
            rw [this]; rfl
        · have hle : ¬ lessK cs e o = true := hp
          refine ⟨s46, ?_⟩
          rw [hL6, take_snoc ho, List.filter_append]
          have : [o].filter (lessK cs e) = [] := by rw [List.filter_cons_of_neg hle]; rfl
          rw [this, List.append_nil]
      · rintro H4 ⟨s4, hL⟩
        rw [List.length_map, List.length_map, List.take_length] at hL
        have hcnt : ((E.filter (lessK cs e)).map Prod.fst).length = E.countP (lessK cs e) := by rw [List.length_map, List.countP_eq_length_filter]
        have hcl := List.countP_le_length (p := lessK cs e) (l := E)
        refine ⟨D, _, rfl, .inl (SqL.of hL), ?_⟩
        have hf4 := s4 _ _ hf3
        refine ⟨_, rfl, .inl ⟨rfl, _, SqL.of hf4⟩, _, rfl, _, rfl, fo, _, _, _, rfl, rfl, hf4, by rw [List.length_map, List.length_map]; omega, by omega, ?_, ⟨_, _, _, _, rfl⟩, ?_, ?_⟩
        · rw [List.length_map, hcnt]
          have : (2 : Int) ^ 63 = 9223372036854775808 := by decide
          omega
        · rw [upd_same, List.length_map, hcnt, take_snoc he, sortedE_snoc, ← hE, Int.toNat_natCast]
          unfold insE
          simp only [List.map_append, List.map_take, List.map_drop]
          rfl
        · intro b u hb q
          rw [upd_ne hb]
          exact s4 _ _ (B3 _ _ hb q)
    · rintro σ H7 ⟨⟨v3, v4, v5, v6, rfl⟩, hf7, B7⟩
      rw [hlen, List.take_length, sortedE_is] at hf7
      refine ⟨B7 _ _ hnd0 hdl, _, rfl, k fo _ (fun b u q => ?_) hfo ?_⟩
      · by_cases z : b = d
        · subst z
          rw [hd] at q
          rw [upd_same]; exact q
        · rw [upd_ne z]
          refine B7 _ _ (ne_of_none q hfo) ?_
          rw [← hHl, upd_ne z]
          exact Same.new hfo _ _ q
      · rw [upd_ne hnd0.symm]; exact hf7
end
/-! ### repr of a dict -/
def bits (D : List (PyData × PyData)) : List Str := List.zipWith (fun k v : Str => k ++ ": " ++ v) (PyData.shownAll (D.map Prod.fst)) (PyData.shownAll (D.map Prod.snd))
def textD (D : List (PyData × PyData)) : Str := dictText (bits D)
theorem zip_pile : ∀ ks vs : List Str, pile (List.zipWith (fun k v : Str => k ++ ": " ++ v) ks vs) ≤ pile ks + pile vs
  | [], _ => by simp [pile]
  | _ :: _, [] => by simp [pile]
  | k :: ks, v :: vs => by
    have ih := zip_pile ks vs
    show (k ++ ": " ++ v).length + 2 + pile (List.zipWith _ ks vs) ≤ k.length + 2 + pile ks + (v.length + 2 + pile vs)
    have e : (k ++ (": " : Str) ++ v).length = k.length + 2 + v.length := by
      rw [Str.length_append, Str.length_append]; rfl
    rw [e]
    omega
theorem textD_len {D : List (PyData × PyData)} (h1 : okAll (D.map Prod.fst) = true) (h2 : okAll (D.map Prod.snd) = true) : (textD D).length ≤ szAll (D.map Prod.fst) + szAll (D.map Prod.snd) + 2 := by
  unfold textD dictText
  have e1 := join_le (bits D)
  have e2 := zip_pile (PyData.shownAll (D.map Prod.fst)) (PyData.shownAll (D.map Prod.snd))
  have e3 := shownAll_le2 _ h1
  have e4 := shownAll_le2 _ h2
  rw [Str.length_append, Str.length_append]
  have : ("{" : Str).length = 1 := rfl
  have : ("}" : Str).length = 1 := rfl
  unfold bits at e1 ⊢
  omega
theorem mem_pile {x : Str} : ∀ {l : List Str}, x ∈ l → x.length ≤ pile l
  | y :: r, h => by
    show _ ≤ y.length + 2 + pile r
    rcases List.mem_cons.mp h with e | e
    · rw [e]; omega
    · have := mem_pile e; omega
theorem keys_vals {P : Program} {w : World} : ∀ {es : List DictEntry} {kvs : List (Key × V)} {vs : List (Key × Value)}, KV kvs vs → Pairs (mixKind P w) es vs → Vals (kvs.map fun kv => kV kv.1) (es.map (·.key)) ∧ Vals (kvs.map Prod.snd) (es.map (·.val))
  | _, [], _, r, p => by
    cases r
    cases p
    exact ⟨.nil, .nil⟩
  | _, kv :: kvs, _, r, p => by
    cases r with
    | cons h t =>
      cases p with
      | cons k1 k2 pr =>
        obtain ⟨i1, i2⟩ := keys_vals (P := P) (w := w) t pr
        refine ⟨.cons (relV_key ?_) i1, .cons (show RelV kv.2 _ by have q := h.2; rw [← k2] at q; exact q) i2⟩
        have : keyIs _ _ = true := k1
        rw [h.1]; exact this
def rReprD (K : PySem.W.Frag) : List V → Hp → VK → Prop := fun xs H Q => ∃ (a : Addr) (kvs : List (Key × V)) (D : List (PyData × PyData)), xs = [.ref a] ∧ H a = some (.dK kvs) ∧ DVs K H (kvs.map fun kv => kV kv.1) (D.map Prod.fst) ∧ DVs K H (kvs.map Prod.snd) (D.map Prod.snd) ∧
  okAll (D.map Prod.fst) = true ∧ okAll (D.map Prod.snd) = true ∧ PyData.depthKv D ≤ 40 ∧ szAll (D.map Prod.fst) ≤ 1000000 ∧ szAll (D.map Prod.snd) ≤ 1000000 ∧ Q (.str (textD D)) H
section
variable {X : Cx}
theorem call_reprD (hg : X.A.guards = some []) (hu : X.A.units + 64 < cLine) : CallR X (.builtin "repr") (rReprD X.K) := by
  intro pins s σ H xs us Q I r h
  obtain ⟨a, kvs, D, rfl, hd, hK, hV, o1, o2, hdep, z1, z2, q⟩ := h
  obtain ⟨u, rfl, ru⟩ := vals1 r
  obtain rfl : u = Value.ref a := ru
  obtain ⟨_, sy, vs, rel, o, es, ep, h1, h2, h3, h4⟩ := I.hok _ _ hd
  obtain ⟨rk, rvv⟩ := keys_vals (P := X.prog) (w := X.w) rel h4.2.1
  have l1 := shownAll_le2 _ o1
  have l2 := shownAll_le2 _ o2
  have hline := sizeLine_eq
  obtain ⟨as1, R1⟩ := DVs.reads I _ _ _ hK rk
  obtain ⟨as2, R2⟩ := DVs.reads I _ _ _ hV rvv
  obtain ⟨bs1, b1, k1⟩ := DVs.rk I _ _ _ hK rk o1 fun x hx => by have := mem_pile hx; omega
  obtain ⟨bs2, b2, k2⟩ := DVs.rk I _ _ _ hV rvv o2 fun x hx => by have := mem_pile hx; omega
  have R : Reads s.heap (.ref a) (.dict D) _ := Reads.dict h1 h2.1 h3 R1 R2
  have d1 := PyData.depthAll_keys_le D
  have d2 := PyData.depthAll_vals_le D
  have hb : ReadAtMost s.heap (PyData.depthKv D) (bs1 ++ bs2) := (b1.mono d1).append (b2.mono d2)
  have far := not_mem_of_deeper R (by rw [PyData.depth]; omega) hb
  refine call_repr_slot (by omega) ⟨o, h1, h2.1⟩ F.slot_dict_repr ?_
  refine call_dict_reprK (d := PyData.depthKv D) (as := bs1 ++ bs2) h1 h2.1 h3 sy far (ReprEntriesK.of_two es.toList _ _ (k1.more_le (fun b hb => List.mem_append_left _ hb) d1) (k2.more_le (fun b hb => List.mem_append_right _ hb) d2)) hg (fun b _ => Clear.nil b) (by show X.A.units + 1 + _ < cLine; omega) (fun _ _ e => e)
    (fun h' u tk k => ⟨_, _, rfl, .str _, H, I.kept k, ⟨_, rfl⟩, q⟩) ?_
  have := textD_len o1 o2
  unfold textD bits at this
  omega
end
/-! ### a stock, made and kept -/
theorem sqt_but {K : PySem.W.Frag} {H H' : Hp} {x a : Addr} {u : HO} {xs : List V} (B : But x H H') (hx : H x = some u) (n1 : ∀ ys, HO.tup ys ≠ u) (n2 : ∀ o ys, HO.frz o (.tup ys) ≠ u) (h : SqT K H a xs) : SqT K H' a xs := by
  rcases h with (h | ⟨o, h⟩) | h
  · exact .inl (.inl (B _ _ (ne_of h hx (n1 xs)) h))
  · exact .inl (.inr ⟨o, B _ _ (ne_of h hx (n2 o xs)) h⟩)
  · exact .inr h
theorem stk_but {K : PySem.W.Frag} {H H' : Hp} {x : Addr} {u : HO} {kvs : List (Key × V)} {st : List (Int × List Int)} (B : But x H H') (hx : H x = some u) (n1 : ∀ ys, HO.tup ys ≠ u) (n2 : ∀ o ys, HO.frz o (.tup ys) ≠ u) (h : StockK K H kvs st) : StockK K H' kvs st :=
  ⟨h.1, fun i a b h1 h2 => by
    obtain ⟨z1, p, z2, z3⟩ := h.2 i a b h1 h2
    exact ⟨z1, p, z2, sqt_but B hx n1 n2 z3⟩⟩
/-- its data -/
def DD (st : List (Int × List Int)) : List (PyData × PyData) := st.map fun e => (.int e.1, .tuple (e.2.map .int))
theorem stk_dvs {K : PySem.W.Frag} {H : Hp} : ∀ {kvs : List (Key × V)} {st : List (Int × List Int)}, StockK K H kvs st → DVs K H (kvs.map fun kv => kV kv.1) ((DD st).map Prod.fst) ∧ DVs K H (kvs.map Prod.snd) ((DD st).map Prod.snd)
  | [], [], _ => ⟨.nil, .nil⟩
  | [], _ :: _, h => by cases h.1
  | _ :: _, [], h => by cases h.1
  | kv :: kvs, e :: st, h => by
    obtain ⟨z1, p, z2, z3⟩ := h.2 0 kv e rfl rfl
    obtain ⟨i1, i2⟩ := stk_dvs (kvs := kvs) (st := st) ⟨Nat.succ.inj h.1, fun i a b h1 h2 => h.2 (i + 1) a b h1 h2⟩
    refine ⟨.cons (show DV K H (kV kv.1) (.int e.1) by rw [z1]; exact .int _) i1, .cons (show DV K H kv.2 (.tuple (e.2.map .int)) by rw [z2]; exact .tup z3 (DVs.intsL _)) i2⟩
theorem szI : ∀ xs : List Int, szAll (xs.map .int) = xs.length * 303
  | [] => by rw [List.map_nil, szAll]; rfl
  | _ :: r => by rw [List.map_cons, szAll, szD, szI r, List.length_cons]; omega
theorem okI : ∀ xs : List Int, (∀ z ∈ xs, z.natAbs < 2 ^ 300) → okAll (xs.map .int) = true
  | [], _ => by rw [List.map_nil, okAll]
  | x :: r, h => by
    rw [List.map_cons, okAll, okD, okI r fun z hz => h z (List.mem_cons_of_mem _ hz), decide_eq_true (h x List.mem_cons_self)]
    rfl
/-- drawn entries -/
def EntOk (st : List (Int × List Int)) : Prop := ∀ e ∈ st, (1 ≤ e.1 ∧ e.1 ≤ 1000000) ∧ e.2.length ≤ 4 ∧ ∀ z ∈ e.2, -1000000000 ≤ z ∧ z ≤ 1000000000
theorem dd_ok : ∀ {st : List (Int × List Int)}, EntOk st → okAll ((DD st).map Prod.fst) = true ∧ okAll ((DD st).map Prod.snd) = true ∧ PyData.depthKv (DD st) ≤ 40 ∧ szAll ((DD st).map Prod.fst) = st.length * 303 ∧ szAll ((DD st).map Prod.snd) ≤ st.length * 1300
  | [], _ => ⟨by rw [DD, List.map_nil, List.map_nil, okAll], by rw [DD, List.map_nil, List.map_nil, okAll], by rw [DD, List.map_nil, PyData.depthKv]; omega, by rw [DD, List.map_nil, List.map_nil, szAll]; rfl, by rw [DD, List.map_nil, List.map_nil, szAll]; omega⟩
  | e :: st, h => by
    obtain ⟨i1, i2, i3, i4, i5⟩ := dd_ok (st := st) fun x hx => h x (List.mem_cons_of_mem _ hx)
    obtain ⟨⟨a1, a2⟩, a3, a4⟩ := h e List.mem_cons_self
    have eD : DD (e :: st) = (.int e.1, .tuple (e.2.map .int)) :: DD st := rfl
    have hd := depthAll_ints e.2
    rw [eD, List.map_cons, List.map_cons]
    refine ⟨?_, ?_, ?_, ?_, ?_⟩
    · rw [okAll, okD, i1, decide_eq_true (small_abs (by omega) (by omega))]; rfl
    · rw [okAll, okD, i2, okI e.2 fun z hz => by have := a4 z hz; exact small_abs (by omega) (by omega)]; rfl
    · rw [PyData.depthKv, PyData.depth, PyData.depth]; omega
    · rw [szAll, szD, i4, List.length_cons]; omega
    · rw [szAll, szD, szI, List.length_cons]; omega
/-- the pairs that the dict is made of -/
def MadeAt (H : Hp) (D0 : Addr) (ts fs : List Addr) (st : List (Int × List Int)) : Prop := H D0 = some (.lst (ts.map V.ref)) ∧ ts.length = st.length ∧ fs.length = st.length ∧
  ∀ (j : Nat) (t f : Addr) (e : Int × List Int), ts[j]? = some t → fs[j]? = some f → st[j]? = some e → H t = some (.tup [.int e.1, .ref f]) ∧ H f = some (.tup (e.2.map V.int))
theorem MadeAt.same {H H' : Hp} {D0 : Addr} {ts fs : List Addr} {st : List (Int × List Int)} (h : MadeAt H D0 ts fs st) (s : Same H H') : MadeAt H' D0 ts fs st :=
  ⟨s _ _ h.1, h.2.1, h.2.2.1, fun j t f e h1 h2 h3 => ⟨s _ _ (h.2.2.2 j t f e h1 h2 h3).1, s _ _ (h.2.2.2 j t f e h1 h2 h3).2⟩⟩
theorem MadeAt.but {H H' : Hp} {D0 d : Addr} {ts fs : List Addr} {st : List (Int × List Int)} {q : List (Key × V)} (h : MadeAt H D0 ts fs st) (B : But d H H') (hd : H d = some (.dK q)) : MadeAt H' D0 ts fs st :=
  ⟨B _ _ (ne_of h.1 hd (fun z => by cases z)) h.1, h.2.1, h.2.2.1, fun j t f e h1 h2 h3 => ⟨B _ _ (ne_of (h.2.2.2 j t f e h1 h2 h3).1 hd (fun z => by cases z)) (h.2.2.2 j t f e h1 h2 h3).1, B _ _ (ne_of (h.2.2.2 j t f e h1 h2 h3).2 hd (fun z => by cases z)) (h.2.2.2 j t f e h1 h2 h3).2⟩⟩
theorem snoc_at {α : Type} {l : List α} {x y : α} {j : Nat} (h : (l ++ [x])[j]? = some y) : (j < l.length ∧ l[j]? = some y) ∨ (j = l.length ∧ y = x) := by
  by_cases hj : j < l.length
  · rw [List.getElem?_append_left hj] at h
    exact .inl ⟨hj, h⟩
  · rw [List.getElem?_append_right (by omega)] at h
    have hj0 : j - l.length = 0 := by
      cases z : j - l.length with
      | zero => rfl
      | succ m => rw [z] at h; simp at h
    rw [hj0] at h
    simp at h
    exact .inr ⟨by omega, h.symm⟩
theorem MadeAt.push {H : Hp} {D0 t f : Addr} {ts fs : List Addr} {st : List (Int × List Int)} {e : Int × List Int} (h : MadeAt H D0 ts fs st) (ht : H t = some (.tup [.int e.1, .ref f])) (hf : H f = some (.tup (e.2.map V.int))) :
    MadeAt (upd H D0 (.lst (ts.map V.ref ++ [.ref t]))) D0 (ts ++ [t]) (fs ++ [f]) (st ++ [e]) := by
  obtain ⟨h1, h2, h3, h4⟩ := h
  have up : ∀ {b : Addr} {ys : List V}, H b = some (.tup ys) → (upd H D0 (.lst (ts.map V.ref ++ [.ref t]))) b = some (.tup ys) := fun q => by rw [upd_ne (ne_of q h1 (fun z => by cases z))]; exact q
  refine ⟨by rw [upd_same, List.map_append]; rfl, by simp [h2], by simp [h3], fun j t' f' e' e1 e2 e3 => ?_⟩
  rcases snoc_at e1 with ⟨l1, e1⟩ | ⟨l1, e1⟩
  · rcases snoc_at e2 with ⟨_, e2⟩ | ⟨l2, _⟩
    · rcases snoc_at e3 with ⟨_, e3⟩ | ⟨l3, _⟩
      · exact ⟨up (h4 j t' f' e' e1 e2 e3).1, up (h4 j t' f' e' e1 e2 e3).2⟩
      · omega
    · omega
  · rcases snoc_at e2 with ⟨l2, _⟩ | ⟨_, e2⟩
    · omega
    · rcases snoc_at e3 with ⟨l3, _⟩ | ⟨_, e3⟩
      · omega
      · rw [e1, e2, e3]; exact ⟨up ht, up hf⟩
def mkKvs : List (Int × List Int) → List Addr → List (Key × V)
  | e :: st, f :: fs => (.inl e.1, .ref f) :: mkKvs st fs
  | _, _ => []
theorem mk_paired {K : PySem.W.Frag} {H : Hp} : ∀ {ts fs : List Addr} {st : List (Int × List Int)}, ts.length = st.length → fs.length = st.length →
    (∀ (j : Nat) (t f : Addr) (e : Int × List Int), ts[j]? = some t → fs[j]? = some f → st[j]? = some e → H t = some (.tup [.int e.1, .ref f]) ∧ H f = some (.tup (e.2.map V.int))) →
    Paired (fun p kv => SqT K H p [kV kv.1, kv.2]) ts (mkKvs st fs) ∧ StockK K H (mkKvs st fs) st ∧ (mkKvs st fs).map Prod.fst = st.map fun e => (.inl e.1 : Key)
  | [], [], [], _, _, _ => ⟨.nil, ⟨rfl, fun i a b h1 _ => by simp [mkKvs] at h1⟩, rfl⟩
  | t :: ts, f :: fs, e :: st, h1, h2, h => by
    obtain ⟨g1, g2⟩ := h 0 t f e rfl rfl rfl
    obtain ⟨i1, i2, i3⟩ := mk_paired (K := K) (H := H) (ts := ts) (fs := fs) (st := st) (Nat.succ.inj h1) (Nat.succ.inj h2) fun j a b c x y z => h (j + 1) a b c x y z
    refine ⟨.cons (SqT.of g1) i1, ⟨congrArg Nat.succ i2.1, fun i a b x y => ?_⟩, by show _ :: _ = _ :: _; rw [i3]⟩
    cases i with
    | zero =>
      obtain rfl := Option.some.inj x
      obtain rfl := Option.some.inj y
      exact ⟨rfl, f, rfl, SqT.of g2⟩
    | succ i => exact i2.2 i a b x y
  | [], _, _ :: _, h1, _, _ => by cases h1
  | _ :: _, _, [], h1, _, _ => by cases h1
  | _, [], _ :: _, _, h2, _ => by cases h2
  | _, _ :: _, [], _, h2, _ => by cases h2
theorem merge_fresh : ∀ (more acc : List (Key × V)), ((acc ++ more).map Prod.fst).Nodup → mergeK acc more = acc ++ more
  | [], acc, _ => by rw [List.append_nil]; rfl
  | p :: r, acc, h => by
    have hp : putK acc p.1 p.2 = acc ++ [p] := by
      unfold putK
      rw [if_neg]
      intro z
      obtain ⟨q, hq, e⟩ := List.any_eq_true.mp z
      have e := of_decide_eq_true e
      rw [List.map_append, List.map_cons] at h
      have := (List.nodup_append.mp h).2.2 q.1 (List.mem_map.mpr ⟨q, hq, rfl⟩) p.1 List.mem_cons_self
      exact this e
    show mergeK (putK acc p.1 p.2) r = _
    rw [hp, merge_fresh r (acc ++ [p]) (by rw [List.append_assoc]; exact h), List.append_assoc]
    rfl
structure TxtL (mg : Str → Option Value) : Prop where
  range : mg "range" = none
  max : mg "max" = none
  min : mg "min" = none
  repr : mg "repr" = none
  dict : mg "dict" = none
  isi : mg "isinstance" = none
  bool : mg "bool" = none
structure Fn (K : PySem.W.Frag) (mg : Str → Option Value) (x : Str) (st : Stmt) (ps : List Str) (f : Addr) (fd : FuncData) : Prop where
  F : Fun K x x st f fd
  b : L2.Binds K fd ps []
  m : mg x = some (.ref f)
section
variable {P : Program} {w : World} {K : PySem.W.Frag} {mg : Str → Option Value} {base : Heap}
def spLaw (K : PySem.W.Frag) : Sp := fun vs H Q _ => ∃ (a : Addr) (ns : List Int), vs = [.ref a] ∧ SqL K H a (ns.map V.int) ∧ ns.length ≤ 63 ∧ (∀ z ∈ ns, Builtin.Int.intBits z ≤ 1048576) ∧ ∀ H', Q (.bl true) H'
abbrev NL : List Str := ["script", "start", "deck", "wide", "stock", "kept", "turn", "rule", "one", "other", "found", "due", "again", "number"]
theorem scLaw : FnScope NL ["script"] (defScope sLaw) := ⟨rfl, rfl, rfl, by decide +kernel, rfl, by decide +kernel, by decide +kernel⟩
theorem call_reprK2 {X : Cx} {K : PySem.W.Frag} (h : X.K = K) (hg : X.A.guards = some []) (hu : X.A.units + 64 < cLine) : CallR X (.builtin "repr") (rRepr2 K) := by
  subst h
  exact call_repr2 hg hu
theorem dvLi {K : PySem.W.Frag} {H : Hp} {q : Addr} {xs : List Int} (h : H q = some (.lst (xs.map V.int))) : DV K H (.ref q) (.list (xs.map .int)) := .lst (SqL.of h) (DVs.intsL xs)
theorem ok_law {f fDe fDr fI fF fR fCm fO fSg fSo : Addr} {fd fdDe fdDr fdI fdF fdR fdCm fdO fdSg fdSo : FuncData} (F : Fun K "law" "law" sLaw f fd) (TD : TxtD mg) (TL : TxtL mg)
    (De : Fn K mg "_law_deck" sDeck ["script", "start"] fDe fdDe) (Dr : Fn K mg "_law_draw" sDraw ["deck", "size"] fDr fdDr) (Id : Fn K mg "_law_ids" sIds ["deck", "many"] fI fdI) (GI : FnOk P w K mg base CX0 3 fI fdI ["deck", "many"] spIds)
    (Fi : Fn K mg "_law_fields" sFields ["deck", "wide"] fF fdF) (GF : FnOk P w K mg base CX0 3 fF fdF ["deck", "wide"] spFields)
    (Ru : Fn K mg "_law_rule" sRule ["deck", "wide"] fR fdR) (GR : FnOk P w K mg base CX0 3 fR fdR ["deck", "wide"] spRule)
    (Cm : Fn K mg "compare_items" sCompare ["rule", "first", "second"] fCm fdCm) (GCm : FnOk P w K mg base CX0 2 fCm fdCm ["rule", "first", "second"] (spCmp K))
    (Ro : Fn K mg "rule_order" sRuleOrder ["rule", "items"] fO fdO) (GRo : FnOk P w K mg base CX0 2 fO fdO ["rule", "items"] (spRuleO K))
    (Sg : Fn K mg "_law_sign" sSign ["rule", "left", "right"] fSg fdSg) (GSg : FnOk P w K mg base CX0 1 fSg fdSg ["rule", "left", "right"] (spCmp K))
    (So : Fn K mg "_law_sorted" sSorted ["rule", "stock"] fSo fdSo) (GSo : FnOk P w K mg base CX0 2 fSo fdSo ["rule", "stock"] (spSorted K)) : FnG P w K mg base 4 f fd ["script"] (spLaw K) := by
  have GDe : FnOk P w K mg base CX0 1 fDe fdDe ["script", "start"] (spDeck K) := ok_deck De.F TD
  have GDr : FnOk P w K mg base CX0 1 fDr fdDr ["deck", "size"] spDraw := ok_draw Dr.F
  refine FnG.mk' F scLaw (fun vs H Q E h => ?_) (fun cdv A outer s H vs Q E hg hr h => ?_)
  · obtain ⟨a, ns, rfl, _⟩ := h
    rfl
  · obtain ⟨a, ns, rfl, hS, hlen, hbits, k⟩ := h
    have hr1 : Room 1 _ := hr.mono (by decide)
    have hr2 : Room 2 _ := hr.mono (by decide)
    have hr3 : Room 3 _ := hr.mono (by decide)
    have h64 := hu64 hr
    have hu := hu_of hr
    refine ⟨_, pss_cons (ps_for PassesOwn.never rfl (pi_range1 rfl TL.range (pa_cons (pe_callB (call_max2 rfl) (by rfl) TL.max (by decide +kernel) (pa_cons pe_int (pa_cons (pe_callB (call_min2 rfl) (by rfl) TL.min (by decide +kernel)
          (pa_cons pe_int (pa_cons (pe_callB call_len_seq (by rfl) TD.len PySem.boot_len (pa_cons (pv 0) pa_nil)) pa_nil))) pa_nil))) pa_nil)) (pg_name (i := 1) scLaw.nd rfl (Or.inl rfl))
        (pss_cons (ps_set (i := 2) scLaw.nd rfl (Or.inr rfl) (pe_call GDe hr1 rfl De.m De.F.kp De.b .nil pass0 (pa_cons (pv 0) (pa_cons (pv 1) pa_nil))))
        (pss_cons (ps_set (i := 3) scLaw.nd rfl (Or.inr rfl) (pe_op op_add pe_int (pe_call GDr hr1 rfl Dr.m Dr.F.kp Dr.b .nil pass0 (pa_cons (pv 2) (pa_cons pe_int pa_nil)))))
        (pss_cons (ps_set (i := 4) scLaw.nd rfl (Or.inl rfl) (pe_callTy (call_dictP rfl) (by rfl) TL.dict (by decide +kernel) (pa_cons
            (pe_lc (own := [("number", 13)]) (g := gName 13) (tt := tYes) rfl scLaw.nd (pi_list (pe_call GI hr3 rfl Id.m Id.F.kp Id.b .nil pass0 (pa_cons (pv 2) (pa_cons (pe_call GDr hr1 rfl Dr.m Dr.F.kp Dr.b .nil pass0 (pa_cons (pv 2) (pa_cons pe_int pa_nil))) pa_nil)))) (blkOk_by (N := NL) (sc := defScope sLaw) (by decide +kernel)) (fun _ _ _ _ _ => pg_name (i := 13) scLaw.nd rfl (Or.inl rfl)) (fun _ _ _ _ _ => pts_nil)
              (fun _ _ _ _ _ => pe_tup (pa_cons (pv 13) (pa_cons (pe_call GF hr3 rfl Fi.m Fi.F.kp Fi.b .nil pass0 (pa_cons (pv 2) (pa_cons (pv 3) pa_nil))) pa_nil)))) pa_nil)))
        (pss_cons (ps_set (i := 5) scLaw.nd rfl (Or.inl rfl) (pe_callB (call_reprD hg h64) (by rfl) TL.repr (by decide +kernel) (pa_cons (pv 4) pa_nil)))
        (pss_one (ps_for PassesOwn.never rfl (pi_range1 rfl TL.range (pa_cons pe_int pa_nil)) (pg_name (i := 6) scLaw.nd rfl (Or.inl rfl))
          (pss_cons (ps_set (i := 7) scLaw.nd rfl (Or.inl rfl) (pe_call GR hr3 rfl Ru.m Ru.F.kp Ru.b .nil pass0 (pa_cons (pv 2) (pa_cons (pv 3) pa_nil))))
          (pss_cons (ps_lock (ps_for PassesOwn.never rfl (pi_keys (pv 4)) (pg_name (i := 8) scLaw.nd rfl (Or.inl rfl))
            (pss_one (ps_for PassesOwn.never rfl (pi_keys (pv 4)) (pg_name (i := 9) scLaw.nd rfl (Or.inl rfl))
              (pss_cons (ps_set (i := 10) scLaw.nd rfl (Or.inl rfl) (pe_call GCm hr2 rfl Cm.m Cm.F.kp Cm.b .nil pass0 (pa_cons (pv 7) (pa_cons (pe_tup (pa_cons (pv 8) (pa_cons (pe_dget hu (pv 4) (pv 8) (fun _ _ => rfl)) pa_nil))) (pa_cons (pe_tup (pa_cons (pv 9) (pa_cons (pe_dget hu (pv 4) (pv 9) (fun _ _ => rfl)) pa_nil))) pa_nil)))))
              (pss_cons (ps_set (i := 11) scLaw.nd rfl (Or.inl rfl) (pe_call GSg hr1 rfl Sg.m Sg.F.kp Sg.b .nil pass0 (pa_cons (pv 7) (pa_cons (pe_tup (pa_cons (pv 8) (pa_cons (pe_dget hu (pv 4) (pv 8) (fun _ _ => rfl)) pa_nil))) (pa_cons (pe_tup (pa_cons (pv 9) (pa_cons (pe_dget hu (pv 4) (pv 9) (fun _ _ => rfl)) pa_nil))) pa_nil)))))
              (pss_one (ps_if (PW.pt (pw_or (pt_val (pe_callB call_isi (by rfl) TL.isi (by decide +kernel) (pa_cons (pv 10) (pa_cons (pe_bltn (v := .ty "bool") (by rfl) TL.bool boot_bool rfl) pa_nil)))) (pw_or1 (pt_cmpR op_ne (pv 10) (pv 11) (nomark _))))) (pss_one (ps_ret pe_bl)) pss_nil))))))))
          (pss_cons (ps_lock (ps_for PassesOwn.never rfl (pi_keys (pv 4)) (pg_name (i := 8) scLaw.nd rfl (Or.inl rfl))
            (pss_cons (ps_set (i := 9) scLaw.nd rfl (Or.inl rfl) (pe_tup (pa_cons (pv 8) (pa_cons (pe_call GF hr3 rfl Fi.m Fi.F.kp Fi.b .nil pass0 (pa_cons (pv 2) (pa_cons (pv 3) pa_nil))) pa_nil))))
            (pss_one (ps_if (pt_cmpR op_ne (pe_call GCm hr2 rfl Cm.m Cm.F.kp Cm.b .nil pass0 (pa_cons (pv 7) (pa_cons (pe_tup (pa_cons (pv 8) (pa_cons (pe_dget hu (pv 4) (pv 8) (fun _ _ => rfl)) pa_nil))) (pa_cons (pv 9) pa_nil))))
                (pe_call GSg hr1 rfl Sg.m Sg.F.kp Sg.b .nil pass0 (pa_cons (pv 7) (pa_cons (pe_tup (pa_cons (pv 8) (pa_cons (pe_dget hu (pv 4) (pv 8) (fun _ _ => rfl)) pa_nil))) (pa_cons (pv 9) pa_nil)))) (nomark _)) (pss_one (ps_ret pe_bl)) pss_nil)))))
          (pss_one (ps_for PassesOwn.never rfl (pi_range1 rfl TL.range (pa_cons pe_int pa_nil)) (pg_name (i := 12) scLaw.nd rfl (Or.inl rfl))
            (pss_cons (ps_set (i := 10) scLaw.nd rfl (Or.inl rfl) (pe_call GRo hr2 rfl Ro.m Ro.F.kp Ro.b .nil pass0 (pa_cons (pv 7) (pa_cons (pv 4) pa_nil))))
            (pss_cons (ps_if (PW.pt (pw_or (pt_cmpR op_ne (pe_callB (call_repr2 hg h64) (by rfl) TL.repr (by decide +kernel) (pa_cons (pv 10) pa_nil))
                  (pe_callB (call_repr2 hg h64) (by rfl) TL.repr (by decide +kernel) (pa_cons (pe_call GSo hr2 rfl So.m So.F.kp So.b .nil pass0 (pa_cons (pv 7) (pa_cons (pv 4) pa_nil))) pa_nil)) (nomark _))
                (pw_or1 (pt_cmpR op_ne (pe_callB (call_reprD hg h64) (by rfl) TL.repr (by decide +kernel) (pa_cons (pv 4) pa_nil)) (pv 5) (nomark _))))) (pss_one (ps_ret pe_bl)) pss_nil)
            (pss_one (ps_expr (pe_bm PySem.F.plainAttrs_list PySem.F.slot_list_append PySem.F.type_list_append mt_append (pv 10) (pa_cons pe_int pa_nil))))))))))))))))))
      (pss_one (ps_ret pe_bl)), ?_⟩
    have h16 : sizeLine = 16777216 := sizeLine_eq
    obtain ⟨J, hJ, hJ0, hJ5⟩ : ∃ J : Int, J = (if (if (((ns.map V.int).length : Nat) : Int) < 5 then (((ns.map V.int).length : Nat) : Int) else 5) > 2 then (if (((ns.map V.int).length : Nat) : Int) < 5 then (((ns.map V.int).length : Nat) : Int) else 5) else 2) ∧ 0 ≤ J ∧ J ≤ 5 := by
      refine ⟨_, rfl, ?_, ?_⟩
      · split <;> split <;> omega
      · split <;> split <;> omega
    refine ⟨_, rfl, a, _, rfl, .inl hS, _, _, rfl, _, _, rfl, J, by rw [hJ], by omega, by omega, ?_⟩
    refine for_range (lo := 0) (n := J.toNat) (fun i σ H' => (∃ v1 v2 v3 v4 v5 v6 v7 v8 v9 v10 v11 v12 v13 : Option V, σ = [some (.ref a), v1, v2, v3, v4, v5, v6, v7, v8, v9, v10, v11, v12, v13]) ∧ Same H H')
      ⟨⟨none, none, none, none, none, none, none, none, none, none, none, none, none, rfl⟩, Same.refl H⟩ ?_ ?_
    · rintro start σ H0 hst ⟨⟨v1, v2, v3, v4, v5, v6, v7, v8, v9, v10, v11, v12, v13, rfl⟩, s0⟩
      refine ⟨_, rfl, _, rfl, a, ns, _, rfl, Same.sq s0 hS, hlen, hbits, by omega, by omega, fun d Hd hd sd D => ?_⟩
      have hHd : H d = none := Same.free s0 hd
      have sd0 : Same H Hd := s0.trans sd
      -- wide
      refine ⟨_, rfl, d, 4, rfl, D, by decide, by decide, fun r1 H1 r10 r11 D1 B1 => ⟨_, _, rfl, rfl, ?_⟩⟩
      obtain ⟨wd, hwd⟩ : ∃ wd : Nat, (1 : Int) + r1 = (wd : Int) := ⟨(1 + r1).toNat, by omega⟩
      have hw4 : wd ≤ 4 := by omega
      have hw1 : 1 ≤ wd := by omega
      show gName 3 (V.int (1 + r1)) _ _ _
      rw [hwd]
      -- ids
      refine ⟨_, rfl, _, rfl, d, 10, rfl, D1, by decide, by decide, fun r2 H2 r20 r21 D2 B2 => ?_⟩
      obtain ⟨m1, rfl⟩ : ∃ m : Nat, r2 = (m : Int) := ⟨r2.toNat, by omega⟩
      refine ⟨d, m1, rfl, D2, by omega, fun l js H3 hl B3 D3 hL hjl hI => ?_⟩
      have F3 : Fs d Hd [(l, .lst (js.map V.int))] H3 := ((((Fs.start D).step D1 B1).step D2 B2).step D3 B3).add hL nl
      have hj9 : js.length ≤ 9 := by omega
      refine ⟨l, rfl, ⟨_, SqL.of F3.g0⟩, fun D0 hD0 => ?_⟩
      obtain ⟨a0, a1, a2⟩ := F3.apart hD0
      refine lc_list (K := K) (a := l) (xs := js.map V.int) (fun j H' => ∃ ts fs st, st.map Prod.fst = js.take j ∧ EntOk st ∧ (∀ e ∈ st, e.2.length = wd) ∧ MadeAt H' D0 ts fs st ∧ Fs d Hd [(l, .lst (js.map V.int))] H')
        ⟨[], [], [], rfl, (fun e h => by cases h), (fun e h => by cases h), ⟨upd_same, rfl, rfl, fun j t f e h => by simp at h⟩, F3.skip hD0⟩ (fun j H' _ ⟨ts, fs, st, _, _, _, _, F⟩ => SqL.of F.g0) ?_ ?_
      · rintro j x H4 hx ⟨ts, fs, st, e1, e2, e3, M4, F4⟩
        rw [List.getElem?_map] at hx
        obtain ⟨id, hid, rfl⟩ : ∃ id, js[j]? = some id ∧ x = V.int id := by
          cases q : js[j]? with
          | none => rw [q] at hx; cases hx
          | some z => rw [q] at hx; exact ⟨z, rfl, (Option.some.inj hx).symm⟩
        have hidb := hI.2 id (List.mem_of_getElem? hid)
        refine ⟨rfl, ?_⟩
        refine ⟨_, rfl, _, rfl, _, rfl, d, wd, rfl, F4.deck, hw4, fun f fl H5 B5 D5 hF5 hfl hfb => ?_⟩
        obtain ⟨qx, qy, hdd, _⟩ := F4.deck
        have M5 := M4.but B5 hdd
        have F5 := F4.step D5 B5
        refine ⟨by show 2 ≤ sizeLine; omega, fun t ht => ?_⟩
        have st5 := Same.new (o := .tup [.int id, .ref f]) ht
        have M6 := M5.same st5
        have F6 := F5.skip (o := .tup [.int id, .ref f]) ht
        refine ⟨_, M6.1, ?_, ts ++ [t], fs ++ [f], st ++ [(id, fl)], ?_, ?_, ?_, M6.push upd_same (st5 _ _ hF5), F6.put a0 a1 a2⟩
        · have q := congrArg List.length e1
          rw [List.length_map, List.length_take] at q
          rw [List.length_map, M6.2.1]
          omega
        · rw [take_snoc hid, List.map_append, e1]; rfl
        · intro e he
          rcases List.mem_append.mp he with h | h
          · exact e2 e h
          · rw [List.mem_singleton.mp h]
            exact ⟨hidb, by show fl.length ≤ 4; omega, hfb⟩
        · intro e he
          rcases List.mem_append.mp he with h | h
          · exact e3 e h
          · rw [List.mem_singleton.mp h]; exact hfl
      rintro H4 ⟨ts, fs, st, e1, e2, e3, M4, F4⟩
      rw [List.length_map, List.take_length] at e1
      have hsl : st.length ≤ 9 := by
        have q := congrArg List.length e1
        rw [List.length_map] at q
        omega
      have hnd : (st.map Prod.fst).Nodup := by rw [e1]; exact hI.1
      obtain ⟨pd, sk0, ek⟩ := mk_paired (K := K) M4.2.1 M4.2.2.1 M4.2.2.2
      have hkm : mergeK [] (mkKvs st fs) = mkKvs st fs := by
        have := merge_fresh (mkKvs st fs) [] (by
          rw [List.nil_append, ek]
          have : st.map (fun e => (.inl e.1 : Key)) = (st.map Prod.fst).map Sum.inl := by rw [List.map_map]; rfl
          rw [this]
          exact List.Pairwise.map _ (fun x y h z => h (by injection z)) hnd)
        rw [List.nil_append] at this
        exact this
      refine ⟨D0, ts, mkKvs st fs, rfl, SqL.of M4.1, pd, fun sk hsk => ?_⟩
      rw [hkm]
      have hkd : ∀ x y, mkKvs st fs ≠ dk x y := fun x y z => by
        have q := congrArg (List.map Prod.fst) z
        rw [ek] at q
        cases st with
        | nil => cases q
        | cons e r =>
          have : (Sum.inl e.1 : Key) = .inr "digits" := (List.cons.inj q).1
          cases this
      generalize mkKvs st fs = kvs at sk0 hkd
      have hskd : Hd sk = none := (F4.apart hsk).1
      have Fk : Fs d Hd [(sk, .dK kvs)] (upd H4 sk (.dK kvs)) := (F4.tail.new hsk (fun x y z => hkd x y (by cases z; rfl)))
      have Sk : StockK K (upd H4 sk (.dK kvs)) kvs st := sk0.same (Same.new hsk)
      generalize (upd H4 sk (.dK kvs) : Hp) = H5 at Fk Sk ⊢
      clear pd M4 F4 F3 hsk hkm ek
      -- kept
      obtain ⟨o1, o2, o3, o4, o5⟩ := dd_ok e2
      have rp : ∀ {H' : Hp}, StockK K H' kvs st → DVs K H' (kvs.map fun kv => kV kv.1) ((DD st).map Prod.fst) ∧ DVs K H' (kvs.map Prod.snd) ((DD st).map Prod.snd) := fun h => stk_dvs h
      refine ⟨_, rfl, sk, kvs, DD st, rfl, Fk.g0, (rp Sk).1, (rp Sk).2, o1, o2, o3, by omega, by omega, ?_⟩
      have n1 : ∀ ys, HO.tup ys ≠ .dK kvs := fun ys z => by cases z
      have n2 : ∀ o ys, HO.frz o (.tup ys) ≠ .dK kvs := fun o ys z => by cases z
      have nd1 : ∀ {q : List (Key × V)} ys, HO.tup ys ≠ .dK q := fun ys z => by cases z
      have nd2 : ∀ {q : List (Key × V)} o ys, HO.frz o (.tup ys) ≠ .dK q := fun o ys z => by cases z
      have nf1 : ∀ {od : Obj} ys, HO.tup ys ≠ .frz od (.dK kvs) := fun ys z => by cases z
      have nf2 : ∀ {od : Obj} o ys, HO.frz o (.tup ys) ≠ .frz od (.dK kvs) := fun o ys z => by cases z
      have nkd : ∀ x y, HO.dK kvs ≠ .dK (dk x y) := fun x y z => hkd x y (by cases z; rfl)
      have nfd : ∀ {od : Obj} x y, HO.frz od (.dK kvs) ≠ .dK (dk x y) := fun x y z => by cases z
      -- an entry by its id
      have dg : ∀ {H' : Hp} {od : Obj}, H' sk = some (.frz od (.dK kvs)) → StockK K H' kvs st → ∀ o ∈ st, ∃ p, DGet H' sk (.int o.1) (some (.ref p)) ∧ SqT K H' p (o.2.map V.int) := fun {H' od} hh hs o ho => by
        obtain ⟨p, p1, p2⟩ := stock_at hs hnd o ho
        exact ⟨p, .inl ⟨kvs, .inl o.1, .inr ⟨od, hh⟩, rfl, p1.symm⟩, p2⟩
      have hkl : kvs.length = st.length := Sk.1
      refine ⟨3, rfl, by decide, by decide, ?_⟩
      refine for_range (lo := 0) (n := 3) (fun i σ H' => (∃ v6 v7 v8 v9 v10 v11 v12 v13 : Option V, σ = [some (.ref a), some (.int (0 + (start : Int))), some (.ref d), some (.int (wd : Int)), some (.ref sk), some (.str (textD (DD st))), v6, v7, v8, v9, v10, v11, v12, v13]) ∧ Fs d Hd [(sk, .dK kvs)] H' ∧ StockK K H' kvs st)
        ⟨⟨_, _, _, _, _, _, _, _, rfl⟩, Fk, Sk⟩ ?_ ?_
      · rintro tu σ H6 htu ⟨⟨v6, v7, v8, v9, v10, v11, v12, v13, rfl⟩, F6, S6⟩
        -- rule
        refine ⟨_, rfl, _, rfl, d, wd, rfl, F6.deck, hw4, fun ru cs H7 B7 D7 hR7 hcl hcb => ?_⟩
        obtain ⟨qx, qy, hdd, _⟩ := F6.deck
        have F7 := F6.step D7 B7
        have S7 := stk_but B7 hdd nd1 nd2 S6
        have hco : ∀ e ∈ st, ColsOk cs e.2.length := fun e he => ⟨hcl, fun c hc => ⟨(hcb c hc).1, by rw [e3 e he]; exact (hcb c hc).2⟩⟩
        have R7 : SqT K H7 ru (cs.map V.int) := SqT.of hR7
        clear hR7 B7 D7 hdd S6 F6
        -- each with each
        refine ⟨sk, _, F7.g0, True.intro, fun od => ?_⟩
        have FL := F7.repl (o' := .frz od (.dK kvs)) hskd (fun p hp => by cases hp) nfd
        have BL : But sk H7 (upd H7 sk (.frz od (.dK kvs))) := But.upd
        have SL := stk_but BL F7.g0 n1 n2 S7
        have RL := sqt_but BL F7.g0 n1 n2 R7
        have hskl : (upd H7 sk (.frz od (.dK kvs))) sk = some (.frz od (.dK kvs)) := upd_same
        generalize (upd H7 sk (.frz od (.dK kvs)) : Hp) = Hl at FL SL RL hskl ⊢
        refine ⟨_, rfl, sk, od, rfl, .inl ⟨kvs, hskl, ?_⟩⟩
        refine for_it (walk_keys (d := sk) (o := od) (kvs := kvs)) (fun i σ H' => (∃ v8 v9 v10 v11 v12 v13 : Option V, σ = [some (.ref a), some (.int (0 + (start : Int))), some (.ref d), some (.int (wd : Int)), some (.ref sk), some (.str (textD (DD st))), some (.int (0 + (tu : Int))), some (.ref ru), v8, v9, v10, v11, v12, v13]) ∧ Same Hl H')
          ⟨⟨_, _, _, _, _, _, rfl⟩, Same.refl _⟩ (fun i σ H' _ q => q.2 _ _ hskl) ?_ ?_
        · rintro i x σ H8 H8' hi ⟨⟨v8, v9, v10, v11, v12, v13, rfl⟩, s8⟩ ⟨rfl, kx, vx, hkx, rfl⟩
          obtain ⟨e, he⟩ : ∃ e, st[i]? = some e := ⟨st[i]'(by omega), List.getElem?_eq_getElem (by omega)⟩
          have z1 : kx = .inl e.1 := (SL.2 i _ e hkx he).1
          subst z1
          have hem := List.mem_of_getElem? he
          refine ⟨_, rfl, sk, od, rfl, .inl ⟨kvs, s8 _ _ hskl, ?_⟩⟩
          refine for_it (walk_keys (d := sk) (o := od) (kvs := kvs)) (fun i σ H' => (∃ v9 v10 v11 v12 v13 : Option V, σ = [some (.ref a), some (.int (0 + (start : Int))), some (.ref d), some (.int (wd : Int)), some (.ref sk), some (.str (textD (DD st))), some (.int (0 + (tu : Int))), some (.ref ru), some (.int e.1), v9, v10, v11, v12, v13]) ∧ Same Hl H')
            ⟨⟨_, _, _, _, _, rfl⟩, s8⟩ (fun i σ H' _ q => q.2 _ _ hskl) ?_ ?_
          · rintro j x σ H9 H9' hj ⟨⟨v9, v10, v11, v12, v13, rfl⟩, s9⟩ ⟨rfl, ky, vy, hky, rfl⟩
            obtain ⟨g, hgj⟩ : ∃ g, st[j]? = some g := ⟨st[j]'(by omega), List.getElem?_eq_getElem (by omega)⟩
            have z2 : ky = .inl g.1 := (SL.2 j _ g hky hgj).1
            subst z2
            have hgm := List.mem_of_getElem? hgj
            have S9 := SL.same s9
            obtain ⟨pe, ge1, ge2⟩ := dg (s9 _ _ hskl) S9 e hem
            refine ⟨_, rfl, _, rfl, _, rfl, _, rfl, sk, _, rfl, ge1, by show 2 ≤ sizeLine; omega, fun T1 hT1 => ?_⟩
            have sa := s9.trans (Same.new (o := .tup [.int e.1, .ref pe]) hT1)
            have ta : (upd H9' T1 (.tup [.int e.1, .ref pe])) T1 = some (.tup [.int e.1, .ref pe]) := upd_same
            have ge2a := Same.tq (Same.new (o := .tup [.int e.1, .ref pe]) hT1) ge2
            generalize (upd H9' T1 (.tup [.int e.1, .ref pe]) : Hp) = Ha at sa ta ge2a ⊢
            obtain ⟨pg, gg1, gg2⟩ := dg (sa _ _ hskl) (SL.same sa) g hgm
            refine ⟨_, rfl, _, rfl, _, rfl, sk, _, rfl, gg1, by show 2 ≤ sizeLine; omega, fun T2 hT2 => ?_⟩
            have w2 := Same.new (o := .tup [.int g.1, .ref pg]) hT2
            refine ⟨ru, T1, pe, T2, pg, cs, e.2, g.2, e.1, g.1, rfl, Same.tq (sa.trans w2) RL, SqT.of (w2 _ _ ta), Same.tq w2 ge2a, SqT.of upd_same, Same.tq w2 gg2, hco e hem, hco g hgm, fun Hc sc => ?_⟩
            have s10 := sa.trans (w2.trans sc)
            clear sa ta ge2a gg1 gg2 ge1 ge2 w2 sc s9 S9
            obtain ⟨pe', ge1, ge2⟩ := dg (s10 _ _ hskl) (SL.same s10) e hem
            refine ⟨_, rfl, _, rfl, _, rfl, _, rfl, sk, _, rfl, ge1, by show 2 ≤ sizeLine; omega, fun T3 hT3 => ?_⟩
            have w3 := Same.new (o := .tup [.int e.1, .ref pe']) hT3
            have ta : (upd Hc T3 (.tup [.int e.1, .ref pe'])) T3 = some (.tup [.int e.1, .ref pe']) := upd_same
            have sa := s10.trans w3
            have ge2a := Same.tq w3 ge2
            generalize (upd Hc T3 (.tup [.int e.1, .ref pe']) : Hp) = Ha at sa ta ge2a ⊢
            obtain ⟨pg', gg1, gg2⟩ := dg (sa _ _ hskl) (SL.same sa) g hgm
            refine ⟨_, rfl, _, rfl, _, rfl, sk, _, rfl, gg1, by show 2 ≤ sizeLine; omega, fun T4 hT4 => ?_⟩
            have w4 := Same.new (o := .tup [.int g.1, .ref pg']) hT4
            refine ⟨ru, T3, pe', T4, pg', cs, e.2, g.2, e.1, g.1, rfl, Same.tq (sa.trans w4) RL, SqT.of (w4 _ _ ta), Same.tq w4 ge2a, SqT.of upd_same, Same.tq w4 gg2, hco e hem, hco g hgm, fun Hd2 sd2 => ?_⟩
            have s11 := sa.trans (w4.trans sd2)
            refine ⟨_, rfl, _, _, _, _, false, rfl, .ty _, .base (.int _), kit_ty (by decide +kernel), _, rfl, iteF ?_⟩
            refine ⟨_, rfl, _, rfl, rfl, _, rfl, iteNS rfl ?_⟩
            exact ⟨⟨_, _, _, _, _, rfl⟩, s11⟩
          · rintro σ H9 ⟨⟨v9, v10, v11, v12, v13, rfl⟩, s9⟩
            exact ⟨⟨_, _, _, _, _, _, rfl⟩, s9⟩
        · rintro σ H8 ⟨⟨v8, v9, v10, v11, v12, v13, rfl⟩, s8⟩
          refine ⟨s8 _ _ hskl, ?_⟩
          have F8 := (FL.same s8).repl (o' := .dK kvs) hskd (fun p hp => by cases hp) nkd
          have S8 := stk_but (But.upd (o := .dK kvs)) (s8 _ _ hskl) nf1 nf2 (SL.same s8)
          have R8 := sqt_but (But.upd (o := .dK kvs)) (s8 _ _ hskl) nf1 nf2 (Same.tq s8 RL)
          generalize (upd H8 sk (.dK kvs) : Hp) = Hm at F8 S8 R8 ⊢
          -- each with a new one
          refine ⟨sk, _, F8.g0, True.intro, fun od2 => ?_⟩
          have FN := F8.repl (o' := .frz od2 (.dK kvs)) hskd (fun p hp => by cases hp) nfd
          have SN := stk_but (But.upd (d := sk) (o := .frz od2 (.dK kvs))) F8.g0 n1 n2 S8
          have RN := sqt_but (But.upd (d := sk) (o := .frz od2 (.dK kvs))) F8.g0 n1 n2 R8
          generalize (upd Hm sk (.frz od2 (.dK kvs)) : Hp) = Hn at FN SN RN ⊢
          refine ⟨_, rfl, sk, od2, rfl, .inl ⟨kvs, FN.g0, ?_⟩⟩
          refine for_it (walk_keys (d := sk) (o := od2) (kvs := kvs)) (fun i σ H' => (∃ v8 v9 v10 v11 v12 v13 : Option V, σ = [some (.ref a), some (.int (0 + (start : Int))), some (.ref d), some (.int (wd : Int)), some (.ref sk), some (.str (textD (DD st))), some (.int (0 + (tu : Int))), some (.ref ru), v8, v9, v10, v11, v12, v13]) ∧ Fs d Hd [(sk, .frz od2 (.dK kvs))] H' ∧ StockK K H' kvs st ∧ SqT K H' ru (cs.map V.int))
            ⟨⟨_, _, _, _, _, _, rfl⟩, FN, SN, RN⟩ (fun i σ H' _ q => q.2.1.g0) ?_ ?_
          · rintro i x σ H9 H9' hi ⟨⟨v8, v9, v10, v11, v12, v13, rfl⟩, F9, S9, R9⟩ ⟨rfl, kx, vx, hkx, rfl⟩
            obtain ⟨e, he⟩ : ∃ e, st[i]? = some e := ⟨st[i]'(by omega), List.getElem?_eq_getElem (by omega)⟩
            have z1 : kx = .inl e.1 := (S9.2 i _ e hkx he).1
            subst z1
            have hem := List.mem_of_getElem? he
            refine ⟨_, rfl, _, rfl, _, rfl, d, wd, rfl, F9.deck, hw4, fun f fl Ha Ba Da hFa hfl hfb => ?_⟩
            obtain ⟨qx, qy, hdd, _⟩ := F9.deck
            have Fa := F9.step Da Ba
            have Sa := stk_but Ba hdd nd1 nd2 S9
            have Ra := sqt_but Ba hdd nd1 nd2 R9
            refine ⟨by show 2 ≤ sizeLine; omega, fun ot hot => ?_⟩
            have wo := Same.new (o := .tup [kV (.inl e.1), .ref f]) hot
            have Fb := Fa.same wo
            have Sb := Sa.same wo
            have Rb := Same.tq wo Ra
            have fb := wo _ _ hFa
            have ob : (upd Ha ot (.tup [kV (.inl e.1), .ref f])) ot = some (.tup [.int e.1, .ref f]) := upd_same
            generalize (upd Ha ot (.tup [kV (.inl e.1), .ref f]) : Hp) = Hb at Fb Sb Rb fb ob ⊢
            have hcf : ColsOk cs fl.length := ⟨hcl, fun c hc => ⟨(hcb c hc).1, by rw [hfl]; exact (hcb c hc).2⟩⟩
            obtain ⟨pe, ge1, ge2⟩ := dg Fb.g0 Sb e hem
            refine ⟨_, rfl, _, rfl, _, rfl, _, rfl, sk, _, rfl, ge1, by show 2 ≤ sizeLine; omega, fun T1 hT1 => ?_⟩
            have w1 := Same.new (o := .tup [.int e.1, .ref pe]) hT1
            refine ⟨_, rfl, ru, T1, pe, ot, f, cs, e.2, fl, e.1, e.1, rfl, Same.tq w1 Rb, SqT.of upd_same, Same.tq w1 ge2, SqT.of (w1 _ _ ob), SqT.of (w1 _ _ fb), hco e hem, hcf, fun Hc sc => ?_⟩
            have wc := w1.trans sc
            obtain ⟨pe', ge1', ge2'⟩ := dg (wc _ _ Fb.g0) (Sb.same wc) e hem
            refine ⟨_, rfl, _, rfl, _, rfl, _, rfl, sk, _, rfl, ge1', by show 2 ≤ sizeLine; omega, fun T2 hT2 => ?_⟩
            have w2 := Same.new (o := .tup [.int e.1, .ref pe']) hT2
            have wc2 := wc.trans w2
            refine ⟨_, rfl, ru, T2, pe', ot, f, cs, e.2, fl, e.1, e.1, rfl, Same.tq wc2 Rb, SqT.of upd_same, Same.tq w2 ge2', SqT.of (wc2 _ _ ob), SqT.of (wc2 _ _ fb), hco e hem, hcf, fun Hg sg => ?_⟩
            have wf := wc2.trans sg
            refine ⟨rfl, _, rfl, iteNS rfl ?_⟩
            exact ⟨⟨_, _, _, _, _, _, rfl⟩, Fb.same wf, Sb.same wf, Same.tq wf Rb⟩
          · rintro σ H9 ⟨⟨v8, v9, v10, v11, v12, v13, rfl⟩, F9, S9, R9⟩
            refine ⟨F9.g0, ?_⟩
            have Fz := F9.repl (o' := .dK kvs) hskd (fun p hp => by cases hp) nkd
            have Sz := stk_but (But.upd (d := sk) (o := .dK kvs)) F9.g0 nf1 nf2 S9
            have Rz := sqt_but (But.upd (d := sk) (o := .dK kvs)) F9.g0 nf1 nf2 R9
            generalize (upd H9 sk (.dK kvs) : Hp) = Hz at Fz Sz Rz ⊢
            -- the order, twice
            have oM : ∀ z ∈ orderI cs st, z.natAbs < 2 ^ 300 := fun z hz => by
              unfold orderI at hz
              obtain ⟨r, hr, rfl⟩ := List.mem_map.mp hz
              obtain ⟨e, he, rfl⟩ := List.mem_map.mp (List.mem_mergeSort.mp hr)
              have : lastI (keyI cs e) = e.1 := by unfold lastI keyI; simp
              rw [this]
              have := (e2 e he).1
              exact small_abs (by omega) (by omega)
            have oL : (orderI cs st).length ≤ 9 := by unfold orderI; rw [List.length_map, List.length_mergeSort, List.length_map]; exact hsl
            have oK : okD (.list ((orderI cs st).map .int)) = true := by rw [okD]; exact okI _ oM
            have oD : (PyData.list ((orderI cs st).map .int)).depth ≤ 40 := by
              have := depthAll_ints (orderI cs st)
              rw [PyData.depth]; omega
            have oZ : szD (.list ((orderI cs st).map .int)) ≤ 1000000 := by rw [szD, szI]; omega
            refine ⟨2, rfl, by decide, by decide, ?_⟩
            refine for_range (lo := 0) (n := 2) (fun i σ H' => (∃ v8 v9 v10 v11 v12 v13 : Option V, σ = [some (.ref a), some (.int (0 + (start : Int))), some (.ref d), some (.int (wd : Int)), some (.ref sk), some (.str (textD (DD st))), some (.int (0 + (tu : Int))), some (.ref ru), v8, v9, v10, v11, v12, v13]) ∧ Fs d Hd [(sk, .dK kvs)] H' ∧ StockK K H' kvs st ∧ SqT K H' ru (cs.map V.int))
              ⟨⟨_, _, _, _, _, _, rfl⟩, Fz, Sz, Rz⟩ ?_ ?_
            · rintro ag σ Ha hag ⟨⟨v8, v9, v10, v11, v12, v13, rfl⟩, Fa, Sa, Ra⟩
              refine ⟨_, rfl, _, rfl, ru, sk, cs, kvs, st, rfl, Ra, Fa.g0, Sa, hco, by omega, fun p Hb sb hpn hPb => ?_⟩
              obtain ⟨b0, b1, b2'⟩ := Fa.apart hpn
              have hCon : (.list ((orderI cs st).map .int) : PyData) = .list ((orderI cs st).map .int) := rfl
              refine ⟨_, rfl, .ref p, _, rfl, dvLi hPb, oK, oD, oZ, _, rfl, _, rfl, ru, sk, cs, kvs, st, rfl, Same.tq sb Ra, sb _ _ Fa.g0, Sa.same sb, hnd, hco, by omega, fun p2 Hc sc hp2 hPc => ?_⟩
              have sbc := sb.trans sc
              refine ⟨.ref p2, _, rfl, dvLi hPc, oK, oD, oZ, rfl, _, rfl, iteNS rfl ?_⟩
              have Sc := Sa.same sbc
              refine ⟨_, rfl, sk, kvs, DD st, rfl, sbc _ _ Fa.g0, (rp Sc).1, (rp Sc).2, o1, o2, o3, by omega, by omega, _, rfl, rfl, _, rfl, iteNS rfl ?_⟩
              have hPp := sc _ _ hPb
              refine ⟨_, rfl, .inl ⟨rfl, _, SqL.of hPp⟩, p, _, _, rfl, rfl, hPp, by rw [List.length_map]; omega, ⟨_, _, _, _, _, _, rfl⟩, (Fa.same sbc).put b0 b1 b2', ?_, ?_⟩
              · exact stk_but But.upd hPp (fun ys z => by cases z) (fun o ys z => by cases z) Sc
              · exact sqt_but But.upd hPp (fun ys z => by cases z) (fun o ys z => by cases z) (Same.tq sbc Ra)
            · rintro σ Ha ⟨⟨v8, v9, v10, v11, v12, v13, rfl⟩, Fa, Sa, Ra⟩
              exact ⟨⟨_, _, _, _, _, _, _, _, rfl⟩, Fa, Sa⟩
      · rintro σ H6 ⟨⟨v6, v7, v8, v9, v10, v11, v12, v13, rfl⟩, F6, S6⟩
        exact ⟨⟨_, _, _, _, _, _, _, _, _, _, _, _, _, rfl⟩, F6.old hHd sd0⟩
    · rintro σ H1 ⟨⟨v1, v2, v3, v4, v5, v6, v7, v8, v9, v10, v11, v12, v13, rfl⟩, s1⟩
      exact k H1
end
/-! ### what the top has written, the head -/
theorem all_mk {l : PySem.W.OpenLaw} {w : World} {K : PySem.W.Frag} {h : Heap} {mg : Str → Option Value} {fa : Addr} (X : K.In h) (G : h.Ns mainGlobals mg) (hfa : mg "law" = some (.ref fa))
    {f1 : Addr} {od1 an1 : Option Addr} {sl1 : Array (Option Value)} {oc1 kV1 dc1 pm1 cd1 ct1 : Value}
    {f2 : Addr} {od2 an2 : Option Addr} {sl2 : Array (Option Value)} {oc2 kV2 dc2 pm2 cd2 ct2 : Value}
    {f3 : Addr} {od3 an3 : Option Addr} {sl3 : Array (Option Value)} {oc3 kV3 dc3 pm3 cd3 ct3 : Value}
    {f4 : Addr} {od4 an4 : Option Addr} {sl4 : Array (Option Value)} {oc4 kV4 dc4 pm4 cd4 ct4 : Value}
    {f5 : Addr} {od5 an5 : Option Addr} {sl5 : Array (Option Value)} {oc5 kV5 dc5 pm5 cd5 ct5 : Value}
    {f6 : Addr} {od6 an6 : Option Addr} {sl6 : Array (Option Value)} {oc6 kV6 dc6 pm6 cd6 ct6 : Value}
    {f7 : Addr} {od7 an7 : Option Addr} {sl7 : Array (Option Value)} {oc7 kV7 dc7 pm7 cd7 ct7 : Value}
    {f8 : Addr} {od8 an8 : Option Addr} {sl8 : Array (Option Value)} {oc8 kV8 dc8 pm8 cd8 ct8 : Value}
    {f9 : Addr} {od9 an9 : Option Addr} {sl9 : Array (Option Value)} {oc9 kV9 dc9 pm9 cd9 ct9 : Value}
    {f10 : Addr} {od10 an10 : Option Addr} {sl10 : Array (Option Value)} {oc10 kV10 dc10 pm10 cd10 ct10 : Value}
    {f11 : Addr} {od11 an11 : Option Addr} {sl11 : Array (Option Value)} {oc11 kV11 dc11 pm11 cd11 ct11 : Value}
    {f12 : Addr} {od12 an12 : Option Addr} {sl12 : Array (Option Value)} {oc12 kV12 dc12 pm12 cd12 ct12 : Value}
    {f13 : Addr} {od13 an13 : Option Addr} {sl13 : Array (Option Value)} {oc13 kV13 dc13 pm13 cd13 ct13 : Value}
    (a1 : PySem.W.nsIn K mainGlobals "sort_key" = some (some (.ref f1))) (l1 : K.lookup f1 = some ⟨oc1, od1, .func (PySem.W.fnOf "sort_key" "sort_key" (defArgs sKey) (defBody sKey) (defScope sKey) .none kV1 dc1 pm1 an1 cd1 ct1), sl1⟩) (c1 : PySem.W.codeIn K cd1 "sort_key" = true) (k1 : PySem.W.keepIn K (.ref f1) = true)
    (a2 : PySem.W.nsIn K mainGlobals "compare_items" = some (some (.ref f2))) (l2 : K.lookup f2 = some ⟨oc2, od2, .func (PySem.W.fnOf "compare_items" "compare_items" (defArgs sCompare) (defBody sCompare) (defScope sCompare) .none kV2 dc2 pm2 an2 cd2 ct2), sl2⟩) (c2 : PySem.W.codeIn K cd2 "compare_items" = true) (k2 : PySem.W.keepIn K (.ref f2) = true)
    (a3 : PySem.W.nsIn K mainGlobals "rule_order" = some (some (.ref f3))) (l3 : K.lookup f3 = some ⟨oc3, od3, .func (PySem.W.fnOf "rule_order" "rule_order" (defArgs sRuleOrder) (defBody sRuleOrder) (defScope sRuleOrder) .none kV3 dc3 pm3 an3 cd3 ct3), sl3⟩) (c3 : PySem.W.codeIn K cd3 "rule_order" = true) (k3 : PySem.W.keepIn K (.ref f3) = true)
    (a4 : PySem.W.nsIn K mainGlobals "_law_deck" = some (some (.ref f4))) (l4 : K.lookup f4 = some ⟨oc4, od4, .func (PySem.W.fnOf "_law_deck" "_law_deck" (defArgs sDeck) (defBody sDeck) (defScope sDeck) .none kV4 dc4 pm4 an4 cd4 ct4), sl4⟩) (c4 : PySem.W.codeIn K cd4 "_law_deck" = true) (k4 : PySem.W.keepIn K (.ref f4) = true)
    (a5 : PySem.W.nsIn K mainGlobals "_law_draw" = some (some (.ref f5))) (l5 : K.lookup f5 = some ⟨oc5, od5, .func (PySem.W.fnOf "_law_draw" "_law_draw" (defArgs sDraw) (defBody sDraw) (defScope sDraw) .none kV5 dc5 pm5 an5 cd5 ct5), sl5⟩) (c5 : PySem.W.codeIn K cd5 "_law_draw" = true) (k5 : PySem.W.keepIn K (.ref f5) = true)
    (a6 : PySem.W.nsIn K mainGlobals "_law_choose" = some (some (.ref f6))) (l6 : K.lookup f6 = some ⟨oc6, od6, .func (PySem.W.fnOf "_law_choose" "_law_choose" (defArgs sChoose) (defBody sChoose) (defScope sChoose) .none kV6 dc6 pm6 an6 cd6 ct6), sl6⟩) (c6 : PySem.W.codeIn K cd6 "_law_choose" = true) (k6 : PySem.W.keepIn K (.ref f6) = true)
    (a7 : PySem.W.nsIn K mainGlobals "_law_shuffled" = some (some (.ref f7))) (l7 : K.lookup f7 = some ⟨oc7, od7, .func (PySem.W.fnOf "_law_shuffled" "_law_shuffled" (defArgs sShuf) (defBody sShuf) (defScope sShuf) .none kV7 dc7 pm7 an7 cd7 ct7), sl7⟩) (c7 : PySem.W.codeIn K cd7 "_law_shuffled" = true) (k7 : PySem.W.keepIn K (.ref f7) = true)
    (a8 : PySem.W.nsIn K mainGlobals "_law_fields" = some (some (.ref f8))) (l8 : K.lookup f8 = some ⟨oc8, od8, .func (PySem.W.fnOf "_law_fields" "_law_fields" (defArgs sFields) (defBody sFields) (defScope sFields) .none kV8 dc8 pm8 an8 cd8 ct8), sl8⟩) (c8 : PySem.W.codeIn K cd8 "_law_fields" = true) (k8 : PySem.W.keepIn K (.ref f8) = true)
    (a9 : PySem.W.nsIn K mainGlobals "_law_ids" = some (some (.ref f9))) (l9 : K.lookup f9 = some ⟨oc9, od9, .func (PySem.W.fnOf "_law_ids" "_law_ids" (defArgs sIds) (defBody sIds) (defScope sIds) .none kV9 dc9 pm9 an9 cd9 ct9), sl9⟩) (c9 : PySem.W.codeIn K cd9 "_law_ids" = true) (k9 : PySem.W.keepIn K (.ref f9) = true)
    (a10 : PySem.W.nsIn K mainGlobals "_law_rule" = some (some (.ref f10))) (l10 : K.lookup f10 = some ⟨oc10, od10, .func (PySem.W.fnOf "_law_rule" "_law_rule" (defArgs sRule) (defBody sRule) (defScope sRule) .none kV10 dc10 pm10 an10 cd10 ct10), sl10⟩) (c10 : PySem.W.codeIn K cd10 "_law_rule" = true) (k10 : PySem.W.keepIn K (.ref f10) = true)
    (a11 : PySem.W.nsIn K mainGlobals "_law_sign" = some (some (.ref f11))) (l11 : K.lookup f11 = some ⟨oc11, od11, .func (PySem.W.fnOf "_law_sign" "_law_sign" (defArgs sSign) (defBody sSign) (defScope sSign) .none kV11 dc11 pm11 an11 cd11 ct11), sl11⟩) (c11 : PySem.W.codeIn K cd11 "_law_sign" = true) (k11 : PySem.W.keepIn K (.ref f11) = true)
    (a12 : PySem.W.nsIn K mainGlobals "_law_sorted" = some (some (.ref f12))) (l12 : K.lookup f12 = some ⟨oc12, od12, .func (PySem.W.fnOf "_law_sorted" "_law_sorted" (defArgs sSorted) (defBody sSorted) (defScope sSorted) .none kV12 dc12 pm12 an12 cd12 ct12), sl12⟩) (c12 : PySem.W.codeIn K cd12 "_law_sorted" = true) (k12 : PySem.W.keepIn K (.ref f12) = true)
    (a13 : PySem.W.nsIn K mainGlobals "law" = some (some (.ref f13))) (l13 : K.lookup f13 = some ⟨oc13, od13, .func (PySem.W.fnOf "law" "law" (defArgs sLaw) (defBody sLaw) (defScope sLaw) .none kV13 dc13 pm13 an13 cd13 ct13), sl13⟩) (c13 : PySem.W.codeIn K cd13 "law" = true) (k13 : PySem.W.keepIn K (.ref f13) = true)
    (z0 : PySem.W.nsIn K mainGlobals "len" = some none)
    (z1 : PySem.W.nsIn K mainGlobals "isinstance" = some none)
    (z2 : PySem.W.nsIn K mainGlobals "bool" = some none)
    (z3 : PySem.W.nsIn K mainGlobals "tuple" = some none)
    (z4 : PySem.W.nsIn K mainGlobals "list" = some none)
    (z5 : PySem.W.nsIn K mainGlobals "range" = some none)
    (z6 : PySem.W.nsIn K mainGlobals "max" = some none)
    (z7 : PySem.W.nsIn K mainGlobals "min" = some none)
    (z8 : PySem.W.nsIn K mainGlobals "repr" = some none)
    (z9 : PySem.W.nsIn K mainGlobals "abs" = some none)
    (z10 : PySem.W.nsIn K mainGlobals "sorted" = some none)
    (z11 : PySem.W.nsIn K mainGlobals "dict" = some none)
    : ∃ fd : FuncData, (∀ (s : Shared) (v : Value), BindsTo s fd ⟨[v], []⟩ [("script", v)]) ∧ ∀ base : Heap, K.In base → base.Ns mainGlobals mg → FnG l.prog w K mg base 4 fa fd ["script"] (spLaw K) := by
  have e := hfa.symm.trans (PySem.W.mg_of X G a13)
  cases e
  have n_len := PySem.W.mg_none_of X G z0
  have n_isinstance := PySem.W.mg_none_of X G z1
  have n_bool := PySem.W.mg_none_of X G z2
  have n_tuple := PySem.W.mg_none_of X G z3
  have n_list := PySem.W.mg_none_of X G z4
  have n_range := PySem.W.mg_none_of X G z5
  have n_max := PySem.W.mg_none_of X G z6
  have n_min := PySem.W.mg_none_of X G z7
  have n_repr := PySem.W.mg_none_of X G z8
  have n_abs := PySem.W.mg_none_of X G z9
  have n_sorted := PySem.W.mg_none_of X G z10
  have n_dict := PySem.W.mg_none_of X G z11
  have F1 := fun_mk (st := sKey) l1 c1 k1
  have b1 := F1.binds (ps := ["rule", "item"]) fun _ _ _ _ _ _ us hl => match us, hl with | [_, _], _ => rfl
  have Ky : Fn K mg "sort_key" sKey ["rule", "item"] f1 _ := ⟨F1, b1, PySem.W.mg_of X G a1⟩
  have F2 := fun_mk (st := sCompare) l2 c2 k2
  have b2 := F2.binds (ps := ["rule", "first", "second"]) fun _ _ _ _ _ _ us hl => match us, hl with | [_, _, _], _ => rfl
  have Cm : Fn K mg "compare_items" sCompare ["rule", "first", "second"] f2 _ := ⟨F2, b2, PySem.W.mg_of X G a2⟩
  have F3 := fun_mk (st := sRuleOrder) l3 c3 k3
  have b3 := F3.binds (ps := ["rule", "items"]) fun _ _ _ _ _ _ us hl => match us, hl with | [_, _], _ => rfl
  have Ro : Fn K mg "rule_order" sRuleOrder ["rule", "items"] f3 _ := ⟨F3, b3, PySem.W.mg_of X G a3⟩
  have F4 := fun_mk (st := sDeck) l4 c4 k4
  have b4 := F4.binds (ps := ["script", "start"]) fun _ _ _ _ _ _ us hl => match us, hl with | [_, _], _ => rfl
  have De : Fn K mg "_law_deck" sDeck ["script", "start"] f4 _ := ⟨F4, b4, PySem.W.mg_of X G a4⟩
  have F5 := fun_mk (st := sDraw) l5 c5 k5
  have b5 := F5.binds (ps := ["deck", "size"]) fun _ _ _ _ _ _ us hl => match us, hl with | [_, _], _ => rfl
  have Dr : Fn K mg "_law_draw" sDraw ["deck", "size"] f5 _ := ⟨F5, b5, PySem.W.mg_of X G a5⟩
  have F6 := fun_mk (st := sChoose) l6 c6 k6
  have b6 := F6.binds (ps := ["deck", "things"]) fun _ _ _ _ _ _ us hl => match us, hl with | [_, _], _ => rfl
  have Ch : Fn K mg "_law_choose" sChoose ["deck", "things"] f6 _ := ⟨F6, b6, PySem.W.mg_of X G a6⟩
  have F7 := fun_mk (st := sShuf) l7 c7 k7
  have b7 := F7.binds (ps := ["deck", "things"]) fun _ _ _ _ _ _ us hl => match us, hl with | [_, _], _ => rfl
  have Sh : Fn K mg "_law_shuffled" sShuf ["deck", "things"] f7 _ := ⟨F7, b7, PySem.W.mg_of X G a7⟩
  have F8 := fun_mk (st := sFields) l8 c8 k8
  have b8 := F8.binds (ps := ["deck", "wide"]) fun _ _ _ _ _ _ us hl => match us, hl with | [_, _], _ => rfl
  have Fi : Fn K mg "_law_fields" sFields ["deck", "wide"] f8 _ := ⟨F8, b8, PySem.W.mg_of X G a8⟩
  have F9 := fun_mk (st := sIds) l9 c9 k9
  have b9 := F9.binds (ps := ["deck", "many"]) fun _ _ _ _ _ _ us hl => match us, hl with | [_, _], _ => rfl
  have Id : Fn K mg "_law_ids" sIds ["deck", "many"] f9 _ := ⟨F9, b9, PySem.W.mg_of X G a9⟩
  have F10 := fun_mk (st := sRule) l10 c10 k10
  have b10 := F10.binds (ps := ["deck", "wide"]) fun _ _ _ _ _ _ us hl => match us, hl with | [_, _], _ => rfl
  have Ru : Fn K mg "_law_rule" sRule ["deck", "wide"] f10 _ := ⟨F10, b10, PySem.W.mg_of X G a10⟩
  have F11 := fun_mk (st := sSign) l11 c11 k11
  have b11 := F11.binds (ps := ["rule", "left", "right"]) fun _ _ _ _ _ _ us hl => match us, hl with | [_, _, _], _ => rfl
  have Sg : Fn K mg "_law_sign" sSign ["rule", "left", "right"] f11 _ := ⟨F11, b11, PySem.W.mg_of X G a11⟩
  have F12 := fun_mk (st := sSorted) l12 c12 k12
  have b12 := F12.binds (ps := ["rule", "stock"]) fun _ _ _ _ _ _ us hl => match us, hl with | [_, _], _ => rfl
  have So : Fn K mg "_law_sorted" sSorted ["rule", "stock"] f12 _ := ⟨F12, b12, PySem.W.mg_of X G a12⟩
  exact ⟨PySem.W.fnOf "law" "law" (defArgs sLaw) (defBody sLaw) (defScope sLaw) .none kV13 dc13 pm13 an13 cd13 ct13, fun s v => .of_eq rfl, fun base _ _ =>
    (have TF : TxtF mg := ⟨n_range, n_tuple, n_list, n_len⟩
    have GKy := ok_key (P := l.prog) (w := w) (mg := mg) (base := base) Ky.F
    have GCm := ok_cmp Cm.F GKy Ky.F.kp Ky.b Ky.m
    have GRo := ok_ruleO Ro.F n_sorted GKy Ky.F.kp Ky.b Ky.m
    have GDr := ok_draw (P := l.prog) (w := w) (K := K) (mg := mg) (base := base) Dr.F
    have GC := ok_choose (P := l.prog) (w := w) (base := base) Ch.F ⟨n_len⟩ Dr.F Dr.b Dr.m
    have GSh := ok_shuf (P := l.prog) (w := w) (base := base) Sh.F ⟨n_len, n_list⟩ Dr.F Dr.b Dr.m
    have GF := ok_fields Fi.F TF GC Ch.F.kp Ch.b Ch.m
    have GRu := ok_rule Ru.F TF GC Ch.F.kp Ch.b Ch.m GDr Dr.F.kp Dr.b Dr.m GSh Sh.F.kp Sh.b Sh.m
    have GI := ok_ids (P := l.prog) (w := w) (base := base) Id.F ⟨n_len⟩ Dr.F Dr.b Dr.m Ch.F Ch.b Ch.m
    have GSg := ok_sign (P := l.prog) (w := w) (base := base) Sg.F n_abs
    have GSo := ok_sorted So.F n_len GSg Sg.F.kp Sg.b Sg.m
    ok_law (fun_mk (st := sLaw) l13 c13 k13) ⟨n_len⟩ ⟨n_range, n_max, n_min, n_repr, n_dict, n_isinstance, n_bool⟩ De Dr Id GI Fi GF Ru GRu Cm GCm Ro GRo Sg GSg So GSo)⟩
end Hk
open PySem PySem.W PyProof.Rows in
set_option maxRecDepth 100000 in
set_option maxHeartbeats 0 in
theorem PySem.Challenge.cw_handsorted_k02_order_by_rules_holds : PySem.Challenge.rw_handsorted_k02_order_by_rules.Holds := by
  w_on; o_law; k_head; (case hw => w_witness2)
  k_fill
  refine Hk.walkG (l := PySem.Challenge.rw_handsorted_k02_order_by_rules) (n := 63) (k := 4) (x := "script") (sp := Hk.spLaw) rfl (by decide) rfl ⟨rfl, by decide, by decide⟩ (fun w h Y => PySem.W.kIn_of Y) ?F (fun _ _ a ns hl hb hS => ⟨a, ns, rfl, hS, hl, hb, fun _ => rfl⟩)
  case F =>
    intro w mg fa h KX G hmg
    refine' Hk.all_mk KX G hmg ?a1 ?l1 ?c1 ?k1 ?a2 ?l2 ?c2 ?k2 ?a3 ?l3 ?c3 ?k3 ?a4 ?l4 ?c4 ?k4 ?a5 ?l5 ?c5 ?k5 ?a6 ?l6 ?c6 ?k6 ?a7 ?l7 ?c7 ?k7 ?a8 ?l8 ?c8 ?k8 ?a9 ?l9 ?c9 ?k9 ?a10 ?l10 ?c10 ?k10 ?a11 ?l11 ?c11 ?k11 ?a12 ?l12 ?c12 ?k12 ?a13 ?l13 ?c13 ?k13 ?z0 ?z1 ?z2 ?z3 ?z4 ?z5 ?z6 ?z7 ?z8 ?z9 ?z10 ?z11
    (case a1 => k_is)
    (case l1 => k_is)
    (case c1 => k_is)
    (case k1 => k_is)
    (case a2 => k_is)
    (case l2 => k_is)
    (case c2 => k_is)
    (case k2 => k_is)
    (case a3 => k_is)
    (case l3 => k_is)
    (case c3 => k_is)
    (case k3 => k_is)
    (case a4 => k_is)
    (case l4 => k_is)
    (case c4 => k_is)
    (case k4 => k_is)
    (case a5 => k_is)
    (case l5 => k_is)
    (case c5 => k_is)
    (case k5 => k_is)
    (case a6 => k_is)
    (case l6 => k_is)
    (case c6 => k_is)
    (case k6 => k_is)
    (case a7 => k_is)
    (case l7 => k_is)
    (case c7 => k_is)
    (case k7 => k_is)
    (case a8 => k_is)
    (case l8 => k_is)
    (case c8 => k_is)
    (case k8 => k_is)
    (case a9 => k_is)
    (case l9 => k_is)
    (case c9 => k_is)
    (case k9 => k_is)
    (case a10 => k_is)
    (case l10 => k_is)
    (case c10 => k_is)
    (case k10 => k_is)
    (case a11 => k_is)
    (case l11 => k_is)
    (case c11 => k_is)
    (case k11 => k_is)
    (case a12 => k_is)
    (case l12 => k_is)
    (case c12 => k_is)
    (case k12 => k_is)
    (case a13 => k_is)
    (case l13 => k_is)
    (case c13 => k_is)
    (case k13 => k_is)
    (case z0 => k_is)
    (case z1 => k_is)
    (case z2 => k_is)
    (case z3 => k_is)
    (case z4 => k_is)
    (case z5 => k_is)
    (case z6 => k_is)
    (case z7 => k_is)
    (case z8 => k_is)
    (case z9 => k_is)
    (case z10 => k_is)
    (case z11 => k_is)

