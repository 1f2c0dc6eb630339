import PyProof.Rows.All
import Wide.All
import OpenK.AllK
import Wide.FinOn
import HandS.ForMost
import HandS.EndBits
import HandS.Set
import HandS.SetFor
import HandS.SetKeys
import HandS.IsInst
import PyProof.ReprRoads
import PyProof.EqAt
import PyProof.EqKinds
import PyProof.TupleCall
import HandS.Walk
import HandS.Style
import KE.KSortedM
import KE.SortData
import KE.DataCmp
import KE.KDictZip
import KE.KTurns
import PySem.Challenge.RW_handsorted_k18_pins_laid
set_option Elab.async false
set_option linter.all false
set_option maxRecDepth 100000
set_option maxHeartbeats 8000000
namespace Hk
open PySem L2 PySem.Spec PyProof.Rows
def top (i : Nat) : Stmt := PySem.Challenge.pw_handsorted_k18_pins_laid.main.body.getD i (.Pass ⟨0, 0, 0, 0⟩)
abbrev sLay : Stmt := top 1
abbrev sSpread : Stmt := top 2
abbrev sDeck : Stmt := top 4
abbrev sDraw : Stmt := top 5
abbrev sChoose : Stmt := top 6
abbrev sShuf : Stmt := top 7
abbrev sIds : Stmt := top 8
abbrev sPins : Stmt := top 9
abbrev sPath : Stmt := top 10
abbrev sLaid : Stmt := top 11
abbrev sLaw : Stmt := top 12
/-! ### numbers of any size -/
def CPowG (i j : Int) : Prop := 0 ≤ j ∧ (Builtin.Int.intBits i : Int) * j ≤ 2 ^ 27
section
variable {X : Cx}
theorem op_mulG : OpR X (binaryOp .Mult) (rI IntMulOk fun i j => .int (i * j)) := opI fun _ _ _ _ _ _ _ hc q => mul_int q hc
theorem op_powG : OpR X (binaryOp .Pow) (rI CPowG fun i j => .int (i ^ j.toNat)) := opI fun _ _ _ _ _ _ _ hc q => pow_int hc.1 hc.2 q
end
theorem mulOk_bits {i j : Int} {a b : Nat} (ha : Builtin.Int.intBits i ≤ a) (hb : Builtin.Int.intBits j ≤ b) (h : a + b ≤ 100000000) : IntMulOk i j := by
  have e : bitsLine = 134217728 := by decide
  unfold IntMulOk
  intro z
  rw [Bool.and_eq_true] at z
  have z2 := z.2
  unfold Builtin.Int.intTooBig at z2
  have z3 := of_decide_eq_true z2
  rw [e] at z3
  omega
theorem bits_le {i : Int} {n : Nat} (h : i.natAbs < 2 ^ n) : Builtin.Int.intBits i ≤ n := intBits_le h
/-- the turn of the deck's loop -/
theorem turn_bits {m e : Int} {k : Nat} (h0 : 0 ≤ m) (h1 : m < 2147483600) (he : Builtin.Int.intBits e ≤ k) (hk : 30 ≤ k) :
    Builtin.Int.intBits (m * 20011 + e * e + 13) ≤ 2 * k + 1 := by
  refine bits_le ?_
  have a1 : e.natAbs < 2 ^ k := Nat.lt_of_lt_of_le (natAbs_lt_pow_bits e) (Nat.pow_le_pow_right (by omega) he)
  have a2 : (e * e).natAbs < 2 ^ (2 * k) := by
    rw [Int.natAbs_mul, Nat.two_mul, Nat.pow_add]
    exact Nat.mul_lt_mul'' a1 a1
  have a3 : (m * 20011 + 13).natAbs < 2 ^ 60 := by
    have : (2 : Nat) ^ 60 = 1152921504606846976 := by decide
    omega
  have a4 : (2 : Nat) ^ 60 ≤ 2 ^ (2 * k) := Nat.pow_le_pow_right (by omega) (by omega)
  have a5 : (2 : Nat) ^ (2 * k + 1) = 2 ^ (2 * k) + 2 ^ (2 * k) := by rw [Nat.pow_succ, Nat.mul_two]
  rw [a5]
  generalize (2 : Nat) ^ (2 * k) = B at *
  generalize e * e = q at *
  omega
/-! ### the deck -/
def dk (x y : Int) : List (Key × V) := [(.inr "digits", .int x), (.inr "mixed", .int y)]
def DeckAt (H : Hp) (d : Addr) : Prop := ∃ x y : Int, H d = some (.dK (dk x y)) ∧ 0 ≤ x ∧ 0 ≤ y ∧ y < 2147483600
/-- all that was tracked is as it was, but what stands at d -/
def But (d : Addr) (H H' : Hp) : Prop := ∀ b o, b ≠ d → H b = some o → H' b = some o
theorem But.refl (d : Addr) (H : Hp) : But d H H := fun _ _ _ h => h
theorem But.trans {d : Addr} {H H1 H2 : Hp} (a : But d H H1) (b : But d H1 H2) : But d H H2 := fun c o n h => b c o n (a c o n h)
theorem But.of {d : Addr} {H H' : Hp} (a : Same H H') : But d H H' := fun c o _ h => a c o h
theorem But.upd {d : Addr} {H : Hp} {o : HO} : But d H (upd H d o) := fun b u n h => by rw [upd_ne n]; exact h
theorem But.new {d p : Addr} {H : Hp} {o : HO} (h : H p = none) : But d H (L2.upd H p o) := fun b u n e => by rw [upd_ne (ne_of_none e h)]; exact e
theorem Same.new {p : Addr} {H : Hp} {o : HO} (h : H p = none) : Same H (L2.upd H p o) := fun b u e => by rw [upd_ne (ne_of_none e h)]; exact e
theorem DeckAt.same {H H' : Hp} {d : Addr} (D : DeckAt H d) (s : Same H H') : DeckAt H' d := let ⟨x, y, h, r⟩ := D; ⟨x, y, s _ _ h, r⟩
theorem dm_ : ¬ (("digits" : Str) = "mixed") := by decide +kernel
theorem md_ : ¬ (("mixed" : Str) = "digits") := by decide +kernel
theorem dk_digits (x y : Int) : valV (dk x y) (Sum.inr "digits" : Key) = some (.int x) := by
  unfold valV dk
  rw [List.find?_cons_of_pos]
  · rfl
  · exact decide_eq_true rfl
theorem dk_mixed (x y : Int) : valV (dk x y) (Sum.inr "mixed" : Key) = some (.int y) := by
  unfold valV dk
  rw [List.find?_cons_of_neg, List.find?_cons_of_pos]
  · rfl
  · exact decide_eq_true rfl
  · intro q
    exact dm_ (Sum.inr.inj (of_decide_eq_true q))
theorem dk_put_digits (x y z : Int) : putK (dk x y) (Sum.inr "digits" : Key) (.int z) = dk z y := by
  unfold putK dk
  have n : ¬ (Sum.inr "mixed" : Key) = (Sum.inr "digits" : Key) := fun q => md_ (Sum.inr.inj q)
  simp only [List.any_cons, decide_true, Bool.true_or, if_true, List.map_cons, List.map_nil, if_neg n]
theorem dk_put_mixed (x y z : Int) : putK (dk x y) (Sum.inr "mixed" : Key) (.int z) = dk x z := by
  unfold putK dk
  have n : ¬ (Sum.inr "digits" : Key) = (Sum.inr "mixed" : Key) := fun q => dm_ (Sum.inr.inj q)
  simp only [List.any_cons, decide_true, Bool.true_or, Bool.or_true, if_true, List.map_cons, List.map_nil, if_neg n]
theorem dk_merge (x y : Int) : mergeK [] [((Sum.inr "digits" : Key), V.int x), ((Sum.inr "mixed" : Key), V.int y)] = dk x y := by
  unfold mergeK putK dk
  have n : ¬ (Sum.inr "digits" : Key) = (Sum.inr "mixed" : Key) := fun q => dm_ (Sum.inr.inj q)
  simp only [List.foldl_cons, List.foldl_nil, List.any_nil, List.nil_append, List.any_cons, decide_eq_false n, Bool.or_self]
  rfl
/-- the turn of the deck's loop -/
theorem turn_bitsT {m e : Int} {k : Nat} (h0 : 0 ≤ m) (h1 : m < 2147483600) (he : Builtin.Int.intBits e ≤ k) (hk : 30 ≤ k) :
    Builtin.Int.intBits (m * 30011 + e * e + 7) ≤ 2 * k + 1 := by
  refine bits_le ?_
  have a1 : e.natAbs < 2 ^ k := Nat.lt_of_lt_of_le (natAbs_lt_pow_bits e) (Nat.pow_le_pow_right (by omega) he)
  have a2 : (e * e).natAbs < 2 ^ (2 * k) := by
    rw [Int.natAbs_mul, Nat.two_mul, Nat.pow_add]
    exact Nat.mul_lt_mul'' a1 a1
  have a3 : (m * 30011 + 7).natAbs < 2 ^ 60 := by
    have : (2 : Nat) ^ 60 = 1152921504606846976 := by decide
    omega
  have a4 : (2 : Nat) ^ 60 ≤ 2 ^ (2 * k) := Nat.pow_le_pow_right (by omega) (by omega)
  have a5 : (2 : Nat) ^ (2 * k + 1) = 2 ^ (2 * k) + 2 ^ (2 * k) := by rw [Nat.pow_succ, Nat.mul_two]
  rw [a5]
  generalize (2 : Nat) ^ (2 * k) = B at *
  generalize e * e = q at *
  omega
structure TxtD (mg : Str → Option Value) : Prop where
  len : mg "len" = none
section
variable {P : Program} {w : World} {K : PySem.W.Frag} {mg : Str → Option Value} {base : Heap}
def spDeck (K : PySem.W.Frag) : Sp := fun vs H Q _ => ∃ (a : Addr) (ns : List Int) (st : Int), vs = [.ref a, .int st] ∧ SqL K H a (ns.map V.int) ∧ ns.length ≤ 63 ∧ (∀ z ∈ ns, Builtin.Int.intBits z ≤ 1048576) ∧ 0 ≤ st ∧ st ≤ 63 ∧
  ∀ (d : Addr) (H' : Hp), H d = none → Same H H' → DeckAt H' d → Q (.ref d) H'
theorem scDeck : FnScope ["script", "start", "mixed", "cell", "digits"] ["script", "start"] (defScope sDeck) := ⟨rfl, rfl, rfl, by decide +kernel, rfl, by decide +kernel, by decide +kernel⟩
theorem ok_deck {f : Addr} {fd : FuncData} (F : Fun K "_law_tape" "_law_tape" sDeck f fd) (T : TxtD mg) : FnOk P w K mg base CX0 1 f fd ["script", "start"] (spDeck K) := by
  refine F.ok scDeck (fun vs H Q E h => ?_) (fun cdv A outer s H vs Q E hr h => ?_)
  · obtain ⟨a, ns, st, rfl, _⟩ := h
    rfl
  · obtain ⟨a, ns, st, rfl, hS, hlen, hb, h0, h1, k⟩ := h
    have hu := hu_of hr
    refine ⟨_, pss_cons (ps_set (i := 2) scDeck.nd rfl (Or.inl rfl) (pe_op op_add pe_int (pe_op op_mul (pv 1) pe_int)))
      (pss_cons (ps_for PassesOwn.never rfl (pi_list (pv 0)) (pg_name (i := 3) scDeck.nd rfl (Or.inl rfl))
        (pss_one (ps_set (i := 2) scDeck.nd rfl (Or.inl rfl) (pe_op op_add (pe_op op_mod (pe_op op_powG (pe_op op_add (pe_op op_add (pe_op op_mul (pv 2) pe_int) (pe_op op_mulG (pv 3) (pv 3))) pe_int) pe_int) pe_int) pe_int))))
      (pss_cons (ps_set (i := 4) scDeck.nd rfl (Or.inl rfl) (pe_ifExp (PW.pt (pw_and (pt_cmpR op_lt (pv 1) (pe_callB call_len_seq (by rfl) T.len PySem.boot_len (pa_cons (pv 0) pa_nil)) (nomark _))
          (pw_and1 (pt_cmpR op_ge (pe_ix ix_list (pv 0) (pv 1) (fun _ _ => rfl)) (pe_op op_pow pe_int pe_int) (nomark _)))))
          (pe_op op_sub (pe_ix ix_list (pv 0) (pv 1) (fun _ _ => rfl)) (pe_op op_pow pe_int pe_int)) pe_int))
      (pss_one (ps_ret (pe_disp (pps_cons pe_str (pv 4) (pps_cons pe_str (pv 2) pps_nil)) (by rfl) (by rfl) (fun z => by cases z) (by decide)))))), ?_⟩
    refine ⟨_, rfl, _, _, rfl, rfl, .inr ⟨by decide, by decide⟩, _, _, rfl, rfl, ?_⟩
    refine ⟨_, rfl, a, rfl, ⟨_, hS⟩, for_list (K := K) (a := a) (xs := ns.map V.int) (fun i σ H' => ∃ (m : Int) (v : Option V), σ = [some (.ref a), some (.int st), some (.int m), v, none] ∧ H' = H ∧ 0 ≤ m ∧ m < 2147483600)
      ⟨_, none, rfl, rfl, by omega, by omega⟩ (fun i σ H' _ ⟨_, _, _, e, _⟩ => by rw [e]; exact hS) ?_ ?_⟩
    · rintro i y σ H' hi ⟨m, v, rfl, rfl, m0, m1⟩
      obtain ⟨e, he, rfl⟩ : ∃ e, e ∈ ns ∧ y = V.int e := by
        rw [List.getElem?_map] at hi
        cases q : ns[i]? with
        | none => rw [q] at hi; cases hi
        | some u => rw [q] at hi; exact ⟨u, List.mem_of_getElem? q, (Option.some.inj hi).symm⟩
      have hbits := hb e he
      have hT := turn_bitsT (k := 1048576) m0 m1 hbits (by decide)
      refine ⟨_, rfl, _, _, rfl, rfl, .inr ⟨by decide, by decide⟩, _, rfl, _, rfl, _, _, rfl, rfl, mulOk_bits hbits hbits (by decide), _, _, rfl, rfl, _, _, rfl, rfl, _, _, rfl, rfl, ⟨by decide, ?_⟩, _, _, rfl, rfl, (by show (0 : Int) < 2147483563; decide), _, _, rfl, rfl, ?_⟩
      · have z : (2 : Int) ^ 27 = 134217728 := by decide
        rw [z]
        generalize Builtin.Int.intBits (m * 30011 + e * e + 7) = B at hT ⊢
        omega
      · refine ⟨_, _, rfl, rfl, ?_, ?_⟩
        · have := Int.emod_nonneg ((m * 30011 + e * e + 7) ^ (2 : Int).toNat) (b := 2147483563) (by decide)
          generalize (m * 30011 + e * e + 7) ^ (2 : Int).toNat % 2147483563 = z at *
          omega
        · have := Int.emod_lt_of_pos ((m * 30011 + e * e + 7) ^ (2 : Int).toNat) (b := 2147483563) (by decide)
          generalize (m * 30011 + e * e + 7) ^ (2 : Int).toNat % 2147483563 = z at *
          omega
    · rintro σ H' ⟨m, v, rfl, rfl, m0, m1⟩
      have fin : ∀ (x : Int) (σ' : L2.St), 0 ≤ x → σ' = [some (.ref a), some (.int st), some (.int m), v, some (.int x)] →
          (tRet (tDisp [(tC (.str "digits"), tVar 4), (tC (.str "mixed"), tVar 2)])) { nx := fun _ H' => Q .non H', rt := Q } σ' H' := by
        rintro x σ' hx rfl
        intro p hp
        refine ⟨_, rfl, _, rfl, upd_same, [((Sum.inr "digits" : Key), V.int x), ((Sum.inr "mixed" : Key), V.int m)], rfl, (by show 2 ≤ 15; decide), ?_⟩
        rw [upd_upd, dk_merge]
        exact k p _ hp (Same.new hp) ⟨x, m, upd_same, hx, m0, m1⟩
      refine ⟨_, rfl, _, rfl, a, _, rfl, .inl hS, _, _, rfl, rfl, _, rfl, ?_⟩
      refine ite2 (fun hlt => ?_) (fun hlt => ?_)
      · have hlt' : st < (ns.map V.int).length := of_decide_eq_true hlt
        rw [List.length_map] at hlt'
        obtain ⟨n, rfl⟩ : ∃ n : Nat, st = (n : Int) := ⟨st.toNat, by omega⟩
        have hn : n < ns.length := by omega
        have hat : (ns.map V.int)[n]? = some (V.int ns[n]) := by rw [List.getElem?_map, List.getElem?_eq_getElem hn]; rfl
        refine ⟨_, rfl, _, rfl, a, _, _, _, rfl, rfl, hS, atI_nat hat, _, _, rfl, rfl, ⟨by decide, by decide, by decide⟩, _, _, rfl, rfl, _, rfl, ?_⟩
        refine ite2 (fun hge => ?_) (fun hge => ?_)
        · have hge' := of_decide_eq_true hge
          refine ⟨_, rfl, _, rfl, a, _, _, _, rfl, rfl, hS, atI_nat hat, _, _, rfl, rfl, ⟨by decide, by decide, by decide⟩, _, _, rfl, rfl, ?_⟩
          exact fin _ _ (by omega) rfl
        · exact fin 0 _ (Int.le_refl _) rfl
      · refine iteF ?_
        exact fin 0 _ (Int.le_refl _) rfl
end
theorem But.seq {d a : Addr} {H H' : Hp} {K : PySem.W.Frag} {xs : List V} (D : DeckAt H d) (s : But d H H') (h : SqL K H a xs) : SqL K H' a xs := by
  obtain ⟨x, y, hd, _⟩ := D
  rcases h with (h | ⟨o, h⟩) | h
  · exact .inl (.inl (s _ _ (ne_of h hd (by intro z; cases z)) h))
  · exact .inl (.inr ⟨o, s _ _ (ne_of h hd (by intro z; cases z)) h⟩)
  · exact .inr h
theorem But.lst {d a : Addr} {H H' : Hp} {xs : List V} (D : DeckAt H d) (s : But d H H') (h : H a = some (.lst xs)) : H' a = some (.lst xs) := by
  obtain ⟨x, y, hd, _⟩ := D
  exact s _ _ (ne_of h hd (by intro z; cases z)) h
theorem But.tup {d a : Addr} {H H' : Hp} {xs : List V} (D : DeckAt H d) (s : But d H H') (h : H a = some (.tup xs)) : H' a = some (.tup xs) := by
  obtain ⟨x, y, hd, _⟩ := D
  exact s _ _ (ne_of h hd (by intro z; cases z)) h
/-- new behind is new ahead -/
theorem But.free {d p : Addr} {H H' : Hp} (D : DeckAt H' d) (s : But d H H') (h : H' p = none) : H p = none := by
  obtain ⟨x, y, hd, _⟩ := D
  cases q : H p with
  | none => rfl
  | some o =>
    have := s _ _ (fun e => by rw [e, hd] at h; cases h) q
    rw [h] at this
    cases this
theorem pow6 : (10 : Int) ^ (6 : Int).toNat = 1000000 := by decide
section
variable {P : Program} {w : World} {K : PySem.W.Frag} {mg : Str → Option Value} {base : Heap}
/-! ### a draw -/
def spDraw : Sp := fun vs H Q _ => ∃ (d : Addr) (n : Int), vs = [.ref d, .int n] ∧ DeckAt H d ∧ 0 < n ∧ n < 1073741824 ∧ ∀ (r : Int) (H' : Hp), 0 ≤ r → r < n → DeckAt H' d → But d H H' → Q (.int r) H'
theorem scDraw : FnScope ["tape", "size", "found"] ["tape", "size"] (defScope sDraw) := ⟨rfl, rfl, rfl, by decide +kernel, rfl, by decide +kernel, by decide +kernel⟩
theorem ok_draw {f : Addr} {fd : FuncData} (F : Fun K "_law_pick" "_law_pick" sDraw f fd) : FnOk P w K mg base CX0 1 f fd ["tape", "size"] spDraw := by
  refine F.ok scDraw (fun vs H Q E h => ?_) (fun cdv A outer s H vs Q E hr h => ?_)
  · obtain ⟨d, n, rfl, _⟩ := h
    rfl
  · obtain ⟨d, n, rfl, ⟨x, y, hd, x0, y0, y1⟩, n0, n1, k⟩ := h
    have hu := hu_of hr
    refine ⟨_, pss_cons (ps_if (pt_cmpR op_ge (pe_dget hu (pv 0) pe_str (fun _ _ => rfl)) (pv 1) (nomark _))
        (pss_cons (ps_set (i := 2) scDraw.nd rfl (Or.inl rfl) (pe_op op_mod (pe_dget hu (pv 0) pe_str (fun _ _ => rfl)) (pv 1)))
        (pss_cons (ps_dput hu (pv 0) pe_str (pe_op op_fdiv (pe_dget hu (pv 0) pe_str (fun _ _ => rfl)) (pv 1)) rfl)
        (pss_one (ps_ret (pv 2))))) pss_nil)
      (pss_cons (ps_dput hu (pv 0) pe_str (pe_op op_mod (pe_op op_add (pe_op op_mul (pe_dget hu (pv 0) pe_str (fun _ _ => rfl)) pe_int) pe_int) pe_int) rfl)
      (pss_one (ps_ret (pe_op op_mod (pe_op op_fdiv (pe_op op_mod (pe_op op_pow (pe_op op_mod (pe_op op_pow (pe_dget hu (pv 0) pe_str (fun _ _ => rfl)) pe_int) pe_int) pe_int) pe_int) pe_int) (pv 1))))), ?_⟩
    have gx : ∀ {H : Hp} {x y : Int}, H d = some (.dK (dk x y)) → DGet H d (.str "digits") (some (.int x)) := fun {H x y} e => by
      have := DGet.k (k := Sum.inr "digits") e
      rw [dk_digits] at this
      exact this
    have gy : ∀ {H : Hp} {x y : Int}, H d = some (.dK (dk x y)) → DGet H d (.str "mixed") (some (.int y)) := fun {H x y} e => by
      have := DGet.k (k := Sum.inr "mixed") e
      rw [dk_mixed] at this
      exact this
    have px : ∀ {H : Hp} {x y z : Int}, H d = some (.dK (dk x y)) → DPut H d (.str "digits") (.int z) (upd H d (.dK (dk z y))) := fun {H x y z} e => by
      have := DPut.k (k := Sum.inr "digits") (v := .int z) e (by show 2 < sizeLine; decide)
      rw [dk_put_digits] at this
      exact this
    have py : ∀ {H : Hp} {x y z : Int}, H d = some (.dK (dk x y)) → DPut H d (.str "mixed") (.int z) (upd H d (.dK (dk x z))) := fun {H x y z} e => by
      have := DPut.k (k := Sum.inr "mixed") (v := .int z) e (by show 2 < sizeLine; decide)
      rw [dk_put_mixed] at this
      exact this
    refine ⟨_, rfl, d, _, rfl, gx hd, _, rfl, _, _, rfl, rfl, _, rfl, ?_⟩
    refine ite2 (fun c => ?_) (fun c => ?_)
    · refine ⟨_, rfl, d, _, rfl, gx hd, _, rfl, _, _, rfl, rfl, n0, ?_⟩
      refine ⟨_, rfl, d, _, rfl, gx hd, _, rfl, _, _, rfl, rfl, ⟨n0, n1⟩, _, rfl, d, _, rfl, px hd, ?_⟩
      exact ⟨_, rfl, k _ _ (Int.emod_nonneg _ (by omega)) (Int.emod_lt_of_pos _ n0) ⟨_, y, upd_same, Int.ediv_nonneg x0 (by omega), y0, y1⟩ But.upd⟩
    · have m0 := Int.emod_nonneg (y * 40014 + 1013) (b := 2147483563) (by decide)
      have m1 := Int.emod_lt_of_pos (y * 40014 + 1013) (b := 2147483563) (by decide)
      refine ⟨_, rfl, d, _, rfl, gy hd, _, _, rfl, rfl, .inr ⟨by decide, by decide⟩, _, _, rfl, rfl, _, _, rfl, rfl, (by show (0 : Int) < 2147483563; decide), _, rfl, d, _, rfl, py hd, ?_⟩
      refine ⟨_, rfl, d, _, rfl, gy upd_same, _, _, rfl, rfl, ⟨by decide, by decide, by omega⟩, _, _, rfl, rfl, (by show (0 : Int) < 2147483399; decide), ?_⟩
      have q0 := Int.emod_nonneg (((y * 40014 + 1013) % 2147483563) ^ (2 : Int).toNat) (b := 2147483399) (by decide)
      have q1 := Int.emod_lt_of_pos (((y * 40014 + 1013) % 2147483563) ^ (2 : Int).toNat) (b := 2147483399) (by decide)
      refine ⟨_, _, rfl, rfl, ⟨by decide, by decide, by omega⟩, _, _, rfl, rfl, (by show (0 : Int) < 998244353; decide), _, _, rfl, rfl, ⟨by decide, by decide⟩, _, rfl, _, _, rfl, rfl, n0, ?_⟩
      exact k _ _ (Int.emod_nonneg _ (by omega)) (Int.emod_lt_of_pos _ n0) ⟨x, _, upd_same, x0, m0, by omega⟩ But.upd
/-! ### one of some things -/
def spChoose (K : PySem.W.Frag) : Sp := fun vs H Q _ => ∃ (d t : Addr) (xs : List V), vs = [.ref d, .ref t] ∧ DeckAt H d ∧ SqL K H t xs ∧ xs ≠ [] ∧ xs.length < 1000000 ∧ ∀ (v : V) (H' : Hp), v ∈ xs → DeckAt H' d → But d H H' → Q v H'
theorem scChoose : FnScope ["tape", "items"] ["tape", "items"] (defScope sChoose) := ⟨rfl, rfl, rfl, by decide +kernel, rfl, by decide +kernel, by decide +kernel⟩
theorem ok_choose {f fD : Addr} {fd fdD : FuncData} (F : Fun K "_law_one_of" "_law_one_of" sChoose f fd) (T : TxtD mg) (FD : Fun K "_law_pick" "_law_pick" sDraw fD fdD) (bD : Binds K fdD ["tape", "size"] []) (mD : mg "_law_pick" = some (.ref fD)) :
    FnOk P w K mg base CX0 2 f fd ["tape", "items"] (spChoose K) := by
  have GD : FnOk P w K mg base CX0 1 fD fdD ["tape", "size"] spDraw := ok_draw FD
  refine F.ok scChoose (fun vs H Q E h => ?_) (fun cdv A outer s H vs Q E hr h => ?_)
  · obtain ⟨d, t, xs, rfl, _⟩ := h
    rfl
  · obtain ⟨d, t, xs, rfl, D, hS, h0, h1, k⟩ := h
    refine ⟨_, pss_one (ps_ret (pe_ix ix_list (pv 1) (pe_call GD hr rfl mD FD.kp bD .nil pass0 (pa_cons (pv 0) (pa_cons (pe_callB call_len_seq (by rfl) T.len PySem.boot_len (pa_cons (pv 1) pa_nil)) pa_nil))) (fun _ _ => rfl))), ?_⟩
    have hl : 0 < xs.length := List.length_pos_iff.mpr h0
    refine ⟨_, rfl, _, rfl, _, rfl, t, _, rfl, .inl hS, d, _, rfl, D, by omega, by omega, fun r H' r0 r1 D' B => ?_⟩
    obtain ⟨n, rfl⟩ : ∃ n : Nat, r = (n : Int) := ⟨r.toNat, by omega⟩
    have hn : n < xs.length := by omega
    have hat : xs[n]? = some xs[n] := List.getElem?_eq_getElem hn
    exact ⟨t, _, _, _, rfl, rfl, B.seq D hS, atI_nat hat, k _ _ (List.getElem_mem hn) D' B⟩
end
/-! ### the walk through the ids meets a free one -/
theorem len_le_of_sub : ∀ (xs ys : List Int), xs.Nodup → (∀ x ∈ xs, x ∈ ys) → xs.length ≤ ys.length
  | [], _, _, _ => Nat.zero_le _
  | x :: r, ys, hn, hs => by
    have hx : x ∈ ys := hs x List.mem_cons_self
    have hn' := List.nodup_cons.mp hn
    have ih := len_le_of_sub r (ys.erase x) hn'.2 fun z hz => (List.mem_erase_of_ne (fun e => hn'.1 (by rw [← e]; exact hz))).mpr (hs z (List.mem_cons_of_mem _ hz))
    have hl := List.length_erase_of_mem hx
    have : 0 < ys.length := List.length_pos_of_mem hx
    show r.length + 1 ≤ ys.length
    omega
def nx (z : Int) (i : Nat) : Int := (z - 1 + (i : Int)) % 1000000 + 1
theorem nx_zero {z : Int} (h0 : 1 ≤ z) (h1 : z ≤ 1000000) : nx z 0 = z := by unfold nx; omega
theorem nx_succ {z : Int} {i : Nat} : nx z i % 1000000 + 1 = nx z (i + 1) := by unfold nx; omega
theorem nx_lo (z : Int) (i : Nat) : 1 ≤ nx z i := by unfold nx; omega
theorem nx_hi (z : Int) (i : Nat) : nx z i ≤ 1000000 := by unfold nx; omega
theorem nx_inj {z : Int} {i j : Nat} (hi : i < 1000) (hj : j < 1000) (h : nx z i = nx z j) : i = j := by unfold nx at h; omega
theorem nx_few {z : Int} {js : List Int} {t : Nat} (ht : t ≤ 500) (h : ∀ i, i < t → nx z i ∈ js) : t ≤ js.length := by
  have a : ((List.range t).map (nx z)).Nodup := by
    refine List.pairwise_map.mpr ?_
    refine List.Pairwise.imp_of_mem ?_ (List.pairwise_lt_range (n := t))
    intro i j hi hj l e
    have q := nx_inj (by have := List.mem_range.mp hi; omega) (by have := List.mem_range.mp hj; omega) e
    omega
  have b := len_le_of_sub _ js a (fun x hx => by
    obtain ⟨i, hi, rfl⟩ := List.mem_map.mp hx
    exact h i (List.mem_range.mp hi))
  rw [List.length_map, List.length_range] at b
  exact b
theorem eqV_int (i j : Int) : eqV (.int i) (.int j) = decide (i = j) := by
  first
    | rfl
    | simp [eqV]
theorem inV_int (z : Int) (js : List Int) : inV (.int z) (js.map V.int) = decide (z ∈ js) := by
  unfold inV
  rw [List.any_map]
  induction js with
  | nil => rfl
  | cons a r ih =>
    rw [List.any_cons, ih]
    show (eqV (.int a) (.int z) || decide (z ∈ r)) = decide (z ∈ a :: r)
    rw [eqV_int]
    by_cases e : a = z
    · subst e
      simp
    · have e' : ¬ z = a := fun q => e q.symm
      simp [e, e']
theorem all_flat (js : List Int) : (js.map V.int).all flatV = true := by
  induction js with
  | nil => rfl
  | cons a r ih => exact ih
/-! ### sets of ints -/
/-- S is the set of the ints ns, n their number -/
def SetIs (ns : List Int) (S : Int → Bool) (n : Nat) : Prop := (∀ k, S k = decide (k ∈ ns)) ∧ ∃ L : List Int, L.Nodup ∧ L.length = n ∧ ∀ k, k ∈ L ↔ k ∈ ns
theorem shorter : ∀ ns : List Int, ¬ ns.Nodup → ∃ ms : List Int, ms.length < ns.length ∧ ∀ k ∈ ns, k ∈ ms
  | [], h => absurd List.nodup_nil h
  | a :: r, h => by
    by_cases ha : a ∈ r
    · exact ⟨r, Nat.lt_succ_self _, fun k hk => by
        rcases List.mem_cons.mp hk with e | e
        · rw [e]; exact ha
        · exact e⟩
    · have hr : ¬ r.Nodup := fun q => h (List.nodup_cons.mpr ⟨ha, q⟩)
      obtain ⟨ms, h1, h2⟩ := shorter r hr
      exact ⟨a :: ms, Nat.succ_lt_succ h1, fun k hk => by
        rcases List.mem_cons.mp hk with e | e
        · rw [e]; exact List.mem_cons_self
        · exact List.mem_cons_of_mem _ (h2 k e)⟩
theorem SetIs.count {ns : List Int} {S : Int → Bool} {n : Nat} (h : SetIs ns S n) : ((n : Int) = (ns.length : Int)) ↔ ns.Nodup := by
  obtain ⟨_, L, h1, h2, h3⟩ := h
  have a := len_le_of_sub L ns h1 fun k hk => (h3 k).mp hk
  constructor
  · intro e
    by_cases hN : ns.Nodup
    · exact hN
    · obtain ⟨ms, m1, m2⟩ := shorter ns hN
      have b := len_le_of_sub L ms h1 fun k hk => m2 k ((h3 k).mp hk)
      omega
  · intro hN
    have b := len_le_of_sub ns L hN fun k hk => (h3 k).mpr hk
    omega
theorem firstMet_nodup (val : Nat → Int) : ∀ i, (firstMet val i).Nodup
  | 0 => by rw [firstMet_zero]; exact List.nodup_nil
  | i + 1 => by
    rw [firstMet_succ]
    unfold step_dedup
    have ih := firstMet_nodup val i
    split
    · exact ih
    · rename_i h
      refine List.nodup_append.mpr ⟨ih, by simp, ?_⟩
      intro a ha b hb e
      have : b = val i := by simpa using hb
      refine h (List.any_eq_true.mpr ⟨a, ha, ?_⟩)
      rw [e, this]
      simp
theorem getD_range (ns : List Int) : (List.range ns.length).map (fun i => ns.getD i 0) = ns := by
  apply List.ext_getElem
  · simp
  · intro i h1 h2
    simp [List.getD, h2]
theorem firstMet_mem (ns : List Int) (k : Int) : k ∈ firstMet (fun i => ns.getD i 0) ns.length ↔ k ∈ ns := by
  have h := firstMet_any (fun i => ns.getD i 0) ns.length k
  rw [getD_range] at h
  have e : ∀ l : List Int, (l.any (· == k) = true) ↔ k ∈ l := fun l => by
    rw [List.any_eq_true]
    constructor
    · rintro ⟨x, hx, q⟩
      have : x = k := by simpa using q
      rw [← this]; exact hx
    · intro hk
      exact ⟨k, hk, by simp⟩
  rw [← e, ← e, h]
def rSetI (K : PySem.W.Frag) : List V → Hp → VK → Prop := fun xs H Q => ∃ (p : Addr) (ns : List Int), xs = [.ref p] ∧ (SqL K H p (ns.map V.int) ∨ SqT K H p (ns.map V.int)) ∧ ns.length ≤ 4000 ∧
  ∀ (q : Addr) (S : Int → Bool) (n : Nat), H q = none → SetIs ns S n → n ≤ ns.length → Q (.ref q) (upd H q (.set S n))
section
variable {X : Cx}
theorem cr_setI (hc : X.calm = true) : CallR X (.type "set") (rSetI X.K) := by
  intro pins s σ H xs us Q I r h
  obtain ⟨p, ns, rfl, hq, hlen, k⟩ := h
  rw [Vals.ref1 r]
  have hs : scanBound = 4096 := rfl
  rcases hq with hq | hq
  · obtain ⟨its, rv, pl, hz⟩ := I.list hq
    have hl := rv.length
    rw [List.length_map] at hl
    refine call_set_list (I.ok.hd hc) pl.isList (ns := ns) (Vals.ints rv) (by rw [List.size_toArray, hs]; omega) fun h' tk R kk => ?_
    have esz : its.toArray.size = ns.length := by rw [List.size_toArray]; omega
    rw [esz] at R
    have hn := firstMet_mem ns
    have hset : SetIs ns (fun k' => (firstMet (fun i => ns.getD i 0) ns.length).any (· == k')) (firstMet (fun i => ns.getD i 0) ns.length).length := by
      refine ⟨fun k => ?_, _, firstMet_nodup _ _, rfl, hn⟩
      rw [Bool.eq_iff_iff, decide_eq_true_iff, ← hn k, List.any_eq_true]
      constructor
      · rintro ⟨x, hx, q⟩
        have : x = k := by simpa using q
        rw [← this]; exact hx
      · intro hk
        exact ⟨k, hk, by simp⟩
    have I' := I.laid (a := s.heap.objs.size) (o := .set _ _) (h' := h') (t' := tk) (fun b u e => kk b u (Heap.lt_size e) e) (Nat.le_refl _) R
    exact ⟨.ref _, _, I', rfl, k _ _ _ (I.hok.fresh (Nat.le_refl _)) hset (firstMet_length_le _ _)⟩
  · obtain ⟨its, rv, pl, hz⟩ := I.tuple hq
    have hl := rv.length
    rw [List.length_map] at hl
    refine call_set_tupI ns (I.ok.hd hc) pl (Vals.ints rv) (by rw [hs]; omega) fun h' tk c R hle kk => ?_
    have hset : SetIs ns (fun j => decide (j ∈ ns)) c := by
      obtain ⟨o, es, ep, t, h1, h2, h3, h4, h5, h6, h7, h8, h9, _⟩ := id R
      refine ⟨fun k => rfl, es.toList.map keyOf, h5, ?_, fun k => ?_⟩
      · rw [List.length_map, ← h9]; rfl
      · rw [← h6 k, decide_eq_true_iff]
    have I' := I.laid (a := s.heap.objs.size) (o := .set _ _) (h' := h') (t' := tk) (fun b u e => kk b u e) (Nat.le_refl _) (SetR.setOf R)
    exact ⟨.ref _, _, I', rfl, k _ _ _ (I.hok.fresh (Nat.le_refl _)) hset hle⟩
def rInSet (neg : Bool) : R2 := fun x y H Q => ∃ (k : Int) (a : Addr) (S : Int → Bool) (n : Nat), x = .int k ∧ y = .ref a ∧ H a = some (.set S n) ∧ Q (.bl (if neg then !S k else S k)) H
theorem op_inSet : OpR X (compareOp .In) (rInSet false) := by
  intro pins s σ H x y v u Q I rx ry h
  obtain ⟨k, a, S, n, rfl, rfl, ha, q⟩ := h
  cases ry
  obtain ⟨t, rfl⟩ := rx
  exact wpAny_inSet_of (knd := PySem.intKind X.prog X.w) (k := k) (by first | rfl | simp [PySem.intKind, Value.isInt]) rfl (I.hok a _ ha) ⟨.bl (S k), H, I.tok _, rfl, q⟩
theorem op_notInSet : OpR X (compareOp .NotIn) (rInSet true) := by
  intro pins s σ H x y v u Q I rx ry h
  obtain ⟨k, a, S, n, rfl, rfl, ha, q⟩ := h
  cases ry
  obtain ⟨t, rfl⟩ := rx
  exact wpAny_notInSet_of (knd := PySem.intKind X.prog X.w) (k := k) (by first | rfl | simp [PySem.intKind, Value.isInt]) rfl (I.hok a _ ha) ⟨.bl (!S k), H, I.tok _, rfl, q⟩
theorem call_lenSet : CallR X (.builtin "len") (fun xs H Q => ∃ a S n, xs = [.ref a] ∧ H a = some (.set S n) ∧ Q (.int n) H) := by
  intro pins s σ H xs us Q I r h
  obtain ⟨a, S, n, rfl, ha, q⟩ := h
  rw [Vals.ref1 r]
  obtain ⟨o, es, ep, t, h1, h2, h3, h4, h5, h6, h7, h8⟩ := I.hok a _ ha
  have hs : scanBound = 4096 := rfl
  refine call_len_set h1 h2 h3 h7 (by omega) ?_
  rw [h8]
  exact ⟨.int n, H, (I.tok (s.toks + 1 + 1)), ⟨_, rfl⟩, q⟩
end
/-! ### data in the heap: flat things, lists, tuples, the empty dict -/
mutual
inductive DV (K : PySem.W.Frag) (H : Hp) : V → PyData → Prop
  | non : DV K H .non .none
  | bl (b : Bool) : DV K H (.bl b) (.bool b)
  | int (i : Int) : DV K H (.int i) (.int i)
  | str (x : Str) : DV K H (.str x) (.str x)
  | lst {a : Addr} {xs : List V} {ds : List PyData} : SqL K H a xs → DVs K H xs ds → DV K H (.ref a) (.list ds)
  | tup {a : Addr} {xs : List V} {ds : List PyData} : SqT K H a xs → DVs K H xs ds → DV K H (.ref a) (.tuple ds)
  | dk0 {a : Addr} : H a = some (.dK []) → DV K H (.ref a) (.dict [])
inductive DVs (K : PySem.W.Frag) (H : Hp) : List V → List PyData → Prop
  | nil : DVs K H [] []
  | cons {v : V} {vs : List V} {d : PyData} {ds : List PyData} : DV K H v d → DVs K H vs ds → DVs K H (v :: vs) (d :: ds)
end
section
variable {K : PySem.W.Frag} {H H' : Hp}
theorem DVs.length {vs : List V} {ds : List PyData} (h : DVs K H vs ds) : vs.length = ds.length := by
  induction vs generalizing ds with
  | nil => cases h; rfl
  | cons v r ih => cases h with | cons _ t => exact congrArg Nat.succ (ih t)
theorem DVs.at {vs : List V} {ds : List PyData} (h : DVs K H vs ds) : ∀ {i : Nat} {v : V}, vs[i]? = some v → ∃ d, ds[i]? = some d ∧ DV K H v d := by
  induction vs generalizing ds with
  | nil => intro i v e; simp at e
  | cons v r ih =>
    cases h with
    | cons p t =>
      intro i u e
      cases i with
      | zero => simp at e; subst e; exact ⟨_, rfl, p⟩
      | succ i => simp at e; obtain ⟨d, h1, h2⟩ := ih t e; exact ⟨d, by simpa using h1, h2⟩
theorem Same.sq {a : Addr} {xs : List V} (e : Same H H') (h : SqL K H a xs) : SqL K H' a xs := e.seq h
theorem Same.tq {a : Addr} {xs : List V} (e : Same H H') (h : SqT K H a xs) : SqT K H' a xs := by
  rcases h with (h | ⟨o, h⟩) | h
  · exact .inl (.inl (e _ _ h))
  · exact .inl (.inr ⟨o, e _ _ h⟩)
  · exact .inr h
mutual
theorem DV.same (e : Same H H') : ∀ {d : PyData} {v : V}, DV K H v d → DV K H' v d
  | _, _, .non => .non
  | _, _, .bl b => .bl b
  | _, _, .int i => .int i
  | _, _, .str x => .str x
  | _, _, .lst h t => .lst (Same.sq e h) (DVs.same e t)
  | _, _, .tup h t => .tup (Same.tq e h) (DVs.same e t)
  | _, _, .dk0 h => .dk0 (e _ _ h)
theorem DVs.same (e : Same H H') : ∀ {ds : List PyData} {vs : List V}, DVs K H vs ds → DVs K H' vs ds
  | _, _, .nil => .nil
  | _, _, .cons p t => .cons (DV.same e p) (DVs.same e t)
end
/-- a value's built-in type by its name -/
def TyD (K : PySem.W.Frag) (H : Hp) (x : V) : Prop := ∃ nm : String, TyX K H x (.type nm) ∧ ((nm = "NoneType" ∧ x = .non) ∨ (nm = "bool" ∧ ∃ b, x = .bl b) ∨ (nm = "int" ∧ ∃ i, x = .int i) ∨ (nm = "str" ∧ ∃ z, x = .str z) ∨
  (nm = "list" ∧ ∃ a, x = .ref a) ∨ (nm = "tuple" ∧ ∃ a, x = .ref a) ∨ (nm = "dict" ∧ ∃ a, x = .ref a))
theorem tyL {a : Addr} {xs : List V} (h : SqL K H a xs) : TyX K H (.ref a) (.type "list") := by
  rcases h with (h | ⟨o, h⟩) | ⟨o, _, _, h, c, _⟩
  · exact .base (.lst h)
  · exact .base (.frz h)
  · exact .kList h c
theorem tyT {a : Addr} {xs : List V} (h : SqT K H a xs) : TyX K H (.ref a) (.type "tuple") := by
  rcases h with (h | ⟨o, h⟩) | ⟨o, _, _, h, c, _⟩
  · exact .base (.tup h)
  · exact .fTuple h
  · exact .kTuple h c
theorem DV.ty {v : V} {d : PyData} (h : DV K H v d) : TyD K H v := by
  cases h with
  | non => exact ⟨_, .base .non, .inl ⟨rfl, rfl⟩⟩
  | bl b => exact ⟨_, .base (.bl b), .inr (.inl ⟨rfl, b, rfl⟩)⟩
  | int i => exact ⟨_, .base (.int i), .inr (.inr (.inl ⟨rfl, i, rfl⟩))⟩
  | str x => exact ⟨_, .base (.str x), .inr (.inr (.inr (.inl ⟨rfl, x, rfl⟩)))⟩
  | lst h t => exact ⟨_, tyL h, .inr (.inr (.inr (.inr (.inl ⟨rfl, _, rfl⟩))))⟩
  | tup h t => exact ⟨_, tyT h, .inr (.inr (.inr (.inr (.inr (.inl ⟨rfl, _, rfl⟩)))))⟩
  | dk0 h => exact ⟨_, .base (.dK h), .inr (.inr (.inr (.inr (.inr (.inr ⟨rfl, _, rfl⟩)))))⟩
end
def wholeV : V → Bool
  | .int _ => true
  | _ => false
def wholeD : PyData → Bool
  | .int _ => true
  | _ => false
theorem DV.whole {K : PySem.W.Frag} {H : Hp} {v : V} {d : PyData} (h : DV K H v d) : wholeV v = wholeD d := by cases h <;> rfl
structure TxtV (mg : Str → Option Value) : Prop where
  len : mg "len" = none
  isi : mg "isinstance" = none
  int : mg "int" = none
  bool : mg "bool" = none
  tuple : mg "tuple" = none
  set : mg "set" = none
  all : mg "all" = none
  list : mg "list" = none
def isTup : PyData → Bool
  | .tuple _ => true
  | _ => false
def isLst : PyData → Bool
  | .list _ => true
  | _ => false
theorem kb1 : kitB "NoneType" "tuple" = some false := by decide +kernel
theorem kb2 : kitB "NoneType" "list" = some false := by decide +kernel
theorem kb3 : kitB "bool" "tuple" = some false := by decide +kernel
theorem kb4 : kitB "bool" "list" = some false := by decide +kernel
theorem kb5 : kitB "int" "tuple" = some false := by decide +kernel
theorem kb6 : kitB "int" "list" = some false := by decide +kernel
theorem kb7 : kitB "str" "tuple" = some false := by decide +kernel
theorem kb8 : kitB "str" "list" = some false := by decide +kernel
theorem kb9 : kitB "list" "tuple" = some false := by decide +kernel
theorem kb10 : kitB "list" "list" = some true := by decide +kernel
theorem kb11 : kitB "tuple" "tuple" = some true := by decide +kernel
theorem kb12 : kitB "tuple" "list" = some false := by decide +kernel
theorem kb13 : kitB "dict" "tuple" = some false := by decide +kernel
theorem kb14 : kitB "dict" "list" = some false := by decide +kernel
theorem DV.kit {K : PySem.W.Frag} {H : Hp} {v : V} {d : PyData} (h : DV K H v d) : ∃ nm : String, TyX K H v (.type nm) ∧ PySem.W.kitOne K (.type nm) (.type "tuple") = some (isTup d) ∧ PySem.W.kitOne K (.type nm) (.type "list") = some (isLst d) := by
  cases h with
  | non => exact ⟨_, .base .non, kit_ty kb1, kit_ty kb2⟩
  | bl b => exact ⟨_, .base (.bl b), kit_ty kb3, kit_ty kb4⟩
  | int i => exact ⟨_, .base (.int i), kit_ty kb5, kit_ty kb6⟩
  | str x => exact ⟨_, .base (.str x), kit_ty kb7, kit_ty kb8⟩
  | lst h t => exact ⟨_, tyL h, kit_ty kb9, kit_ty kb10⟩
  | tup h t => exact ⟨_, tyT h, kit_ty kb11, kit_ty kb12⟩
  | dk0 h => exact ⟨_, .base (.dK h), kit_ty kb13, kit_ty kb14⟩
/-! ### the plain functions -/
def intOf : PyData → Int
  | .int i => i
  | _ => 0
theorem whole_all {K : PySem.W.Frag} {H : Hp} : ∀ {ds : List PyData} {vs : List V}, DVs K H vs ds → ds.all wholeD = true → vs = (ds.map intOf).map V.int
  | _, _, .nil, _ => rfl
  | d :: ds, v :: vs, .cons p t, h => by
    rw [List.all_cons, Bool.and_eq_true] at h
    rw [List.map_cons, List.map_cons, ← whole_all t h.2]
    cases p <;> first | rfl | (exact absurd h.1 (by intro q; cases q))
theorem DVs.wholes {K : PySem.W.Frag} {H : Hp} {ds : List PyData} {vs : List V} (h : DVs K H vs ds) {i : Nat} {v : V} (e : vs[i]? = some v) : ∃ d, ds[i]? = some d ∧ wholeV v = wholeD d ∧ TyD K H v := by
  obtain ⟨d, h1, h2⟩ := h.at e
  exact ⟨d, h1, h2.whole, h2.ty⟩
theorem take_snoc {α : Type} {l : List α} {i : Nat} {x : α} (h : l[i]? = some x) : l.take (i + 1) = l.take i ++ [x] := by
  rw [List.take_succ, h]; rfl
theorem lt_of_some {α : Type} {l : List α} {i : Nat} {x : α} (h : l[i]? = some x) : i < l.length := (List.getElem?_eq_some_iff.mp h).1
theorem cut_to (xs : List V) (k : Nat) : cutV xs none (some (k : Int)) = xs.take k := by
  unfold cutV
  rw [HT.sIx_none, HT.sIx_nat, List.drop_zero, Nat.sub_zero]
  rcases Nat.le_total k xs.length with h | h
  · rw [Nat.min_eq_left h]
  · rw [Nat.min_eq_right h, List.take_length, List.take_of_length_le h]
theorem cut_from (xs : List V) (k : Nat) : cutV xs (some (k : Int)) none = xs.drop k := by
  unfold cutV
  rw [HT.sIx_none, HT.sIx_nat]
  rcases Nat.le_total k xs.length with h | h
  · rw [Nat.min_eq_left h, ← List.length_drop, List.take_length]
  · rw [Nat.min_eq_right h, Nat.sub_self, List.take_zero, List.drop_of_length_le h]
theorem eqvAll_ints : ∀ xs ys : List Int, PyData.eqvAll (xs.map .int) (ys.map .int) = decide (xs = ys)
  | [], [] => by simp [PyData.eqvAll]
  | [], _ :: _ => by simp [PyData.eqvAll]
  | _ :: _, [] => by simp [PyData.eqvAll]
  | x :: xs, y :: ys => by
    rw [List.map_cons, List.map_cons, PyData.eqvAll, eqvAll_ints xs ys, PyData.eqv]
    by_cases h : x = y
    · subst h
      simp
    · simp [h]
theorem canLay_ints : ∀ xs : List Int, PyData.canLayAll0 (xs.map .int) = true
  | [] => by rw [List.map_nil, PyData.canLayAll0]
  | x :: xs => by rw [List.map_cons, PyData.canLayAll0, canLay_ints xs, PyData.canLay0]; rfl
theorem depthAll_ints : ∀ xs : List Int, PyData.depthAll (xs.map .int) ≤ 1
  | [] => by rw [List.map_nil, PyData.depthAll]; omega
  | x :: xs => by
    have := depthAll_ints xs
    rw [List.map_cons, PyData.depthAll, PyData.depth]
    omega
theorem shaped_ints (xs : List Int) : SeqAt.shaped (.list (xs.map .int)) = true := by
  unfold SeqAt.shaped
  rw [Bool.and_eq_true]
  refine ⟨?_, decide_eq_true ?_⟩
  · rw [PyData.canLay0]; exact canLay_ints xs
  · have := depthAll_ints xs
    rw [PyData.depth]
    omega
theorem DpAll.ints {K : PySem.W.Frag} {H : Hp} : ∀ xs : List Int, DpAll K H (xs.map V.int) (xs.map .int)
  | [] => .nil
  | x :: xs => .cons (.int x) (DpAll.ints xs)
def rEqL (K : PySem.W.Frag) : R2 := fun x y H Q => ∃ (p q : Addr) (xs ys : List Int), x = .ref p ∧ y = .ref q ∧ SqL K H p (xs.map V.int) ∧ SqL K H q (ys.map V.int) ∧ Q (.bl (decide (xs = ys))) H
def rNeL (K : PySem.W.Frag) : R2 := fun x y H Q => ∃ (p q : Addr) (xs ys : List Int), x = .ref p ∧ y = .ref q ∧ SqL K H p (xs.map V.int) ∧ SqL K H q (ys.map V.int) ∧ Q (.bl (!decide (xs = ys))) H
section
variable {X : Cx}
theorem op_eqL (hu : X.A.units + 64 < cLine) : OpR X (compareOp .Eq) (rEqL X.K) := by
  intro pins s σ H x y v u Q I rx ry h
  obtain ⟨p, q, xs, ys, rfl, rfl, h1, h2, k⟩ := h
  refine op_eqD hu pins s σ H _ _ v u Q I rx ry ⟨_, _, .lst h1 (DpAll.ints xs), .lst h2 (DpAll.ints ys), shaped_ints xs, shaped_ints ys, ?_⟩
  rw [PyData.eqv, eqvAll_ints]
  exact k
theorem op_neL (hu : X.A.units + 64 < cLine) : OpR X (compareOp .NotEq) (rNeL X.K) := by
  intro pins s σ H x y v u Q I rx ry h
  obtain ⟨p, q, xs, ys, rfl, rfl, h1, h2, k⟩ := h
  refine op_neD hu pins s σ H _ _ v u Q I rx ry ⟨_, _, .lst h1 (DpAll.ints xs), .lst h2 (DpAll.ints ys), shaped_ints xs, shaped_ints ys, ?_⟩
  rw [PyData.eqv, eqvAll_ints]
  exact k
end
theorem hu64 {A : Around} {k : Nat} (hr : Room k A) : A.units + 64 < cLine := by have := hr.un; omega
/-- behind Hd: all as it was but the deck at d, and these objects stand -/
def Fs (d : Addr) (Hd : Hp) (fs : List (Addr × HO)) (H' : Hp) : Prop := But d Hd H' ∧ DeckAt H' d ∧ ∀ p ∈ fs, p.1 ≠ d ∧ H' p.1 = some p.2
section
variable {d p p0 p1 p2 p3 p4 p5 : Addr} {Hd H1 H2 : Hp} {fs : List (Addr × HO)} {o o0 o1 o2 o3 o4 o5 : HO}
theorem Fs.start (D : DeckAt Hd d) : Fs d Hd [] Hd := ⟨But.refl _ _, D, fun _ h => by cases h⟩
theorem Fs.step (F : Fs d Hd fs H1) (D : DeckAt H2 d) (B : But d H1 H2) : Fs d Hd fs H2 := ⟨F.1.trans B, D, fun q hq => ⟨(F.2.2 q hq).1, B _ _ (F.2.2 q hq).1 (F.2.2 q hq).2⟩⟩
theorem Fs.same (F : Fs d Hd fs H1) (s : Same H1 H2) : Fs d Hd fs H2 := F.step (F.2.1.same s) (But.of s)
theorem Fs.add (F : Fs d Hd fs H1) (h : H1 p = some o) (n : ∀ x y, o ≠ .dK (dk x y)) : Fs d Hd ((p, o) :: fs) H1 := ⟨F.1, F.2.1, fun q hq => by
  rcases List.mem_cons.mp hq with e | e
  · subst e
    obtain ⟨x, y, hd, _⟩ := F.2.1
    exact ⟨ne_of h hd (n x y), h⟩
  · exact F.2.2 q e⟩
theorem Fs.new (F : Fs d Hd fs H1) (h : H1 p = none) (n : ∀ x y, o ≠ .dK (dk x y)) : Fs d Hd ((p, o) :: fs) (upd H1 p o) := (F.same (Same.new h)).add upd_same n
theorem Fs.skip (F : Fs d Hd fs H1) (h : H1 p = none) : Fs d Hd fs (upd H1 p o) := F.same (Same.new h)
theorem Fs.tail (F : Fs d Hd ((p, o) :: fs) H1) : Fs d Hd fs H1 := ⟨F.1, F.2.1, fun q hq => F.2.2 q (List.mem_cons_of_mem _ hq)⟩
theorem Fs.deck (F : Fs d Hd fs H1) : DeckAt H1 d := F.2.1
theorem Fs.g0 (F : Fs d Hd ((p0, o0) :: fs) H1) : H1 p0 = some o0 := (F.2.2 _ List.mem_cons_self).2
theorem Fs.g1 (F : Fs d Hd ((p0, o0) :: (p1, o1) :: fs) H1) : H1 p1 = some o1 := F.tail.g0
theorem Fs.g2 (F : Fs d Hd ((p0, o0) :: (p1, o1) :: (p2, o2) :: fs) H1) : H1 p2 = some o2 := F.tail.g1
theorem Fs.g3 (F : Fs d Hd ((p0, o0) :: (p1, o1) :: (p2, o2) :: (p3, o3) :: fs) H1) : H1 p3 = some o3 := F.tail.g2
theorem Fs.g4 (F : Fs d Hd ((p0, o0) :: (p1, o1) :: (p2, o2) :: (p3, o3) :: (p4, o4) :: fs) H1) : H1 p4 = some o4 := F.tail.g3
/-- what stood ahead of the deck stands -/
theorem Fs.old {H : Hp} (F : Fs d Hd fs H1) (hd : H d = none) (s : Same H Hd) : Same H H1 := fun b u h => F.1 b u (ne_of_none h hd) (s b u h)
end
theorem nl {xs : List V} : ∀ x y, HO.lst xs ≠ .dK (dk x y) := fun _ _ h => by cases h
theorem nt {xs : List V} : ∀ x y, HO.tup xs ≠ .dK (dk x y) := fun _ _ h => by cases h
theorem cut_mid (js : List Int) {f t : Nat} (h : f < js.length) : cutV (js.map V.int) (some (f : Int)) (some ((f : Int) + 1 + (t : Int))) = ((js.drop f).take (t + 1)).map V.int := by
  unfold cutV
  have e : (f : Int) + 1 + (t : Int) = ((f + 1 + t : Nat) : Int) := by omega
  rw [e, HT.sIx_nat, HT.sIx_nat, List.length_map, Nat.min_eq_left (by omega : f ≤ js.length), List.map_take, List.map_drop]
  rcases Nat.le_total (f + 1 + t) js.length with q | q
  · rw [Nat.min_eq_left q]
    congr 1
    omega
  · rw [Nat.min_eq_right q, List.take_of_length_le, List.take_of_length_le]
    · rw [List.length_drop, List.length_map]; omega
    · rw [List.length_drop, List.length_map]; omega
theorem seqIndex_nat {k n : Nat} (h : k < n) : seqIndex? (k : Int) n = some k := by
  unfold seqIndex?
  have h1 : ¬ ((k : Int) < 0) := by omega
  simp only [h1, if_false]
  have h2 : (decide (0 ≤ (k : Int)) && decide ((k : Int) < (n : Int))) = true := by
    rw [Bool.and_eq_true]
    exact ⟨decide_eq_true (by omega), decide_eq_true (by omega)⟩
  rw [if_pos h2]
  simp
theorem erase_map (js : List Int) (k : Nat) : (js.map V.int).eraseIdx k = (js.eraseIdx k).map V.int := by
  exact L2.erase_mapI js k
section
variable {P : Program} {w : World} {K : PySem.W.Frag} {mg : Str → Option Value} {base : Heap}
/-! ### the things in a drawn sequence -/
def spShuf (K : PySem.W.Frag) : Sp := fun vs H Q _ => ∃ (d t : Addr) (js : List Int), vs = [.ref d, .ref t] ∧ DeckAt H d ∧ SqL K H t (js.map V.int) ∧ js.length ≤ 300 ∧
  ∀ (p : Addr) (ks : List Int) (H' : Hp), H p = none → But d H H' → DeckAt H' d → H' p = some (.lst (ks.map V.int)) → ks.Perm js → Q (.ref p) H'
structure TxtS (mg : Str → Option Value) : Prop where
  len : mg "len" = none
  list : mg "list" = none
theorem scShuf : FnScope ["tape", "ids", "left", "found"] ["tape", "ids"] (defScope sShuf) := ⟨rfl, rfl, rfl, by decide +kernel, rfl, by decide +kernel, by decide +kernel⟩
theorem ok_shuf {f fD : Addr} {fd fdD : FuncData} (F : Fun K "_law_shuffled" "_law_shuffled" sShuf f fd) (T : TxtS mg) (FD : Fun K "_law_pick" "_law_pick" sDraw fD fdD) (bD : L2.Binds K fdD ["tape", "size"] []) (mD : mg "_law_pick" = some (.ref fD)) :
    FnOk P w K mg base CX0 2 f fd ["tape", "ids"] (spShuf K) := by
  have GD : FnOk P w K mg base CX0 1 fD fdD ["tape", "size"] spDraw := ok_draw FD
  refine F.ok scShuf (fun vs H Q E h => ?_) (fun cdv A outer s H vs Q E hr h => ?_)
  · obtain ⟨d, t, js, rfl, _⟩ := h
    rfl
  · obtain ⟨d, t, js, rfl, D, hT, hj, k⟩ := h
    have h64 := hu64 hr
    refine ⟨_, pss_cons (ps_set (i := 2) scShuf.nd rfl (Or.inl rfl) (pe_callTy call_list_of (by rfl) T.list (by decide +kernel) (pa_cons (pv 1) pa_nil)))
      (pss_cons (ps_set (i := 3) scShuf.nd rfl (Or.inl rfl) (pe_lst pa_nil))
      (pss_cons (ps_while PassesOwn.never (pt_cmpR (op_neL h64) (pv 2) (pe_lst pa_nil) (nomark _))
        (pss_one (ps_expr (pe_bm PySem.F.plainAttrs_list PySem.F.slot_list_append PySem.F.type_list_append mt_append (pv 3) (pa_cons
          (pe_bm PySem.F.plainAttrs_list PySem.F.slot_list_pop PySem.F.type_list_pop mt_popAt (pv 2) (pa_cons (pe_call GD hr rfl mD FD.kp bD .nil pass0 (pa_cons (pv 0) (pa_cons (pe_callB call_len_seq (by rfl) T.len PySem.boot_len (pa_cons (pv 2) pa_nil)) pa_nil))) pa_nil)) pa_nil)))))
      (pss_one (ps_ret (pv 3))))), ?_⟩
    refine ⟨_, rfl, t, _, rfl, .inl hT, fun l hl => ?_⟩
    have F1 : Fs d H [(l, .lst (js.map V.int))] _ := (Fs.start D).new hl nl
    refine ⟨Nat.zero_le _, fun r hr' => ?_⟩
    have F2 := F1.new hr' (o := .lst []) nl
    have hr0 : H r = none := Same.free (Same.new (o := .lst (js.map V.int)) hl) hr'
    have nlr : l ≠ r := ne_of_none F1.g0 hr'
    refine ⟨fun m σ H' => ∃ (ls fs : List Int), σ = [some (.ref d), some (.ref t), some (.ref l), some (.ref r)] ∧ m = ls.length ∧ (fs ++ ls).Perm js ∧ But d H H' ∧ DeckAt H' d ∧ H' l = some (.lst (ls.map V.int)) ∧ H' r = some (.lst (fs.map V.int)),
      ⟨_, js, [], rfl, rfl, List.Perm.refl _, F2.1, F2.deck, F2.g1, F2.g0⟩, ?_⟩
    rintro m σ H1 ⟨ls, fs, rfl, rfl, hp, B1, D1, hL, hR⟩
    have hlen : fs.length + ls.length = js.length := by have := hp.length_eq; rw [List.length_append] at this; exact this
    refine ⟨_, rfl, Nat.zero_le _, fun q hq => ?_⟩
    have s2 : Same H1 (upd H1 q (.lst [])) := Same.new hq
    refine ⟨l, q, ls, [], rfl, rfl, SqL.of (s2 _ _ hL), SqL.of upd_same, _, rfl, ?_⟩
    by_cases h0 : ls = []
    · subst h0
      refine iteF ?_
      rw [List.append_nil] at hp
      exact ⟨_, rfl, k r fs _ hr0 (B1.trans (But.of s2)) (D1.same s2) (s2 _ _ hR) hp⟩
    · rw [decide_eq_false h0]
      refine iteT ?_
      have hpos : 0 < ls.length := List.length_pos_iff.mpr h0
      refine ⟨fun σ' H' => ∃ m', m' < ls.length ∧ ∃ (ls fs : List Int), σ' = [some (.ref d), some (.ref t), some (.ref l), some (.ref r)] ∧ m' = ls.length ∧ (fs ++ ls).Perm js ∧ But d H H' ∧ DeckAt H' d ∧ H' l = some (.lst (ls.map V.int)) ∧ H' r = some (.lst (fs.map V.int)), fun _ _ z => z, ?_⟩
      have D2 := D1.same s2
      refine ⟨_, rfl, .inl ⟨rfl, _, SqL.of (s2 _ _ hR)⟩, _, rfl, .inl ⟨rfl, _, SqL.of (s2 _ _ hL)⟩, _, rfl, _, rfl, l, _, rfl, .inl (SqL.of (s2 _ _ hL)), d, _, rfl, D2, by rw [List.length_map]; omega, by rw [List.length_map]; omega, fun z H3 z0 z1 D3 B3 => ?_⟩
      rw [List.length_map] at z1
      obtain ⟨i, rfl⟩ : ∃ m : Nat, z = (m : Int) := ⟨z.toNat, by omega⟩
      have hi : i < ls.length := by omega
      have hL3 := B3.lst D2 (s2 _ _ hL)
      have hR3 := B3.lst D2 (s2 _ _ hR)
      have hy : ls[i]? = some ls[i] := List.getElem?_eq_getElem hi
      refine ⟨l, _, _, i, .int ls[i], rfl, rfl, hL3, by omega, by omega, seqIndex_nat (by rw [List.length_map]; exact hi), by rw [List.getElem?_map, hy]; rfl, ?_⟩
      rw [erase_map]
      have hR4 : upd H3 l (.lst ((ls.eraseIdx i).map V.int)) r = some (.lst (fs.map V.int)) := by rw [upd_ne nlr.symm]; exact hR3
      refine ⟨r, _, _, rfl, rfl, hR4, by rw [List.length_map]; exact small1000 (by omega), ?_⟩
      have hel : (ls.eraseIdx i).length + 1 = ls.length := by rw [List.length_eraseIdx_of_lt hi]; omega
      refine ⟨(ls.eraseIdx i).length, by omega, ls.eraseIdx i, fs ++ [ls[i]], rfl, rfl, ?_, ?_, ?_, ?_, ?_⟩
      · rw [List.append_assoc]
        exact (List.Perm.append_left fs (L2.erase_perm ls i _ hy)).trans hp
      · intro b o hb e
        have nbl : b ≠ l := ne_of_none e hl
        have nbr : b ≠ r := ne_of_none e hr0
        rw [upd_ne nbr, upd_ne nbl]
        exact B3 b o hb (s2 _ _ (B1 b o hb e))
      · obtain ⟨x, y, hd, rr⟩ := D3
        have n1 : d ≠ l := (ne_of hL3 hd (nl _ _)).symm
        have n2 : d ≠ r := (ne_of hR3 hd (nl _ _)).symm
        exact ⟨x, y, by rw [upd_ne n2, upd_ne n1]; exact hd, rr⟩
      · rw [upd_ne nlr, upd_same]
      · rw [upd_same, List.map_append]; rfl
end
/-! ### pins as a forest: what is laid out is what is sorted by the places of the anchors -/
structure Forest (base : List Int) (p : Int → Option Int) (r : Int → Nat) (N : Nat) : Prop where
  nd : base.Nodup
  nz : ∀ x ∈ base, x ≠ 0
  lt : ∀ x ∈ base, r x < N
  anc : ∀ x ∈ base, ∀ a, p x = some a → a = 0 ∨ (a ∈ base ∧ r a < r x)
def kidsOf (base : List Int) (p : Int → Option Int) (a : Int) : List Int := base.filter fun x => p x == some a
def looseOf (base : List Int) (p : Int → Option Int) : List Int := base.filter fun x => p x == none
def dfsN (base : List Int) (p : Int → Option Int) : Nat → Int → List Int
  | 0, x => [x]
  | n + 1, x => x :: (kidsOf base p x).flatMap (dfsN base p n)
def ixI (base : List Int) (x : Int) : Int := (base.idxOf x : Nat)
def pathN (base : List Int) (p : Int → Option Int) : Nat → Int → List Int
  | 0, x => match p x with
    | none => [1, ixI base x]
    | some a => if a = 0 then [0, ixI base x] else []
  | m + 1, x => match p x with
    | none => [1, ixI base x]
    | some a => if a = 0 then [0, ixI base x] else pathN base p m a ++ [ixI base x]
theorem pathN_none {base : List Int} {p : Int → Option Int} {x : Int} (h : p x = none) : ∀ n, pathN base p n x = [1, ixI base x]
  | 0 => by rw [pathN, h]
  | n + 1 => by rw [pathN, h]
theorem pathN_top {base : List Int} {p : Int → Option Int} {x : Int} (h : p x = some 0) : ∀ n, pathN base p n x = [0, ixI base x]
  | 0 => by rw [pathN, h]; exact if_pos rfl
  | n + 1 => by rw [pathN, h]; exact if_pos rfl
theorem pathN_step {base : List Int} {p : Int → Option Int} {x a : Int} (h : p x = some a) (ha : a ≠ 0) (n : Nat) : pathN base p (n + 1) x = pathN base p n a ++ [ixI base x] := by
  rw [pathN, h]
  exact if_neg ha
theorem mem_kids {base : List Int} {p : Int → Option Int} {a x : Int} : x ∈ kidsOf base p a ↔ x ∈ base ∧ p x = some a := by
  unfold kidsOf
  rw [List.mem_filter, beq_iff_eq]
theorem mem_loose {base : List Int} {p : Int → Option Int} {x : Int} : x ∈ looseOf base p ↔ x ∈ base ∧ p x = none := by
  unfold looseOf
  rw [List.mem_filter, beq_iff_eq]
theorem app_lt (a : List Int) {x : Int} {s : List Int} : a < a ++ x :: s := by
  induction a with
  | nil => exact List.nil_lt_cons _ _
  | cons y r ih => rw [List.cons_append]; exact List.cons_lt_cons_iff.mpr (.inr ⟨rfl, ih⟩)
theorem app_lt2 (a : List Int) {b c : List Int} (h : b < c) : a ++ b < a ++ c := by
  induction a with
  | nil => exact h
  | cons y r ih => rw [List.cons_append, List.cons_append]; exact List.cons_lt_cons_iff.mpr (.inr ⟨rfl, ih⟩)
section
variable {base : List Int} {p : Int → Option Int} {r : Int → Nat} {N : Nat}
def treeOf (base : List Int) (p : Int → Option Int) (r : Int → Nat) (N : Nat) (x : Int) : List Int := dfsN base p (N - r x) x
def pathOf (base : List Int) (p : Int → Option Int) (r : Int → Nat) (x : Int) : List Int := pathN base p (r x) x
theorem kid_up (F : Forest base p r N) {a x : Int} (ha : a ∈ base) (h : x ∈ kidsOf base p a) : x ∈ base ∧ r a < r x := by
  obtain ⟨h1, h2⟩ := mem_kids.mp h
  rcases F.anc x h1 a h2 with e | ⟨_, e⟩
  · exact absurd e (F.nz a ha)
  · exact ⟨h1, e⟩
theorem dfs_more (F : Forest base p r N) : ∀ (n : Nat) (x : Int), x ∈ base → N - r x ≤ n → dfsN base p n x = treeOf base p r N x
  | 0, x, hx, h => by have := F.lt x hx; omega
  | n + 1, x, hx, h => by
    have hlt := F.lt x hx
    unfold treeOf
    obtain ⟨m, hm⟩ : ∃ m, N - r x = m + 1 := ⟨N - r x - 1, by omega⟩
    rw [hm, dfsN, dfsN]
    congr 1
    have key : ∀ l : List Int, (∀ c ∈ l, c ∈ kidsOf base p x) → l.flatMap (dfsN base p n) = l.flatMap (dfsN base p m) := by
      intro l
      induction l with
      | nil => intro _; rfl
      | cons c l ih =>
        intro hl
        obtain ⟨c1, c2⟩ := kid_up F hx (hl c List.mem_cons_self)
        rw [List.flatMap_cons, List.flatMap_cons, ih fun c hc => hl c (List.mem_cons_of_mem _ hc)]
        rw [dfs_more F n c c1 (by omega)]
        by_cases hmn : m = n
        · subst hmn; rw [dfs_more F m c c1 (by omega)]
        · have hmn2 : m < n + 1 := by omega
          congr 1
          unfold treeOf
          have := F.lt c c1
          have e1 : dfsN base p m c = treeOf base p r N c := dfs_more F m c c1 (by omega)
          rw [e1]; rfl
    exact key _ fun c hc => hc
termination_by n => n
theorem tree_eq (F : Forest base p r N) {x : Int} (hx : x ∈ base) : treeOf base p r N x = x :: (kidsOf base p x).flatMap (treeOf base p r N) := by
  have hlt := F.lt x hx
  have e : dfsN base p (N + 1) x = treeOf base p r N x := dfs_more F (N + 1) x hx (by omega)
  rw [← e, dfsN]
  congr 1
  have key : ∀ l : List Int, (∀ c ∈ l, c ∈ kidsOf base p x) → l.flatMap (dfsN base p N) = l.flatMap (treeOf base p r N) := by
    intro l
    induction l with
    | nil => intro _; rfl
    | cons c l ih =>
      intro hl
      obtain ⟨c1, c2⟩ := kid_up F hx (hl c List.mem_cons_self)
      rw [List.flatMap_cons, List.flatMap_cons, ih fun c hc => hl c (List.mem_cons_of_mem _ hc), dfs_more F N c c1 (by omega)]
  exact key _ fun c hc => hc
theorem path_more (F : Forest base p r N) : ∀ (n : Nat) (x : Int), x ∈ base → r x ≤ n → pathN base p n x = pathOf base p r x
  | n, x, hx, h => by
    unfold pathOf
    cases hp : p x with
    | none => rw [pathN_none hp, pathN_none hp]
    | some a =>
      by_cases ha : a = 0
      · subst ha
        rw [pathN_top hp, pathN_top hp]
      · rcases F.anc x hx a hp with e | ⟨a1, a2⟩
        · exact absurd e ha
        · obtain ⟨m, hm⟩ : ∃ m, r x = m + 1 := ⟨r x - 1, by omega⟩
          obtain ⟨k, rfl⟩ : ∃ k, n = k + 1 := ⟨n - 1, by omega⟩
          rw [hm, pathN_step hp ha, pathN_step hp ha, path_more F k a a1 (by omega), path_more F m a a1 (by omega)]
termination_by n => n
theorem path_none {x : Int} (h : p x = none) : pathOf base p r x = [1, ixI base x] := pathN_none h _
theorem path_top {x : Int} (h : p x = some 0) : pathOf base p r x = [0, ixI base x] := pathN_top h _
theorem path_step (F : Forest base p r N) {x a : Int} (hx : x ∈ base) (h : p x = some a) (ha : a ≠ 0) : a ∈ base ∧ pathOf base p r x = pathOf base p r a ++ [ixI base x] := by
  rcases F.anc x hx a h with e | ⟨a1, a2⟩
  · exact absurd e ha
  · refine ⟨a1, ?_⟩
    have e := path_more F (r x + 1) x hx (by omega)
    rw [← e, pathN_step h ha, path_more F (r x) a a1 (by omega)]
theorem ix_sorted {base : List Int} {f : Int → Bool} (nd : base.Nodup) : (base.filter f).Pairwise fun a b => ixI base a < ixI base b := by
  have h : base.Pairwise fun a b => ixI base a < ixI base b := by
    refine List.pairwise_iff_getElem.mpr fun i j hi hj hij => ?_
    unfold ixI
    rw [nd.idxOf_getElem i hi, nd.idxOf_getElem j hj]
    omega
  exact h.filter f
/-- what hangs on x -/
theorem tree_ok (F : Forest base p r N) : ∀ (n : Nat) (x : Int), x ∈ base → N - r x ≤ n → (∀ y ∈ treeOf base p r N x, y ∈ base ∧ ∃ s, pathOf base p r y = pathOf base p r x ++ s) ∧ (treeOf base p r N x).Pairwise (fun a b => pathOf base p r a < pathOf base p r b)
  | 0, x, hx, h => by have := F.lt x hx; omega
  | n + 1, x, hx, h => by
    have hlt := F.lt x hx
    have hk : ∀ c ∈ kidsOf base p x, c ∈ base ∧ (∀ y ∈ treeOf base p r N c, y ∈ base ∧ ∃ s, pathOf base p r y = pathOf base p r x ++ ixI base c :: s) ∧ (treeOf base p r N c).Pairwise (fun a b => pathOf base p r a < pathOf base p r b) := fun c hc => by
      obtain ⟨c1, c2⟩ := kid_up F hx hc
      obtain ⟨i1, i2⟩ := tree_ok F n c c1 (by omega)
      refine ⟨c1, fun y hy => ?_, i2⟩
      obtain ⟨y1, s, hs⟩ := i1 y hy
      refine ⟨y1, s, ?_⟩
      rw [hs, (path_step F c1 (mem_kids.mp hc).2 (F.nz x hx)).2, List.append_assoc]; rfl
    rw [tree_eq F hx]
    refine ⟨fun y hy => ?_, List.pairwise_cons.mpr ⟨fun y hy => ?_, List.pairwise_flatMap.mpr ⟨fun c hc => (hk c hc).2.2, ?_⟩⟩⟩
    · rcases List.mem_cons.mp hy with e | hy
      · rw [e]; exact ⟨hx, [], by rw [List.append_nil]⟩
      · obtain ⟨c, hc, hy⟩ := List.mem_flatMap.mp hy
        obtain ⟨y1, s, hs⟩ := (hk c hc).2.1 y hy
        exact ⟨y1, _, hs⟩
    · obtain ⟨c, hc, hy⟩ := List.mem_flatMap.mp hy
      obtain ⟨y1, s, hs⟩ := (hk c hc).2.1 y hy
      rw [hs]
      exact app_lt _
    · have hs : (kidsOf base p x).Pairwise fun a b => ixI base a < ixI base b := ix_sorted F.nd
      refine (List.pairwise_iff_forall_sublist.mpr fun {a b} hab u hu v hv => ?_)
      have hab2 := List.pairwise_iff_forall_sublist.mp hs hab
      have ha : a ∈ kidsOf base p x := hab.subset (by simp)
      have hb : b ∈ kidsOf base p x := hab.subset (by simp)
      obtain ⟨_, s1, e1⟩ := (hk a ha).2.1 u hu
      obtain ⟨_, s2, e2⟩ := (hk b hb).2.1 v hv
      rw [e1, e2]
      exact app_lt2 _ (List.cons_lt_cons_iff.mpr (.inl hab2))
termination_by n => n
/-- the laid order -/
def laidOf (base : List Int) (p : Int → Option Int) (r : Int → Nat) (N : Nat) : List Int := (kidsOf base p 0 ++ looseOf base p).flatMap (treeOf base p r N)
theorem tree_kids (F : Forest base p r N) : ∀ (n : Nat) (x : Int), x ∈ base → N - r x ≤ n → ∀ a ∈ treeOf base p r N x, ∀ c ∈ kidsOf base p a, c ∈ treeOf base p r N x
  | 0, x, hx, h => by have := F.lt x hx; omega
  | n + 1, x, hx, h => by
    have hlt := F.lt x hx
    intro a ha c hc
    rw [tree_eq F hx] at ha ⊢
    refine List.mem_cons_of_mem _ (List.mem_flatMap.mpr ?_)
    rcases List.mem_cons.mp ha with e | ha
    · rw [e] at hc
      refine ⟨c, hc, ?_⟩
      rw [tree_eq F (kid_up F hx hc).1]
      exact List.mem_cons_self
    · obtain ⟨k, hk, ha⟩ := List.mem_flatMap.mp ha
      obtain ⟨k1, k2⟩ := kid_up F hx hk
      exact ⟨k, hk, tree_kids F n k k1 (by omega) a ha c hc⟩
termination_by n => n
theorem tops_in {x : Int} (h : x ∈ kidsOf base p 0 ++ looseOf base p) : x ∈ base := by
  rcases List.mem_append.mp h with q | q
  · exact (mem_kids.mp q).1
  · exact (mem_loose.mp q).1
theorem laid_in (F : Forest base p r N) {y : Int} (h : y ∈ laidOf base p r N) : y ∈ base := by
  obtain ⟨c, hc, hy⟩ := List.mem_flatMap.mp h
  exact ((tree_ok F (N - r c) c (tops_in hc) (Nat.le_refl _)).1 y hy).1
theorem laid_all (F : Forest base p r N) : ∀ (n : Nat) (x : Int), x ∈ base → r x ≤ n → x ∈ laidOf base p r N
  | n, x, hx, h => by
    have top : x ∈ kidsOf base p 0 ++ looseOf base p → x ∈ laidOf base p r N := fun q => List.mem_flatMap.mpr ⟨x, q, by rw [tree_eq F hx]; exact List.mem_cons_self⟩
    cases hp : p x with
    | none => exact top (List.mem_append_right _ (mem_loose.mpr ⟨hx, hp⟩))
    | some a =>
      rcases F.anc x hx a hp with e | ⟨a1, a2⟩
      · subst e
        exact top (List.mem_append_left _ (mem_kids.mpr ⟨hx, hp⟩))
      · obtain ⟨m, rfl⟩ : ∃ m, n = m + 1 := ⟨n - 1, by omega⟩
        obtain ⟨c, hc, ha⟩ := List.mem_flatMap.mp (laid_all F m a a1 (by omega))
        exact List.mem_flatMap.mpr ⟨c, hc, tree_kids F _ c (tops_in hc) (Nat.le_refl _) a ha x (mem_kids.mpr ⟨hx, hp⟩)⟩
termination_by n => n
theorem laid_up (F : Forest base p r N) : (laidOf base p r N).Pairwise fun a b => pathOf base p r a < pathOf base p r b := by
  have hk : ∀ c ∈ kidsOf base p 0 ++ looseOf base p, (treeOf base p r N c).Pairwise fun a b => pathOf base p r a < pathOf base p r b := fun c hc => (tree_ok F _ c (tops_in hc) (Nat.le_refl _)).2
  have h0 : ∀ c ∈ kidsOf base p 0, ∀ y ∈ treeOf base p r N c, ∃ s, pathOf base p r y = 0 :: ixI base c :: s := fun c hc y hy => by
    obtain ⟨_, s, e⟩ := (tree_ok F _ c (mem_kids.mp hc).1 (Nat.le_refl _)).1 y hy
    exact ⟨s, by rw [e, path_top (mem_kids.mp hc).2]; rfl⟩
  have h1 : ∀ c ∈ looseOf base p, ∀ y ∈ treeOf base p r N c, ∃ s, pathOf base p r y = 1 :: ixI base c :: s := fun c hc y hy => by
    obtain ⟨_, s, e⟩ := (tree_ok F _ c (mem_loose.mp hc).1 (Nat.le_refl _)).1 y hy
    exact ⟨s, by rw [e, path_none (mem_loose.mp hc).2]; rfl⟩
  have hs : ∀ f : Int → Bool, (base.filter f).Pairwise fun a b => ixI base a < ixI base b := fun f => ix_sorted F.nd
  refine List.pairwise_flatMap.mpr ⟨hk, List.pairwise_append.mpr ⟨?_, ?_, ?_⟩⟩
  · refine List.pairwise_iff_forall_sublist.mpr fun {a b} hab u hu v hv => ?_
    have ha : a ∈ kidsOf base p 0 := hab.subset (by simp)
    have hb : b ∈ kidsOf base p 0 := hab.subset (by simp)
    obtain ⟨s1, e1⟩ := h0 a ha u hu
    obtain ⟨s2, e2⟩ := h0 b hb v hv
    rw [e1, e2]
    exact List.cons_lt_cons_iff.mpr (.inr ⟨rfl, List.cons_lt_cons_iff.mpr (.inl (List.pairwise_iff_forall_sublist.mp (hs _) hab))⟩)
  · refine List.pairwise_iff_forall_sublist.mpr fun {a b} hab u hu v hv => ?_
    have ha : a ∈ looseOf base p := hab.subset (by simp)
    have hb : b ∈ looseOf base p := hab.subset (by simp)
    obtain ⟨s1, e1⟩ := h1 a ha u hu
    obtain ⟨s2, e2⟩ := h1 b hb v hv
    rw [e1, e2]
    exact List.cons_lt_cons_iff.mpr (.inr ⟨rfl, List.cons_lt_cons_iff.mpr (.inl (List.pairwise_iff_forall_sublist.mp (hs _) hab))⟩)
  · intro a ha b hb u hu v hv
    obtain ⟨s1, e1⟩ := h0 a ha u hu
    obtain ⟨s2, e2⟩ := h1 b hb v hv
    rw [e1, e2]
    exact List.cons_lt_cons_iff.mpr (.inl (by decide))
theorem laid_nodup (F : Forest base p r N) : (laidOf base p r N).Nodup := (laid_up F).imp fun {a b} h e => by
  subst e
  exact List.lt_irrefl _ h
theorem laid_perm (F : Forest base p r N) : (laidOf base p r N).Perm base :=
  (List.perm_ext_iff_of_nodup (laid_nodup F) F.nd).mpr fun a => ⟨laid_in F, fun h => laid_all F _ a h (Nat.le_refl _)⟩
theorem path_inj (F : Forest base p r N) {x y : Int} (hx : x ∈ base) (hy : y ∈ base) (h : x ≠ y) : pathOf base p r x ≠ pathOf base p r y := by
  intro e
  have hx2 := laid_all F _ x hx (Nat.le_refl _)
  have hy2 := laid_all F _ y hy (Nat.le_refl _)
  obtain ⟨i, hi, ei⟩ := List.getElem_of_mem hx2
  obtain ⟨j, hj, ej⟩ := List.getElem_of_mem hy2
  have up := List.pairwise_iff_getElem.mp (laid_up F)
  rcases Nat.lt_trichotomy i j with q | q | q
  · have := up i j hi hj q
    rw [ei, ej, e] at this
    exact List.lt_irrefl _ this
  · subst q
    exact h (ei.symm.trans ej)
  · have := up j i hj hi q
    rw [ei, ej, e] at this
    exact List.lt_irrefl _ this
theorem laid_sort (F : Forest base p r N) : base.mergeSort (fun a b => decide (pathOf base p r a ≤ pathOf base p r b)) = laidOf base p r N := by
  have h4 : (base.mergeSort (fun a b => decide (pathOf base p r a ≤ pathOf base p r b))).Pairwise (fun a b => pathOf base p r a ≤ pathOf base p r b) := by
    have := List.pairwise_mergeSort (le := fun a b : Int => decide (pathOf base p r a ≤ pathOf base p r b)) (fun a b c x y => decide_eq_true (List.le_trans (of_decide_eq_true x) (of_decide_eq_true y)))
      (fun a b => by
        rcases List.le_total (pathOf base p r a) (pathOf base p r b) with q | q
        · rw [decide_eq_true q]; rfl
        · rw [decide_eq_true q, Bool.or_true]) base
    exact this.imp fun z => of_decide_eq_true z
  refine List.Perm.eq_of_pairwise (le := fun a b => pathOf base p r a ≤ pathOf base p r b) (fun a b ha hb x y => ?_) h4 ((laid_up F).imp fun z => List.le_of_lt z) ((List.mergeSort_perm _ _).trans (laid_perm F).symm)
  by_cases e : a = b
  · exact e
  · exact absurd (List.le_antisymm x y) (path_inj F (List.mem_mergeSort.mp ha) (laid_in F hb) e)
end
/-! ### lists hung in a dict -/
def HungAt (G : Hp) (n : Nat) (H : Hp) (h : Addr) (f : Int → List Int) : Prop := ∃ kvs : List (Key × V), H h = some (.dK kvs) ∧ kvs.length ≤ n ∧
  (∀ a, (valV kvs (.inl a : Key) = none ∧ f a = []) ∨ ∃ l, valV kvs (.inl a : Key) = some (.ref l) ∧ H l = some (.lst ((f a).map V.int)) ∧ G l = none) ∧
  ∀ a b l, valV kvs (.inl a : Key) = some (.ref l) → valV kvs (.inl b : Key) = some (.ref l) → a = b
def pushF (f : Int → List Int) (a x : Int) : Int → List Int := fun b => if b = a then f a ++ [x] else f b
theorem HungAt.nil {G H : Hp} {h : Addr} (e : H h = some (.dK [])) : HungAt G 0 H h fun _ => [] :=
  ⟨[], e, Nat.le_refl _, fun a => .inl ⟨rfl, rfl⟩, fun a b l z => by cases z⟩
theorem HungAt.same {G H H' : Hp} {n : Nat} {h : Addr} {f : Int → List Int} (s : Same H H') (g : HungAt G n H h f) : HungAt G n H' h f := by
  obtain ⟨kvs, h1, hn, h2, h3⟩ := g
  refine ⟨kvs, s _ _ h1, hn, fun a => ?_, h3⟩
  rcases h2 a with q | ⟨l, q1, q2, q3⟩
  · exact .inl q
  · exact .inr ⟨l, q1, s _ _ q2, q3⟩
/-- d.setdefault(a, []).append(x), with the list at z made for it -/
theorem HungAt.push {G H : Hp} {n : Nat} {h z : Addr} {f : Int → List Int} {a x : Int} (g : HungAt G n H h f) (hz : H z = none) (gz : G z = none) (gh : G h = none) (sG : Same G H) :
    ∃ kvs, (upd H z (.lst [])) h = some (.dK kvs) ∧ kvs.length ≤ n ∧
      (∀ v, valV kvs (.inl a : Key) = some v → ∃ l, v = .ref l ∧ (upd H z (.lst [])) l = some (.lst ((f a).map V.int)) ∧ HungAt G (n + 1) (upd (upd H z (.lst [])) l (.lst ((f a).map V.int ++ [.int x]))) h (pushF f a x) ∧ Same G (upd (upd H z (.lst [])) l (.lst ((f a).map V.int ++ [.int x])))) ∧
      (valV kvs (.inl a : Key) = none → (upd (upd H z (.lst [])) h (.dK (putK kvs (.inl a : Key) (.ref z)))) z = some (.lst []) ∧ HungAt G (n + 1) (upd (upd (upd H z (.lst [])) h (.dK (putK kvs (.inl a : Key) (.ref z)))) z (.lst ([] ++ [.int x]))) h (pushF f a x) ∧
        Same G (upd (upd (upd H z (.lst [])) h (.dK (putK kvs (.inl a : Key) (.ref z)))) z (.lst ([] ++ [.int x])))) := by
  obtain ⟨kvs, h1, hn, h2, h3⟩ := g
  have nzh : h ≠ z := ne_of_none h1 hz
  have s1 : Same H (upd H z (.lst [])) := Same.new hz
  have old : ∀ b : Int, valV kvs (.inl b : Key) ≠ some (.ref z) := fun b q => by
    rcases h2 b with w | ⟨l2, w1, w2, _⟩
    · rw [w.1] at q; cases q
    · rw [q] at w1
      cases w1
      rw [hz] at w2; cases w2
  refine ⟨kvs, s1 _ _ h1, hn, fun v hv => ?_, fun hv => ?_⟩
  · rcases h2 a with q | ⟨l, q1, q2, q3⟩
    · rw [q.1] at hv; cases hv
    · rw [hv] at q1
      have hl := s1 _ _ q2
      refine ⟨l, Option.some.inj q1, hl, ⟨kvs, by rw [upd_ne (ne_of (s1 _ _ h1) hl (fun z => by cases z))]; exact s1 _ _ h1, by omega, fun b => ?_, h3⟩, fun b o e => by rw [upd_ne (ne_of_none e q3)]; exact s1 _ _ (sG _ _ e)⟩
      rw [q1] at hv
      by_cases e : b = a
      · subst e
        refine .inr ⟨l, hv, ?_, q3⟩
        rw [upd_same]
        unfold pushF
        rw [if_pos rfl, List.map_append]; rfl
      · unfold pushF
        rw [if_neg e]
        rcases h2 b with q | ⟨l2, w1, w2, w3⟩
        · exact .inl q
        · refine .inr ⟨l2, w1, ?_, w3⟩
          have nn : l2 ≠ l := fun z => by
            subst z
            exact e (h3 _ _ _ w1 hv)
          rw [upd_ne nn]
          exact s1 _ _ w2
  · have fa : f a = [] := by
      rcases h2 a with q | ⟨l, q, _⟩
      · exact q.2
      · rw [hv] at q; cases q
    have key : ∀ b : Int, valV (putK kvs (.inl a : Key) (.ref z)) (.inl b : Key) = if b = a then some (.ref z) else valV kvs (.inl b : Key) := fun b => by
      rw [valV_put]
      by_cases e : b = a
      · rw [if_pos e, if_pos (by rw [e])]
      · rw [if_neg e, if_neg (fun q => e (Sum.inl.inj q))]
    refine ⟨by rw [upd_ne nzh.symm, upd_same], ⟨_, by rw [upd_ne nzh, upd_same], Nat.le_trans (length_putK _ _ _) (by omega), fun b => ?_, fun b c l e1 e2 => ?_⟩, fun b o e => by rw [upd_ne (ne_of_none e gz), upd_ne (ne_of_none e gh)]; exact s1 _ _ (sG _ _ e)⟩
    · rw [key]
      unfold pushF
      by_cases e : b = a
      · rw [if_pos e, if_pos e, fa]
        exact .inr ⟨z, rfl, by rw [upd_same]; rfl, gz⟩
      · rw [if_neg e, if_neg e]
        rcases h2 b with q | ⟨l2, q1, q2, q3⟩
        · exact .inl q
        · exact .inr ⟨l2, q1, by rw [upd_ne (ne_of_none q2 hz), upd_ne (ne_of q2 h1 (fun z => by cases z)), upd_ne (ne_of_none q2 hz)]; exact q2, q3⟩
    · rw [key] at e1 e2
      by_cases eb : b = a
      · by_cases ec : c = a
        · rw [eb, ec]
        · rw [if_pos eb] at e1
          rw [if_neg ec, ← e1] at e2
          exact absurd e2 (old c)
      · by_cases ec : c = a
        · rw [if_pos ec] at e2
          rw [if_neg eb, ← e2] at e1
          exact absurd e1 (old b)
        · rw [if_neg eb] at e1
          rw [if_neg ec] at e2
          exact h3 _ _ _ e1 e2
/-! ### pins in the heap -/
def pinK (ps : List (Int × Int)) : List (Key × V) := ps.map fun e => (.inl e.1, .int e.2)
def anOf (ps : List (Int × Int)) (x : Int) : Option Int := (ps.find? fun e => decide (e.1 = x)).map (·.2)
theorem val_pin : ∀ (ps : List (Int × Int)) (x : Int), valV (pinK ps) (.inl x : Key) = (anOf ps x).map V.int
  | [], _ => rfl
  | e :: ps, x => by
    by_cases h : e.1 = x
    · rw [show pinK (e :: ps) = ((.inl e.1 : Key), V.int e.2) :: pinK ps from rfl, valV_pos (by show (.inl e.1 : Key) = .inl x; rw [h])]
      unfold anOf
      rw [List.find?_cons_of_pos (by exact decide_eq_true h)]
      rfl
    · rw [show pinK (e :: ps) = ((.inl e.1 : Key), V.int e.2) :: pinK ps from rfl, valV_neg (fun z : (.inl e.1 : Key) = .inl x => h (Sum.inl.inj z)), val_pin ps x]
      unfold anOf
      rw [List.find?_cons_of_neg (by intro z; exact h (of_decide_eq_true z))]
theorem kids_snoc {base : List Int} {p : Int → Option Int} {i : Nat} {x : Int} (h : base[i]? = some x) (a : Int) : kidsOf (base.take (i + 1)) p a = kidsOf (base.take i) p a ++ (if p x = some a then [x] else []) := by
  unfold kidsOf
  rw [take_snoc h, List.filter_append]
  congr 1
  by_cases e : p x = some a
  · rw [if_pos e, List.filter_cons_of_pos (by rw [beq_iff_eq]; exact e)]; rfl
  · rw [if_neg e, List.filter_cons_of_neg (by rw [beq_iff_eq]; exact e)]; rfl
theorem loose_snoc {base : List Int} {p : Int → Option Int} {i : Nat} {x : Int} (h : base[i]? = some x) : looseOf (base.take (i + 1)) p = looseOf (base.take i) p ++ (if p x = none then [x] else []) := by
  unfold looseOf
  rw [take_snoc h, List.filter_append]
  congr 1
  by_cases e : p x = none
  · rw [if_pos e, List.filter_cons_of_pos (by rw [beq_iff_eq]; exact e)]; rfl
  · rw [if_neg e, List.filter_cons_of_neg (by rw [beq_iff_eq]; exact e)]; rfl
theorem len_kids (base : List Int) (p : Int → Option Int) (a : Int) : (kidsOf base p a).length ≤ base.length := List.length_filter_le _ _
theorem len_loose (base : List Int) (p : Int → Option Int) : (looseOf base p).length ≤ base.length := List.length_filter_le _ _
section
variable {P : Program} {w : World} {K : PySem.W.Frag} {mg : Str → Option Value} {base : Heap}
/-! ### spread -/
def spSpread (K : PySem.W.Frag) : Sp := fun vs H Q _ => ∃ (l h : Addr) (ids : List Int) (p : Int → Option Int) (r : Int → Nat) (N : Nat), vs = [.ref l, .ref h] ∧ H l = some (.lst ((looseOf ids p).map V.int)) ∧ (∃ G n, HungAt G n H h (kidsOf ids p)) ∧ Forest ids p r N ∧ ids.length ≤ 300 ∧
  ∀ (q : Addr) (H' : Hp), Same H H' → H q = none → H' q = some (.lst ((laidOf ids p r N).map V.int)) → Q (.ref q) H'
theorem scSpread : FnScope ["loose", "hung", "waiting", "order", "row_id"] ["loose", "hung"] (defScope sSpread) := ⟨rfl, rfl, rfl, by decide +kernel, rfl, by decide +kernel, by decide +kernel⟩
theorem HungAt.get {G H : Hp} {n : Nat} {h z : Addr} {f : Int → List Int} (g : HungAt G n H h f) (a : Int) (hz : H z = some (.lst [])) : ∃ o, DGet H h (.int a) o ∧ ∃ l, o.getD (.ref z) = .ref l ∧ H l = some (.lst ((f a).map V.int)) := by
  obtain ⟨kvs, h1, _, h2, h3⟩ := g
  have d := DGet.k (k := (.inl a : Key)) h1
  rcases h2 a with ⟨q1, q2⟩ | ⟨l, q1, q2, _⟩
  · rw [q1] at d
    exact ⟨_, d, z, rfl, by rw [q2]; exact hz⟩
  · rw [q1] at d
    exact ⟨_, d, l, rfl, q2⟩
theorem HungAt.isD {G H : Hp} {n : Nat} {h : Addr} {f : Int → List Int} (g : HungAt G n H h f) : IsD H h := by
  obtain ⟨kvs, h1, _⟩ := g
  exact .inl ⟨kvs, .inl h1⟩
theorem flat_len {ids : List Int} {p : Int → Option Int} {r : Int → Nat} {N : Nat} (F : Forest ids p r N) : ∀ l : List Int, (∀ x ∈ l, x ∈ ids) → l.length ≤ (l.flatMap (treeOf ids p r N)).length
  | [], _ => Nat.zero_le _
  | x :: l, h => by
    have ih := flat_len F l fun y hy => h y (List.mem_cons_of_mem _ hy)
    rw [List.flatMap_cons, List.length_append, tree_eq F (h x List.mem_cons_self), List.length_cons, List.length_cons]
    omega
theorem ok_spread {f : Addr} {fd : FuncData} (F : Fun K "spread" "spread" sSpread f fd) (nlen : mg "len" = none) : FnOk P w K mg base CX0 1 f fd ["loose", "hung"] (spSpread K) := by
  refine F.ok scSpread (fun vs H Q E h => ?_) (fun cdv A outer s H vs Q E hr h => ?_)
  · obtain ⟨l, h, ids, p, r, N, rfl, _⟩ := h
    rfl
  · obtain ⟨l, h, ids, p, r, N, rfl, hl, ⟨G, n, hh⟩, Fo, hlen, k⟩ := h
    have hu := hu_of hr
    refine ⟨_, pss_cons (ps_set (i := 2) scSpread.nd rfl (Or.inl rfl) (pe_revL (pe_op op_cat (pe_dget2 hu (pv 1) pe_int (pe_lst pa_nil) ⟨rfl, rfl, rfl, rfl⟩) (pv 0))))
      (pss_cons (ps_set (i := 3) scSpread.nd rfl (Or.inl rfl) (pe_lst pa_nil))
      (pss_cons (ps_while PassesOwn.never (pt_cmpR op_gt (pe_callB call_len_seq (by rfl) nlen PySem.boot_len (pa_cons (pv 2) pa_nil)) pe_int (nomark _))
        (pss_cons (ps_set (i := 4) scSpread.nd rfl (Or.inl rfl) (pe_bm0 PySem.F.plainAttrs_list PySem.F.slot_list_pop PySem.F.type_list_pop mt_pop (pv 2)))
        (pss_cons (ps_expr (pe_bm PySem.F.plainAttrs_list PySem.F.slot_list_append PySem.F.type_list_append mt_append (pv 3) (pa_cons (pv 4) pa_nil)))
        (pss_one (ps_expr (pe_bm PySem.F.plainAttrs_list PySem.F.slot_list_extend PySem.F.type_list_extend mt_extend (pv 2) (pa_cons (pe_revL (pe_dget2 hu (pv 1) (pv 4) (pe_lst pa_nil) ⟨rfl, rfl, rfl, rfl⟩)) pa_nil)))))))
      (pss_one (ps_ret (pv 3))))), ?_⟩
    have h16 : sizeLine = 16777216 := sizeLine_eq
    have hperm := (laid_perm Fo).length_eq
    refine ⟨_, rfl, h, rfl, hh.isD, Nat.zero_le _, fun z hz => ?_⟩
    have hh1 := hh.same (Same.new (o := .lst []) hz)
    obtain ⟨o, d1, l1, e1, g1⟩ := hh1.get 0 upd_same
    have lk := len_kids ids p 0
    have ll := len_loose ids p
    refine ⟨o, d1, _, rfl, l1, l, _, _, e1, rfl, g1, Same.new hz _ _ hl, by rw [List.length_map, List.length_map, h16]; omega, fun c hc => ?_⟩
    refine ⟨c, _, rfl, SqL.of upd_same, fun wq hwq => ?_⟩
    have e2 : ((kidsOf ids p 0).map V.int ++ (looseOf ids p).map V.int).reverse = ((kidsOf ids p 0 ++ looseOf ids p).reverse).map V.int := by rw [← List.map_append, List.map_reverse]
    rw [e2]
    have s1 : Same H (upd (upd (upd H z (.lst [])) c (.lst ((kidsOf ids p 0).map V.int ++ (looseOf ids p).map V.int))) wq (.lst (((kidsOf ids p 0 ++ looseOf ids p).reverse).map V.int))) := (Same.new hz).trans ((Same.new hc).trans (Same.new hwq))
    have hwq0 : H wq = none := Same.free ((Same.new (o := .lst []) hz).trans (Same.new (o := .lst ((kidsOf ids p 0).map V.int ++ (looseOf ids p).map V.int)) hc)) hwq
    have hW0 : (upd (upd (upd H z (.lst [])) c (.lst ((kidsOf ids p 0).map V.int ++ (looseOf ids p).map V.int))) wq (.lst (((kidsOf ids p 0 ++ looseOf ids p).reverse).map V.int))) wq = some (.lst (((kidsOf ids p 0 ++ looseOf ids p).reverse).map V.int)) := upd_same
    generalize (upd (upd (upd H z (.lst [])) c (.lst ((kidsOf ids p 0).map V.int ++ (looseOf ids p).map V.int))) wq (.lst (((kidsOf ids p 0 ++ looseOf ids p).reverse).map V.int))) = H1 at s1 hW0 ⊢
    refine ⟨Nat.zero_le _, fun od hod => ?_⟩
    have hod0 : H od = none := Same.free s1 hod
    have nwo : wq ≠ od := ne_of_none hW0 hod
    refine ⟨fun m σ H' => ∃ (W os : List Int) (v : Option V), σ = [some (.ref l), some (.ref h), some (.ref wq), some (.ref od), v] ∧ m = (W.reverse.flatMap (treeOf ids p r N)).length ∧ Same H H' ∧ H' wq = some (.lst (W.map V.int)) ∧ H' od = some (.lst (os.map V.int)) ∧
        os ++ W.reverse.flatMap (treeOf ids p r N) = laidOf ids p r N ∧ ∀ x ∈ W, x ∈ ids,
      ⟨_, (kidsOf ids p 0 ++ looseOf ids p).reverse, [], none, rfl, rfl, s1.trans (Same.new hod), by rw [upd_ne nwo]; exact hW0, upd_same, by rw [List.reverse_reverse]; rfl, fun x hx => tops_in (List.mem_reverse.mp hx)⟩, ?_⟩
    rintro m σ H2 ⟨W, os, v, rfl, rfl, s2, hW, hO, hlaid, hin⟩
    have hlen2 : os.length + (W.reverse.flatMap (treeOf ids p r N)).length = ids.length := by rw [← List.length_append, hlaid, hperm]
    have hWl := flat_len Fo W.reverse fun x hx => hin x (List.mem_reverse.mp hx)
    rw [List.length_reverse] at hWl
    refine ⟨_, rfl, wq, _, rfl, .inl (SqL.of hW), _, _, rfl, rfl, _, rfl, ?_⟩
    rcases List.eq_nil_or_concat W with rfl | ⟨W0, x, rfl⟩
    · refine iteF ?_
      refine ⟨_, rfl, k od H2 s2 hod0 ?_⟩
      rw [hO, ← hlaid]
      rw [List.reverse_nil, List.flatMap_nil, List.append_nil]
    · refine ite2 (fun _ => ?_) (fun c => absurd (decide_eq_true (by rw [List.length_map, List.concat_eq_append, List.length_append]; show (0 : Int) < ((W0.length + 1 : Nat) : Int); omega)) c)
      rw [List.concat_eq_append] at *
      have hx : x ∈ ids := hin x (by simp)
      have erev : (W0 ++ [x]).reverse = x :: W0.reverse := by simp
      rw [erev, List.flatMap_cons, tree_eq Fo hx] at hlaid hlen2 hWl ⊢
      refine ⟨fun σ' H' => ∃ m', m' < ((x :: (kidsOf ids p x).flatMap (treeOf ids p r N)) ++ W0.reverse.flatMap (treeOf ids p r N)).length ∧ ∃ (W os : List Int) (v : Option V), σ' = [some (.ref l), some (.ref h), some (.ref wq), some (.ref od), v] ∧ m' = (W.reverse.flatMap (treeOf ids p r N)).length ∧ Same H H' ∧ H' wq = some (.lst (W.map V.int)) ∧ H' od = some (.lst (os.map V.int)) ∧
        os ++ W.reverse.flatMap (treeOf ids p r N) = laidOf ids p r N ∧ ∀ x ∈ W, x ∈ ids, fun _ _ z => z, ?_⟩
      have hl0 : (W0 ++ [x]).length = W0.length + 1 := by rw [List.length_append]; rfl
      rw [hl0] at hWl
      rw [List.length_append, List.length_cons] at hlen2 hWl
      refine ⟨_, rfl, .inl ⟨rfl, _, SqL.of hW⟩, wq, _, .int x, rfl, rfl, hW, by rw [List.length_map, List.map_append, hl0]; simp, ?_⟩
      have ed : ((W0 ++ [x]).map V.int).dropLast = W0.map V.int := by rw [List.map_append]; simp
      rw [ed]
      have s3 : Same H (upd H2 wq (.lst (W0.map V.int))) := fun b o e => by rw [upd_ne (ne_of_none e hwq0)]; exact s2 _ _ e
      have hO3 : (upd H2 wq (.lst (W0.map V.int))) od = some (.lst (os.map V.int)) := by rw [upd_ne nwo.symm]; exact hO
      have hW3 : (upd H2 wq (.lst (W0.map V.int))) wq = some (.lst (W0.map V.int)) := upd_same
      generalize upd H2 wq (.lst (W0.map V.int)) = H3 at s3 hO3 hW3 ⊢
      refine ⟨_, rfl, .inl ⟨rfl, _, SqL.of hO3⟩, _, rfl, od, _, _, rfl, rfl, hO3, by rw [List.length_map, h16]; omega, ?_⟩
      have s4 : Same H (upd H3 od (.lst (os.map V.int ++ [.int x]))) := fun b o e => by rw [upd_ne (ne_of_none e hod0)]; exact s3 _ _ e
      have hO4 : (upd H3 od (.lst (os.map V.int ++ [.int x]))) od = some (.lst ((os ++ [x]).map V.int)) := by rw [upd_same, List.map_append]; rfl
      have hW4 : (upd H3 od (.lst (os.map V.int ++ [.int x]))) wq = some (.lst (W0.map V.int)) := by rw [upd_ne nwo]; exact hW3
      generalize upd H3 od (.lst (os.map V.int ++ [.int x])) = H4 at s4 hO4 hW4 ⊢
      have hh4 := hh.same s4
      refine ⟨_, rfl, .inl ⟨rfl, _, SqL.of hW4⟩, _, rfl, h, rfl, hh4.isD, _, rfl, Nat.zero_le _, fun z2 hz2 => ?_⟩
      have s5 := Same.new (o := .lst []) hz2
      obtain ⟨o2, d2, l2, e3, g2⟩ := (hh4.same s5).get x upd_same
      refine ⟨o2, d2, l2, _, e3, SqL.of g2, fun c2 hc2 => ?_⟩
      have s6 := s5.trans (Same.new (o := .lst ((kidsOf ids p x).map V.int).reverse) hc2)
      have lk2 := len_kids ids p x
      refine ⟨wq, c2, _, _, rfl, rfl, s6 _ _ hW4, upd_same, by rw [List.length_reverse, List.length_map, List.length_map, h16]; omega, ?_⟩
      refine ⟨(((W0 ++ (kidsOf ids p x).reverse).reverse).flatMap (treeOf ids p r N)).length, ?_, W0 ++ (kidsOf ids p x).reverse, os ++ [x], some (.int x), rfl, rfl, ?_, ?_, ?_, ?_, ?_⟩
      · rw [List.reverse_append, List.reverse_reverse, List.flatMap_append, List.length_append, List.length_append, List.length_cons]; omega
      · intro b o e
        rw [upd_ne (ne_of_none e hwq0)]
        exact s6 _ _ (s4 _ _ e)
      · rw [upd_same, List.map_append, List.map_reverse]
      · rw [upd_ne nwo.symm]
        exact s6 _ _ hO4
      · rw [← hlaid, List.reverse_append, List.reverse_reverse, List.flatMap_append]
        simp [List.append_assoc]
      · intro y hy
        rcases List.mem_append.mp hy with q | q
        · exact hin y (List.mem_append_left _ q)
        · exact (mem_kids.mp (List.mem_reverse.mp q)).1
/-! ### lay -/
def spLay (K : PySem.W.Frag) : Sp := fun vs H Q _ => ∃ (b d : Addr) (ids : List Int) (ps : List (Int × Int)) (r : Int → Nat) (N : Nat), vs = [.ref b, .ref d] ∧ SqL K H b (ids.map V.int) ∧ H d = some (.dK (pinK ps)) ∧ Forest ids (anOf ps) r N ∧ ids.length ≤ 300 ∧
  ∀ (q : Addr) (H' : Hp), Same H H' → H q = none → H' q = some (.lst ((laidOf ids (anOf ps) r N).map V.int)) → Q (.ref q) H'
theorem scLay : FnScope ["base", "pins", "hung", "row_id"] ["base", "pins"] (defScope sLay) := ⟨rfl, rfl, rfl, by decide +kernel, rfl, by decide +kernel, by decide +kernel⟩
theorem push_kids {ids : List Int} {p : Int → Option Int} {i : Nat} {x a : Int} (h : ids[i]? = some x) (hp : p x = some a) : pushF (kidsOf (ids.take i) p) a x = kidsOf (ids.take (i + 1)) p := by
  funext b
  unfold pushF
  rw [kids_snoc h b, hp]
  by_cases e : b = a
  · rw [if_pos e, if_pos (by rw [e]), e]
  · rw [if_neg e, if_neg (fun z => e (Option.some.inj z).symm), List.append_nil]
theorem keep_kids {ids : List Int} {p : Int → Option Int} {i : Nat} {x : Int} (h : ids[i]? = some x) (hp : p x = none) : kidsOf (ids.take i) p = kidsOf (ids.take (i + 1)) p := by
  funext b
  rw [kids_snoc h b, hp, if_neg (fun z => by cases z), List.append_nil]
theorem int_at {js : List Int} {i : Nat} {y : V} (h : (js.map V.int)[i]? = some y) : ∃ x, js[i]? = some x ∧ y = .int x := by
  rw [List.getElem?_map] at h
  cases q : js[i]? with
  | none => rw [q] at h; cases h
  | some u => rw [q] at h; exact ⟨u, rfl, (Option.some.inj h).symm⟩
theorem ok_lay {f fS : Addr} {fd fdS : FuncData} (F : Fun K "lay" "lay" sLay f fd) (GS : FnOk P w K mg base CX0 1 fS fdS ["loose", "hung"] (spSpread K)) (kS : PySem.W.keepIn K (.ref fS) = true) (bS : L2.Binds K fdS ["loose", "hung"] []) (mS : mg "spread" = some (.ref fS)) :
    FnOk P w K mg base CX0 2 f fd ["base", "pins"] (spLay K) := by
  refine F.ok scLay (fun vs H Q E h => ?_) (fun cdv A outer s H vs Q E hr h => ?_)
  · obtain ⟨b, d, ids, ps, r, N, rfl, _⟩ := h
    rfl
  · obtain ⟨b, d, ids, ps, r, N, rfl, hb, hd, Fo, hlen, k⟩ := h
    have hu := hu_of hr
    refine ⟨_, pss_cons (ps_set (i := 2) scLay.nd rfl (Or.inl rfl) pe_dnewK)
      (pss_cons (ps_for PassesOwn.never rfl (pi_list (pv 0)) (pg_name (i := 3) scLay.nd rfl (Or.inl rfl))
        (pss_one (ps_if (pt_cmp (pc_din hu (pv 3) (pv 1)))
          (pss_one (ps_expr (pe_bm PySem.F.plainAttrs_list PySem.F.slot_list_append PySem.F.type_list_append mt_append (pe_dsetd (pv 2) (pe_dget hu (pv 1) (pv 3) (fun _ _ => rfl)) (pe_lst pa_nil) ⟨rfl, rfl, rfl, rfl⟩) (pa_cons (pv 3) pa_nil)))) pss_nil)))
      (pss_one (ps_ret (pe_call GS hr rfl mS kS bS .nil pass0 (pa_cons (pe_lc (own := [("row_id", 3)]) (g := gName 3) rfl scLay.nd (pi_list (pv 0)) (blkOk_by (N := ["base", "pins", "hung", "row_id"]) (sc := defScope sLay) (by decide +kernel))
        (fun _ _ _ _ _ => pg_name (i := 3) scLay.nd rfl (Or.inl rfl)) (fun _ _ _ _ _ => pts_one (pt_cmp (pc_dnotin hu (pv 3) (pv 1)))) (fun _ _ _ _ _ => pv 3)) (pa_cons (pv 2) pa_nil)))))), ?_⟩
    have h16 : sizeLine = 16777216 := sizeLine_eq
    intro h hh
    refine ⟨_, rfl, b, rfl, ⟨_, (Same.new hh).seq hb⟩, for_list (K := K) (a := b) (xs := ids.map V.int) (fun i σ H' => ∃ v : Option V, σ = [some (.ref b), some (.ref d), some (.ref h), v] ∧ Same H H' ∧ i ≤ ids.length ∧ HungAt H i H' h (kidsOf (ids.take i) (anOf ps)))
      ⟨none, rfl, Same.new hh, Nat.zero_le _, by rw [List.take_zero]; exact HungAt.nil upd_same⟩ (fun i σ H' _ ⟨_, _, s, _⟩ => s.seq hb) ?_ ?_⟩
    · rintro i y σ H1 hi ⟨v, rfl, s1, hil, hg⟩
      obtain ⟨x, hx, rfl⟩ := int_at hi
      have hil2 : i < ids.length := (List.getElem?_eq_some_iff.mp hx).1
      have hd1 := s1 _ _ hd
      have hv := val_pin ps x
      have dg := DGet.k (k := (.inl x : Key)) hd1
      refine ⟨_, rfl, _, rfl, d, _, rfl, dg, _, rfl, ?_⟩
      rw [hv]
      cases ea : anOf ps x with
      | none =>
        refine iteF ⟨_, rfl, s1, hil2, ?_⟩
        rw [← keep_kids hx ea]
        obtain ⟨kvs, g1, g2, g3⟩ := hg
        exact ⟨kvs, g1, by omega, g3⟩
      | some a =>
        rw [hv, ea] at dg
        refine iteT ?_
        refine ⟨_, rfl, h, rfl, hg.isD, _, rfl, _, rfl, d, _, rfl, dg, Nat.zero_le _, fun z hz => ?_⟩
        have gz : H z = none := Same.free s1 hz
        obtain ⟨kvs, k1, k2, k3, k4⟩ := hg.push (a := a) (x := x) hz gz hh s1
        have ep := push_kids hx ea
        refine ⟨kvs, .inl a, k1, rfl, by rw [h16]; omega, fun v hv => ?_, fun hv => ?_⟩
        · obtain ⟨l, rfl, q1, q2, q3⟩ := k3 v hv
          have hfl : (kidsOf (ids.take i) (anOf ps) a).length ≤ ids.length := Nat.le_trans (len_kids _ _ _) (List.length_take_le' _ _)
          refine ⟨.inl ⟨rfl, _, SqL.of q1⟩, _, rfl, l, _, _, rfl, rfl, q1, by rw [List.length_map, h16]; omega, ?_⟩
          refine ⟨_, rfl, q3, hil2, ?_⟩
          rw [← ep]; exact q2
        · obtain ⟨q1, q2, q3⟩ := k4 hv
          refine ⟨.inl ⟨rfl, _, SqL.of q1⟩, _, rfl, z, _, _, rfl, rfl, q1, by rw [h16]; decide, ?_⟩
          refine ⟨_, rfl, q3, hil2, ?_⟩
          rw [← ep]; exact q2
    · rintro σ H1 ⟨v, rfl, s1, _, hg⟩
      rw [List.length_map, List.take_length] at hg
      have hd1 := s1 _ _ hd
      refine ⟨_, rfl, b, rfl, ⟨_, s1.seq hb⟩, fun D hD => ?_⟩
      refine lc_list (K := K) (a := b) (xs := ids.map V.int) (fun j H' => Same H1 H' ∧ H' D = some (.lst ((looseOf (ids.take j) (anOf ps)).map V.int))) ⟨Same.new hD, upd_same⟩ (fun j H' _ q => (s1.trans q.1).seq hb) ?_ ?_
      · rintro j y H2 hj ⟨s2, hL⟩
        obtain ⟨x, hx, rfl⟩ := int_at hj
        have hjl : j < ids.length := (List.getElem?_eq_some_iff.mp hx).1
        have dg := DGet.k (k := (.inl x : Key)) (s2 _ _ hd1)
        refine ⟨rfl, _, rfl, _, rfl, d, _, rfl, dg, _, rfl, ?_⟩
        rw [val_pin]
        cases ea : anOf ps x with
        | none =>
          refine iteT ⟨_, rfl, _, hL, ?_, fun c u e => by rw [upd_ne (ne_of_none e hD)]; exact s2 c u e, ?_⟩
          · rw [List.length_map, h16]
            have := len_loose (ids.take j) (anOf ps)
            rw [List.length_take] at this
            omega
          · rw [upd_same, loose_snoc hx, if_pos ea, List.map_append]; rfl
        | some a =>
          refine iteF ⟨s2, ?_⟩
          rw [hL, loose_snoc hx, if_neg (by rw [ea]; exact fun z => by cases z), List.append_nil]
      · rintro H2 ⟨s2, hL⟩
        rw [List.length_map, List.take_length] at hL
        refine ⟨_, rfl, D, h, ids, anOf ps, r, N, rfl, hL, ⟨_, _, hg.same s2⟩, Fo, hlen, fun q H' s3 hq hQ => ?_⟩
        exact k q H' (s1.trans (s2.trans s3)) (Same.free (s1.trans s2) hq) hQ
end
/-! ### defs that are called where no repr is under way (their context's guards are known to be none) -/
/-- the promise of a def, wherever no guard stands -/
structure FnG (P : Program) (w : World) (K : PySem.W.Frag) (mg : Str → Option Value) (base : Heap) (k : Nat) (f : Addr) (fd : FuncData) (ps : List Str) (sp : Sp) : Prop where
  len : ∀ vs H Q E, sp vs H Q E → vs.length = ps.length
  go : ∀ {A : Around} {outer : List Env} {s : Shared} {H : Hp} {args : Args} {us : List Value} {vs : List V} {Q : VK} {E : XK}, A.guards = some [] → Room k A → Env0 P w K mg base A outer s H →
    BindsTo s fd args (ps.zip us) → Vals vs us → sp vs H Q E → codeAny (model P w) A (.call (.ref f) args) (CR CX0 outer P w H s Q E) s
section
variable {P : Program} {w : World} {K : PySem.W.Frag} {mg : Str → Option Value} {base : Heap}
/-- by its body -/
theorem FnG.mk' {x qual : Str} {st : Stmt} {f : Addr} {fd : FuncData} {N ps : List Str} {k : Nat} {sp : Sp} (F : Fun K x qual st f fd) (S : FnScope N ps (defScope st)) (len : ∀ vs H Q E, sp vs H Q E → vs.length = ps.length)
    (body : ∀ (cdv : Value) (A : Around) (outer : List Env) (s : Shared) (H : Hp) (vs : List V) (Q : VK) (E : XK), (A.deeper (envOfC qual (defScope st) s.heap.objs.size f cdv)).guards = some [] → Room k (A.deeper (envOfC qual (defScope st) s.heap.objs.size f cdv)) → sp vs H Q E →
      ∃ t, PSs (cxOf CX0 P w K mg base N qual (defScope st) f cdv A outer s H E).nox (defBody st) t ∧ t { nx := fun _ H' => Q .non H', rt := Q } (start N vs) H) : FnG P w K mg base (k + 1) f fd ps sp := by
  obtain ⟨oc, od, kV, doc, pm, an, cdv, ct, osl, rfl, lk, hcd⟩ := F.ex
  refine ⟨len, ?_⟩
  intro A outer s H args us vs Q E hg hr en hb rel hsp
  have kept : ∀ b o, base.get? b = some o → s.heap.get? b = some o := fun b o q => (en.bs b o q).1
  have inK := en.mod.kin.keeps kept
  refine codeAny_call_function hr.depth (inK _ _ lk) rfl S.co S.gen rfl (PySem.W.codeRec_of inK hcd) (hb _ _ _ _ ?_)
  have kinds : ∀ q ∈ ps.zip us, (defScope st).names.lookup q.1 = some .local ∨ ((defScope st).names.lookup q.1 = some .cell ∧ ((cellsFrom (s.heap.objs.size + 1) (defScope st).names []).lookup q.1).isSome = true) := by
    rintro ⟨n, v⟩ hq
    exact (S.par n (List.of_mem_zip hq).1).elim .inl fun c => .inr ⟨c, PySem.W.cellsFrom_some _ _ _ (.inl c)⟩
  refine wpAny_newFunctionEnv_cells S.kind kinds fun env he s1 ic => ?_
  subst he
  obtain ⟨t, ht, hq⟩ := body cdv A outer s H vs Q E hg (hr.deeper _) hsp
  have I0 := inv_start (CX := CX0) (E := E) S hr.hd en (len _ _ _ _ hsp) rel ic
  refine ⟨(en.mod.nolimit.keeps kept).keeps ic.toInCall.keep, codeAny_func ?_⟩
  refine wpAny_mono (ht.nox.run [] s1 _ H _ I0 hq) ?_ fun _ _ z => z
  rintro (_ | _ | _ | u) s' hs
  · obtain ⟨σ', H', J, q⟩ := hs
    exact ⟨.non, H', J.os, J.bare, J.base, J.hok, rfl, q⟩
  · obtain ⟨_, _, _, q⟩ := hs
    exact q.elim
  · obtain ⟨_, _, _, q⟩ := hs
    exact q.elim
  · obtain ⟨v, σ', H', J, rv, q⟩ := hs
    exact ⟨v, H', J.os, J.bare, J.base, J.hok, rv, q⟩
end
section
variable {X : Cx} {k : Nat} {f : Addr} {fd : FuncData} {ps : List Str} {sp : Sp} {E : XK} {x : Str} {p pos : Pos} {e : Expr} {es : List Expr} {t : TA}
/-- such a def called by its name -/
theorem pe_callG (F : FnG X.prog X.w X.K X.mg X.base k f fd ps sp) (hg : X.A.guards = some []) (hr : Room k X.A) (hx : Gl X x) (hm : X.mg x = some (.ref f)) (hk : PySem.W.keepIn X.K (.ref f) = true) (hb : L2.Binds X.K fd ps [])
    (ha : PA X (e :: es) t) (hdb : (x == ("__debug__" : Str)) = false := by decide) (he : starEach (e :: es) X.env = (false, eval e X.env) :: starEach es X.env := by rfl) (hpl : (backTo pos (starEach es X.env)).any (·.1) = false := by rfl) :
    PE X (.Call (.Name x p) (e :: es) [] pos) (tCall sp [] E t) := by
  constructor
  intro pins s σ H Q I h
  have run : ∀ {us : List Value} {vs : List V} {H1 : Hp} {s1 : Shared}, Inv X pins σ H1 s1 → Vals vs us → sp (vs ++ []) H1 Q E → wpAny (model X.prog X.w) X.A (call (.ref f) us) (EP X pins σ Q) X.xe s1 := by
    intro us vs H1 s1 I1 r q
    rw [List.append_nil] at q
    have hl : us.length = ps.length := by rw [← r.length]; exact F.len _ _ _ _ q
    have bt := hb s1 us I1.kIn (by rw [List.append_nil]; exact hl)
    rw [List.append_nil] at bt
    refine wpAny_call (codeAny_mono (F.go hg hr I1.env0 bt r q) ?_)
    rintro (_ | (_ | _ | _ | u)) s2 z
    · exact z.elim
    · exact z.elim
    · exact z.elim
    · exact z.elim
    · exact I1.after z
  refine wpAny_Call_Name_kw (ld_glob I hx hm ?_ hdb)
  exact PySem.W.callWith_K (h₀ := X.base) I.ok.mod.kin hk (thn (ha.run pos pins s σ H _ I h) fun us s1 ⟨vs, H1, I1, r, q⟩ => ⟨I1.kIn, run I1 r q⟩) he hpl
end
/-! ### the end of a law whose def is such a def -/
/-- the heap of which nothing is known but the script -/
def justScript (K : PySem.W.Frag) (a : Addr) (vs : List Value) (ns : List Int) : Hp := fun b =>
  if b = a ∧ K.lookup a = none then some (.frz { cls := .type "list", data := .seq vs.toArray } (.lst (ns.map V.int))) else none
section
variable {P : Program} {w : World} {K : PySem.W.Frag} {mg mb : Str → Option Value} {k : Nat} {fa a : Addr} {fd : FuncData} {x : Str} {sp : Sp} {s₁ : Shared} {vs : List Value} {ns : List Int}
theorem js_out {b : Addr} (h : b ≠ a) : justScript K a vs ns b = none := if_neg fun z => h z.1
theorem js_some {b : Addr} {u : HO} (h : justScript K a vs ns b = some u) : b = a ∧ K.lookup a = none ∧ u = .frz { cls := .type "list", data := .seq vs.toArray } (.lst (ns.map V.int)) := by
  unfold justScript at h
  split at h
  · rename_i c
    exact ⟨c.1, c.2, (Option.some.inj h).symm⟩
  · cases h
theorem lawG (KX : K.In s₁.heap) (hns : s₁.heap.Ns mainGlobals mg) (hb : s₁.heap.Ns builtinsNs mb) (hbb : ∀ x : Str, x ≠ "__name__" → mb x = bootBuiltins x) (hlim : s₁.heap.NoLimit) (hg : s₁.gens = #[])
    (ha : s₁.heap.get? a = some { cls := .type "list", data := .seq vs.toArray }) (hi : IntsAre vs ns) (hl : ns.length ≤ sizeLine) (hr : Room k callerA)
    (F : ∀ base : Heap, K.In base → base.Ns mainGlobals mg → FnG P w K mg base k fa fd [x] sp) (hbind : ∀ (s : Shared) (u : Value), BindsTo s fd ⟨[u], []⟩ [(x, u)])
    (hsp : ∀ H : Hp, Only H → SqL K H a (ns.map V.int) → sp [.ref a] H (fun v _ => v = .bl true) fun _ _ _ => False) :
    codeAny (model P w) callerA (.call (.ref fa) ⟨[.ref a], []⟩) (fun r s' => r = .ok (.ret (.bool true)) ∧ OldK s₁.heap s'.heap ∧ s'.os = s₁.os ∧ AllBare s'.gens) s₁ := by
  have rv := L2.vals_ints hi
  have hlen := hi.length
  obtain ⟨H, hH⟩ : ∃ H, H = justScript K a vs ns := ⟨_, rfl⟩
  have hcases : ∀ b, H b = none ∨ (b = a ∧ K.lookup a = none ∧ H b = some (.frz { cls := .type "list", data := .seq vs.toArray } (.lst (ns.map V.int)))) := by
    intro b
    cases q : H b with
    | none => exact .inl rfl
    | some u =>
      rw [hH] at q
      obtain ⟨h1, h2, h3⟩ := js_some q
      exact .inr ⟨h1, h2, by rw [h3]⟩
  have only : Only H := fun b => (hcases b).imp id fun z => ⟨_, _, z.2.2⟩
  have list : SqL K H a (ns.map V.int) := by
    cases hk : K.lookup a with
    | none => exact .inl (.inr ⟨{ cls := .type "list", data := .seq vs.toArray }, by rw [hH]; exact if_pos ⟨rfl, hk⟩⟩)
    | some o =>
      have q := KX a o hk
      rw [ha] at q
      obtain rfl := Option.some.inj q
      exact .inr ⟨_, vs.toArray, _, hk, rfl, rfl, rfl, by rw [List.size_toArray, hlen]; exact hl, rv⟩
  have held : HOk P w H s₁.heap := by
    intro b u q
    rcases hcases b with z | ⟨rfl, _, z⟩
    · rw [z] at q; cases q
    · rw [z] at q
      obtain rfl := Option.some.inj q
      exact ⟨ha, by rw [List.length_map]; exact hl, vs, _, rv, ha⟩
  -- the rest of the heap, in which the module's facts stand
  have stay : ∀ {b : Addr} {o : Obj}, s₁.heap.get? b = some o → (b = a → K.lookup a ≠ none) → (hidT s₁.heap H).get? b = some o := by
    intro b o e n
    refine hidT_get e ?_
    rcases hcases b with z | ⟨e1, e2, _⟩
    · exact z
    · exact absurd e2 (n e1)
  have names : ∀ {b : Addr} {m : Str → Option Value}, s₁.heap.Ns b m → (hidT s₁.heap H).Ns b m := by
    rintro b m ⟨o, es, ep, e, d, r⟩
    refine ⟨o, es, ep, stay e ?_, d, r⟩
    rintro rfl
    rw [ha] at e
    obtain rfl := Option.some.inj e
    exact absurd d (by intro z; cases z)
  have kin : K.In (hidT s₁.heap H) := fun b o e => stay (KX b o e) fun q => by rw [← q, e]; exact fun z => by cases z
  obtain ⟨mc, l1, l2⟩ := hlim
  have mod : Mod K mg (hidT s₁.heap H) := ⟨kin, names hns, ⟨mb, names hb, hbb⟩, ⟨mc, names l1, l2⟩⟩
  have env : Env0 P w K mg (hidT s₁.heap H) callerA [] s₁ H := ⟨rfl, mod, fun b o e => of_hidT e, Nat.le_of_eq (hidT_size _ _), trivial, fun b z => (by exact absurd (show b ∈ ([] : List Addr) from z) (by simp)), held, .of_eq hg⟩
  have vr : Vals [V.ref a] [Value.ref a] := .cons (show RelV (.ref a) (.ref a) from rfl) .nil
  refine codeAny_mono ((F _ kin (names hns)).go (us := [.ref a]) rfl hr env (hbind s₁ (.ref a)) vr (hsp H only list)) ?_
  rintro (_ | (_ | _ | _ | u)) s' z
  · exact z.elim
  · exact z.elim
  · exact z.elim
  · exact z.elim
  · obtain ⟨v, H', os, bare, un, ok', r', q⟩ := z
    have q1 : v = .bl true := q
    subst q1
    have q2 : u = Value.bool true := r'
    subst q2
    refine ⟨rfl, OldK.of_keep fun b o e => ?_, os, bare⟩
    rcases hcases b with z | ⟨e1, _, z⟩
    · exact un.keep b o e z (fun z => absurd (show b ∈ ([] : List Addr) from z) (by simp)) (by simp)
    · obtain ⟨g, _⟩ := ok' b _ (un.frzs b _ _ z)
      obtain ⟨g0, _⟩ := held b _ z
      rw [g0] at e
      rw [← Option.some.inj e]
      exact g
end
theorem walkG {l : PySem.W.OpenLaw} {n k : Nat} {q : Program} {loose : List Str} {XP : (Str → Option Value) → Heap → Prop} {YP : World → Heap → Prop} {d : DefRec} {K : Params → PySem.W.Frag} {sp : PySem.W.Frag → Sp} {x : Str}
    (hn : l.most = some n) (hn2 : n ≤ sizeLine) (hdf : d.params.defaults = []) (hr : Room k callerA) (hY : ∀ (w : World) (h : Heap), YP w h → (K w.params).In h)
    (F : ∀ (w : World) (mg : Str → Option Value) (fa : Addr) (h : Heap), (K w.params).In h → h.Ns mainGlobals mg → mg d.name = some (.ref fa) →
      ∃ fd : FuncData, (∀ (s : Shared) (u : Value), BindsTo s fd ⟨[u], []⟩ [(x, u)]) ∧ ∀ base : Heap, (K w.params).In base → base.Ns mainGlobals mg → FnG l.prog w (K w.params) mg base k fa fd [x] (sp (K w.params)))
    (hsp : ∀ (K : PySem.W.Frag) (H : Hp) (a : Addr) (ns : List Int), ns.length ≤ n → (∀ z ∈ ns, Builtin.Int.intBits z ≤ 1048576) → SqL K H a (ns.map V.int) → sp K [.ref a] H (fun v _ => v = .bl true) fun _ _ _ => False) :
    PySem.W.WalkO q loose XP YP l.row.toRowW d [] (fun f vs => PySem.call f vs) := by
  refine Att.attach_callB hn hdf ?_
  intro w s₀ s₁ mg mb fa o pm cd doc a vs ns G Y ho hd hcd hmg hobj hints hlen hbits hg
  obtain ⟨fd, hb, hF⟩ := F w mg fa _ (hY w _ Y) G.T.g hmg
  exact lawG (hY w _ Y) G.T.g G.T.b G.T.builtins G.T.nolimit hg hobj hints (Nat.le_trans hlen hn2) hr hF hb fun H _ hS => hsp _ H a ns hlen hbits hS
/-! ### repr of data -/
mutual
/-- how long its text is at most -/
def szD : PyData → Nat
  | .none => 4
  | .bool _ => 5
  | .int _ => 301
  | .str x => (reprText x).length
  | .list xs => szAll xs + 2
  | .tuple xs => szAll xs + 3
  | .dict _ => 2
def szAll : List PyData → Nat
  | [] => 0
  | x :: xs => szD x + 2 + szAll xs
end
mutual
/-- ints of moderate size, no dict -/
def modD : PyData → Bool
  | .none | .bool _ | .str _ => true
  | .int i => decide (i.natAbs < 2 ^ 300)
  | .list xs | .tuple xs => modAll xs
  | .dict _ => false
def modAll : List PyData → Bool
  | [] => true
  | x :: xs => modD x && modAll xs
end
theorem log_of {i : Int} (h : i.natAbs < 2 ^ 300) : i.natAbs.log2 < 300 := PySem.Flt.log2_lt_of (by decide) h
mutual
theorem showable_of : ∀ d : PyData, modD d = true → d.showable = true
  | .none, _ => by rw [PyData.showable]
  | .bool _, _ => by rw [PyData.showable]
  | .str _, _ => by rw [PyData.showable]
  | .int i, h => by
    rw [modD] at h
    rw [PyData.showable]
    have := log_of (of_decide_eq_true h)
    exact decide_eq_true (by omega)
  | .list xs, h => by
    rw [modD] at h
    rw [PyData.showable]
    exact showableAll_of xs h
  | .tuple xs, h => by
    rw [modD] at h
    rw [PyData.showable]
    exact showableAll_of xs h
  | .dict _, h => by rw [modD] at h; cases h
theorem showableAll_of : ∀ xs : List PyData, modAll xs = true → PyData.showableAll xs = true
  | [], _ => by rw [PyData.showableAll]
  | x :: xs, h => by
    rw [modAll, Bool.and_eq_true] at h
    rw [PyData.showableAll, showable_of x h.1, showableAll_of xs h.2]
    rfl
end
mutual
theorem nodict_of : ∀ d : PyData, modD d = true → d.hasDict = false
  | .none, _ => by rw [PyData.hasDict]
  | .bool _, _ => by rw [PyData.hasDict]
  | .str _, _ => by rw [PyData.hasDict]
  | .int i, h => by rw [PyData.hasDict]
  | .list xs, h => by
    rw [modD] at h
    rw [PyData.hasDict]
    exact nodictAll_of xs h
  | .tuple xs, h => by
    rw [modD] at h
    rw [PyData.hasDict]
    exact nodictAll_of xs h
  | .dict _, h => by rw [modD] at h; cases h
theorem nodictAll_of : ∀ xs : List PyData, modAll xs = true → PyData.hasDictAll xs = false
  | [], _ => by rw [PyData.hasDictAll]
  | x :: xs, h => by
    rw [modAll, Bool.and_eq_true] at h
    rw [PyData.hasDictAll, nodict_of x h.1, nodictAll_of xs h.2]
    rfl
end
def pile : List Str → Nat
  | [] => 0
  | t :: r => t.length + 2 + pile r
theorem textFrom_le : ∀ (ts : List Str) (k : Nat) (acc : Str), (textFrom k acc ts).length ≤ acc.length + pile ts
  | [], k, acc => by show acc.length ≤ acc.length + 0; omega
  | t :: r, k, acc => by
    have ih := textFrom_le r (k + 1) (acc ++ (if k > 0 then ", " else "" : String) ++ t)
    have e : (acc ++ (if k > 0 then ", " else "" : String) ++ t).length ≤ acc.length + 2 + t.length := by
      rw [strLen_append, strLen_append]
      split
      · show acc.length + 2 + t.length ≤ _; omega
      · show acc.length + 0 + t.length ≤ _; omega
    show (textFrom (k + 1) (acc ++ (if k > 0 then ", " else "" : String) ++ t) r).length ≤ acc.length + (t.length + 2 + pile r)
    omega
theorem listText_le (ts : List Str) : (listText ts).length ≤ pile ts + 2 := by
  unfold listText
  have h := textFrom_le ts 0 "["
  rw [strLen_append]
  have e1 : (("[" : String) : Str).length = 1 := rfl
  have e2 : (("]" : String) : Str).length = 1 := rfl
  rw [e2]
  rw [e1] at h
  omega
theorem join_le : ∀ ts : List Str, (Str.join ", " ts).length ≤ pile ts
  | [] => Nat.zero_le _
  | [x] => by show x.length ≤ x.length + 2 + 0; omega
  | x :: y :: r => by
    have ih := join_le (y :: r)
    show (x ++ ", " ++ Str.join ", " (y :: r)).length ≤ x.length + 2 + pile (y :: r)
    rw [strLen_append, strLen_append]
    have e2 : ((", " : String) : Str).length = 2 := rfl
    rw [e2]
    omega
theorem tupleText_le (ts : List Str) : (tupleText ts).length ≤ pile ts + 3 := by
  unfold tupleText
  have h := join_le ts
  rw [strLen_append, strLen_append]
  have e1 : (("(" : String) : Str).length = 1 := rfl
  have e2 : ((if ts.length == 1 then ",)" else ")" : String) : Str).length ≤ 2 := by
    split
    · exact Nat.le_refl _
    · exact Nat.le_succ _
  rw [e1]
  omega
mutual
theorem shown_le : ∀ d : PyData, modD d = true → d.shown.length ≤ szD d
  | .none, _ => by rw [PyData.shown, szD]; decide
  | .bool b, _ => by rw [PyData.shown, szD]; cases b <;> decide
  | .str x, _ => by rw [PyData.shown, szD]; exact Nat.le_refl _
  | .int i, h => by
    rw [modD] at h
    rw [PyData.shown, szD]
    have := int_text_length_le (k := 300) (by decide) (log_of (of_decide_eq_true h))
    have e : (Str.ofString (toString i)).length = (toString i).length := PySem.ofString_length _
    rw [e]
    omega
  | .list xs, h => by
    rw [modD] at h
    rw [PyData.shown, szD]
    have := listText_le (PyData.shownAll xs)
    have := shownAll_le xs h
    omega
  | .tuple xs, h => by
    rw [modD] at h
    rw [PyData.shown, szD]
    have := tupleText_le (PyData.shownAll xs)
    have := shownAll_le xs h
    omega
  | .dict _, h => by rw [modD] at h; cases h
theorem shownAll_le : ∀ xs : List PyData, modAll xs = true → pile (PyData.shownAll xs) ≤ szAll xs
  | [], _ => by rw [PyData.shownAll, szAll]; exact Nat.le_refl _
  | x :: xs, h => by
    rw [modAll, Bool.and_eq_true] at h
    have h1 := shown_le x h.1
    have h2 := shownAll_le xs h.2
    rw [PyData.shownAll, szAll]
    show x.shown.length + 2 + pile (PyData.shownAll xs) ≤ _
    omega
end
/-! ### data of the heap is read -/
section
variable {X : Cx} {pins : List (Addr × Obj)} {σ : L2.St} {H : Hp} {s : Shared}
mutual
theorem DV.reads (I : Inv X pins σ H s) : ∀ (d : PyData) (v : V) (u : Value), DV X.K H v d → RelV v u → ∃ as, Reads s.heap u d as
  | .none, _, _, .non, r => ⟨_, (show _ = Value.none from r) ▸ Reads.none⟩
  | .bool b, _, _, .bl _, r => ⟨_, (show _ = Value.bool b from r) ▸ Reads.bool b⟩
  | .int i, _, _, .int _, r => by
    obtain ⟨t, q⟩ := r
    rw [q]
    exact ⟨_, Reads.int i t⟩
  | .str x, _, _, .str _, r => by
    obtain ⟨t, q⟩ := r
    rw [q]
    exact ⟨_, Reads.str x t⟩
  | .list ds, _, u, .lst h t, r => by
    have r' : u = Value.ref _ := r
    subst r'
    obtain ⟨its, rv, ⟨o, n, ho, hc, _, hd⟩, _⟩ := I.list h
    obtain ⟨as, hr⟩ := DVs.reads I ds _ its t rv
    exact ⟨_, Reads.list ho hc hd hr⟩
  | .tuple ds, _, u, .tup h t, r => by
    have r' : u = Value.ref _ := r
    subst r'
    obtain ⟨its, rv, ⟨o, ho, hc, n, hd⟩, _⟩ := I.tuple h
    obtain ⟨as, hr⟩ := DVs.reads I ds _ its t rv
    exact ⟨_, Reads.tuple ho hc hd hr⟩
  | .dict _, _, u, .dk0 h, r => by
    have r' : u = Value.ref _ := r
    subst r'
    obtain ⟨_, _, vs, rel, o, es, ep, h1, h2, h3, h4⟩ := I.hok _ _ h
    cases rel
    have e0 : es.toList = [] := by
      have h5 := h4.2.1
      generalize es.toList = l at h5 ⊢
      cases h5
      rfl
    refine ⟨_, Reads.dict (as := []) (bs := []) h1 h2.1 h3 ?_ ?_⟩
    · rw [e0]; exact ReadsAll.nil
    · rw [e0]; exact ReadsAll.nil
theorem DVs.reads (I : Inv X pins σ H s) : ∀ (ds : List PyData) (vs : List V) (us : List Value), DVs X.K H vs ds → Vals vs us → ∃ as, ReadsAll s.heap us ds as
  | [], _, _, .nil, r => by
    cases r
    exact ⟨_, ReadsAll.nil⟩
  | d :: ds, _, _, .cons h1 h2, r => by
    cases r with
    | cons r1 r2 =>
      obtain ⟨as, q1⟩ := DV.reads I d _ _ h1 r1
      obtain ⟨bs, q2⟩ := DVs.reads I ds _ _ h2 r2
      exact ⟨_, ReadsAll.cons q1 q2⟩
end
/-- repr of a list or a tuple -/
def rRepr (K : PySem.W.Frag) : List V → Hp → VK → Prop := fun xs H Q => ∃ (a : Addr) (d : PyData), xs = [.ref a] ∧ DV K H (.ref a) d ∧ modD d = true ∧ d.depth ≤ 40 ∧ szD d ≤ 1000000 ∧ Q (.str d.shown) H
theorem call_repr (hg : X.A.guards = some []) (hu : X.A.units + 64 < cLine) : CallR X (.builtin "repr") (rRepr X.K) := by
  intro pins s σ H xs us Q I r h
  obtain ⟨a, d, rfl, hd, hm, hdep, hsz, q⟩ := h
  rw [Vals.ref1 r]
  obtain ⟨as, hr⟩ := DV.reads I d (.ref a) (.ref a) hd rfl
  have hl : d.shown.length ≤ sizeLine := by
    have := shown_le d hm
    rw [sizeLine_eq]
    omega
  exact repr_of_reads' hr (showable_of d hm) (fun z => by rw [nodict_of d hm] at z; cases z) hg (by omega) (fun _ _ e => e) (fun h' u tk kk => ⟨.str d.shown, H, I.kept kk, ⟨_, rfl⟩, q⟩) hl
end
/-! ### data that cannot change: flat things and tuples of such -/
mutual
inductive DT (H : Hp) : V → PyData → Prop
  | non : DT H .non .none
  | bl (b : Bool) : DT H (.bl b) (.bool b)
  | int (i : Int) : DT H (.int i) (.int i)
  | str (x : Str) : DT H (.str x) (.str x)
  | tup {a : Addr} {xs : List V} {ds : List PyData} : H a = some (.tup xs) → DTs H xs ds → DT H (.ref a) (.tuple ds)
inductive DTs (H : Hp) : List V → List PyData → Prop
  | nil : DTs H [] []
  | cons {v : V} {vs : List V} {d : PyData} {ds : List PyData} : DT H v d → DTs H vs ds → DTs H (v :: vs) (d :: ds)
end
/-- the tuples stand -/
def KeepT (H H' : Hp) : Prop := ∀ a xs, H a = some (.tup xs) → H' a = some (.tup xs)
theorem KeepT.refl (H : Hp) : KeepT H H := fun _ _ h => h
theorem KeepT.trans {H H1 H2 : Hp} (a : KeepT H H1) (b : KeepT H1 H2) : KeepT H H2 := fun c xs h => b c xs (a c xs h)
theorem KeepT.same {H H' : Hp} (s : Same H H') : KeepT H H' := fun a xs h => s a _ h
theorem KeepT.but {d : Addr} {H H' : Hp} (D : DeckAt H d) (s : But d H H') : KeepT H H' := fun a xs h => s.tup D h
theorem KeepT.put {x : Addr} {H : Hp} {ys : List V} {o : HO} (h : H x = some (.lst ys)) : KeepT H (upd H x o) := fun a xs e => by
  rw [upd_ne (ne_of e h (by intro z; cases z))]
  exact e
theorem KeepT.new {x : Addr} {H : Hp} {o : HO} (h : H x = none) : KeepT H (upd H x o) := KeepT.same (Same.new h)
mutual
theorem DT.keep {H H' : Hp} (e : KeepT H H') : ∀ {d : PyData} {v : V}, DT H v d → DT H' v d
  | _, _, .non => .non
  | _, _, .bl b => .bl b
  | _, _, .int i => .int i
  | _, _, .str x => .str x
  | _, _, .tup h t => .tup (e _ _ h) (DTs.keep e t)
theorem DTs.keep {H H' : Hp} (e : KeepT H H') : ∀ {ds : List PyData} {vs : List V}, DTs H vs ds → DTs H' vs ds
  | _, _, .nil => .nil
  | _, _, .cons p t => .cons (DT.keep e p) (DTs.keep e t)
end
mutual
theorem DT.dv {K : PySem.W.Frag} {H : Hp} : ∀ {d : PyData} {v : V}, DT H v d → DV K H v d
  | _, _, .non => .non
  | _, _, .bl b => .bl b
  | _, _, .int i => .int i
  | _, _, .str x => .str x
  | _, _, .tup h t => .tup (SqT.of h) (DTs.dv t)
theorem DTs.dv {K : PySem.W.Frag} {H : Hp} : ∀ {ds : List PyData} {vs : List V}, DTs H vs ds → DVs K H vs ds
  | _, _, .nil => .nil
  | _, _, .cons p t => .cons (DT.dv p) (DTs.dv t)
end
theorem DTs.ints {H : Hp} : ∀ ks : List Int, DTs H (ks.map V.int) (ks.map PyData.int)
  | [] => .nil
  | k :: r => .cons (.int k) (DTs.ints r)
theorem DTs.append {H : Hp} : ∀ {vs ws : List V} {ds es : List PyData}, DTs H vs ds → DTs H ws es → DTs H (vs ++ ws) (ds ++ es)
  | _, _, _, _, .nil, h => h
  | _, _, _, _, .cons p t, h => .cons p (DTs.append t h)
theorem DTs.take {H : Hp} : ∀ {vs : List V} {ds : List PyData} (n : Nat), DTs H vs ds → DTs H (vs.take n) (ds.take n)
  | _, _, 0, _ => .nil
  | _, _, _ + 1, .nil => .nil
  | _, _, n + 1, .cons p t => .cons p (DTs.take n t)
theorem DTs.length {H : Hp} : ∀ {vs : List V} {ds : List PyData}, DTs H vs ds → vs.length = ds.length
  | _, _, .nil => rfl
  | _, _, .cons _ t => congrArg Nat.succ (DTs.length t)
theorem DTs.none {H : Hp} : ∀ n : Nat, DTs H (List.replicate n V.non) (List.replicate n PyData.none)
  | 0 => .nil
  | n + 1 => .cons .non (DTs.none n)
/-! ### lists of ids as data -/
theorem modAll_ints : ∀ xs : List Int, (∀ z ∈ xs, z.natAbs < 2 ^ 300) → modAll (xs.map .int) = true
  | [], _ => by rw [List.map_nil, modAll]
  | x :: r, h => by
    rw [List.map_cons, modAll, modD, modAll_ints r fun z hz => h z (List.mem_cons_of_mem _ hz), decide_eq_true (h x List.mem_cons_self)]
    rfl
theorem szAll_ints : ∀ xs : List Int, szAll (xs.map .int) = xs.length * 303
  | [] => by rw [List.map_nil, szAll]; rfl
  | x :: r => by
    rw [List.map_cons, szAll, szD, szAll_ints r, List.length_cons]
    omega
theorem small_abs {z : Int} (h : -1000000000000 ≤ z) (h2 : z ≤ 1000000000000) : z.natAbs < 2 ^ 300 := by
  have : (1000000000001 : Nat) ≤ 2 ^ 300 := Nat.le_trans (by decide : 1000000000001 ≤ 2 ^ 50) (Nat.pow_le_pow_right (by decide) (by decide))
  generalize (2 : Nat) ^ 300 = B at *
  omega
structure Rok (d : PyData) : Prop where
  m : modD d = true
  dep : d.depth ≤ 40
  sz : szD d ≤ 1000000
theorem rok_ids {xs : List Int} (h : ∀ z ∈ xs, 1 ≤ z ∧ z ≤ 1000000) (hl : xs.length ≤ 300) : Rok (.list (xs.map .int)) := by
  refine ⟨?_, ?_, ?_⟩
  · rw [modD]
    exact modAll_ints xs fun z hz => by have := h z hz; exact small_abs (by omega) (by omega)
  · have := depthAll_ints xs
    rw [PyData.depth]
    omega
  · rw [szD, szAll_ints]
    omega
/-- changing one more object -/
theorem Fs.put {d x : Addr} {Hd H1 : Hp} {fs : List (Addr × HO)} {o : HO} (F : Fs d Hd fs H1) (h0 : Hd x = none) (hd : x ≠ d) (hn : ∀ p ∈ fs, p.1 ≠ x) : Fs d Hd fs (upd H1 x o) := by
  obtain ⟨f1, ⟨a, b, q, r⟩, f3⟩ := F
  refine ⟨fun c u hc e => ?_, ⟨a, b, by rw [upd_ne hd.symm]; exact q, r⟩, fun p hp => ⟨(f3 p hp).1, by rw [upd_ne (hn p hp)]; exact (f3 p hp).2⟩⟩
  rw [upd_ne (ne_of_none e h0)]
  exact f1 c u hc e
theorem Fs.apart {d x : Addr} {Hd H1 : Hp} {fs : List (Addr × HO)} (F : Fs d Hd fs H1) (h : H1 x = none) : Hd x = none ∧ x ≠ d ∧ ∀ p ∈ fs, p.1 ≠ x := by
  obtain ⟨f1, ⟨a, b, q, r⟩, f3⟩ := F
  have hd : x ≠ d := fun e => by rw [e, q] at h; cases h
  refine ⟨?_, hd, fun p hp => ne_of_none (f3 p hp).2 h⟩
  cases e : Hd x with
  | none => rfl
  | some u =>
    have := f1 x u hd e
    rw [h] at this; cases this
/-- an object of the row may be laid anew -/
theorem Fs.reput {d x : Addr} {Hd H1 : Hp} {fs : List (Addr × HO)} {o o' : HO} (F : Fs d Hd ((x, o) :: fs) H1) (h0 : Hd x = none) (hn : ∀ p ∈ fs, p.1 ≠ x) : Fs d Hd ((x, o') :: fs) (upd H1 x o') := by
  obtain ⟨f1, ⟨a, b, q, r⟩, f3⟩ := F
  have hd : x ≠ d := (f3 _ List.mem_cons_self).1
  refine ⟨fun c u hc e => ?_, ⟨a, b, by rw [upd_ne hd.symm]; exact q, r⟩, fun p hp => ?_⟩
  · rw [upd_ne (ne_of_none e h0)]
    exact f1 c u hc e
  · rcases List.mem_cons.mp hp with e | e
    · subst e; exact ⟨hd, upd_same⟩
    · exact ⟨(f3 p (List.mem_cons_of_mem _ e)).1, by rw [upd_ne (hn p e)]; exact (f3 p (List.mem_cons_of_mem _ e)).2⟩
section
variable {P : Program} {w : World} {K : PySem.W.Frag} {mg : Str → Option Value} {base : Heap}
/-! ### ids -/
/-- so many different ids -/
def IdsL (js : List Int) : Prop := js.Nodup ∧ ∀ z ∈ js, 1 ≤ z ∧ z ≤ 1000000
structure TxtI (mg : Str → Option Value) : Prop where
  len : mg "len" = none
  list : mg "list" = none
  range : mg "range" = none
def spIds : Sp := fun vs H Q _ => ∃ (d : Addr) (n : Nat), vs = [.ref d, .int n] ∧ DeckAt H d ∧ n ≤ 100 ∧
  ∀ (l : Addr) (js : List Int) (H' : Hp), H l = none → But d H H' → DeckAt H' d → H' l = some (.lst (js.map V.int)) → js.length = n → IdsL js → Q (.ref l) H'
def stepL : List Int := [1, 1, 37, 9999]
theorem steps_ok {s : Int} (h : s ∈ stepL) : 1 ≤ s ∧ s ≤ 9999 := by
  have : ∀ s ∈ stepL, 1 ≤ s ∧ s ≤ 9999 := by decide
  exact this s h
def upTo (s : Int) (n : Nat) : List Int := (List.range n).map fun (i : Nat) => 1 + s * (i : Int)
theorem upTo_len (s : Int) (n : Nat) : (upTo s n).length = n := by simp [upTo]
theorem upTo_succ (s : Int) (n : Nat) : upTo s (n + 1) = upTo s n ++ [1 + s * (n : Int)] := by
  unfold upTo
  rw [List.range_succ, List.map_append]; rfl
theorem upTo_ids {s : Int} {n : Nat} (h1 : 1 ≤ s) (h2 : s ≤ 9999) (hn : n ≤ 100) : IdsL (upTo s n) := by
  refine ⟨?_, fun z hz => ?_⟩
  · unfold upTo
    refine List.pairwise_map.mpr ((List.nodup_range).imp fun {a b} h e => h ?_)
    have : s * (a : Int) = s * (b : Int) := by omega
    have h0 : s ≠ 0 := by omega
    have := Int.eq_of_mul_eq_mul_left h0 this
    omega
  · obtain ⟨i, hi, rfl⟩ := List.mem_map.mp hz
    have hi := List.mem_range.mp hi
    have a1 : 0 ≤ s * (i : Int) := Int.mul_nonneg (by omega) (by omega)
    have a2 : s * (i : Int) ≤ 9999 * 99 := Int.mul_le_mul h2 (by omega) (by omega) (by omega)
    omega
theorem scIds : FnScope ["tape", "size", "step", "place"] ["tape", "size"] (defScope sIds) := ⟨rfl, rfl, rfl, by decide +kernel, rfl, by decide +kernel, by decide +kernel⟩
theorem ok_ids {f fC fS : Addr} {fd fdC fdS : FuncData} (F : Fun K "_law_ids" "_law_ids" sIds f fd) (T : TxtI mg)
    (GC : FnOk P w K mg base CX0 2 fC fdC ["tape", "items"] (spChoose K)) (kC : PySem.W.keepIn K (.ref fC) = true) (bC : L2.Binds K fdC ["tape", "items"] []) (mC : mg "_law_one_of" = some (.ref fC))
    (GS : FnOk P w K mg base CX0 2 fS fdS ["tape", "ids"] (spShuf K)) (kS : PySem.W.keepIn K (.ref fS) = true) (bS : L2.Binds K fdS ["tape", "ids"] []) (mS : mg "_law_shuffled" = some (.ref fS)) :
    FnOk P w K mg base CX0 3 f fd ["tape", "size"] spIds := by
  refine F.ok scIds (fun vs H Q E h => ?_) (fun cdv A outer s H vs Q E hr h => ?_)
  · obtain ⟨d, n, rfl, _⟩ := h
    rfl
  · obtain ⟨d, n, rfl, D, n1, k⟩ := h
    refine ⟨_, pss_cons (ps_set (i := 2) scIds.nd rfl (Or.inr rfl) (pe_call GC hr rfl mC kC bC .nil pass0 (pa_cons (pv 0) (pa_cons (pe_lst (pa_cons pe_int (pa_cons pe_int (pa_cons pe_int (pa_cons pe_int pa_nil))))) pa_nil))))
      (pss_one (ps_ret (pe_call GS hr rfl mS kS bS .nil pass0 (pa_cons (pv 0) (pa_cons (pe_lc (own := [("place", 3)]) (g := gName 3) (tt := tYes) rfl scIds.nd (pi_range1 rfl T.range (pa_cons (pv 1) pa_nil)) (blkOk_by (N := ["tape", "size", "step", "place"]) (sc := defScope sIds) (by decide +kernel))
        (fun _ _ _ _ _ => pg_name (i := 3) scIds.nd rfl (Or.inl rfl)) (fun _ _ _ _ _ => pts_nil) (fun _ _ _ _ _ => pe_op op_add pe_int (pe_op op_mul (pv 2) (pv 3)))) pa_nil))))), ?_⟩
    have h16 : sizeLine = 16777216 := sizeLine_eq
    refine ⟨_, rfl, by show 4 ≤ sizeLine; rw [h16]; decide, fun p hp => ?_⟩
    have F1 : Fs d H [(p, .lst (stepL.map V.int))] (upd H p (.lst (stepL.map V.int))) := (Fs.start D).new hp nl
    refine ⟨d, p, stepL.map V.int, rfl, F1.deck, SqL.of F1.g0, (by intro z; cases z), (by show 4 < 1000000; decide), fun v H2 hv D2 B2 => ?_⟩
    obtain ⟨st, hst, rfl⟩ := List.mem_map.mp hv
    obtain ⟨s1, s2⟩ := steps_ok hst
    have F2 := (F1.step D2 B2).tail
    refine ⟨_, rfl, _, rfl, (n : Int), rfl, by omega, by omega, fun D' hD' => ?_⟩
    obtain ⟨a0, a1, a2⟩ := F2.apart hD'
    refine lc_range (lo := 0) (n := ((n : Int)).toNat) (fun i H' => Fs d H [(D', .lst ((upTo st i).map V.int))] H') (F2.new (o := .lst []) hD' nl) ?_ ?_
    · rintro i H' hi F3
      refine ⟨rfl, ?_⟩
      have i100 : (i : Int) ≤ 100 := by omega
      refine ⟨_, rfl, _, rfl, _, _, rfl, rfl, .inr ⟨by omega, by omega⟩, _, _, rfl, rfl, ?_⟩
      refine ⟨_, F3.g0, by rw [List.length_map, upTo_len, h16]; omega, ?_⟩
      have := F3.reput (o' := .lst ((upTo st i).map V.int ++ [V.int (1 + st * (0 + (i : Int)))])) a0 a2
      rw [upTo_succ, List.map_append]
      rw [Int.zero_add] at this ⊢
      exact this
    · rintro H' F3
      have e : ((n : Int)).toNat = n := by omega
      rw [e] at F3
      have hI := upTo_ids (n := n) s1 s2 n1
      refine ⟨d, D', upTo st n, rfl, F3.deck, SqL.of F3.g0, by rw [upTo_len]; omega, fun q ks H5 hq B5 D5 hQ hperm => ?_⟩
      have F5 := F3.step D5 B5
      refine k q ks H5 ?_ F5.1 D5 hQ ?_ ⟨hperm.nodup_iff.mpr hI.1, fun z hz => hI.2 z (hperm.mem_iff.mp hz)⟩
      · cases e : H q with
        | none => rfl
        | some u =>
          have hqd : q ≠ d := fun z => by
            rw [z] at hq
            obtain ⟨x, y, w, _⟩ := F3.deck
            rw [hq] at w; cases w
          have := F3.1 q u hqd e
          rw [hq] at this; cases this
      · rw [hperm.length_eq, upTo_len]
end
/-! ### repr of data with empty dicts in it -/
mutual
/-- ints of moderate size, dicts only empty -/
def okD : PyData → Bool
  | .none | .bool _ | .str _ => true
  | .int i => decide (i.natAbs < 2 ^ 300)
  | .list xs | .tuple xs => okAll xs
  | .dict kvs => kvs.isEmpty
def okAll : List PyData → Bool
  | [] => true
  | x :: xs => okD x && okAll xs
end
mutual
theorem shown_le2 : ∀ d : PyData, okD d = true → d.shown.length ≤ szD d
  | .none, _ => shown_le .none rfl
  | .bool b, _ => shown_le (.bool b) rfl
  | .str x, _ => shown_le (.str x) rfl
  | .int i, h => shown_le (.int i) (by rw [okD] at h; rw [modD]; exact h)
  | .list xs, h => by
    have h2 : okAll xs = true := by rw [okD] at h; exact h
    have b := shownAll_le2 xs h2
    have a := listText_le (PyData.shownAll xs)
    rw [szD, PyData.shown]
    omega
  | .tuple xs, h => by
    have h2 : okAll xs = true := by rw [okD] at h; exact h
    have b := shownAll_le2 xs h2
    have a := tupleText_le (PyData.shownAll xs)
    rw [szD, PyData.shown]
    omega
  | .dict kvs, h => by
    rw [okD] at h
    have e : kvs = [] := List.isEmpty_iff.mp h
    subst e
    rw [szD, PyData.shown, PyData.shownKv]
    exact Nat.le_refl 2
theorem shownAll_le2 : ∀ xs : List PyData, okAll xs = true → pile (PyData.shownAll xs) ≤ szAll xs
  | [], _ => by rw [PyData.shownAll, szAll]; exact Nat.le_refl _
  | x :: xs, h => by
    rw [okAll, Bool.and_eq_true] at h
    have a := shown_le2 x h.1
    have b := shownAll_le2 xs h.2
    rw [szAll, PyData.shownAll]
    show x.shown.length + 2 + pile (PyData.shownAll xs) ≤ _
    omega
end
section
variable {X : Cx} {pins : List (Addr × Obj)} {σ : L2.St} {H : Hp} {s : Shared}
mutual
theorem DV.rk (I : Inv X pins σ H s) : ∀ (d : PyData) (v : V) (u : Value), DV X.K H v d → RelV v u → okD d = true → d.shown.length ≤ sizeLine → ∃ bs, ReadAtMost s.heap d.depth bs ∧ ReprK X.prog X.w bs s.heap d.depth u d.shown
  | .none, _, _, .non, r, _, _ => ⟨[], (fun _ q => by cases q), by rw [PyData.shown, (show _ = Value.none from r)]; exact .of_is ReprIs.none _ _ _⟩
  | .bool b, _, _, .bl _, r, _, _ => ⟨[], (fun _ q => by cases q), by rw [PyData.shown, (show _ = Value.bool b from r)]; exact .of_is (ReprIs.bool b) _ _ _⟩
  | .int i, _, _, .int _, r, h, _ => by
    obtain ⟨t, rfl⟩ := r
    rw [okD] at h
    have := log_of (of_decide_eq_true h)
    exact ⟨[], (fun _ q => by cases q), by rw [PyData.shown]; exact .of_is (ReprIs.int t (by omega)) _ _ _⟩
  | .str x, _, _, .str _, r, _, hz => by
    obtain ⟨t, rfl⟩ := r
    rw [PyData.shown] at hz
    exact ⟨[], (fun _ q => by cases q), by rw [PyData.shown]; exact .of_is (ReprIs.str x t hz) _ _ _⟩
  | .list ds, _, u, .lst h t, r, hok, hz => by
    have r' : u = Value.ref _ := r
    subst r'
    rw [okD] at hok
    rw [PyData.shown] at hz
    obtain ⟨its, rv, ⟨o, n, ho, hc, _, hd⟩, _⟩ := I.list h
    obtain ⟨as, hr⟩ := DVs.reads I ds _ its t rv
    obtain ⟨bs, hb, hk⟩ := DVs.rk I ds _ its t rv hok fun x hx => Nat.le_trans (listText_mem_le hx) hz
    have R := Reads.list ho hc hd hr
    have far := not_mem_of_deeper R (by rw [PyData.depth]; omega) hb
    refine ⟨_, ReadAtMost.cons R (by rw [PyData.depth]; omega) hb, ?_⟩
    rw [PyData.depth, PyData.shown]
    cases its with
    | nil =>
      cases rv
      cases t
      rw [PyData.shownAll, listText_nil]
      exact ReprK.listEmpty ho hc hd
    | cons y l => exact ReprK.list ho hc hd far (by rw [hk.length_eq]; rfl) fun i y e => hk.item i y (by rw [List.getElem?_toArray] at e; exact e)
  | .tuple ds, _, u, .tup h t, r, hok, hz => by
    have r' : u = Value.ref _ := r
    subst r'
    rw [okD] at hok
    rw [PyData.shown] at hz
    obtain ⟨its, rv, ⟨o, ho, hc, n, hd⟩, _⟩ := I.tuple h
    obtain ⟨as, hr⟩ := DVs.reads I ds _ its t rv
    obtain ⟨bs, hb, hk⟩ := DVs.rk I ds _ its t rv hok fun x hx => Nat.le_trans (tupleText_mem_le hx) hz
    have R := Reads.tuple ho hc hd hr
    have far := not_mem_of_deeper R (by rw [PyData.depth]; omega) hb
    refine ⟨_, ReadAtMost.cons R (by rw [PyData.depth]; omega) hb, ?_⟩
    rw [PyData.depth, PyData.shown]
    exact ReprK.tuple ho hc hd far hk
  | .dict _, _, u, .dk0 h, r, _, _ => by
    have r' : u = Value.ref _ := r
    subst r'
    obtain ⟨_, sy, vs, rel, o, es, ep, h1, h2, h3, h4⟩ := I.hok _ _ h
    cases rel
    have e0 : es.toList = [] := by
      have h5 := h4.2.1
      generalize es.toList = l at h5 ⊢
      cases h5
      rfl
    have R : Reads s.heap (.ref _) (.dict []) _ := Reads.dict (as := []) (bs := []) h1 h2.1 h3 (by rw [e0]; exact ReadsAll.nil) (by rw [e0]; exact ReadsAll.nil)
    have hb : ReadAtMost s.heap (PyData.depthKv []) [] := fun _ q => by cases q
    refine ⟨_, ReadAtMost.cons R (by rw [PyData.depth]; omega) hb, ?_⟩
    rw [PyData.depth, PyData.shown, PyData.shownKv]
    exact ReprK.dict h1 h2.1 h3 sy (fun q => by cases q) (by rw [e0]; exact .nil)
theorem DVs.rk (I : Inv X pins σ H s) : ∀ (ds : List PyData) (vs : List V) (us : List Value), DVs X.K H vs ds → Vals vs us → okAll ds = true → (∀ x ∈ PyData.shownAll ds, x.length ≤ sizeLine) → ∃ bs, ReadAtMost s.heap (PyData.depthAll ds) bs ∧ ReprAllK X.prog X.w bs s.heap (PyData.depthAll ds) us (PyData.shownAll ds)
  | [], _, _, .nil, r, _, _ => by
    cases r
    exact ⟨[], (fun _ q => by cases q), by rw [PyData.shownAll]; exact .nil⟩
  | d :: ds, _, _, .cons h1 h2, r, hok, hz => by
    cases r with
    | cons r1 r2 =>
      rw [okAll, Bool.and_eq_true] at hok
      rw [PyData.shownAll] at hz
      obtain ⟨p1, a1, k1⟩ := DV.rk I d _ _ h1 r1 hok.1 (hz _ List.mem_cons_self)
      obtain ⟨p2, a2, k2⟩ := DVs.rk I ds _ _ h2 r2 hok.2 fun x hx => hz x (List.mem_cons_of_mem _ hx)
      rw [PyData.shownAll, PyData.depthAll]
      refine ⟨p1 ++ p2, fun b hm => ?_, .cons ((k1.more fun b hb => List.mem_append_left _ hb).level_le (by omega)) (k2.more_le (fun b hb => List.mem_append_right _ hb) (by omega))⟩
      rcases List.mem_append.mp hm with q | q
      · obtain ⟨e, f, r, g⟩ := a1 b q
        exact ⟨e, f, r, by omega⟩
      · obtain ⟨e, f, r, g⟩ := a2 b q
        exact ⟨e, f, r, by omega⟩
end
/-- repr of any data -/
def rRepr2 (K : PySem.W.Frag) : List V → Hp → VK → Prop := fun xs H Q => ∃ (v : V) (d : PyData), xs = [v] ∧ DV K H v d ∧ okD d = true ∧ d.depth ≤ 40 ∧ szD d ≤ 1000000 ∧ Q (.str d.shown) H
theorem call_repr2 (hg : X.A.guards = some []) (hu : X.A.units + 64 < cLine) : CallR X (.builtin "repr") (rRepr2 X.K) := by
  intro pins s σ H xs us Q I r h
  obtain ⟨v, d, rfl, hd, hok, hdep, hsz, q⟩ := h
  have hl : d.shown.length ≤ sizeLine := by
    have := shown_le2 d hok
    rw [sizeLine_eq]
    omega
  obtain ⟨u, rfl, ru⟩ : ∃ u, us = [u] ∧ RelV v u := by
    cases r with
    | cons r1 r2 => cases r2; exact ⟨_, rfl, r1⟩
  have kk : ∀ b o, s.heap.get? b = some o → s.heap.get? b = some o := fun _ _ e => e
  cases hd with
  | non =>
    have r' : u = Value.none := ru
    subst r'
    rw [PyData.shown] at q
    exact PySem.P.repr_of_none ⟨.str _, H, I.tok _, ⟨_, rfl⟩, q⟩
  | bl b =>
    have r' : u = Value.bool b := ru
    subst r'
    rw [PyData.shown] at q
    exact PySem.P.repr_of_bool ⟨.str _, H, I.tok _, ⟨_, rfl⟩, q⟩
  | int i =>
    obtain ⟨t, rfl⟩ := ru
    rw [okD] at hok
    have := log_of (of_decide_eq_true hok)
    rw [PyData.shown] at q
    exact PySem.P.repr_of_int (by omega) ⟨.str _, H, I.tok _, ⟨_, rfl⟩, q⟩
  | str x =>
    obtain ⟨t, rfl⟩ := ru
    rw [PyData.shown] at q hl
    exact PySem.P.repr_of_str ⟨.str _, H, I.tok _, ⟨_, rfl⟩, q⟩ hl
  | lst h t =>
    rename_i a vs ds
    have r' : u = Value.ref a := ru
    subst r'
    rw [okD] at hok
    rw [PyData.shown] at hl q
    rw [PyData.depth] at hdep
    obtain ⟨its, rv, ⟨o, n, ho, hc, _, hdt⟩, _⟩ := I.list h
    obtain ⟨as, hr⟩ := DVs.reads I ds _ its t rv
    obtain ⟨bs, hb, hk⟩ := DVs.rk I ds _ its t rv hok fun x hx => Nat.le_trans (listText_mem_le hx) hl
    have far := not_mem_of_deeper (Reads.list ho hc hdt hr) (by rw [PyData.depth]; omega) hb
    refine call_repr_slot (by omega) ⟨o, ho, hc⟩ F.slot_list_repr.toG ?_
    cases its with
    | nil =>
      cases rv
      cases t
      rw [PyData.shownAll, listText_nil] at q
      exact call_list_repr_empty ⟨o, ho, hc⟩ ho hdt ⟨_, _, rfl, .str _, H, I.tok _, ⟨_, rfl⟩, q⟩
    | cons y l =>
      exact call_list_reprK ho hc hdt far (by rw [hk.length_eq]; rfl) (fun i y e => hk.item i y (by rw [List.getElem?_toArray] at e; exact e)) hg (fun b _ => Clear.nil b) (by show X.A.units + 1 + _ < cLine; omega) kk
        (fun h' u tk k => ⟨_, _, rfl, .str _, H, I.kept k, ⟨_, rfl⟩, q⟩) hl
  | tup h t =>
    rename_i a vs ds
    have r' : u = Value.ref a := ru
    subst r'
    rw [okD] at hok
    rw [PyData.shown] at hl q
    rw [PyData.depth] at hdep
    obtain ⟨its, rv, ⟨o, ho, hc, n, hdt⟩, _⟩ := I.tuple h
    obtain ⟨as, hr⟩ := DVs.reads I ds _ its t rv
    obtain ⟨bs, hb, hk⟩ := DVs.rk I ds _ its t rv hok fun x hx => Nat.le_trans (tupleText_mem_le hx) hl
    have far := not_mem_of_deeper (Reads.tuple ho hc hdt hr) (by rw [PyData.depth]; omega) hb
    refine call_repr_slot (by omega) ⟨o, ho, hc⟩ F.slot_tuple_repr ?_
    exact call_tuple_reprK ho hc hdt far hk hg (fun b _ => Clear.nil b) (by show X.A.units + 1 + _ < cLine; omega) kk
      (fun h' u tk k => ⟨_, _, rfl, .str _, H, I.kept k, ⟨_, rfl⟩, q⟩) hl
  | dk0 h =>
    rename_i a
    have r' : u = Value.ref a := ru
    subst r'
    rw [PyData.shown, PyData.shownKv] at q
    obtain ⟨_, sy, vs, rel, o, es, ep, h1, h2, h3, h4⟩ := I.hok _ _ h
    cases rel
    have e0 : es.toList = [] := by
      have h5 := h4.2.1
      generalize es.toList = l at h5 ⊢
      cases h5
      rfl
    refine call_repr_slot (by omega) ⟨o, h1, h2.1⟩ F.slot_dict_repr ?_
    exact call_dict_reprK (d := 0) (as := []) h1 h2.1 h3 sy (fun q => by cases q) (by rw [e0]; exact .nil) hg (fun b _ => Clear.nil b) (by show X.A.units + 1 + _ < cLine; omega) kk
      (fun h' u tk k => ⟨_, _, rfl, .str _, H, I.kept k, ⟨_, rfl⟩, q⟩) (by rw [sizeLine_eq]; decide)
end
/-! ### repr of a dict -/
def bits (D : List (PyData × PyData)) : List Str := List.zipWith (fun k v : Str => k ++ ": " ++ v) (PyData.shownAll (D.map Prod.fst)) (PyData.shownAll (D.map Prod.snd))
def textD (D : List (PyData × PyData)) : Str := dictText (bits D)
theorem zip_pile : ∀ ks vs : List Str, pile (List.zipWith (fun k v : Str => k ++ ": " ++ v) ks vs) ≤ pile ks + pile vs
  | [], _ => by simp [pile]
  | _ :: _, [] => by simp [pile]
  | k :: ks, v :: vs => by
    have ih := zip_pile ks vs
    show (k ++ ": " ++ v).length + 2 + pile (List.zipWith _ ks vs) ≤ k.length + 2 + pile ks + (v.length + 2 + pile vs)
    have e : (k ++ (": " : Str) ++ v).length = k.length + 2 + v.length := by
      rw [Str.length_append, Str.length_append]; rfl
    rw [e]
    omega
theorem textD_len {D : List (PyData × PyData)} (h1 : okAll (D.map Prod.fst) = true) (h2 : okAll (D.map Prod.snd) = true) : (textD D).length ≤ szAll (D.map Prod.fst) + szAll (D.map Prod.snd) + 2 := by
  unfold textD dictText
  have e1 := join_le (bits D)
  have e2 := zip_pile (PyData.shownAll (D.map Prod.fst)) (PyData.shownAll (D.map Prod.snd))
  have e3 := shownAll_le2 _ h1
  have e4 := shownAll_le2 _ h2
  rw [Str.length_append, Str.length_append]
  have : ("{" : Str).length = 1 := rfl
  have : ("}" : Str).length = 1 := rfl
  unfold bits at e1 ⊢
  omega
theorem mem_pile {x : Str} : ∀ {l : List Str}, x ∈ l → x.length ≤ pile l
  | y :: r, h => by
    show _ ≤ y.length + 2 + pile r
    rcases List.mem_cons.mp h with e | e
    · rw [e]; omega
    · have := mem_pile e; omega
theorem keys_vals {P : Program} {w : World} : ∀ {es : List DictEntry} {kvs : List (Key × V)} {vs : List (Key × Value)}, KV kvs vs → Pairs (mixKind P w) es vs → Vals (kvs.map fun kv => kV kv.1) (es.map (·.key)) ∧ Vals (kvs.map Prod.snd) (es.map (·.val))
  | _, [], _, r, p => by
    cases r
    cases p
    exact ⟨.nil, .nil⟩
  | _, kv :: kvs, _, r, p => by
    cases r with
    | cons h t =>
      cases p with
      | cons k1 k2 pr =>
        obtain ⟨i1, i2⟩ := keys_vals (P := P) (w := w) t pr
        refine ⟨.cons (relV_key ?_) i1, .cons (show RelV kv.2 _ by have q := h.2; rw [← k2] at q; exact q) i2⟩
        have : keyIs _ _ = true := k1
        rw [h.1]; exact this
def rReprD (K : PySem.W.Frag) : List V → Hp → VK → Prop := fun xs H Q => ∃ (a : Addr) (kvs : List (Key × V)) (D : List (PyData × PyData)), xs = [.ref a] ∧ H a = some (.dK kvs) ∧ DVs K H (kvs.map fun kv => kV kv.1) (D.map Prod.fst) ∧ DVs K H (kvs.map Prod.snd) (D.map Prod.snd) ∧
  okAll (D.map Prod.fst) = true ∧ okAll (D.map Prod.snd) = true ∧ PyData.depthKv D ≤ 40 ∧ szAll (D.map Prod.fst) ≤ 1000000 ∧ szAll (D.map Prod.snd) ≤ 1000000 ∧ Q (.str (textD D)) H
section
variable {X : Cx}
theorem call_reprD (hg : X.A.guards = some []) (hu : X.A.units + 64 < cLine) : CallR X (.builtin "repr") (rReprD X.K) := by
  intro pins s σ H xs us Q I r h
  obtain ⟨a, kvs, D, rfl, hd, hK, hV, o1, o2, hdep, z1, z2, q⟩ := h
  obtain ⟨u, rfl, ru⟩ := vals1 r
  obtain rfl : u = Value.ref a := ru
  obtain ⟨_, sy, vs, rel, o, es, ep, h1, h2, h3, h4⟩ := I.hok _ _ hd
  obtain ⟨rk, rvv⟩ := keys_vals (P := X.prog) (w := X.w) rel h4.2.1
  have l1 := shownAll_le2 _ o1
  have l2 := shownAll_le2 _ o2
  have hline := sizeLine_eq
  obtain ⟨as1, R1⟩ := DVs.reads I _ _ _ hK rk
  obtain ⟨as2, R2⟩ := DVs.reads I _ _ _ hV rvv
  obtain ⟨bs1, b1, k1⟩ := DVs.rk I _ _ _ hK rk o1 fun x hx => by have := mem_pile hx; omega
  obtain ⟨bs2, b2, k2⟩ := DVs.rk I _ _ _ hV rvv o2 fun x hx => by have := mem_pile hx; omega
  have R : Reads s.heap (.ref a) (.dict D) _ := Reads.dict h1 h2.1 h3 R1 R2
  have d1 := PyData.depthAll_keys_le D
  have d2 := PyData.depthAll_vals_le D
  have hb : ReadAtMost s.heap (PyData.depthKv D) (bs1 ++ bs2) := (b1.mono d1).append (b2.mono d2)
  have far := not_mem_of_deeper R (by rw [PyData.depth]; omega) hb
  refine call_repr_slot (by omega) ⟨o, h1, h2.1⟩ F.slot_dict_repr ?_
  refine call_dict_reprK (d := PyData.depthKv D) (as := bs1 ++ bs2) h1 h2.1 h3 sy far (ReprEntriesK.of_two es.toList _ _ (k1.more_le (fun b hb => List.mem_append_left _ hb) d1) (k2.more_le (fun b hb => List.mem_append_right _ hb) d2)) hg (fun b _ => Clear.nil b) (by show X.A.units + 1 + _ < cLine; omega) (fun _ _ e => e)
    (fun h' u tk k => ⟨_, _, rfl, .str _, H, I.kept k, ⟨_, rfl⟩, q⟩) ?_
  have := textD_len o1 o2
  unfold textD bits at this
  omega
end
/-! ### data with dicts in it -/
mutual
inductive DW (K : PySem.W.Frag) (H : Hp) : V → PyData → Prop
  | non : DW K H .non .none
  | bl (b : Bool) : DW K H (.bl b) (.bool b)
  | int (i : Int) : DW K H (.int i) (.int i)
  | str (x : Str) : DW K H (.str x) (.str x)
  | lst {a : Addr} {xs : List V} {ds : List PyData} : SqL K H a xs → DWs K H xs ds → DW K H (.ref a) (.list ds)
  | tup {a : Addr} {xs : List V} {ds : List PyData} : SqT K H a xs → DWs K H xs ds → DW K H (.ref a) (.tuple ds)
  | dic {a : Addr} {kvs : List (Key × V)} {D : List (PyData × PyData)} : H a = some (.dK kvs) → DWs K H (kvs.map fun kv => kV kv.1) (D.map Prod.fst) → DWs K H (kvs.map Prod.snd) (D.map Prod.snd) → DW K H (.ref a) (.dict D)
inductive DWs (K : PySem.W.Frag) (H : Hp) : List V → List PyData → Prop
  | nil : DWs K H [] []
  | cons {v : V} {vs : List V} {d : PyData} {ds : List PyData} : DW K H v d → DWs K H vs ds → DWs K H (v :: vs) (d :: ds)
end
theorem DWs.ints {K : PySem.W.Frag} {H : Hp} : ∀ ks : List Int, DWs K H (ks.map V.int) (ks.map PyData.int)
  | [] => .nil
  | k :: r => .cons (.int k) (DWs.ints r)
mutual
def szW : PyData → Nat
  | .none => 303
  | .bool _ => 303
  | .int _ => 303
  | .str x => PyData.shown (.str x) |>.length
  | .list xs => szWs xs + 2
  | .tuple xs => szWs xs + 3
  | .dict D => szWk D + 2
def szWs : List PyData → Nat
  | [] => 0
  | x :: xs => szW x + 2 + szWs xs
def szWk : List (PyData × PyData) → Nat
  | [] => 0
  | (k, v) :: r => szW k + szW v + 4 + szWk r
end
mutual
/-- ints of moderate size -/
def okW : PyData → Bool
  | .none | .bool _ | .str _ => true
  | .int i => decide (i.natAbs < 2 ^ 300)
  | .list xs | .tuple xs => okWs xs
  | .dict D => okWk D
def okWs : List PyData → Bool
  | [] => true
  | x :: xs => okW x && okWs xs
def okWk : List (PyData × PyData) → Bool
  | [] => true
  | (k, v) :: r => okW k && okW v && okWk r
end
theorem okWk_split : ∀ {D : List (PyData × PyData)}, okWk D = true → okWs (D.map Prod.fst) = true ∧ okWs (D.map Prod.snd) = true
  | [], _ => ⟨by rw [List.map_nil, okWs], by rw [List.map_nil, okWs]⟩
  | (k, v) :: r, h => by
    rw [okWk, Bool.and_eq_true, Bool.and_eq_true] at h
    obtain ⟨i1, i2⟩ := okWk_split h.2
    exact ⟨by rw [List.map_cons, okWs, h.1.1, i1]; rfl, by rw [List.map_cons, okWs, h.1.2, i2]; rfl⟩
mutual
theorem shown_leW : ∀ d : PyData, okW d = true → d.shown.length ≤ szW d
  | .none, _ => by have := shown_le .none rfl; rw [szD] at this; rw [szW]; omega
  | .bool b, _ => by have := shown_le (.bool b) rfl; rw [szD] at this; rw [szW]; omega
  | .int i, h => by
    have := shown_le (.int i) (by rw [okW] at h; rw [modD]; exact h)
    rw [szD] at this; rw [szW]; omega
  | .str x, _ => by rw [szW]; exact Nat.le_refl _
  | .list xs, h => by
    have h2 : okWs xs = true := by rw [okW] at h; exact h
    have b := shownAll_leW xs h2
    have a := listText_le (PyData.shownAll xs)
    rw [szW, PyData.shown]
    omega
  | .tuple xs, h => by
    have h2 : okWs xs = true := by rw [okW] at h; exact h
    have b := shownAll_leW xs h2
    have a := tupleText_le (PyData.shownAll xs)
    rw [szW, PyData.shown]
    omega
  | .dict D, h => by
    have h2 : okWk D = true := by rw [okW] at h; exact h
    have b := shownKv_leW D h2
    have a := join_le (PyData.shownKv D)
    rw [szW, PyData.shown]
    unfold dictText
    rw [Str.length_append, Str.length_append]
    have : ("{" : Str).length = 1 := rfl
    have : ("}" : Str).length = 1 := rfl
    omega
theorem shownAll_leW : ∀ xs : List PyData, okWs xs = true → pile (PyData.shownAll xs) ≤ szWs xs
  | [], _ => by rw [PyData.shownAll, szWs]; exact Nat.le_refl _
  | x :: xs, h => by
    rw [okWs, Bool.and_eq_true] at h
    have a := shown_leW x h.1
    have b := shownAll_leW xs h.2
    rw [szWs, PyData.shownAll]
    show x.shown.length + 2 + pile (PyData.shownAll xs) ≤ _
    omega
theorem shownKv_leW : ∀ D : List (PyData × PyData), okWk D = true → pile (PyData.shownKv D) ≤ szWk D
  | [], _ => by rw [PyData.shownKv, szWk]; exact Nat.le_refl _
  | (k, v) :: r, h => by
    rw [okWk, Bool.and_eq_true, Bool.and_eq_true] at h
    have a := shown_leW k h.1.1
    have b := shown_leW v h.1.2
    have c := shownKv_leW r h.2
    rw [szWk, PyData.shownKv]
    show (k.shown ++ (": " : Str) ++ v.shown).length + 2 + pile (PyData.shownKv r) ≤ _
    rw [Str.length_append, Str.length_append]
    have : (": " : Str).length = 2 := rfl
    omega
end
section
variable {X : Cx} {pins : List (Addr × Obj)} {σ : L2.St} {H : Hp} {s : Shared}
mutual
theorem DW.reads (I : Inv X pins σ H s) : ∀ {v : V} {d : PyData} (_ : DW X.K H v d) (u : Value), RelV v u → ∃ as, Reads s.heap u d as
  | _, _, .non, _, r => ⟨_, (show _ = Value.none from r) ▸ Reads.none⟩
  | _, _, .bl b, _, r => ⟨_, (show _ = Value.bool b from r) ▸ Reads.bool b⟩
  | _, _, .int i, _, r => by
    obtain ⟨t, q⟩ := r
    rw [q]
    exact ⟨_, Reads.int i t⟩
  | _, _, .str x, _, r => by
    obtain ⟨t, q⟩ := r
    rw [q]
    exact ⟨_, Reads.str x t⟩
  | _, _, .lst h t, u, r => by
    have r' : u = Value.ref _ := r
    subst r'
    obtain ⟨its, rv, ⟨o, n, ho, hc, _, hd⟩, _⟩ := I.list h
    obtain ⟨as, hr⟩ := DWs.reads I t its rv
    exact ⟨_, Reads.list ho hc hd hr⟩
  | _, _, .tup h t, u, r => by
    have r' : u = Value.ref _ := r
    subst r'
    obtain ⟨its, rv, ⟨o, ho, hc, n, hd⟩, _⟩ := I.tuple h
    obtain ⟨as, hr⟩ := DWs.reads I t its rv
    exact ⟨_, Reads.tuple ho hc hd hr⟩
  | _, _, .dic h t1 t2, u, r => by
    have r' : u = Value.ref _ := r
    subst r'
    obtain ⟨_, _, vs, rel, o, es, ep, h1, h2, h3, h4⟩ := I.hok _ _ h
    obtain ⟨rk, rvv⟩ := keys_vals (P := X.prog) (w := X.w) rel h4.2.1
    obtain ⟨as1, R1⟩ := DWs.reads I t1 _ rk
    obtain ⟨as2, R2⟩ := DWs.reads I t2 _ rvv
    exact ⟨_, Reads.dict h1 h2.1 h3 R1 R2⟩
theorem DWs.reads (I : Inv X pins σ H s) : ∀ {vs : List V} {ds : List PyData} (_ : DWs X.K H vs ds) (us : List Value), Vals vs us → ∃ as, ReadsAll s.heap us ds as
  | _, _, .nil, _, r => by
    cases r
    exact ⟨_, ReadsAll.nil⟩
  | _, _, .cons h1 h2, _, r => by
    cases r with
    | cons r1 r2 =>
      obtain ⟨as, q1⟩ := DW.reads I h1 _ r1
      obtain ⟨bs, q2⟩ := DWs.reads I h2 _ r2
      exact ⟨_, ReadsAll.cons q1 q2⟩
end
mutual
theorem DW.rk (I : Inv X pins σ H s) : ∀ {v : V} {d : PyData} (_ : DW X.K H v d) (u : Value), RelV v u → okW d = true → d.shown.length ≤ sizeLine → ∃ bs, ReadAtMost s.heap d.depth bs ∧ ReprK X.prog X.w bs s.heap d.depth u d.shown
  | _, _, .non, _, r, _, _ => ⟨[], (fun _ q => by cases q), by rw [PyData.shown, (show _ = Value.none from r)]; exact .of_is ReprIs.none _ _ _⟩
  | _, _, .bl b, _, r, _, _ => ⟨[], (fun _ q => by cases q), by rw [PyData.shown, (show _ = Value.bool b from r)]; exact .of_is (ReprIs.bool b) _ _ _⟩
  | _, _, .int i, _, r, h, _ => by
    obtain ⟨t, rfl⟩ := r
    rw [okW] at h
    have := log_of (of_decide_eq_true h)
    exact ⟨[], (fun _ q => by cases q), by rw [PyData.shown]; exact .of_is (ReprIs.int t (by omega)) _ _ _⟩
  | _, _, .str x, _, r, _, hz => by
    obtain ⟨t, rfl⟩ := r
    rw [PyData.shown] at hz
    exact ⟨[], (fun _ q => by cases q), by rw [PyData.shown]; exact .of_is (ReprIs.str x t hz) _ _ _⟩
  | _, _, .lst h t, u, r, hok, hz => by
    have r' : u = Value.ref _ := r
    subst r'
    rw [okW] at hok
    rw [PyData.shown] at hz
    obtain ⟨its, rv, ⟨o, n, ho, hc, _, hd⟩, _⟩ := I.list h
    obtain ⟨as, hr⟩ := DWs.reads I t its rv
    obtain ⟨bs, hb, hk⟩ := DWs.rk I t its rv hok fun x hx => Nat.le_trans (listText_mem_le hx) hz
    have R := Reads.list ho hc hd hr
    have far := not_mem_of_deeper R (by rw [PyData.depth]; omega) hb
    refine ⟨_, ReadAtMost.cons R (by rw [PyData.depth]; omega) hb, ?_⟩
    rw [PyData.depth, PyData.shown]
    cases its with
    | nil =>
      cases rv
      cases t
      rw [PyData.shownAll, listText_nil]
      exact ReprK.listEmpty ho hc hd
    | cons y l => exact ReprK.list ho hc hd far (by rw [hk.length_eq]; rfl) fun i y e => hk.item i y (by rw [List.getElem?_toArray] at e; exact e)
  | _, _, .tup h t, u, r, hok, hz => by
    have r' : u = Value.ref _ := r
    subst r'
    rw [okW] at hok
    rw [PyData.shown] at hz
    obtain ⟨its, rv, ⟨o, ho, hc, n, hd⟩, _⟩ := I.tuple h
    obtain ⟨as, hr⟩ := DWs.reads I t its rv
    obtain ⟨bs, hb, hk⟩ := DWs.rk I t its rv hok fun x hx => Nat.le_trans (tupleText_mem_le hx) hz
    have R := Reads.tuple ho hc hd hr
    have far := not_mem_of_deeper R (by rw [PyData.depth]; omega) hb
    refine ⟨_, ReadAtMost.cons R (by rw [PyData.depth]; omega) hb, ?_⟩
    rw [PyData.depth, PyData.shown]
    exact ReprK.tuple ho hc hd far hk
  | _, _, .dic (D := D) h t1 t2, u, r, hok, hz => by
    have r' : u = Value.ref _ := r
    subst r'
    rw [okW] at hok
    obtain ⟨o1, o2⟩ := okWk_split hok
    rw [PyData.shown] at hz
    obtain ⟨_, sy, vs, rel, o, es, ep, h1, h2, h3, h4⟩ := I.hok _ _ h
    obtain ⟨rk, rvv⟩ := keys_vals (P := X.prog) (w := X.w) rel h4.2.1
    obtain ⟨as1, R1⟩ := DWs.reads I t1 _ rk
    obtain ⟨as2, R2⟩ := DWs.reads I t2 _ rvv
    obtain ⟨bs1, b1, k1⟩ := DWs.rk I t1 _ rk o1 fun t ht => let ⟨p, hp, hl⟩ := PyData.shownKv_key_le D t ht; Nat.le_trans hl (Nat.le_trans (dictText_mem_le hp) hz)
    obtain ⟨bs2, b2, k2⟩ := DWs.rk I t2 _ rvv o2 fun t ht => let ⟨p, hp, hl⟩ := PyData.shownKv_val_le D t ht; Nat.le_trans hl (Nat.le_trans (dictText_mem_le hp) hz)
    have R : Reads s.heap (.ref _) (.dict D) _ := Reads.dict h1 h2.1 h3 R1 R2
    have hb : ReadAtMost s.heap (PyData.depthKv D) (bs1 ++ bs2) := (b1.mono (PyData.depthAll_keys_le D)).append (b2.mono (PyData.depthAll_vals_le D))
    have far := not_mem_of_deeper R (by rw [PyData.depth]; omega) hb
    refine ⟨_, ReadAtMost.cons R (by rw [PyData.depth]; omega) hb, ?_⟩
    rw [PyData.depth, PyData.shown, PyData.shownKv_eq]
    exact ReprK.dict h1 h2.1 h3 sy far (ReprEntriesK.of_two es.toList _ _ (k1.more_le (fun b hb => List.mem_append_left _ hb) (PyData.depthAll_keys_le D)) (k2.more_le (fun b hb => List.mem_append_right _ hb) (PyData.depthAll_vals_le D)))
theorem DWs.rk (I : Inv X pins σ H s) : ∀ {vs : List V} {ds : List PyData} (_ : DWs X.K H vs ds) (us : List Value), Vals vs us → okWs ds = true → (∀ x ∈ PyData.shownAll ds, x.length ≤ sizeLine) → ∃ bs, ReadAtMost s.heap (PyData.depthAll ds) bs ∧ ReprAllK X.prog X.w bs s.heap (PyData.depthAll ds) us (PyData.shownAll ds)
  | _, _, .nil, _, r, _, _ => by
    cases r
    exact ⟨[], (fun _ q => by cases q), by rw [PyData.shownAll]; exact .nil⟩
  | _, _, .cons h1 h2, _, r, hok, hz => by
    cases r with
    | cons r1 r2 =>
      rw [okWs, Bool.and_eq_true] at hok
      rw [PyData.shownAll] at hz
      obtain ⟨p1, a1, k1⟩ := DW.rk I h1 _ r1 hok.1 (hz _ List.mem_cons_self)
      obtain ⟨p2, a2, k2⟩ := DWs.rk I h2 _ r2 hok.2 fun x hx => hz x (List.mem_cons_of_mem _ hx)
      rw [PyData.shownAll, PyData.depthAll]
      refine ⟨p1 ++ p2, fun b hm => ?_, .cons ((k1.more fun b hb => List.mem_append_left _ hb).level_le (by omega)) (k2.more_le (fun b hb => List.mem_append_right _ hb) (by omega))⟩
      rcases List.mem_append.mp hm with q | q
      · obtain ⟨e, f, r, g⟩ := a1 b q
        exact ⟨e, f, r, by omega⟩
      · obtain ⟨e, f, r, g⟩ := a2 b q
        exact ⟨e, f, r, by omega⟩
end
end
/-- repr of a list, a tuple or a dict of data -/
def rReprW (K : PySem.W.Frag) : List V → Hp → VK → Prop := fun xs H Q => ∃ (a : Addr) (d : PyData), xs = [.ref a] ∧ DW K H (.ref a) d ∧ okW d = true ∧ d.depth ≤ 40 ∧ szW d ≤ 1000000 ∧ Q (.str d.shown) H
section
variable {X : Cx}
theorem call_reprW (hg : X.A.guards = some []) (hu : X.A.units + 64 < cLine) : CallR X (.builtin "repr") (rReprW X.K) := by
  intro pins s σ H xs us Q I r h
  obtain ⟨a, d, rfl, hd, hok, hdep, hsz, q⟩ := h
  have hl : d.shown.length ≤ sizeLine := by
    have := shown_leW d hok
    rw [sizeLine_eq]
    omega
  obtain ⟨u, rfl, ru⟩ := vals1 r
  obtain rfl : u = Value.ref a := ru
  have kk : ∀ b o, s.heap.get? b = some o → s.heap.get? b = some o := fun _ _ e => e
  cases hd with
  | lst h t =>
    rename_i vs ds
    rw [okW] at hok
    rw [PyData.shown] at hl q
    rw [PyData.depth] at hdep
    obtain ⟨its, rv, ⟨o, n, ho, hc, _, hdt⟩, _⟩ := I.list h
    obtain ⟨as, hr⟩ := DWs.reads I t its rv
    obtain ⟨bs, hb, hk⟩ := DWs.rk I t its rv hok fun x hx => Nat.le_trans (listText_mem_le hx) hl
    have far := not_mem_of_deeper (Reads.list ho hc hdt hr) (by rw [PyData.depth]; omega) hb
    refine call_repr_slot (by omega) ⟨o, ho, hc⟩ F.slot_list_repr.toG ?_
    cases its with
    | nil =>
      cases rv
      cases t
      rw [PyData.shownAll, listText_nil] at q
      exact call_list_repr_empty ⟨o, ho, hc⟩ ho hdt ⟨_, _, rfl, .str _, H, I.tok _, ⟨_, rfl⟩, q⟩
    | cons y l =>
      exact call_list_reprK ho hc hdt far (by rw [hk.length_eq]; rfl) (fun i y e => hk.item i y (by rw [List.getElem?_toArray] at e; exact e)) hg (fun b _ => Clear.nil b) (by show X.A.units + 1 + _ < cLine; omega) kk
        (fun h' u tk k => ⟨_, _, rfl, .str _, H, I.kept k, ⟨_, rfl⟩, q⟩) hl
  | tup h t =>
    rename_i vs ds
    rw [okW] at hok
    rw [PyData.shown] at hl q
    rw [PyData.depth] at hdep
    obtain ⟨its, rv, ⟨o, ho, hc, n, hdt⟩, _⟩ := I.tuple h
    obtain ⟨as, hr⟩ := DWs.reads I t its rv
    obtain ⟨bs, hb, hk⟩ := DWs.rk I t its rv hok fun x hx => Nat.le_trans (tupleText_mem_le hx) hl
    have far := not_mem_of_deeper (Reads.tuple ho hc hdt hr) (by rw [PyData.depth]; omega) hb
    refine call_repr_slot (by omega) ⟨o, ho, hc⟩ F.slot_tuple_repr ?_
    exact call_tuple_reprK ho hc hdt far hk hg (fun b _ => Clear.nil b) (by show X.A.units + 1 + _ < cLine; omega) kk
      (fun h' u tk k => ⟨_, _, rfl, .str _, H, I.kept k, ⟨_, rfl⟩, q⟩) hl
  | dic h t1 t2 =>
    rename_i kvs D
    rw [okW] at hok
    obtain ⟨o1, o2⟩ := okWk_split hok
    rw [PyData.shown] at hl q
    rw [PyData.depth] at hdep
    obtain ⟨_, sy, vs, rel, o, es, ep, h1, h2, h3, h4⟩ := I.hok _ _ h
    obtain ⟨rk, rvv⟩ := keys_vals (P := X.prog) (w := X.w) rel h4.2.1
    obtain ⟨as1, R1⟩ := DWs.reads I t1 _ rk
    obtain ⟨as2, R2⟩ := DWs.reads I t2 _ rvv
    obtain ⟨bs1, b1, k1⟩ := DWs.rk I t1 _ rk o1 fun t ht => let ⟨p, hp, hl2⟩ := PyData.shownKv_key_le D t ht; Nat.le_trans hl2 (Nat.le_trans (dictText_mem_le hp) hl)
    obtain ⟨bs2, b2, k2⟩ := DWs.rk I t2 _ rvv o2 fun t ht => let ⟨p, hp, hl2⟩ := PyData.shownKv_val_le D t ht; Nat.le_trans hl2 (Nat.le_trans (dictText_mem_le hp) hl)
    have R : Reads s.heap (.ref a) (.dict D) _ := Reads.dict h1 h2.1 h3 R1 R2
    have hb : ReadAtMost s.heap (PyData.depthKv D) (bs1 ++ bs2) := (b1.mono (PyData.depthAll_keys_le D)).append (b2.mono (PyData.depthAll_vals_le D))
    have far := not_mem_of_deeper R (by rw [PyData.depth]; omega) hb
    rw [PyData.shownKv_eq] at hl q
    refine call_repr_slot (by omega) ⟨o, h1, h2.1⟩ F.slot_dict_repr ?_
    exact call_dict_reprK (d := PyData.depthKv D) (as := bs1 ++ bs2) h1 h2.1 h3 sy far (ReprEntriesK.of_two es.toList _ _ (k1.more_le (fun b hb => List.mem_append_left _ hb) (PyData.depthAll_keys_le D)) (k2.more_le (fun b hb => List.mem_append_right _ hb) (PyData.depthAll_vals_le D))) hg (fun b _ => Clear.nil b) (by show X.A.units + 1 + _ < cLine; omega) kk
      (fun h' u tk k => ⟨_, _, rfl, .str _, H, I.kept k, ⟨_, rfl⟩, q⟩) hl
end
/-! ### drawn pins -/
/-- pins without circles: each anchor is 0 or stands earlier in some sequence of the ids -/
structure PinsOf (ids : List Int) (ps : List (Int × Int)) (seq : List Int) : Prop where
  perm : seq.Perm ids
  keys : (ps.map Prod.fst).Nodup
  mem : ∀ e ∈ ps, e.1 ∈ seq
  anc : ∀ e ∈ ps, e.2 = 0 ∨ (e.2 ∈ seq ∧ seq.idxOf e.2 < seq.idxOf e.1)
  len : ps.length ≤ seq.length
theorem an_mem {ps : List (Int × Int)} {x a : Int} (h : anOf ps x = some a) : (x, a) ∈ ps := by
  unfold anOf at h
  cases q : ps.find? (fun e => decide (e.1 = x)) with
  | none => rw [q] at h; cases h
  | some e =>
    rw [q] at h
    have h2 := List.find?_some q
    have h1 : e.2 = a := Option.some.inj h
    have h3 : e.1 = x := of_decide_eq_true h2
    rw [← h1, ← h3]
    exact List.mem_of_find?_eq_some q
theorem PinsOf.forest {ids seq : List Int} {ps : List (Int × Int)} (h : PinsOf ids ps seq) (nd : ids.Nodup) (nz : ∀ x ∈ ids, x ≠ 0) : Forest ids (anOf ps) (fun x => seq.idxOf x) ids.length := by
  refine ⟨nd, nz, fun x hx => ?_, fun x hx a ha => ?_⟩
  · rw [← h.perm.length_eq]
    exact List.idxOf_lt_length_of_mem (h.perm.mem_iff.mpr hx)
  · rcases h.anc _ (an_mem ha) with q | ⟨q1, q2⟩
    · exact .inl q
    · exact .inr ⟨h.perm.mem_iff.mp q1, q2⟩
theorem nP {ps : List (Int × Int)} : ∀ x y, HO.dK (pinK ps) ≠ .dK (dk x y) := fun x y h => by
  have h := HO.dK.inj h
  unfold dk at h
  cases ps with
  | nil => cases h
  | cons e r =>
    have h2 : ((.inl e.1 : Key), V.int e.2) :: pinK r = [(.inr "digits", .int x), (.inr "mixed", .int y)] := h
    have h3 := congrArg Prod.fst (List.cons.inj h2).1
    cases h3
theorem pin_put {ps : List (Int × Int)} {x a : Int} (h : x ∉ ps.map Prod.fst) : putK (pinK ps) (.inl x : Key) (.int a) = pinK (ps ++ [(x, a)]) := by
  have hv : valV (pinK ps) (.inl x : Key) = none := by
    rw [val_pin]
    cases q : anOf ps x with
    | none => rfl
    | some b => exact absurd (List.mem_map.mpr ⟨_, an_mem q, rfl⟩) h
  rw [putK_new _ hv]
  unfold pinK
  rw [List.map_append]; rfl
theorem pin_len (ps : List (Int × Int)) : (pinK ps).length = ps.length := by unfold pinK; rw [List.length_map]
theorem cut_in {xs : List V} {lo hi : Option Int} {v : V} (h : v ∈ cutV xs lo hi) : v ∈ xs := by
  unfold cutV at h
  exact List.mem_of_mem_drop (List.mem_of_mem_take h)
structure TxtP (mg : Str → Option Value) : Prop where
  enum : mg "enumerate" = none
section
variable {P : Program} {w : World} {K : PySem.W.Frag} {mg : Str → Option Value} {base : Heap}
def spPins (K : PySem.W.Frag) : Sp := fun vs H Q _ => ∃ (d b : Addr) (ids : List Int), vs = [.ref d, .ref b] ∧ DeckAt H d ∧ SqL K H b (ids.map V.int) ∧ ids.length ≤ 100 ∧ ids.Nodup ∧
  ∀ (q : Addr) (ps : List (Int × Int)) (seq : List Int) (H' : Hp), H q = none → But d H H' → DeckAt H' d → H' q = some (.dK (pinK ps)) → PinsOf ids ps seq → Q (.ref q) H'
theorem scPins : FnScope ["tape", "base", "sequence", "share", "found", "at", "row_id"] ["tape", "base"] (defScope sPins) := ⟨rfl, rfl, rfl, by decide +kernel, rfl, by decide +kernel, by decide +kernel⟩
theorem ok_pins {f fD fC fS : Addr} {fd fdD fdC fdS : FuncData} (F : Fun K "_law_pins" "_law_pins" sPins f fd) (T : TxtP mg)
    (GD : FnOk P w K mg base CX0 1 fD fdD ["tape", "size"] spDraw) (kD : PySem.W.keepIn K (.ref fD) = true) (bD : L2.Binds K fdD ["tape", "size"] []) (mD : mg "_law_pick" = some (.ref fD))
    (GC : FnOk P w K mg base CX0 2 fC fdC ["tape", "items"] (spChoose K)) (kC : PySem.W.keepIn K (.ref fC) = true) (bC : L2.Binds K fdC ["tape", "items"] []) (mC : mg "_law_one_of" = some (.ref fC))
    (GS : FnOk P w K mg base CX0 2 fS fdS ["tape", "ids"] (spShuf K)) (kS : PySem.W.keepIn K (.ref fS) = true) (bS : L2.Binds K fdS ["tape", "ids"] []) (mS : mg "_law_shuffled" = some (.ref fS)) :
    FnOk P w K mg base CX0 3 f fd ["tape", "base"] (spPins K) := by
  refine F.ok scPins (fun vs H Q E h => ?_) (fun cdv A outer s H vs Q E hr h => ?_)
  · obtain ⟨d, b, ids, rfl, _⟩ := h
    rfl
  · obtain ⟨d, b, ids, rfl, D, hb, hlen, hnd, k⟩ := h
    have hr1 : Room 1 _ := hr.mono (by decide)
    have hu := hu_of hr
    refine ⟨_, pss_cons (ps_set (i := 2) scPins.nd rfl (Or.inl rfl) (pe_call GS hr rfl mS kS bS .nil pass0 (pa_cons (pv 0) (pa_cons (pv 1) pa_nil))))
      (pss_cons (ps_set (i := 3) scPins.nd rfl (Or.inl rfl) (pe_call GC hr rfl mC kC bC .nil pass0 (pa_cons (pv 0) (pa_cons (pe_lst (pa_cons pe_int (pa_cons pe_int (pa_cons pe_int pa_nil)))) pa_nil))))
      (pss_cons (ps_set (i := 4) scPins.nd rfl (Or.inl rfl) pe_dnewK)
      (pss_cons (ps_for PassesOwn.never rfl (pi_enum (by rfl) T.enum (pa_cons (pv 2) pa_nil)) (pg_tup rfl (pgs_cons (pg_name (i := 5) scPins.nd rfl (Or.inl rfl)) (pgs_cons (pg_name (i := 6) scPins.nd rfl (Or.inl rfl)) pgs_nil)))
        (pss_one (ps_if (pt_cmpR op_lt (pe_call GD hr1 rfl mD kD bD .nil pass0 (pa_cons (pv 0) (pa_cons pe_int pa_nil))) (pv 3) (nomark _))
          (pss_one (ps_dput hu (pv 4) (pv 6) (pe_call GC hr rfl mC kC bC .nil pass0 (pa_cons (pv 0) (pa_cons (pe_op op_cat (pe_lst (pa_cons pe_int pa_nil)) (pe_slice sl_list (pe_slice sl_list (pv 2) po_none (po_some (pv 5))) (po_some (pe_un un_neg pe_int)) po_none)) pa_nil))) rfl)) pss_nil)))
      (pss_one (ps_ret (pv 4)))))), ?_⟩
    have h16 : sizeLine = 16777216 := sizeLine_eq
    refine ⟨_, rfl, _, rfl, d, b, ids, rfl, D, hb, by omega, fun sq seq H1 hsq B1 D1 hS hperm => ?_⟩
    have F1 := ((Fs.start D).step D1 B1).add hS nl
    have hsl : seq.length ≤ 100 := by rw [hperm.length_eq]; exact hlen
    have hsn : seq.Nodup := hperm.nodup_iff.mpr hnd
    refine ⟨_, rfl, by rw [h16]; show 3 ≤ 16777216; decide, fun p hp => ?_⟩
    have F2 := F1.new hp (o := .lst (([1, 3, 5] : List Int).map V.int)) nl
    refine ⟨d, p, ([1, 3, 5] : List Int).map V.int, rfl, F2.deck, SqL.of F2.g0, (by intro z; cases z), (by show 3 < 1000000; decide), fun v H2 hv D2 B2 => ?_⟩
    obtain ⟨sh, _, rfl⟩ := List.mem_map.mp hv
    have F3 := (F2.step D2 B2).tail
    intro fo hfo
    have F4 := F3.new hfo (o := .dK (pinK [])) nP
    obtain ⟨a0, a1, a2⟩ := F3.apart hfo
    refine ⟨_, rfl, sq, _, rfl, SqL.of F4.g1, ?_⟩
    refine for_it (walk_enum (K := K) (a := sq) (xs := seq.map V.int)) (fun i σ H' => ∃ (v5 v6 : Option V) (ps : List (Int × Int)), σ = [some (.ref d), some (.ref b), some (.ref sq), some (.int sh), some (.ref fo), v5, v6] ∧ Fs d H [(fo, .dK (pinK ps)), (sq, .lst (seq.map V.int))] H' ∧
        i ≤ seq.length ∧ PinsOf ids ps seq ∧ ps.length ≤ i ∧ ∀ e ∈ ps, e.1 ∈ seq.take i)
      ⟨_, _, [], rfl, F4, Nat.zero_le _, ⟨hperm, List.nodup_nil, fun e h => (by cases h), fun e h => (by cases h), Nat.zero_le _⟩, Nat.zero_le _, fun e h => (by cases h)⟩ (fun i σ H' _ ⟨_, _, _, _, F, _⟩ => SqL.of F.g1) ?_ ?_
    · rintro i x σ H5 H6 hi ⟨v5, v6, ps, rfl, F5, hil, hP, hpl, hk⟩ ⟨T, x', y', rfl, hT, rfl, e1, e2⟩
      rw [List.length_map] at hi
      have e1' : V.int (i : Int) = x' := Option.some.inj e1
      subst e1'
      obtain ⟨y, hy, rfl⟩ := int_at e2
      refine ⟨T, _, rfl, SqT.of upd_same, rfl, _, _, rfl, _, _, rfl, rfl, ?_⟩
      have F6 := F5.skip hT (o := .tup [.int (i : Int), .int y])
      refine ⟨_, rfl, d, 6, rfl, F6.deck, by decide, by decide, fun r H7 r0 r1 D7 B7 => ?_⟩
      have F7 := F6.step D7 B7
      refine ⟨_, rfl, _, _, rfl, rfl, _, rfl, ite2 (fun c => ?_) (fun c => ?_)⟩
      · refine ⟨_, rfl, by rw [h16]; show 1 ≤ 16777216; decide, fun z hz => ?_⟩
        have F8 := F7.new hz (o := .lst [.int 0]) nl
        refine ⟨_, rfl, _, rfl, _, rfl, sq, _, rfl, SqL.of F8.g2, fun c1 hc1 => ?_⟩
        have F9 := F8.new hc1 (o := .lst (cutV (seq.map V.int) none (some (i : Int)))) nl
        refine ⟨_, rfl, _, rfl, c1, _, rfl, SqL.of F9.g0, fun c2 hc2 => ?_⟩
        have F10 := F9.new hc2 (o := .lst (cutV (cutV (seq.map V.int) none (some (i : Int))) (some (-3)) none)) nl
        have l1 := cutV_length (seq.map V.int) none (some (i : Int))
        have l2 := cutV_length (cutV (seq.map V.int) none (some (i : Int))) (some (-3)) none
        rw [List.length_map] at l1
        refine ⟨z, c2, _, _, rfl, rfl, F10.g2, F10.g0, by rw [h16]; show 1 + _ ≤ _; omega, fun c3 hc3 => ?_⟩
        have F11 := F10.new hc3 (o := .lst ([.int 0] ++ cutV (cutV (seq.map V.int) none (some (i : Int))) (some (-3)) none)) nl
        refine ⟨d, c3, _, rfl, F11.deck, SqL.of F11.g0, (by intro z; cases z), (by rw [List.length_append]; show 1 + _ < 1000000; omega), fun v H8 hv D8 B8 => ?_⟩
        have F12 := (F11.step D8 B8).tail.tail.tail.tail
        obtain ⟨a, rfl, ha⟩ : ∃ a : Int, v = .int a ∧ (a = 0 ∨ a ∈ seq.take i) := by
          rcases List.mem_append.mp hv with q | q
          · exact ⟨0, List.mem_singleton.mp q, .inl rfl⟩
          · have q := cut_in q
            rw [cut_to, ← List.map_take] at q
            obtain ⟨a, ha, rfl⟩ := List.mem_map.mp q
            exact ⟨a, rfl, .inr ha⟩
        have hyt : y ∉ seq.take i := fun q => by
          obtain ⟨j, hj⟩ := List.mem_iff_getElem?.mp q
          rw [List.getElem?_take] at hj
          split at hj
          · rename_i hji
            have e := (List.getElem?_inj (by omega) hsn).mp (hj.trans hy.symm)
            omega
          · cases hj
        have hyk : y ∉ ps.map Prod.fst := fun q => by
          obtain ⟨e, he, rfl⟩ := List.mem_map.mp q
          exact hyt (hk e he)
        have hixy : seq.idxOf y = i := by
          obtain ⟨h1, h2⟩ := List.getElem?_eq_some_iff.mp hy
          rw [← h2]
          exact hsn.idxOf_getElem i h1
        refine ⟨_, rfl, _, rfl, fo, _, rfl, DPut.k (k := (.inl y : Key)) (v := .int a) F12.g0 (by rw [pin_len, h16]; omega), ?_⟩
        rw [pin_put hyk]
        have F13 := F12.reput (o' := .dK (pinK (ps ++ [(y, a)]))) a0 (fun p hp => a2 p hp)
        refine ⟨_, _, ps ++ [(y, a)], rfl, F13, by omega, ⟨hperm, ?_, fun e he => ?_, fun e he => ?_, by rw [List.length_append]; show ps.length + 1 ≤ _; omega⟩, by rw [List.length_append]; show ps.length + 1 ≤ _; omega, fun e he => ?_⟩
        · rw [List.map_append]
          refine List.nodup_append.mpr ⟨hP.keys, by simp, fun u hu v hv e => ?_⟩
          have : v = y := by simpa using hv
          rw [e, this] at hu
          exact hyk hu
        · rcases List.mem_append.mp he with q | q
          · exact hP.mem e q
          · rw [List.mem_singleton.mp q]; exact List.mem_of_getElem? hy
        · rcases List.mem_append.mp he with q | q
          · exact hP.anc e q
          · rw [List.mem_singleton.mp q]
            rcases ha with q | q
            · exact .inl q
            · refine .inr ⟨List.mem_of_mem_take q, ?_⟩
              show seq.idxOf a < seq.idxOf y
              rw [hixy]
              obtain ⟨j, hj⟩ := List.mem_iff_getElem?.mp q
              rw [List.getElem?_take] at hj
              split at hj
              · rename_i hji
                obtain ⟨h1, h2⟩ := List.getElem?_eq_some_iff.mp hj
                rw [← h2, hsn.idxOf_getElem j h1]
                exact hji
              · cases hj
        · rw [take_snoc hy]
          rcases List.mem_append.mp he with q | q
          · exact List.mem_append_left _ (hk e q)
          · rw [List.mem_singleton.mp q]; exact List.mem_append_right _ (List.mem_singleton.mpr rfl)
      · refine ⟨_, _, ps, rfl, F7, by omega, hP, by omega, fun e he => ?_⟩
        rw [take_snoc hy]
        exact List.mem_append_left _ (hk e he)
    · rintro σ H5 ⟨v5, v6, ps, rfl, F5, hil, hP, hpl, hk⟩
      refine ⟨_, rfl, k fo ps seq H5 a0 F5.1 F5.deck F5.g0 hP⟩
end
/-! ### sorted, < of data -/
theorem each_vals {β : Type} {val : β → V} : ∀ {bs : List β} {us : List Value}, Vals (bs.map val) us → PySem.W.EachIs (fun u b => RelV (val b) u) us bs
  | [], _, .nil => .nil
  | _ :: _, _, .cons r t => .cons r (each_vals t)
theorem vals_each {β : Type} {val : β → V} : ∀ {us : List Value} {bs : List β}, PySem.W.EachIs (fun u b => RelV (val b) u) us bs → Vals (bs.map val) us
  | _, _, .nil => .nil
  | _, _, .cons r t => .cons r (vals_each t)
/-- sorted(xs) of data that can be compared -/
def rSortD (K : PySem.W.Frag) : List V → Hp → VK → Prop := fun xs H Q => ∃ (a : Addr) (β : Type) (bs : List β) (enc : β → PyData) (val : β → V), xs = [.ref a] ∧ SqL K H a (bs.map val) ∧ (∀ b ∈ bs, DV K H (val b) (enc b)) ∧ PySem.W.AllAlike (bs.map enc) ∧ PySem.W.Sortable (bs.map enc) ∧ (∀ b ∈ bs, (enc b).depth ≤ 40) ∧
  ∀ p, H p = none → Q (.ref p) (upd H p (.lst ((bs.mergeSort (PySem.W.dataLe false enc)).map val)))
section
variable {X : Cx}
theorem each_reads {β : Type} {enc : β → PyData} {val : β → V} {pins : List (Addr × Obj)} {σ : L2.St} {H : Hp} {s : Shared} (I : L2.Inv X pins σ H s) : ∀ {us : List Value} {bs : List β}, PySem.W.EachIs (fun u b => RelV (val b) u) us bs → (∀ b ∈ bs, DV X.K H (val b) (enc b)) → PySem.W.EachIs (fun u b => ∃ as, Reads s.heap u (enc b) as) us bs
  | _, _, .nil, _ => .nil
  | _, _, .cons r t, h => .cons (DV.reads I _ _ _ (h _ List.mem_cons_self) r) (each_reads I t fun b hb => h b (List.mem_cons_of_mem _ hb))
theorem call_sortD (hu : X.A.units + 64 < cLine) : CallR X (.builtin "sorted") (rSortD X.K) := by
  intro pins s σ H xs us Q I r h
  obtain ⟨a, β, bs, enc, val, rfl, hS, hd, hal, hk, hdep, q⟩ := h
  obtain ⟨its, rv, hl, hz⟩ := I.list hS
  obtain ⟨u, rfl, ru⟩ := vals1 r
  obtain rfl : u = Value.ref a := ru
  have e := each_vals rv
  rw [List.length_map] at hz
  refine PySem.W.sorted_data (R := fun u b => RelV (val b) u) (vs := its) hl.isList e (each_reads I e hd) hal hk hz (fun b hb => by have := hdep b hb; omega) fun out hlen hout => ?_
  obtain ⟨n, hn⟩ := sortedAll_at s.heap its out.toArray
  have hle : s.heap.objs.size ≤ s.heap.objs.size + 1 := Nat.le_succ _
  refine ⟨.ref (s.heap.objs.size + 1), upd H (s.heap.objs.size + 1) (.lst ((bs.mergeSort (PySem.W.dataLe false enc)).map val)), I.laid (t' := s.toks) (fun b o e => sortedAll_old e) hle ⟨?_, out, n, vals_each hout, hn⟩, rfl, q _ (I.hok.fresh hle)⟩
  rw [List.length_map, List.length_mergeSort]
  exact hz
/-- x < y of data that can be compared -/
def rLtD (K : PySem.W.Frag) : R2 := fun x y H Q => ∃ dx dy : PyData, DV K H x dx ∧ DV K H y dy ∧ PySem.W.alike dx dy = true ∧ dx ≠ .none ∧ dx.depth ≤ 40 ∧ Q (.bl (PySem.W.dataLt dx dy)) H
theorem op_ltD (hu : X.A.units + 64 < cLine) : OpR X (compareOp .Lt) (rLtD X.K) := by
  intro pins s σ H x y v u Q I rx ry h
  obtain ⟨dx, dy, hx, hy, ha, hn, hdp, q⟩ := h
  obtain ⟨as, r1⟩ := DV.reads I _ _ _ hx rx
  obtain ⟨bs, r2⟩ := DV.reads I _ _ _ hy ry
  exact PySem.W.lt_data r1 r2 ha hn (by omega) ⟨.bl _, H, I, rfl, q⟩
end
/-! ### the places of the anchors -/
theorem idx_hit {R : List Int} {x : Int} (h : x ∈ R) : R[R.idxOf x]? = some x := by
  rw [List.getElem?_eq_getElem (List.idxOf_lt_length_of_mem h)]
  exact congrArg some (List.getElem_idxOf _)
theorem idx_miss : ∀ {R : List Int} {x z : Int} {m : Nat}, m < R.idxOf x → R[m]? = some z → z ≠ x
  | [], x, z, m, hm, hz => by simp at hz
  | y :: R, x, z, m, hm, hz => by
    by_cases e : y = x
    · subst e
      simp at hm
    · have hb : (y == x) = false := by simpa using e
      rw [List.idxOf_cons, hb, cond_false] at hm
      cases m with
      | zero => rw [← Option.some.inj hz]; exact e
      | succ m => exact idx_miss (R := R) (by omega) hz
theorem ix1 {ids : List Int} {x : Int} (hx : x ∈ ids) : (ids.map V.int)[ids.idxOf x]? = some (.int x) := by rw [List.getElem?_map, idx_hit hx]; rfl
theorem ix2 (x : Int) : eqV (.int x) (.int x) = true := by rw [eqV_int]; exact decide_eq_true rfl
theorem ix3 {ids : List Int} {x : Int} (m : Nat) (z : V) (hm : m < ids.idxOf x) (hz : (ids.map V.int)[m]? = some z) : eqV z (.int x) = false := by
  obtain ⟨z, hz2, rfl⟩ := int_at hz
  rw [eqV_int]
  exact decide_eq_false (idx_miss hm hz2)
structure TxtA (mg : Str → Option Value) : Prop where
  int : mg "int" = none
  sorted : mg "sorted" = none
section
variable {P : Program} {w : World} {K : PySem.W.Frag} {mg : Str → Option Value} {base : Heap}
def spPath (K : PySem.W.Frag) : Sp := fun vs H Q _ => ∃ (b d : Addr) (ids : List Int) (ps : List (Int × Int)) (r : Int → Nat) (N : Nat) (x : Int), vs = [.ref b, .ref d, .int x] ∧ SqL K H b (ids.map V.int) ∧ H d = some (.dK (pinK ps)) ∧ Forest ids (anOf ps) r N ∧ N ≤ 1000 ∧ x ∈ ids ∧
  ∀ (q : Addr) (H' : Hp), Same H H' → H q = none → H' q = some (.lst ((pathOf ids (anOf ps) r x).map V.int)) → Q (.ref q) H'
theorem scPath : FnScope ["base", "pins", "row_id", "found"] ["base", "pins", "row_id"] (defScope sPath) := ⟨rfl, rfl, rfl, by decide +kernel, rfl, by decide +kernel, by decide +kernel⟩
theorem ok_path {f : Addr} {fd : FuncData} (F : Fun K "_law_path" "_law_path" sPath f fd) (T : TxtA mg) : FnOk P w K mg base CX0 1 f fd ["base", "pins", "row_id"] (spPath K) := by
  refine F.ok scPath (fun vs H Q E h => ?_) (fun cdv A outer s H vs Q E hr h => ?_)
  · obtain ⟨b, d, ids, ps, r, N, x, rfl, _⟩ := h
    rfl
  · obtain ⟨b, d, ids, ps, r, N, x, rfl, hb, hd, Fo, hN, hx, k⟩ := h
    have hu := hu_of hr
    refine ⟨_, pss_cons (ps_set (i := 3) scPath.nd rfl (Or.inl rfl) (pe_lst (pa_cons (pe_bm PySem.F.plainAttrs_list PySem.F.slot_list_index PySem.F.type_list_index mt_index (pv 0) (pa_cons (pv 2) pa_nil)) pa_nil)))
      (pss_cons (ps_while PassesOwn.never (PW.pt (pw_and (pt_cmp (pc_din hu (pv 2) (pv 1))) (pw_and1 (pt_cmpR op_ne (pe_dget hu (pv 1) (pv 2) (fun _ _ => rfl)) pe_int (nomark _)))))
        (pss_cons (ps_set (i := 2) scPath.nd rfl (Or.inl rfl) (pe_dget hu (pv 1) (pv 2) (fun _ _ => rfl)))
        (pss_one (ps_expr (pe_bm PySem.F.plainAttrs_list PySem.F.slot_list_insert PySem.F.type_list_insert mt_insert (pv 3) (pa_cons pe_int (pa_cons (pe_bm PySem.F.plainAttrs_list PySem.F.slot_list_index PySem.F.type_list_index mt_index (pv 0) (pa_cons (pv 2) pa_nil)) pa_nil)))))))
      (pss_one (ps_ret (pe_op op_cat (pe_lst (pa_cons (pe_callTy call_int1 (by rfl) T.int (by decide +kernel) (pa_cons (pe_cmp (pc_dnotin hu (pv 2) (pv 1))) pa_nil)) pa_nil)) (pv 3))))), ?_⟩
    have h16 : sizeLine = 16777216 := sizeLine_eq
    refine ⟨_, rfl, .inl ⟨rfl, _, hb⟩, _, rfl, b, _, .int x, ids.idxOf x, .int x, rfl, rfl, hb, rfl, all_flat ids, ix1 hx, ix2 x, ix3, ?_⟩
    refine ⟨by rw [h16]; show 1 ≤ 16777216; decide, fun fo hfo => ?_⟩
    refine ⟨fun m σ H' => ∃ (y : Int) (rest : List Int), σ = [some (.ref b), some (.ref d), some (.int y), some (.ref fo)] ∧ y ∈ ids ∧ m = r y ∧ Same H H' ∧ H' fo = some (.lst ((ixI ids y :: rest).map V.int)) ∧ pathOf ids (anOf ps) r x = pathOf ids (anOf ps) r y ++ rest ∧ rest.length + r y ≤ 1000,
      ⟨_, x, [], rfl, hx, rfl, Same.new hfo, upd_same, by rw [List.append_nil], by have := Fo.lt x hx; show 0 + r x ≤ 1000; omega⟩, ?_⟩
    rintro m σ H1 ⟨y, rest, rfl, hy, rfl, s1, hL, hp, hrl⟩
    have hd1 := s1 _ _ hd
    have dg := DGet.k (k := (.inl y : Key)) hd1
    have hv := val_pin ps y
    refine ⟨_, rfl, _, rfl, d, _, rfl, dg, _, rfl, ?_⟩
    rw [hv]
    cases ea : anOf ps y with
    | none =>
      refine iteF (iteF ?_)
      rw [hv, ea] at dg
      refine ⟨_, rfl, _, rfl, d, _, rfl, dg, .inr ⟨_, rfl, ?_⟩⟩
      refine ⟨by rw [h16]; show 1 ≤ 16777216; decide, fun z hz => ?_⟩
      have s2 := Same.new (o := .lst [.int 1]) hz
      refine ⟨_, rfl, z, fo, _, _, rfl, rfl, upd_same, s2 _ _ hL, by rw [List.length_map, h16]; show 1 + (rest.length + 1) ≤ _; omega, fun q hq => ?_⟩
      refine k q _ (s1.trans (s2.trans (Same.new hq))) (Same.free (s1.trans s2) hq) ?_
      rw [upd_same, hp, path_none ea]
      rfl
    | some a =>
      rw [hv, ea] at dg
      refine iteT ⟨_, rfl, _, rfl, d, _, rfl, dg, rfl, _, rfl, ?_⟩
      rw [show (!decide (V.int a = V.int 0)) = !decide (a = 0) from by rw [dec_int]; rfl]
      by_cases ha : a = 0
      · subst ha
        refine iteF ?_

        refine ⟨_, rfl, _, rfl, d, _, rfl, dg, .inr ⟨_, rfl, ?_⟩⟩
        refine ⟨by rw [h16]; show 1 ≤ 16777216; decide, fun z hz => ?_⟩
        have s2 := Same.new (o := .lst [.int 0]) hz
        refine ⟨_, rfl, z, fo, _, _, rfl, rfl, upd_same, s2 _ _ hL, by rw [List.length_map, h16]; show 1 + (rest.length + 1) ≤ _; omega, fun q hq => ?_⟩
        refine k q _ (s1.trans (s2.trans (Same.new hq))) (Same.free (s1.trans s2) hq) ?_
        rw [upd_same, hp, path_top ea]
        rfl
      · rw [decide_eq_false ha]
        refine iteT ?_
        obtain ⟨a1, pa⟩ := path_step Fo hy ea ha
        obtain ⟨_, ra⟩ : a ∈ ids ∧ r a < r y := by
          rcases Fo.anc y hy a ea with e | e
          · exact absurd e ha
          · exact e
        refine ⟨fun σ' H' => ∃ m', m' < r y ∧ ∃ (y : Int) (rest : List Int), σ' = [some (.ref b), some (.ref d), some (.int y), some (.ref fo)] ∧ y ∈ ids ∧ m' = r y ∧ Same H H' ∧ H' fo = some (.lst ((ixI ids y :: rest).map V.int)) ∧ pathOf ids (anOf ps) r x = pathOf ids (anOf ps) r y ++ rest ∧ rest.length + r y ≤ 1000, fun _ _ z => z, ?_⟩
        refine ⟨_, rfl, _, rfl, d, _, rfl, dg, ?_⟩
        refine ⟨_, rfl, .inl ⟨rfl, _, SqL.of hL⟩, _, rfl, .inl ⟨rfl, _, s1.seq hb⟩, _, rfl, b, _, .int a, ids.idxOf a, .int a, rfl, rfl, s1.seq hb, rfl, all_flat ids, ix1 a1, ix2 a, ix3, ?_⟩
        refine ⟨fo, _, 0, .int (ixI ids a), rfl, rfl, hL, by rw [List.length_map, h16]; show rest.length + 1 < _; omega, by decide, by decide, ?_⟩
        refine ⟨r a, ra, a, ixI ids y :: rest, rfl, a1, rfl, fun c u e => by rw [upd_ne (ne_of_none e hfo)]; exact s1 c u e, by rw [upd_same]; rfl, by rw [hp, pa, List.append_assoc]; rfl, by rw [List.length_cons]; omega⟩
end
/-! ### sorted by the places of the anchors -/
def encP (a : List Int) (x : Int) : PyData := .tuple [.list (a.map .int), .int x]
theorem eqv_rows : ∀ a b : List Int, PyData.eqvAll (a.map .int) (b.map .int) = decide (a = b)
  | [], [] => by simp [PyData.eqvAll]
  | [], y :: b => by simp [PyData.eqvAll]
  | x :: a, [] => by simp [PyData.eqvAll]
  | x :: a, y :: b => by
    have ih := eqv_rows a b
    simp only [List.map_cons, PyData.eqvAll, PyData.eqv, ih]
    by_cases h : x = y <;> by_cases h2 : a = b <;> simp [h, h2]
theorem alike_rowsT (a b : List Int) : PySem.W.alike (.list (a.map .int)) (.list (b.map .int)) = true := by
  rw [PySem.W.alike]
  exact PySem.W.alike_ints a b
theorem dataLt_rowsT (a b : List Int) : PySem.W.dataLt (.list (a.map .int)) (.list (b.map .int)) = decide (a < b) := by
  rw [PySem.W.dataLt_list]
  exact PySem.W.dataLt_ints a b
theorem alike_int (x y : Int) : PySem.W.alike (.int x) (.int y) = true := by rw [PySem.W.alike]
theorem alike_encP (a b : List Int) (x y : Int) : PySem.W.alike (encP a x) (encP b y) = true := by
  unfold encP
  rw [PySem.W.alike, PySem.W.alikeAll, PySem.W.alikeAll, PySem.W.alikeAll, alike_rowsT, alike_int]
  rfl
theorem le_encP {a b : List Int} {x y : Int} (h : a = b → x = y) : (!PySem.W.dataLt (encP b y) (encP a x)) = decide (a ≤ b) := by
  unfold encP
  rw [PySem.W.dataLt_pair (alike_rowsT b a) (alike_int y x), dataLt_rowsT]
  have e1 : PyData.eqv (.list (b.map .int)) (.list (a.map .int)) = decide (b = a) := by
    rw [PyData.eqv]
    exact eqv_rows b a
  rw [e1]
  by_cases e : b = a
  · subst e
    obtain rfl := h rfl
    rw [if_pos (decide_eq_true rfl), if_pos (by simp [PyData.eqv])]
    rw [decide_eq_true (List.le_refl _)]; rfl
  · rw [if_neg (by rw [decide_eq_false e]; exact fun z => by cases z)]
    by_cases l : b < a
    · rw [decide_eq_true l, decide_eq_false (List.not_le.mpr l)]; rfl
    · rw [decide_eq_false l, decide_eq_true (List.not_lt.mp l)]; rfl
theorem depth_encP (a : List Int) (x : Int) : (encP a x).depth ≤ 40 := by
  unfold encP
  simp only [PyData.depth, PyData.depthAll, PySem.W.depth_ints]
  decide
theorem DVs.intsT {K : PySem.W.Frag} {H : Hp} : ∀ ks : List Int, DVs K H (ks.map V.int) (ks.map PyData.int)
  | [] => .nil
  | k :: r => .cons (.int k) (DVs.intsT r)
theorem ix_tupKT {X : Cx} {K : PySem.W.Frag} (h : X.K = K) : IxR X (rIxT K) := by
  subst h
  exact ix_tup
/-- pairs of a path and its id, in a list -/
def PairsP (H : Hp) (D : Addr) (f : Int → List Int) (es : List (Addr × Addr × Int)) : Prop := H D = some (.lst (es.map fun e => .ref e.1)) ∧ ∀ e ∈ es, H e.1 = some (.tup [.ref e.2.1, .int e.2.2]) ∧ H e.2.1 = some (.lst ((f e.2.2).map V.int))
theorem PairsP.push {H : Hp} {D t l : Addr} {f : Int → List Int} {es : List (Addr × Addr × Int)} {x : Int} (h : PairsP H D f es) (ht : H t = some (.tup [.ref l, .int x])) (hl : H l = some (.lst ((f x).map V.int))) (n : l ≠ D) (nn : ∀ e ∈ es, e.2.1 ≠ D) :
    PairsP (upd H D (.lst (es.map (fun e => V.ref e.1) ++ [.ref t]))) D f (es ++ [(t, l, x)]) := by
  obtain ⟨h1, h2⟩ := h
  refine ⟨by rw [upd_same, List.map_append]; rfl, fun e he => ?_⟩
  rcases List.mem_append.mp he with q | q
  · obtain ⟨a1, a2⟩ := h2 e q
    exact ⟨by rw [upd_ne (ne_of a1 h1 (fun z => by cases z))]; exact a1, by rw [upd_ne (nn e q)]; exact a2⟩
  · rw [List.mem_singleton.mp q]
    exact ⟨by rw [upd_ne (ne_of ht h1 (fun z => by cases z))]; exact ht, by rw [upd_ne n]; exact hl⟩
section
variable {P : Program} {w : World} {K : PySem.W.Frag} {mg : Str → Option Value} {base : Heap}
def spLaid (K : PySem.W.Frag) : Sp := fun vs H Q _ => ∃ (b d : Addr) (ids : List Int) (ps : List (Int × Int)) (r : Int → Nat) (N : Nat), vs = [.ref b, .ref d] ∧ SqL K H b (ids.map V.int) ∧ H d = some (.dK (pinK ps)) ∧ Forest ids (anOf ps) r N ∧ N ≤ 1000 ∧ ids.length ≤ 300 ∧
  ∀ (q : Addr) (H' : Hp), Same H H' → H q = none → H' q = some (.lst ((laidOf ids (anOf ps) r N).map V.int)) → Q (.ref q) H'
theorem scLaid : FnScope ["base", "pins", "row_id", "pair"] ["base", "pins"] (defScope sLaid) := ⟨rfl, rfl, rfl, by decide +kernel, rfl, by decide +kernel, by decide +kernel⟩
theorem ok_laid {f fP : Addr} {fd fdP : FuncData} (F : Fun K "_law_laid" "_law_laid" sLaid f fd) (T : TxtA mg) (GP : FnOk P w K mg base CX0 1 fP fdP ["base", "pins", "row_id"] (spPath K)) (kP : PySem.W.keepIn K (.ref fP) = true) (bP : L2.Binds K fdP ["base", "pins", "row_id"] []) (mP : mg "_law_path" = some (.ref fP)) :
    FnOk P w K mg base CX0 2 f fd ["base", "pins"] (spLaid K) := by
  refine F.ok scLaid (fun vs H Q E h => ?_) (fun cdv A outer s H vs Q E hr h => ?_)
  · obtain ⟨b, d, ids, ps, r, N, rfl, _⟩ := h
    rfl
  · obtain ⟨b, d, ids, ps, r, N, rfl, hb, hd, Fo, hN, hlen, k⟩ := h
    have h64 := hu64 hr
    refine ⟨_, pss_one (ps_ret (pe_lc (own := [("pair", 3)]) (g := gName 3) (tt := tYes) rfl scLaid.nd (pi_list (pe_callB (call_sortD h64) (by rfl) T.sorted (by decide +kernel) (pa_cons (pe_lc (own := [("row_id", 2)]) (g := gName 2) (tt := tYes) rfl scLaid.nd (pi_list (pv 0)) (blkOk_by (N := ["base", "pins", "row_id", "pair"]) (sc := defScope sLaid) (by decide +kernel))
        (fun _ _ _ _ _ => pg_name (i := 2) scLaid.nd rfl (Or.inl rfl)) (fun _ _ _ _ _ => pts_nil) (fun _ _ _ _ _ => pe_tup (pa_cons (pe_call GP hr rfl mP kP bP .nil pass0 (pa_cons (pv 0) (pa_cons (pv 1) (pa_cons (pv 2) pa_nil)))) (pa_cons (pv 2) pa_nil)))) pa_nil)))
        (blkOk_by (N := ["base", "pins", "row_id", "pair"]) (sc := defScope sLaid) (by decide +kernel)) (fun _ _ _ _ _ => pg_name (i := 3) scLaid.nd rfl (Or.inl rfl)) (fun _ _ _ _ _ => pts_nil) (fun _ _ _ _ _ => pe_ix (ix_tupKT (K := K) rfl) (pv 3) pe_int (fun _ _ => rfl)))), ?_⟩
    have h16 : sizeLine = 16777216 := sizeLine_eq
    refine ⟨_, rfl, b, rfl, ⟨_, hb⟩, fun D hD => ?_⟩
    obtain ⟨f, hf⟩ : ∃ f, f = pathOf ids (anOf ps) r := ⟨_, rfl⟩
    refine lc_list (K := K) (a := b) (xs := ids.map V.int) (fun j H' => ∃ es : List (Addr × Addr × Int), Same H H' ∧ PairsP H' D f es ∧ es.map (fun e => e.2.2) = ids.take j ∧ ∀ e ∈ es, e.2.1 ≠ D)
      ⟨[], Same.new hD, ⟨upd_same, fun e h => by cases h⟩, by rw [List.take_zero]; rfl, fun e h => by cases h⟩ (fun j H' _ ⟨_, s, _⟩ => s.seq hb) ?_ ?_
    · rintro j y H1 hj ⟨es, s1, hP, he, hn⟩
      obtain ⟨x, hx, rfl⟩ := int_at hj
      refine ⟨rfl, ?_⟩
      refine ⟨_, rfl, _, rfl, _, rfl, b, d, ids, ps, r, N, x, rfl, s1.seq hb, s1 _ _ hd, Fo, hN, List.mem_of_getElem? hx, fun l H2 s2 hl hL => ?_⟩
      rw [← hf] at hL
      refine ⟨_, rfl, by rw [h16]; show 2 ≤ 16777216; decide, fun t ht => ?_⟩
      have s3 := Same.new (o := .tup [.ref l, .int x]) ht
      have hP3 : PairsP (upd H2 t (.tup [.ref l, .int x])) D f es := ⟨s3 _ _ (s2 _ _ hP.1), fun e q => ⟨s3 _ _ (s2 _ _ (hP.2 e q).1), s3 _ _ (s2 _ _ (hP.2 e q).2)⟩⟩
      have nl : l ≠ D := fun z => by
        have q := hP.1
        rw [← z, hl] at q; cases q
      have hle : es.length ≤ 300 := by
        have := congrArg List.length he
        rw [List.length_map, List.length_take] at this
        omega
      refine ⟨_, hP3.1, by rw [List.length_map, h16]; omega, es ++ [(t, l, x)], fun c u e => ?_, hP3.push upd_same (s3 _ _ hL) nl hn, ?_, fun e q => ?_⟩
      · rw [upd_ne (ne_of_none e hD)]
        exact s3 _ _ (s2 _ _ (s1 _ _ e))
      · rw [List.map_append, he, take_snoc hx]; rfl
      · rcases List.mem_append.mp q with q | q
        · exact hn e q
        · rw [List.mem_singleton.mp q]; exact nl
    · rintro H1 ⟨es, s1, hP, he, hn⟩
      rw [List.length_map, List.take_length] at he
      have hle : es.length ≤ 300 := by
        have := congrArg List.length he
        rw [List.length_map] at this
        omega
      refine ⟨D, (Addr × Addr × Int), es, (fun e => encP (f e.2.2) e.2.2), (fun e => .ref e.1), rfl, SqL.of hP.1, fun e q => ?_, PySem.W.AllAlike.of fun e e' => alike_encP _ _ _ _, PySem.W.Sortable.tuples fun e => ⟨_, _, rfl⟩, fun e _ => depth_encP _ _, fun p hp => ?_⟩
      · obtain ⟨a1, a2⟩ := hP.2 e q
        exact .tup (SqT.of a1) (.cons (.lst (SqL.of a2) (DVs.intsT _)) (.cons (.int _) .nil))
      · have hsort : ((es.mergeSort (PySem.W.dataLe false fun e : Addr × Addr × Int => encP (f e.2.2) e.2.2)).map fun e => e.2.2) = laidOf ids (anOf ps) r N := by
          rw [← laid_sort Fo, ← hf, ← he]
          refine PySem.W.sort_maps (s := fun a b => decide (f a ≤ f b)) (fun e : Addr × Addr × Int => e.2.2) fun e1 h1 e2 h2 => ?_
          rw [PySem.W.dataLe_eq]
          refine le_encP fun q => ?_
          have m1 : e1.2.2 ∈ ids := by rw [← he]; exact List.mem_map.mpr ⟨_, h1, rfl⟩
          have m2 : e2.2.2 ∈ ids := by rw [← he]; exact List.mem_map.mpr ⟨_, h2, rfl⟩
          by_cases z : e1.2.2 = e2.2.2
          · exact z
          · rw [hf] at q
            exact absurd q (path_inj Fo m1 m2 z)
        have hmem : ∀ e ∈ es.mergeSort (PySem.W.dataLe false fun e : Addr × Addr × Int => encP (f e.2.2) e.2.2), e ∈ es := fun e q => List.mem_mergeSort.mp q
        have hln : (es.mergeSort (PySem.W.dataLe false fun e : Addr × Addr × Int => encP (f e.2.2) e.2.2)).length ≤ 300 := by rw [List.length_mergeSort]; exact hle
        generalize es.mergeSort (PySem.W.dataLe false fun e : Addr × Addr × Int => encP (f e.2.2) e.2.2) = bs at hsort hmem hln ⊢
        have sp := Same.new (o := .lst (bs.map fun e => V.ref e.1)) hp
        refine ⟨p, rfl, ⟨_, SqL.of upd_same⟩, fun D2 hD2 => ?_⟩
        have hp2 : ∀ {H' : Hp}, Same (upd H1 p (.lst (bs.map fun e => V.ref e.1))) H' → SqL K H' p (bs.map fun e => V.ref e.1) := fun s => SqL.of (s _ _ upd_same)
        refine lc_list (K := K) (a := p) (xs := bs.map fun e => V.ref e.1) (fun j H' => Same (upd H1 p (.lst (bs.map fun e => V.ref e.1))) H' ∧ H' D2 = some (.lst ((bs.take j).map fun e => V.int e.2.2))) ⟨Same.new hD2, upd_same⟩ (fun j H' _ q => hp2 q.1) ?_ ?_
        · rintro j x H' hx ⟨s3, hL⟩
          obtain ⟨e, he2, rfl⟩ : ∃ e, bs[j]? = some e ∧ x = V.ref e.1 := by
            rw [List.getElem?_map] at hx
            cases q : bs[j]? with
            | none => rw [q] at hx; cases hx
            | some c => rw [q] at hx; exact ⟨c, rfl, (Option.some.inj hx).symm⟩
          obtain ⟨u1, u2⟩ := hP.2 e (hmem e (List.mem_of_getElem? he2))
          refine ⟨rfl, _, rfl, e.1, _, 1, _, rfl, rfl, SqT.of (s3 _ _ (sp _ _ u1)), rfl, ?_⟩
          refine ⟨_, hL, ?_, fun c u q => by rw [upd_ne (ne_of_none q hD2)]; exact s3 c u q, ?_⟩
          · rw [List.length_map, List.length_take, h16]; omega
          · rw [upd_same, take_snoc he2, List.map_append]; rfl
        · rintro H' ⟨s3, hL⟩
          rw [List.length_map, List.take_length] at hL
          have s4 : Same H H' := s1.trans (sp.trans s3)
          refine k D2 H' s4 (Same.free (s1.trans sp) hD2) ?_
          rw [hL, ← hsort, List.map_map]
          rfl
end
/-! ### dict(zip(xs, ys)) -/
inductive Zipped : List V → List V → List (Key × V) → Prop
  | nil1 {ys : List V} : Zipped [] ys []
  | nil2 {xs : List V} : Zipped xs [] []
  | cons {k : Key} {v : V} {xs ys : List V} {kvs : List (Key × V)} : Zipped xs ys kvs → Zipped (kV k :: xs) (v :: ys) ((k, v) :: kvs)
theorem zip_prs {P : Program} {w : World} {xs ys : List V} {kvs : List (Key × V)} (h : Zipped xs ys kvs) : ∀ {us ws : List Value}, Vals xs us → Vals ys ws →
    ∃ prs : List (Key × Value), KV kvs prs ∧ prs.length = min us.length ws.length ∧ ∀ (i : Nat) (key v : Value), us[i]? = some key → ws[i]? = some v → ∃ k, prs[i]? = some (k, v) ∧ (mixKind P w).is k key = true := by
  induction h with
  | nil1 =>
    intro us ws r1 r2
    cases r1
    exact ⟨[], .nil, by simp, fun i key v e _ => by simp at e⟩
  | nil2 =>
    intro us ws r1 r2
    cases r2
    exact ⟨[], .nil, by simp, fun i key v _ e => by simp at e⟩
  | cons t ih =>
    intro us ws r1 r2
    cases r1 with
    | cons a1 a2 =>
      cases r2 with
      | cons b1 b2 =>
        obtain ⟨prs, i1, i2, i3⟩ := ih a2 b2
        rename_i k0 v0 _ _ _ _ _ w0 _
        refine ⟨(k0, w0) :: prs, .cons ⟨rfl, b1⟩ i1, by rw [List.length_cons, List.length_cons, List.length_cons, i2]; omega, fun i key v e1 e2 => ?_⟩
        cases i with
        | zero =>
          obtain rfl := Option.some.inj e1
          obtain rfl := Option.some.inj e2
          exact ⟨_, rfl, kV_is a1⟩
        | succ i => exact i3 i key v e1 e2
theorem vals_len : ∀ {xs : List V} {us : List Value}, Vals xs us → xs.length = us.length
  | _, _, .nil => rfl
  | _, _, .cons _ t => congrArg Nat.succ (vals_len t)
def tDZip (K : PySem.W.Frag) (ta : TA) : TE := fun σ H Q => ta σ H fun vs H1 => ∃ (a b : Addr) (xs ys : List V) (kvs : List (Key × V)), vs = [.ref a, .ref b] ∧ SqL K H1 a xs ∧ SqL K H1 b ys ∧ Zipped xs ys kvs ∧
  ∀ p, H1 p = none → Q (.ref p) (upd H1 p (.dK (mergeK [] kvs)))
section
variable {X : Cx}
theorem pe_dictZip {e e2 : Expr} {ta : TA} {p p2 pos pos2 : Pos} (hc : X.calm = true) (hg : Gl X "dict") (hm : X.mg "dict" = none) (hg2 : Gl X "zip") (hm2 : X.mg "zip" = none) (ha : PA X [e, e2] ta)
    (hs0 : starEach [.Call (.Name "zip" p2) [e, e2] [] pos2] X.env = [(false, eval (.Call (.Name "zip" p2) [e, e2] [] pos2) X.env)] := by rfl)
    (hs : starEach [e, e2] X.env = (false, eval e X.env) :: starEach [e2] X.env := by rfl) (hpl : (backTo pos2 (starEach [e2] X.env)).any (·.1) = false := by rfl) :
    PE X (.Call (.Name "dict" p) [.Call (.Name "zip" p2) [e, e2] [] pos2] [] pos) (tDZip X.K ta) := by
  refine ⟨fun pins s σ H Q I h => ?_⟩
  refine wpAny_Call_Name_kw (ld_blt I hg hm boot_dict ?_)
  refine PyProof.Rows.callWith_type1 ?_ hs0 rfl
  rw [hs0]
  show wpAny _ _ (spliced [(false, eval (.Call (.Name "zip" p2) [e, e2] [] pos2) X.env)]) _ _ s
  refine Calls.spliced_cons ?_
  refine wpAny_Call_Name_kw (ld_blt I hg2 hm2 PyProof.Rows.boot_zip (PyProof.Rows.callWith_type1 (thn (ha.run pos2 pins s σ H _ I h) fun us s1 ⟨vs, H1, I1, r1, q1⟩ => ?_) hs hpl))
  obtain ⟨a, b, xs, ys, kvs, ex, hqx, hqy, hz0, q⟩ := q1
  subst ex
  obtain ⟨u1, u2, rfl, ra, rb⟩ := vals2 r1
  obtain rfl : u1 = Value.ref a := ra
  obtain rfl : u2 = Value.ref b := rb
  obtain ⟨its, rv, p1, sz1⟩ := I1.list hqx
  obtain ⟨its2, rv2, p3, sz2⟩ := I1.list hqy
  have la : a < s1.heap.objs.size := p1.lt
  have lb : b < s1.heap.objs.size := p3.lt
  refine call_zip_2 p1.isList p3.isList fun h' hz hTI hTO h1 h2 hsz hk => Calls.spliced_nil ?_
  obtain ⟨prs, k1, k2, k3⟩ := zip_prs (P := X.prog) (w := X.w) hz0 rv rv2
  have hl1 := Heap.IsList.at p1.isList (h' := h') fun o e => hk _ o e
  have hl2 := Heap.IsList.at p3.isList (h' := h') fun o e => hk _ o e
  refine PySem.call_dict_pairs (knd := mixKind X.prog X.w) (kvs := prs) (PairArg.zip (s1.heap.objs.size + 4) (s1.heap.objs.size + 2) (s1.heap.objs.size + 3) s1.heap.objs.size (s1.heap.objs.size + 1) a b (PySem.W.ktu_apart s1.heap.objs.size a b la lb) its.toArray its2.toArray) (I1.ok.hd hc)
    ⟨hz, hTI, ⟨_, _, hTO⟩, h1, h2, hl1, hl2⟩ ⟨by rw [k2]; simp, fun i key v hr => k3 i key v (by simpa using hr.1) (by simpa using hr.2)⟩ (by have e1 := vals_len rv; rw [List.size_toArray, List.size_toArray, ← e1]; exact Nat.le_trans (Nat.min_le_left _ _) sz1) fun h3 tk hd' hk3 => ?_
  have hle : s1.heap.objs.size ≤ h'.objs.size := by rw [hsz]; exact Nat.le_add_right _ _
  have hm : (h'.objs.size == sysModules) = false := beq_eq_false_iff_ne.mpr (Nat.ne_of_gt (Nat.lt_of_lt_of_le I1.big hle))
  have hlen : (mergeK [] kvs).length ≤ sizeLine := by
    refine Nat.le_trans (length_mergeK kvs []) ?_
    rw [List.length_nil, Nat.zero_add, k1.length, k2]
    have e1 := vals_len rv
    rw [← e1]
    exact Nat.le_trans (Nat.min_le_left _ _) sz1
  have kk : ∀ c o, s1.heap.get? c = some o → h3.get? c = some o := fun c o e => by
    have hlt := Heap.lt_size e
    refine hk3 c o ?_ (hk _ _ e)
    simp only [List.mem_cons, List.not_mem_nil, or_false, not_or]
    exact ⟨Nat.ne_of_lt (Nat.lt_of_lt_of_le hlt (Nat.le_add_right _ _)), Nat.ne_of_lt (Nat.lt_of_lt_of_le hlt (Nat.le_add_right _ _)), Nat.ne_of_lt hlt, Nat.ne_of_lt (Nat.lt_of_lt_of_le hlt (Nat.le_add_right _ _))⟩
  exact ⟨.ref h'.objs.size, upd H1 h'.objs.size (.dK (mergeK [] kvs)), I1.laid (t' := tk) kk hle (show ObjOk X.prog X.w _ _ _ (.dK (mergeK [] kvs)) from ⟨hlen, hm, merged [] prs, KV.merge k1 .nil, hd'⟩), rfl, q _ (I1.hok.fresh hle)⟩
end
/-! ### each id behind the one before it -/
def chainP : Int → List Int → List (Int × Int)
  | _, [] => []
  | a, x :: r => (x, a) :: chainP x r
theorem chain_keys : ∀ (a : Int) (l : List Int), (chainP a l).map Prod.fst = l
  | _, [] => rfl
  | a, x :: r => by rw [chainP, List.map_cons, chain_keys x r]
theorem chain_at : ∀ {l : List Int} {a : Int} {e : Int × Int}, e ∈ chainP a l → (e.2 = a ∧ ∃ r, l = e.1 :: r) ∨ ∃ i : Nat, l[i]? = some e.2 ∧ l[i + 1]? = some e.1
  | [], _, _, h => by cases h
  | x :: r, a, e, h => by
    rcases List.mem_cons.mp h with q | q
    · subst q; exact .inl ⟨rfl, r, rfl⟩
    · rcases chain_at q with ⟨q1, r', q2⟩ | ⟨i, q1, q2⟩
      · refine .inr ⟨0, by rw [q1]; rfl, by rw [q2]; rfl⟩
      · exact .inr ⟨i + 1, q1, q2⟩
theorem idx_of_at {l : List Int} (nd : l.Nodup) {i : Nat} {x : Int} (h : l[i]? = some x) : l.idxOf x = i := by
  obtain ⟨h1, h2⟩ := List.getElem?_eq_some_iff.mp h
  rw [← h2]
  exact nd.idxOf_getElem i h1
theorem chain_pins {ids seq : List Int} (hp : seq.Perm ids) (nd : ids.Nodup) : PinsOf ids (chainP 0 seq) seq := by
  have ns : seq.Nodup := hp.nodup_iff.mpr nd
  refine ⟨hp, by rw [chain_keys]; exact ns, fun e he => ?_, fun e he => ?_, by rw [← List.length_map (f := Prod.fst), chain_keys]; exact Nat.le_refl _⟩
  · have : e.1 ∈ (chainP 0 seq).map Prod.fst := List.mem_map.mpr ⟨e, he, rfl⟩
    rw [chain_keys] at this
    exact this
  · rcases chain_at he with ⟨q, _⟩ | ⟨i, q1, q2⟩
    · exact .inl q
    · refine .inr ⟨List.mem_of_getElem? q1, ?_⟩
      rw [idx_of_at ns q1, idx_of_at ns q2]
      omega
theorem an_of : ∀ {ps : List (Int × Int)}, (ps.map Prod.fst).Nodup → ∀ e ∈ ps, anOf ps e.1 = some e.2
  | [], _, e, h => by cases h
  | f :: ps, nd, e, h => by
    obtain ⟨n1, n2⟩ := List.nodup_cons.mp nd
    rcases List.mem_cons.mp h with q | q
    · subst q
      unfold anOf
      rw [List.find?_cons_of_pos (by exact decide_eq_true rfl)]
      rfl
    · have hne : ¬ f.1 = e.1 := fun z => n1 (by rw [z]; exact List.mem_map.mpr ⟨e, q, rfl⟩)
      have ih := an_of n2 e q
      unfold anOf at ih ⊢
      rw [List.find?_cons_of_neg (by intro z; exact hne (of_decide_eq_true z))]
      exact ih
theorem chain_up {ids : List Int} {p : Int → Option Int} {r : Int → Nat} {N : Nat} (F : Forest ids p r N) : ∀ (l : List Int) (a : Int), (∀ x ∈ l, x ∈ ids) → (∀ e ∈ chainP a l, p e.1 = some e.2) →
    l.Pairwise (fun a b => pathOf ids p r a < pathOf ids p r b) ∧ (a ≠ 0 → ∀ y ∈ l, pathOf ids p r a < pathOf ids p r y)
  | [], a, _, _ => ⟨.nil, fun _ y h => by cases h⟩
  | x :: l, a, hm, hp => by
    obtain ⟨i1, i2⟩ := chain_up F l x (fun y hy => hm y (List.mem_cons_of_mem _ hy)) fun e he => hp e (List.mem_cons_of_mem _ he)
    have hx := hm x List.mem_cons_self
    have i2 := i2 (F.nz x hx)
    refine ⟨List.pairwise_cons.mpr ⟨i2, i1⟩, fun ha y hy => ?_⟩
    have h1 : p x = some a := hp (x, a) List.mem_cons_self
    have h2 : pathOf ids p r a < pathOf ids p r x := by
      rw [(path_step F hx h1 ha).2]
      exact app_lt _
    rcases List.mem_cons.mp hy with q | q
    · rw [q]; exact h2
    · exact List.lt_trans h2 (i2 y q)
theorem chain_laid {ids seq : List Int} {r : Int → Nat} {N : Nat} (hp : seq.Perm ids) (nd : ids.Nodup) (F : Forest ids (anOf (chainP 0 seq)) r N) : laidOf ids (anOf (chainP 0 seq)) r N = seq := by
  have ns : seq.Nodup := hp.nodup_iff.mpr nd
  have up := (chain_up F seq 0 (fun x hx => hp.mem_iff.mp hx) (an_of (by rw [chain_keys]; exact ns))).1
  exact List.Perm.eq_of_pairwise (le := fun a b => pathOf ids (anOf (chainP 0 seq)) r a < pathOf ids (anOf (chainP 0 seq)) r b) (fun a b _ _ x y => absurd (List.lt_trans x y) (List.lt_irrefl _)) (laid_up F) up ((laid_perm F).trans hp.symm)
theorem none_forest {ids : List Int} (nd : ids.Nodup) (nz : ∀ x ∈ ids, x ≠ 0) : Forest ids (anOf []) (fun _ => 0) 1 := ⟨nd, nz, fun _ _ => by show 0 < 1; decide, fun x _ a h => by cases h⟩
theorem none_laid {ids : List Int} (nd : ids.Nodup) (nz : ∀ x ∈ ids, x ≠ 0) : laidOf ids (anOf []) (fun _ => 0) 1 = ids := by
  have F := none_forest nd nz
  have k0 : ∀ a, kidsOf ids (anOf []) a = [] := fun a => by
    unfold kidsOf
    refine List.filter_eq_nil_iff.mpr fun x _ h => ?_
    rw [beq_iff_eq] at h; cases h
  have l0 : looseOf ids (anOf []) = ids := List.filter_eq_self.mpr fun x _ => rfl
  unfold laidOf
  rw [k0, l0, List.nil_append]
  have : ∀ l : List Int, (∀ x ∈ l, x ∈ ids) → l.flatMap (treeOf ids (anOf []) (fun _ => 0) 1) = l := by
    intro l
    induction l with
    | nil => intro _; rfl
    | cons x l ih =>
      intro h
      rw [List.flatMap_cons, ih fun y hy => h y (List.mem_cons_of_mem _ hy), tree_eq F (h x List.mem_cons_self), k0]
      rfl
  exact this ids fun x h => h
theorem zip_chain : ∀ (l : List Int) (a : Int), Zipped (l.map V.int) (V.int a :: l.map V.int) (pinK (chainP a l))
  | [], a => .nil1
  | x :: r, a => Zipped.cons (k := .inl x) (zip_chain r x)
theorem merge_freshP : ∀ (more acc : List (Key × V)), ((acc ++ more).map Prod.fst).Nodup → mergeK acc more = acc ++ more
  | [], acc, _ => by rw [List.append_nil]; rfl
  | p :: r, acc, h => by
    have hp : putK acc p.1 p.2 = acc ++ [p] := by
      unfold putK
      rw [if_neg]
      intro z
      obtain ⟨q, hq, e⟩ := List.any_eq_true.mp z
      have e := of_decide_eq_true e
      rw [List.map_append, List.map_cons] at h
      have := (List.nodup_append.mp h).2.2 q.1 (List.mem_map.mpr ⟨q, hq, rfl⟩) p.1 List.mem_cons_self
      exact this e
    show mergeK (putK acc p.1 p.2) r = _
    rw [hp, merge_freshP r (acc ++ [p]) (by rw [List.append_assoc]; exact h), List.append_assoc]
    rfl
theorem merge_chain {seq : List Int} (ns : seq.Nodup) : mergeK [] (pinK (chainP 0 seq)) = pinK (chainP 0 seq) := by
  rw [merge_freshP _ [] ?_, List.nil_append]
  rw [List.nil_append]
  unfold pinK
  rw [List.map_map]
  have : (chainP 0 seq).map (Prod.fst ∘ fun e : Int × Int => ((.inl e.1 : Key), V.int e.2)) = seq.map fun x => (.inl x : Key) := by
    have e := chain_keys 0 seq
    have e2 : (chainP 0 seq).map (Prod.fst ∘ fun e : Int × Int => ((.inl e.1 : Key), V.int e.2)) = ((chainP 0 seq).map Prod.fst).map fun x => (.inl x : Key) := by rw [List.map_map]; rfl
    rw [e2, e]
  rw [this]
  exact List.pairwise_map.mpr (ns.imp fun h z => h (Sum.inl.inj z))
/-! ### as data -/
def pinD (ps : List (Int × Int)) : List (PyData × PyData) := ps.map fun e => (.int e.1, .int e.2)
theorem pin_dw {K : PySem.W.Frag} {H : Hp} {d : Addr} {ps : List (Int × Int)} (h : H d = some (.dK (pinK ps))) : DW K H (.ref d) (.dict (pinD ps)) := by
  refine .dic h ?_ ?_
  · have e1 : (pinK ps).map (fun kv => kV kv.1) = (ps.map Prod.fst).map V.int := by unfold pinK; rw [List.map_map, List.map_map]; rfl
    have e2 : (pinD ps).map Prod.fst = (ps.map Prod.fst).map PyData.int := by unfold pinD; rw [List.map_map, List.map_map]; rfl
    rw [e1, e2]
    exact DWs.ints _
  · have e1 : (pinK ps).map Prod.snd = (ps.map Prod.snd).map V.int := by unfold pinK; rw [List.map_map, List.map_map]; rfl
    have e2 : (pinD ps).map Prod.snd = (ps.map Prod.snd).map PyData.int := by unfold pinD; rw [List.map_map, List.map_map]; rfl
    rw [e1, e2]
    exact DWs.ints _
theorem ints_okW : ∀ xs : List Int, (∀ z ∈ xs, 0 ≤ z ∧ z ≤ 1000000) → okWs (xs.map .int) = true ∧ szWs (xs.map .int) = xs.length * 305
  | [], _ => ⟨by rw [List.map_nil, okWs], by rw [List.map_nil, szWs]; rfl⟩
  | x :: r, h => by
    obtain ⟨i1, i2⟩ := ints_okW r fun z hz => h z (List.mem_cons_of_mem _ hz)
    have hx := h x List.mem_cons_self
    refine ⟨?_, ?_⟩
    · rw [List.map_cons, okWs, okW, i1, decide_eq_true (small_abs (by omega) (by omega))]; rfl
    · rw [List.map_cons, szWs, szW, i2, List.length_cons]; omega
theorem pins_okW : ∀ ps : List (Int × Int), (∀ e ∈ ps, (0 ≤ e.1 ∧ e.1 ≤ 1000000) ∧ 0 ≤ e.2 ∧ e.2 ≤ 1000000) → okWk (pinD ps) = true ∧ szWk (pinD ps) = ps.length * 610 ∧ PyData.depthKv (pinD ps) = 0
  | [], _ => ⟨by rw [pinD, List.map_nil, okWk], by rw [pinD, List.map_nil, szWk]; rfl, by rw [pinD, List.map_nil, PyData.depthKv]⟩
  | e :: r, h => by
    obtain ⟨i1, i2, i3⟩ := pins_okW r fun z hz => h z (List.mem_cons_of_mem _ hz)
    obtain ⟨h1, h2⟩ := h e List.mem_cons_self
    have eD : pinD (e :: r) = (.int e.1, .int e.2) :: pinD r := rfl
    rw [eD]
    refine ⟨?_, ?_, ?_⟩
    · rw [okWk, okW, okW, i1, decide_eq_true (small_abs (by omega) (by omega)), decide_eq_true (small_abs (by omega) (by omega))]; rfl
    · rw [szWk, szW, szW, i2, List.length_cons]; omega
    · rw [PyData.depthKv, PyData.depth, PyData.depth, i3]; rfl
theorem PinsOf.small {ids seq : List Int} {ps : List (Int × Int)} (h : PinsOf ids ps seq) (hI : ∀ z ∈ ids, 1 ≤ z ∧ z ≤ 1000000) : ∀ e ∈ ps, (0 ≤ e.1 ∧ e.1 ≤ 1000000) ∧ 0 ≤ e.2 ∧ e.2 ≤ 1000000 := fun e he => by
  have h1 := hI _ (h.perm.mem_iff.mp (h.mem e he))
  refine ⟨⟨by omega, h1.2⟩, ?_⟩
  rcases h.anc e he with q | ⟨q, _⟩
  · rw [q]; exact ⟨by decide, by decide⟩
  · have h2 := hI _ (h.perm.mem_iff.mp q)
    exact ⟨by omega, h2.2⟩
structure RokW (d : PyData) : Prop where
  o : okW d = true
  dep : d.depth ≤ 40
  sz : szW d ≤ 1000000
theorem rok_list {ids : List Int} (hI : ∀ z ∈ ids, 0 ≤ z ∧ z ≤ 1000000) (hl : ids.length ≤ 300) : RokW (.list (ids.map .int)) := by
  obtain ⟨o1, o2⟩ := ints_okW ids hI
  refine ⟨by rw [okW]; exact o1, by rw [PyData.depth, PySem.W.depth_ints]; decide, by rw [szW, o2]; omega⟩
theorem rok_both {ids seq : List Int} {ps : List (Int × Int)} (h : PinsOf ids ps seq) (hI : ∀ z ∈ ids, 1 ≤ z ∧ z ≤ 1000000) (hl : ids.length ≤ 300) : RokW (.tuple [.list (ids.map .int), .dict (pinD ps)]) := by
  obtain ⟨o1, o2⟩ := ints_okW ids fun z hz => by have := hI z hz; exact ⟨by omega, this.2⟩
  obtain ⟨p1, p2, p3⟩ := pins_okW ps (h.small hI)
  have hlen := h.len
  rw [h.perm.length_eq] at hlen
  refine ⟨?_, ?_, ?_⟩
  · rw [okW, okWs, okWs, okWs, okW, okW, o1, p1]; rfl
  · rw [PyData.depth, PyData.depthAll, PyData.depthAll, PyData.depthAll, PyData.depth, PyData.depth, PySem.W.depth_ints, p3]; decide
  · rw [szW, szWs, szWs, szWs, szW, szW, o2, p2]; omega
structure TxtL (mg : Str → Option Value) : Prop where
  range : mg "range" = none
  max : mg "max" = none
  min : mg "min" = none
  repr : mg "repr" = none
  dict : mg "dict" = none
  zip : mg "zip" = none
  isi : mg "isinstance" = none
  list : mg "list" = none
structure Fn (K : PySem.W.Frag) (mg : Str → Option Value) (x : Str) (st : Stmt) (ps : List Str) (f : Addr) (fd : FuncData) : Prop where
  F : Fun K x x st f fd
  b : L2.Binds K fd ps []
  m : mg x = some (.ref f)
section
variable {P : Program} {w : World} {K : PySem.W.Frag} {mg : Str → Option Value} {base : Heap}
/-- both ways lead to one place -/
theorem two_ways {I G : L2.St → Hp → Prop} {c : Bool} {A : Prop} {σ2 : L2.St} {H2 : Hp} (h1 : (∀ σ H, I σ H → G σ H) → A) (h2 : (∀ σ H, I σ H → G σ H) → G σ2 H2) (h : ∀ σ H, I σ H → G σ H) : if c = true then A else G σ2 H2 := by
  cases c with
  | true => rw [if_pos rfl]; exact h1 h
  | false => rw [if_neg (fun z => by cases z)]; exact h2 h
def spLaw (K : PySem.W.Frag) : Sp := fun vs H Q _ => ∃ (a : Addr) (ns : List Int), vs = [.ref a] ∧ SqL K H a (ns.map V.int) ∧ ns.length ≤ 63 ∧ (∀ z ∈ ns, Builtin.Int.intBits z ≤ 1048576) ∧ ∀ H', Q (.bl true) H'
abbrev NL : List Str := ["script", "start", "tape", "turn", "base", "pins", "sequence", "kept", "again", "found"]
theorem scLaw : FnScope NL ["script"] (defScope sLaw) := ⟨rfl, rfl, rfl, by decide +kernel, rfl, by decide +kernel, by decide +kernel⟩
theorem ok_law {f fDe fDr fI fP fS fL fLd : Addr} {fd fdDe fdDr fdI fdP fdS fdL fdLd : FuncData} (F : Fun K "law" "law" sLaw f fd) (TD : TxtD mg) (TL : TxtL mg)
    (De : Fn K mg "_law_tape" sDeck ["script", "start"] fDe fdDe) (Dr : Fn K mg "_law_pick" sDraw ["tape", "size"] fDr fdDr) (Id : Fn K mg "_law_ids" sIds ["tape", "size"] fI fdI) (GI : FnOk P w K mg base CX0 3 fI fdI ["tape", "size"] spIds)
    (Pi : Fn K mg "_law_pins" sPins ["tape", "base"] fP fdP) (GP : FnOk P w K mg base CX0 3 fP fdP ["tape", "base"] (spPins K))
    (Sh : Fn K mg "_law_shuffled" sShuf ["tape", "ids"] fS fdS) (GS : FnOk P w K mg base CX0 2 fS fdS ["tape", "ids"] (spShuf K))
    (La : Fn K mg "lay" sLay ["base", "pins"] fL fdL) (GL : FnOk P w K mg base CX0 2 fL fdL ["base", "pins"] (spLay K))
    (Ld : Fn K mg "_law_laid" sLaid ["base", "pins"] fLd fdLd) (GLd : FnOk P w K mg base CX0 2 fLd fdLd ["base", "pins"] (spLaid K)) : FnG P w K mg base 4 f fd ["script"] (spLaw K) := by
  have GDe : FnOk P w K mg base CX0 1 fDe fdDe ["script", "start"] (spDeck K) := ok_deck De.F TD
  have GDr : FnOk P w K mg base CX0 1 fDr fdDr ["tape", "size"] spDraw := ok_draw Dr.F
  refine FnG.mk' F scLaw (fun vs H Q E h => ?_) (fun cdv A outer s H vs Q E hg hr h => ?_)
  · obtain ⟨a, ns, rfl, _⟩ := h
    rfl
  · obtain ⟨a, ns, rfl, hS, hlen, hbits, k⟩ := h
    have hr1 : Room 1 _ := hr.mono (by decide)
    have hr2 : Room 2 _ := hr.mono (by decide)
    have hr3 : Room 3 _ := hr.mono (by decide)
    have h64 := hu64 hr
    have hu := hu_of hr
    refine ⟨_, pss_cons (ps_for PassesOwn.never rfl (pi_range1 rfl TL.range (pa_cons (pe_callB (call_max2 rfl) (by rfl) TL.max (by decide +kernel) (pa_cons pe_int (pa_cons (pe_callB (call_min2 rfl) (by rfl) TL.min (by decide +kernel)
          (pa_cons pe_int (pa_cons (pe_callB call_len_seq (by rfl) TD.len PySem.boot_len (pa_cons (pv 0) pa_nil)) pa_nil))) pa_nil))) pa_nil)) (pg_name (i := 1) scLaw.nd rfl (Or.inl rfl))
        (pss_cons (ps_set (i := 2) scLaw.nd rfl (Or.inl rfl) (pe_call GDe hr1 rfl De.m De.F.kp De.b .nil pass0 (pa_cons (pv 0) (pa_cons (pv 1) pa_nil))))
        (pss_one (ps_for PassesOwn.never rfl (pi_range1 rfl TL.range (pa_cons pe_int pa_nil)) (pg_name (i := 3) scLaw.nd rfl (Or.inl rfl))
          (pss_cons (ps_set (i := 4) scLaw.nd rfl (Or.inl rfl) (pe_call GI hr3 rfl Id.m Id.F.kp Id.b .nil pass0 (pa_cons (pv 2) (pa_cons (pe_call GDr hr1 rfl Dr.m Dr.F.kp Dr.b .nil pass0 (pa_cons (pv 2) (pa_cons pe_int pa_nil))) pa_nil))))
          (pss_cons (ps_set (i := 5) scLaw.nd rfl (Or.inl rfl) (pe_call GP hr3 rfl Pi.m Pi.F.kp Pi.b .nil pass0 (pa_cons (pv 2) (pa_cons (pv 4) pa_nil))))
          (pss_cons (ps_if (pt_cmpR op_eq (pv 3) pe_int (nomark _))
              (pss_cons (ps_set (i := 6) scLaw.nd rfl (Or.inl rfl) (pe_call GS hr2 rfl Sh.m Sh.F.kp Sh.b .nil pass0 (pa_cons (pv 2) (pa_cons (pv 4) pa_nil))))
              (pss_one (ps_set (i := 5) scLaw.nd rfl (Or.inl rfl) (pe_dictZip rfl (by rfl) TL.dict (by rfl) TL.zip (pa_cons (pv 6) (pa_cons (pe_op op_cat (pe_lst (pa_cons pe_int pa_nil)) (pv 6)) pa_nil)))))) pss_nil)
          (pss_cons (ps_set (i := 7) scLaw.nd rfl (Or.inl rfl) (pe_callB (call_reprW hg h64) (by rfl) TL.repr (by decide +kernel) (pa_cons (pe_tup (pa_cons (pv 4) (pa_cons (pv 5) pa_nil))) pa_nil)))
          (pss_cons (ps_for PassesOwn.never rfl (pi_range1 rfl TL.range (pa_cons pe_int pa_nil)) (pg_name (i := 8) scLaw.nd rfl (Or.inl rfl))
              (pss_cons (ps_set (i := 9) scLaw.nd rfl (Or.inl rfl) (pe_call GL hr2 rfl La.m La.F.kp La.b .nil pass0 (pa_cons (pv 4) (pa_cons (pv 5) pa_nil))))
              (pss_cons (ps_if (PW.pt (pw_or (pt_not (pt_val (pe_callB call_isi (by rfl) TL.isi (by decide +kernel) (pa_cons (pv 9) (pa_cons (pe_bltn (v := .ty "list") (by rfl) TL.list boot_list rfl) pa_nil)))))
                  (pw_or1 (pt_cmpR op_ne (pe_callB (call_reprW hg h64) (by rfl) TL.repr (by decide +kernel) (pa_cons (pv 9) pa_nil)) (pe_callB (call_reprW hg h64) (by rfl) TL.repr (by decide +kernel) (pa_cons (pe_call GLd hr2 rfl Ld.m Ld.F.kp Ld.b .nil pass0 (pa_cons (pv 4) (pa_cons (pv 5) pa_nil))) pa_nil)) (nomark _))))) (pss_one (ps_ret pe_bl)) pss_nil)
              (pss_one (ps_expr (pe_bm PySem.F.plainAttrs_list PySem.F.slot_list_append PySem.F.type_list_append mt_append (pv 9) (pa_cons pe_non pa_nil)))))))
          (pss_one (ps_if (PW.pt (pw_or (pt_cmpR op_ne (pe_callB (call_reprW hg h64) (by rfl) TL.repr (by decide +kernel) (pa_cons (pe_tup (pa_cons (pv 4) (pa_cons (pv 5) pa_nil))) pa_nil)) (pv 7) (nomark _))
              (pw_or1 (pt_cmpR (op_neL h64) (pe_call GL hr2 rfl La.m La.F.kp La.b .nil pass0 (pa_cons (pv 4) (pa_cons pe_dnewK pa_nil))) (pv 4) (nomark _))))) (pss_one (ps_ret pe_bl)) pss_nil)))))))))))
      (pss_cons (ps_set (i := 4) scLaw.nd rfl (Or.inl rfl) (pe_call GI hr3 rfl Id.m Id.F.kp Id.b .nil pass0 (pa_cons (pe_call GDe hr1 rfl De.m De.F.kp De.b .nil pass0 (pa_cons (pv 0) (pa_cons pe_int pa_nil))) (pa_cons pe_int pa_nil))))
      (pss_one (ps_ret (pe_cmpR (op_eqL h64) (pe_call GL hr2 rfl La.m La.F.kp La.b .nil pass0 (pa_cons (pv 4) (pa_cons (pe_dictZip rfl (by rfl) TL.dict (by rfl) TL.zip (pa_cons (pe_revL (pv 4)) (pa_cons (pe_op op_cat (pe_lst (pa_cons pe_int pa_nil)) (pe_revL (pv 4))) pa_nil))) pa_nil))) (pe_revL (pv 4)) (nomark _))))), ?_⟩
    have h16 : sizeLine = 16777216 := sizeLine_eq
    obtain ⟨J, hJ, hJ0, hJ6⟩ : ∃ J : Int, J = (if (if (((ns.map V.int).length : Nat) : Int) < 4 then (((ns.map V.int).length : Nat) : Int) else 4) > 2 then (if (((ns.map V.int).length : Nat) : Int) < 4 then (((ns.map V.int).length : Nat) : Int) else 4) else 2) ∧ 0 ≤ J ∧ J ≤ 4 := by
      refine ⟨_, rfl, ?_, ?_⟩
      · split <;> split <;> omega
      · split <;> split <;> omega
    have hnz : ∀ {js : List Int}, IdsL js → ∀ x ∈ js, x ≠ 0 := fun hI x hx => by have := (hI.2 x hx).1; omega
    refine ⟨_, rfl, a, _, rfl, .inl hS, _, _, rfl, _, _, rfl, J, by rw [hJ], by omega, by omega, ?_⟩
    refine for_range (lo := 0) (n := J.toNat) (fun i σ H' => (∃ v1 v2 v3 v4 v5 v6 v7 v8 v9 : Option V, σ = [some (.ref a), v1, v2, v3, v4, v5, v6, v7, v8, v9]) ∧ Same H H')
      ⟨⟨none, none, none, none, none, none, none, none, none, rfl⟩, Same.refl H⟩ ?_ ?_
    · rintro st σ H0 hst ⟨⟨v1, v2, v3, v4, v5, v6, v7, v8, v9, rfl⟩, s0⟩
      refine ⟨_, rfl, _, rfl, a, ns, _, rfl, Same.sq s0 hS, hlen, hbits, by omega, by omega, fun d Hd hd sd D => ?_⟩
      have hHd : H d = none := Same.free s0 hd
      have sd0 : Same H Hd := s0.trans sd
      refine ⟨4, rfl, by decide, by decide, ?_⟩
      refine for_range (lo := 0) (n := 4) (fun i σ H' => (∃ v3 v4 v5 v6 v7 v8 v9 : Option V, σ = [some (.ref a), some (.int (0 + (st : Int))), some (.ref d), v3, v4, v5, v6, v7, v8, v9]) ∧ Fs d Hd [] H')
        ⟨⟨_, _, _, _, _, _, _, rfl⟩, Fs.start D⟩ ?_ ?_
      · rintro tu σ H1 htu ⟨⟨v3, v4, v5, v6, v7, v8, v9, rfl⟩, F1⟩
        -- base
        refine ⟨_, rfl, _, rfl, d, 17, rfl, F1.deck, by decide, by decide, fun r1 H2 r10 r11 D2 B2 => ?_⟩
        obtain ⟨m1, rfl⟩ : ∃ m : Nat, r1 = (m : Int) := ⟨r1.toNat, by omega⟩
        refine ⟨d, m1, rfl, D2, by omega, fun l js H3 hl B3 D3 hL hjl hI => ?_⟩
        have F3 : Fs d Hd [(l, .lst (js.map V.int))] H3 := ((F1.step D2 B2).step D3 B3).add hL nl
        have hj17 : js.length ≤ 17 := by omega
        -- pins
        refine ⟨_, rfl, _, rfl, d, l, js, rfl, F3.deck, SqL.of F3.g0, by omega, hI.1, fun q ps seq H4 hq B4 D4 hQ hP => ?_⟩
        have F4 := (F3.step D4 B4).add hQ nP
        refine ⟨_, rfl, rfl, _, rfl, ?_⟩
        refine two_ways (I := fun σ5 H5 => ∃ (pd : Addr) (w6 : Option V) (ps : List (Int × Int)) (seq : List Int), σ5 = [some (.ref a), some (.int (0 + (st : Int))), some (.ref d), some (.int (0 + (tu : Int))), some (.ref l), some (.ref pd), w6, v7, v8, v9] ∧ PinsOf js ps seq ∧ Fs d Hd [(pd, .dK (pinK ps)), (l, .lst (js.map V.int))] H5)
          (fun key => ?_) (fun key => key _ _ ⟨q, v6, ps, seq, rfl, hP, F4⟩) ?_
        · refine ⟨_, rfl, _, rfl, d, l, js, rfl, F4.deck, SqL.of F4.g1, by omega, fun sq ks H5 hsq B5 D5 hsQ hperm => ?_⟩
          have F5 := (F4.step D5 B5).tail
          have hks : ks.length ≤ 17 := by rw [hperm.length_eq]; exact hj17
          refine ⟨_, rfl, by rw [h16]; show 1 ≤ 16777216; decide, fun z hz => ?_⟩
          have F6 := F5.skip hz (o := .lst [.int 0])
          have hsQ6 := Same.new (o := .lst [.int 0]) hz _ _ hsQ
          refine ⟨_, rfl, z, sq, _, _, rfl, rfl, upd_same, hsQ6, by rw [List.length_map, h16]; show 1 + _ ≤ _; omega, fun c hc => ?_⟩
          have F7 := F6.skip hc (o := .lst ([.int 0] ++ ks.map V.int))
          have hsQ7 := Same.new (o := .lst ([.int 0] ++ ks.map V.int)) hc _ _ hsQ6
          refine ⟨sq, c, ks.map V.int, _, pinK (chainP 0 ks), rfl, SqL.of hsQ7, SqL.of upd_same, zip_chain ks 0, fun pd hpd => ?_⟩
          rw [merge_chain (hperm.nodup_iff.mpr hI.1)]
          exact key _ _ ⟨pd, some (.ref sq), chainP 0 ks, ks, rfl, chain_pins hperm hI.1, F7.new hpd nP⟩
        · rintro σ5 H5 ⟨pd, w6, ps, seq, rfl, hP, F5⟩
          have Fo := hP.forest hI.1 (hnz hI)
          have rkB := rok_both hP hI.2 (by omega)
          have bothD : ∀ {H' : Hp} {t : Addr}, Fs d Hd [(pd, .dK (pinK ps)), (l, .lst (js.map V.int))] H' → H' t = some (.tup [.ref l, .ref pd]) → DW K H' (.ref t) (.tuple [.list (js.map .int), .dict (pinD ps)]) := fun F ht =>
            .tup (SqT.of ht) (.cons (.lst (SqL.of F.g1) (DWs.ints js)) (.cons (pin_dw F.g0) .nil))
          -- kept
          refine ⟨_, rfl, _, rfl, by rw [h16]; show 2 ≤ 16777216; decide, fun t ht => ?_⟩
          have F6 := F5.skip ht (o := .tup [.ref l, .ref pd])
          refine ⟨t, _, rfl, bothD F6 upd_same, rkB.o, rkB.dep, rkB.sz, ?_⟩
          refine ⟨2, rfl, by decide, by decide, ?_⟩
          refine for_range (lo := 0) (n := 2) (fun i σ H' => (∃ v8 v9 : Option V, σ = [some (.ref a), some (.int (0 + (st : Int))), some (.ref d), some (.int (0 + (tu : Int))), some (.ref l), some (.ref pd), w6, some (.str _), v8, v9]) ∧ Fs d Hd [(pd, .dK (pinK ps)), (l, .lst (js.map V.int))] H')
            ⟨⟨_, _, rfl⟩, F6⟩ ?_ ?_
          · rintro ag σ H7 hag ⟨⟨v8', v9', rfl⟩, F7⟩
            refine ⟨_, rfl, _, rfl, l, pd, js, ps, _, _, rfl, SqL.of F7.g1, F7.g0, Fo, by omega, fun q8 H8 s8 hq8 hQ8 => ?_⟩
            have F8 := F7.same s8
            have hlaidI : ∀ z ∈ laidOf js (anOf ps) (fun x => seq.idxOf x) js.length, 0 ≤ z ∧ z ≤ 1000000 := fun z hz => by
              have := hI.2 z (laid_in Fo hz)
              exact ⟨by omega, this.2⟩
            have hlaidL := (laid_perm Fo).length_eq
            have rkL := rok_list hlaidI (by omega)
            refine ⟨_, rfl, _, _, _, _, _, rfl, .ty _, tyL (SqL.of hQ8), kit_ty kb10, _, rfl, iteF ?_⟩
            refine ⟨_, rfl, q8, _, rfl, .lst (SqL.of hQ8) (DWs.ints _), rkL.o, rkL.dep, rkL.sz, ?_⟩
            refine ⟨_, rfl, _, rfl, l, pd, js, ps, _, _, rfl, SqL.of F8.g1, F8.g0, Fo, by omega, by omega, fun q9 H9 s9 hq9 hQ9 => ?_⟩
            have F9 := F8.same s9
            have hQ89 := s9 _ _ hQ8
            refine ⟨q9, _, rfl, .lst (SqL.of hQ9) (DWs.ints _), rkL.o, rkL.dep, rkL.sz, rfl, _, rfl, iteNS rfl ?_⟩
            refine ⟨_, rfl, .inl ⟨rfl, _, SqL.of hQ89⟩, q8, _, .non, rfl, rfl, hQ89, by rw [List.length_map, h16]; omega, ?_⟩
            refine ⟨⟨_, _, rfl⟩, ?_⟩
            obtain ⟨b0, b1, b2⟩ := F7.apart hq8
            exact F9.put b0 b1 b2
          · rintro σ H7 ⟨⟨v8', v9', rfl⟩, F7⟩
            refine ⟨_, rfl, _, rfl, by rw [h16]; show 2 ≤ 16777216; decide, fun t2 ht2 => ?_⟩
            have F8 := F7.skip ht2 (o := .tup [.ref l, .ref pd])
            refine ⟨t2, _, rfl, bothD F8 upd_same, rkB.o, rkB.dep, rkB.sz, _, rfl, rfl, _, rfl, iteNS rfl ?_⟩
            refine ⟨_, rfl, fun e0 he0 => ?_⟩
            have F9 := F8.new he0 (o := .dK (pinK [])) nP
            have nF := none_forest hI.1 (hnz hI)
            refine ⟨l, e0, js, [], _, _, rfl, SqL.of F9.g2, F9.g0, nF, by omega, fun q10 H10 s10 hq10 hQ10 => ?_⟩
            rw [none_laid hI.1 (hnz hI)] at hQ10
            have F10 := F9.same s10
            refine ⟨_, rfl, q10, l, js, js, rfl, rfl, SqL.of hQ10, SqL.of F10.g2, _, rfl, iteNS rfl ?_⟩
            exact ⟨⟨_, _, _, _, _, _, _, rfl⟩, F10.tail.tail.tail⟩
      · rintro σ H1 ⟨⟨v3, v4, v5, v6, v7, v8, v9, rfl⟩, F1⟩
        exact ⟨⟨_, _, _, _, _, _, _, _, _, rfl⟩, F1.old hHd sd0⟩
    · rintro σ H1 ⟨⟨v1, v2, v3, v4, v5, v6, v7, v8, v9, rfl⟩, s1⟩
      refine ⟨_, rfl, a, ns, _, rfl, Same.sq s1 hS, hlen, hbits, by decide, by decide, fun d Hd hd sd D => ?_⟩
      refine ⟨d, 60, rfl, D, by decide, fun l js H2 hl B2 D2 hL hjl hI => ?_⟩
      have F2 : Fs d Hd [(l, .lst (js.map V.int))] H2 := ((Fs.start D).step D2 B2).add hL nl
      have erev : (js.map V.int).reverse = js.reverse.map V.int := List.map_reverse.symm
      refine ⟨_, rfl, _, rfl, l, _, rfl, SqL.of F2.g0, fun r1 hr1 => ?_⟩
      rw [erev]
      have F3 := F2.new hr1 (o := .lst (js.reverse.map V.int)) nl
      refine ⟨by rw [h16]; show 1 ≤ 16777216; decide, fun z hz => ?_⟩
      have F4 := F3.new hz (o := .lst [.int 0]) nl
      refine ⟨_, rfl, l, _, rfl, SqL.of F4.g2, fun r2 hr2 => ?_⟩
      rw [erev]
      have F5 := F4.new hr2 (o := .lst (js.reverse.map V.int)) nl
      refine ⟨z, r2, _, _, rfl, rfl, F5.g1, F5.g0, by rw [List.length_map, List.length_reverse, h16]; show 1 + _ ≤ _; omega, fun c hc => ?_⟩
      have F6 := F5.new hc (o := .lst ([.int 0] ++ js.reverse.map V.int)) nl
      have hrp : js.reverse.Perm js := List.reverse_perm js
      refine ⟨r1, c, js.reverse.map V.int, _, pinK (chainP 0 js.reverse), rfl, SqL.of F6.g3, SqL.of upd_same, zip_chain js.reverse 0, fun pd hpd => ?_⟩
      rw [merge_chain (hrp.nodup_iff.mpr hI.1)]
      have F7 := F6.new hpd (o := .dK (pinK (chainP 0 js.reverse))) nP
      have hP := chain_pins hrp hI.1
      have Fo := hP.forest hI.1 (hnz hI)
      have hl7 : (upd _ pd (.dK (pinK (chainP 0 js.reverse)))) l = some (.lst (js.map V.int)) := F7.tail.tail.g3
      refine ⟨l, pd, js, chainP 0 js.reverse, _, _, rfl, SqL.of hl7, F7.g0, Fo, by omega, fun q8 H8 s8 hq8 hQ8 => ?_⟩
      rw [chain_laid hrp hI.1 Fo] at hQ8
      refine ⟨_, rfl, l, _, rfl, SqL.of (s8 _ _ hl7), fun r3 hr3 => ?_⟩
      rw [erev]
      refine ⟨q8, r3, js.reverse, js.reverse, rfl, rfl, SqL.of (Same.new hr3 _ _ hQ8), SqL.of upd_same, ?_⟩
      rw [decide_eq_true rfl]
      exact k _
end
/-! ### what the top has written, the head -/
theorem all_mk {l : PySem.W.OpenLaw} {w : World} {K : PySem.W.Frag} {h : Heap} {mg : Str → Option Value} {fa : Addr} (X : K.In h) (G : h.Ns mainGlobals mg) (hfa : mg "law" = some (.ref fa))
    {f1 : Addr} {od1 an1 : Option Addr} {sl1 : Array (Option Value)} {oc1 kV1 dc1 pm1 cd1 ct1 : Value}
    {f2 : Addr} {od2 an2 : Option Addr} {sl2 : Array (Option Value)} {oc2 kV2 dc2 pm2 cd2 ct2 : Value}
    {f3 : Addr} {od3 an3 : Option Addr} {sl3 : Array (Option Value)} {oc3 kV3 dc3 pm3 cd3 ct3 : Value}
    {f4 : Addr} {od4 an4 : Option Addr} {sl4 : Array (Option Value)} {oc4 kV4 dc4 pm4 cd4 ct4 : Value}
    {f5 : Addr} {od5 an5 : Option Addr} {sl5 : Array (Option Value)} {oc5 kV5 dc5 pm5 cd5 ct5 : Value}
    {f6 : Addr} {od6 an6 : Option Addr} {sl6 : Array (Option Value)} {oc6 kV6 dc6 pm6 cd6 ct6 : Value}
    {f7 : Addr} {od7 an7 : Option Addr} {sl7 : Array (Option Value)} {oc7 kV7 dc7 pm7 cd7 ct7 : Value}
    {f8 : Addr} {od8 an8 : Option Addr} {sl8 : Array (Option Value)} {oc8 kV8 dc8 pm8 cd8 ct8 : Value}
    {f9 : Addr} {od9 an9 : Option Addr} {sl9 : Array (Option Value)} {oc9 kV9 dc9 pm9 cd9 ct9 : Value}
    {f10 : Addr} {od10 an10 : Option Addr} {sl10 : Array (Option Value)} {oc10 kV10 dc10 pm10 cd10 ct10 : Value}
    {f11 : Addr} {od11 an11 : Option Addr} {sl11 : Array (Option Value)} {oc11 kV11 dc11 pm11 cd11 ct11 : Value}
    (a1 : PySem.W.nsIn K mainGlobals "lay" = some (some (.ref f1))) (l1 : K.lookup f1 = some ⟨oc1, od1, .func (PySem.W.fnOf "lay" "lay" (defArgs sLay) (defBody sLay) (defScope sLay) .none kV1 dc1 pm1 an1 cd1 ct1), sl1⟩) (c1 : PySem.W.codeIn K cd1 "lay" = true) (k1 : PySem.W.keepIn K (.ref f1) = true)
    (a2 : PySem.W.nsIn K mainGlobals "spread" = some (some (.ref f2))) (l2 : K.lookup f2 = some ⟨oc2, od2, .func (PySem.W.fnOf "spread" "spread" (defArgs sSpread) (defBody sSpread) (defScope sSpread) .none kV2 dc2 pm2 an2 cd2 ct2), sl2⟩) (c2 : PySem.W.codeIn K cd2 "spread" = true) (k2 : PySem.W.keepIn K (.ref f2) = true)
    (a3 : PySem.W.nsIn K mainGlobals "_law_tape" = some (some (.ref f3))) (l3 : K.lookup f3 = some ⟨oc3, od3, .func (PySem.W.fnOf "_law_tape" "_law_tape" (defArgs sDeck) (defBody sDeck) (defScope sDeck) .none kV3 dc3 pm3 an3 cd3 ct3), sl3⟩) (c3 : PySem.W.codeIn K cd3 "_law_tape" = true) (k3 : PySem.W.keepIn K (.ref f3) = true)
    (a4 : PySem.W.nsIn K mainGlobals "_law_pick" = some (some (.ref f4))) (l4 : K.lookup f4 = some ⟨oc4, od4, .func (PySem.W.fnOf "_law_pick" "_law_pick" (defArgs sDraw) (defBody sDraw) (defScope sDraw) .none kV4 dc4 pm4 an4 cd4 ct4), sl4⟩) (c4 : PySem.W.codeIn K cd4 "_law_pick" = true) (k4 : PySem.W.keepIn K (.ref f4) = true)
    (a5 : PySem.W.nsIn K mainGlobals "_law_one_of" = some (some (.ref f5))) (l5 : K.lookup f5 = some ⟨oc5, od5, .func (PySem.W.fnOf "_law_one_of" "_law_one_of" (defArgs sChoose) (defBody sChoose) (defScope sChoose) .none kV5 dc5 pm5 an5 cd5 ct5), sl5⟩) (c5 : PySem.W.codeIn K cd5 "_law_one_of" = true) (k5 : PySem.W.keepIn K (.ref f5) = true)
    (a6 : PySem.W.nsIn K mainGlobals "_law_shuffled" = some (some (.ref f6))) (l6 : K.lookup f6 = some ⟨oc6, od6, .func (PySem.W.fnOf "_law_shuffled" "_law_shuffled" (defArgs sShuf) (defBody sShuf) (defScope sShuf) .none kV6 dc6 pm6 an6 cd6 ct6), sl6⟩) (c6 : PySem.W.codeIn K cd6 "_law_shuffled" = true) (k6 : PySem.W.keepIn K (.ref f6) = true)
    (a7 : PySem.W.nsIn K mainGlobals "_law_ids" = some (some (.ref f7))) (l7 : K.lookup f7 = some ⟨oc7, od7, .func (PySem.W.fnOf "_law_ids" "_law_ids" (defArgs sIds) (defBody sIds) (defScope sIds) .none kV7 dc7 pm7 an7 cd7 ct7), sl7⟩) (c7 : PySem.W.codeIn K cd7 "_law_ids" = true) (k7 : PySem.W.keepIn K (.ref f7) = true)
    (a8 : PySem.W.nsIn K mainGlobals "_law_pins" = some (some (.ref f8))) (l8 : K.lookup f8 = some ⟨oc8, od8, .func (PySem.W.fnOf "_law_pins" "_law_pins" (defArgs sPins) (defBody sPins) (defScope sPins) .none kV8 dc8 pm8 an8 cd8 ct8), sl8⟩) (c8 : PySem.W.codeIn K cd8 "_law_pins" = true) (k8 : PySem.W.keepIn K (.ref f8) = true)
    (a9 : PySem.W.nsIn K mainGlobals "_law_path" = some (some (.ref f9))) (l9 : K.lookup f9 = some ⟨oc9, od9, .func (PySem.W.fnOf "_law_path" "_law_path" (defArgs sPath) (defBody sPath) (defScope sPath) .none kV9 dc9 pm9 an9 cd9 ct9), sl9⟩) (c9 : PySem.W.codeIn K cd9 "_law_path" = true) (k9 : PySem.W.keepIn K (.ref f9) = true)
    (a10 : PySem.W.nsIn K mainGlobals "_law_laid" = some (some (.ref f10))) (l10 : K.lookup f10 = some ⟨oc10, od10, .func (PySem.W.fnOf "_law_laid" "_law_laid" (defArgs sLaid) (defBody sLaid) (defScope sLaid) .none kV10 dc10 pm10 an10 cd10 ct10), sl10⟩) (c10 : PySem.W.codeIn K cd10 "_law_laid" = true) (k10 : PySem.W.keepIn K (.ref f10) = true)
    (a11 : PySem.W.nsIn K mainGlobals "law" = some (some (.ref f11))) (l11 : K.lookup f11 = some ⟨oc11, od11, .func (PySem.W.fnOf "law" "law" (defArgs sLaw) (defBody sLaw) (defScope sLaw) .none kV11 dc11 pm11 an11 cd11 ct11), sl11⟩) (c11 : PySem.W.codeIn K cd11 "law" = true) (k11 : PySem.W.keepIn K (.ref f11) = true)
    (z0 : PySem.W.nsIn K mainGlobals "len" = some none)
    (z1 : PySem.W.nsIn K mainGlobals "isinstance" = some none)
    (z2 : PySem.W.nsIn K mainGlobals "list" = some none)
    (z3 : PySem.W.nsIn K mainGlobals "range" = some none)
    (z4 : PySem.W.nsIn K mainGlobals "max" = some none)
    (z5 : PySem.W.nsIn K mainGlobals "min" = some none)
    (z6 : PySem.W.nsIn K mainGlobals "repr" = some none)
    (z7 : PySem.W.nsIn K mainGlobals "sorted" = some none)
    (z8 : PySem.W.nsIn K mainGlobals "dict" = some none)
    (z9 : PySem.W.nsIn K mainGlobals "zip" = some none)
    (z10 : PySem.W.nsIn K mainGlobals "enumerate" = some none)
    (z11 : PySem.W.nsIn K mainGlobals "int" = some none)
    : ∃ fd : FuncData, (∀ (s : Shared) (v : Value), BindsTo s fd ⟨[v], []⟩ [("script", v)]) ∧ ∀ base : Heap, K.In base → base.Ns mainGlobals mg → FnG l.prog w K mg base 4 fa fd ["script"] (spLaw K) := by
  have e := hfa.symm.trans (PySem.W.mg_of X G a11)
  cases e
  have n_len := PySem.W.mg_none_of X G z0
  have n_isinstance := PySem.W.mg_none_of X G z1
  have n_list := PySem.W.mg_none_of X G z2
  have n_range := PySem.W.mg_none_of X G z3
  have n_max := PySem.W.mg_none_of X G z4
  have n_min := PySem.W.mg_none_of X G z5
  have n_repr := PySem.W.mg_none_of X G z6
  have n_sorted := PySem.W.mg_none_of X G z7
  have n_dict := PySem.W.mg_none_of X G z8
  have n_zip := PySem.W.mg_none_of X G z9
  have n_enumerate := PySem.W.mg_none_of X G z10
  have n_int := PySem.W.mg_none_of X G z11
  have F1 := fun_mk (st := sLay) l1 c1 k1
  have b1 := F1.binds (ps := ["base", "pins"]) fun _ _ _ _ _ _ us hl => match us, hl with | [_, _], _ => rfl
  have La : Fn K mg "lay" sLay ["base", "pins"] f1 _ := ⟨F1, b1, PySem.W.mg_of X G a1⟩
  have F2 := fun_mk (st := sSpread) l2 c2 k2
  have b2 := F2.binds (ps := ["loose", "hung"]) fun _ _ _ _ _ _ us hl => match us, hl with | [_, _], _ => rfl
  have Sp : Fn K mg "spread" sSpread ["loose", "hung"] f2 _ := ⟨F2, b2, PySem.W.mg_of X G a2⟩
  have F3 := fun_mk (st := sDeck) l3 c3 k3
  have b3 := F3.binds (ps := ["script", "start"]) fun _ _ _ _ _ _ us hl => match us, hl with | [_, _], _ => rfl
  have De : Fn K mg "_law_tape" sDeck ["script", "start"] f3 _ := ⟨F3, b3, PySem.W.mg_of X G a3⟩
  have F4 := fun_mk (st := sDraw) l4 c4 k4
  have b4 := F4.binds (ps := ["tape", "size"]) fun _ _ _ _ _ _ us hl => match us, hl with | [_, _], _ => rfl
  have Dr : Fn K mg "_law_pick" sDraw ["tape", "size"] f4 _ := ⟨F4, b4, PySem.W.mg_of X G a4⟩
  have F5 := fun_mk (st := sChoose) l5 c5 k5
  have b5 := F5.binds (ps := ["tape", "items"]) fun _ _ _ _ _ _ us hl => match us, hl with | [_, _], _ => rfl
  have Ch : Fn K mg "_law_one_of" sChoose ["tape", "items"] f5 _ := ⟨F5, b5, PySem.W.mg_of X G a5⟩
  have F6 := fun_mk (st := sShuf) l6 c6 k6
  have b6 := F6.binds (ps := ["tape", "ids"]) fun _ _ _ _ _ _ us hl => match us, hl with | [_, _], _ => rfl
  have Sh : Fn K mg "_law_shuffled" sShuf ["tape", "ids"] f6 _ := ⟨F6, b6, PySem.W.mg_of X G a6⟩
  have F7 := fun_mk (st := sIds) l7 c7 k7
  have b7 := F7.binds (ps := ["tape", "size"]) fun _ _ _ _ _ _ us hl => match us, hl with | [_, _], _ => rfl
  have Id : Fn K mg "_law_ids" sIds ["tape", "size"] f7 _ := ⟨F7, b7, PySem.W.mg_of X G a7⟩
  have F8 := fun_mk (st := sPins) l8 c8 k8
  have b8 := F8.binds (ps := ["tape", "base"]) fun _ _ _ _ _ _ us hl => match us, hl with | [_, _], _ => rfl
  have Pi : Fn K mg "_law_pins" sPins ["tape", "base"] f8 _ := ⟨F8, b8, PySem.W.mg_of X G a8⟩
  have F9 := fun_mk (st := sPath) l9 c9 k9
  have b9 := F9.binds (ps := ["base", "pins", "row_id"]) fun _ _ _ _ _ _ us hl => match us, hl with | [_, _, _], _ => rfl
  have Pa : Fn K mg "_law_path" sPath ["base", "pins", "row_id"] f9 _ := ⟨F9, b9, PySem.W.mg_of X G a9⟩
  have F10 := fun_mk (st := sLaid) l10 c10 k10
  have b10 := F10.binds (ps := ["base", "pins"]) fun _ _ _ _ _ _ us hl => match us, hl with | [_, _], _ => rfl
  have Ld : Fn K mg "_law_laid" sLaid ["base", "pins"] f10 _ := ⟨F10, b10, PySem.W.mg_of X G a10⟩
  exact ⟨PySem.W.fnOf "law" "law" (defArgs sLaw) (defBody sLaw) (defScope sLaw) .none kV11 dc11 pm11 an11 cd11 ct11, fun s v => .of_eq rfl, fun base _ _ =>
    (have GDr := ok_draw (P := l.prog) (w := w) (K := K) (mg := mg) (base := base) Dr.F
    have GC := ok_choose (P := l.prog) (w := w) (base := base) Ch.F ⟨n_len⟩ Dr.F Dr.b Dr.m
    have GSh := ok_shuf (P := l.prog) (w := w) (base := base) Sh.F ⟨n_len, n_list⟩ Dr.F Dr.b Dr.m
    have GI := ok_ids Id.F ⟨n_len, n_list, n_range⟩ GC Ch.F.kp Ch.b Ch.m GSh Sh.F.kp Sh.b Sh.m
    have GP := ok_pins Pi.F ⟨n_enumerate⟩ GDr Dr.F.kp Dr.b Dr.m GC Ch.F.kp Ch.b Ch.m GSh Sh.F.kp Sh.b Sh.m
    have GSp := ok_spread (P := l.prog) (w := w) (base := base) Sp.F n_len
    have GL := ok_lay La.F GSp Sp.F.kp Sp.b Sp.m
    have GPa := ok_path (P := l.prog) (w := w) (base := base) Pa.F ⟨n_int, n_sorted⟩
    have GLd := ok_laid Ld.F ⟨n_int, n_sorted⟩ GPa Pa.F.kp Pa.b Pa.m
    ok_law (fun_mk (st := sLaw) l11 c11 k11) ⟨n_len⟩ ⟨n_range, n_max, n_min, n_repr, n_dict, n_zip, n_isinstance, n_list⟩ De Dr Id GI Pi GP Sh GSh La GL Ld GLd)⟩
end Hk
open PySem PySem.W PyProof.Rows in
set_option maxRecDepth 100000 in
set_option maxHeartbeats 0 in
theorem PySem.Challenge.cw_handsorted_k18_pins_laid_holds : PySem.Challenge.rw_handsorted_k18_pins_laid.Holds := by
  w_on; o_law; k_head; (case hw => w_witness2)
  k_fill
  refine Hk.walkG (l := PySem.Challenge.rw_handsorted_k18_pins_laid) (n := 63) (k := 4) (x := "script") (sp := Hk.spLaw) rfl (by decide) rfl ⟨rfl, by decide, by decide⟩ (fun w h Y => PySem.W.kIn_of Y) ?F (fun _ _ a ns hl hb hS => ⟨a, ns, rfl, hS, hl, hb, fun _ => rfl⟩)
  case F =>
    intro w mg fa h KX G hmg
    refine' Hk.all_mk KX G hmg ?a1 ?l1 ?c1 ?k1 ?a2 ?l2 ?c2 ?k2 ?a3 ?l3 ?c3 ?k3 ?a4 ?l4 ?c4 ?k4 ?a5 ?l5 ?c5 ?k5 ?a6 ?l6 ?c6 ?k6 ?a7 ?l7 ?c7 ?k7 ?a8 ?l8 ?c8 ?k8 ?a9 ?l9 ?c9 ?k9 ?a10 ?l10 ?c10 ?k10 ?a11 ?l11 ?c11 ?k11 ?z0 ?z1 ?z2 ?z3 ?z4 ?z5 ?z6 ?z7 ?z8 ?z9 ?z10 ?z11
    (case a1 => k_is)
    (case l1 => k_is)
    (case c1 => k_is)
    (case k1 => k_is)
    (case a2 => k_is)
    (case l2 => k_is)
    (case c2 => k_is)
    (case k2 => k_is)
    (case a3 => k_is)
    (case l3 => k_is)
    (case c3 => k_is)
    (case k3 => k_is)
    (case a4 => k_is)
    (case l4 => k_is)
    (case c4 => k_is)
    (case k4 => k_is)
    (case a5 => k_is)
    (case l5 => k_is)
    (case c5 => k_is)
    (case k5 => k_is)
    (case a6 => k_is)
    (case l6 => k_is)
    (case c6 => k_is)
    (case k6 => k_is)
    (case a7 => k_is)
    (case l7 => k_is)
    (case c7 => k_is)
    (case k7 => k_is)
    (case a8 => k_is)
    (case l8 => k_is)
    (case c8 => k_is)
    (case k8 => k_is)
    (case a9 => k_is)
    (case l9 => k_is)
    (case c9 => k_is)
    (case k9 => k_is)
    (case a10 => k_is)
    (case l10 => k_is)
    (case c10 => k_is)
    (case k10 => k_is)
    (case a11 => k_is)
    (case l11 => k_is)
    (case c11 => k_is)
    (case k11 => k_is)
    (case z0 => k_is)
    (case z1 => k_is)
    (case z2 => k_is)
    (case z3 => k_is)
    (case z4 => k_is)
    (case z5 => k_is)
    (case z6 => k_is)
    (case z7 => k_is)
    (case z8 => k_is)
    (case z9 => k_is)
    (case z10 => k_is)
    (case z11 => k_is)

