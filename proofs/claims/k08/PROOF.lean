import PyProof.Rows.All
import Wide.All
import OpenK.AllK
import Wide.FinOn
import HandS.ForMost
import HandS.EndBits
import HandS.Set
import HandS.SetFor
import HandS.IsInst
import PyProof.ReprRoads
import PyProof.EqAt
import PyProof.EqKinds
import PyProof.TupleCall
import HandS.GenList
import HandS.Walk
import HandS.Star
import HandS.Style
import HandS.TupAny
import KE.KSortedM
import KE.SortData
import KE.DataCmp
import PySem.Challenge.RW_handsorted_k08_arguments_by_name
set_option Elab.async false
set_option linter.all false
set_option maxRecDepth 100000
set_option maxHeartbeats 8000000
namespace Hk
open PySem L2 PySem.Spec PyProof.Rows
def top (i : Nat) : Stmt := PySem.Challenge.pw_handsorted_k08_arguments_by_name.main.body.getD i (.Pass ⟨0, 0, 0, 0⟩)
abbrev sWhole : Stmt := top 4
abbrev sWithin : Stmt := top 5
abbrev sDiff : Stmt := top 6
abbrev sIsId : Stmt := top 11
abbrev sAreFields : Stmt := top 12
abbrev sIsItem : Stmt := top 13
abbrev sIsRule : Stmt := top 14
abbrev sKey : Stmt := top 15
abbrev sCompare : Stmt := top 16
abbrev sRuleOrder : Stmt := top 17
abbrev sIsOrder : Stmt := top 19
abbrev sAreIds : Stmt := top 20
abbrev sIsMove : Stmt := top 21
abbrev sDoMove : Stmt := top 22
abbrev sDoMoves : Stmt := top 23
abbrev sNeigh : Stmt := top 24
abbrev sDeck : Stmt := top 26
abbrev sDraw : Stmt := top 27
abbrev sChoose : Stmt := top 28
abbrev sSame : Stmt := top 29
abbrev sLaw : Stmt := top 30
/-! ### numbers of any size -/
def CPowG (i j : Int) : Prop := 0 ≤ j ∧ (Builtin.Int.intBits i : Int) * j ≤ 2 ^ 27
section
variable {X : Cx}
theorem op_mulG : OpR X (binaryOp .Mult) (rI IntMulOk fun i j => .int (i * j)) := opI fun _ _ _ _ _ _ _ hc q => mul_int q hc
theorem op_powG : OpR X (binaryOp .Pow) (rI CPowG fun i j => .int (i ^ j.toNat)) := opI fun _ _ _ _ _ _ _ hc q => pow_int hc.1 hc.2 q
end
theorem mulOk_bits {i j : Int} {a b : Nat} (ha : Builtin.Int.intBits i ≤ a) (hb : Builtin.Int.intBits j ≤ b) (h : a + b ≤ 100000000) : IntMulOk i j := by
  have e : bitsLine = 134217728 := by decide
  unfold IntMulOk
  intro z
  rw [Bool.and_eq_true] at z
  have z2 := z.2
  unfold Builtin.Int.intTooBig at z2
  have z3 := of_decide_eq_true z2
  rw [e] at z3
  omega
theorem bits_le {i : Int} {n : Nat} (h : i.natAbs < 2 ^ n) : Builtin.Int.intBits i ≤ n := intBits_le h
/-- the turn of the deck's loop -/
theorem turn_bits {m e : Int} {k : Nat} (h0 : 0 ≤ m) (h1 : m < 2147483600) (he : Builtin.Int.intBits e ≤ k) (hk : 30 ≤ k) :
    Builtin.Int.intBits (m * 20011 + e * e + 13) ≤ 2 * k + 1 := by
  refine bits_le ?_
  have a1 : e.natAbs < 2 ^ k := Nat.lt_of_lt_of_le (natAbs_lt_pow_bits e) (Nat.pow_le_pow_right (by omega) he)
  have a2 : (e * e).natAbs < 2 ^ (2 * k) := by
    rw [Int.natAbs_mul, Nat.two_mul, Nat.pow_add]
    exact Nat.mul_lt_mul'' a1 a1
  have a3 : (m * 20011 + 13).natAbs < 2 ^ 60 := by
    have : (2 : Nat) ^ 60 = 1152921504606846976 := by decide
    omega
  have a4 : (2 : Nat) ^ 60 ≤ 2 ^ (2 * k) := Nat.pow_le_pow_right (by omega) (by omega)
  have a5 : (2 : Nat) ^ (2 * k + 1) = 2 ^ (2 * k) + 2 ^ (2 * k) := by rw [Nat.pow_succ, Nat.mul_two]
  rw [a5]
  generalize (2 : Nat) ^ (2 * k) = B at *
  generalize e * e = q at *
  omega
/-! ### the deck -/
def dk (x y : Int) : List (Key × V) := [(.inr "digits", .int x), (.inr "mixed", .int y)]
def DeckAt (H : Hp) (d : Addr) : Prop := ∃ x y : Int, H d = some (.dK (dk x y)) ∧ 0 ≤ x ∧ 0 ≤ y ∧ y < 2147483600
/-- all that was tracked is as it was, but what stands at d -/
def But (d : Addr) (H H' : Hp) : Prop := ∀ b o, b ≠ d → H b = some o → H' b = some o
theorem But.refl (d : Addr) (H : Hp) : But d H H := fun _ _ _ h => h
theorem But.trans {d : Addr} {H H1 H2 : Hp} (a : But d H H1) (b : But d H1 H2) : But d H H2 := fun c o n h => b c o n (a c o n h)
theorem But.of {d : Addr} {H H' : Hp} (a : Same H H') : But d H H' := fun c o _ h => a c o h
theorem But.upd {d : Addr} {H : Hp} {o : HO} : But d H (upd H d o) := fun b u n h => by rw [upd_ne n]; exact h
theorem But.new {d p : Addr} {H : Hp} {o : HO} (h : H p = none) : But d H (L2.upd H p o) := fun b u n e => by rw [upd_ne (ne_of_none e h)]; exact e
theorem Same.new {p : Addr} {H : Hp} {o : HO} (h : H p = none) : Same H (L2.upd H p o) := fun b u e => by rw [upd_ne (ne_of_none e h)]; exact e
theorem DeckAt.same {H H' : Hp} {d : Addr} (D : DeckAt H d) (s : Same H H') : DeckAt H' d := let ⟨x, y, h, r⟩ := D; ⟨x, y, s _ _ h, r⟩
theorem dm_ : ¬ (("digits" : Str) = "mixed") := by decide +kernel
theorem md_ : ¬ (("mixed" : Str) = "digits") := by decide +kernel
theorem dk_digits (x y : Int) : valV (dk x y) (Sum.inr "digits" : Key) = some (.int x) := by
  unfold valV dk
  rw [List.find?_cons_of_pos]
  · rfl
  · exact decide_eq_true rfl
theorem dk_mixed (x y : Int) : valV (dk x y) (Sum.inr "mixed" : Key) = some (.int y) := by
  unfold valV dk
  rw [List.find?_cons_of_neg, List.find?_cons_of_pos]
  · rfl
  · exact decide_eq_true rfl
  · intro q
    exact dm_ (Sum.inr.inj (of_decide_eq_true q))
theorem dk_put_digits (x y z : Int) : putK (dk x y) (Sum.inr "digits" : Key) (.int z) = dk z y := by
  unfold putK dk
  have n : ¬ (Sum.inr "mixed" : Key) = (Sum.inr "digits" : Key) := fun q => md_ (Sum.inr.inj q)
  simp only [List.any_cons, decide_true, Bool.true_or, if_true, List.map_cons, List.map_nil, if_neg n]
theorem dk_put_mixed (x y z : Int) : putK (dk x y) (Sum.inr "mixed" : Key) (.int z) = dk x z := by
  unfold putK dk
  have n : ¬ (Sum.inr "digits" : Key) = (Sum.inr "mixed" : Key) := fun q => dm_ (Sum.inr.inj q)
  simp only [List.any_cons, decide_true, Bool.true_or, Bool.or_true, if_true, List.map_cons, List.map_nil, if_neg n]
theorem dk_merge (x y : Int) : mergeK [] [((Sum.inr "digits" : Key), V.int x), ((Sum.inr "mixed" : Key), V.int y)] = dk x y := by
  unfold mergeK putK dk
  have n : ¬ (Sum.inr "digits" : Key) = (Sum.inr "mixed" : Key) := fun q => dm_ (Sum.inr.inj q)
  simp only [List.foldl_cons, List.foldl_nil, List.any_nil, List.nil_append, List.any_cons, decide_eq_false n, Bool.or_self]
  rfl
structure TxtD (mg : Str → Option Value) : Prop where
  len : mg "len" = none
section
variable {P : Program} {w : World} {K : PySem.W.Frag} {mg : Str → Option Value} {base : Heap}
def spDeck (K : PySem.W.Frag) : Sp := fun vs H Q _ => ∃ (a : Addr) (ns : List Int) (st : Int), vs = [.ref a, .int st] ∧ SqL K H a (ns.map V.int) ∧ ns.length ≤ 63 ∧ (∀ z ∈ ns, Builtin.Int.intBits z ≤ 1048576) ∧ 0 ≤ st ∧ st ≤ 63 ∧
  ∀ (d : Addr) (H' : Hp), H d = none → Same H H' → DeckAt H' d → Q (.ref d) H'
theorem scDeck : FnScope ["script", "start", "mixed", "entry", "digits"] ["script", "start"] (defScope sDeck) := ⟨rfl, rfl, rfl, by decide +kernel, rfl, by decide +kernel, by decide +kernel⟩
theorem ok_deck {f : Addr} {fd : FuncData} (F : Fun K "_law_deck" "_law_deck" sDeck f fd) (T : TxtD mg) : FnOk P w K mg base CX0 1 f fd ["script", "start"] (spDeck K) := by
  refine F.ok scDeck (fun vs H Q E h => ?_) (fun cdv A outer s H vs Q E hr h => ?_)
  · obtain ⟨a, ns, st, rfl, _⟩ := h
    rfl
  · obtain ⟨a, ns, st, rfl, hS, hlen, hb, h0, h1, k⟩ := h
    have hu := hu_of hr
    refine ⟨_, pss_cons (ps_set (i := 2) scDeck.nd rfl (Or.inl rfl) (pe_op op_add pe_int (pe_op op_mul (pv 1) pe_int)))
      (pss_cons (ps_for PassesOwn.never rfl (pi_list (pv 0)) (pg_name (i := 3) scDeck.nd rfl (Or.inl rfl))
        (pss_one (ps_set (i := 2) scDeck.nd rfl (Or.inl rfl) (pe_op op_add (pe_op op_mod (pe_op op_powG (pe_op op_add (pe_op op_add (pe_op op_mul (pv 2) pe_int) (pe_op op_mulG (pv 3) (pv 3))) pe_int) pe_int) pe_int) pe_int))))
      (pss_cons (ps_set (i := 4) scDeck.nd rfl (Or.inl rfl) (pe_ifExp (PW.pt (pw_and (pt_cmpR op_lt (pv 1) (pe_callB call_len_seq (by rfl) T.len PySem.boot_len (pa_cons (pv 0) pa_nil)) (nomark _))
          (pw_and1 (pt_cmpR op_ge (pe_ix ix_list (pv 0) (pv 1) (fun _ _ => rfl)) (pe_op op_pow pe_int pe_int) (nomark _)))))
          (pe_op op_sub (pe_ix ix_list (pv 0) (pv 1) (fun _ _ => rfl)) (pe_op op_pow pe_int pe_int)) pe_int))
      (pss_one (ps_ret (pe_disp (pps_cons pe_str (pv 4) (pps_cons pe_str (pv 2) pps_nil)) (by rfl) (by rfl) (fun z => by cases z) (by decide)))))), ?_⟩
    refine ⟨_, rfl, _, _, rfl, rfl, .inr ⟨by decide, by decide⟩, _, _, rfl, rfl, ?_⟩
    refine ⟨_, rfl, a, rfl, ⟨_, hS⟩, for_list (K := K) (a := a) (xs := ns.map V.int) (fun i σ H' => ∃ (m : Int) (v : Option V), σ = [some (.ref a), some (.int st), some (.int m), v, none] ∧ H' = H ∧ 0 ≤ m ∧ m < 2147483600)
      ⟨_, none, rfl, rfl, by omega, by omega⟩ (fun i σ H' _ ⟨_, _, _, e, _⟩ => by rw [e]; exact hS) ?_ ?_⟩
    · rintro i y σ H' hi ⟨m, v, rfl, rfl, m0, m1⟩
      obtain ⟨e, he, rfl⟩ : ∃ e, e ∈ ns ∧ y = V.int e := by
        rw [List.getElem?_map] at hi
        cases q : ns[i]? with
        | none => rw [q] at hi; cases hi
        | some u => rw [q] at hi; exact ⟨u, List.mem_of_getElem? q, (Option.some.inj hi).symm⟩
      have hbits := hb e he
      have hT := turn_bits (k := 1048576) m0 m1 hbits (by decide)
      refine ⟨_, rfl, _, _, rfl, rfl, .inr ⟨by decide, by decide⟩, _, rfl, _, rfl, _, _, rfl, rfl, mulOk_bits hbits hbits (by decide), _, _, rfl, rfl, _, _, rfl, rfl, _, _, rfl, rfl, ⟨by decide, ?_⟩, _, _, rfl, rfl, (by show (0 : Int) < 2147483549; decide), _, _, rfl, rfl, ?_⟩
      · have z : (2 : Int) ^ 27 = 134217728 := by decide
        rw [z]
        generalize Builtin.Int.intBits (m * 20011 + e * e + 13) = B at hT ⊢
        omega
      · refine ⟨_, _, rfl, rfl, ?_, ?_⟩
        · have := Int.emod_nonneg ((m * 20011 + e * e + 13) ^ (2 : Int).toNat) (b := 2147483549) (by decide)
          generalize (m * 20011 + e * e + 13) ^ (2 : Int).toNat % 2147483549 = z at *
          omega
        · have := Int.emod_lt_of_pos ((m * 20011 + e * e + 13) ^ (2 : Int).toNat) (b := 2147483549) (by decide)
          generalize (m * 20011 + e * e + 13) ^ (2 : Int).toNat % 2147483549 = z at *
          omega
    · rintro σ H' ⟨m, v, rfl, rfl, m0, m1⟩
      have fin : ∀ (x : Int) (σ' : L2.St), 0 ≤ x → σ' = [some (.ref a), some (.int st), some (.int m), v, some (.int x)] →
          (tRet (tDisp [(tC (.str "digits"), tVar 4), (tC (.str "mixed"), tVar 2)])) { nx := fun _ H' => Q .non H', rt := Q } σ' H' := by
        rintro x σ' hx rfl
        intro p hp
        refine ⟨_, rfl, _, rfl, upd_same, [((Sum.inr "digits" : Key), V.int x), ((Sum.inr "mixed" : Key), V.int m)], rfl, (by show 2 ≤ 15; decide), ?_⟩
        rw [upd_upd, dk_merge]
        exact k p _ hp (Same.new hp) ⟨x, m, upd_same, hx, m0, m1⟩
      refine ⟨_, rfl, _, rfl, a, _, rfl, .inl hS, _, _, rfl, rfl, _, rfl, ?_⟩
      refine ite2 (fun hlt => ?_) (fun hlt => ?_)
      · have hlt' : st < (ns.map V.int).length := of_decide_eq_true hlt
        rw [List.length_map] at hlt'
        obtain ⟨n, rfl⟩ : ∃ n : Nat, st = (n : Int) := ⟨st.toNat, by omega⟩
        have hn : n < ns.length := by omega
        have hat : (ns.map V.int)[n]? = some (V.int ns[n]) := by rw [List.getElem?_map, List.getElem?_eq_getElem hn]; rfl
        refine ⟨_, rfl, _, rfl, a, _, _, _, rfl, rfl, hS, atI_nat hat, _, _, rfl, rfl, ⟨by decide, by decide, by decide⟩, _, _, rfl, rfl, _, rfl, ?_⟩
        refine ite2 (fun hge => ?_) (fun hge => ?_)
        · have hge' := of_decide_eq_true hge
          refine ⟨_, rfl, _, rfl, a, _, _, _, rfl, rfl, hS, atI_nat hat, _, _, rfl, rfl, ⟨by decide, by decide, by decide⟩, _, _, rfl, rfl, ?_⟩
          exact fin _ _ (by omega) rfl
        · exact fin 0 _ (Int.le_refl _) rfl
      · refine iteF ?_
        exact fin 0 _ (Int.le_refl _) rfl
end
theorem But.seq {d a : Addr} {H H' : Hp} {K : PySem.W.Frag} {xs : List V} (D : DeckAt H d) (s : But d H H') (h : SqL K H a xs) : SqL K H' a xs := by
  obtain ⟨x, y, hd, _⟩ := D
  rcases h with (h | ⟨o, h⟩) | h
  · exact .inl (.inl (s _ _ (ne_of h hd (by intro z; cases z)) h))
  · exact .inl (.inr ⟨o, s _ _ (ne_of h hd (by intro z; cases z)) h⟩)
  · exact .inr h
theorem But.lst {d a : Addr} {H H' : Hp} {xs : List V} (D : DeckAt H d) (s : But d H H') (h : H a = some (.lst xs)) : H' a = some (.lst xs) := by
  obtain ⟨x, y, hd, _⟩ := D
  exact s _ _ (ne_of h hd (by intro z; cases z)) h
theorem But.tup {d a : Addr} {H H' : Hp} {xs : List V} (D : DeckAt H d) (s : But d H H') (h : H a = some (.tup xs)) : H' a = some (.tup xs) := by
  obtain ⟨x, y, hd, _⟩ := D
  exact s _ _ (ne_of h hd (by intro z; cases z)) h
/-- new behind is new ahead -/
theorem But.free {d p : Addr} {H H' : Hp} (D : DeckAt H' d) (s : But d H H') (h : H' p = none) : H p = none := by
  obtain ⟨x, y, hd, _⟩ := D
  cases q : H p with
  | none => rfl
  | some o =>
    have := s _ _ (fun e => by rw [e, hd] at h; cases h) q
    rw [h] at this
    cases this
theorem pow6 : (10 : Int) ^ (6 : Int).toNat = 1000000 := by decide
section
variable {P : Program} {w : World} {K : PySem.W.Frag} {mg : Str → Option Value} {base : Heap}
/-! ### a draw -/
def spDraw : Sp := fun vs H Q _ => ∃ (d : Addr) (n : Int), vs = [.ref d, .int n] ∧ DeckAt H d ∧ 0 < n ∧ n < 1073741824 ∧ ∀ (r : Int) (H' : Hp), 0 ≤ r → r < n → DeckAt H' d → But d H H' → Q (.int r) H'
theorem scDraw : FnScope ["deck", "size", "found"] ["deck", "size"] (defScope sDraw) := ⟨rfl, rfl, rfl, by decide +kernel, rfl, by decide +kernel, by decide +kernel⟩
theorem ok_draw {f : Addr} {fd : FuncData} (F : Fun K "_law_draw" "_law_draw" sDraw f fd) : FnOk P w K mg base CX0 1 f fd ["deck", "size"] spDraw := by
  refine F.ok scDraw (fun vs H Q E h => ?_) (fun cdv A outer s H vs Q E hr h => ?_)
  · obtain ⟨d, n, rfl, _⟩ := h
    rfl
  · obtain ⟨d, n, rfl, ⟨x, y, hd, x0, y0, y1⟩, n0, n1, k⟩ := h
    have hu := hu_of hr
    refine ⟨_, pss_cons (ps_if (pt_cmpR op_ge (pe_dget hu (pv 0) pe_str (fun _ _ => rfl)) (pv 1) (nomark _))
        (pss_cons (ps_set (i := 2) scDraw.nd rfl (Or.inl rfl) (pe_op op_mod (pe_dget hu (pv 0) pe_str (fun _ _ => rfl)) (pv 1)))
        (pss_cons (ps_dput hu (pv 0) pe_str (pe_op op_fdiv (pe_dget hu (pv 0) pe_str (fun _ _ => rfl)) (pv 1)) rfl)
        (pss_one (ps_ret (pv 2))))) pss_nil)
      (pss_cons (ps_dput hu (pv 0) pe_str (pe_op op_mod (pe_op op_add (pe_op op_mul (pe_dget hu (pv 0) pe_str (fun _ _ => rfl)) pe_int) pe_int) pe_int) rfl)
      (pss_one (ps_ret (pe_op op_mod (pe_op op_fdiv (pe_op op_mod (pe_op op_pow (pe_op op_mod (pe_op op_pow (pe_dget hu (pv 0) pe_str (fun _ _ => rfl)) pe_int) pe_int) pe_int) pe_int) pe_int) (pv 1))))), ?_⟩
    have gx : ∀ {H : Hp} {x y : Int}, H d = some (.dK (dk x y)) → DGet H d (.str "digits") (some (.int x)) := fun {H x y} e => by
      have := DGet.k (k := Sum.inr "digits") e
      rw [dk_digits] at this
      exact this
    have gy : ∀ {H : Hp} {x y : Int}, H d = some (.dK (dk x y)) → DGet H d (.str "mixed") (some (.int y)) := fun {H x y} e => by
      have := DGet.k (k := Sum.inr "mixed") e
      rw [dk_mixed] at this
      exact this
    have px : ∀ {H : Hp} {x y z : Int}, H d = some (.dK (dk x y)) → DPut H d (.str "digits") (.int z) (upd H d (.dK (dk z y))) := fun {H x y z} e => by
      have := DPut.k (k := Sum.inr "digits") (v := .int z) e (by show 2 < sizeLine; decide)
      rw [dk_put_digits] at this
      exact this
    have py : ∀ {H : Hp} {x y z : Int}, H d = some (.dK (dk x y)) → DPut H d (.str "mixed") (.int z) (upd H d (.dK (dk x z))) := fun {H x y z} e => by
      have := DPut.k (k := Sum.inr "mixed") (v := .int z) e (by show 2 < sizeLine; decide)
      rw [dk_put_mixed] at this
      exact this
    refine ⟨_, rfl, d, _, rfl, gx hd, _, rfl, _, _, rfl, rfl, _, rfl, ?_⟩
    refine ite2 (fun c => ?_) (fun c => ?_)
    · refine ⟨_, rfl, d, _, rfl, gx hd, _, rfl, _, _, rfl, rfl, n0, ?_⟩
      refine ⟨_, rfl, d, _, rfl, gx hd, _, rfl, _, _, rfl, rfl, ⟨n0, n1⟩, _, rfl, d, _, rfl, px hd, ?_⟩
      exact ⟨_, rfl, k _ _ (Int.emod_nonneg _ (by omega)) (Int.emod_lt_of_pos _ n0) ⟨_, y, upd_same, Int.ediv_nonneg x0 (by omega), y0, y1⟩ But.upd⟩
    · have m0 := Int.emod_nonneg (y * 39373 + 2027) (b := 2147483549) (by decide)
      have m1 := Int.emod_lt_of_pos (y * 39373 + 2027) (b := 2147483549) (by decide)
      refine ⟨_, rfl, d, _, rfl, gy hd, _, _, rfl, rfl, .inr ⟨by decide, by decide⟩, _, _, rfl, rfl, _, _, rfl, rfl, (by show (0 : Int) < 2147483549; decide), _, rfl, d, _, rfl, py hd, ?_⟩
      refine ⟨_, rfl, d, _, rfl, gy upd_same, _, _, rfl, rfl, ⟨by decide, by decide, by omega⟩, _, _, rfl, rfl, (by show (0 : Int) < 2147483423; decide), ?_⟩
      have q0 := Int.emod_nonneg (((y * 39373 + 2027) % 2147483549) ^ (2 : Int).toNat) (b := 2147483423) (by decide)
      have q1 := Int.emod_lt_of_pos (((y * 39373 + 2027) % 2147483549) ^ (2 : Int).toNat) (b := 2147483423) (by decide)
      refine ⟨_, _, rfl, rfl, ⟨by decide, by decide, by omega⟩, _, _, rfl, rfl, (by show (0 : Int) < 998244353; decide), _, _, rfl, rfl, ⟨by decide, by decide⟩, _, rfl, _, _, rfl, rfl, n0, ?_⟩
      exact k _ _ (Int.emod_nonneg _ (by omega)) (Int.emod_lt_of_pos _ n0) ⟨x, _, upd_same, x0, m0, by omega⟩ But.upd
/-! ### one of some things -/
def spChoose (K : PySem.W.Frag) : Sp := fun vs H Q _ => ∃ (d t : Addr) (xs : List V), vs = [.ref d, .ref t] ∧ DeckAt H d ∧ SqL K H t xs ∧ xs ≠ [] ∧ xs.length < 1000000 ∧ ∀ (v : V) (H' : Hp), v ∈ xs → DeckAt H' d → But d H H' → Q v H'
theorem scChoose : FnScope ["deck", "things"] ["deck", "things"] (defScope sChoose) := ⟨rfl, rfl, rfl, by decide +kernel, rfl, by decide +kernel, by decide +kernel⟩
theorem ok_choose {f fD : Addr} {fd fdD : FuncData} (F : Fun K "_law_choose" "_law_choose" sChoose f fd) (T : TxtD mg) (FD : Fun K "_law_draw" "_law_draw" sDraw fD fdD) (bD : Binds K fdD ["deck", "size"] []) (mD : mg "_law_draw" = some (.ref fD)) :
    FnOk P w K mg base CX0 2 f fd ["deck", "things"] (spChoose K) := by
  have GD : FnOk P w K mg base CX0 1 fD fdD ["deck", "size"] spDraw := ok_draw FD
  refine F.ok scChoose (fun vs H Q E h => ?_) (fun cdv A outer s H vs Q E hr h => ?_)
  · obtain ⟨d, t, xs, rfl, _⟩ := h
    rfl
  · obtain ⟨d, t, xs, rfl, D, hS, h0, h1, k⟩ := h
    refine ⟨_, pss_one (ps_ret (pe_ix ix_list (pv 1) (pe_call GD hr rfl mD FD.kp bD .nil pass0 (pa_cons (pv 0) (pa_cons (pe_callB call_len_seq (by rfl) T.len PySem.boot_len (pa_cons (pv 1) pa_nil)) pa_nil))) (fun _ _ => rfl))), ?_⟩
    have hl : 0 < xs.length := List.length_pos_iff.mpr h0
    refine ⟨_, rfl, _, rfl, _, rfl, t, _, rfl, .inl hS, d, _, rfl, D, by omega, by omega, fun r H' r0 r1 D' B => ?_⟩
    obtain ⟨n, rfl⟩ : ∃ n : Nat, r = (n : Int) := ⟨r.toNat, by omega⟩
    have hn : n < xs.length := by omega
    have hat : xs[n]? = some xs[n] := List.getElem?_eq_getElem hn
    exact ⟨t, _, _, _, rfl, rfl, B.seq D hS, atI_nat hat, k _ _ (List.getElem_mem hn) D' B⟩
end
/-! ### the walk through the ids meets a free one -/
theorem len_le_of_sub : ∀ (xs ys : List Int), xs.Nodup → (∀ x ∈ xs, x ∈ ys) → xs.length ≤ ys.length
  | [], _, _, _ => Nat.zero_le _
  | x :: r, ys, hn, hs => by
    have hx : x ∈ ys := hs x List.mem_cons_self
    have hn' := List.nodup_cons.mp hn
    have ih := len_le_of_sub r (ys.erase x) hn'.2 fun z hz => (List.mem_erase_of_ne (fun e => hn'.1 (by rw [← e]; exact hz))).mpr (hs z (List.mem_cons_of_mem _ hz))
    have hl := List.length_erase_of_mem hx
    have : 0 < ys.length := List.length_pos_of_mem hx
    show r.length + 1 ≤ ys.length
    omega
def nx (z : Int) (i : Nat) : Int := (z - 1 + (i : Int)) % 1000000 + 1
theorem nx_zero {z : Int} (h0 : 1 ≤ z) (h1 : z ≤ 1000000) : nx z 0 = z := by unfold nx; omega
theorem nx_succ {z : Int} {i : Nat} : nx z i % 1000000 + 1 = nx z (i + 1) := by unfold nx; omega
theorem nx_lo (z : Int) (i : Nat) : 1 ≤ nx z i := by unfold nx; omega
theorem nx_hi (z : Int) (i : Nat) : nx z i ≤ 1000000 := by unfold nx; omega
theorem nx_inj {z : Int} {i j : Nat} (hi : i < 1000) (hj : j < 1000) (h : nx z i = nx z j) : i = j := by unfold nx at h; omega
theorem nx_few {z : Int} {js : List Int} {t : Nat} (ht : t ≤ 500) (h : ∀ i, i < t → nx z i ∈ js) : t ≤ js.length := by
  have a : ((List.range t).map (nx z)).Nodup := by
    refine List.pairwise_map.mpr ?_
    refine List.Pairwise.imp_of_mem ?_ (List.pairwise_lt_range (n := t))
    intro i j hi hj l e
    have q := nx_inj (by have := List.mem_range.mp hi; omega) (by have := List.mem_range.mp hj; omega) e
    omega
  have b := len_le_of_sub _ js a (fun x hx => by
    obtain ⟨i, hi, rfl⟩ := List.mem_map.mp hx
    exact h i (List.mem_range.mp hi))
  rw [List.length_map, List.length_range] at b
  exact b
theorem eqV_int (i j : Int) : eqV (.int i) (.int j) = decide (i = j) := by
  first
    | rfl
    | simp [eqV]
theorem inV_int (z : Int) (js : List Int) : inV (.int z) (js.map V.int) = decide (z ∈ js) := by
  unfold inV
  rw [List.any_map]
  induction js with
  | nil => rfl
  | cons a r ih =>
    rw [List.any_cons, ih]
    show (eqV (.int a) (.int z) || decide (z ∈ r)) = decide (z ∈ a :: r)
    rw [eqV_int]
    by_cases e : a = z
    · subst e
      simp
    · have e' : ¬ z = a := fun q => e q.symm
      simp [e, e']
theorem all_flat (js : List Int) : (js.map V.int).all flatV = true := by
  induction js with
  | nil => rfl
  | cons a r ih => exact ih
/-! ### sets of ints -/
/-- S is the set of the ints ns, n their number -/
def SetIs (ns : List Int) (S : Int → Bool) (n : Nat) : Prop := (∀ k, S k = decide (k ∈ ns)) ∧ ∃ L : List Int, L.Nodup ∧ L.length = n ∧ ∀ k, k ∈ L ↔ k ∈ ns
theorem shorter : ∀ ns : List Int, ¬ ns.Nodup → ∃ ms : List Int, ms.length < ns.length ∧ ∀ k ∈ ns, k ∈ ms
  | [], h => absurd List.nodup_nil h
  | a :: r, h => by
    by_cases ha : a ∈ r
    · exact ⟨r, Nat.lt_succ_self _, fun k hk => by
        rcases List.mem_cons.mp hk with e | e
        · rw [e]; exact ha
        · exact e⟩
    · have hr : ¬ r.Nodup := fun q => h (List.nodup_cons.mpr ⟨ha, q⟩)
      obtain ⟨ms, h1, h2⟩ := shorter r hr
      exact ⟨a :: ms, Nat.succ_lt_succ h1, fun k hk => by
        rcases List.mem_cons.mp hk with e | e
        · rw [e]; exact List.mem_cons_self
        · exact List.mem_cons_of_mem _ (h2 k e)⟩
theorem SetIs.count {ns : List Int} {S : Int → Bool} {n : Nat} (h : SetIs ns S n) : ((n : Int) = (ns.length : Int)) ↔ ns.Nodup := by
  obtain ⟨_, L, h1, h2, h3⟩ := h
  have a := len_le_of_sub L ns h1 fun k hk => (h3 k).mp hk
  constructor
  · intro e
    by_cases hN : ns.Nodup
    · exact hN
    · obtain ⟨ms, m1, m2⟩ := shorter ns hN
      have b := len_le_of_sub L ms h1 fun k hk => m2 k ((h3 k).mp hk)
      omega
  · intro hN
    have b := len_le_of_sub ns L hN fun k hk => (h3 k).mpr hk
    omega
theorem firstMet_nodup (val : Nat → Int) : ∀ i, (firstMet val i).Nodup
  | 0 => by rw [firstMet_zero]; exact List.nodup_nil
  | i + 1 => by
    rw [firstMet_succ]
    unfold step_dedup
    have ih := firstMet_nodup val i
    split
    · exact ih
    · rename_i h
      refine List.nodup_append.mpr ⟨ih, by simp, ?_⟩
      intro a ha b hb e
      have : b = val i := by simpa using hb
      refine h (List.any_eq_true.mpr ⟨a, ha, ?_⟩)
      rw [e, this]
      simp
theorem getD_range (ns : List Int) : (List.range ns.length).map (fun i => ns.getD i 0) = ns := by
  apply List.ext_getElem
  · simp
  · intro i h1 h2
    simp [List.getD, h2]
theorem firstMet_mem (ns : List Int) (k : Int) : k ∈ firstMet (fun i => ns.getD i 0) ns.length ↔ k ∈ ns := by
  have h := firstMet_any (fun i => ns.getD i 0) ns.length k
  rw [getD_range] at h
  have e : ∀ l : List Int, (l.any (· == k) = true) ↔ k ∈ l := fun l => by
    rw [List.any_eq_true]
    constructor
    · rintro ⟨x, hx, q⟩
      have : x = k := by simpa using q
      rw [← this]; exact hx
    · intro hk
      exact ⟨k, hk, by simp⟩
  rw [← e, ← e, h]
def rSetI (K : PySem.W.Frag) : List V → Hp → VK → Prop := fun xs H Q => ∃ (p : Addr) (ns : List Int), xs = [.ref p] ∧ (SqL K H p (ns.map V.int) ∨ SqT K H p (ns.map V.int)) ∧ ns.length ≤ 4000 ∧
  ∀ (q : Addr) (S : Int → Bool) (n : Nat), H q = none → SetIs ns S n → n ≤ ns.length → Q (.ref q) (upd H q (.set S n))
section
variable {X : Cx}
theorem cr_setI (hc : X.calm = true) : CallR X (.type "set") (rSetI X.K) := by
  intro pins s σ H xs us Q I r h
  obtain ⟨p, ns, rfl, hq, hlen, k⟩ := h
  rw [Vals.ref1 r]
  have hs : scanBound = 4096 := rfl
  rcases hq with hq | hq
  · obtain ⟨its, rv, pl, hz⟩ := I.list hq
    have hl := rv.length
    rw [List.length_map] at hl
    refine call_set_list (I.ok.hd hc) pl.isList (ns := ns) (Vals.ints rv) (by rw [List.size_toArray, hs]; omega) fun h' tk R kk => ?_
    have esz : its.toArray.size = ns.length := by rw [List.size_toArray]; omega
    rw [esz] at R
    have hn := firstMet_mem ns
    have hset : SetIs ns (fun k' => (firstMet (fun i => ns.getD i 0) ns.length).any (· == k')) (firstMet (fun i => ns.getD i 0) ns.length).length := by
      refine ⟨fun k => ?_, _, firstMet_nodup _ _, rfl, hn⟩
      rw [Bool.eq_iff_iff, decide_eq_true_iff, ← hn k, List.any_eq_true]
      constructor
      · rintro ⟨x, hx, q⟩
        have : x = k := by simpa using q
        rw [← this]; exact hx
      · intro hk
        exact ⟨k, hk, by simp⟩
    have I' := I.laid (a := s.heap.objs.size) (o := .set _ _) (h' := h') (t' := tk) (fun b u e => kk b u (Heap.lt_size e) e) (Nat.le_refl _) R
    exact ⟨.ref _, _, I', rfl, k _ _ _ (I.hok.fresh (Nat.le_refl _)) hset (firstMet_length_le _ _)⟩
  · obtain ⟨its, rv, pl, hz⟩ := I.tuple hq
    have hl := rv.length
    rw [List.length_map] at hl
    refine call_set_tupI ns (I.ok.hd hc) pl (Vals.ints rv) (by rw [hs]; omega) fun h' tk c R hle kk => ?_
    have hset : SetIs ns (fun j => decide (j ∈ ns)) c := by
      obtain ⟨o, es, ep, t, h1, h2, h3, h4, h5, h6, h7, h8, h9, _⟩ := id R
      refine ⟨fun k => rfl, es.toList.map keyOf, h5, ?_, fun k => ?_⟩
      · rw [List.length_map, ← h9]; rfl
      · rw [← h6 k, decide_eq_true_iff]
    have I' := I.laid (a := s.heap.objs.size) (o := .set _ _) (h' := h') (t' := tk) (fun b u e => kk b u e) (Nat.le_refl _) (SetR.setOf R)
    exact ⟨.ref _, _, I', rfl, k _ _ _ (I.hok.fresh (Nat.le_refl _)) hset hle⟩
def rInSet (neg : Bool) : R2 := fun x y H Q => ∃ (k : Int) (a : Addr) (S : Int → Bool) (n : Nat), x = .int k ∧ y = .ref a ∧ H a = some (.set S n) ∧ Q (.bl (if neg then !S k else S k)) H
theorem op_inSet : OpR X (compareOp .In) (rInSet false) := by
  intro pins s σ H x y v u Q I rx ry h
  obtain ⟨k, a, S, n, rfl, rfl, ha, q⟩ := h
  cases ry
  obtain ⟨t, rfl⟩ := rx
  exact wpAny_inSet_of (knd := PySem.intKind X.prog X.w) (k := k) (by first | rfl | simp [PySem.intKind, Value.isInt]) rfl (I.hok a _ ha) ⟨.bl (S k), H, I.tok _, rfl, q⟩
theorem op_notInSet : OpR X (compareOp .NotIn) (rInSet true) := by
  intro pins s σ H x y v u Q I rx ry h
  obtain ⟨k, a, S, n, rfl, rfl, ha, q⟩ := h
  cases ry
  obtain ⟨t, rfl⟩ := rx
  exact wpAny_notInSet_of (knd := PySem.intKind X.prog X.w) (k := k) (by first | rfl | simp [PySem.intKind, Value.isInt]) rfl (I.hok a _ ha) ⟨.bl (!S k), H, I.tok _, rfl, q⟩
theorem call_lenSet : CallR X (.builtin "len") (fun xs H Q => ∃ a S n, xs = [.ref a] ∧ H a = some (.set S n) ∧ Q (.int n) H) := by
  intro pins s σ H xs us Q I r h
  obtain ⟨a, S, n, rfl, ha, q⟩ := h
  rw [Vals.ref1 r]
  obtain ⟨o, es, ep, t, h1, h2, h3, h4, h5, h6, h7, h8⟩ := I.hok a _ ha
  have hs : scanBound = 4096 := rfl
  refine call_len_set h1 h2 h3 h7 (by omega) ?_
  rw [h8]
  exact ⟨.int n, H, (I.tok (s.toks + 1 + 1)), ⟨_, rfl⟩, q⟩
end
/-! ### data in the heap: flat things, lists, tuples, the empty dict -/
mutual
inductive DV (K : PySem.W.Frag) (H : Hp) : V → PyData → Prop
  | non : DV K H .non .none
  | bl (b : Bool) : DV K H (.bl b) (.bool b)
  | int (i : Int) : DV K H (.int i) (.int i)
  | str (x : Str) : DV K H (.str x) (.str x)
  | lst {a : Addr} {xs : List V} {ds : List PyData} : SqL K H a xs → DVs K H xs ds → DV K H (.ref a) (.list ds)
  | tup {a : Addr} {xs : List V} {ds : List PyData} : SqT K H a xs → DVs K H xs ds → DV K H (.ref a) (.tuple ds)
  | dk0 {a : Addr} : H a = some (.dK []) → DV K H (.ref a) (.dict [])
inductive DVs (K : PySem.W.Frag) (H : Hp) : List V → List PyData → Prop
  | nil : DVs K H [] []
  | cons {v : V} {vs : List V} {d : PyData} {ds : List PyData} : DV K H v d → DVs K H vs ds → DVs K H (v :: vs) (d :: ds)
end
section
variable {K : PySem.W.Frag} {H H' : Hp}
theorem DVs.length {vs : List V} {ds : List PyData} (h : DVs K H vs ds) : vs.length = ds.length := by
  induction vs generalizing ds with
  | nil => cases h; rfl
  | cons v r ih => cases h with | cons _ t => exact congrArg Nat.succ (ih t)
theorem DVs.at {vs : List V} {ds : List PyData} (h : DVs K H vs ds) : ∀ {i : Nat} {v : V}, vs[i]? = some v → ∃ d, ds[i]? = some d ∧ DV K H v d := by
  induction vs generalizing ds with
  | nil => intro i v e; simp at e
  | cons v r ih =>
    cases h with
    | cons p t =>
      intro i u e
      cases i with
      | zero => simp at e; subst e; exact ⟨_, rfl, p⟩
      | succ i => simp at e; obtain ⟨d, h1, h2⟩ := ih t e; exact ⟨d, by simpa using h1, h2⟩
theorem Same.sq {a : Addr} {xs : List V} (e : Same H H') (h : SqL K H a xs) : SqL K H' a xs := e.seq h
theorem Same.tq {a : Addr} {xs : List V} (e : Same H H') (h : SqT K H a xs) : SqT K H' a xs := by
  rcases h with (h | ⟨o, h⟩) | h
  · exact .inl (.inl (e _ _ h))
  · exact .inl (.inr ⟨o, e _ _ h⟩)
  · exact .inr h
mutual
theorem DV.same (e : Same H H') : ∀ {d : PyData} {v : V}, DV K H v d → DV K H' v d
  | _, _, .non => .non
  | _, _, .bl b => .bl b
  | _, _, .int i => .int i
  | _, _, .str x => .str x
  | _, _, .lst h t => .lst (Same.sq e h) (DVs.same e t)
  | _, _, .tup h t => .tup (Same.tq e h) (DVs.same e t)
  | _, _, .dk0 h => .dk0 (e _ _ h)
theorem DVs.same (e : Same H H') : ∀ {ds : List PyData} {vs : List V}, DVs K H vs ds → DVs K H' vs ds
  | _, _, .nil => .nil
  | _, _, .cons p t => .cons (DV.same e p) (DVs.same e t)
end
/-- a value's built-in type by its name -/
def TyD (K : PySem.W.Frag) (H : Hp) (x : V) : Prop := ∃ nm : String, TyX K H x (.type nm) ∧ ((nm = "NoneType" ∧ x = .non) ∨ (nm = "bool" ∧ ∃ b, x = .bl b) ∨ (nm = "int" ∧ ∃ i, x = .int i) ∨ (nm = "str" ∧ ∃ z, x = .str z) ∨
  (nm = "list" ∧ ∃ a, x = .ref a) ∨ (nm = "tuple" ∧ ∃ a, x = .ref a) ∨ (nm = "dict" ∧ ∃ a, x = .ref a))
theorem tyL {a : Addr} {xs : List V} (h : SqL K H a xs) : TyX K H (.ref a) (.type "list") := by
  rcases h with (h | ⟨o, h⟩) | ⟨o, _, _, h, c, _⟩
  · exact .base (.lst h)
  · exact .base (.frz h)
  · exact .kList h c
theorem tyT {a : Addr} {xs : List V} (h : SqT K H a xs) : TyX K H (.ref a) (.type "tuple") := by
  rcases h with (h | ⟨o, h⟩) | ⟨o, _, _, h, c, _⟩
  · exact .base (.tup h)
  · exact .fTuple h
  · exact .kTuple h c
theorem DV.ty {v : V} {d : PyData} (h : DV K H v d) : TyD K H v := by
  cases h with
  | non => exact ⟨_, .base .non, .inl ⟨rfl, rfl⟩⟩
  | bl b => exact ⟨_, .base (.bl b), .inr (.inl ⟨rfl, b, rfl⟩)⟩
  | int i => exact ⟨_, .base (.int i), .inr (.inr (.inl ⟨rfl, i, rfl⟩))⟩
  | str x => exact ⟨_, .base (.str x), .inr (.inr (.inr (.inl ⟨rfl, x, rfl⟩)))⟩
  | lst h t => exact ⟨_, tyL h, .inr (.inr (.inr (.inr (.inl ⟨rfl, _, rfl⟩))))⟩
  | tup h t => exact ⟨_, tyT h, .inr (.inr (.inr (.inr (.inr (.inl ⟨rfl, _, rfl⟩)))))⟩
  | dk0 h => exact ⟨_, .base (.dK h), .inr (.inr (.inr (.inr (.inr (.inr ⟨rfl, _, rfl⟩)))))⟩
end
def wholeV : V → Bool
  | .int _ => true
  | _ => false
def wholeD : PyData → Bool
  | .int _ => true
  | _ => false
theorem DV.whole {K : PySem.W.Frag} {H : Hp} {v : V} {d : PyData} (h : DV K H v d) : wholeV v = wholeD d := by cases h <;> rfl
structure TxtV (mg : Str → Option Value) : Prop where
  len : mg "len" = none
  isi : mg "isinstance" = none
  int : mg "int" = none
  bool : mg "bool" = none
  tuple : mg "tuple" = none
  set : mg "set" = none
  all : mg "all" = none
  list : mg "list" = none
section
variable {P : Program} {w : World} {K : PySem.W.Frag} {mg : Str → Option Value} {base : Heap}
/-! ### is_whole -/
def spWhole (K : PySem.W.Frag) : Sp := fun vs H Q _ => ∃ x : V, vs = [x] ∧ TyD K H x ∧ Q (.bl (wholeV x)) H
theorem scWhole : FnScope ["value"] ["value"] (defScope sWhole) := ⟨rfl, rfl, rfl, by decide +kernel, rfl, by decide +kernel, by decide +kernel⟩
theorem ok_whole {f : Addr} {fd : FuncData} (F : Fun K "is_whole" "is_whole" sWhole f fd) (T : TxtV mg) : FnOk P w K mg base CX0 1 f fd ["value"] (spWhole K) := by
  refine F.ok scWhole (fun vs H Q E h => ?_) (fun cdv A outer s H vs Q E hr h => ?_)
  · obtain ⟨x, rfl, _⟩ := h
    rfl
  · obtain ⟨x, rfl, ⟨nm, ty, hn⟩, k⟩ := h
    refine ⟨_, pss_one (ps_ret (pe_and (pe_callB call_isi (by rfl) T.isi (by decide +kernel) (pa_cons (pv 0) (pa_cons (pe_bltn (v := .ty "int") (by rfl) T.int boot_int rfl) pa_nil)))
      (pe_one (pe_not (pe_callB call_isi (by rfl) T.isi (by decide +kernel) (pa_cons (pv 0) (pa_cons (pe_bltn (v := .ty "bool") (by rfl) T.bool boot_bool rfl) pa_nil))))))), ?_⟩
    refine ⟨_, rfl, ?_⟩
    rcases hn with ⟨rfl, rfl⟩ | ⟨rfl, b, rfl⟩ | ⟨rfl, i, rfl⟩ | ⟨rfl, z, rfl⟩ | ⟨rfl, a, rfl⟩ | ⟨rfl, a, rfl⟩ | ⟨rfl, a, rfl⟩
    · exact ⟨_, _, _, _, false, rfl, .ty _, ty, kit_ty (by decide +kernel), _, rfl, iteF k⟩
    · exact ⟨_, _, _, _, true, rfl, .ty _, ty, kit_ty (by decide +kernel), _, rfl, iteT ⟨_, rfl, _, _, _, _, true, rfl, .ty _, ty, kit_ty (by decide +kernel), _, rfl, k⟩⟩
    · exact ⟨_, _, _, _, true, rfl, .ty _, ty, kit_ty (by decide +kernel), _, rfl, iteT ⟨_, rfl, _, _, _, _, false, rfl, .ty _, ty, kit_ty (by decide +kernel), _, rfl, k⟩⟩
    · exact ⟨_, _, _, _, false, rfl, .ty _, ty, kit_ty (by decide +kernel), _, rfl, iteF k⟩
    · exact ⟨_, _, _, _, false, rfl, .ty _, ty, kit_ty (by decide +kernel), _, rfl, iteF k⟩
    · exact ⟨_, _, _, _, false, rfl, .ty _, ty, kit_ty (by decide +kernel), _, rfl, iteF k⟩
    · exact ⟨_, _, _, _, false, rfl, .ty _, ty, kit_ty (by decide +kernel), _, rfl, iteF k⟩
/-! ### all_different -/
def spDiff (K : PySem.W.Frag) : Sp := fun vs H Q _ => ∃ (p : Addr) (ns : List Int), vs = [.ref p] ∧ (SqL K H p (ns.map V.int) ∨ SqT K H p (ns.map V.int)) ∧ ns.length ≤ 4000 ∧ ∀ H', Same H H' → Q (.bl (decide ns.Nodup)) H'
theorem scDiff : FnScope ["numbers"] ["numbers"] (defScope sDiff) := ⟨rfl, rfl, rfl, by decide +kernel, rfl, by decide +kernel, by decide +kernel⟩
theorem ok_diff {f : Addr} {fd : FuncData} (F : Fun K "all_different" "all_different" sDiff f fd) (T : TxtV mg) : FnOk P w K mg base CX0 1 f fd ["numbers"] (spDiff K) := by
  refine F.ok scDiff (fun vs H Q E h => ?_) (fun cdv A outer s H vs Q E hr h => ?_)
  · obtain ⟨p, ns, rfl, _⟩ := h
    rfl
  · obtain ⟨p, ns, rfl, hS, hlen, k⟩ := h
    refine ⟨_, pss_one (ps_ret (pe_cmpR op_eq (pe_callB call_lenSet (by rfl) T.len PySem.boot_len (pa_cons (pe_callTy (cr_setI rfl) (by rfl) T.set (by decide +kernel) (pa_cons (pv 0) pa_nil)) pa_nil))
      (pe_callB call_len_seq (by rfl) T.len PySem.boot_len (pa_cons (pv 0) pa_nil)) (nomark _))), ?_⟩
    refine ⟨_, rfl, p, ns, rfl, hS, hlen, fun q S n hq hI hn => ?_⟩
    have e : Same H (upd H q (.set S n)) := Same.new hq
    refine ⟨q, S, n, rfl, upd_same, _, rfl, p, _, rfl, hS.imp (Same.sq e) (Same.tq e), rfl, ?_⟩
    have c := hI.count
    have r : decide (V.int (n : Int) = V.int ((ns.map V.int).length : Int)) = decide ns.Nodup := by
      rw [dec_int, List.length_map]
      by_cases hN : ns.Nodup
      · rw [decide_eq_true hN, c.mpr hN]; simp
      · rw [decide_eq_false hN]
        have : ¬ ((n : Int) = (ns.length : Int)) := fun q => hN (c.mp q)
        simpa using this
    show Q (V.bl (decide (V.int (n : Int) = V.int ((ns.map V.int).length : Int)))) _
    rw [r]
    exact k _ e
end
def isTup : PyData → Bool
  | .tuple _ => true
  | _ => false
def isLst : PyData → Bool
  | .list _ => true
  | _ => false
theorem kb1 : kitB "NoneType" "tuple" = some false := by decide +kernel
theorem kb2 : kitB "NoneType" "list" = some false := by decide +kernel
theorem kb3 : kitB "bool" "tuple" = some false := by decide +kernel
theorem kb4 : kitB "bool" "list" = some false := by decide +kernel
theorem kb5 : kitB "int" "tuple" = some false := by decide +kernel
theorem kb6 : kitB "int" "list" = some false := by decide +kernel
theorem kb7 : kitB "str" "tuple" = some false := by decide +kernel
theorem kb8 : kitB "str" "list" = some false := by decide +kernel
theorem kb9 : kitB "list" "tuple" = some false := by decide +kernel
theorem kb10 : kitB "list" "list" = some true := by decide +kernel
theorem kb11 : kitB "tuple" "tuple" = some true := by decide +kernel
theorem kb12 : kitB "tuple" "list" = some false := by decide +kernel
theorem kb13 : kitB "dict" "tuple" = some false := by decide +kernel
theorem kb14 : kitB "dict" "list" = some false := by decide +kernel
theorem DV.kit {K : PySem.W.Frag} {H : Hp} {v : V} {d : PyData} (h : DV K H v d) : ∃ nm : String, TyX K H v (.type nm) ∧ PySem.W.kitOne K (.type nm) (.type "tuple") = some (isTup d) ∧ PySem.W.kitOne K (.type nm) (.type "list") = some (isLst d) := by
  cases h with
  | non => exact ⟨_, .base .non, kit_ty kb1, kit_ty kb2⟩
  | bl b => exact ⟨_, .base (.bl b), kit_ty kb3, kit_ty kb4⟩
  | int i => exact ⟨_, .base (.int i), kit_ty kb5, kit_ty kb6⟩
  | str x => exact ⟨_, .base (.str x), kit_ty kb7, kit_ty kb8⟩
  | lst h t => exact ⟨_, tyL h, kit_ty kb9, kit_ty kb10⟩
  | tup h t => exact ⟨_, tyT h, kit_ty kb11, kit_ty kb12⟩
  | dk0 h => exact ⟨_, .base (.dK h), kit_ty kb13, kit_ty kb14⟩
/-! ### the plain functions -/
def intOf : PyData → Int
  | .int i => i
  | _ => 0
theorem whole_all {K : PySem.W.Frag} {H : Hp} : ∀ {ds : List PyData} {vs : List V}, DVs K H vs ds → ds.all wholeD = true → vs = (ds.map intOf).map V.int
  | _, _, .nil, _ => rfl
  | d :: ds, v :: vs, .cons p t, h => by
    rw [List.all_cons, Bool.and_eq_true] at h
    rw [List.map_cons, List.map_cons, ← whole_all t h.2]
    cases p <;> first | rfl | (exact absurd h.1 (by intro q; cases q))
theorem DVs.wholes {K : PySem.W.Frag} {H : Hp} {ds : List PyData} {vs : List V} (h : DVs K H vs ds) {i : Nat} {v : V} (e : vs[i]? = some v) : ∃ d, ds[i]? = some d ∧ wholeV v = wholeD d ∧ TyD K H v := by
  obtain ⟨d, h1, h2⟩ := h.at e
  exact ⟨d, h1, h2.whole, h2.ty⟩
theorem take_snoc {α : Type} {l : List α} {i : Nat} {x : α} (h : l[i]? = some x) : l.take (i + 1) = l.take i ++ [x] := by
  rw [List.take_succ, h]; rfl
theorem lt_of_some {α : Type} {l : List α} {i : Nat} {x : α} (h : l[i]? = some x) : i < l.length := (List.getElem?_eq_some_iff.mp h).1
theorem cut_to (xs : List V) (k : Nat) : cutV xs none (some (k : Int)) = xs.take k := by
  unfold cutV
  rw [HT.sIx_none, HT.sIx_nat, List.drop_zero, Nat.sub_zero]
  rcases Nat.le_total k xs.length with h | h
  · rw [Nat.min_eq_left h]
  · rw [Nat.min_eq_right h, List.take_length, List.take_of_length_le h]
theorem cut_from (xs : List V) (k : Nat) : cutV xs (some (k : Int)) none = xs.drop k := by
  unfold cutV
  rw [HT.sIx_none, HT.sIx_nat]
  rcases Nat.le_total k xs.length with h | h
  · rw [Nat.min_eq_left h, ← List.length_drop, List.take_length]
  · rw [Nat.min_eq_right h, Nat.sub_self, List.take_zero, List.drop_of_length_le h]
def areIdsL (js : List Int) (ds : List PyData) : Bool := !ds.isEmpty && ds.all wholeD && (ds.map intOf).all (fun k => decide (k ∈ js)) && decide (ds.map intOf).Nodup
def areIds (js : List Int) : PyData → Bool
  | .tuple ds => areIdsL js ds
  | _ => false
/-- not too long, and if all are ints few -/
def fewD (ds : List PyData) : Prop := ds.length ≤ 1000000 ∧ (ds.all wholeD = true → ds.length ≤ 4000)
theorem fewD.of {ds : List PyData} (h : ds.length ≤ 4000) : fewD ds := ⟨by omega, fun _ => h⟩
section
variable {P : Program} {w : World} {K : PySem.W.Frag} {mg : Str → Option Value} {base : Heap}
def spAreIds (K : PySem.W.Frag) : Sp := fun vs H Q _ => ∃ (o : Addr) (js : List Int) (v : V) (d : PyData), vs = [.ref o, v] ∧ SqL K H o (js.map V.int) ∧ js.length ≤ 4000 ∧ DV K H v d ∧ (∀ ds, d = .tuple ds → fewD ds) ∧
  ∀ H', Same H H' → Q (.bl (areIds js d)) H'
theorem scAreIds : FnScope ["order", "value", "known", "row_id"] ["order", "value"] (defScope sAreIds) := ⟨rfl, rfl, rfl, by decide +kernel, rfl, by decide +kernel, by decide +kernel⟩
theorem ok_areIds {f fW fD : Addr} {fd fdW fdD : FuncData} (F : Fun K "are_ids_of" "are_ids_of" sAreIds f fd) (T : TxtV mg) (FW : Fun K "is_whole" "is_whole" sWhole fW fdW) (bW : Binds K fdW ["value"] []) (mW : mg "is_whole" = some (.ref fW))
    (FD : Fun K "all_different" "all_different" sDiff fD fdD) (bD : Binds K fdD ["numbers"] []) (mD : mg "all_different" = some (.ref fD)) : FnOk P w K mg base CX0 2 f fd ["order", "value"] (spAreIds K) := by
  have GW : FnOk P w K mg base CX0 1 fW fdW ["value"] (spWhole K) := ok_whole FW T
  have GD : FnOk P w K mg base CX0 1 fD fdD ["numbers"] (spDiff K) := ok_diff FD T
  refine F.ok scAreIds (fun vs H Q E h => ?_) (fun cdv A outer s H vs Q E hr h => ?_)
  · obtain ⟨o, js, v, d, rfl, _⟩ := h
    rfl
  · obtain ⟨o, js, v, d, rfl, hO, hj, hd, hdl, k⟩ := h
    refine ⟨_, pss_cons (ps_if (PW.pt (pw_or (pt_not (pt_val (pe_callB call_isi (by rfl) T.isi (by decide +kernel) (pa_cons (pv 1) (pa_cons (pe_bltn (v := .ty "tuple") (by rfl) T.tuple boot_tuple rfl) pa_nil)))))
          (pw_or1 (pt_cmpR op_eq (pe_callB call_len_seq (by rfl) T.len PySem.boot_len (pa_cons (pv 1) pa_nil)) pe_int (nomark _))))) (pss_one (ps_ret pe_bl)) pss_nil)
      (pss_cons (ps_if (pt_not (pt_val (pe_callB (cr_all rfl) (by rfl) T.all (by decide +kernel) (pa_cons
          (pe_lc (own := [("row_id", 3)]) (g := gName 3) rfl scAreIds.nd (pi_tup (pv 1)) (blkOk_by (N := ["order", "value", "known", "row_id"]) (sc := defScope sAreIds) (by decide +kernel)) (fun _ _ _ _ _ => pg_name (i := 3) scAreIds.nd rfl (Or.inl rfl)) (fun _ _ _ _ _ => pts_nil)
            (fun _ _ _ _ _ => pe_call GW hr rfl mW FW.kp bW .nil pass0 (pa_cons (pv 3) pa_nil))) pa_nil)))) (pss_one (ps_ret pe_bl)) pss_nil)
      (pss_cons (ps_set (i := 2) scAreIds.nd rfl (Or.inr rfl) (pe_callTy (cr_setI rfl) (by rfl) T.set (by decide +kernel) (pa_cons (pv 0) pa_nil)))
      (pss_one (ps_ret (pe_and (pe_callB (cr_all rfl) (by rfl) T.all (by decide +kernel) (pa_cons
          (pe_lc (own := [("row_id", 3)]) (g := gName 3) rfl scAreIds.nd (pi_tup (pv 1)) (blkOk_by (N := ["order", "value", "known", "row_id"]) (sc := defScope sAreIds) (by decide +kernel)) (fun _ _ _ _ _ => pg_name (i := 3) scAreIds.nd rfl (Or.inl rfl)) (fun _ _ _ _ _ => pts_nil)
            (fun _ _ _ _ _ => pe_cmpR op_inSet (pv 3) (pv 2) (by rfl))) pa_nil)) (pe_one (pe_call GD hr rfl mD FD.kp bD .nil pass0 (pa_cons (pv 1) pa_nil)))))))), ?_⟩
    obtain ⟨nm, ty, k1, k2⟩ := hd.kit
    refine ⟨_, rfl, _, _, _, _, _, rfl, .ty _, ty, k1, _, rfl, ?_⟩
    cases hd with
    | tup hT hs =>
      rename_i a vs ds
      refine iteF ?_
      refine ⟨_, rfl, a, _, rfl, .inr hT, rfl, _, rfl, ?_⟩
      have hl := hs.length
      obtain ⟨hdl1, hdl2⟩ := hdl ds rfl
      by_cases h0 : ds = []
      · subst h0
        have : vs = [] := List.length_eq_zero_iff.mp hl
        subst this
        exact iteT (k H (Same.refl H))
      have hz : decide (V.int ((vs.length : Nat) : Int) = V.int 0) = false := by
        rw [dec_int]
        have : 0 < ds.length := List.length_pos_iff.mpr h0
        have : ¬ (((vs.length : Nat) : Int) = 0) := by omega
        simpa using this
      rw [hz]
      refine iteF ?_
      -- all([is_whole(row_id) for row_id in value])
      refine ⟨_, rfl, a, rfl, ⟨_, hT⟩, fun D hD => ?_⟩
      refine lc_tup (K := K) (a := a) (xs := vs) (fun i H' => Same H H' ∧ H' D = some (.lst ((ds.take i).map fun d => V.bl (wholeD d)))) ⟨Same.new hD, upd_same⟩ (fun i H' _ q => Same.tq q.1 hT) ?_ ?_
      · rintro i x H' hx ⟨s1, hL⟩
        obtain ⟨d, hd, hw, hty⟩ := hs.wholes hx
        refine ⟨rfl, ?_⟩
        obtain ⟨e, he, hv⟩ := hs.at hx
        refine ⟨_, rfl, x, rfl, (hv.same s1).ty, ?_⟩
        refine ⟨_, hL, ?_, ?_, ?_⟩
        · rw [List.length_map, List.length_take]
          rw [sizeLine_eq]; omega
        · intro b u hb
          rw [upd_ne (ne_of_none hb hD)]
          exact s1 b u hb
        · rw [upd_same, take_snoc hd, List.map_append]
          show some (HO.lst (_ ++ [V.bl (wholeV x)])) = some (HO.lst (_ ++ [V.bl (wholeD d)]))
          rw [hw]
      · rintro H1 ⟨s1, hL⟩
        rw [hl, List.take_length] at hL
        refine ⟨D, ds.map wholeD, rfl, SqL.of (by rw [List.map_map]; exact hL), _, rfl, ?_⟩
        have eall : (ds.map wholeD).all id = ds.all wholeD := by rw [List.all_map]; rfl
        rw [eall]
        cases hA : ds.all wholeD with
        | false =>
          refine iteT ?_
          have e : areIds js (.tuple ds) = false := by
            show areIdsL js ds = false
            unfold areIdsL
            rw [hA]
            simp
          have := k H1 s1
          rw [e] at this
          exact this
        | true =>
          refine iteF ?_
          have ev := whole_all hs hA
          have lenN : (ds.map intOf).length ≤ 4000 := by rw [List.length_map]; exact hdl2 hA
          -- known = set(order)
          refine ⟨_, rfl, o, js, rfl, .inl (Same.sq s1 hO), hj, fun q S n hq hS hn => ?_⟩
          have s2 : Same H (upd H1 q (.set S n)) := s1.trans (Same.new hq)
          refine ⟨_, rfl, a, rfl, ⟨_, Same.tq s2 hT⟩, fun D2 hD2 => ?_⟩
          refine lc_tup (K := K) (a := a) (xs := vs) (fun i H' => Same (upd H1 q (.set S n)) H' ∧ H' D2 = some (.lst (((ds.map intOf).take i).map fun z => V.bl (decide (z ∈ js))))) ⟨Same.new hD2, upd_same⟩ (fun i H' _ q => Same.tq (s2.trans q.1) hT) ?_ ?_
          · rintro i x H' hx ⟨s3, hL3⟩
            rw [ev, List.getElem?_map] at hx
            obtain ⟨z, hz2, rfl⟩ : ∃ z, (ds.map intOf)[i]? = some z ∧ x = V.int z := by
              cases hq2 : (ds.map intOf)[i]? with
              | none => rw [hq2] at hx; cases hx
              | some z => rw [hq2] at hx; exact ⟨z, rfl, (Option.some.inj hx).symm⟩
            refine ⟨rfl, ?_⟩
            refine ⟨_, rfl, _, rfl, z, q, S, n, rfl, rfl, s3 _ _ upd_same, ?_⟩
            refine ⟨_, hL3, ?_, ?_, ?_⟩
            · rw [List.length_map, List.length_take]
              rw [sizeLine_eq]; omega
            · intro b u hb
              rw [upd_ne (ne_of_none hb hD2)]
              exact s3 b u hb
            · rw [upd_same, take_snoc hz2, List.map_append]
              show some (HO.lst (_ ++ [V.bl (S z)])) = some (HO.lst (_ ++ [V.bl (decide (z ∈ js))]))
              rw [hS.1 z]
          · rintro H3 ⟨s3, hL3⟩
            have hv2 : vs.length = (ds.map intOf).length := by rw [List.length_map]; exact hl
            rw [hv2, List.take_length] at hL3
            have s4 : Same H H3 := s2.trans s3
            refine ⟨D2, (ds.map intOf).map fun z => decide (z ∈ js), rfl, SqL.of (by rw [List.map_map]; exact hL3), _, rfl, ?_⟩
            have eall2 : ((ds.map intOf).map fun z => decide (z ∈ js)).all id = (ds.map intOf).all fun z => decide (z ∈ js) := by rw [List.all_map]; rfl
            rw [eall2]
            have e0 : ds.isEmpty = false := by cases ds with | nil => exact absurd rfl h0 | cons _ _ => rfl
            have e : areIds js (.tuple ds) = ((ds.map intOf).all (fun z => decide (z ∈ js)) && decide (ds.map intOf).Nodup) := by
              show areIdsL js ds = _
              unfold areIdsL
              rw [hA, e0]
              simp
            cases hB : (ds.map intOf).all fun z => decide (z ∈ js) with
            | false =>
              refine iteF ?_
              have := k H3 s4
              rw [e, hB] at this
              exact this
            | true =>
              refine iteT ?_
              refine ⟨_, rfl, a, ds.map intOf, rfl, .inr (by rw [← ev]; exact Same.tq s4 hT), lenN, fun H5 s5 => ?_⟩
              have := k H5 (s4.trans s5)
              rw [e, hB] at this
              exact this
    | _ => exact iteT (k H (Same.refl H))
end
/-! ### moves, plainly -/
def idsOf : PyData → List Int
  | .tuple ds => ds.map intOf
  | _ => []
def isMove2 (js : List Int) (i b : PyData) : Bool := areIds js i && wholeD b && (decide (intOf b = 0) || (decide (intOf b ∈ js) && !decide (intOf b ∈ idsOf i)))
def isMove (js : List Int) : PyData → Bool
  | .tuple [i, b] => isMove2 js i b
  | _ => false
/-- the order behind a move -/
def doMove (js ks : List Int) (b : Int) : List Int :=
  ((js.filter fun k => decide (k ∉ ks)).take (if b = 0 then 0 else (js.filter fun k => decide (k ∉ ks)).idxOf b + 1)) ++ ks ++ ((js.filter fun k => decide (k ∉ ks)).drop (if b = 0 then 0 else (js.filter fun k => decide (k ∉ ks)).idxOf b + 1))
theorem idx_at {js : List Int} {b : Int} (h : b ∈ js) : js[js.idxOf b]? = some b := by
  have := List.idxOf_lt_length_of_mem h
  rw [List.getElem?_eq_getElem this]
  exact congrArg some (List.getElem_idxOf this)
theorem idx_first {js : List Int} {b : Int} : ∀ {m : Nat} {z : Int}, m < js.idxOf b → js[m]? = some z → ¬ z = b := by
  induction js with
  | nil => intro m z h e; simp at e
  | cons a r ih =>
    intro m z h e
    by_cases hab : a = b
    · subst hab
      simp at h
    · have hb : (a == b) = false := by simpa using hab
      rw [List.idxOf_cons, hb, cond_false] at h
      cases m with
      | zero => simp at e; rw [← e]; exact hab
      | succ m => simp at e; exact ih (by omega) e
section
variable {P : Program} {w : World} {K : PySem.W.Frag} {mg : Str → Option Value} {base : Heap}
def spIsMove (K : PySem.W.Frag) : Sp := fun vs H Q _ => ∃ (o : Addr) (js : List Int) (v : V) (d : PyData), vs = [.ref o, v] ∧ SqL K H o (js.map V.int) ∧ js.length ≤ 4000 ∧ DV K H v d ∧ (∀ ds b, d = .tuple [.tuple ds, b] → fewD ds) ∧
  ∀ H', Same H H' → Q (.bl (isMove js d)) H'
theorem scIsMove : FnScope ["order", "value", "ids", "behind"] ["order", "value"] (defScope sIsMove) := ⟨rfl, rfl, rfl, by decide +kernel, rfl, by decide +kernel, by decide +kernel⟩
theorem ok_isMove {f fA fW fD : Addr} {fd fdA fdW fdD : FuncData} (F : Fun K "is_move" "is_move" sIsMove f fd) (T : TxtV mg) (FW : Fun K "is_whole" "is_whole" sWhole fW fdW) (bW : Binds K fdW ["value"] []) (mW : mg "is_whole" = some (.ref fW))
    (FD : Fun K "all_different" "all_different" sDiff fD fdD) (bD : Binds K fdD ["numbers"] []) (mD : mg "all_different" = some (.ref fD))
    (FA : Fun K "are_ids_of" "are_ids_of" sAreIds fA fdA) (bA : Binds K fdA ["order", "value"] []) (mA : mg "are_ids_of" = some (.ref fA)) : FnOk P w K mg base CX0 3 f fd ["order", "value"] (spIsMove K) := by
  have GW : FnOk P w K mg base CX0 1 fW fdW ["value"] (spWhole K) := ok_whole FW T
  have GA : FnOk P w K mg base CX0 2 fA fdA ["order", "value"] (spAreIds K) := ok_areIds FA T FW bW mW FD bD mD
  refine F.ok scIsMove (fun vs H Q E h => ?_) (fun cdv A outer s H vs Q E hr h => ?_)
  · obtain ⟨o, js, v, d, rfl, _⟩ := h
    rfl
  · obtain ⟨o, js, v, d, rfl, hO, hj, hd, hdl, k⟩ := h
    have hr1 : Room 1 _ := hr.mono (by decide)
    refine ⟨_, pss_cons (ps_if (PW.pt (pw_or (pt_not (pt_val (pe_callB call_isi (by rfl) T.isi (by decide +kernel) (pa_cons (pv 1) (pa_cons (pe_bltn (v := .ty "tuple") (by rfl) T.tuple boot_tuple rfl) pa_nil)))))
          (pw_or1 (pt_cmpR op_ne (pe_callB call_len_seq (by rfl) T.len PySem.boot_len (pa_cons (pv 1) pa_nil)) pe_int (nomark _))))) (pss_one (ps_ret pe_bl)) pss_nil)
      (pss_cons (ps_asg (pv 1) (pg_tup (by rfl) (pgs_cons (pg_name (i := 2) scIsMove.nd rfl (Or.inl rfl)) (pgs_cons (pg_name (i := 3) scIsMove.nd rfl (Or.inl rfl)) pgs_nil))))
      (pss_cons (ps_if (PW.pt (pw_or (pt_not (pt_val (pe_call GA hr rfl mA FA.kp bA .nil pass0 (pa_cons (pv 0) (pa_cons (pv 2) pa_nil))))) (pw_or1 (pt_not (pt_val (pe_call GW hr1 rfl mW FW.kp bW .nil pass0 (pa_cons (pv 3) pa_nil))))))) (pss_one (ps_ret pe_bl)) pss_nil)
      (pss_one (ps_ret (pe_or (pe_cmpR op_eq (pv 3) pe_int (nomark _)) (pe_one (pe_and (pe_cmpR op_in_seq (pv 3) (pv 0) (by rfl)) (pe_one (pe_cmpR op_notIn_seq (pv 3) (pv 2) (by rfl)))))))))), ?_⟩
    obtain ⟨nm, ty, k1, k2⟩ := hd.kit
    refine ⟨_, rfl, _, _, _, _, _, rfl, .ty _, ty, k1, _, rfl, ?_⟩
    have no : isMove js d = false → Q (.bl false) H := fun e => by
      have := k H (Same.refl H)
      rw [e] at this
      exact this
    cases hd with
    | tup hT hs =>
      rename_i a vs ds
      refine iteF ?_
      refine ⟨_, rfl, a, _, rfl, .inr hT, rfl, _, rfl, ?_⟩
      have hl := hs.length
      by_cases h2 : ds.length = 2
      · obtain ⟨di, db, rfl⟩ : ∃ di db, ds = [di, db] := match ds, h2 with | [x, y], _ => ⟨x, y, rfl⟩
        cases hs with
        | cons pi t =>
          cases t with
          | cons pb t2 =>
            cases t2
            rename_i vi vb
            have hz : (!decide (V.int (([vi, vb].length : Nat) : Int) = V.int 2)) = false := rfl
            rw [hz]
            refine iteF ?_
            refine ⟨_, rfl, a, _, rfl, hT, rfl, vi, [vb], rfl, vb, [], rfl, rfl, ?_⟩
            refine ⟨_, rfl, _, rfl, o, js, vi, di, rfl, hO, hj, pi, (fun ds e => hdl ds db (by rw [e])), fun H1 s1 => ⟨_, rfl, ?_⟩⟩
            have kk : ∀ H', Same H H' → Q (.bl (isMove2 js di db)) H' := k
            cases hA : areIds js di with
            | false =>
              have := kk H1 s1
              unfold isMove2 at this
              rw [hA] at this
              exact iteT this
            | true =>
              refine iteF ?_
              refine ⟨_, rfl, vb, rfl, (pb.same s1).ty, _, rfl, ?_⟩
              rw [pb.whole]
              cases hB : wholeD db with
              | false =>
                have := kk H1 s1
                unfold isMove2 at this
                rw [hA, hB] at this
                exact iteT this
              | true =>
                refine iteF ?_
                obtain ⟨b, rfl⟩ : ∃ b, db = .int b := by cases db <;> first | exact ⟨_, rfl⟩ | cases hB
                cases pb
                have fin := kk H1 s1
                have e2 : isMove2 js di (.int b) = (areIds js di && true && (decide (b = 0) || (decide (b ∈ js) && !decide (b ∈ idsOf di)))) := rfl
                rw [e2, hA, Bool.true_and, Bool.true_and] at fin
                refine ⟨_, rfl, rfl, _, rfl, ?_⟩
                rw [show decide (V.int b = V.int 0) = decide (b = 0) from by rw [dec_int]; rfl]
                cases h0 : decide (b = 0) with
                | true =>
                  rw [h0] at fin
                  exact iteT fin
                | false =>
                  rw [h0] at fin
                  refine iteF ?_
                  refine ⟨_, rfl, _, rfl, o, _, rfl, .inl (Same.sq s1 hO), rfl, all_flat js, _, rfl, ?_⟩
                  rw [inV_int]
                  show if decide (b ∈ js) = true then _ else _
                  cases h1 : decide (b ∈ js) with
                  | false =>
                    rw [h1] at fin
                    exact iteF fin
                  | true =>
                    rw [h1] at fin
                    refine iteT ?_
                    obtain ⟨es, rfl, hall⟩ : ∃ es, di = .tuple es ∧ es.all wholeD = true := by
                      cases di with
                      | tuple es =>
                        have hA' : areIdsL js es = true := hA
                        unfold areIdsL at hA'
                        simp only [Bool.and_eq_true] at hA'
                        exact ⟨es, rfl, hA'.1.1.2⟩
                      | _ => cases hA
                    cases pi with
                    | tup hTi hsi =>
                      have ev := whole_all hsi hall
                      subst ev
                      refine ⟨_, rfl, _, rfl, _, _, rfl, .inr (Same.tq s1 hTi), rfl, all_flat _, ?_⟩
                      rw [inV_int]
                      exact fin
      · have hz : (!decide (V.int ((vs.length : Nat) : Int) = V.int 2)) = true := by
          rw [dec_int]
          have : ¬ (((vs.length : Nat) : Int) = 2) := by omega
          simpa using this
        rw [hz]
        refine iteT (no ?_)
        match ds, h2 with
        | [], _ => rfl
        | [_], _ => rfl
        | [_, _], h2 => exact absurd rfl h2
        | _ :: _ :: _ :: _, _ => rfl
    | _ => exact iteT (no rfl)
end
/-- a move, plainly -/
def MoveOk (js ks : List Int) (b : Int) : Prop := ks ≠ [] ∧ (∀ k ∈ ks, k ∈ js) ∧ ks.Nodup ∧ (b = 0 ∨ (b ∈ js ∧ b ∉ ks))
theorem all_whole (ks : List Int) : (ks.map PyData.int).all wholeD = true := by
  induction ks with
  | nil => rfl
  | cons a r ih => exact ih
theorem ints_of_map (ks : List Int) : (ks.map PyData.int).map intOf = ks := by
  induction ks with
  | nil => rfl
  | cons a r ih => exact congrArg (a :: ·) ih
theorem MoveOk.isMove {js ks : List Int} {b : Int} (h : MoveOk js ks b) : isMove js (.tuple [.tuple (ks.map .int), .int b]) = true := by
  show isMove2 js (.tuple (ks.map .int)) (.int b) = true
  have e2 : isMove2 js (.tuple (ks.map .int)) (.int b) = (areIdsL js (ks.map .int) && true && (decide (b = 0) || (decide (b ∈ js) && !decide (b ∈ (ks.map PyData.int).map intOf)))) := rfl
  rw [e2]
  unfold areIdsL
  rw [all_whole, ints_of_map]
  obtain ⟨h1, h2, h3, h4⟩ := h
  have a1 : (ks.map PyData.int).isEmpty = false := by cases ks with | nil => exact absurd rfl h1 | cons _ _ => rfl
  have a2 : (ks.all fun k => decide (k ∈ js)) = true := List.all_eq_true.mpr fun k hk => decide_eq_true (h2 k hk)
  rw [a1, a2, decide_eq_true h3]
  rcases h4 with h4 | ⟨h4, h5⟩
  · rw [decide_eq_true h4]; rfl
  · rw [decide_eq_true h4, decide_eq_false h5]; simp
theorem DVs.ints {K : PySem.W.Frag} {H : Hp} : ∀ ks : List Int, DVs K H (ks.map V.int) (ks.map PyData.int)
  | [] => .nil
  | k :: r => .cons (.int k) (DVs.ints r)
theorem filter_int (js ks : List Int) (i : Nat) {z : Int} (h : js[i]? = some z) : (js.take (i + 1)).filter (fun k => decide (k ∉ ks)) = if z ∈ ks then (js.take i).filter (fun k => decide (k ∉ ks)) else (js.take i).filter (fun k => decide (k ∉ ks)) ++ [z] := by
  rw [take_snoc h, List.filter_append]
  by_cases hz : z ∈ ks
  · rw [if_pos hz]
    simp [hz]
  · rw [if_neg hz]
    simp [hz]
section
variable {P : Program} {w : World} {K : PySem.W.Frag} {mg : Str → Option Value} {base : Heap}
def spDo (K : PySem.W.Frag) : Sp := fun vs H Q _ => ∃ (o m i : Addr) (js ks : List Int) (b : Int), vs = [.ref o, .ref m] ∧ SqL K H o (js.map V.int) ∧ SqT K H m [.ref i, .int b] ∧ SqT K H i (ks.map V.int) ∧ js.length ≤ 4000 ∧ ks.length ≤ 4000 ∧ MoveOk js ks b ∧
  ∀ (p : Addr) (H' : Hp), H p = none → Same H H' → H' p = some (.lst ((doMove js ks b).map V.int)) → Q (.ref p) H'
theorem scDo : FnScope ["order", "move", "ids", "behind", "taken", "rest", "at", "row_id"] ["order", "move"] (defScope sDoMove) := ⟨rfl, rfl, rfl, by decide +kernel, rfl, by decide +kernel, by decide +kernel⟩
theorem ok_do {f fM fA fW fD : Addr} {fd fdM fdA fdW fdD : FuncData} (F : Fun K "do_move" "do_move" sDoMove f fd) (T : TxtV mg) (FW : Fun K "is_whole" "is_whole" sWhole fW fdW) (bW : Binds K fdW ["value"] []) (mW : mg "is_whole" = some (.ref fW))
    (FD : Fun K "all_different" "all_different" sDiff fD fdD) (bD : Binds K fdD ["numbers"] []) (mD : mg "all_different" = some (.ref fD))
    (FA : Fun K "are_ids_of" "are_ids_of" sAreIds fA fdA) (bA : Binds K fdA ["order", "value"] []) (mA : mg "are_ids_of" = some (.ref fA))
    (FM : Fun K "is_move" "is_move" sIsMove fM fdM) (bM : Binds K fdM ["order", "value"] []) (mM : mg "is_move" = some (.ref fM)) : FnOk P w K mg base CX0 4 f fd ["order", "move"] (spDo K) := by
  have GM : FnOk P w K mg base CX0 3 fM fdM ["order", "value"] (spIsMove K) := ok_isMove FM T FW bW mW FD bD mD FA bA mA
  refine F.ok scDo (fun vs H Q E h => ?_) (fun cdv A outer s H vs Q E hr h => ?_)
  · obtain ⟨o, m, i, js, ks, b, rfl, _⟩ := h
    rfl
  · obtain ⟨o, m, i, js, ks, b, rfl, hO, hM, hI, hj, hk, ok, k⟩ := h
    refine ⟨_, pss_cons (ps_if (pt_not (pt_val (pe_call GM hr rfl mM FM.kp bM .nil pass0 (pa_cons (pv 0) (pa_cons (pv 1) pa_nil))))) (pss_one ps_never) pss_nil)
      (pss_cons (ps_asg (pv 1) (pg_tup (by rfl) (pgs_cons (pg_name (i := 2) scDo.nd rfl (Or.inl rfl)) (pgs_cons (pg_name (i := 3) scDo.nd rfl (Or.inl rfl)) pgs_nil))))
      (pss_cons (ps_set (i := 4) scDo.nd rfl (Or.inr rfl) (pe_callTy (cr_setI rfl) (by rfl) T.set (by decide +kernel) (pa_cons (pv 2) pa_nil)))
      (pss_cons (ps_setLc (i := 5) (own := [("row_id", 7)]) (g := gName 7) rfl scDo.nd rfl rfl (sw_true rfl rfl rfl (by decide +kernel)) (pi_list (pv 0)) (blkOk_by (N := ["order", "move", "ids", "behind", "taken", "rest", "at", "row_id"]) (sc := defScope sDoMove) (by decide +kernel)) (fun _ _ _ _ _ => pg_name (i := 7) scDo.nd rfl (Or.inl rfl))
          (fun _ _ _ _ _ => pts_one (pt_cmpR op_notInSet (pv 7) (pv 4) (by rfl))) (fun _ _ _ _ _ => pv 7))
      (pss_cons (ps_set (i := 6) scDo.nd rfl (Or.inl rfl) (pe_ifExp (pt_cmpR op_eq (pv 3) pe_int (nomark _)) pe_int (pe_op op_add (pe_bm PySem.F.plainAttrs_list PySem.F.slot_list_index PySem.F.type_list_index mt_index (pv 5) (pa_cons (pv 3) pa_nil)) pe_int)))
      (pss_one (ps_ret (pe_op op_cat (pe_op op_cat (pe_slice sl_list (pv 5) po_none (po_some (pv 6))) (pe_callTy call_list_of (by rfl) T.list (by decide +kernel) (pa_cons (pv 2) pa_nil))) (pe_slice sl_list (pv 5) (po_some (pv 6)) po_none)))))))), ?_⟩
    refine ⟨_, rfl, _, rfl, o, js, .ref m, .tuple [.tuple (ks.map .int), .int b], rfl, hO, hj, .tup hM (.cons (.tup hI (DVs.ints ks)) (.cons (.int b) .nil)), ?_, fun H1 s1 => ⟨_, rfl, ?_⟩⟩
    · intro ds b' e
      injection e with e
      injection e with e1 _
      injection e1 with e1
      rw [← e1]
      exact fewD.of (by rw [List.length_map]; exact hk)
    rw [ok.isMove]
    refine iteF ?_
    refine ⟨_, rfl, m, _, rfl, Same.tq s1 hM, rfl, _, _, rfl, _, _, rfl, rfl, ?_⟩
    -- taken = set(ids)
    refine ⟨_, rfl, i, ks, rfl, .inr (Same.tq s1 hI), hk, fun q S n hq hS hn => ?_⟩
    have s2 : Same H (upd H1 q (.set S n)) := s1.trans (Same.new hq)
    refine ⟨_, rfl, o, rfl, ⟨_, Same.sq s2 hO⟩, fun D hD => ?_⟩
    refine lc_list (K := K) (a := o) (xs := js.map V.int) (fun i H' => Same (upd H1 q (.set S n)) H' ∧ H' D = some (.lst (((js.take i).filter fun k => decide (k ∉ ks)).map V.int))) ⟨Same.new hD, upd_same⟩ (fun i H' _ q => Same.sq (s2.trans q.1) hO) ?_ ?_
    · rintro i x H' hx ⟨s3, hL⟩
      rw [List.getElem?_map] at hx
      obtain ⟨z, hz2, rfl⟩ : ∃ z, js[i]? = some z ∧ x = V.int z := by
        cases hq2 : js[i]? with
        | none => rw [hq2] at hx; cases hx
        | some z => rw [hq2] at hx; exact ⟨z, rfl, (Option.some.inj hx).symm⟩
      refine ⟨rfl, ?_⟩
      refine ⟨_, rfl, _, rfl, z, q, S, n, rfl, rfl, s3 _ _ upd_same, _, rfl, ?_⟩
      show if (!S z) = true then _ else _
      rw [hS.1 z]
      have hf := filter_int js ks i hz2
      refine ite2 (fun c => ?_) (fun c => ?_)
      · have hz : z ∉ ks := by simpa using c
        rw [if_neg hz] at hf
        refine ⟨_, rfl, _, hL, ?_, ?_, ?_⟩
        · rw [List.length_map]
          have := List.length_filter_le (fun k => decide (k ∉ ks)) (js.take i)
          have : (js.take i).length ≤ js.length := by rw [List.length_take]; omega
          exact Nat.lt_of_le_of_lt (by omega : _ ≤ 4000) (by decide)
        · intro b u hb
          rw [upd_ne (ne_of_none hb hD)]
          exact s3 b u hb
        · rw [upd_same, hf, List.map_append]
          rfl
      · have hz : z ∈ ks := by simpa using c
        rw [if_pos hz] at hf
        exact ⟨s3, by rw [hf]; exact hL⟩
    · rintro H3 ⟨s3, hL⟩
      rw [List.length_map, List.take_length] at hL
      have s4 : Same H H3 := s2.trans s3
      have hlen : (js.filter fun k => decide (k ∉ ks)).length ≤ 4000 := Nat.le_trans (List.length_filter_le _ _) hj
      generalize hR : (js.filter fun k => decide (k ∉ ks)) = R at *
      have fin : ∀ (at' : Nat) (σ' : L2.St), at' = (if b = 0 then 0 else R.idxOf b + 1) → σ' = [some (.ref o), some (.ref m), some (.ref i), some (.int b), some (.ref q), some (.ref D), some (.int at'), none] →
          (tRet (tOp rCat (tOp rCat (tSl (rSlL K) (tVar 5) tNoPart (tPart (tVar 6))) (tCB (fun xs H Q => ∃ p ys, xs = [.ref p] ∧ (SqL K H p ys ∨ SqT K H p ys) ∧ ∀ l, H l = none → Q (.ref l) (upd H l (.lst ys))) (tCons (tVar 2) tNil))) (tSl (rSlL K) (tVar 5) (tPart (tVar 6)) tNoPart))) { nx := fun _ H' => Q .non H', rt := Q } σ' H3 := by
        rintro at' σ' hat rfl
        have l1 := cutV_length (R.map V.int) none (some (at' : Int))
        have l2 := cutV_length (R.map V.int) (some (at' : Int)) none
        rw [List.length_map] at l1 l2
        have e16 : sizeLine = 16777216 := sizeLine_eq
        refine ⟨_, rfl, _, rfl, _, rfl, D, _, rfl, SqL.of hL, fun p1 hp1 => ?_⟩
        have t1 := Same.new (o := .lst (cutV (R.map V.int) none (some (at' : Int)))) hp1
        refine ⟨_, rfl, i, _, rfl, .inr (Same.tq (s4.trans t1) hI), fun l hl => ?_⟩
        have t2 := Same.new (o := .lst (ks.map V.int)) hl
        refine ⟨p1, l, _, _, rfl, rfl, t2 _ _ upd_same, upd_same, (by rw [List.length_map, e16]; omega), fun p2 hp2 => ?_⟩
        have t3 := Same.new (o := .lst (cutV (R.map V.int) none (some (at' : Int)) ++ ks.map V.int)) hp2
        refine ⟨_, rfl, _, rfl, _, rfl, D, _, rfl, SqL.of (t3 _ _ (t2 _ _ (t1 _ _ hL))), fun p3 hp3 => ?_⟩
        have t4 := Same.new (o := .lst (cutV (R.map V.int) (some (at' : Int)) none)) hp3
        refine ⟨p2, p3, _, _, rfl, rfl, t4 _ _ upd_same, upd_same, (by rw [List.length_append, List.length_map, e16]; omega), fun p4 hp4 => ?_⟩
        have t5 := Same.new (o := .lst ((cutV (R.map V.int) none (some (at' : Int)) ++ ks.map V.int) ++ cutV (R.map V.int) (some (at' : Int)) none)) hp4
        have sAll : Same H _ := s4.trans (t1.trans (t2.trans (t3.trans (t4.trans t5))))
        have sB : Same H _ := s4.trans (t1.trans (t2.trans (t3.trans t4)))
        refine k p4 _ (sB.free hp4) sAll ?_
        rw [upd_same, cut_to, cut_from]
        unfold doMove
        rw [hR, ← hat, List.map_append, List.map_append, List.map_take, List.map_drop]
      refine ⟨_, rfl, rfl, _, rfl, ?_⟩
      rw [show decide (V.int b = V.int 0) = decide (b = 0) from by rw [dec_int]; rfl]
      refine ite2 (fun c => ?_) (fun c => ?_)
      · have hb : b = 0 := of_decide_eq_true c
        exact fin 0 _ (by rw [if_pos hb]) rfl
      · have hb : ¬ b = 0 := fun e => c (decide_eq_true e)
        have hmem : b ∈ R := by
          rcases ok.2.2.2 with h | ⟨h1, h2⟩
          · exact absurd h hb
          · rw [← hR]
            exact List.mem_filter.mpr ⟨h1, decide_eq_true h2⟩
        refine ⟨_, rfl, .inl ⟨rfl, _, SqL.of hL⟩, _, rfl, D, _, .int b, R.idxOf b, .int b, rfl, rfl, SqL.of hL, rfl, all_flat R, ?_, ?_, ?_, ?_⟩
        · rw [List.getElem?_map, idx_at hmem]; rfl
        · rw [eqV_int]; exact decide_eq_true rfl
        · intro m' z' hm hz
          rw [List.getElem?_map] at hz
          cases hq2 : R[m']? with
          | none => rw [hq2] at hz; cases hz
          | some z =>
            rw [hq2] at hz
            have : z' = V.int z := (Option.some.inj hz).symm
            rw [this, eqV_int]
            exact decide_eq_false (idx_first hm hq2)
        · refine ⟨_, _, rfl, rfl, ?_⟩
          exact fin (R.idxOf b + 1) _ (by rw [if_neg hb]) rfl
end
theorem eqvAll_ints : ∀ xs ys : List Int, PyData.eqvAll (xs.map .int) (ys.map .int) = decide (xs = ys)
  | [], [] => by simp [PyData.eqvAll]
  | [], _ :: _ => by simp [PyData.eqvAll]
  | _ :: _, [] => by simp [PyData.eqvAll]
  | x :: xs, y :: ys => by
    rw [List.map_cons, List.map_cons, PyData.eqvAll, eqvAll_ints xs ys, PyData.eqv]
    by_cases h : x = y
    · subst h
      simp
    · simp [h]
theorem canLay_ints : ∀ xs : List Int, PyData.canLayAll0 (xs.map .int) = true
  | [] => by rw [List.map_nil, PyData.canLayAll0]
  | x :: xs => by rw [List.map_cons, PyData.canLayAll0, canLay_ints xs, PyData.canLay0]; rfl
theorem depthAll_ints : ∀ xs : List Int, PyData.depthAll (xs.map .int) ≤ 1
  | [] => by rw [List.map_nil, PyData.depthAll]; omega
  | x :: xs => by
    have := depthAll_ints xs
    rw [List.map_cons, PyData.depthAll, PyData.depth]
    omega
theorem shaped_ints (xs : List Int) : SeqAt.shaped (.list (xs.map .int)) = true := by
  unfold SeqAt.shaped
  rw [Bool.and_eq_true]
  refine ⟨?_, decide_eq_true ?_⟩
  · rw [PyData.canLay0]; exact canLay_ints xs
  · have := depthAll_ints xs
    rw [PyData.depth]
    omega
theorem DpAll.ints {K : PySem.W.Frag} {H : Hp} : ∀ xs : List Int, DpAll K H (xs.map V.int) (xs.map .int)
  | [] => .nil
  | x :: xs => .cons (.int x) (DpAll.ints xs)
def rEqL (K : PySem.W.Frag) : R2 := fun x y H Q => ∃ (p q : Addr) (xs ys : List Int), x = .ref p ∧ y = .ref q ∧ SqL K H p (xs.map V.int) ∧ SqL K H q (ys.map V.int) ∧ Q (.bl (decide (xs = ys))) H
def rNeL (K : PySem.W.Frag) : R2 := fun x y H Q => ∃ (p q : Addr) (xs ys : List Int), x = .ref p ∧ y = .ref q ∧ SqL K H p (xs.map V.int) ∧ SqL K H q (ys.map V.int) ∧ Q (.bl (!decide (xs = ys))) H
section
variable {X : Cx}
theorem op_eqL (hu : X.A.units + 64 < cLine) : OpR X (compareOp .Eq) (rEqL X.K) := by
  intro pins s σ H x y v u Q I rx ry h
  obtain ⟨p, q, xs, ys, rfl, rfl, h1, h2, k⟩ := h
  refine op_eqD hu pins s σ H _ _ v u Q I rx ry ⟨_, _, .lst h1 (DpAll.ints xs), .lst h2 (DpAll.ints ys), shaped_ints xs, shaped_ints ys, ?_⟩
  rw [PyData.eqv, eqvAll_ints]
  exact k
theorem op_neL (hu : X.A.units + 64 < cLine) : OpR X (compareOp .NotEq) (rNeL X.K) := by
  intro pins s σ H x y v u Q I rx ry h
  obtain ⟨p, q, xs, ys, rfl, rfl, h1, h2, k⟩ := h
  refine op_neD hu pins s σ H _ _ v u Q I rx ry ⟨_, _, .lst h1 (DpAll.ints xs), .lst h2 (DpAll.ints ys), shaped_ints xs, shaped_ints ys, ?_⟩
  rw [PyData.eqv, eqvAll_ints]
  exact k
end
theorem hu64 {A : Around} {k : Nat} (hr : Room k A) : A.units + 64 < cLine := by have := hr.un; omega
/-- behind Hd: all as it was but the deck at d, and these objects stand -/
def Fs (d : Addr) (Hd : Hp) (fs : List (Addr × HO)) (H' : Hp) : Prop := But d Hd H' ∧ DeckAt H' d ∧ ∀ p ∈ fs, p.1 ≠ d ∧ H' p.1 = some p.2
section
variable {d p p0 p1 p2 p3 p4 p5 : Addr} {Hd H1 H2 : Hp} {fs : List (Addr × HO)} {o o0 o1 o2 o3 o4 o5 : HO}
theorem Fs.start (D : DeckAt Hd d) : Fs d Hd [] Hd := ⟨But.refl _ _, D, fun _ h => by cases h⟩
theorem Fs.step (F : Fs d Hd fs H1) (D : DeckAt H2 d) (B : But d H1 H2) : Fs d Hd fs H2 := ⟨F.1.trans B, D, fun q hq => ⟨(F.2.2 q hq).1, B _ _ (F.2.2 q hq).1 (F.2.2 q hq).2⟩⟩
theorem Fs.same (F : Fs d Hd fs H1) (s : Same H1 H2) : Fs d Hd fs H2 := F.step (F.2.1.same s) (But.of s)
theorem Fs.add (F : Fs d Hd fs H1) (h : H1 p = some o) (n : ∀ x y, o ≠ .dK (dk x y)) : Fs d Hd ((p, o) :: fs) H1 := ⟨F.1, F.2.1, fun q hq => by
  rcases List.mem_cons.mp hq with e | e
  · subst e
    obtain ⟨x, y, hd, _⟩ := F.2.1
    exact ⟨ne_of h hd (n x y), h⟩
  · exact F.2.2 q e⟩
theorem Fs.new (F : Fs d Hd fs H1) (h : H1 p = none) (n : ∀ x y, o ≠ .dK (dk x y)) : Fs d Hd ((p, o) :: fs) (upd H1 p o) := (F.same (Same.new h)).add upd_same n
theorem Fs.skip (F : Fs d Hd fs H1) (h : H1 p = none) : Fs d Hd fs (upd H1 p o) := F.same (Same.new h)
theorem Fs.tail (F : Fs d Hd ((p, o) :: fs) H1) : Fs d Hd fs H1 := ⟨F.1, F.2.1, fun q hq => F.2.2 q (List.mem_cons_of_mem _ hq)⟩
theorem Fs.deck (F : Fs d Hd fs H1) : DeckAt H1 d := F.2.1
theorem Fs.g0 (F : Fs d Hd ((p0, o0) :: fs) H1) : H1 p0 = some o0 := (F.2.2 _ List.mem_cons_self).2
theorem Fs.g1 (F : Fs d Hd ((p0, o0) :: (p1, o1) :: fs) H1) : H1 p1 = some o1 := F.tail.g0
theorem Fs.g2 (F : Fs d Hd ((p0, o0) :: (p1, o1) :: (p2, o2) :: fs) H1) : H1 p2 = some o2 := F.tail.g1
theorem Fs.g3 (F : Fs d Hd ((p0, o0) :: (p1, o1) :: (p2, o2) :: (p3, o3) :: fs) H1) : H1 p3 = some o3 := F.tail.g2
theorem Fs.g4 (F : Fs d Hd ((p0, o0) :: (p1, o1) :: (p2, o2) :: (p3, o3) :: (p4, o4) :: fs) H1) : H1 p4 = some o4 := F.tail.g3
/-- what stood ahead of the deck stands -/
theorem Fs.old {H : Hp} (F : Fs d Hd fs H1) (hd : H d = none) (s : Same H Hd) : Same H H1 := fun b u h => F.1 b u (ne_of_none h hd) (s b u h)
end
theorem nl {xs : List V} : ∀ x y, HO.lst xs ≠ .dK (dk x y) := fun _ _ h => by cases h
theorem nt {xs : List V} : ∀ x y, HO.tup xs ≠ .dK (dk x y) := fun _ _ h => by cases h
theorem cut_mid (js : List Int) {f t : Nat} (h : f < js.length) : cutV (js.map V.int) (some (f : Int)) (some ((f : Int) + 1 + (t : Int))) = ((js.drop f).take (t + 1)).map V.int := by
  unfold cutV
  have e : (f : Int) + 1 + (t : Int) = ((f + 1 + t : Nat) : Int) := by omega
  rw [e, HT.sIx_nat, HT.sIx_nat, List.length_map, Nat.min_eq_left (by omega : f ≤ js.length), List.map_take, List.map_drop]
  rcases Nat.le_total (f + 1 + t) js.length with q | q
  · rw [Nat.min_eq_left q]
    congr 1
    omega
  · rw [Nat.min_eq_right q, List.take_of_length_le, List.take_of_length_le]
    · rw [List.length_drop, List.length_map]; omega
    · rw [List.length_drop, List.length_map]; omega
/-! ### defs that are called where no repr is under way (their context's guards are known to be none) -/
/-- the promise of a def, wherever no guard stands -/
structure FnG (P : Program) (w : World) (K : PySem.W.Frag) (mg : Str → Option Value) (base : Heap) (k : Nat) (f : Addr) (fd : FuncData) (ps : List Str) (sp : Sp) : Prop where
  len : ∀ vs H Q E, sp vs H Q E → vs.length = ps.length
  go : ∀ {A : Around} {outer : List Env} {s : Shared} {H : Hp} {args : Args} {us : List Value} {vs : List V} {Q : VK} {E : XK}, A.guards = some [] → Room k A → Env0 P w K mg base A outer s H →
    BindsTo s fd args (ps.zip us) → Vals vs us → sp vs H Q E → codeAny (model P w) A (.call (.ref f) args) (CR CX0 outer P w H s Q E) s
section
variable {P : Program} {w : World} {K : PySem.W.Frag} {mg : Str → Option Value} {base : Heap}
/-- by its body -/
theorem FnG.mk' {x qual : Str} {st : Stmt} {f : Addr} {fd : FuncData} {N ps : List Str} {k : Nat} {sp : Sp} (F : Fun K x qual st f fd) (S : FnScope N ps (defScope st)) (len : ∀ vs H Q E, sp vs H Q E → vs.length = ps.length)
    (body : ∀ (cdv : Value) (A : Around) (outer : List Env) (s : Shared) (H : Hp) (vs : List V) (Q : VK) (E : XK), (A.deeper (envOfC qual (defScope st) s.heap.objs.size f cdv)).guards = some [] → Room k (A.deeper (envOfC qual (defScope st) s.heap.objs.size f cdv)) → sp vs H Q E →
      ∃ t, PSs (cxOf CX0 P w K mg base N qual (defScope st) f cdv A outer s H E).nox (defBody st) t ∧ t { nx := fun _ H' => Q .non H', rt := Q } (start N vs) H) : FnG P w K mg base (k + 1) f fd ps sp := by
  obtain ⟨oc, od, kV, doc, pm, an, cdv, ct, osl, rfl, lk, hcd⟩ := F.ex
  refine ⟨len, ?_⟩
  intro A outer s H args us vs Q E hg hr en hb rel hsp
  have kept : ∀ b o, base.get? b = some o → s.heap.get? b = some o := fun b o q => (en.bs b o q).1
  have inK := en.mod.kin.keeps kept
  refine codeAny_call_function hr.depth (inK _ _ lk) rfl S.co S.gen rfl (PySem.W.codeRec_of inK hcd) (hb _ _ _ _ ?_)
  have kinds : ∀ q ∈ ps.zip us, (defScope st).names.lookup q.1 = some .local ∨ ((defScope st).names.lookup q.1 = some .cell ∧ ((cellsFrom (s.heap.objs.size + 1) (defScope st).names []).lookup q.1).isSome = true) := by
    rintro ⟨n, v⟩ hq
    exact (S.par n (List.of_mem_zip hq).1).elim .inl fun c => .inr ⟨c, PySem.W.cellsFrom_some _ _ _ (.inl c)⟩
  refine wpAny_newFunctionEnv_cells S.kind kinds fun env he s1 ic => ?_
  subst he
  obtain ⟨t, ht, hq⟩ := body cdv A outer s H vs Q E hg (hr.deeper _) hsp
  have I0 := inv_start (CX := CX0) (E := E) S hr.hd en (len _ _ _ _ hsp) rel ic
  refine ⟨(en.mod.nolimit.keeps kept).keeps ic.toInCall.keep, codeAny_func ?_⟩
  refine wpAny_mono (ht.nox.run [] s1 _ H _ I0 hq) ?_ fun _ _ z => z
  rintro (_ | _ | _ | u) s' hs
  · obtain ⟨σ', H', J, q⟩ := hs
    exact ⟨.non, H', J.os, J.bare, J.base, J.hok, rfl, q⟩
  · obtain ⟨_, _, _, q⟩ := hs
    exact q.elim
  · obtain ⟨_, _, _, q⟩ := hs
    exact q.elim
  · obtain ⟨v, σ', H', J, rv, q⟩ := hs
    exact ⟨v, H', J.os, J.bare, J.base, J.hok, rv, q⟩
end
section
variable {X : Cx} {k : Nat} {f : Addr} {fd : FuncData} {ps : List Str} {sp : Sp} {E : XK} {x : Str} {p pos : Pos} {e : Expr} {es : List Expr} {t : TA}
/-- such a def called by its name -/
theorem pe_callG (F : FnG X.prog X.w X.K X.mg X.base k f fd ps sp) (hg : X.A.guards = some []) (hr : Room k X.A) (hx : Gl X x) (hm : X.mg x = some (.ref f)) (hk : PySem.W.keepIn X.K (.ref f) = true) (hb : L2.Binds X.K fd ps [])
    (ha : PA X (e :: es) t) (hdb : (x == ("__debug__" : Str)) = false := by decide) (he : starEach (e :: es) X.env = (false, eval e X.env) :: starEach es X.env := by rfl) (hpl : (backTo pos (starEach es X.env)).any (·.1) = false := by rfl) :
    PE X (.Call (.Name x p) (e :: es) [] pos) (tCall sp [] E t) := by
  constructor
  intro pins s σ H Q I h
  have run : ∀ {us : List Value} {vs : List V} {H1 : Hp} {s1 : Shared}, Inv X pins σ H1 s1 → Vals vs us → sp (vs ++ []) H1 Q E → wpAny (model X.prog X.w) X.A (call (.ref f) us) (EP X pins σ Q) X.xe s1 := by
    intro us vs H1 s1 I1 r q
    rw [List.append_nil] at q
    have hl : us.length = ps.length := by rw [← r.length]; exact F.len _ _ _ _ q
    have bt := hb s1 us I1.kIn (by rw [List.append_nil]; exact hl)
    rw [List.append_nil] at bt
    refine wpAny_call (codeAny_mono (F.go hg hr I1.env0 bt r q) ?_)
    rintro (_ | (_ | _ | _ | u)) s2 z
    · exact z.elim
    · exact z.elim
    · exact z.elim
    · exact z.elim
    · exact I1.after z
  refine wpAny_Call_Name_kw (ld_glob I hx hm ?_ hdb)
  exact PySem.W.callWith_K (h₀ := X.base) I.ok.mod.kin hk (thn (ha.run pos pins s σ H _ I h) fun us s1 ⟨vs, H1, I1, r, q⟩ => ⟨I1.kIn, run I1 r q⟩) he hpl
end
/-! ### the end of a law whose def is such a def -/
/-- the heap of which nothing is known but the script -/
def justScript (K : PySem.W.Frag) (a : Addr) (vs : List Value) (ns : List Int) : Hp := fun b =>
  if b = a ∧ K.lookup a = none then some (.frz { cls := .type "list", data := .seq vs.toArray } (.lst (ns.map V.int))) else none
section
variable {P : Program} {w : World} {K : PySem.W.Frag} {mg mb : Str → Option Value} {k : Nat} {fa a : Addr} {fd : FuncData} {x : Str} {sp : Sp} {s₁ : Shared} {vs : List Value} {ns : List Int}
theorem js_out {b : Addr} (h : b ≠ a) : justScript K a vs ns b = none := if_neg fun z => h z.1
theorem js_some {b : Addr} {u : HO} (h : justScript K a vs ns b = some u) : b = a ∧ K.lookup a = none ∧ u = .frz { cls := .type "list", data := .seq vs.toArray } (.lst (ns.map V.int)) := by
  unfold justScript at h
  split at h
  · rename_i c
    exact ⟨c.1, c.2, (Option.some.inj h).symm⟩
  · cases h
theorem lawG (KX : K.In s₁.heap) (hns : s₁.heap.Ns mainGlobals mg) (hb : s₁.heap.Ns builtinsNs mb) (hbb : ∀ x : Str, x ≠ "__name__" → mb x = bootBuiltins x) (hlim : s₁.heap.NoLimit) (hg : s₁.gens = #[])
    (ha : s₁.heap.get? a = some { cls := .type "list", data := .seq vs.toArray }) (hi : IntsAre vs ns) (hl : ns.length ≤ sizeLine) (hr : Room k callerA)
    (F : ∀ base : Heap, K.In base → base.Ns mainGlobals mg → FnG P w K mg base k fa fd [x] sp) (hbind : ∀ (s : Shared) (u : Value), BindsTo s fd ⟨[u], []⟩ [(x, u)])
    (hsp : ∀ H : Hp, Only H → SqL K H a (ns.map V.int) → sp [.ref a] H (fun v _ => v = .bl true) fun _ _ _ => False) :
    codeAny (model P w) callerA (.call (.ref fa) ⟨[.ref a], []⟩) (fun r s' => r = .ok (.ret (.bool true)) ∧ OldK s₁.heap s'.heap ∧ s'.os = s₁.os ∧ AllBare s'.gens) s₁ := by
  have rv := L2.vals_ints hi
  have hlen := hi.length
  obtain ⟨H, hH⟩ : ∃ H, H = justScript K a vs ns := ⟨_, rfl⟩
  have hcases : ∀ b, H b = none ∨ (b = a ∧ K.lookup a = none ∧ H b = some (.frz { cls := .type "list", data := .seq vs.toArray } (.lst (ns.map V.int)))) := by
    intro b
    cases q : H b with
    | none => exact .inl rfl
    | some u =>
      rw [hH] at q
      obtain ⟨h1, h2, h3⟩ := js_some q
      exact .inr ⟨h1, h2, by rw [h3]⟩
  have only : Only H := fun b => (hcases b).imp id fun z => ⟨_, _, z.2.2⟩
  have list : SqL K H a (ns.map V.int) := by
    cases hk : K.lookup a with
    | none => exact .inl (.inr ⟨{ cls := .type "list", data := .seq vs.toArray }, by rw [hH]; exact if_pos ⟨rfl, hk⟩⟩)
    | some o =>
      have q := KX a o hk
      rw [ha] at q
      obtain rfl := Option.some.inj q
      exact .inr ⟨_, vs.toArray, _, hk, rfl, rfl, rfl, by rw [List.size_toArray, hlen]; exact hl, rv⟩
  have held : HOk P w H s₁.heap := by
    intro b u q
    rcases hcases b with z | ⟨rfl, _, z⟩
    · rw [z] at q; cases q
    · rw [z] at q
      obtain rfl := Option.some.inj q
      exact ⟨ha, by rw [List.length_map]; exact hl, vs, _, rv, ha⟩
  -- the rest of the heap, in which the module's facts stand
  have stay : ∀ {b : Addr} {o : Obj}, s₁.heap.get? b = some o → (b = a → K.lookup a ≠ none) → (hidT s₁.heap H).get? b = some o := by
    intro b o e n
    refine hidT_get e ?_
    rcases hcases b with z | ⟨e1, e2, _⟩
    · exact z
    · exact absurd e2 (n e1)
  have names : ∀ {b : Addr} {m : Str → Option Value}, s₁.heap.Ns b m → (hidT s₁.heap H).Ns b m := by
    rintro b m ⟨o, es, ep, e, d, r⟩
    refine ⟨o, es, ep, stay e ?_, d, r⟩
    rintro rfl
    rw [ha] at e
    obtain rfl := Option.some.inj e
    exact absurd d (by intro z; cases z)
  have kin : K.In (hidT s₁.heap H) := fun b o e => stay (KX b o e) fun q => by rw [← q, e]; exact fun z => by cases z
  obtain ⟨mc, l1, l2⟩ := hlim
  have mod : Mod K mg (hidT s₁.heap H) := ⟨kin, names hns, ⟨mb, names hb, hbb⟩, ⟨mc, names l1, l2⟩⟩
  have env : Env0 P w K mg (hidT s₁.heap H) callerA [] s₁ H := ⟨rfl, mod, fun b o e => of_hidT e, Nat.le_of_eq (hidT_size _ _), trivial, fun b z => (by exact absurd (show b ∈ ([] : List Addr) from z) (by simp)), held, .of_eq hg⟩
  have vr : Vals [V.ref a] [Value.ref a] := .cons (show RelV (.ref a) (.ref a) from rfl) .nil
  refine codeAny_mono ((F _ kin (names hns)).go (us := [.ref a]) rfl hr env (hbind s₁ (.ref a)) vr (hsp H only list)) ?_
  rintro (_ | (_ | _ | _ | u)) s' z
  · exact z.elim
  · exact z.elim
  · exact z.elim
  · exact z.elim
  · obtain ⟨v, H', os, bare, un, ok', r', q⟩ := z
    have q1 : v = .bl true := q
    subst q1
    have q2 : u = Value.bool true := r'
    subst q2
    refine ⟨rfl, OldK.of_keep fun b o e => ?_, os, bare⟩
    rcases hcases b with z | ⟨e1, _, z⟩
    · exact un.keep b o e z (fun z => absurd (show b ∈ ([] : List Addr) from z) (by simp)) (by simp)
    · obtain ⟨g, _⟩ := ok' b _ (un.frzs b _ _ z)
      obtain ⟨g0, _⟩ := held b _ z
      rw [g0] at e
      rw [← Option.some.inj e]
      exact g
end
theorem walkG {l : PySem.W.OpenLaw} {n k : Nat} {q : Program} {loose : List Str} {XP : (Str → Option Value) → Heap → Prop} {YP : World → Heap → Prop} {d : DefRec} {K : Params → PySem.W.Frag} {sp : PySem.W.Frag → Sp} {x : Str}
    (hn : l.most = some n) (hn2 : n ≤ sizeLine) (hdf : d.params.defaults = []) (hr : Room k callerA) (hY : ∀ (w : World) (h : Heap), YP w h → (K w.params).In h)
    (F : ∀ (w : World) (mg : Str → Option Value) (fa : Addr) (h : Heap), (K w.params).In h → h.Ns mainGlobals mg → mg d.name = some (.ref fa) →
      ∃ fd : FuncData, (∀ (s : Shared) (u : Value), BindsTo s fd ⟨[u], []⟩ [(x, u)]) ∧ ∀ base : Heap, (K w.params).In base → base.Ns mainGlobals mg → FnG l.prog w (K w.params) mg base k fa fd [x] (sp (K w.params)))
    (hsp : ∀ (K : PySem.W.Frag) (H : Hp) (a : Addr) (ns : List Int), ns.length ≤ n → (∀ z ∈ ns, Builtin.Int.intBits z ≤ 1048576) → SqL K H a (ns.map V.int) → sp K [.ref a] H (fun v _ => v = .bl true) fun _ _ _ => False) :
    PySem.W.WalkO q loose XP YP l.row.toRowW d [] (fun f vs => PySem.call f vs) := by
  refine Att.attach_callB hn hdf ?_
  intro w s₀ s₁ mg mb fa o pm cd doc a vs ns G Y ho hd hcd hmg hobj hints hlen hbits hg
  obtain ⟨fd, hb, hF⟩ := F w mg fa _ (hY w _ Y) G.T.g hmg
  exact lawG (hY w _ Y) G.T.g G.T.b G.T.builtins G.T.nolimit hg hobj hints (Nat.le_trans hlen hn2) hr hF hb fun H _ hS => hsp _ H a ns hlen hbits hS
/-! ### repr of data -/
mutual
/-- how long its text is at most -/
def szD : PyData → Nat
  | .none => 4
  | .bool _ => 5
  | .int _ => 301
  | .str x => (reprText x).length
  | .list xs => szAll xs + 2
  | .tuple xs => szAll xs + 3
  | .dict _ => 2
def szAll : List PyData → Nat
  | [] => 0
  | x :: xs => szD x + 2 + szAll xs
end
mutual
/-- ints of moderate size, no dict -/
def modD : PyData → Bool
  | .none | .bool _ | .str _ => true
  | .int i => decide (i.natAbs < 2 ^ 300)
  | .list xs | .tuple xs => modAll xs
  | .dict _ => false
def modAll : List PyData → Bool
  | [] => true
  | x :: xs => modD x && modAll xs
end
theorem log_of {i : Int} (h : i.natAbs < 2 ^ 300) : i.natAbs.log2 < 300 := PySem.Flt.log2_lt_of (by decide) h
mutual
theorem showable_of : ∀ d : PyData, modD d = true → d.showable = true
  | .none, _ => by rw [PyData.showable]
  | .bool _, _ => by rw [PyData.showable]
  | .str _, _ => by rw [PyData.showable]
  | .int i, h => by
    rw [modD] at h
    rw [PyData.showable]
    have := log_of (of_decide_eq_true h)
    exact decide_eq_true (by omega)
  | .list xs, h => by
    rw [modD] at h
    rw [PyData.showable]
    exact showableAll_of xs h
  | .tuple xs, h => by
    rw [modD] at h
    rw [PyData.showable]
    exact showableAll_of xs h
  | .dict _, h => by rw [modD] at h; cases h
theorem showableAll_of : ∀ xs : List PyData, modAll xs = true → PyData.showableAll xs = true
  | [], _ => by rw [PyData.showableAll]
  | x :: xs, h => by
    rw [modAll, Bool.and_eq_true] at h
    rw [PyData.showableAll, showable_of x h.1, showableAll_of xs h.2]
    rfl
end
mutual
theorem nodict_of : ∀ d : PyData, modD d = true → d.hasDict = false
  | .none, _ => by rw [PyData.hasDict]
  | .bool _, _ => by rw [PyData.hasDict]
  | .str _, _ => by rw [PyData.hasDict]
  | .int i, h => by rw [PyData.hasDict]
  | .list xs, h => by
    rw [modD] at h
    rw [PyData.hasDict]
    exact nodictAll_of xs h
  | .tuple xs, h => by
    rw [modD] at h
    rw [PyData.hasDict]
    exact nodictAll_of xs h
  | .dict _, h => by rw [modD] at h; cases h
theorem nodictAll_of : ∀ xs : List PyData, modAll xs = true → PyData.hasDictAll xs = false
  | [], _ => by rw [PyData.hasDictAll]
  | x :: xs, h => by
    rw [modAll, Bool.and_eq_true] at h
    rw [PyData.hasDictAll, nodict_of x h.1, nodictAll_of xs h.2]
    rfl
end
def pile : List Str → Nat
  | [] => 0
  | t :: r => t.length + 2 + pile r
theorem textFrom_le : ∀ (ts : List Str) (k : Nat) (acc : Str), (textFrom k acc ts).length ≤ acc.length + pile ts
  | [], k, acc => by show acc.length ≤ acc.length + 0; omega
  | t :: r, k, acc => by
    have ih := textFrom_le r (k + 1) (acc ++ (if k > 0 then ", " else "" : String) ++ t)
    have e : (acc ++ (if k > 0 then ", " else "" : String) ++ t).length ≤ acc.length + 2 + t.length := by
      rw [strLen_append, strLen_append]
      split
      · show acc.length + 2 + t.length ≤ _; omega
      · show acc.length + 0 + t.length ≤ _; omega
    show (textFrom (k + 1) (acc ++ (if k > 0 then ", " else "" : String) ++ t) r).length ≤ acc.length + (t.length + 2 + pile r)
    omega
theorem listText_le (ts : List Str) : (listText ts).length ≤ pile ts + 2 := by
  unfold listText
  have h := textFrom_le ts 0 "["
  rw [strLen_append]
  have e1 : (("[" : String) : Str).length = 1 := rfl
  have e2 : (("]" : String) : Str).length = 1 := rfl
  rw [e2]
  rw [e1] at h
  omega
theorem join_le : ∀ ts : List Str, (Str.join ", " ts).length ≤ pile ts
  | [] => Nat.zero_le _
  | [x] => by show x.length ≤ x.length + 2 + 0; omega
  | x :: y :: r => by
    have ih := join_le (y :: r)
    show (x ++ ", " ++ Str.join ", " (y :: r)).length ≤ x.length + 2 + pile (y :: r)
    rw [strLen_append, strLen_append]
    have e2 : ((", " : String) : Str).length = 2 := rfl
    rw [e2]
    omega
theorem tupleText_le (ts : List Str) : (tupleText ts).length ≤ pile ts + 3 := by
  unfold tupleText
  have h := join_le ts
  rw [strLen_append, strLen_append]
  have e1 : (("(" : String) : Str).length = 1 := rfl
  have e2 : ((if ts.length == 1 then ",)" else ")" : String) : Str).length ≤ 2 := by
    split
    · exact Nat.le_refl _
    · exact Nat.le_succ _
  rw [e1]
  omega
mutual
theorem shown_le : ∀ d : PyData, modD d = true → d.shown.length ≤ szD d
  | .none, _ => by rw [PyData.shown, szD]; decide
  | .bool b, _ => by rw [PyData.shown, szD]; cases b <;> decide
  | .str x, _ => by rw [PyData.shown, szD]; exact Nat.le_refl _
  | .int i, h => by
    rw [modD] at h
    rw [PyData.shown, szD]
    have := int_text_length_le (k := 300) (by decide) (log_of (of_decide_eq_true h))
    have e : (Str.ofString (toString i)).length = (toString i).length := PySem.ofString_length _
    rw [e]
    omega
  | .list xs, h => by
    rw [modD] at h
    rw [PyData.shown, szD]
    have := listText_le (PyData.shownAll xs)
    have := shownAll_le xs h
    omega
  | .tuple xs, h => by
    rw [modD] at h
    rw [PyData.shown, szD]
    have := tupleText_le (PyData.shownAll xs)
    have := shownAll_le xs h
    omega
  | .dict _, h => by rw [modD] at h; cases h
theorem shownAll_le : ∀ xs : List PyData, modAll xs = true → pile (PyData.shownAll xs) ≤ szAll xs
  | [], _ => by rw [PyData.shownAll, szAll]; exact Nat.le_refl _
  | x :: xs, h => by
    rw [modAll, Bool.and_eq_true] at h
    have h1 := shown_le x h.1
    have h2 := shownAll_le xs h.2
    rw [PyData.shownAll, szAll]
    show x.shown.length + 2 + pile (PyData.shownAll xs) ≤ _
    omega
end
/-! ### data of the heap is read -/
section
variable {X : Cx} {pins : List (Addr × Obj)} {σ : L2.St} {H : Hp} {s : Shared}
mutual
theorem DV.reads (I : Inv X pins σ H s) : ∀ (d : PyData) (v : V) (u : Value), DV X.K H v d → RelV v u → ∃ as, Reads s.heap u d as
  | .none, _, _, .non, r => ⟨_, (show _ = Value.none from r) ▸ Reads.none⟩
  | .bool b, _, _, .bl _, r => ⟨_, (show _ = Value.bool b from r) ▸ Reads.bool b⟩
  | .int i, _, _, .int _, r => by
    obtain ⟨t, q⟩ := r
    rw [q]
    exact ⟨_, Reads.int i t⟩
  | .str x, _, _, .str _, r => by
    obtain ⟨t, q⟩ := r
    rw [q]
    exact ⟨_, Reads.str x t⟩
  | .list ds, _, u, .lst h t, r => by
    have r' : u = Value.ref _ := r
    subst r'
    obtain ⟨its, rv, ⟨o, n, ho, hc, _, hd⟩, _⟩ := I.list h
    obtain ⟨as, hr⟩ := DVs.reads I ds _ its t rv
    exact ⟨_, Reads.list ho hc hd hr⟩
  | .tuple ds, _, u, .tup h t, r => by
    have r' : u = Value.ref _ := r
    subst r'
    obtain ⟨its, rv, ⟨o, ho, hc, n, hd⟩, _⟩ := I.tuple h
    obtain ⟨as, hr⟩ := DVs.reads I ds _ its t rv
    exact ⟨_, Reads.tuple ho hc hd hr⟩
  | .dict _, _, u, .dk0 h, r => by
    have r' : u = Value.ref _ := r
    subst r'
    obtain ⟨_, _, vs, rel, o, es, ep, h1, h2, h3, h4⟩ := I.hok _ _ h
    cases rel
    have e0 : es.toList = [] := by
      have h5 := h4.2.1
      generalize es.toList = l at h5 ⊢
      cases h5
      rfl
    refine ⟨_, Reads.dict (as := []) (bs := []) h1 h2.1 h3 ?_ ?_⟩
    · rw [e0]; exact ReadsAll.nil
    · rw [e0]; exact ReadsAll.nil
theorem DVs.reads (I : Inv X pins σ H s) : ∀ (ds : List PyData) (vs : List V) (us : List Value), DVs X.K H vs ds → Vals vs us → ∃ as, ReadsAll s.heap us ds as
  | [], _, _, .nil, r => by
    cases r
    exact ⟨_, ReadsAll.nil⟩
  | d :: ds, _, _, .cons h1 h2, r => by
    cases r with
    | cons r1 r2 =>
      obtain ⟨as, q1⟩ := DV.reads I d _ _ h1 r1
      obtain ⟨bs, q2⟩ := DVs.reads I ds _ _ h2 r2
      exact ⟨_, ReadsAll.cons q1 q2⟩
end
/-- repr of a list or a tuple -/
def rRepr (K : PySem.W.Frag) : List V → Hp → VK → Prop := fun xs H Q => ∃ (a : Addr) (d : PyData), xs = [.ref a] ∧ DV K H (.ref a) d ∧ modD d = true ∧ d.depth ≤ 40 ∧ szD d ≤ 1000000 ∧ Q (.str d.shown) H
theorem call_repr (hg : X.A.guards = some []) (hu : X.A.units + 64 < cLine) : CallR X (.builtin "repr") (rRepr X.K) := by
  intro pins s σ H xs us Q I r h
  obtain ⟨a, d, rfl, hd, hm, hdep, hsz, q⟩ := h
  rw [Vals.ref1 r]
  obtain ⟨as, hr⟩ := DV.reads I d (.ref a) (.ref a) hd rfl
  have hl : d.shown.length ≤ sizeLine := by
    have := shown_le d hm
    rw [sizeLine_eq]
    omega
  exact repr_of_reads' hr (showable_of d hm) (fun z => by rw [nodict_of d hm] at z; cases z) hg (by omega) (fun _ _ e => e) (fun h' u tk kk => ⟨.str d.shown, H, I.kept kk, ⟨_, rfl⟩, q⟩) hl
end
/-! ### data that cannot change: flat things and tuples of such -/
mutual
inductive DT (H : Hp) : V → PyData → Prop
  | non : DT H .non .none
  | bl (b : Bool) : DT H (.bl b) (.bool b)
  | int (i : Int) : DT H (.int i) (.int i)
  | str (x : Str) : DT H (.str x) (.str x)
  | tup {a : Addr} {xs : List V} {ds : List PyData} : H a = some (.tup xs) → DTs H xs ds → DT H (.ref a) (.tuple ds)
inductive DTs (H : Hp) : List V → List PyData → Prop
  | nil : DTs H [] []
  | cons {v : V} {vs : List V} {d : PyData} {ds : List PyData} : DT H v d → DTs H vs ds → DTs H (v :: vs) (d :: ds)
end
/-- the tuples stand -/
def KeepT (H H' : Hp) : Prop := ∀ a xs, H a = some (.tup xs) → H' a = some (.tup xs)
theorem KeepT.refl (H : Hp) : KeepT H H := fun _ _ h => h
theorem KeepT.trans {H H1 H2 : Hp} (a : KeepT H H1) (b : KeepT H1 H2) : KeepT H H2 := fun c xs h => b c xs (a c xs h)
theorem KeepT.same {H H' : Hp} (s : Same H H') : KeepT H H' := fun a xs h => s a _ h
theorem KeepT.but {d : Addr} {H H' : Hp} (D : DeckAt H d) (s : But d H H') : KeepT H H' := fun a xs h => s.tup D h
theorem KeepT.put {x : Addr} {H : Hp} {ys : List V} {o : HO} (h : H x = some (.lst ys)) : KeepT H (upd H x o) := fun a xs e => by
  rw [upd_ne (ne_of e h (by intro z; cases z))]
  exact e
theorem KeepT.new {x : Addr} {H : Hp} {o : HO} (h : H x = none) : KeepT H (upd H x o) := KeepT.same (Same.new h)
mutual
theorem DT.keep {H H' : Hp} (e : KeepT H H') : ∀ {d : PyData} {v : V}, DT H v d → DT H' v d
  | _, _, .non => .non
  | _, _, .bl b => .bl b
  | _, _, .int i => .int i
  | _, _, .str x => .str x
  | _, _, .tup h t => .tup (e _ _ h) (DTs.keep e t)
theorem DTs.keep {H H' : Hp} (e : KeepT H H') : ∀ {ds : List PyData} {vs : List V}, DTs H vs ds → DTs H' vs ds
  | _, _, .nil => .nil
  | _, _, .cons p t => .cons (DT.keep e p) (DTs.keep e t)
end
mutual
theorem DT.dv {K : PySem.W.Frag} {H : Hp} : ∀ {d : PyData} {v : V}, DT H v d → DV K H v d
  | _, _, .non => .non
  | _, _, .bl b => .bl b
  | _, _, .int i => .int i
  | _, _, .str x => .str x
  | _, _, .tup h t => .tup (SqT.of h) (DTs.dv t)
theorem DTs.dv {K : PySem.W.Frag} {H : Hp} : ∀ {ds : List PyData} {vs : List V}, DTs H vs ds → DVs K H vs ds
  | _, _, .nil => .nil
  | _, _, .cons p t => .cons (DT.dv p) (DTs.dv t)
end
theorem DTs.ints {H : Hp} : ∀ ks : List Int, DTs H (ks.map V.int) (ks.map PyData.int)
  | [] => .nil
  | k :: r => .cons (.int k) (DTs.ints r)
theorem DTs.append {H : Hp} : ∀ {vs ws : List V} {ds es : List PyData}, DTs H vs ds → DTs H ws es → DTs H (vs ++ ws) (ds ++ es)
  | _, _, _, _, .nil, h => h
  | _, _, _, _, .cons p t, h => .cons p (DTs.append t h)
theorem DTs.take {H : Hp} : ∀ {vs : List V} {ds : List PyData} (n : Nat), DTs H vs ds → DTs H (vs.take n) (ds.take n)
  | _, _, 0, _ => .nil
  | _, _, _ + 1, .nil => .nil
  | _, _, n + 1, .cons p t => .cons p (DTs.take n t)
theorem DTs.length {H : Hp} : ∀ {vs : List V} {ds : List PyData}, DTs H vs ds → vs.length = ds.length
  | _, _, .nil => rfl
  | _, _, .cons _ t => congrArg Nat.succ (DTs.length t)
theorem DTs.none {H : Hp} : ∀ n : Nat, DTs H (List.replicate n V.non) (List.replicate n PyData.none)
  | 0 => .nil
  | n + 1 => .cons .non (DTs.none n)
/-! ### lists of ids as data -/
theorem modAll_ints : ∀ xs : List Int, (∀ z ∈ xs, z.natAbs < 2 ^ 300) → modAll (xs.map .int) = true
  | [], _ => by rw [List.map_nil, modAll]
  | x :: r, h => by
    rw [List.map_cons, modAll, modD, modAll_ints r fun z hz => h z (List.mem_cons_of_mem _ hz), decide_eq_true (h x List.mem_cons_self)]
    rfl
theorem szAll_ints : ∀ xs : List Int, szAll (xs.map .int) = xs.length * 303
  | [] => by rw [List.map_nil, szAll]; rfl
  | x :: r => by
    rw [List.map_cons, szAll, szD, szAll_ints r, List.length_cons]
    omega
theorem small_abs {z : Int} (h : -1000000000000 ≤ z) (h2 : z ≤ 1000000000000) : z.natAbs < 2 ^ 300 := by
  have : (1000000000001 : Nat) ≤ 2 ^ 300 := Nat.le_trans (by decide : 1000000000001 ≤ 2 ^ 50) (Nat.pow_le_pow_right (by decide) (by decide))
  generalize (2 : Nat) ^ 300 = B at *
  omega
structure Rok (d : PyData) : Prop where
  m : modD d = true
  dep : d.depth ≤ 40
  sz : szD d ≤ 1000000
theorem rok_ids {xs : List Int} (h : ∀ z ∈ xs, 1 ≤ z ∧ z ≤ 1000000) (hl : xs.length ≤ 300) : Rok (.list (xs.map .int)) := by
  refine ⟨?_, ?_, ?_⟩
  · rw [modD]
    exact modAll_ints xs fun z hz => by have := h z hz; exact small_abs (by omega) (by omega)
  · have := depthAll_ints xs
    rw [PyData.depth]
    omega
  · rw [szD, szAll_ints]
    omega
/-- changing one more object -/
theorem Fs.put {d x : Addr} {Hd H1 : Hp} {fs : List (Addr × HO)} {o : HO} (F : Fs d Hd fs H1) (h0 : Hd x = none) (hd : x ≠ d) (hn : ∀ p ∈ fs, p.1 ≠ x) : Fs d Hd fs (upd H1 x o) := by
  obtain ⟨f1, ⟨a, b, q, r⟩, f3⟩ := F
  refine ⟨fun c u hc e => ?_, ⟨a, b, by rw [upd_ne hd.symm]; exact q, r⟩, fun p hp => ⟨(f3 p hp).1, by rw [upd_ne (hn p hp)]; exact (f3 p hp).2⟩⟩
  rw [upd_ne (ne_of_none e h0)]
  exact f1 c u hc e
theorem Fs.apart {d x : Addr} {Hd H1 : Hp} {fs : List (Addr × HO)} (F : Fs d Hd fs H1) (h : H1 x = none) : Hd x = none ∧ x ≠ d ∧ ∀ p ∈ fs, p.1 ≠ x := by
  obtain ⟨f1, ⟨a, b, q, r⟩, f3⟩ := F
  have hd : x ≠ d := fun e => by rw [e, q] at h; cases h
  refine ⟨?_, hd, fun p hp => ne_of_none (f3 p hp).2 h⟩
  cases e : Hd x with
  | none => rfl
  | some u =>
    have := f1 x u hd e
    rw [h] at this; cases this
/-! ### repr of data with empty dicts in it -/
mutual
/-- ints of moderate size, dicts only empty -/
def okD : PyData → Bool
  | .none | .bool _ | .str _ => true
  | .int i => decide (i.natAbs < 2 ^ 300)
  | .list xs | .tuple xs => okAll xs
  | .dict kvs => kvs.isEmpty
def okAll : List PyData → Bool
  | [] => true
  | x :: xs => okD x && okAll xs
end
mutual
theorem shown_le2 : ∀ d : PyData, okD d = true → d.shown.length ≤ szD d
  | .none, _ => shown_le .none rfl
  | .bool b, _ => shown_le (.bool b) rfl
  | .str x, _ => shown_le (.str x) rfl
  | .int i, h => shown_le (.int i) (by rw [okD] at h; rw [modD]; exact h)
  | .list xs, h => by
    have h2 : okAll xs = true := by rw [okD] at h; exact h
    have b := shownAll_le2 xs h2
    have a := listText_le (PyData.shownAll xs)
    rw [szD, PyData.shown]
    omega
  | .tuple xs, h => by
    have h2 : okAll xs = true := by rw [okD] at h; exact h
    have b := shownAll_le2 xs h2
    have a := tupleText_le (PyData.shownAll xs)
    rw [szD, PyData.shown]
    omega
  | .dict kvs, h => by
    rw [okD] at h
    have e : kvs = [] := List.isEmpty_iff.mp h
    subst e
    rw [szD, PyData.shown, PyData.shownKv]
    exact Nat.le_refl 2
theorem shownAll_le2 : ∀ xs : List PyData, okAll xs = true → pile (PyData.shownAll xs) ≤ szAll xs
  | [], _ => by rw [PyData.shownAll, szAll]; exact Nat.le_refl _
  | x :: xs, h => by
    rw [okAll, Bool.and_eq_true] at h
    have a := shown_le2 x h.1
    have b := shownAll_le2 xs h.2
    rw [szAll, PyData.shownAll]
    show x.shown.length + 2 + pile (PyData.shownAll xs) ≤ _
    omega
end
section
variable {X : Cx} {pins : List (Addr × Obj)} {σ : L2.St} {H : Hp} {s : Shared}
mutual
theorem DV.rk (I : Inv X pins σ H s) : ∀ (d : PyData) (v : V) (u : Value), DV X.K H v d → RelV v u → okD d = true → d.shown.length ≤ sizeLine → ∃ bs, ReadAtMost s.heap d.depth bs ∧ ReprK X.prog X.w bs s.heap d.depth u d.shown
  | .none, _, _, .non, r, _, _ => ⟨[], (fun _ q => by cases q), by rw [PyData.shown, (show _ = Value.none from r)]; exact .of_is ReprIs.none _ _ _⟩
  | .bool b, _, _, .bl _, r, _, _ => ⟨[], (fun _ q => by cases q), by rw [PyData.shown, (show _ = Value.bool b from r)]; exact .of_is (ReprIs.bool b) _ _ _⟩
  | .int i, _, _, .int _, r, h, _ => by
    obtain ⟨t, rfl⟩ := r
    rw [okD] at h
    have := log_of (of_decide_eq_true h)
    exact ⟨[], (fun _ q => by cases q), by rw [PyData.shown]; exact .of_is (ReprIs.int t (by omega)) _ _ _⟩
  | .str x, _, _, .str _, r, _, hz => by
    obtain ⟨t, rfl⟩ := r
    rw [PyData.shown] at hz
    exact ⟨[], (fun _ q => by cases q), by rw [PyData.shown]; exact .of_is (ReprIs.str x t hz) _ _ _⟩
  | .list ds, _, u, .lst h t, r, hok, hz => by
    have r' : u = Value.ref _ := r
    subst r'
    rw [okD] at hok
    rw [PyData.shown] at hz
    obtain ⟨its, rv, ⟨o, n, ho, hc, _, hd⟩, _⟩ := I.list h
    obtain ⟨as, hr⟩ := DVs.reads I ds _ its t rv
    obtain ⟨bs, hb, hk⟩ := DVs.rk I ds _ its t rv hok fun x hx => Nat.le_trans (listText_mem_le hx) hz
    have R := Reads.list ho hc hd hr
    have far := not_mem_of_deeper R (by rw [PyData.depth]; omega) hb
    refine ⟨_, ReadAtMost.cons R (by rw [PyData.depth]; omega) hb, ?_⟩
    rw [PyData.depth, PyData.shown]
    cases its with
    | nil =>
      cases rv
      cases t
      rw [PyData.shownAll, listText_nil]
      exact ReprK.listEmpty ho hc hd
    | cons y l => exact ReprK.list ho hc hd far (by rw [hk.length_eq]; rfl) fun i y e => hk.item i y (by rw [List.getElem?_toArray] at e; exact e)
  | .tuple ds, _, u, .tup h t, r, hok, hz => by
    have r' : u = Value.ref _ := r
    subst r'
    rw [okD] at hok
    rw [PyData.shown] at hz
    obtain ⟨its, rv, ⟨o, ho, hc, n, hd⟩, _⟩ := I.tuple h
    obtain ⟨as, hr⟩ := DVs.reads I ds _ its t rv
    obtain ⟨bs, hb, hk⟩ := DVs.rk I ds _ its t rv hok fun x hx => Nat.le_trans (tupleText_mem_le hx) hz
    have R := Reads.tuple ho hc hd hr
    have far := not_mem_of_deeper R (by rw [PyData.depth]; omega) hb
    refine ⟨_, ReadAtMost.cons R (by rw [PyData.depth]; omega) hb, ?_⟩
    rw [PyData.depth, PyData.shown]
    exact ReprK.tuple ho hc hd far hk
  | .dict _, _, u, .dk0 h, r, _, _ => by
    have r' : u = Value.ref _ := r
    subst r'
    obtain ⟨_, sy, vs, rel, o, es, ep, h1, h2, h3, h4⟩ := I.hok _ _ h
    cases rel
    have e0 : es.toList = [] := by
      have h5 := h4.2.1
      generalize es.toList = l at h5 ⊢
      cases h5
      rfl
    have R : Reads s.heap (.ref _) (.dict []) _ := Reads.dict (as := []) (bs := []) h1 h2.1 h3 (by rw [e0]; exact ReadsAll.nil) (by rw [e0]; exact ReadsAll.nil)
    have hb : ReadAtMost s.heap (PyData.depthKv []) [] := fun _ q => by cases q
    refine ⟨_, ReadAtMost.cons R (by rw [PyData.depth]; omega) hb, ?_⟩
    rw [PyData.depth, PyData.shown, PyData.shownKv]
    exact ReprK.dict h1 h2.1 h3 sy (fun q => by cases q) (by rw [e0]; exact .nil)
theorem DVs.rk (I : Inv X pins σ H s) : ∀ (ds : List PyData) (vs : List V) (us : List Value), DVs X.K H vs ds → Vals vs us → okAll ds = true → (∀ x ∈ PyData.shownAll ds, x.length ≤ sizeLine) → ∃ bs, ReadAtMost s.heap (PyData.depthAll ds) bs ∧ ReprAllK X.prog X.w bs s.heap (PyData.depthAll ds) us (PyData.shownAll ds)
  | [], _, _, .nil, r, _, _ => by
    cases r
    exact ⟨[], (fun _ q => by cases q), by rw [PyData.shownAll]; exact .nil⟩
  | d :: ds, _, _, .cons h1 h2, r, hok, hz => by
    cases r with
    | cons r1 r2 =>
      rw [okAll, Bool.and_eq_true] at hok
      rw [PyData.shownAll] at hz
      obtain ⟨p1, a1, k1⟩ := DV.rk I d _ _ h1 r1 hok.1 (hz _ List.mem_cons_self)
      obtain ⟨p2, a2, k2⟩ := DVs.rk I ds _ _ h2 r2 hok.2 fun x hx => hz x (List.mem_cons_of_mem _ hx)
      rw [PyData.shownAll, PyData.depthAll]
      refine ⟨p1 ++ p2, fun b hm => ?_, .cons ((k1.more fun b hb => List.mem_append_left _ hb).level_le (by omega)) (k2.more_le (fun b hb => List.mem_append_right _ hb) (by omega))⟩
      rcases List.mem_append.mp hm with q | q
      · obtain ⟨e, f, r, g⟩ := a1 b q
        exact ⟨e, f, r, by omega⟩
      · obtain ⟨e, f, r, g⟩ := a2 b q
        exact ⟨e, f, r, by omega⟩
end
/-- repr of any data -/
def rRepr2 (K : PySem.W.Frag) : List V → Hp → VK → Prop := fun xs H Q => ∃ (v : V) (d : PyData), xs = [v] ∧ DV K H v d ∧ okD d = true ∧ d.depth ≤ 40 ∧ szD d ≤ 1000000 ∧ Q (.str d.shown) H
theorem call_repr2 (hg : X.A.guards = some []) (hu : X.A.units + 64 < cLine) : CallR X (.builtin "repr") (rRepr2 X.K) := by
  intro pins s σ H xs us Q I r h
  obtain ⟨v, d, rfl, hd, hok, hdep, hsz, q⟩ := h
  have hl : d.shown.length ≤ sizeLine := by
    have := shown_le2 d hok
    rw [sizeLine_eq]
    omega
  obtain ⟨u, rfl, ru⟩ : ∃ u, us = [u] ∧ RelV v u := by
    cases r with
    | cons r1 r2 => cases r2; exact ⟨_, rfl, r1⟩
  have kk : ∀ b o, s.heap.get? b = some o → s.heap.get? b = some o := fun _ _ e => e
  cases hd with
  | non =>
    have r' : u = Value.none := ru
    subst r'
    rw [PyData.shown] at q
    exact PySem.P.repr_of_none ⟨.str _, H, I.tok _, ⟨_, rfl⟩, q⟩
  | bl b =>
    have r' : u = Value.bool b := ru
    subst r'
    rw [PyData.shown] at q
    exact PySem.P.repr_of_bool ⟨.str _, H, I.tok _, ⟨_, rfl⟩, q⟩
  | int i =>
    obtain ⟨t, rfl⟩ := ru
    rw [okD] at hok
    have := log_of (of_decide_eq_true hok)
    rw [PyData.shown] at q
    exact PySem.P.repr_of_int (by omega) ⟨.str _, H, I.tok _, ⟨_, rfl⟩, q⟩
  | str x =>
    obtain ⟨t, rfl⟩ := ru
    rw [PyData.shown] at q hl
    exact PySem.P.repr_of_str ⟨.str _, H, I.tok _, ⟨_, rfl⟩, q⟩ hl
  | lst h t =>
    rename_i a vs ds
    have r' : u = Value.ref a := ru
    subst r'
    rw [okD] at hok
    rw [PyData.shown] at hl q
    rw [PyData.depth] at hdep
    obtain ⟨its, rv, ⟨o, n, ho, hc, _, hdt⟩, _⟩ := I.list h
    obtain ⟨as, hr⟩ := DVs.reads I ds _ its t rv
    obtain ⟨bs, hb, hk⟩ := DVs.rk I ds _ its t rv hok fun x hx => Nat.le_trans (listText_mem_le hx) hl
    have far := not_mem_of_deeper (Reads.list ho hc hdt hr) (by rw [PyData.depth]; omega) hb
    refine call_repr_slot (by omega) ⟨o, ho, hc⟩ F.slot_list_repr.toG ?_
    cases its with
    | nil =>
      cases rv
      cases t
      rw [PyData.shownAll, listText_nil] at q
      exact call_list_repr_empty ⟨o, ho, hc⟩ ho hdt ⟨_, _, rfl, .str _, H, I.tok _, ⟨_, rfl⟩, q⟩
    | cons y l =>
      exact call_list_reprK ho hc hdt far (by rw [hk.length_eq]; rfl) (fun i y e => hk.item i y (by rw [List.getElem?_toArray] at e; exact e)) hg (fun b _ => Clear.nil b) (by show X.A.units + 1 + _ < cLine; omega) kk
        (fun h' u tk k => ⟨_, _, rfl, .str _, H, I.kept k, ⟨_, rfl⟩, q⟩) hl
  | tup h t =>
    rename_i a vs ds
    have r' : u = Value.ref a := ru
    subst r'
    rw [okD] at hok
    rw [PyData.shown] at hl q
    rw [PyData.depth] at hdep
    obtain ⟨its, rv, ⟨o, ho, hc, n, hdt⟩, _⟩ := I.tuple h
    obtain ⟨as, hr⟩ := DVs.reads I ds _ its t rv
    obtain ⟨bs, hb, hk⟩ := DVs.rk I ds _ its t rv hok fun x hx => Nat.le_trans (tupleText_mem_le hx) hl
    have far := not_mem_of_deeper (Reads.tuple ho hc hdt hr) (by rw [PyData.depth]; omega) hb
    refine call_repr_slot (by omega) ⟨o, ho, hc⟩ F.slot_tuple_repr ?_
    exact call_tuple_reprK ho hc hdt far hk hg (fun b _ => Clear.nil b) (by show X.A.units + 1 + _ < cLine; omega) kk
      (fun h' u tk k => ⟨_, _, rfl, .str _, H, I.kept k, ⟨_, rfl⟩, q⟩) hl
  | dk0 h =>
    rename_i a
    have r' : u = Value.ref a := ru
    subst r'
    rw [PyData.shown, PyData.shownKv] at q
    obtain ⟨_, sy, vs, rel, o, es, ep, h1, h2, h3, h4⟩ := I.hok _ _ h
    cases rel
    have e0 : es.toList = [] := by
      have h5 := h4.2.1
      generalize es.toList = l at h5 ⊢
      cases h5
      rfl
    refine call_repr_slot (by omega) ⟨o, h1, h2.1⟩ F.slot_dict_repr ?_
    exact call_dict_reprK (d := 0) (as := []) h1 h2.1 h3 sy (fun q => by cases q) (by rw [e0]; exact .nil) hg (fun b _ => Clear.nil b) (by show X.A.units + 1 + _ < cLine; omega) kk
      (fun h' u tk k => ⟨_, _, rfl, .str _, H, I.kept k, ⟨_, rfl⟩, q⟩) (by rw [sizeLine_eq]; decide)
end
def inV2 (lo hi : Int) : V → Bool
  | .int i => decide (lo ≤ i) && decide (i ≤ hi)
  | _ => false
def inD (lo hi : Int) : PyData → Bool
  | .int i => decide (lo ≤ i) && decide (i ≤ hi)
  | _ => false
theorem DV.inD {K : PySem.W.Frag} {H : Hp} {v : V} {d : PyData} {lo hi : Int} (h : DV K H v d) : inV2 lo hi v = Hk.inD lo hi d := by cases h <;> rfl
theorem dInt (i j : Int) : decide (V.int i = V.int j) = decide (i = j) := by rw [dec_int]; rfl
/-- a comprehension over a tuple whose elements leave all as it was -/
theorem lc_same {K : PySem.W.Frag} {a : Addr} {xs : List V} {g : TG} {te : TE} {vs : List Nat} {σ : L2.St} {H1 : Hp} {D : Addr} {Qd : Hp → Prop} (ys : List V) (hl : ys.length = xs.length) (hsz : xs.length ≤ 1000000) (hT : SqT K H1 a xs) (hD : H1 D = none)
    (turn : ∀ (i : Nat) (x y : V) (H' : Hp) (R : VK), xs[i]? = some x → ys[i]? = some y → Same H1 H' → (∀ H4, Same H' H4 → R y H4) → g x (wipe σ vs) H' fun σ2 H2 => wipe σ2 vs = wipe σ vs ∧ te σ2 H2 R)
    (fin : ∀ H', Same H1 H' → H' D = some (.lst ys) → Qd H') :
    ∃ W : Nat → Nat → Hp → Prop, (∃ m, W 0 m (upd H1 D (.lst []))) ∧ ∀ (i m : Nat) (H : Hp), W i m H → (Itt K a).stop i H ∧ Qd H ∨ (Itt K a).go i H ∧ ∃ Nx : Hp → Prop, (∀ (H' : Hp), Nx H' → ∃ m', m' < m ∧ W (i + 1) m' H') ∧
      ∀ (x : V) (H' : Hp), (Itt K a).yld i H x H' → g x (wipe σ vs) H' fun σ2 H2 => wipe σ2 vs = wipe σ vs ∧ tYes σ2 H2 fun b H3 => if b = true then te σ2 H3 fun y H4 => ∃ acc, H4 D = some (.lst acc) ∧ acc.length < sizeLine ∧ Nx (upd H4 D (.lst (acc ++ [y]))) else Nx H3 := by
  refine lc_tup (K := K) (a := a) (xs := xs) (fun i H' => Same H1 H' ∧ H' D = some (.lst (ys.take i))) ⟨Same.new hD, upd_same⟩ (fun i H' _ q => Same.tq q.1 hT) ?_ ?_
  · rintro i x H' hx ⟨s1, hL⟩
    have hi := lt_of_some hx
    have hy : ys[i]? = some ys[i] := List.getElem?_eq_getElem (by omega)
    refine turn i x ys[i] H' _ hx hy s1 fun H4 s2 => ⟨_, s2 _ _ hL, ?_, ?_, ?_⟩
    · rw [List.length_take, sizeLine_eq]; omega
    · intro b u hb
      rw [upd_ne (ne_of_none hb hD)]
      exact s2 _ _ (s1 _ _ hb)
    · rw [upd_same, take_snoc hy]
  · rintro H' ⟨s1, hL⟩
    rw [← hl, List.take_length] at hL
    exact fin H' s1 hL
structure TxtI (mg : Str → Option Value) : Prop where
  id : ∃ t, mg "GREATEST_ID" = some (.int 1000000 t)
  field : ∃ t, mg "GREATEST_FIELD" = some (.int 1000000000 t)
  most : ∃ t, mg "MOST_FIELDS" = some (.int 4 t)
  abs : mg "abs" = none
theorem op_catA_K {X : Cx} {K : PySem.W.Frag} (h : X.K = K) : OpR X (binaryOp .Add) (rCatA K) := by
  subst h
  exact op_catA
theorem tyInt (K : PySem.W.Frag) (H : Hp) (i : Int) : TyD K H (.int i) := ⟨_, .base (.int i), .inr (.inr (.inl ⟨rfl, i, rfl⟩))⟩
section
variable {P : Program} {w : World} {K : PySem.W.Frag} {mg : Str → Option Value} {base : Heap}
/-! ### is_within, is_id -/
def spWithin (K : PySem.W.Frag) : Sp := fun vs H Q _ => ∃ (x : V) (lo hi : Int), vs = [x, .int lo, .int hi] ∧ TyD K H x ∧ Q (.bl (inV2 lo hi x)) H
theorem scWithin : FnScope ["value", "low", "high"] ["value", "low", "high"] (defScope sWithin) := ⟨rfl, rfl, rfl, by decide +kernel, rfl, by decide +kernel, by decide +kernel⟩
theorem ok_within {f fW : Addr} {fd fdW : FuncData} (F : Fun K "is_within" "is_within" sWithin f fd) (T : TxtV mg) (FW : Fun K "is_whole" "is_whole" sWhole fW fdW) (bW : L2.Binds K fdW ["value"] []) (mW : mg "is_whole" = some (.ref fW)) :
    FnOk P w K mg base CX0 2 f fd ["value", "low", "high"] (spWithin K) := by
  have GW : FnOk P w K mg base CX0 1 fW fdW ["value"] (spWhole K) := ok_whole FW T
  refine F.ok scWithin (fun vs H Q E h => ?_) (fun cdv A outer s H vs Q E hr h => ?_)
  · obtain ⟨x, lo, hi, rfl, _⟩ := h
    rfl
  · obtain ⟨x, lo, hi, rfl, ty, k⟩ := h
    refine ⟨_, pss_one (ps_ret (pe_and (pe_call GW hr rfl mW FW.kp bW .nil pass0 (pa_cons (pv 0) pa_nil)) (pe_one (pe_chain op_le op_le (pv 1) (pv 0) (pv 2))))), ?_⟩
    refine ⟨_, rfl, x, rfl, ty, _, rfl, ?_⟩
    obtain ⟨nm, _, hn⟩ := ty
    rcases hn with ⟨rfl, rfl⟩ | ⟨rfl, b, rfl⟩ | ⟨rfl, i, rfl⟩ | ⟨rfl, z, rfl⟩ | ⟨rfl, a, rfl⟩ | ⟨rfl, a, rfl⟩ | ⟨rfl, a, rfl⟩
    · exact iteF k
    · exact iteF k
    · refine iteT ⟨_, rfl, _, rfl, _, _, rfl, rfl, _, rfl, ?_⟩
      have k' : Q (.bl (decide (lo ≤ i) && decide (i ≤ hi))) H := k
      by_cases h1 : lo ≤ i
      · rw [decide_eq_true h1] at k' ⊢
        exact iteT ⟨_, rfl, _, _, rfl, rfl, k'⟩
      · rw [decide_eq_false h1] at k' ⊢
        exact iteF k'
    · exact iteF k
    · exact iteF k
    · exact iteF k
    · exact iteF k
def spIsId (K : PySem.W.Frag) : Sp := fun vs H Q _ => ∃ x : V, vs = [x] ∧ TyD K H x ∧ Q (.bl (inV2 1 1000000 x)) H
theorem scIsId : FnScope ["value"] ["value"] (defScope sIsId) := ⟨rfl, rfl, rfl, by decide +kernel, rfl, by decide +kernel, by decide +kernel⟩
theorem ok_isId {f fI : Addr} {fd fdI : FuncData} (F : Fun K "is_id" "is_id" sIsId f fd) (T : ∃ t, mg "GREATEST_ID" = some (.int 1000000 t)) (GI : FnOk P w K mg base CX0 2 fI fdI ["value", "low", "high"] (spWithin K)) (kI : PySem.W.keepIn K (.ref fI) = true) (bI : L2.Binds K fdI ["value", "low", "high"] []) (mI : mg "is_within" = some (.ref fI)) :
    FnOk P w K mg base CX0 3 f fd ["value"] (spIsId K) := by
  obtain ⟨t, tI⟩ := T
  refine F.ok scIsId (fun vs H Q E h => ?_) (fun cdv A outer s H vs Q E hr h => ?_)
  · obtain ⟨x, rfl, _⟩ := h
    rfl
  · obtain ⟨x, rfl, ty, k⟩ := h
    refine ⟨_, pss_one (ps_ret (pe_call GI hr rfl mI kI bI .nil pass0 (pa_cons (pv 0) (pa_cons pe_int (pa_cons (pe_glob (v := .int 1000000) rfl tI ⟨_, rfl⟩) pa_nil))))), ?_⟩
    exact ⟨_, rfl, x, _, _, rfl, ty, k⟩
end
/-! ### items and rules, plainly -/
def areFieldsD (w : Int) : PyData → Bool
  | .tuple ds => decide ((ds.length : Int) = w) && (decide (1 ≤ ds.length) && decide (ds.length ≤ 4)) && ds.all (inD (-1000000000) 1000000000)
  | _ => false
def isItem2 (w : Int) (i f : PyData) : Bool := inD 1 1000000 i && areFieldsD w f
def isItemD (w : Int) : PyData → Bool
  | .tuple [i, f] => isItem2 w i f
  | _ => false
def absI (i : Int) : Int := if i < 0 then -i else i
def isRuleL (w : Int) (ds : List PyData) : Bool := decide (ds.length ≤ 4) && ds.all wholeD && ((ds.map fun d => absI (intOf d)).all fun c => decide (1 ≤ c) && decide (c ≤ w)) && decide (ds.map fun d => absI (intOf d)).Nodup
def isRuleD (w : Int) : PyData → Bool
  | .tuple ds => isRuleL w ds
  | _ => false
section
variable {P : Program} {w : World} {K : PySem.W.Frag} {mg : Str → Option Value} {base : Heap}
/-! ### are_fields -/
def spAreFields (K : PySem.W.Frag) : Sp := fun vs H Q _ => ∃ (x : V) (d : PyData) (n : Int), vs = [x, .int n] ∧ DV K H x d ∧ ∀ H', Same H H' → Q (.bl (areFieldsD n d)) H'
theorem scAreFields : FnScope ["value", "width", "field"] ["value", "width"] (defScope sAreFields) := ⟨rfl, rfl, rfl, by decide +kernel, rfl, by decide +kernel, by decide +kernel⟩
theorem ok_areFields {f fI : Addr} {fd fdI : FuncData} (F : Fun K "are_fields" "are_fields" sAreFields f fd) (T : TxtV mg) (TI : TxtI mg) (GI : FnOk P w K mg base CX0 2 fI fdI ["value", "low", "high"] (spWithin K)) (kI : PySem.W.keepIn K (.ref fI) = true) (bI : L2.Binds K fdI ["value", "low", "high"] []) (mI : mg "is_within" = some (.ref fI)) :
    FnOk P w K mg base CX0 3 f fd ["value", "width"] (spAreFields K) := by
  obtain ⟨t1, tF⟩ := TI.field
  obtain ⟨t2, tM⟩ := TI.most
  refine F.ok scAreFields (fun vs H Q E h => ?_) (fun cdv A outer s H vs Q E hr h => ?_)
  · obtain ⟨x, d, n, rfl, _⟩ := h
    rfl
  · obtain ⟨x, d, n, rfl, hd, k⟩ := h
    refine ⟨_, pss_cons (ps_if (PW.pt (pw_or (pt_not (pt_val (pe_callB call_isi (by rfl) T.isi (by decide +kernel) (pa_cons (pv 0) (pa_cons (pe_bltn (v := .ty "tuple") (by rfl) T.tuple boot_tuple rfl) pa_nil)))))
          (pw_or1 (pt_cmpR op_ne (pe_callB call_len_seq (by rfl) T.len PySem.boot_len (pa_cons (pv 0) pa_nil)) (pv 1) (nomark _))))) (pss_one (ps_ret pe_bl)) pss_nil)
      (pss_cons (ps_if (pt_not (pt_chain op_le op_le pe_int (pe_callB call_len_seq (by rfl) T.len PySem.boot_len (pa_cons (pv 0) pa_nil)) (pe_glob (v := .int 4) rfl tM ⟨_, rfl⟩))) (pss_one (ps_ret pe_bl)) pss_nil)
      (pss_one (ps_ret (pe_callB (cr_all rfl) (by rfl) T.all (by decide +kernel) (pa_cons
          (pe_lc (own := [("field", 2)]) (g := gName 2) rfl scAreFields.nd (pi_tup (pv 0)) (blkOk_by (N := ["value", "width", "field"]) (sc := defScope sAreFields) (by decide +kernel)) (fun _ _ _ _ _ => pg_name (i := 2) scAreFields.nd rfl (Or.inl rfl)) (fun _ _ _ _ _ => pts_nil)
            (fun _ _ _ _ _ => pe_call GI hr rfl mI kI bI .nil pass0 (pa_cons (pv 2) (pa_cons (pe_un un_neg (pe_glob (v := .int 1000000000) rfl tF ⟨_, rfl⟩)) (pa_cons (pe_glob (v := .int 1000000000) rfl tF ⟨_, rfl⟩) pa_nil))))) pa_nil))))), ?_⟩
    obtain ⟨nm, ty, k1, k2⟩ := hd.kit
    refine ⟨_, rfl, _, _, _, _, _, rfl, .ty _, ty, k1, _, rfl, ?_⟩
    have no : areFieldsD n d = false → Q (.bl false) H := fun e => by
      have := k H (Same.refl H)
      rw [e] at this
      exact this
    cases hd with
    | tup hT hs =>
      rename_i a vs ds
      have hl := hs.length
      refine iteF ⟨_, rfl, a, _, rfl, .inr hT, _, rfl, rfl, _, rfl, ?_⟩
      by_cases hn : (ds.length : Int) = n
      · have e1 : (!decide (V.int ((vs.length : Nat) : Int) = V.int n)) = false := by
          rw [dInt, hl, decide_eq_true hn]; rfl
        rw [e1]
        refine iteF ⟨_, rfl, a, _, rfl, .inr hT, _, _, rfl, rfl, _, rfl, ?_⟩
        have fin : (1 ≤ ds.length ∧ ds.length ≤ 4) → areFieldsD n (.tuple ds) = ds.all (Hk.inD (-1000000000) 1000000000) := fun h => by
          show (decide ((ds.length : Int) = n) && (decide (1 ≤ ds.length) && decide (ds.length ≤ 4)) && ds.all _) = _
          rw [decide_eq_true hn, decide_eq_true h.1, decide_eq_true h.2]
          rfl
        have no2 : ¬ (1 ≤ ds.length ∧ ds.length ≤ 4) → Q (.bl false) H := fun h => no (by
          show (decide ((ds.length : Int) = n) && (decide (1 ≤ ds.length) && decide (ds.length ≤ 4)) && ds.all _) = _
          by_cases h1 : 1 ≤ ds.length
          · have h2 : ¬ ds.length ≤ 4 := fun q => h ⟨h1, q⟩
            rw [decide_eq_false h2]
            simp
          · rw [decide_eq_false h1]
            simp)
        refine ite2 (fun c1 => ?_) (fun c1 => ?_)
        · have c1' : (1 : Int) ≤ ((vs.length : Nat) : Int) := of_decide_eq_true c1
          refine ⟨_, _, rfl, rfl, _, rfl, ?_⟩
          by_cases c2 : ((vs.length : Nat) : Int) ≤ 4
          · rw [decide_eq_true c2]
            refine iteF ?_
            have h14 : 1 ≤ ds.length ∧ ds.length ≤ 4 := by omega
            refine ⟨_, rfl, a, rfl, ⟨_, hT⟩, fun D hD => ?_⟩
            refine lc_same (ds.map fun e => V.bl (Hk.inD (-1000000000) 1000000000 e)) (by rw [List.length_map, hl]) (by omega) hT hD (fun i x y H' R hx hy s1 kR => ⟨rfl, ?_⟩) fun H' s1 hL => ?_
            · obtain ⟨e, he, hv⟩ := hs.at hx
              rw [List.getElem?_map, he] at hy
              obtain rfl := Option.some.inj hy
              refine ⟨_, rfl, _, rfl, x, _, _, rfl, (hv.same s1).ty, ?_⟩
              rw [hv.inD]
              exact kR H' (Same.refl H')
            · refine ⟨D, ds.map (Hk.inD (-1000000000) 1000000000), rfl, SqL.of (by rw [List.map_map]; exact hL), ?_⟩
              have eall : (ds.map (Hk.inD (-1000000000) 1000000000)).all id = ds.all (Hk.inD (-1000000000) 1000000000) := by rw [List.all_map]; rfl
              rw [eall, ← fin h14]
              exact k H' s1
          · rw [decide_eq_false c2]
            exact iteT (no2 (by omega))
        · have c1' : ¬ (1 : Int) ≤ ((vs.length : Nat) : Int) := fun q => c1 (decide_eq_true q)
          exact ⟨_, rfl, iteT (no2 (by omega))⟩
      · have e1 : (!decide (V.int ((vs.length : Nat) : Int) = V.int n)) = true := by
          rw [dInt, hl, decide_eq_false hn]; rfl
        rw [e1]
        refine iteT (no ?_)
        show (decide ((ds.length : Int) = n) && (decide (1 ≤ ds.length) && decide (ds.length ≤ 4)) && ds.all _) = _
        rw [decide_eq_false hn]
        rfl
    | _ => exact iteT (k H (Same.refl H))
end
section
variable {P : Program} {w : World} {K : PySem.W.Frag} {mg : Str → Option Value} {base : Heap}
/-! ### is_item -/
def spIsItem (K : PySem.W.Frag) : Sp := fun vs H Q _ => ∃ (x : V) (d : PyData) (n : Int), vs = [x, .int n] ∧ DV K H x d ∧ ∀ H', Same H H' → Q (.bl (isItemD n d)) H'
theorem scIsItem : FnScope ["value", "width", "row_id", "fields"] ["value", "width"] (defScope sIsItem) := ⟨rfl, rfl, rfl, by decide +kernel, rfl, by decide +kernel, by decide +kernel⟩
theorem ok_isItem {f fI fA : Addr} {fd fdI fdA : FuncData} (F : Fun K "is_item" "is_item" sIsItem f fd) (T : TxtV mg)
    (GI : FnOk P w K mg base CX0 3 fI fdI ["value"] (spIsId K)) (kI : PySem.W.keepIn K (.ref fI) = true) (bI : L2.Binds K fdI ["value"] []) (mI : mg "is_id" = some (.ref fI))
    (GA : FnOk P w K mg base CX0 3 fA fdA ["value", "width"] (spAreFields K)) (kA : PySem.W.keepIn K (.ref fA) = true) (bA : L2.Binds K fdA ["value", "width"] []) (mA : mg "are_fields" = some (.ref fA)) :
    FnOk P w K mg base CX0 4 f fd ["value", "width"] (spIsItem K) := by
  refine F.ok scIsItem (fun vs H Q E h => ?_) (fun cdv A outer s H vs Q E hr h => ?_)
  · obtain ⟨x, d, n, rfl, _⟩ := h
    rfl
  · obtain ⟨x, d, n, rfl, hd, k⟩ := h
    refine ⟨_, pss_cons (ps_if (PW.pt (pw_or (pt_not (pt_val (pe_callB call_isi (by rfl) T.isi (by decide +kernel) (pa_cons (pv 0) (pa_cons (pe_bltn (v := .ty "tuple") (by rfl) T.tuple boot_tuple rfl) pa_nil)))))
          (pw_or1 (pt_cmpR op_ne (pe_callB call_len_seq (by rfl) T.len PySem.boot_len (pa_cons (pv 0) pa_nil)) pe_int (nomark _))))) (pss_one (ps_ret pe_bl)) pss_nil)
      (pss_cons (ps_asg (pv 0) (pg_tup (by rfl) (pgs_cons (pg_name (i := 2) scIsItem.nd rfl (Or.inl rfl)) (pgs_cons (pg_name (i := 3) scIsItem.nd rfl (Or.inl rfl)) pgs_nil))))
      (pss_one (ps_ret (pe_and (pe_call GI hr rfl mI kI bI .nil pass0 (pa_cons (pv 2) pa_nil)) (pe_one (pe_call GA hr rfl mA kA bA .nil pass0 (pa_cons (pv 3) (pa_cons (pv 1) pa_nil)))))))), ?_⟩
    obtain ⟨nm, ty, k1, k2⟩ := hd.kit
    refine ⟨_, rfl, _, _, _, _, _, rfl, .ty _, ty, k1, _, rfl, ?_⟩
    have no : isItemD n d = false → Q (.bl false) H := fun e => by
      have := k H (Same.refl H)
      rw [e] at this
      exact this
    cases hd with
    | tup hT hs =>
      rename_i a vs ds
      have hl := hs.length
      refine iteF ⟨_, rfl, a, _, rfl, .inr hT, rfl, _, rfl, ?_⟩
      by_cases h2 : ds.length = 2
      · obtain ⟨di, db, rfl⟩ : ∃ di db, ds = [di, db] := match ds, h2 with | [x, y], _ => ⟨x, y, rfl⟩
        cases hs with
        | cons pi t =>
          cases t with
          | cons pb t2 =>
            cases t2
            rename_i vi vb
            have hz : (!decide (V.int (([vi, vb].length : Nat) : Int) = V.int 2)) = false := rfl
            rw [hz]
            refine iteF ⟨_, rfl, a, _, rfl, hT, rfl, vi, [vb], rfl, vb, [], rfl, rfl, ?_⟩
            refine ⟨_, rfl, vi, rfl, pi.ty, _, rfl, ?_⟩
            have kk : ∀ H', Same H H' → Q (.bl (isItem2 n di db)) H' := k
            rw [pi.inD]
            cases hA : inD 1 1000000 di with
            | false =>
              have := kk H (Same.refl H)
              unfold isItem2 at this
              rw [hA] at this
              exact iteF this
            | true =>
              refine iteT ⟨_, rfl, _, rfl, vb, db, n, rfl, pb, fun H' s => ?_⟩
              have := kk H' s
              unfold isItem2 at this
              rw [hA] at this
              exact this
      · have hz : (!decide (V.int ((vs.length : Nat) : Int) = V.int 2)) = true := by
          rw [dInt]
          have : ¬ (((vs.length : Nat) : Int) = 2) := by omega
          simpa using this
        rw [hz]
        refine iteT (no ?_)
        match ds, h2 with
        | [], _ => rfl
        | [_], _ => rfl
        | [_, _], h2 => exact absurd rfl h2
        | _ :: _ :: _ :: _, _ => rfl
    | _ => exact iteT (no rfl)
/-! ### is_rule -/
def spIsRule (K : PySem.W.Frag) : Sp := fun vs H Q _ => ∃ (x : V) (d : PyData) (n : Int), vs = [x, .int n] ∧ DV K H x d ∧ ∀ H', Same H H' → Q (.bl (isRuleD n d)) H'
abbrev NR : List Str := ["value", "width", "columns", "column"]
theorem scIsRule : FnScope NR ["value", "width"] (defScope sIsRule) := ⟨rfl, rfl, rfl, by decide +kernel, rfl, by decide +kernel, by decide +kernel⟩
theorem ok_isRule {f fI fW fD : Addr} {fd fdI fdW fdD : FuncData} (F : Fun K "is_rule" "is_rule" sIsRule f fd) (T : TxtV mg) (TI : TxtI mg) (FW : Fun K "is_whole" "is_whole" sWhole fW fdW) (bW : L2.Binds K fdW ["value"] []) (mW : mg "is_whole" = some (.ref fW))
    (FD : Fun K "all_different" "all_different" sDiff fD fdD) (bD : L2.Binds K fdD ["numbers"] []) (mD : mg "all_different" = some (.ref fD))
    (GI : FnOk P w K mg base CX0 2 fI fdI ["value", "low", "high"] (spWithin K)) (kI : PySem.W.keepIn K (.ref fI) = true) (bI : L2.Binds K fdI ["value", "low", "high"] []) (mI : mg "is_within" = some (.ref fI)) :
    FnOk P w K mg base CX0 3 f fd ["value", "width"] (spIsRule K) := by
  have GW : FnOk P w K mg base CX0 1 fW fdW ["value"] (spWhole K) := ok_whole FW T
  have GD : FnOk P w K mg base CX0 1 fD fdD ["numbers"] (spDiff K) := ok_diff FD T
  obtain ⟨t2, tM⟩ := TI.most
  refine F.ok scIsRule (fun vs H Q E h => ?_) (fun cdv A outer s H vs Q E hr h => ?_)
  · obtain ⟨x, d, n, rfl, _⟩ := h
    rfl
  · obtain ⟨x, d, n, rfl, hd, k⟩ := h
    have hr1 : Room 1 _ := hr.mono (by decide)
    refine ⟨_, pss_cons (ps_if (PW.pt (pw_or (pt_not (pt_val (pe_callB call_isi (by rfl) T.isi (by decide +kernel) (pa_cons (pv 0) (pa_cons (pe_bltn (v := .ty "tuple") (by rfl) T.tuple boot_tuple rfl) pa_nil)))))
          (pw_or1 (pt_cmpR op_gt (pe_callB call_len_seq (by rfl) T.len PySem.boot_len (pa_cons (pv 0) pa_nil)) (pe_glob (v := .int 4) rfl tM ⟨_, rfl⟩) (nomark _))))) (pss_one (ps_ret pe_bl)) pss_nil)
      (pss_cons (ps_if (pt_not (pt_val (pe_callB (cr_all rfl) (by rfl) T.all (by decide +kernel) (pa_cons
          (pe_lc (own := [("column", 3)]) (g := gName 3) rfl scIsRule.nd (pi_tup (pv 0)) (blkOk_by (N := NR) (sc := defScope sIsRule) (by decide +kernel)) (fun _ _ _ _ _ => pg_name (i := 3) scIsRule.nd rfl (Or.inl rfl)) (fun _ _ _ _ _ => pts_nil)
            (fun _ _ _ _ _ => pe_call GW hr1 rfl mW FW.kp bW .nil pass0 (pa_cons (pv 3) pa_nil))) pa_nil)))) (pss_one (ps_ret pe_bl)) pss_nil)
      (pss_cons (ps_setLc (i := 2) (own := [("column", 3)]) (g := gName 3) rfl scIsRule.nd rfl rfl (sw_true rfl rfl rfl (by decide +kernel)) (pi_tup (pv 0)) (blkOk_by (N := NR) (sc := defScope sIsRule) (by decide +kernel)) (fun _ _ _ _ _ => pg_name (i := 3) scIsRule.nd rfl (Or.inl rfl)) (fun _ _ _ _ _ => pts_nil)
            (fun _ _ _ _ _ => pe_callB call_abs (by rfl) TI.abs (by decide +kernel) (pa_cons (pv 3) pa_nil)))
      (pss_one (ps_ret (pe_and (pe_callB (cr_all rfl) (by rfl) T.all (by decide +kernel) (pa_cons
          (pe_lc (own := [("column", 3)]) (g := gName 3) rfl scIsRule.nd (pi_list (pv 2)) (blkOk_by (N := NR) (sc := defScope sIsRule) (by decide +kernel)) (fun _ _ _ _ _ => pg_name (i := 3) scIsRule.nd rfl (Or.inl rfl)) (fun _ _ _ _ _ => pts_nil)
            (fun _ _ _ _ _ => pe_call GI hr rfl mI kI bI .nil pass0 (pa_cons (pv 3) (pa_cons pe_int (pa_cons (pv 1) pa_nil))))) pa_nil)) (pe_one (pe_call GD hr1 rfl mD FD.kp bD .nil pass0 (pa_cons (pv 2) pa_nil)))))))), ?_⟩
    obtain ⟨nm, ty, k1, k2⟩ := hd.kit
    refine ⟨_, rfl, _, _, _, _, _, rfl, .ty _, ty, k1, _, rfl, ?_⟩
    have no : isRuleD n d = false → ∀ H', Same H H' → Q (.bl false) H' := fun e H' s => by
      have := k H' s
      rw [e] at this
      exact this
    cases hd with
    | tup hT hs =>
      rename_i a vs ds
      have hl := hs.length
      have e0 : isRuleD n (.tuple ds) = isRuleL n ds := rfl
      refine iteF ⟨_, rfl, a, _, rfl, .inr hT, _, _, rfl, rfl, _, rfl, ?_⟩
      refine ite2 (fun c => ?_) (fun c => ?_)
      · have c' : (4 : Int) < ((vs.length : Nat) : Int) := of_decide_eq_true c
        refine no ?_ H (Same.refl H)
        rw [e0]
        unfold isRuleL
        have h4 : ¬ ds.length ≤ 4 := by omega
        rw [decide_eq_false h4]
        rfl
      · have c' : ¬ (4 : Int) < ((vs.length : Nat) : Int) := fun q => c (decide_eq_true q)
        have h4 : ds.length ≤ 4 := by omega
        refine ⟨_, rfl, a, rfl, ⟨_, hT⟩, fun D hD => ?_⟩
        refine lc_same (ds.map fun e => V.bl (wholeD e)) (by rw [List.length_map, hl]) (by omega) hT hD (fun i x y H' R hx hy s1 kR => ⟨rfl, ?_⟩) fun H1 s1 hL => ?_
        · obtain ⟨e, he, hv⟩ := hs.at hx
          rw [List.getElem?_map, he] at hy
          obtain rfl := Option.some.inj hy
          refine ⟨_, rfl, x, rfl, (hv.same s1).ty, ?_⟩
          rw [hv.whole]
          exact kR H' (Same.refl H')
        refine ⟨D, ds.map wholeD, rfl, SqL.of (by rw [List.map_map]; exact hL), _, rfl, ?_⟩
        have eall : (ds.map wholeD).all id = ds.all wholeD := by rw [List.all_map]; rfl
        rw [eall]
        cases hA : ds.all wholeD with
        | false =>
          refine iteT (no ?_ H1 s1)
          rw [e0]
          unfold isRuleL
          rw [hA]
          simp
        | true =>
          refine iteF ?_
          have ev := whole_all hs hA
          have e1 : isRuleL n ds = (((ds.map fun d => absI (intOf d)).all fun c => decide (1 ≤ c) && decide (c ≤ n)) && decide (ds.map fun d => absI (intOf d)).Nodup) := by
            unfold isRuleL
            rw [hA, decide_eq_true h4]
            rfl
          -- columns
          refine ⟨_, rfl, a, rfl, ⟨_, Same.tq s1 hT⟩, fun D2 hD2 => ?_⟩
          obtain ⟨cs, hcs⟩ : ∃ cs : List Int, cs = ds.map fun d => absI (intOf d) := ⟨_, rfl⟩
          have hcl : cs.length = ds.length := by rw [hcs, List.length_map]
          rw [← hcs] at e1
          refine lc_same (cs.map V.int) (by rw [List.length_map, hcl, hl]) (by omega) (Same.tq s1 hT) hD2 (fun i x y H' R hx hy s2 kR => ⟨rfl, ?_⟩) fun H2 s2 hL2 => ?_
          · rw [ev, List.getElem?_map, List.getElem?_map] at hx
            rw [hcs, List.getElem?_map, List.getElem?_map] at hy
            cases hq : ds[i]? with
            | none => rw [hq] at hx; cases hx
            | some e =>
              rw [hq] at hx hy
              obtain rfl := Option.some.inj hx
              obtain rfl := Option.some.inj hy
              exact ⟨_, rfl, _, rfl, kR H' (Same.refl H')⟩
          have s3 := s1.trans s2
          -- all and different
          refine ⟨_, rfl, D2, rfl, ⟨_, SqL.of hL2⟩, fun D3 hD3 => ?_⟩
          refine lc_list (K := K) (a := D2) (xs := cs.map V.int) (fun i H' => Same H2 H' ∧ H' D3 = some (.lst (((cs.take i).map fun c => V.bl (decide (1 ≤ c) && decide (c ≤ n)))))) ⟨Same.new hD3, upd_same⟩ (fun i H' _ q => SqL.of (q.1 _ _ hL2)) ?_ ?_
          · rintro i x H' hx ⟨s4, hL4⟩
            rw [List.getElem?_map] at hx
            obtain ⟨c, hc, rfl⟩ : ∃ c, cs[i]? = some c ∧ x = V.int c := by
              cases hq2 : cs[i]? with
              | none => rw [hq2] at hx; cases hx
              | some z => rw [hq2] at hx; exact ⟨z, rfl, (Option.some.inj hx).symm⟩
            have := lt_of_some hc
            refine ⟨rfl, _, rfl, _, rfl, _, _, _, rfl, tyInt K H' c, _, hL4, ?_, ?_, ?_⟩
            · rw [List.length_map, List.length_take, sizeLine_eq]
              omega
            · intro b u hb
              rw [upd_ne (ne_of_none hb hD3)]
              exact s4 b u hb
            · rw [upd_same, take_snoc hc, List.map_append]
              rfl
          · rintro H3 ⟨s4, hL3⟩
            rw [List.length_map, List.take_length] at hL3
            refine ⟨D3, cs.map fun c => decide (1 ≤ c) && decide (c ≤ n), rfl, SqL.of (by rw [List.map_map]; exact hL3), _, rfl, ?_⟩
            have eall2 : (cs.map fun c => decide (1 ≤ c) && decide (c ≤ n)).all id = cs.all fun c => decide (1 ≤ c) && decide (c ≤ n) := by rw [List.all_map]; rfl
            rw [eall2]
            have s5 := s3.trans s4
            cases hB : cs.all fun c => decide (1 ≤ c) && decide (c ≤ n) with
            | false =>
              refine iteF (no ?_ H3 s5)
              rw [e0, e1, hB]
              rfl
            | true =>
              refine iteT ⟨_, rfl, D2, cs, rfl, .inl (SqL.of (s4 _ _ hL2)), by omega, fun H5 s6 => ?_⟩
              have := k H5 (s5.trans s6)
              rw [e0, e1, hB, Bool.true_and] at this
              exact this
    | _ => exact iteT (no rfl H (Same.refl H))
end
theorem lc_sameL {K : PySem.W.Frag} {a : Addr} {xs : List V} {g : TG} {te : TE} {vs : List Nat} {σ : L2.St} {H1 : Hp} {D : Addr} {Qd : Hp → Prop} (ys : List V) (hl : ys.length = xs.length) (hsz : xs.length ≤ 1000000) (hT : SqL K H1 a xs) (hD : H1 D = none)
    (turn : ∀ (i : Nat) (x y : V) (H' : Hp) (R : VK), xs[i]? = some x → ys[i]? = some y → Same H1 H' → (∀ H4, Same H' H4 → R y H4) → g x (wipe σ vs) H' fun σ2 H2 => wipe σ2 vs = wipe σ vs ∧ te σ2 H2 R)
    (fin : ∀ H', Same H1 H' → H' D = some (.lst ys) → Qd H') :
    ∃ W : Nat → Nat → Hp → Prop, (∃ m, W 0 m (upd H1 D (.lst []))) ∧ ∀ (i m : Nat) (H : Hp), W i m H → (Itl K a).stop i H ∧ Qd H ∨ (Itl K a).go i H ∧ ∃ Nx : Hp → Prop, (∀ (H' : Hp), Nx H' → ∃ m', m' < m ∧ W (i + 1) m' H') ∧
      ∀ (x : V) (H' : Hp), (Itl K a).yld i H x H' → g x (wipe σ vs) H' fun σ2 H2 => wipe σ2 vs = wipe σ vs ∧ tYes σ2 H2 fun b H3 => if b = true then te σ2 H3 fun y H4 => ∃ acc, H4 D = some (.lst acc) ∧ acc.length < sizeLine ∧ Nx (upd H4 D (.lst (acc ++ [y]))) else Nx H3 := by
  refine lc_list (K := K) (a := a) (xs := xs) (fun i H' => Same H1 H' ∧ H' D = some (.lst (ys.take i))) ⟨Same.new hD, upd_same⟩ (fun i H' _ q => Same.sq q.1 hT) ?_ ?_
  · rintro i x H' hx ⟨s1, hL⟩
    have hi := lt_of_some hx
    have hy : ys[i]? = some ys[i] := List.getElem?_eq_getElem (by omega)
    refine turn i x ys[i] H' _ hx hy s1 fun H4 s2 => ⟨_, s2 _ _ hL, ?_, ?_, ?_⟩
    · rw [List.length_take, sizeLine_eq]; omega
    · intro b u hb
      rw [upd_ne (ne_of_none hb hD)]
      exact s2 _ _ (s1 _ _ hb)
    · rw [upd_same, take_snoc hy]
  · rintro H' ⟨s1, hL⟩
    rw [← hl, List.take_length] at hL
    exact fin H' s1 hL
/-- ids all right, no two alike -/
def idsL (ds : List PyData) : Bool := ds.all (inD 1 1000000) && decide (ds.map intOf).Nodup
def isOrderD : PyData → Bool
  | .list ds => idsL ds
  | _ => false
theorem inD_whole {lo hi : Int} : ∀ {d : PyData}, inD lo hi d = true → wholeD d = true
  | .int _, _ => rfl
  | .none, h => by cases h
  | .bool _, h => by cases h
  | .str _, h => by cases h
  | .list _, h => by cases h
  | .tuple _, h => by cases h
  | .dict _, h => by cases h
theorem all_inD_whole {lo hi : Int} {ds : List PyData} (h : ds.all (inD lo hi) = true) : ds.all wholeD = true := List.all_eq_true.mpr fun d hd => inD_whole (List.all_eq_true.mp h d hd)
section
variable {P : Program} {w : World} {K : PySem.W.Frag} {mg : Str → Option Value} {base : Heap}
/-! ### is_order -/
def spIsOrder (K : PySem.W.Frag) : Sp := fun vs H Q _ => ∃ (x : V) (d : PyData), vs = [x] ∧ DV K H x d ∧ (∀ ds, d = .list ds → fewD ds) ∧ ∀ H', Same H H' → Q (.bl (isOrderD d)) H'
theorem scIsOrder : FnScope ["value", "row_id"] ["value"] (defScope sIsOrder) := ⟨rfl, rfl, rfl, by decide +kernel, rfl, by decide +kernel, by decide +kernel⟩
theorem ok_isOrder {f fI fD : Addr} {fd fdI fdD : FuncData} (F : Fun K "is_order" "is_order" sIsOrder f fd) (T : TxtV mg)
    (FD : Fun K "all_different" "all_different" sDiff fD fdD) (bD : L2.Binds K fdD ["numbers"] []) (mD : mg "all_different" = some (.ref fD))
    (GI : FnOk P w K mg base CX0 3 fI fdI ["value"] (spIsId K)) (kI : PySem.W.keepIn K (.ref fI) = true) (bI : L2.Binds K fdI ["value"] []) (mI : mg "is_id" = some (.ref fI)) :
    FnOk P w K mg base CX0 4 f fd ["value"] (spIsOrder K) := by
  have GD : FnOk P w K mg base CX0 1 fD fdD ["numbers"] (spDiff K) := ok_diff FD T
  refine F.ok scIsOrder (fun vs H Q E h => ?_) (fun cdv A outer s H vs Q E hr h => ?_)
  · obtain ⟨x, d, rfl, _⟩ := h
    rfl
  · obtain ⟨x, d, rfl, hd, hln, k⟩ := h
    have hr1 : Room 1 _ := hr.mono (by decide)
    refine ⟨_, pss_cons (ps_if (pt_not (pt_val (pe_callB call_isi (by rfl) T.isi (by decide +kernel) (pa_cons (pv 0) (pa_cons (pe_bltn (v := .ty "list") (by rfl) T.list boot_list rfl) pa_nil))))) (pss_one (ps_ret pe_bl)) pss_nil)
      (pss_one (ps_ret (pe_and (pe_callB (cr_all rfl) (by rfl) T.all (by decide +kernel) (pa_cons
          (pe_lc (own := [("row_id", 1)]) (g := gName 1) rfl scIsOrder.nd (pi_list (pv 0)) (blkOk_by (N := ["value", "row_id"]) (sc := defScope sIsOrder) (by decide +kernel)) (fun _ _ _ _ _ => pg_name (i := 1) scIsOrder.nd rfl (Or.inl rfl)) (fun _ _ _ _ _ => pts_nil)
            (fun _ _ _ _ _ => pe_call GI hr rfl mI kI bI .nil pass0 (pa_cons (pv 1) pa_nil))) pa_nil)) (pe_one (pe_call GD hr1 rfl mD FD.kp bD .nil pass0 (pa_cons (pv 0) pa_nil)))))), ?_⟩
    obtain ⟨nm, ty, k1, k2⟩ := hd.kit
    refine ⟨_, rfl, _, _, _, _, _, rfl, .ty _, ty, k2, _, rfl, ?_⟩
    cases hd with
    | lst hT hs =>
      rename_i a vs ds
      have hl := hs.length
      obtain ⟨hd6, hd4⟩ := hln ds rfl
      refine iteF ⟨_, rfl, a, rfl, ⟨_, hT⟩, fun D hD => ?_⟩
      refine lc_sameL (ds.map fun e => V.bl (inD 1 1000000 e)) (by rw [List.length_map, hl]) (by omega) hT hD (fun i x y H' R hx hy s1 kR => ⟨rfl, ?_⟩) fun H1 s1 hL => ?_
      · obtain ⟨e, he, hv⟩ := hs.at hx
        rw [List.getElem?_map, he] at hy
        obtain rfl := Option.some.inj hy
        refine ⟨_, rfl, x, rfl, (hv.same s1).ty, ?_⟩
        rw [hv.inD]
        exact kR H' (Same.refl H')
      refine ⟨D, ds.map (inD 1 1000000), rfl, SqL.of (by rw [List.map_map]; exact hL), _, rfl, ?_⟩
      have eall : (ds.map (inD 1 1000000)).all id = ds.all (inD 1 1000000) := by rw [List.all_map]; rfl
      rw [eall]
      have kk : ∀ H', Same H H' → Q (.bl (ds.all (inD 1 1000000) && decide (ds.map intOf).Nodup)) H' := k
      cases hA : ds.all (inD 1 1000000) with
      | false =>
        have := kk H1 s1
        rw [hA] at this
        exact iteF this
      | true =>
        have ev := whole_all hs (all_inD_whole hA)
        refine iteT ⟨_, rfl, a, ds.map intOf, rfl, .inl (by rw [← ev]; exact Same.sq s1 hT), by rw [List.length_map]; exact hd4 (all_inD_whole hA), fun H5 s5 => ?_⟩
        have := kk H5 (s1.trans s5)
        rw [hA] at this
        exact this
    | _ => exact iteT (k H (Same.refl H))
end
open Sem (wp)
/-! ### code that doesn't wake the generators that sleep: they stay as they are -/
def asleep : GenState → Bool
  | .suspended .. => true
  | _ => false
/-- the same line, but nothing goes on from it -/
def deadF (F : Frame) : Frame := .ret (fun _ => .unsupported "") none false [] F.where_.1 F.where_.2 []
def dead : GenState → GenState
  | .suspended _ _ c p fs _ => .suspended (fun _ => .unsupported "") [] c p (fs.map deadF) false
  | x => x
theorem dead_seen (x : GenState) : (dead x).seen = x.seen := by
  cases x with
  | suspended k l c p fs cl =>
    show (GenStatus.suspended, some ((c, p) :: (fs.map deadF).map Frame.where_)) = (GenStatus.suspended, some ((c, p) :: fs.map Frame.where_))
    rw [List.map_map]
    congr 3
  | fresh c => rfl
  | running => rfl
  | finished => rfl
/-- no generator's frame among them -/
def NoG (fs : List Frame) : Prop := ∀ F ∈ fs, ∃ k h g l c p kp, F = .ret k h g l c p kp
def NoGS : GenState → Prop
  | .suspended _ _ _ _ fs _ => NoG fs
  | _ => True
def NoGE : End → Prop
  | .susp _ _ _ _ _ _ fs => NoG fs
  | _ => True
theorem NoG.nil : NoG [] := fun _ h => by cases h
theorem NoG.cons {k h g l c p kp fs} (q : NoG fs) : NoG (.ret k h g l c p kp :: fs) := fun F hF => by
  rcases List.mem_cons.mp hF with e | e
  · exact ⟨_, _, _, _, _, _, _, e⟩
  · exact q F e
theorem NoG.tail {F : Frame} {fs} (q : NoG (F :: fs)) : NoG fs := fun F' h => q F' (List.mem_cons_of_mem _ h)
theorem NoG.append {fs gs} (a : NoG fs) (b : NoG gs) : NoG (fs ++ gs) := fun F h => (List.mem_append.mp h).elim (a F) (b F)
theorem NoG.split : ∀ {fs : List Frame}, NoG fs → splitAtGen fs = none
  | [], _ => rfl
  | F :: fs, q => by
    obtain ⟨k, h, g, l, c, p, kp, rfl⟩ := q _ List.mem_cons_self
    show (splitAtGen fs).map _ = none
    rw [NoG.split q.tail]; rfl
def pick (G : Array GenState) (i : Nat) (x : GenState) : GenState :=
  match G[i]? with
  | some y => if asleep y = true then y else x
  | none => x
def back (G : Array GenState) (s : Shared) : Shared := { s with gens := s.gens.mapIdx (pick G) }
structure Put (G : Array GenState) (s : Shared) : Prop where
  sz : G.size ≤ s.gens.size
  at_ : ∀ (i : Nat) (y : GenState), G[i]? = some y → asleep y = true → s.gens[i]? = some (dead y)
  no : ∀ (i : Nat) (x : GenState), s.gens[i]? = some x → NoGS x
section
variable {M : Model} {G : Array GenState} {s : Shared}
theorem back_size : (back G s).gens.size = s.gens.size := by
  show (s.gens.mapIdx (pick G)).size = _
  rw [Array.size_mapIdx]
theorem back_get (i : Nat) : (back G s).gens[i]? = s.gens[i]?.map (pick G i) := by
  show (s.gens.mapIdx (pick G))[i]? = _
  rw [Array.getElem?_mapIdx]
theorem pick_off {i : Nat} {x : GenState} (h : ∀ y, G[i]? = some y → asleep y = false) : pick G i x = x := by
  unfold pick
  split
  · rename_i y e
    rw [h y e, if_neg Bool.false_ne_true]
  · rfl
theorem pick_seen {i : Nat} {x : GenState} (h : Put G s) (e : s.gens[i]? = some x) : (pick G i x).seen = x.seen := by
  unfold pick
  split
  · rename_i y ey
    cases a : asleep y with
    | false => rw [if_neg Bool.false_ne_true]
    | true =>
      rw [if_pos rfl]
      have q := h.at_ i y ey a
      rw [e] at q
      rw [Option.some.inj q, dead_seen]
  · rfl
theorem shared_ext {a b : Shared} (h1 : a.heap = b.heap) (h2 : a.gens = b.gens) (h3 : a.drawn = b.drawn) (h4 : a.toks = b.toks) (h5 : a.os = b.os) : a = b := by
  cases a; cases b; cases h1; cases h2; cases h3; cases h4; cases h5; rfl
theorem back_set {g : Nat} {x : GenState} (h : ∀ y, G[g]? = some y → asleep y = false) : back G (s.setGen g x) = (back G s).setGen g x := by
  refine shared_ext rfl ?_ rfl rfl rfl
  refine Array.ext_getElem? fun i => ?_
  rw [back_get]
  show ((s.gens.setIfInBounds g x)[i]?).map (pick G i) = ((back G s).gens.setIfInBounds g x)[i]?
  by_cases e : g = i
  · subst e
    by_cases hl : g < s.gens.size
    · rw [Array.getElem?_setIfInBounds_self_of_lt hl, Array.getElem?_setIfInBounds_self_of_lt (by rw [back_size]; exact hl)]
      show some (pick G g x) = some x
      rw [pick_off h]
    · rw [Array.getElem?_eq_none (by rw [Array.size_setIfInBounds]; omega), Array.getElem?_eq_none (by rw [Array.size_setIfInBounds, back_size]; omega)]
      rfl
  · rw [Array.getElem?_setIfInBounds_ne e, Array.getElem?_setIfInBounds_ne e, back_get]
theorem back_push {x : GenState} (h : G.size ≤ s.gens.size) : back G { s with gens := s.gens.push x } = { back G s with gens := (back G s).gens.push x } := by
  refine shared_ext rfl ?_ rfl rfl rfl
  refine Array.ext_getElem? fun i => ?_
  rw [back_get]
  show ((s.gens.push x)[i]?).map (pick G i) = ((back G s).gens.push x)[i]?
  rw [Array.getElem?_push, Array.getElem?_push, back_size, back_get]
  by_cases e : i = s.gens.size
  · rw [if_pos e, if_pos e]
    show some (pick G i x) = some x
    rw [pick_off fun y hy => by
      rw [Array.getElem?_eq_none (by omega)] at hy
      cases hy]
  · rw [if_neg e, if_neg e]
theorem Put.set {g : Nat} {x : GenState} (P : Put G s) (h : ∀ y, G[g]? = some y → asleep y = false) (hx : NoGS x) : Put G (s.setGen g x) where
  sz := by
    show _ ≤ (s.gens.setIfInBounds g x).size
    rw [Array.size_setIfInBounds]; exact P.sz
  at_ := fun i y e a => by
    show (s.gens.setIfInBounds g x)[i]? = _
    have ne : g ≠ i := fun z => by
      subst z
      rw [h y e] at a; cases a
    rw [Array.getElem?_setIfInBounds_ne ne]
    exact P.at_ i y e a
  no := fun i z e => by
    have e : (s.gens.setIfInBounds g x)[i]? = some z := e
    by_cases q : g = i
    · subst q
      by_cases hl : g < s.gens.size
      · rw [Array.getElem?_setIfInBounds_self_of_lt hl] at e
        rw [← Option.some.inj e]; exact hx
      · rw [Array.getElem?_eq_none (by rw [Array.size_setIfInBounds]; omega)] at e
        cases e
    · rw [Array.getElem?_setIfInBounds_ne q] at e
      exact P.no i z e
theorem Put.push {x : GenState} (P : Put G s) (hx : NoGS x) : Put G { s with gens := s.gens.push x } where
  sz := by
    show _ ≤ (s.gens.push x).size
    rw [Array.size_push]; have := P.sz; omega
  at_ := fun i y e a => by
    show (s.gens.push x)[i]? = _
    have q := P.at_ i y e a
    have hl : i < s.gens.size := (Array.getElem?_eq_some_iff.mp q).1
    rw [Array.getElem?_push, if_neg (by omega)]
    exact q
  no := fun i z e => by
    have e : (s.gens.push x)[i]? = some z := e
    rw [Array.getElem?_push] at e
    split at e
    · rw [← Option.some.inj e]; exact hx
    · exact P.no i z e
theorem Put.heap {h : Heap} {t : Nat} {d : Drawn} {o : OsState} (P : Put G s) : Put G { s with heap := h, toks := t, drawn := d, os := o } := ⟨P.sz, P.at_, P.no⟩
theorem no_unsup {Γ : PySem.Ctx} {p : Pos} {m : String} {fs : List Frame} {s s' : Shared} {e : End} : ¬ Runs M Γ p (.unsupported m) fs s e s' := by
  intro h
  generalize ht : (Sem.unsupported m : Sem PySem.Fin) = t at h
  induction h with
  | segRet _ _ ih _ => exact ih ht
  | segGen _ _ ih _ => exact ih ht
  | segSuspOut _ _ ih => exact ih ht
  | segSuspGen _ _ _ _ ih _ => exact ih ht
  | _ => cases ht
theorem off_of {g : Nat} {x : GenState} (P : Put G s) (e : s.gens[g]? = some x) (n : ∀ k l c p fs cl, x = .suspended k l c p fs cl → ∃ r, k r ≠ .unsupported "") : ∀ y, G[g]? = some y → asleep y = false := fun y hy => by
  cases a : asleep y with
  | false => rfl
  | true =>
    have q := P.at_ g y hy a
    rw [e] at q
    cases y with
    | suspended k l c p fs cl =>
      obtain ⟨r, hr⟩ := n _ _ _ _ _ _ (Option.some.inj q)
      exact absurd rfl hr
    | fresh c => cases a
    | running => cases a
    | finished => cases a
theorem back_some {g : Nat} {x : GenState} (e : s.gens[g]? = some x) (h : ∀ y, G[g]? = some y → asleep y = false) : (back G s).gens[g]? = some x := by
  rw [back_get, e]
  show some (pick G g x) = _
  rw [pick_off h]
theorem noGE_state {e : End} (h : NoGE e) : NoGS e.genState := by
  cases e with
  | ret r => exact True.intro
  | susp v g l k c p fs => exact h
theorem runs_back {Γ : PySem.Ctx} {p : Pos} {t : Sem PySem.Fin} {fs : List Frame} {s s' : Shared} {e : End} (h : Runs M Γ p t fs s e s') : NoG fs → Put G s → Runs M Γ p t fs (back G s) e (back G s') ∧ Put G s' ∧ NoGE e := by
  induction h with
  | done => exact fun _ P => ⟨.done, P, True.intro⟩
  | raise => exact fun _ P => ⟨.raise, P, True.intro⟩
  | again hq _ ih => exact fun n P => let ⟨a, b⟩ := ih .nil P; ⟨.again hq a, b⟩
  | rule _ ih => exact fun n P => let ⟨a, b⟩ := ih .nil P; ⟨.rule a, b⟩
  | «at» _ ih => exact fun n P => let ⟨a, b⟩ := ih .nil P; ⟨.at a, b⟩
  | load ho _ ih => exact fun n P => let ⟨a, b⟩ := ih .nil P; ⟨.load ho a, b⟩
  | update ho _ ih => exact fun n P => let ⟨a, b⟩ := ih .nil P.heap; ⟨.update ho a, b⟩
  | loadIfAlive _ ih => exact fun n P => let ⟨a, b⟩ := ih .nil P; ⟨.loadIfAlive a, b⟩
  | point _ ih => exact fun n P => let ⟨a, b⟩ := ih .nil P; ⟨.point a, b⟩
  | alloc _ ih => exact fun n P => let ⟨a, b⟩ := ih .nil P.heap; ⟨.alloc a, b⟩
  | fresh _ ih => exact fun n P => let ⟨a, b⟩ := ih .nil P.heap; ⟨.fresh a, b⟩
  | ask _ ih => exact fun n P => let ⟨a, b⟩ := ih .nil P; ⟨.ask a, b⟩
  | choose hn _ ih => exact fun n P => let ⟨a, b⟩ := ih .nil P.heap; ⟨.choose hn a, b⟩
  | os _ ih => exact fun n P => let ⟨a, b⟩ := ih .nil P.heap; ⟨.os a, b⟩
  | handled _ ih => exact fun n P => let ⟨a, b⟩ := ih .nil P; ⟨.handled a, b⟩
  | genState hg _ ih =>
    refine fun n P => let ⟨a, b⟩ := ih .nil P; ⟨.genState (st := pick G _ _) (by rw [back_get, hg]; rfl) ?_, b⟩
    rw [pick_seen P hg]; exact a
  | stack _ ih => exact fun n P => let ⟨a, b⟩ := ih .nil P; ⟨.stack a, b⟩
  | thread _ ih => exact fun n P => let ⟨a, b⟩ := ih .nil P; ⟨.thread a, b⟩
  | newGen _ ih =>
    refine fun n P => let ⟨a, b⟩ := ih .nil (P.push True.intro); ⟨.newGen ?_, b⟩
    rw [back_push P.sz] at a
    rw [back_size]; exact a
  | call _ _ ih1 ih2 =>
    refine fun n P => ?_
    obtain ⟨a1, b1, _⟩ := ih1 .nil P
    obtain ⟨a2, b2⟩ := ih2 .nil b1
    exact ⟨.call a1 a2, b2⟩
  | callSusp _ ih =>
    refine fun n P => ?_
    obtain ⟨a1, b1, c1⟩ := ih .nil P
    exact ⟨.callSusp a1, b1, NoG.append c1 (.cons .nil)⟩
  | yield => exact fun _ P => ⟨.yield, P, NoG.nil⟩
  | resumeFresh hg _ hq _ ih1 ih2 =>
    refine fun n P => ?_
    have off := off_of P hg fun _ _ _ _ _ _ z => by cases z
    obtain ⟨a1, b1, c1⟩ := ih1 .nil (P.set off True.intro)
    obtain ⟨a2, b2⟩ := ih2 .nil (b1.set off (noGE_state c1))
    rw [back_set off] at a1 a2
    exact ⟨.resumeFresh (back_some hg off) a1 hq a2, b2⟩
  | resumeSuspended hg h1 hq _ ih1 ih2 =>
    refine fun n P => ?_
    have off := off_of P hg fun _ _ _ _ _ _ z => by
      cases z
      exact ⟨_, fun q => by rw [q] at h1; exact no_unsup h1⟩
    obtain ⟨a1, b1, c1⟩ := ih1 (P.no _ _ hg) (P.set off True.intro)
    obtain ⟨a2, b2⟩ := ih2 .nil (b1.set off (noGE_state c1))
    rw [back_set off] at a1 a2
    exact ⟨.resumeSuspended (back_some hg off) a1 hq a2, b2⟩
  | resumeJustStarted hg hv _ ih =>
    refine fun n P => let ⟨a, b⟩ := ih .nil P; ⟨.resumeJustStarted (back_some hg (off_of P hg fun _ _ _ _ _ _ z => by cases z)) hv a, b⟩
  | resumeThrowFresh hg _ ih =>
    refine fun n P => ?_
    have off := off_of P hg fun _ _ _ _ _ _ z => by cases z
    obtain ⟨a, b⟩ := ih .nil (P.set off True.intro)
    rw [back_set off] at a
    exact ⟨.resumeThrowFresh (back_some hg off) a, b⟩
  | resumeRunning hg _ ih => exact fun n P => let ⟨a, b⟩ := ih .nil P; ⟨.resumeRunning (back_some hg (off_of P hg fun _ _ _ _ _ _ z => by cases z)) a, b⟩
  | resumeFinished hg _ ih => exact fun n P => let ⟨a, b⟩ := ih .nil P; ⟨.resumeFinished (back_some hg (off_of P hg fun _ _ _ _ _ _ z => by cases z)) a, b⟩
  | segRet _ _ ih1 ih2 =>
    refine fun n P => ?_
    obtain ⟨a1, b1, _⟩ := ih1 .nil P
    obtain ⟨a2, b2⟩ := ih2 n.tail b1
    exact ⟨.segRet a1 a2, b2⟩
  | segGen _ _ ih1 ih2 =>
    refine fun n P => ?_
    obtain ⟨k, h, g, l, c, p, kp, z⟩ := n _ List.mem_cons_self
    cases z
  | segSuspOut hs _ ih =>
    refine fun n P => ?_
    obtain ⟨a1, b1, c1⟩ := ih .nil P
    exact ⟨.segSuspOut hs a1, b1, NoG.append c1 n⟩
  | segSuspGen hs _ _ _ _ _ =>
    refine fun n P => ?_
    rw [n.split] at hs
    cases hs

theorem wp_back {α : Type} {Γ : PySem.Ctx} (t : Sem α) : ∀ (Q : α → Pos → Shared → Prop) (E : Value → Pos → Shared → Prop) (p : Pos) (s : Shared), Put G s → wp M Γ t Q E p s →
    wp M Γ t (fun a p' s' => ∃ s1, Put G s1 ∧ s' = back G s1 ∧ Q a p' s1) (fun e p' s' => ∃ s1, Put G s1 ∧ s' = back G s1 ∧ E e p' s1) p (back G s) := by
  induction t with
  | pure a => exact fun Q E p s P h => ⟨s, P, rfl, h⟩
  | raise e => exact fun Q E p s P h => ⟨s, P, rfl, h⟩
  | unsupported _ => exact fun Q E p s _ h => h
  | finish _ => exact fun Q E p s _ h => h
  | rule _ k ih => exact fun Q E p s P h => ih () Q E p s P h
  | «at» p' k ih => exact fun Q E p s P h => ih () Q E p' s P h
  | load a _ k ih => exact fun Q E p s P ⟨o, ho, h⟩ => ⟨o, ho, ih o Q E p s P h⟩
  | update a _ f k ih => exact fun Q E p s P h => ⟨h.1, ih () Q E p _ P.heap h.2⟩
  | loadIfAlive a k ih => exact fun Q E p s P h => ih _ Q E p s P h
  | point _ k ih => exact fun Q E p s P h => ih () Q E p s P h
  | register _ _ => exact fun Q E p s _ h => h
  | alloc o k ih => exact fun Q E p s P h => ih _ Q E p _ P.heap h
  | fresh k ih => exact fun Q E p s P h => ih _ Q E p _ P.heap h
  | ask k ih => exact fun Q E p s P h => ih _ Q E p s P h
  | choose src m k ih => exact fun Q E p s P h => ⟨h.1, ih _ Q E p _ P.heap h.2⟩
  | os q _ k ih => exact fun Q E p s P h => ih _ Q E p _ P.heap h
  | call c hd _ _ k ih =>
    rintro Q E p s P ⟨r, s', hr, h⟩
    obtain ⟨a, b, _⟩ := runs_back (show Runs M _ _ _ _ _ _ _ from hr) .nil P
    exact ⟨r, _, a, ih r Q E p s' b h⟩
  | handled own k ih => exact fun Q E p s P h => ih _ Q E p s P h
  | genState g k ih =>
    rintro Q E p s P ⟨st, hs, h⟩
    refine ⟨pick G g st, by rw [back_get, hs]; rfl, ?_⟩
    rw [pick_seen P hs]
    exact ih _ Q E p s P h
  | newGen c k ih =>
    intro Q E p s P h
    have q := ih _ Q E p _ (P.push (x := .fresh c) True.intro) h
    rw [back_push P.sz] at q
    show wp M Γ (k (back G s).gens.size) _ _ p { back G s with gens := (back G s).gens.push (.fresh c) }
    rw [back_size]
    exact q
  | resume g r l k ih =>
    rintro Q E p s P ⟨res, s', hw, h⟩
    cases e : s.gens[g]? with
    | none =>
      unfold Wakes at hw
      rw [e] at hw
      exact hw.elim
    | some x =>
      have go : (∀ y, G[g]? = some y → asleep y = false) → Wakes M Γ p g r (back G s) res (back G s') ∧ Put G s' := by
        intro off
        unfold Wakes at hw ⊢
        rw [back_some e off]
        rw [e] at hw
        cases x with
        | fresh c =>
          cases r with
          | send v =>
            cases v
            case none =>
              obtain ⟨e1, s1, hr, hq, hres, hs⟩ := hw
              obtain ⟨a1, b1, c1⟩ := runs_back hr .nil (P.set off True.intro)
              rw [back_set off] at a1
              subst hs
              exact ⟨⟨e1, _, a1, hq, hres, by rw [back_set off]⟩, b1.set off (noGE_state c1)⟩
            all_goals (obtain ⟨h1, h2⟩ := hw; subst h2; exact ⟨⟨h1, rfl⟩, P⟩)
          | throw v =>
            obtain ⟨h1, h2⟩ := hw
            subst h2
            exact ⟨⟨h1, by rw [back_set off]⟩, P.set off True.intro⟩
        | suspended k₀ l₀ c₀ p₀ fs cl =>
          obtain ⟨e1, s1, hr, hq, hres, hs⟩ := hw
          obtain ⟨a1, b1, c1⟩ := runs_back hr (P.no _ _ e) (P.set off True.intro)
          rw [back_set off] at a1
          subst hs
          exact ⟨⟨e1, _, a1, hq, hres, by rw [back_set off]⟩, b1.set off (noGE_state c1)⟩
        | running => obtain ⟨h1, h2⟩ := hw; subst h2; exact ⟨⟨h1, rfl⟩, P⟩
        | finished => obtain ⟨h1, h2⟩ := hw; subst h2; exact ⟨⟨h1, rfl⟩, P⟩
      have off := off_of P e fun k₀ l₀ c₀ p₀ fs cl z => by
        subst z
        unfold Wakes at hw
        rw [e] at hw
        obtain ⟨e1, s1, hr, _⟩ := hw
        exact ⟨r, fun q => by rw [q] at hr; exact no_unsup hr⟩
      obtain ⟨a, b⟩ := go off
      exact ⟨res, _, a, ih res Q E p s' b h⟩
  | yield _ _ _ _ => exact fun Q E p s _ h => h
  | stack k ih => exact fun Q E p s P h => ih _ Q E p s P h
  | fork _ _ => exact fun Q E p s _ h => h
  | thread k ih => exact fun Q E p s P h => ih _ Q E p s P h
  | await _ _ _ _ _ => exact fun Q E p s _ h => h
/-- all that sleeps can't be woken -/
def kill (s : Shared) : Shared := { s with gens := s.gens.map dead }
theorem put_kill (s : Shared) : Put s.gens (kill s) where
  sz := by
    show _ ≤ (s.gens.map dead).size
    rw [Array.size_map]; exact Nat.le_refl _
  at_ := fun i y e _ => by
    show (s.gens.map dead)[i]? = _
    rw [Array.getElem?_map, e]; rfl
  no := fun i x e => by
    have e : (s.gens.map dead)[i]? = some x := e
    rw [Array.getElem?_map] at e
    cases q : s.gens[i]? with
    | none => rw [q] at e; cases e
    | some y =>
      rw [q] at e
      have e := Option.some.inj e
      subst e
      cases y with
      | suspended k l c p fs cl =>
        intro F hF
        obtain ⟨F', _, e'⟩ := List.mem_map.mp hF
        exact ⟨_, _, _, _, _, _, _, e'.symm⟩
      | fresh c => exact True.intro
      | running => exact True.intro
      | finished => exact True.intro
theorem back_kill (s : Shared) : back s.gens (kill s) = s := by
  refine shared_ext rfl ?_ rfl rfl rfl
  refine Array.ext_getElem? fun i => ?_
  rw [back_get]
  show ((s.gens.map dead)[i]?).map _ = _
  rw [Array.getElem?_map]
  cases e : s.gens[i]? with
  | none => rfl
  | some x =>
    show some (pick s.gens i (dead x)) = some x
    unfold pick
    rw [e]
    dsimp only
    cases a : asleep x with
    | true => rw [if_pos rfl]
    | false =>
      rw [if_neg Bool.false_ne_true]
      cases x with
      | suspended k l c p fs cl => cases a
      | fresh c => rfl
      | running => rfl
      | finished => rfl
/-- what is shown of a state in which nothing that sleeps can be woken: all that sleeps stays as it is -/
theorem wpAny_still {α : Type} {A : Around} {t : Sem α} {Q : α → Shared → Prop} {E : Value → Shared → Prop} {s : Shared} (h : wpAny M A t Q E (kill s)) :
    wpAny M A t (fun a s' => ∃ s1, Put s.gens s1 ∧ s' = back s.gens s1 ∧ Q a s1) (fun e s' => ∃ s1, Put s.gens s1 ∧ s' = back s.gens s1 ∧ E e s1) s := by
  intro Γ p hΓ
  have q := wp_back t _ _ p _ (put_kill s) (h Γ p hΓ)
  rw [back_kill] at q
  exact q
theorem allBare_kill {s : Shared} (h : AllBare s.gens) : AllBare (kill s).gens := fun y hy => by
  have hy : y ∈ s.gens.map dead := hy
  obtain ⟨x, hx, e⟩ := Array.mem_map.mp hy
  subst e
  cases x with
  | suspended k l c p fs cl => rfl
  | fresh c => rfl
  | running => rfl
  | finished => rfl
theorem allBare_back {G : Array GenState} {s : Shared} (hG : AllBare G) (h : AllBare s.gens) : AllBare (back G s).gens := fun y hy => by
  obtain ⟨i, hi, e⟩ := Array.mem_iff_getElem.mp hy
  have q : (back G s).gens[i]? = some y := by rw [Array.getElem?_eq_getElem hi, e]
  rw [back_get] at q
  cases z : s.gens[i]? with
  | none => rw [z] at q; cases q
  | some x =>
    rw [z] at q
    have q : pick G i x = y := Option.some.inj q
    have hx := h x (Array.mem_of_getElem? z)
    unfold pick at q
    split at q
    · rename_i u eu
      split at q
      · subst q; exact hG u (Array.mem_of_getElem? eu)
      · subst q; exact hx
    · subst q; exact hx
theorem back_sleeps {G : Array GenState} {s : Shared} {i : Nat} {y : GenState} (P : Put G s) (e : G[i]? = some y) (a : asleep y = true) : (back G s).gens[i]? = some y := by
  rw [back_get, P.at_ i y e a]
  show some (pick G i (dead y)) = _
  unfold pick
  rw [e]
  dsimp only
  rw [if_pos a]
end
/-! ### a stretch of a generator's code, up to where it sleeps or ends -/
/-- from here the code c comes to an end of which Φ holds -/
def Way (M : Model) (A : Around) (Φ : End → Shared → Prop) (c : Code) (t : Sem PySem.Fin) (fs : List Frame) (s : Shared) : Prop :=
  ∀ (Γ : PySem.Ctx) (p : Pos), Γ.code = c → Γ.Woken A → ∃ e s', Runs M Γ p t fs s e s' ∧ Φ e s'
section
variable {M : Model} {A : Around} {Φ : End → Shared → Prop} {c : Code} {fs : List Frame} {s : Shared}
theorem way_wrap {α : Type} {m : Sem α} {K : α → Sem PySem.Fin} {J : Value → Sem PySem.Fin} {gd : Bool → Bool} {lv : List Value → List Value}
    (h : wpAny M (A.over c fs) m (fun a s' => Way M A Φ c (K a) fs s') (fun x s' => Way M A Φ c (J x) fs s') s) : Way M A Φ c (m.wrap K J gd lv) fs s := by
  rintro Γ p rfl hw
  exact runs_wrap_of_wp K J gd lv m (h (Γ.over fs) p (hw.over fs)) (fun a p1 s1 q => q Γ p1 rfl hw) fun x p1 s1 q => q Γ p1 rfl hw
theorem way_bind {α β : Type} {m : Sem α} {f : α → Sem β} {K : β → Sem PySem.Fin} {J : Value → Sem PySem.Fin} {gd : Bool → Bool} {lv : List Value → List Value}
    (h : wpAny M (A.over c fs) m (fun a s' => Way M A Φ c ((f a).wrap K J gd lv) fs s') (fun x s' => Way M A Φ c (J x) fs s') s) : Way M A Φ c ((m >>= f).wrap K J gd lv) fs s := by
  rw [Sem.bind_eq_wrap', Sem.wrap_wrap]
  exact way_wrap h
theorem way_at {q : Pos} {k : Unit → Sem PySem.Fin} (h : Way M A Φ c (k ()) fs s) : Way M A Φ c (.at q k) fs s :=
  way_wrap (m := standAt q) (K := k) (J := .raise) (gd := id) (lv := id) (wpAny_standAt h)
theorem way_point {l : List Value} {k : Unit → Sem PySem.Fin} (h : Way M A Φ c (k ()) fs s) : Way M A Φ c (.point l k) fs s :=
  way_wrap (m := point) (K := k) (J := .raise) (gd := id) (lv := fun _ => l) (wpAny_point h)
theorem way_call {c' : Code} {h : Option Value} {g : Bool} {l : List Value} {k : Result → Sem PySem.Fin} (hc : ∀ p, Way M A Φ c' (M.den c') (.ret k h g l c p [] :: fs) s) : Way M A Φ c (.call c' h g l k) fs s := by
  rintro Γ p rfl hw
  obtain ⟨e, s1, r, q⟩ := hc p (Γ.goto c') p rfl (hw.goto c')
  exact ⟨e, s1, runs_call_seg r, q⟩
theorem way_leaf {k : Result → Sem PySem.Fin} {h : Option Value} {g : Bool} {l kp : List Value} {c₁ : Code} {p₁ : Pos} (r : Result) (hk : Way M A Φ c₁ (k r) fs s) : Way M A Φ c (leafOf r) (.ret k h g l c₁ p₁ kp :: fs) s := by
  rintro Γ p rfl hw
  obtain ⟨e, s1, x, q⟩ := hk (Γ.goto c₁) p₁ rfl (hw.goto c₁)
  exact ⟨e, s1, Runs.pop r x, q⟩
theorem way_again {c' : Code} (hq : c'.quiet = true) (hc : Way M A Φ c' (M.den c') fs s) : Way M A Φ c (.pure (.again c')) fs s := by
  rintro Γ p rfl hw
  obtain ⟨e, s1, r, q⟩ := hc (Γ.goto c') p rfl (hw.goto c')
  exact ⟨e, s1, Runs.head (c₁ := c') (fun _ _ x => .again hq x) r, q⟩
theorem way_end (r : Result) (h : Φ (.ret r) s) : Way M A Φ c (leafOf r) [] s := by
  rintro Γ p rfl _
  exact ⟨.ret r, s, Runs.leaf r, h⟩
/-- it sleeps -/
theorem way_yield {v : Value} {g : Bool} {l : List Value} {k : Resume → Sem PySem.Fin} (hfs : splitAtGen fs = none) (h : ∀ p, Φ (.susp v g l k c p fs) s) : Way M A Φ c (.yield v g l k) fs s := by
  rintro Γ p rfl _
  exact ⟨_, s, Runs.yield' fs hfs, h p⟩
end
section
variable {M : Model} {A : Around} {Φ : End → Shared → Prop} {c : Code} {fs : List Frame} {s : Shared} {env : Env} {K : Flow → Sem PySem.Fin} {J : Value → Sem PySem.Fin} {gd : Bool → Bool} {lv : List Value → List Value}
theorem execs_two : ∀ (a b : List Stmt), execs (a ++ b) env = execs a env >>= fun f => match f with | .next => execs b env | f => pure f
  | [], b => rfl
  | st :: a, b => by
    rw [List.cons_append, execs_cons, execs_cons, execs_two a b]
    show Sem.bind _ _ = Sem.bind (Sem.bind _ _) _
    rw [Sem.bind_assoc]
    congr 1
    funext f
    cases f <;> rfl
theorem way_execs {a b : List Stmt} (h : wpAny M (A.over c fs) (execs a env) (fun f s' => f = .next ∧ Way M A Φ c ((execs b env).wrap K J gd lv) fs s') (fun _ _ => False) s) : Way M A Φ c ((execs (a ++ b) env).wrap K J gd lv) fs s := by
  rw [execs_two]
  refine way_bind (wpAny_mono h (fun f s1 ⟨e, q⟩ => ?_) fun _ _ z => z.elim)
  subst e
  exact q
theorem way_cons {st : Stmt} {rest : List Stmt} (h : Way M A Φ c ((exec st env).wrap (fun f => match f with | .next => (execs rest env).wrap K J gd lv | f => K f) J gd lv) fs s) : Way M A Φ c ((execs (st :: rest) env).wrap K J gd lv) fs s := by
  rw [execs_cons_wrap]; exact h
/-- yield e: how it goes on is told by what is left -/
theorem way_Yield {e : Expr} {yp pos : Pos} (hfs : splitAtGen fs = none) (hgd : gd false = false)
    (h : wpAny M (A.over c fs) (eval e env) (fun v s' => ∀ l k p, (∀ A' Φ' s'', Way M A' Φ' c (K .next) fs s'' → Way M A' Φ' c (k (.send .none)) fs s'') → Φ (.susp v false l k c p fs) s') (fun _ _ => False) s)
    (hco : env.scope.isCoroutine = false := by rfl) (hi : interactive env = false := by rfl) : Way M A Φ c ((exec (.Expr (.Yield (some e) yp) pos) env).wrap K J gd lv) fs s := by
  rw [exec_Expr env _ pos hi rfl]
  show Way M A Φ c (.at pos fun _ => (((eval e env >>= fun v => (standAt yp >>= fun _ => yieldOut env v))) >>= fun x => dropValue (.Yield (some e) yp) pos x).wrap K J gd lv) fs s
  have out : ∀ v, yieldOut env v = yieldValue v := fun v => by simp only [yieldOut, hco, Bool.false_eq_true, if_false]
  simp only [out]
  refine way_at ?_
  rw [Sem.bind_eq_wrap', Sem.bind_eq_wrap', Sem.wrap_wrap, Sem.wrap_wrap]
  refine way_wrap (wpAny_mono h (fun v s1 q => ?_) fun _ _ z => z.elim)
  refine way_at ?_
  refine way_yield hfs fun p => ?_
  have fin : ∀ (g : Bool) (l : List Value) (k : Resume → Sem PySem.Fin), g = false → (∀ A' Φ' s'', Way M A' Φ' c (K .next) fs s'' → Way M A' Φ' c (k (.send .none)) fs s'') → Φ (.susp v g l k c p fs) s1 := fun g l k e w => by
    subst e
    exact q l k p w
  exact fin _ _ _ hgd fun A' Φ' s'' w => w
/-- for .. in ..: what is walked is at hand -/
theorem way_For {tg iter : Expr} {body : List Stmt} {pos : Pos}
    (h : wpAny M (A.over c fs) (eval iter env) (fun x s1 => wpAny M (A.over c fs) (pyIter x) (fun it s2 => ∀ (k : Result → Sem PySem.Fin) (g : Bool) (l : List Value) (p : Pos), g = gd false → (∀ A' Φ' s3, Way M A' Φ' c (K .next) fs s3 → Way M A' Φ' c (k (.ok .next)) fs s3) →
      Way M A Φ (.forLoop tg it body [] env) (M.den (.forLoop tg it body [] env)) (.ret k none g l c p [] :: fs) s2) (fun _ _ => False) s1) (fun _ _ => False) s)
    (hs : ∀ x, foldedSetIterable iter env x = pure x := by intro _; rfl) : Way M A Φ c ((exec (.For tg iter body [] pos) env).wrap K J gd lv) fs s := by
  rw [exec_For]
  refine way_bind (wpAny_standAt (way_bind (wpAny_mono h (fun x s1 q => way_bind (wpAny_of_eq (hs x) (way_bind (wpAny_standAt (way_bind (wpAny_holding (wpAny_mono q (fun it s2 q2 => ?_) fun _ _ z => z.elim))))))) fun _ _ z => z.elim)))
  exact way_call fun p => q2 _ _ _ p rfl fun A' Φ' s3 w => w
end
section
variable {prog : Program} {w : World} {A : Around} {Φ : End → Shared → Prop} {fs : List Frame} {s : Shared} {env : Env}
/-- one turn of it -/
theorem way_forLoop {tg : Expr} {it : Value} {body : List Stmt} {k : Result → Sem PySem.Fin} {g : Bool} {l kp : List Value} {c : Code} {p : Pos} {L : Code} (hL : L = .forLoop tg it body [] env)
    (h : wpAny (model prog w) (A.over L (.ret k none g l c p kp :: fs)) (pyNext it) (fun r s1 => match r with
      | none => Way (model prog w) A Φ c (k (.ok .next)) fs s1
      | some v => wpAny (model prog w) (A.over L (.ret k none g l c p kp :: fs)) (letOwnedTupleGo tg it v) (fun _ s2 => wpAny (model prog w) (A.over L (.ret k none g l c p kp :: fs)) (assign tg env v) (fun _ s3 =>
          Way (model prog w) A Φ L ((execs body env).wrap (fun f => match f with
            | .next | .cont => .pure (.again L)
            | .brk => .pure (.done .next)
            | .ret v => .pure (.done (.ret v))) (fun e => (do noteFrame e env; theTreesLotGoes e : Sem Unit).wrap (fun _ => .raise e) .raise id id) id id) (.ret k none g l c p kp :: fs) s3) (fun _ _ => False) s2) (fun _ _ => False) s1) (fun _ _ => False) s) :
    Way (model prog w) A Φ L ((model prog w).den L) (.ret k none g l c p kp :: fs) s := by
  subst hL
  show Way _ A Φ _ ((forTurn tg it body [] env).onRaise (fun x => do noteFrame x env; theTreesLotGoes x)) _ s
  unfold forTurn
  rw [Sem.onRaise_eq_wrap]
  refine way_bind (wpAny_standAt (way_bind (wpAny_onRaise (wpAny_mono h (fun r s1 q => ?_) fun _ _ z => z.elim))))
  cases r with
  | none =>
    refine way_again rfl ?_
    show Way _ A Φ _ (do return Fin.done (← (execs [] env).onRaise (fun x => do noteFrame x env; theTreesLotGoes x))) _ s1
    exact way_leaf (.ok .next) q
  | some v =>
    refine way_bind (wpAny_mono q (fun _ s2 q2 => way_bind (wpAny_mono q2 (fun _ s3 q3 => ?_) fun _ _ z => z.elim)) fun _ _ z => z.elim)
    show Way _ A Φ _ ((execs body env >>= _).wrap _ _ _ _) _ s3
    rw [Sem.bind_eq_wrap', Sem.wrap_wrap]
    rw [Sem.wrap_congr (execs body env) _ _ (K' := fun f => match f with
            | .next | .cont => .pure (.again (.forLoop tg it body [] env))
            | .brk => .pure (.done .next)
            | .ret v => .pure (.done (.ret v))) (H' := (fun e => (do noteFrame e env; theTreesLotGoes e : Sem Unit).wrap (fun _ => .raise e) .raise id id))
        (fun f => by cases f <;> rfl) (fun e => by first | exact Sem.bind_eq_wrap _ _ | (show (do noteFrame e env; theTreesLotGoes e : Sem Unit).bind (fun _ => .raise e) = _; rw [Sem.bind_eq_wrap]))]
    exact q3
/-- a generator's code from its beginning -/
theorem way_func {body : List Stmt}
    (h : Way (model prog w) A Φ (.func body env) ((execs body env).wrap (fun f => .pure (.done (.ret (match f with | .ret v => v | _ => .none)))) (fun e => (leaving env e).wrap (fun _ => .raise e) .raise id id) id id) fs s) :
    Way (model prog w) A Φ (.func body env) ((model prog w).den (.func body env)) fs s := by
  show Way _ A Φ _ (.point [] fun _ => ((execs body env).onRaise (leaving env)) >>= _) fs s
  refine way_point ?_
  rw [Sem.onRaise_eq_wrap, Sem.bind_eq_wrap', Sem.wrap_wrap]
  rw [Sem.wrap_congr (execs body env) _ _ (K' := fun f => .pure (.done (.ret (match f with | .ret v => v | _ => .none)))) (H' := fun e => (leaving env e).wrap (fun _ => .raise e) .raise id id) (fun f => by cases f <;> rfl)
    (fun e => by rw [Sem.bind_eq_wrap, Sem.wrap_wrap]; rfl)]
  exact h
end
/-! ### a generator is woken -/
def Rest (M : Model) (A : Around) (Φ : End → Shared → Prop) (gs : GenState) (s : Shared) : Prop :=
  match gs with
  | .fresh c => Way M A Φ c (M.den c) [] s
  | .suspended k _ c _ fs _ => Way M A Φ c (k (.send .none)) fs s
  | _ => False
section
variable {M : Model} {A : Around} {Φ : End → Shared → Prop} {s : Shared}
theorem wpAny_wake {α : Type} {E : Value → Shared → Prop} {g : Nat} {gs : GenState} {l : List Value} {k : GenResult → Sem α} {Q : α → Shared → Prop} (hg : s.gens[g]? = some gs) (h : Rest M A Φ gs (s.setGen g .running))
    (hk : ∀ e s1, Φ e s1 → e.quiet = true ∧ wpAny M A (k e.result) Q E (s1.setGen g e.genState)) : wpAny M A (.resume g (.send .none) l k) Q E s := by
  intro Γ p hΓ
  rw [Sem.wp_resume]
  cases gs with
  | fresh c =>
    obtain ⟨e, s1, r, q⟩ := h (Γ.wake c p) p rfl (hΓ.wake c p)
    obtain ⟨hq, hw⟩ := hk e s1 q
    refine ⟨e.result, s1.setGen g e.genState, ?_, hw Γ p hΓ⟩
    unfold Wakes
    rw [hg]
    exact ⟨e, s1, r, hq, rfl, rfl⟩
  | suspended k0 l0 c p0 fs cl =>
    obtain ⟨e, s1, r, q⟩ := h (Γ.wake c p) p0 rfl (hΓ.wake c p)
    obtain ⟨hq, hw⟩ := hk e s1 q
    refine ⟨e.result, s1.setGen g e.genState, ?_, hw Γ p hΓ⟩
    unfold Wakes
    rw [hg]
    exact ⟨e, s1, r, hq, rfl, rfl⟩
  | running => exact h.elim
  | finished => exact h.elim
end
section
variable {P : Program} {w : World} {A : Around} {Φ : End → Shared → Prop} {E : Value → Shared → Prop} {s : Shared}
/-- next of a generator: it hands out a value, or it has come to its end -/
theorem next_gen {a : Addr} {g : Nat} {gs : GenState} {Q : Option Value → Shared → Prop} (hh : A.handled = none) (hl : s.heap.NoLimit) (hroom : A.depth < recursionLimit) (hg : s.heap.IsGen a g) (hgs : s.gens[g]? = some gs) (hgo : Rest (model P w) A.in1 Φ gs (s.setGen g .running))
    (hk : ∀ e s1, Φ e s1 → e.quiet = true ∧ match e with
      | .susp v _ _ _ _ _ _ => Q (some v) (s1.setGen g e.genState)
      | .ret r => (r = .ok (.ret .none)) ∧ ∀ h', (∀ b o, s1.heap.get? b = some o → h'.get? b = some o) → Q none { s1.setGen g .finished with heap := h' }) : wpAny (model P w) A (pyNext (.ref a)) Q E s := by
  unfold pyNext
  refine wpAny_bind (wpAny_attempt ?_)
  refine wpAny_callSpecial?_slot (name := Str.ofString "__next__") hg.typeIs slot_gen_next ?_
  refine wpAny_call_entry slot_gen_next hg.typeIs entry_gen_next ?_ (args_gen_next _)
  show wpAny _ A.in1 (Builtin.Generator.genWake (.ref a) (.send .none)) _ _ s
  unfold Builtin.Generator.genWake
  refine wpAny_bind (wpAny_holding (wpAny_genNumber hg (wpAny_bind (wpAny_genState hgs ?_))))
  cases gs with
  | running => exact hgo.elim
  | finished => exact hgo.elim
  | _ =>
    refine wpAny_bind (wpAny_roomToWake hl hroom ?_)
    show wpAny _ A.in1 (.resume g (.send .none) [] _) _ _ s
    refine wpAny_wake hgs hgo fun e s1 q => ?_
    obtain ⟨hq, q2⟩ := hk e s1 q
    refine ⟨hq, ?_⟩
    cases e with
    | susp v g0 l0 k0 c0 p0 fs0 => exact wpAny_pure ⟨v, rfl, wpAny_pure q2⟩
    | ret r =>
      obtain ⟨rfl, q3⟩ := q2
      show wpAny _ A.in1 (newExc (.type "StopIteration") [] >>= _) _ _ _
      refine wpAny_bind ?_
      simp only [newExc, newTuple]
      refine wpAny_bind (wpAny_newObj_type ?_ (by size_fits))
      refine wpAny_bind (m := firstArgMember _ _) (wpAny_of_eq (a := Value.none) (by first | rfl | (simp only [firstArgMember]; rfl)) ?_)
      refine wpAny_newObj_type ?_ (by size_fits)
      simp only [raiseNew]
      refine wpAny_bind (wpAny_bind (wpAny_handled ?_))
      rw [show A.in1.handled = none from hh]
      refine wpAny_throw ?_
      refine wpAny_bind (wpAny_isInstance (T := "StopIteration") (b := true) ⟨_, Heap.get?_push_size _ rfl, rfl⟩ isSubtype_stop ?_)
      exact wpAny_pure (q3 _ fun b o hb => Heap.get?_push_of_some _ (Heap.get?_push_of_some _ hb))
end
open GenW
/-! ### what a generator holds of the heap -/
theorem Inv.regen {X : Cx} {pins : List (Addr × Obj)} {σ : L2.St} {H : Hp} {s : Shared} (I : L2.Inv X pins σ H s) {g : Array GenState} (hg : AllBare g) : L2.Inv X pins σ H { s with gens := g } :=
  ⟨I.ok, I.os, hg, I.base, I.loc, I.cell, I.free, I.freeC, I.pin, I.hok, I.len⟩
def lay (pr : List (Addr × HO)) (H : Hp) : Hp := pr.foldr (fun q H => upd H q.1 q.2) H
theorem lay_off {H : Hp} {b : Addr} : ∀ {pr : List (Addr × HO)}, (∀ q ∈ pr, q.1 ≠ b) → lay pr H b = H b
  | [], _ => rfl
  | q :: pr, h => by
    show upd (lay pr H) q.1 q.2 b = _
    rw [upd_ne (Ne.symm (h q List.mem_cons_self))]
    exact lay_off fun q hq => h q (List.mem_cons_of_mem _ hq)
theorem lay_in {A B : Hp} {b : Addr} : ∀ {pr : List (Addr × HO)}, (∃ q ∈ pr, q.1 = b) → lay pr A b = lay pr B b
  | [], h => by obtain ⟨_, h, _⟩ := h; cases h
  | q :: pr, h => by
    show upd (lay pr A) q.1 q.2 b = upd (lay pr B) q.1 q.2 b
    by_cases e : b = q.1
    · subst e; rw [upd_same, upd_same]
    · rw [upd_ne e, upd_ne e]
      obtain ⟨u, hu, eu⟩ := h
      rcases List.mem_cons.mp hu with z | z
      · subst z; exact absurd eu.symm e
      · exact lay_in ⟨u, z, eu⟩
theorem lay_val {H : Hp} {b : Addr} : ∀ {pr : List (Addr × HO)}, (∃ q ∈ pr, q.1 = b) → ∃ q ∈ pr, lay pr H b = some q.2
  | [], h => by obtain ⟨_, h, _⟩ := h; cases h
  | q :: pr, h => by
    by_cases e : b = q.1
    · exact ⟨q, List.mem_cons_self, by subst e; exact upd_same⟩
    · obtain ⟨u, hu, eu⟩ := h
      rcases List.mem_cons.mp hu with z | z
      · subst z; exact absurd eu.symm e
      · obtain ⟨v, hv, ev⟩ := lay_val (H := H) ⟨u, z, eu⟩
        exact ⟨v, List.mem_cons_of_mem _ hv, by
          show upd (lay pr H) q.1 q.2 b = _
          rw [upd_ne e]; exact ev⟩
/-- neither the dict of an instance nor a tuple: nothing else leans on it -/
def PureO : HO → Prop
  | .own _ => False
  | .tup _ => False
  | _ => True
/-- what stood below n, without these -/
def freedO : Obj := { cls := .none, data := .freed }
def trunc (n : Nat) (fp : List Addr) (h : Heap) : Heap := { h with objs := (h.objs.extract 0 n).mapIdx fun i o => if i ∈ fp then freedO else o }
theorem trunc_le {n : Nat} {fp : List Addr} {h : Heap} : (trunc n fp h).objs.size ≤ n := by
  show ((h.objs.extract 0 n).mapIdx _).size ≤ n
  rw [Array.size_mapIdx, Array.size_extract]; omega
theorem trunc_size {n : Nat} {fp : List Addr} {h : Heap} (hn : n ≤ h.objs.size) : (trunc n fp h).objs.size = n := by
  show ((h.objs.extract 0 n).mapIdx _).size = n
  rw [Array.size_mapIdx, Array.size_extract]; omega
theorem ext_at {α : Type} {xs : Array α} {n b : Nat} (hb : b < n) : (xs.extract 0 n)[b]? = xs[b]? := by
  by_cases z : b < xs.size
  · have q : b < (xs.extract 0 n).size := by rw [Array.size_extract]; omega
    rw [Array.getElem?_eq_getElem q, Array.getElem?_eq_getElem z, Array.getElem_extract]
    simp
  · have q : (xs.extract 0 n).size ≤ b := by rw [Array.size_extract]; omega
    have z' : xs.size ≤ b := by omega
    rw [Array.getElem?_eq_none q, Array.getElem?_eq_none z']
theorem trunc_lt {n : Nat} {fp : List Addr} {h : Heap} {b : Addr} (hb : b < n) (hf : b ∉ fp) : (trunc n fp h).get? b = h.get? b := by
  have e : (trunc n fp h).objs[b]? = h.objs[b]? := by
    show ((h.objs.extract 0 n).mapIdx _)[b]? = _
    rw [Array.getElem?_mapIdx, ext_at hb]
    cases h.objs[b]? with
    | none => rfl
    | some o =>
      show some (if b ∈ fp then freedO else o) = some o
      rw [if_neg hf]
  unfold Heap.get?
  rw [e]
theorem trunc_some {n : Nat} {fp : List Addr} {h : Heap} {b : Addr} {o : Obj} (e : (trunc n fp h).get? b = some o) : b < n ∧ b ∉ fp ∧ h.get? b = some o := by
  have hb : b < n := Nat.lt_of_lt_of_le (Heap.lt_size e) trunc_le
  have hf : b ∉ fp := fun z => by
    have q : (trunc n fp h).objs[b]? = none ∨ (trunc n fp h).objs[b]? = some freedO := by
      show ((h.objs.extract 0 n).mapIdx _)[b]? = _ ∨ ((h.objs.extract 0 n).mapIdx _)[b]? = _
      rw [Array.getElem?_mapIdx]
      cases (h.objs.extract 0 n)[b]? with
      | none => exact .inl rfl
      | some o =>
        refine .inr ?_
        show some (if b ∈ fp then freedO else o) = _
        rw [if_pos z]
    unfold Heap.get? at e
    rcases q with q | q
    · rw [q] at e; cases e
    · rw [q] at e; cases e
  rw [trunc_lt hb hf] at e
  exact ⟨hb, hf, e⟩
def below (L : Nat) (H : Hp) : Hp := fun b => if b < L then H b else none
theorem below_lt {L b : Nat} {H : Hp} (h : b < L) : below L H b = H b := if_pos h
theorem below_some {L b : Nat} {H : Hp} {o : HO} (h : below L H b = some o) : b < L ∧ H b = some o := by
  unfold below at h
  split at h
  · rename_i c; exact ⟨c, h⟩
  · cases h
/-- what is not tracked, above L, but for the generator's own: each as it is -/
def Hx (L : Nat) (h : Heap) (fp : List Addr) (H : Hp) : Hp := fun b => match H b with
  | some u => some u
  | none => if L ≤ b ∧ b ∉ fp then (h.get? b).map fun o => .ext fun h' => h'.get? b = some o else none
section
variable {L : Nat} {h : Heap} {fp : List Addr} {H : Hp} {b : Addr}
theorem hx_some {u : HO} (e : H b = some u) : Hx L h fp H b = some u := by unfold Hx; rw [e]
theorem hx_lt (hb : b < L) : Hx L h fp H b = H b := by
  unfold Hx
  cases e : H b with
  | some u => rfl
  | none => exact if_neg fun z => absurd (Nat.lt_of_lt_of_le hb z.1) (Nat.lt_irrefl _)
theorem hx_own (hb : b ∈ fp) : Hx L h fp H b = H b := by
  unfold Hx
  cases e : H b with
  | some u => rfl
  | none => exact if_neg fun z => z.2 hb
theorem hx_out {o : Obj} (hn : H b = none) (hL : L ≤ b) (hb : b ∉ fp) (e : h.get? b = some o) : Hx L h fp H b = some (.ext fun h' => h'.get? b = some o) := by
  unfold Hx
  rw [hn]
  show (if L ≤ b ∧ b ∉ fp then _ else _) = _
  rw [if_pos ⟨hL, hb⟩, e]; rfl
theorem hx_inv {u : HO} (e : Hx L h fp H b = some u) : H b = some u ∨ (H b = none ∧ L ≤ b ∧ b ∉ fp ∧ ∃ o, h.get? b = some o ∧ u = .ext fun h' => h'.get? b = some o) := by
  unfold Hx at e
  split at e
  · rename_i v q
    exact .inl (q.trans e)
  · rename_i q
    refine .inr ⟨q, ?_⟩
    split at e
    · rename_i c
      cases z : h.get? b with
      | none => rw [z] at e; cases e
      | some o =>
        rw [z] at e
        exact ⟨c.1, c.2, o, rfl, (Option.some.inj e).symm⟩
    · cases e
theorem hx_none (hn : H b = none) (e : h.get? b = none) : Hx L h fp H b = none := by
  cases q : Hx L h fp H b with
  | none => rfl
  | some u =>
    rcases hx_inv q with z | ⟨_, _, _, o, z, _⟩
    · rw [hn] at z; cases z
    · rw [e] at z; cases z
theorem same_hx : Same H (Hx L h fp H) := fun b u e => hx_some e
theorem hok_hx {P : Program} {w : World} (ok : HOk P w H h) : HOk P w (Hx L h fp H) h := fun b u e => by
  rcases hx_inv e with z | ⟨_, _, _, o, z, eu⟩
  · exact (ok b u z).stay (fun _ _ _ q => q) (fun c q => hx_some q) fun c xs q => hx_some q
  · subst eu
    exact ⟨z, ⟨o, z⟩, fun h1 h2 q k => k o q⟩
end
theorem ObjOk.there {P : Program} {w : World} {H : Hp} {h : Heap} {a : Addr} {o : HO} (x : L2.ObjOk P w H h a o) : ∃ ob, h.get? a = some ob := by
  induction o with
  | lst xs => obtain ⟨_, its, n, _, e⟩ := x; exact ⟨_, e⟩
  | tup xs => obtain ⟨_, its, _, ob, e, _⟩ := x; exact ⟨_, e⟩
  | dK kvs => obtain ⟨_, _, vs, _, ob, es, ep, e, _⟩ := x; exact ⟨_, e⟩
  | dT kvs => obtain ⟨_, _, xs, _, ob, es, ep, e, _⟩ := x; exact ⟨_, e⟩
  | set S n => obtain ⟨ob, es, ep, t, e, _⟩ := x; exact ⟨_, e⟩
  | ins C dx fs => obtain ⟨_, _, _, e, _⟩ := x; exact ⟨_, e⟩
  | own y => exact x
  | xd fs => obtain ⟨mA, ⟨od, es, ep, e, _⟩, _⟩ := x; exact ⟨_, e⟩
  | rng lo hi => obtain ⟨t, u, v, e⟩ := x; exact ⟨_, e⟩
  | frz ob u ih => exact ⟨_, x.1⟩
  | tbl ps => exact ⟨_, (show h.get? a = some { cls := .none, data := .fields ps } from x)⟩
  | met f y => exact ⟨_, (show h.get? a = some (PySem.W.methodObj (.ref f) (.ref y)) from x)⟩
  | ext φ => exact x.2.1
open GenW
/-! ### a generator's frame, at any time that it is woken -/
def gCx (P : Program) (w : World) (K : PySem.W.Frag) (mg : Str → Option Value) (base : Heap) (N : List Str) (qual : Str) (scope : Scope) (f : Addr) (cd : Value) (Ag : Around) (outer : List Env) (L : Addr) (s : Shared) (H : Hp) : Cx where
  prog := P
  w := w
  K := K
  mg := mg
  base := base
  A := Ag.deeper (envOfC qual scope L f cd)
  N := N
  s_0 := s
  H_0 := H
  env := envOfC qual scope L f cd
  outer := outer
  stack := envOfC qual scope L f cd :: outer
  ex := []
  fn := fun _ => true
  calm := true
  pn := []
  xe := fun _ _ => False
def SlotsAt (env : Env) (N : List Str) (σ : L2.St) (h : Heap) : Prop :=
  ∃ m, h.Ns env.locals m ∧ ∀ (i : Nat) (x : Str) (v : V), N[i]? = some x → σ[i]? = some (some v) → Vis env.scope x → ∃ u, RelV v u ∧ Look env h m x u
theorem lookup_mem {x : Str} {k : NameKind} : ∀ {l : List (Str × NameKind)}, l.lookup x = some k → (x, k) ∈ l := fun h => PySem.mem_of_lookup h
theorem SlotsAt.stay {env : Env} {N : List Str} {σ : L2.St} {h h' : Heap} (nc : ∀ y ∈ env.scope.names, y.2 ≠ .cell ∧ y.2 ≠ .free) (x : SlotsAt env N σ h) (k : ∀ o, h.get? env.locals = some o → h'.get? env.locals = some o) : SlotsAt env N σ h' := by
  obtain ⟨m, ⟨o, es, ep, ho, r⟩, q⟩ := x
  refine ⟨m, ⟨o, es, ep, k o ho, r⟩, fun i y v h1 h2 h3 => ?_⟩
  obtain ⟨u, rv, l⟩ := q i y v h1 h2 h3
  refine ⟨u, rv, ?_⟩
  rcases l with l | ⟨l, _⟩
  · exact .inl l
  · rcases l with l | l
    · exact absurd rfl (nc _ (lookup_mem l)).1
    · exact absurd rfl (nc _ (lookup_mem l)).2
theorem cells_nil {n : Nat} : ∀ {l : List (Str × NameKind)} {acc : List (Str × Addr)}, (∀ y ∈ l, y.2 ≠ .cell) → cellsFrom n l acc = acc
  | [], _, _ => rfl
  | (x, k) :: l, acc, h => by
    unfold cellsFrom
    have q : (k == NameKind.cell) = false := by
      have := h _ List.mem_cons_self
      cases k <;> first | rfl | exact absurd rfl this
    rw [q, if_neg Bool.false_ne_true]
    exact cells_nil fun y hy => h y (List.mem_cons_of_mem _ hy)
theorem frames_trunc {base h : Heap} {L : Nat} {fp : List Addr} : ∀ {l : List Env}, h.FunFrames base l → (∀ b ∈ frs l, b < L ∧ b ∉ fp) → (trunc L fp h).FunFrames base l
  | [], _, _ => trivial
  | env :: l, x, hl => by
    obtain ⟨hk, ⟨a, o, hf, hn, ho, hd⟩, hr⟩ := x
    have ha : a ∈ frs (env :: l) := by
      show a ∈ List.filterMap _ _
      rw [List.filterMap_cons, hf]
      exact List.mem_cons_self
    refine ⟨hk, ⟨a, o, hf, hn, by rw [trunc_lt (hl a ha).1 (hl a ha).2]; exact ho, hd⟩, frames_trunc hr fun b hb => hl b ?_⟩
    show b ∈ List.filterMap _ _
    rw [List.filterMap_cons, hf]
    exact List.mem_cons_of_mem _ hb
section
variable {P : Program} {w : World} {K : PySem.W.Frag} {mg : Str → Option Value} {base : Heap} {N : List Str} {qual : Str} {scope : Scope} {f : Addr} {cd : Value} {A0 Ag : Around} {outer : List Env} {L ga : Addr} {fp : List Addr} {go : Obj} {s s1 : Shared} {H Hg H3 : Hp} {σ σ2 : L2.St}
/-- the frame's state, told anew of the state at hand -/
theorem regX (e0 : Env0 P w K mg base A0 outer s H) (hd : Ag.handled = none) (hfm : Ag.frames = some outer) (hsz : L ≤ s.heap.objs.size) (hb : base.objs.size ≤ L) (hfr : ∀ b ∈ frs outer, b < L ∧ b ∉ fp) (hbf : ∀ b o, base.get? b = some o → b ∉ fp) (hfn : ∀ b ∈ fp, H b = none) (hk : scope.kind = .function) (nc : ∀ y ∈ scope.names, y.2 ≠ .cell ∧ y.2 ≠ .free)
    (loc : SlotsAt (envOfC qual scope L f cd) N σ s.heap) (hL : Hg L = none) (pin : s.heap.get? ga = some go ∧ Hg ga = none ∧ ga ≠ L ∧ L ≤ ga ∧ ∀ v, go.data ≠ .cell v) (hok : HOk P w Hg s.heap) (len : σ.length = N.length) (agree : ∀ b, b < L → b ∉ fp → Hg b = H b) :
    L2.Inv (gCx P w K mg base N qual scope f cd Ag outer L { s with heap := trunc L fp s.heap } (below L H)) [(ga, go)] σ Hg s := by
  have cn : (envOfC qual scope L f cd).cells = [] := cells_nil fun y hy => (nc y hy).1
  have ncell : ∀ x c, (envOfC qual scope L f cd).cells.lookup x = some c → False := fun x c e => by rw [cn] at e; cases e
  have tsz : (trunc L fp s.heap).objs.size = L := trunc_size hsz
  have bl : ∀ {b o}, base.get? b = some o → b < L := fun e => Nat.lt_of_lt_of_le (Heap.lt_size e) hb
  refine ⟨⟨e0.mod, hk, rfl, rfl, Nat.le_of_eq tsz, fun x y c h1 _ => (ncell x c h1).elim, fun x hx => ?_, fun x c _ h => (ncell x c h).elim, fun _ => hd, Around.frames_deeper hfm, .inr ⟨rfl, rfl⟩, fun b z => absurd (show b ∈ ([] : List Addr) from z) (by simp), fun b o e => ?_, ?_, fun b _ _ z => absurd (show b ∈ ([] : List Addr) from z) (by simp), fun b z => absurd (show b ∈ ([] : List Addr) from z) (by simp), frames_trunc e0.funs hfr, fun b hb => ?_⟩,
    rfl, e0.bare, ⟨fun b o e _ _ _ => (trunc_some e).2.2, fun b o e _ _ _ => ⟨o.slots, (trunc_some e).2.2⟩, fun b o e n _ => ?_, fun b o e _ => ⟨o, (trunc_some e).2.2⟩, fun b xs e => ?_, fun b o u e => ?_, fun b ps e => ⟨#[], ?_⟩⟩, loc, fun x c e => (ncell x c e).elim, hL, fun x c e => (ncell x c e).elim, fun p hp => ?_, hok, len⟩
  · have hx : scope.names.lookup x = some .cell ∨ scope.names.lookup x = some .free := hx
    rcases hx with hx | hx
    · exact absurd rfl (nc _ (lookup_mem hx)).1
    · exact absurd rfl (nc _ (lookup_mem hx)).2
  · obtain ⟨h1, h2⟩ := e0.bs b o e
    refine ⟨?_, ?_⟩
    · show (trunc L fp s.heap).get? b = _
      rw [trunc_lt (bl e) (hbf b o e)]; exact h1
    · show below L H b = none
      rw [below_lt (bl e)]; exact h2
  · show base.objs.size ≤ (trunc L fp s.heap).objs.size
    rw [tsz]; exact hb
  · show below L H b = none
    rw [below_lt (hfr b hb).1]; exact e0.frf b hb
  · obtain ⟨z, z2, _⟩ := trunc_some e
    have n : below L H b = none := n
    rw [below_lt z] at n
    rw [agree b z z2]; exact n
  · obtain ⟨z, q⟩ := below_some e
    rw [agree b z (fun z2 => by rw [hfn b z2] at q; cases q)]; exact q
  · obtain ⟨z, q⟩ := below_some e
    rw [agree b z (fun z2 => by rw [hfn b z2] at q; cases q)]; exact q
  · obtain ⟨z, q⟩ := below_some e
    rw [agree b z (fun z2 => by rw [hfn b z2] at q; cases q), q]; simp
  · have hp : p ∈ [(ga, go)] := hp
    rw [List.mem_singleton.mp hp]
    exact ⟨pin.1, pin.2.1, pin.2.2.1, fun z => absurd (hfr ga z).1 (Nat.not_lt.mpr pin.2.2.2.1), pin.2.2.2.2⟩
/-- what may be the generator's, as its caller sees it -/
def Mine (X : Cx) (pins : List (Addr × Obj)) (b : Addr) : Prop := b ≠ X.env.locals ∧ b ∉ X.fs ∧ (b ∈ X.ex ∨ X.s_0.heap.objs.size ≤ b) ∧ (∀ x c, X.env.cells.lookup x = some c → c ≠ b) ∧ ∀ p ∈ X.pn ++ pins, p.1 ≠ b
theorem Mine.ok {X : Cx} {pins : List (Addr × Obj)} {b : Addr} (m : Mine X pins b) (h : H b = none) : FpOk X pins H b := ⟨h, m⟩
theorem Mine.of {X : Cx} {pins : List (Addr × Obj)} {b : Addr} (m : FpOk X pins H b) : Mine X pins b := m.2
/-- its caller's state behind a stretch of it -/
theorem recover {X : Cx} {pins : List (Addr × Obj)} {σc : L2.St} {fp : List Addr} {pr Nw : List (Addr × HO)} {ip : List (Addr × Obj)} {s0 : Shared} (hP : X.prog = P) (hw : X.w = w) (hX : X.stack = outer) (I : L2.Inv X pins σc H s)
    (hs0 : s0.heap = trunc L fp s.heap) (hos : s0.os = s.os) (g : L2.Inv (gCx P w K mg base N qual scope f cd Ag outer L s0 (below L H)) ip σ2 H3 s1) (hH : H3 = lay Nw (lay pr (Hx L s.heap fp H))) (hN : ∀ q ∈ Nw, lay pr (Hx L s.heap fp H) q.1 = none) (hpr : ∀ q ∈ pr, Hx L s.heap fp H q.1 = none ∧ PureO q.2)
    (hfr : ∀ b ∈ frs outer, b < L) (hm : ∀ b ∈ fp, Mine X pins b) : L2.Inv X pins σc (lay Nw H) s1 := by
  have gb : Un (frs outer) [] (below L H) H3 s0.heap s1.heap := g.base
  have gok : HOk P w H3 s1.heap := g.hok
  have noE : ∀ b : Addr, b ∉ ([] : List Addr) := fun b => by simp
  have prN : ∀ {b : Addr}, Hx L s.heap fp H b ≠ none → ∀ q ∈ pr, q.1 ≠ b := fun {b} h q hq e => h (by rw [← e]; exact (hpr q hq).1)
  have nwN : ∀ {b : Addr}, Hx L s.heap fp H b ≠ none → ∀ q ∈ Nw, q.1 ≠ b := fun {b} h q hq e => by
    have z := hN q hq
    rw [e, lay_off (prN h)] at z
    exact h z
  have at3 : ∀ {b : Addr}, Hx L s.heap fp H b ≠ none → H3 b = Hx L s.heap fp H b := fun {b} h => by rw [hH, lay_off (nwN h), lay_off (prN h)]
  have low : ∀ {b : Addr} {o : Obj}, b < L → b ∉ fp → s.heap.get? b = some o → s0.heap.get? b = some o := fun h hf e => by rw [hs0, trunc_lt h hf]; exact e
  -- what is new stands nowhere
  have nwOff : ∀ {b : Addr} {o : Obj}, s.heap.get? b = some o → b ∉ fp → H b = none → ∀ q ∈ Nw, q.1 ≠ b := fun {b o} e hb n q hq z => by
    by_cases hl : b < L
    · have h3 : H3 b = none := gb.free b o (low hl hb e) (by rw [below_lt hl]; exact n) (noE b)
      rw [hH] at h3
      obtain ⟨v, _, ev⟩ := lay_val (H := lay pr (Hx L s.heap fp H)) ⟨q, hq, z⟩
      rw [ev] at h3; cases h3
    · exact nwN (by rw [hx_out n (Nat.not_lt.mp hl) hb e]; exact fun z => by cases z) q hq z
  have keepHi : ∀ {b : Addr} {o : Obj}, L ≤ b → s.heap.get? b = some o → b ∉ fp → H b = none → s1.heap.get? b = some o := fun {b o} hl e hb n => by
    have hx := hx_out (fp := fp) n hl hb e
    have z : H3 b = _ := (at3 (by rw [hx]; exact fun z => by cases z)).trans hx
    exact (gok b _ z).1
  have trk : ∀ {b : Addr} {u : HO}, H b = some u → H3 b = some u ∧ lay Nw H b = some u := fun {b u} e => by
    have hx : Hx L s.heap fp H b = some u := hx_some e
    have ne : Hx L s.heap fp H b ≠ none := by rw [hx]; exact fun z => by cases z
    exact ⟨(at3 ne).trans hx, by rw [lay_off (nwN ne)]; exact e⟩
  refine I.call' (ch := fp) (g.os.trans hos) ⟨fun b o e n hb hc => ?_, fun b o e n hb hc => ?_, fun b o e n hc => ?_, fun b o e hc => ?_, fun b xs e => (trk e).2, fun b o u e => (trk e).2, fun b ps e => ⟨#[], by rw [(trk e).2]; simp⟩⟩ (fun b u e => ?_) g.bare fun b hb => ?_
  · by_cases hl : b < L
    · exact gb.keep b o (low hl hc e) (by rw [below_lt hl]; exact n) (by rw [← hX]; exact hb) (noE b)
    · exact keepHi (Nat.not_lt.mp hl) e hc n
  · have hl : b < L := hfr b (by rw [← hX]; exact hb)
    exact gb.slot b o (low hl hc e) (by rw [below_lt hl]; exact n) (by rw [← hX]; exact hb) (noE b)
  · rw [lay_off (nwOff e hc n)]; exact n
  · by_cases hl : b < L
    · exact gb.there b o (low hl hc e) (noE b)
    · cases q : H b with
      | none => exact ⟨o, keepHi (Nat.not_lt.mp hl) e hc q⟩
      | some u => exact ObjOk.there (gok b u (trk q).1)
  · have h3 : H3 b = some u := by
      by_cases z : ∃ q ∈ Nw, q.1 = b
      · rw [hH, lay_in (B := H) z]; exact e
      · rw [lay_off fun q hq ee => z ⟨q, hq, ee⟩] at e
        exact (trk e).1
    have down : ∀ {c : Addr} {u : HO}, H3 c = some u → (∀ φ, u ≠ .ext φ) → ¬ PureO u → lay Nw H c = some u := fun {c u} e ne np => by
      by_cases z : ∃ q ∈ Nw, q.1 = c
      · rw [hH, lay_in (B := H) z] at e; exact e
      · rw [hH, lay_off fun q hq ee => z ⟨q, hq, ee⟩] at e
        by_cases z2 : ∃ q ∈ pr, q.1 = c
        · obtain ⟨q, hq, ev⟩ := lay_val (H := Hx L s.heap fp H) z2
          rw [ev] at e
          rw [← Option.some.inj e] at np
          exact absurd (hpr q hq).2 np
        · rw [lay_off fun q hq ee => z2 ⟨q, hq, ee⟩] at e
          rcases hx_inv e with h | ⟨_, _, _, o, _, eu⟩
          · exact (trk h).2
          · exact absurd eu (ne _)
    show L2.ObjOk X.prog X.w (lay Nw H) s1.heap b u
    rw [hP, hw]
    exact (gok b u h3).stay (fun _ _ _ q => q) (fun c q => down q (fun _ z => by cases z) fun z => z) fun c xs q => down q (fun _ z => by cases z) fun z => z
  · obtain ⟨m1, m2, m3, m4, m5⟩ := hm b hb
    exact ⟨m3, m1, m4, m5⟩
end
open GenW
/-- what a generator keeps for itself: a list, or a dict that it walks -/
def OwnO : HO → Prop
  | .lst _ => True
  | .dK _ => True
  | .frz _ (.dK _) => True
  | _ => False
theorem OwnO.pure {o : HO} (h : OwnO o) : PureO o := by
  cases o <;> first | exact True.intro | exact h.elim
theorem OwnO.there {P : Program} {w : World} {H : Hp} {h : Heap} {a : Addr} {o : HO} (x : L2.ObjOk P w H h a o) (q : OwnO o) : ∃ ob, h.get? a = some ob ∧ ∀ v, ob.data ≠ .cell v := by
  cases o with
  | lst xs => obtain ⟨_, its, n, _, e⟩ := x; exact ⟨_, e, fun v z => by cases z⟩
  | dK kvs => obtain ⟨_, _, vs, _, ob, es, ep, e, _, d, _⟩ := x; exact ⟨_, e, fun v z => by rw [d] at z; cases z⟩
  | frz ob u =>
    cases u with
    | dK kvs =>
      obtain ⟨e0, _, _, vs, _, ob', es, ep, e, _, d, _⟩ := x
      exact ⟨_, e, fun v z => by rw [d] at z; cases z⟩
    | _ => exact q.elim
  | _ => exact q.elim
theorem OwnO.keep {P : Program} {w : World} {H H' : Hp} {h h' : Heap} {a : Addr} {o : HO} (x : L2.ObjOk P w H h a o) (q : OwnO o) (k : ∀ ob, h.get? a = some ob → h'.get? a = some ob) : L2.ObjOk P w H' h' a o := by
  cases o with
  | lst xs => obtain ⟨z, its, n, r, e⟩ := x; exact ⟨z, its, n, r, k _ e⟩
  | dK kvs => obtain ⟨z, y, vs, r, ob, es, ep, e, c⟩ := x; exact ⟨z, y, vs, r, ob, es, ep, k _ e, c⟩
  | frz ob u =>
    cases u with
    | dK kvs => obtain ⟨e0, z, y, vs, r, ob', es, ep, e, c⟩ := x; exact ⟨k _ e0, z, y, vs, r, ob', es, ep, k _ e, c⟩
    | _ => exact q.elim
  | _ => exact q.elim
theorem hok_lay {P : Program} {w : World} {H : Hp} {h : Heap} {pr : List (Addr × HO)} (ok : HOk P w H h) (fr : ∀ q ∈ pr, H q.1 = none) (hp : ∀ b u, (∃ q ∈ pr, q.1 = b) → lay pr H b = some u → L2.ObjOk P w (lay pr H) h b u) : HOk P w (lay pr H) h := fun b u e => by
  by_cases z : ∃ q ∈ pr, q.1 = b
  · exact hp b u z e
  · rw [lay_off fun q hq ee => z ⟨q, hq, ee⟩] at e
    have up : ∀ {c : Addr} {v : HO}, H c = some v → lay pr H c = some v := fun {c v} e => by
      rw [lay_off fun q hq ee => ?_]
      · exact e
      · rw [← ee, fr q hq] at e; cases e
    exact (ok b u e).stay (fun _ _ _ q => q) (fun c q => up q) fun c xs q => up q
/-! ### what is promised of a generator -/
/-- it stands ahead of the wake n - m -/
def Rdy (M : Model) (A : Around) (X : Cx) (pins : List (Addr × Obj)) (ga g n : Nat) (G : Nat → Hp → Prop) (Yd : Nat → V → List (Addr × HO) → Prop) : Nat → GenState → List Addr → Heap → Prop
  | 0, gs, fp, h0 => ∀ (s : Shared) (σ : L2.St) (H : Hp), L2.Inv X pins σ H s → (∀ b ∈ fp, H b = none ∧ ∀ o, h0.get? b = some o → s.heap.get? b = some o) → G n H →
      Rest M A (fun e s1 => e = .ret (.ok (.ret .none)) ∧ L2.Inv X pins σ H s1) gs s
  | m + 1, gs, fp, h0 => ∀ (s : Shared) (σ : L2.St) (H : Hp), L2.Inv X pins σ H s → (∀ b ∈ fp, H b = none ∧ ∀ o, h0.get? b = some o → s.heap.get? b = some o) → G (n - (m + 1)) H →
      Rest M A (fun e s1 => ∃ v l k c p fs, e = .susp v false l k c p fs ∧ e.quiet = true ∧ ∃ y Nw fp', RelV y v ∧ Yd (n - (m + 1)) y Nw ∧ (∀ q ∈ Nw, H q.1 = none) ∧ L2.Inv X pins σ (lay Nw H) s1 ∧
        (∀ b ∈ fp', FpOk X pins (lay Nw H) b ∧ ∃ o, s1.heap.get? b = some o ∧ ∀ v, o.data ≠ .cell v) ∧ ga ∈ fp' ∧ s1.heap.IsGen ga g ∧ Rdy M A X pins ga g n G Yd m e.genState fp' s1.heap) gs s
def Outp (M : Model) (A : Around) (X : Cx) (pins : List (Addr × Obj)) (ga g n : Nat) (G : Nat → Hp → Prop) (Yd : Nat → V → List (Addr × HO) → Prop) : Nat → L2.St → Hp → End → Shared → Prop
  | 0, σ, H => fun e s1 => e = .ret (.ok (.ret .none)) ∧ L2.Inv X pins σ H s1
  | m + 1, σ, H => fun e s1 => ∃ v l k c p fs, e = .susp v false l k c p fs ∧ e.quiet = true ∧ ∃ y Nw fp', RelV y v ∧ Yd (n - (m + 1)) y Nw ∧ (∀ q ∈ Nw, H q.1 = none) ∧ L2.Inv X pins σ (lay Nw H) s1 ∧
      (∀ b ∈ fp', FpOk X pins (lay Nw H) b ∧ ∃ o, s1.heap.get? b = some o ∧ ∀ v, o.data ≠ .cell v) ∧ ga ∈ fp' ∧ s1.heap.IsGen ga g ∧ Rdy M A X pins ga g n G Yd m e.genState fp' s1.heap
/-- the turns of its loop, by their readings -/
structure GTurn (n : Nat) (G : Nat → Hp → Prop) (Yd : Nat → V → List (Addr × HO) → Prop) (gt : TG) (te : TE) (tp : TS) (J : It) (pr : List (Addr × HO)) (Lp Mid : Nat → L2.St → Prop) : Prop where
  go : ∀ i σ H, i < n → G i H → (∀ q ∈ pr, H q.1 = none) → Lp i σ → J.go i (lay pr H) ∧ ∀ x H', J.yld i (lay pr H) x H' → gt x σ H' fun σ2 H2 => te σ2 H2 fun y H3 => ∃ Nw, H3 = lay Nw (lay pr H) ∧ (∀ q ∈ Nw, lay pr H q.1 = none) ∧ Yd i y Nw ∧ Mid i σ2
  post : ∀ i σ H, i < n → G (i + 1) H → (∀ q ∈ pr, H q.1 = none) → Mid i σ → tp { nx := fun σ4 H4 => H4 = lay pr H ∧ Lp (i + 1) σ4, rt := fun _ _ => False } σ (lay pr H)
  stop : ∀ σ H, G n H → (∀ q ∈ pr, H q.1 = none) → Lp n σ → J.stop n (lay pr H)
structure GDer (P : Program) (w : World) (K : PySem.W.Frag) (mg : Str → Option Value) (base : Heap) (N : List Str) (qual : Str) (scope : Scope) (f : Addr) (cd : Value) (k : Nat) (pre : List Stmt) (tg iter e : Expr) (post : List Stmt) (tpre : TS) (wi : TI) (gt : TG) (te : TE) (tp : TS) : Prop where
  d : ∀ (Ag : Around) (outer : List Env) (L : Addr) (s : Shared) (H : Hp), Room k (Ag.deeper (envOfC qual scope L f cd)) →
    PSs (gCx P w K mg base N qual scope f cd Ag outer L s H) pre tpre ∧ PI (gCx P w K mg base N qual scope f cd Ag outer L s H) tg iter wi ∧ PG (gCx P w K mg base N qual scope f cd Ag outer L s H) tg gt ∧
    PE (gCx P w K mg base N qual scope f cd Ag outer L s H) e te ∧ PSs (gCx P w K mg base N qual scope f cd Ag outer L s H) post tp
section
variable {X : Cx} {pins : List (Addr × Obj)} {N : List Str} {qual : Str} {scope : Scope} {f : Addr} {cd : Value} {k : Nat} {pre post body : List Stmt} {tg iter e : Expr} {tpre tp : TS} {wi : TI} {gt : TG} {te : TE} {n L ga g : Nat} {go : Obj} {G : Nat → Hp → Prop} {Yd : Nat → V → List (Addr × HO) → Prop}
  {J : It} {pr : List (Addr × HO)} {Lp Mid : Nat → L2.St → Prop} {fpi : List Addr} {it : Addr} {tn : Nat → Heap → Prop} {yp ypos : Pos}
abbrev gC (X : Cx) (N : List Str) (qual : Str) (scope : Scope) (f : Addr) (cd : Value) (L : Addr) (fp : List Addr) (s : Shared) (H : Hp) : Cx := gCx X.prog X.w X.K X.mg X.base N qual scope f cd X.A.in1 X.stack L { s with heap := trunc L fp s.heap } (below L H)
/-- what is fixed of a generator, as it was made -/
structure GFix (X : Cx) (scope : Scope) (L ga g : Nat) (go : Obj) : Prop where
  hd : X.A.handled = none
  lt : L < ga
  base : X.base.objs.size ≤ L
  frs : ∀ b ∈ frs X.stack, b < L
  kind : scope.kind = .function
  nc : ∀ y ∈ scope.names, y.2 ≠ .cell ∧ y.2 ≠ .free
  co : scope.isCoroutine = false
  go : go.cls = .type "generator" ∧ (∃ nm qn, go.data = .fields #[.int g 0, nm, qn]) ∧ go.slots = #[]
theorem GFix.gen {h : Heap} (F : GFix X scope L ga g go) (e : h.get? ga = some go) : h.IsGen ga g := by
  obtain ⟨nm, qn, d⟩ := F.go.2.1
  exact ⟨go, nm, qn, e, F.go.1, d, F.go.2.2⟩
theorem GFix.ncell (F : GFix X scope L ga g go) : ∀ v, go.data ≠ .cell v := fun v z => by
  obtain ⟨nm, qn, d⟩ := F.go.2.1
  rw [d] at z; cases z
theorem Mine.nofr {b : Addr} {σ : L2.St} {H : Hp} {s : Shared} (m : Mine X pins b) (I : L2.Inv X pins σ H s) : b ∉ L2.frs X.stack := fun z => by
  rcases List.mem_cons.mp (I.stkSub b z) with q | q
  · exact m.1 q
  · exact m.2.1 q
theorem Mine.nobase {b : Addr} {σ : L2.St} {H : Hp} {s : Shared} (m : Mine X pins b) (I : L2.Inv X pins σ H s) {o : Obj} (e : X.base.get? b = some o) : False := by
  rcases m.2.2.1 with q | q
  · exact I.ok.noex b o e q
  · exact absurd (Nat.lt_of_lt_of_le (Heap.lt_size e) I.ok.bsz) (Nat.not_lt.mpr q)
/-- its iterator's objects are its own -/
theorem gC_fp {fp : List Addr} {sw : Shared} {H Hc : Hp} {ip : List (Addr × Obj)} (F : GFix X scope L ga g go) (hip : ∀ p ∈ ip, p.1 = ga) (hfi : ∀ b ∈ fpi, L ≤ b ∧ b ≠ L ∧ b ≠ ga) (hn : ∀ b ∈ fpi, Hc b = none) :
    ∀ b ∈ fpi, FpOk (gC X N qual scope f cd L fp sw H) ip Hc b := fun b hb => by
  obtain ⟨h1, h2, h3⟩ := hfi b hb
  have cn : (envOfC qual scope L f cd).cells = [] := cells_nil fun y hy => (F.nc y hy).1
  refine ⟨hn b hb, h2, fun z => absurd (F.frs b z) (Nat.not_lt.mpr h1), .inr (Nat.le_trans trunc_le h1), fun x c e => ?_, fun q hq => ?_⟩
  · have e : (envOfC qual scope L f cd).cells.lookup x = some c := e
    rw [cn] at e; cases e
  · have hq : q ∈ [] ++ ip := hq
    rw [List.nil_append] at hq
    rw [hip q hq]; exact Ne.symm h3
theorem loop_top (F : GFix X scope L ga g go) (hr : Room k (X.A.in1.deeper (envOfC qual scope L f cd))) (D : GDer X.prog X.w X.K X.mg X.base N qual scope f cd k pre tg iter e post tpre wi gt te tp)
    (T : Turn X.prog X.w X.K tg J fpi it tn) (U : GTurn n G Yd gt te tp J pr Lp Mid) (hG : ∀ i H H', Same H H' → G i H → G i H') (ho : ∀ q ∈ pr, OwnO q.2) (hi : interactive (envOfC qual scope L f cd) = false)
    (hmi : ∀ b ∈ fpi ++ pr.map (·.1), Mine X pins b) (hfi : ∀ b ∈ fpi, L ≤ b ∧ b ≠ L ∧ b ≠ ga) (hmL : Mine X pins L) (hmg : Mine X pins ga) :
    ∀ (m i : Nat), i + m = n → ∀ (sw s : Shared) (σc σ : L2.St) (H : Hp) (fp0 : List Addr) (kk : Result → Sem PySem.Fin) (gd : Bool) (l kp : List Value) (p : Pos), gd = false → L2.Inv X pins σc H sw → L2.Inv (gC X N qual scope f cd L fp0 sw H) [(ga, go)] σ (lay pr (Hx L sw.heap fp0 H)) s →
      tn i s.heap → G i H → Lp i σ → (∀ b ∈ fpi, lay pr (Hx L sw.heap fp0 H) b = none) → (∀ q ∈ pr, Hx L sw.heap fp0 H q.1 = none) → (∀ b ∈ fp0, Mine X pins b) →
      (∀ A' Φ' s3, Φ' (.ret (.ok (.ret .none))) s3 → Way (model X.prog X.w) A' Φ' (.func body (envOfC qual scope L f cd)) (kk (.ok .next)) [] s3) →
      Way (model X.prog X.w) X.A.in1 (Outp (model X.prog X.w) X.A.in1 X pins ga g n G Yd m σc H)
        (.forLoop tg (.ref it) (.Expr (.Yield (some e) yp) ypos :: post) [] (envOfC qual scope L f cd)) ((model X.prog X.w).den (.forLoop tg (.ref it) (.Expr (.Yield (some e) yp) ypos :: post) [] (envOfC qual scope L f cd))) [.ret kk none gd l (.func body (envOfC qual scope L f cd)) p kp] s := by
  generalize hL0 : (Code.forLoop tg (.ref it) (.Expr (.Yield (some e) yp) ypos :: post) [] (envOfC qual scope L f cd)) = LC
  have ov : ∀ {kk : Result → Sem PySem.Fin} {gd : Bool} {l kp : List Value} {p : Pos}, X.A.in1.over LC [.ret kk none gd l (.func body (envOfC qual scope L f cd)) p kp] = X.A.in1.deeper (envOfC qual scope L f cd) := fun {kk gd l kp p} => by
    rw [← hL0, over_loop rfl rfl, over_func]
  intro m
  induction m with
  | zero =>
    intro i him sw s σc σ H fp0 kk gd l kp p hgd I gI htn hg hLp hfn hpn hm0 hkk
    have ein : i = n := by omega
    subst ein
    have gG := hG i H _ (same_hx (L := L) (h := sw.heap) (fp := fp0)) hg
    refine way_forLoop hL0.symm ?_
    rw [ov]
    have st := gC_fp (N := N) (qual := qual) (f := f) (cd := cd) (fp := fp0) (sw := sw) (H := H) (ip := [(ga, go)]) F (fun p hp => by rw [List.mem_singleton.mp hp]) hfi hfn
    refine wpAny_mono (T.done (gC X N qual scope f cd L fp0 sw H) rfl rfl rfl rfl i [(ga, go)] s σ _ (fun _ _ => False) gI st htn (U.stop σ _ gG hpn hLp)) (fun r s1 ⟨hr1, gI1⟩ => ?_) fun _ _ z => z
    subst hr1
    refine hkk _ _ s1 ⟨rfl, ?_⟩
    exact recover (Nw := []) (pr := pr) (fp := fp0) (s0 := { sw with heap := trunc L fp0 sw.heap }) rfl rfl rfl I rfl rfl gI1 rfl (fun q hq => by cases hq) (fun q hq => ⟨hpn q hq, (ho q hq).pure⟩) F.frs hm0
  | succ m ih =>
    intro i him sw s σc σ H fp0 kk gd l kp p hgd I gI htn hg hLp hfn hpn hm0 hkk
    subst hgd
    have ein : n - (m + 1) = i := by omega
    have gG := hG i H _ (same_hx (L := L) (h := sw.heap) (fp := fp0)) hg
    refine way_forLoop hL0.symm ?_
    rw [ov]
    have st := gC_fp (N := N) (qual := qual) (f := f) (cd := cd) (fp := fp0) (sw := sw) (H := H) (ip := [(ga, go)]) F (fun p hp => by rw [List.mem_singleton.mp hp]) hfi hfn
    obtain ⟨hgo, hyl⟩ := U.go i σ _ (by omega) gG hpn hLp
    refine wpAny_mono (T.item (gC X N qual scope f cd L fp0 sw H) rfl rfl rfl rfl i [(ga, go)] s σ _ (fun _ _ => False) gI st htn hgo) (fun r s1 ⟨u, hr1, h1⟩ => ?_) fun _ _ z => z
    subst hr1
    refine wpAny_mono h1 (fun _ s2 ⟨x, H2, gI2, rx, y2, tn2, n2⟩ => ?_) fun _ _ z => z
    obtain ⟨dpre, dit, dg, de, dpost⟩ := D.d X.A.in1 X.stack L { sw with heap := trunc L fp0 sw.heap } (below L H) hr
    have gI2' := gI2.pinned (gC_fp (N := N) (qual := qual) (f := f) (cd := cd) (fp := fp0) (sw := sw) (H := H) (ip := [(ga, go)]) F (fun p hp => by rw [List.mem_singleton.mp hp]) hfi n2) (T.obj _ _ tn2)
    refine wpAny_mono (dg.run _ s2 σ H2 x u _ gI2' rx (hyl x H2 y2)) (fun _ s3 ⟨σ3, H3, gI3, q3⟩ => ?_) fun _ _ z => z
    refine way_cons (way_Yield rfl rfl ?_ F.co hi)
    rw [ov]
    refine wpAny_mono (de.run _ s3 σ3 H3 _ gI3 q3) (fun v s4 ⟨y, H4, gI4, ry, Nw, hH4, hNw, hYd, hMid⟩ => ?_) fun _ _ z => z
    intro l' k' p' hres
    have Ic := recover (Nw := Nw) (pr := pr) (fp := fp0) (s0 := { sw with heap := trunc L fp0 sw.heap }) rfl rfl rfl I rfl rfl gI4 hH4 hNw (fun q hq => ⟨hpn q hq, (ho q hq).pure⟩) F.frs hm0
    -- what is the generator's
    have hpL : ∀ q ∈ pr, q.1 ≠ L := fun q hq e => by
      have z : lay pr (Hx L sw.heap fp0 H) L = none := gI.free
      obtain ⟨v, _, ev⟩ := lay_val (H := Hx L sw.heap fp0 H) ⟨q, hq, e⟩
      rw [ev] at z; cases z
    have gpin := gI4.pin (ga, go) (List.mem_append_right _ (List.mem_append_left _ (List.mem_singleton.mpr rfl)))
    have hpG : ∀ q ∈ pr, q.1 ≠ ga := fun q hq e => by
      have z := (gI.pin (ga, go) (List.mem_append_right _ (List.mem_singleton.mpr rfl))).2.1
      obtain ⟨v, _, ev⟩ := lay_val (H := Hx L sw.heap fp0 H) ⟨q, hq, e⟩
      rw [ev] at z; cases z
    have hxn : ∀ {b}, Hx L sw.heap fp0 H b = none → H b = none := fun {b} h => by
      cases q : H b with
      | none => rfl
      | some u => rw [hx_some q] at h; cases h
    have off4 : ∀ {b}, H4 b = none → lay Nw H b = none := fun {b} h => by
      by_cases z : ∃ q ∈ Nw, q.1 = b
      · obtain ⟨v, _, ev⟩ := lay_val (H := lay pr (Hx L sw.heap fp0 H)) z
        rw [hH4, ev] at h; cases h
      · rw [hH4, lay_off fun q hq ee => z ⟨q, hq, ee⟩] at h
        rw [lay_off fun q hq ee => z ⟨q, hq, ee⟩]
        by_cases z2 : ∃ q ∈ pr, q.1 = b
        · obtain ⟨v, _, ev⟩ := lay_val (H := Hx L sw.heap fp0 H) z2
          rw [ev] at h; cases h
        · rw [lay_off fun q hq ee => z2 ⟨q, hq, ee⟩] at h
          exact hxn h
    have pr4 : ∀ {b}, (∃ q ∈ pr, q.1 = b) → H4 b = lay pr (Hx L sw.heap fp0 H) b ∧ lay Nw H b = none := fun {b} ⟨q, hq, e⟩ => by
      have nn : ∀ v ∈ Nw, v.1 ≠ b := fun v hv z => by
        have a := hNw v hv
        obtain ⟨c, _, ec⟩ := lay_val (H := Hx L sw.heap fp0 H) ⟨q, hq, e⟩
        rw [z, ec] at a; cases a
      refine ⟨by rw [hH4, lay_off nn], ?_⟩
      rw [lay_off nn, ← e]
      exact hxn (hpn q hq)
    have obj4 : ∀ b ∈ fpi, ∃ o, s4.heap.get? b = some o ∧ (∀ v, o.data ≠ .cell v) ∧ H4 b = none ∧ s2.heap.get? b = some o := fun b hb => by
      obtain ⟨o, e, d⟩ := T.obj _ _ tn2 b hb
      have z := gI4.pin (b, o) (List.mem_append_right _ (List.mem_append_right _ (mem_pinsAt hb e)))
      exact ⟨o, z.1, d, z.2.1, e⟩
    refine ⟨v, l', k', _, p', _, rfl, rfl, y, Nw, L :: ga :: (fpi ++ pr.map (·.1)), ry, by rw [ein]; exact hYd, fun q hq => ?_, Ic, fun b hb => ?_, List.mem_cons_of_mem _ List.mem_cons_self, F.gen gpin.1, ?_⟩
    · have z := hNw q hq
      cases e : H q.1 with
      | none => rfl
      | some u =>
        have ne : ∀ v ∈ pr, v.1 ≠ q.1 := fun v hv ee => by
          rw [← ee, hxn (hpn v hv)] at e; cases e
        rw [lay_off ne, hx_some e] at z; cases z
    · rcases List.mem_cons.mp hb with e | hb
      · subst e
        obtain ⟨mm, ⟨o, es, ep, ho', d, _⟩, _⟩ := gI4.loc
        exact ⟨hmL.ok (off4 gI4.free), o, ho', fun v z => by rw [d] at z; cases z⟩
      rcases List.mem_cons.mp hb with e | hb
      · subst e
        exact ⟨hmg.ok (off4 gpin.2.1), go, gpin.1, F.ncell⟩
      rcases List.mem_append.mp hb with hb' | hb'
      · obtain ⟨o, e1, e2, e3, _⟩ := obj4 b hb'
        exact ⟨(hmi b hb).ok (off4 e3), o, e1, e2⟩
      · obtain ⟨q, hq, e⟩ := List.mem_map.mp hb'
        obtain ⟨e1, e2⟩ := pr4 ⟨q, hq, e⟩
        obtain ⟨w, hw, ew⟩ := lay_val (H := Hx L sw.heap fp0 H) ⟨q, hq, e⟩
        obtain ⟨o, e3, e4⟩ := OwnO.there (gI4.hok b w.2 (e1.trans ew)) (ho w hw)
        exact ⟨(hmi b hb).ok e2, o, e3, e4⟩
    · -- woken again
      generalize hfp : L :: ga :: (fpi ++ pr.map (·.1)) = fp'
      have mL : L ∈ fp' := by rw [← hfp]; exact List.mem_cons_self
      have mG : ga ∈ fp' := by rw [← hfp]; exact List.mem_cons_of_mem _ List.mem_cons_self
      have mI : ∀ b ∈ fpi, b ∈ fp' := fun b hb => by rw [← hfp]; exact List.mem_cons_of_mem _ (List.mem_cons_of_mem _ (List.mem_append_left _ hb))
      have mP : ∀ q ∈ pr, q.1 ∈ fp' := fun q hq => by rw [← hfp]; exact List.mem_cons_of_mem _ (List.mem_cons_of_mem _ (List.mem_append_right _ (List.mem_map.mpr ⟨q, hq, rfl⟩)))
      have mm : ∀ b ∈ fp', Mine X pins b := fun b hb => by
        rw [← hfp] at hb
        rcases List.mem_cons.mp hb with e | hb
        · rw [e]; exact hmL
        rcases List.mem_cons.mp hb with e | hb
        · rw [e]; exact hmg
        · exact hmi b hb
      have again : ∀ (s : Shared) (σ' : L2.St) (H' : Hp), L2.Inv X pins σ' H' s → (∀ b ∈ fp', H' b = none ∧ ∀ o, s4.heap.get? b = some o → s.heap.get? b = some o) → G (i + 1) H' → Way (model X.prog X.w) X.A.in1 (Outp (model X.prog X.w) X.A.in1 X pins ga g n G Yd m σ' H')
          LC (k' (.send .none)) [.ret kk none false l (.func body (envOfC qual scope L f cd)) p kp] s := by
        intro s σ' H' I' hk' hg'
        refine hres _ _ s ?_
        obtain ⟨mm4, ⟨oL, es, ep, hoL, dL, rL⟩, _⟩ := id gI4.loc
        have sL : s.heap.get? L = some oL := (hk' L mL).2 oL hoL
        have fr' : ∀ q ∈ pr, Hx L s.heap fp' H' q.1 = none := fun q hq => by rw [hx_own (mP q hq)]; exact (hk' _ (mP q hq)).1
        have loc' : SlotsAt (envOfC qual scope L f cd) N σ3 s.heap := SlotsAt.stay F.nc (show SlotsAt (envOfC qual scope L f cd) N σ3 s4.heap from gI4.loc) fun o e => (hk' L mL).2 o e
        have hgL : lay pr (Hx L s.heap fp' H') L = none := by rw [lay_off hpL, hx_own mL]; exact (hk' L mL).1
        have hgG : lay pr (Hx L s.heap fp' H') ga = none := by rw [lay_off hpG, hx_own mG]; exact (hk' ga mG).1
        have hok' : HOk X.prog X.w (lay pr (Hx L s.heap fp' H')) s.heap := by
          refine hok_lay (hok_hx I'.hok) fr' fun b u z e => ?_
          obtain ⟨q, hq, eq⟩ := z
          obtain ⟨e1, _⟩ := pr4 ⟨q, hq, eq⟩
          have e2 : H4 b = some u := by rw [e1, lay_in (B := Hx L s.heap fp' H') ⟨q, hq, eq⟩]; exact e
          obtain ⟨w, hw, ew⟩ := lay_val (H := Hx L s.heap fp' H') ⟨q, hq, eq⟩
          rw [ew] at e
          have eu := Option.some.inj e
          subst eu
          exact OwnO.keep (gI4.hok b _ e2) (ho w hw) fun ob h => (hk' b (by rw [← eq]; exact mP q hq)).2 ob h
        have gI' := regX (P := X.prog) (w := X.w) (K := X.K) (mg := X.mg) (base := X.base) (N := N) (qual := qual) (scope := scope) (f := f) (cd := cd) (Ag := X.A.in1) (outer := X.stack) (L := L) (ga := ga) (go := go) (fp := fp') (Hg := lay pr (Hx L s.heap fp' H')) (σ := σ3) I'.env0 F.hd I'.ok.frames (Nat.le_of_lt (Heap.lt_size sL)) F.base
          (fun b hb => ⟨F.frs b hb, fun z => (mm b z).nofr I' hb⟩) (fun b o e z => (mm b z).nobase I' e) (fun b hb => (hk' b hb).1) F.kind F.nc loc' hgL ⟨(hk' ga mG).2 go gpin.1, hgG, Ne.symm (Nat.ne_of_lt F.lt), Nat.le_of_lt F.lt, F.ncell⟩ hok' gI4.len fun b hb hbf => by
            rw [lay_off fun q hq e => hbf (by rw [← e]; exact mP q hq), hx_lt hb]
        have hfn' : ∀ b ∈ fpi, lay pr (Hx L s.heap fp' H') b = none := fun b hb => by
          rw [lay_off fun q hq e => ?_, hx_own (mI b hb)]
          · exact (hk' b (mI b hb)).1
          · obtain ⟨c, _, ec⟩ := lay_val (H := Hx L sw.heap fp0 H) ⟨q, hq, e⟩
            rw [hfn b hb] at ec; cases ec
        have st' := gC_fp (N := N) (qual := qual) (f := f) (cd := cd) (fp := fp') (sw := s) (H := H') (ip := [(ga, go)]) F (fun p hp => by rw [List.mem_singleton.mp hp]) hfi hfn'
        have objs : ∀ b ∈ fpi, ∃ o, s.heap.get? b = some o ∧ (∀ v, o.data ≠ .cell v) := fun b hb => by
          obtain ⟨o, e1, e2, _⟩ := obj4 b hb
          exact ⟨o, (hk' b (mI b hb)).2 o e1, e2⟩
        have gI2'' := gI'.pinned st' objs
        obtain ⟨_, _, _, _, dp'⟩ := D.d X.A.in1 X.stack L { s with heap := trunc L fp' s.heap } (below L H') hr
        refine way_wrap (gd := id) (lv := id) ?_
        rw [ov]
        have gG' := hG (i + 1) H' _ (same_hx (L := L) (h := s.heap) (fp := fp')) hg'
        refine wpAny_mono (dp'.run _ s σ3 _ _ gI2'' (U.post i σ3 _ (by omega) gG' fr' hMid)) (fun fl s5 hs5 => ?_) fun _ _ z => z.elim
        cases fl with
        | next =>
          obtain ⟨σ5, H5, gI5, eH5, hLp5⟩ := hs5
          subst eH5
          refine way_again (by rw [← hL0]; rfl) ?_
          refine ih (i + 1) (by omega) s s5 σ' σ5 H' fp' kk false l kp p rfl I' gI5.unpinned (T.keep _ _ _ tn2 fun b hb o e => ?_) hg' hLp5 hfn' fr' mm hkk
          obtain ⟨o', e1, _, _, e2⟩ := obj4 b hb
          rw [e] at e2
          obtain rfl := Option.some.inj e2
          exact (gI5.pin (b, o) (List.mem_append_right _ (List.mem_append_right _ (mem_pinsAt hb ((hk' b (mI b hb)).2 o e1))))).1
        | brk => obtain ⟨_, _, _, z⟩ := hs5; exact z.elim
        | cont => obtain ⟨_, _, _, z⟩ := hs5; exact z.elim
        | ret v => obtain ⟨_, _, _, _, _, z⟩ := hs5; exact z.elim
      cases m with
      | zero =>
        intro s σ' H' I' hk' hg'
        have e1 : n = i + 1 := by omega
        rw [e1] at hg'
        exact again s σ' H' I' hk' hg'
      | succ m' =>
        intro s σ' H' I' hk' hg'
        have e1 : n - (m' + 1) = i + 1 := by omega
        rw [e1] at hg'
        exact again s σ' H' I' hk' hg'
end
open GenW
open Sem (wp)
/-! ### what was freed stays so: what is new stands at a new place -/
def Gone (b : Addr) (s : Shared) : Prop := b < s.heap.objs.size ∧ s.heap.get? b = none
theorem Gone.update {b a : Addr} {s : Shared} {f : Obj → Obj} (x : Gone b s) (h : (s.heap.get? a).isSome) : Gone b { s with heap := s.heap.update a f } := by
  refine ⟨?_, ?_⟩
  · show b < (s.heap.update a f).objs.size
    rw [Heap.size_after_update]; exact x.1
  · show (s.heap.update a f).get? b = none
    rw [Heap.get?_update_other _ _ fun e => ?_]
    · exact x.2
    · rw [e, x.2] at h; cases h
theorem Gone.push {b : Addr} {s : Shared} {o : Obj} (x : Gone b s) : Gone b { s with heap := s.heap.push o } := by
  have hl : b < (s.heap.push o).objs.size := by rw [Heap.size_push]; exact Nat.lt_succ_of_lt x.1
  refine ⟨hl, ?_⟩
  show (s.heap.push o).get? b = none
  have e : (s.heap.push o).objs[b]? = s.heap.objs[b]? := by
    have h1 := x.1
    obtain ⟨⟨objs, l⟩, _, _, _, _⟩ := s
    show (objs.push o)[b]? = objs[b]?
    rw [Array.getElem?_push, if_neg (Nat.ne_of_lt h1)]
  unfold Heap.get?
  rw [e]
  exact x.2
theorem runs_gone {M : Model} {Γ : PySem.Ctx} {p : Pos} {t : Sem PySem.Fin} {fs : List Frame} {s s' : Shared} {e : End} {b : Addr} (h : Runs M Γ p t fs s e s') : Gone b s → Gone b s' := by
  induction h with
  | update ho _ ih => exact fun x => ih (x.update ho)
  | alloc _ ih => exact fun x => ih x.push
  | call _ _ ih1 ih2 => exact fun x => ih2 (ih1 x)
  | resumeFresh _ _ _ _ ih1 ih2 => exact fun x => ih2 (ih1 x)
  | resumeSuspended _ _ _ _ ih1 ih2 => exact fun x => ih2 (ih1 x)
  | segRet _ _ ih1 ih2 => exact fun x => ih2 (ih1 x)
  | segGen _ _ ih1 ih2 => exact fun x => ih2 (ih1 x)
  | segSuspGen _ _ _ _ ih1 ih2 => exact fun x => ih2 (ih1 x)
  | done => exact id
  | raise => exact id
  | yield => exact id
  | _ => first | (rename_i ih; exact fun x => ih x) | skip
/-- what is there behind it, and wasn't ahead of it, stands at a new place -/
theorem wpAny_new {M : Model} {α : Type} {A : Around} {t : Sem α} {Q : α → Shared → Prop} {E : Value → Shared → Prop} {s : Shared} (h : wpAny M A t Q E s) :
    wpAny M A t (fun a s' => (∀ b, Gone b s → Gone b s') ∧ Q a s') (fun e s' => (∀ b, Gone b s → Gone b s') ∧ E e s') s := fun Γ p hΓ => by
  have q := h Γ p hΓ
  -- for all at once
  have all : ∀ (t : Sem α) (Q : α → Pos → Shared → Prop) (E : Value → Pos → Shared → Prop) (p : Pos) (s0 s : Shared), (∀ b, Gone b s0 → Gone b s) → wp M Γ t Q E p s →
      wp M Γ t (fun a p' s' => (∀ b, Gone b s0 → Gone b s') ∧ Q a p' s') (fun e p' s' => (∀ b, Gone b s0 → Gone b s') ∧ E e p' s') p s := by
    intro t
    induction t with
    | pure a => exact fun Q E p s0 s x h => ⟨x, h⟩
    | raise e => exact fun Q E p s0 s x h => ⟨x, h⟩
    | unsupported _ => exact fun Q E p s0 s _ h => h
    | finish _ => exact fun Q E p s0 s _ h => h
    | rule _ k ih => exact fun Q E p s0 s x h => ih () Q E p s0 s x h
    | «at» p' k ih => exact fun Q E p s0 s x h => ih () Q E p' s0 s x h
    | load a _ k ih => exact fun Q E p s0 s x ⟨o, ho, h⟩ => ⟨o, ho, ih o Q E p s0 s x h⟩
    | update a _ f k ih => exact fun Q E p s0 s x h => ⟨h.1, ih () Q E p s0 _ (fun b z => (x b z).update h.1) h.2⟩
    | loadIfAlive a k ih => exact fun Q E p s0 s x h => ih _ Q E p s0 s x h
    | point _ k ih => exact fun Q E p s0 s x h => ih () Q E p s0 s x h
    | register _ _ => exact fun Q E p s0 s _ h => h
    | alloc o k ih => exact fun Q E p s0 s x h => ih _ Q E p s0 _ (fun b z => (x b z).push) h
    | fresh k ih => exact fun Q E p s0 s x h => ih _ Q E p s0 _ x h
    | ask k ih => exact fun Q E p s0 s x h => ih _ Q E p s0 s x h
    | choose src m k ih => exact fun Q E p s0 s x h => ⟨h.1, ih _ Q E p s0 _ x h.2⟩
    | os q _ k ih => exact fun Q E p s0 s x h => ih _ Q E p s0 _ x h
    | call c hd _ _ k ih => exact fun Q E p s0 s x ⟨r, s', hr, h⟩ => ⟨r, s', hr, ih r Q E p s0 s' (fun b z => runs_gone (show Runs M _ _ _ _ _ _ _ from hr) (x b z)) h⟩
    | handled own k ih => exact fun Q E p s0 s x h => ih _ Q E p s0 s x h
    | genState g k ih => exact fun Q E p s0 s x ⟨st, hs, h⟩ => ⟨st, hs, ih _ Q E p s0 s x h⟩
    | newGen c k ih => exact fun Q E p s0 s x h => ih _ Q E p s0 _ x h
    | resume g r l k ih =>
      rintro Q E p s0 s x ⟨res, s', hw, h⟩
      refine ⟨res, s', hw, ih res Q E p s0 s' (fun b z => ?_) h⟩
      have x := x b z
      unfold Wakes at hw
      split at hw
      · exact hw.elim
      · split at hw
        · obtain ⟨e1, s1, hr, _, _, rfl⟩ := hw
          exact (show Gone b s1 from runs_gone hr (show Gone b (s.setGen g .running) from x))
        · rw [hw.2]; exact x
        · rw [hw.2]; exact x
      · obtain ⟨e1, s1, hr, _, _, rfl⟩ := hw
        exact (show Gone b s1 from runs_gone hr (show Gone b (s.setGen g .running) from x))
      · rw [hw.2]; exact x
      · rw [hw.2]; exact x
    | yield _ _ _ _ => exact fun Q E p s0 s _ h => h
    | stack k ih => exact fun Q E p s0 s x h => ih _ Q E p s0 s x h
    | fork _ _ => exact fun Q E p s0 s _ h => h
    | thread k ih => exact fun Q E p s0 s x h => ih _ Q E p s0 s x h
    | await _ _ _ _ _ => exact fun Q E p s0 s _ h => h
  exact all t _ _ p s s (fun _ z => z) q
open GenW
section
variable {X : Cx} {pins : List (Addr × Obj)} {N : List Str} {qual : Str} {scope : Scope} {f : Addr} {cd : Value} {k : Nat} {pre post body : List Stmt} {tg iter e : Expr} {tpre tp : TS} {wi : TI} {gt : TG} {te : TE} {n L ga g : Nat} {go : Obj} {G : Nat → Hp → Prop} {Yd : Nat → V → List (Addr × HO) → Prop} {yp ypos fpos : Pos} {σ0 : L2.St} {h0 : Heap}
/-- a generator that has not begun -/
theorem rdy_fresh (F : GFix X scope L ga g go) (hr : Room k (X.A.in1.deeper (envOfC qual scope L f cd))) (D : GDer X.prog X.w X.K X.mg X.base N qual scope f cd k pre tg iter e post tpre wi gt te tp) (hG : ∀ i H H', Same H H' → G i H → G i H')
    (hi : interactive (envOfC qual scope L f cd) = false) (hs : ∀ x, foldedSetIterable iter (envOfC qual scope L f cd) x = pure x) (hb : body = pre ++ [.For tg iter (.Expr (.Yield (some e) yp) ypos :: post) [] fpos])
    (first : ∀ H, G 0 H → tpre { nx := fun σ1 H1 => wi σ1 H1 fun J H2 => ∃ pr Lp Mid, H2 = lay pr H ∧ (∀ q ∈ pr, H q.1 = none ∧ OwnO q.2) ∧ Lp 0 σ1 ∧ GTurn n G Yd gt te tp J pr Lp Mid, rt := fun _ _ => False } σ0 H)
    (loc : SlotsAt (envOfC qual scope L f cd) N σ0 h0) (len : σ0.length = N.length) (hga : h0.get? ga = some go) (hmL : Mine X pins L) (hmg : Mine X pins ga) :
    Rdy (model X.prog X.w) X.A.in1 X pins ga g n G Yd n (.fresh (.func body (envOfC qual scope L f cd))) [L, ga] h0 := by
  have mm : ∀ b ∈ [L, ga], Mine X pins b := fun b hb => by
    rcases List.mem_cons.mp hb with e | hb
    · rw [e]; exact hmL
    · rw [List.mem_singleton.mp hb]; exact hmg
  have mL : L ∈ [L, ga] := List.mem_cons_self
  have mG : ga ∈ [L, ga] := List.mem_cons_of_mem _ (List.mem_singleton.mpr rfl)
  have main : ∀ (s : Shared) (σ' : L2.St) (H : Hp), L2.Inv X pins σ' H s → (∀ b ∈ [L, ga], H b = none ∧ ∀ o, h0.get? b = some o → s.heap.get? b = some o) → G 0 H →
      Way (model X.prog X.w) X.A.in1 (Outp (model X.prog X.w) X.A.in1 X pins ga g n G Yd n σ' H) (.func body (envOfC qual scope L f cd)) ((model X.prog X.w).den (.func body (envOfC qual scope L f cd))) [] s := by
    intro s σ' H I hk hg
    obtain ⟨m0, ⟨oL, es, ep, hoL, dL, rL⟩, _⟩ := id loc
    have sL : s.heap.get? L = some oL := (hk L mL).2 oL hoL
    have hxL : Hx L s.heap [L, ga] H L = none := by rw [hx_own mL]; exact (hk L mL).1
    have hxG : Hx L s.heap [L, ga] H ga = none := by rw [hx_own mG]; exact (hk ga mG).1
    have gI := regX (P := X.prog) (w := X.w) (K := X.K) (mg := X.mg) (base := X.base) (N := N) (qual := qual) (scope := scope) (f := f) (cd := cd) (Ag := X.A.in1) (outer := X.stack) (L := L) (ga := ga) (go := go) (fp := [L, ga]) (Hg := Hx L s.heap [L, ga] H) (σ := σ0) I.env0 F.hd I.ok.frames (Nat.le_of_lt (Heap.lt_size sL)) F.base
      (fun b hb => ⟨F.frs b hb, fun z => (mm b z).nofr I hb⟩) (fun b o e z => (mm b z).nobase I e) (fun b hb => (hk b hb).1) F.kind F.nc (SlotsAt.stay F.nc loc fun o e => (hk L mL).2 o e) hxL ⟨(hk ga mG).2 go hga, hxG, Ne.symm (Nat.ne_of_lt F.lt), Nat.le_of_lt F.lt, F.ncell⟩ (hok_hx I.hok) len fun b hb hbf => hx_lt hb
    obtain ⟨dpre, dit, dg, de, dpost⟩ := D.d X.A.in1 X.stack L { s with heap := trunc L [L, ga] s.heap } (below L H) hr
    have gG := hG 0 H _ (same_hx (L := L) (h := s.heap) (fp := [L, ga])) hg
    refine way_func ?_
    rw [hb]
    refine way_execs ?_
    rw [over_func]
    refine wpAny_mono (wpAny_new (dpre.run [(ga, go)] s σ0 _ _ gI (first _ gG))) (fun fl s1 ⟨new1, hs1⟩ => ?_) fun _ _ z => z.2.elim
    cases fl with
    | brk => obtain ⟨_, _, _, z⟩ := hs1; exact z.elim
    | cont => obtain ⟨_, _, _, z⟩ := hs1; exact z.elim
    | ret v => obtain ⟨_, _, _, _, _, z⟩ := hs1; exact z.elim
    | next =>
      obtain ⟨σ1, H1, gI1, q1⟩ := hs1
      refine ⟨rfl, way_cons (way_For ?_ hs)⟩
      rw [over_func]
      refine wpAny_mono (wpAny_new (dit.run [(ga, go)] s1 σ1 H1 _ gI1 q1)) (fun v s2 ⟨new2, hs2⟩ => ?_) fun _ _ z => z.2.elim
      refine wpAny_mono (wpAny_new hs2) (fun itv s3 ⟨new3, hs3⟩ => ?_) fun _ _ z => z.2.elim
      intro kk gd l p hgd hres
      obtain ⟨it, fpi, tn, J, H2, eit, gI3, T, tn0, hfp, pr, Lp, Mid, hH2, hpr, hLp, U⟩ := hs3
      subst eit
      subst hH2
      have gone : ∀ b, b < s.heap.objs.size → s.heap.get? b = none → s3.heap.get? b = none := fun b h1 h2 => (new3 b (new2 b (new1 b ⟨h1, h2⟩))).2
      have fresh : ∀ b, Hx L s.heap [L, ga] H b = none → b ≠ L → b ≠ ga → (L ≤ b ∨ lay pr (Hx L s.heap [L, ga] H) b ≠ none) → (∃ o, s3.heap.get? b = some o) → s.heap.objs.size ≤ b ∧ H b = none := fun b h1 h2 h3 h4 ⟨o, h5⟩ => by
        have hn : H b = none := by
          cases q : H b with
          | none => rfl
          | some u => rw [hx_some q] at h1; cases h1
        have nf : b ∉ [L, ga] := fun z => by
          rcases List.mem_cons.mp z with e | z
          · exact h2 e
          · exact h3 (List.mem_singleton.mp z)
        refine ⟨Nat.not_lt.mp fun hlt => ?_, hn⟩
        cases e : s.heap.get? b with
        | none => rw [gone b hlt e] at h5; cases h5
        | some ob =>
          by_cases hl : b < L
          · have t1 : (trunc L [L, ga] s.heap).get? b = some ob := by rw [trunc_lt hl nf]; exact e
            have z : lay pr (Hx L s.heap [L, ga] H) b = none := gI3.base.free b ob t1 (by show below L H b = none; rw [below_lt hl]; exact hn) (by show b ∉ ([] : List Addr); simp)
            rcases h4 with h4 | h4
            · exact absurd hl (Nat.not_lt.mpr h4)
            · exact h4 z
          · rw [hx_out hn (Nat.not_lt.mp hl) nf e] at h1; cases h1
      have prF : ∀ q ∈ pr, s.heap.objs.size ≤ q.1 ∧ H q.1 = none := fun q hq => by
        obtain ⟨c, hc, ec⟩ := lay_val (H := Hx L s.heap [L, ga] H) ⟨q, hq, rfl⟩
        have nL : q.1 ≠ L := fun z => by
          have a : lay pr (Hx L s.heap [L, ga] H) L = none := gI3.free
          have e2 := (congrArg (lay pr (Hx L s.heap [L, ga] H)) z).symm.trans ec
          rw [a] at e2; cases e2
        have nG : q.1 ≠ ga := fun z => by
          have a := (gI3.pin (ga, go) (List.mem_append_right _ (List.mem_singleton.mpr rfl))).2.1
          have a : lay pr (Hx L s.heap [L, ga] H) ga = none := a
          have e2 := (congrArg (lay pr (Hx L s.heap [L, ga] H)) z).symm.trans ec
          rw [a] at e2; cases e2
        exact fresh q.1 (hpr q hq).1 nL nG (.inr (by rw [ec]; exact fun z => by cases z)) (ObjOk.there (gI3.hok q.1 c.2 ec))
      have ftr : (trunc L [L, ga] s.heap).objs.size = L := trunc_size (Nat.le_of_lt (Heap.lt_size sL))
      have hfi : ∀ b ∈ fpi, L ≤ b ∧ b ≠ L ∧ b ≠ ga := fun b hb => by
        obtain ⟨_, h2, _, h4, _, h6⟩ := hfp b hb
        refine ⟨?_, h2, fun z => h6 (ga, go) (List.mem_append_right _ (List.mem_singleton.mpr rfl)) z.symm⟩
        rcases h4 with h4 | h4
        · exact absurd (show b ∈ ([] : List Addr) from h4) (by simp)
        · have h4 : (trunc L [L, ga] s.heap).objs.size ≤ b := h4
          rw [ftr] at h4; exact h4
      have fiF : ∀ b ∈ fpi, s.heap.objs.size ≤ b ∧ H b = none := fun b hb => by
        obtain ⟨h1, h2, h3⟩ := hfi b hb
        have a : lay pr (Hx L s.heap [L, ga] H) b = none := (hfp b hb).1
        have a2 : Hx L s.heap [L, ga] H b = none := by
          by_cases z : ∃ q ∈ pr, q.1 = b
          · obtain ⟨c, _, ec⟩ := lay_val (H := Hx L s.heap [L, ga] H) z
            rw [ec] at a; cases a
          · rw [lay_off fun q hq ee => z ⟨q, hq, ee⟩] at a; exact a
        obtain ⟨o, e1, _⟩ := T.obj _ _ tn0 b hb
        exact fresh b a2 h2 h3 (.inl h1) ⟨o, e1⟩
      refine loop_top (n := n) (i := 0) (N := N) F hr D T U hG (fun q hq => (hpr q hq).2) hi (fun b hb => ?_) hfi hmL hmg n (Nat.zero_add _) s s3 σ' σ1 H [L, ga] kk gd l [] p hgd I gI3 tn0 hg hLp (fun b hb => (hfp b hb).1) (fun q hq => (hpr q hq).1) mm fun A' Φ' s4 w => ?_
      · rcases List.mem_append.mp hb with hb | hb
        · exact (I.fpOk (fiF b hb).1 (fiF b hb).2).2
        · obtain ⟨q, hq, e⟩ := List.mem_map.mp hb
          rw [← e]
          exact (I.fpOk (prF q hq).1 (prF q hq).2).2
      · refine hres A' Φ' s4 ?_
        exact way_end (.ok (.ret .none)) w
  cases n with
  | zero => exact fun s σ' H I hk hg => main s σ' H I hk hg
  | succ m =>
    intro s σ' H I hk hg
    rw [Nat.sub_self] at hg
    exact main s σ' H I hk hg
end
open GenW
/-- a generator def's promise: how many it hands out, what must stand ahead of each wake, what is handed out with the objects that are new -/
abbrev SpY := List V → Nat → (Nat → Hp → Prop) → (Nat → V → List (Addr × HO) → Prop) → Prop
/-- a generator that has been made -/
def GMd (P : Program) (w : World) (K : PySem.W.Frag) (mg : Str → Option Value) (base : Heap) (A : Around) (outer : List Env) (n : Nat) (G : Nat → Hp → Prop) (Yd : Nat → V → List (Addr × HO) → Prop) (u : Value) (s s' : Shared) : Prop :=
  ∃ L ga g gs, u = .ref ga ∧ s.heap.objs.size ≤ L ∧ L < ga ∧ s'.os = s.os ∧ AllBare s'.gens ∧ (∀ b o, s.heap.get? b = some o → s'.heap.get? b = some o) ∧ s'.gens[g]? = some gs ∧ s'.heap.IsGen ga g ∧ (∀ b ∈ [L, ga], ∃ o, s'.heap.get? b = some o ∧ ∀ v, o.data ≠ .cell v) ∧
    ∀ (X : Cx) (pins : List (Addr × Obj)), X.prog = P → X.w = w → X.K = K → X.mg = mg → X.base = base → X.A = A → X.stack = outer → Mine X pins L → Mine X pins ga →
      ∀ h0 : Heap, (∀ b ∈ [L, ga], ∀ o, s'.heap.get? b = some o → h0.get? b = some o) → Rdy (model P w) A.in1 X pins ga g n G Yd n gs [L, ga] h0
structure GenFn (P : Program) (w : World) (K : PySem.W.Frag) (mg : Str → Option Value) (base : Heap) (k : Nat) (f : Addr) (fd : FuncData) (ps : List Str) (sp : SpY) : Prop where
  len : ∀ vs n G Yd, sp vs n G Yd → vs.length = ps.length
  go : ∀ {A : Around} {outer : List Env} {s : Shared} {H : Hp} {args : Args} {us : List Value} {vs : List V} {n : Nat} {G : Nat → Hp → Prop} {Yd : Nat → V → List (Addr × HO) → Prop}, Room k A → Env0 P w K mg base A outer s H → BindsTo s fd args (ps.zip us) → Vals vs us → sp vs n G Yd →
    codeAny (model P w) A (.call (.ref f) args) (fun r s' => ∃ u, r = .ok (.ret u) ∧ GMd P w K mg base A outer n G Yd u s s') s
/-! the parts of a def whose body ends in a loop that begins with yield -/
def noPos : Pos := ⟨0, 0, 0, 0⟩
def noE : Expr := .Name "" noPos
def lastO : List Stmt → Stmt
  | [] => .Pass noPos
  | s :: r => match r with
    | [] => s
    | _ :: _ => lastO r
def initO : List Stmt → List Stmt
  | [] => []
  | s :: r => match r with
    | [] => []
    | _ :: _ => s :: initO r
def lastS (st : Stmt) : Stmt := lastO (defBody st)
def tgOf : Stmt → Expr
  | .For t _ _ _ _ => t
  | _ => noE
def iterOf : Stmt → Expr
  | .For _ t _ _ _ => t
  | _ => noE
def bodOf : Stmt → List Stmt
  | .For _ _ b _ _ => b
  | _ => []
def fpOf : Stmt → Pos
  | .For _ _ _ _ p => p
  | _ => noPos
def yldOf : List Stmt → Expr
  | .Expr (.Yield (some e) _) _ :: _ => e
  | _ => noE
def ypOf : List Stmt → Pos
  | .Expr (.Yield _ p) _ :: _ => p
  | _ => noPos
def yposOf : List Stmt → Pos
  | .Expr _ p :: _ => p
  | _ => noPos
section
variable {P : Program} {w : World} {K : PySem.W.Frag} {mg : Str → Option Value} {base : Heap}
/-- by its body -/
theorem GenFn.mk' {x qual : Str} {st : Stmt} {f : Addr} {fd : FuncData} {N ps : List Str} {k : Nat} {sp : SpY} (F : Fun K x qual st f fd) (S : GScope N ps (defScope st)) (nc : ∀ y ∈ (defScope st).names, y.2 ≠ .cell ∧ y.2 ≠ .free)
    (hb : defBody st = initO (defBody st) ++ [.For (tgOf (lastS st)) (iterOf (lastS st)) (.Expr (.Yield (some (yldOf (bodOf (lastS st)))) (ypOf (bodOf (lastS st)))) (yposOf (bodOf (lastS st))) :: (bodOf (lastS st)).tail) [] (fpOf (lastS st))]) (hs : ∀ (env : Env) (x : Value), foldedSetIterable (iterOf (lastS st)) env x = pure x) (len : ∀ vs n G Yd, sp vs n G Yd → vs.length = ps.length)
    (body : ∀ (cdv : Value) (vs : List V) (n : Nat) (G : Nat → Hp → Prop) (Yd : Nat → V → List (Addr × HO) → Prop), sp vs n G Yd → (∀ i H H', Same H H' → G i H → G i H') ∧ ∃ tpre wi gt te tp, GDer P w K mg base N qual (defScope st) f cdv k (initO (defBody st)) (tgOf (lastS st)) (iterOf (lastS st)) (yldOf (bodOf (lastS st))) (bodOf (lastS st)).tail tpre wi gt te tp ∧
      ∀ H, G 0 H → tpre { nx := fun σ1 H1 => wi σ1 H1 fun J H2 => ∃ pr Lp Mid, H2 = lay pr H ∧ (∀ q ∈ pr, H q.1 = none ∧ OwnO q.2) ∧ Lp 0 σ1 ∧ GTurn n G Yd gt te tp J pr Lp Mid, rt := fun _ _ => False } (start N vs) H) : GenFn P w K mg base (k + 1) f fd ps sp := by
  obtain ⟨oc, od, kV, doc, pm, an, cdv, ct, osl, rfl, lk, hcd⟩ := F.ex
  refine ⟨len, ?_⟩
  intro A outer s H args us vs n G Yd hr e0 hbd r hsp
  obtain ⟨hG, tpre, wi, gt, te, tp, D, first⟩ := body cdv vs n G Yd hsp
  have hl := len _ _ _ _ hsp
  have KX : K.In s.heap := e0.mod.kin.keeps fun b o e => (e0.bs b o e).1
  have lim : s.heap.NoLimit := e0.mod.nolimit.keeps fun b o e => (e0.bs b o e).1
  have kinds : ∀ q ∈ ps.zip us, (defScope st).names.lookup q.1 = some .local ∨ ((defScope st).names.lookup q.1 = some .cell ∧ ((cellsFrom (s.heap.objs.size + 1) (defScope st).names []).lookup q.1).isSome = true) := by
    rintro ⟨a, v⟩ hq
    exact (S.par a (List.of_mem_zip hq).1).elim .inl fun c => .inr ⟨c, PySem.W.cellsFrom_some _ _ _ (.inl c)⟩
  refine codeAny_call_generator hr.depth (KX _ _ lk) rfl S.co S.gen rfl (PySem.W.codeRec_of KX hcd) (hbd _ _ _ _ ?_)
  refine wpAny_newFunctionEnv_cells S.kind kinds fun env he s1 ic => ?_
  subst he
  refine ⟨lim.keeps ic.toInCall.keep, _, rfl, ?_⟩
  obtain ⟨h1, tk, es1, hk1⟩ := ic.done
  have os1 : s1.os = s.os := by rw [es1]
  have gen1 : s1.gens = s.gens := by rw [es1]
  have lt1 : s.heap.objs.size < s1.heap.objs.size := ic.toInCall.ns.lt
  have kp1 : ∀ b o, s.heap.get? b = some o → s1.heap.get? b = some o := ic.toInCall.keep
  have I1 : L2.Inv (gcxOf P w K mg base N qual (defScope st) f cdv A outer s H (fun _ _ _ => False) []) [] (start N vs) H s1 := inv_startG S hr.hd e0 hl r ic
  have loc1 : SlotsAt (envOfC qual (defScope st) s.heap.objs.size f cdv) N (start N vs) s1.heap := I1.loc
  have main : ∀ (go : Obj) (nm qn : Value) (tk2 : Nat), go.cls = .type "generator" → go.data = .fields #[.int s1.gens.size 0, nm, qn] → go.slots = #[] → (∀ h : Heap, (h.push go).get? h.objs.size = some go) →
      GMd P w K mg base A outer n G Yd (.ref s1.heap.objs.size) s { s1 with gens := s1.gens.push (.fresh (.func (defBody st) (envOfC qual (defScope st) s.heap.objs.size f cdv))), toks := tk2, heap := s1.heap.push go } := by
    intro go nm qn tk2 hgc hgd hgs hgp
    have hpushed : (s1.heap.push go).get? s1.heap.objs.size = some go := hgp _
    have isg : (s1.heap.push go).IsGen s1.heap.objs.size s1.gens.size := ⟨go, nm, qn, hpushed, hgc, hgd, hgs⟩
    obtain ⟨m0, ⟨oL, es, ep, hoL, dL, rL⟩, _⟩ := id loc1
    have hoL : s1.heap.get? s.heap.objs.size = some oL := hoL
    refine ⟨s.heap.objs.size, s1.heap.objs.size, s1.gens.size, _, rfl, Nat.le_refl _, lt1, os1, AllBare.push (by rw [gen1]; exact e0.bare) rfl, fun b o e => Heap.get?_push_of_some _ (kp1 b o e), Array.getElem?_push_size .., isg, fun b hb => ?_, ?_⟩
    · rcases List.mem_cons.mp hb with e | hb
      · rw [e]
        exact ⟨oL, Heap.get?_push_of_some _ hoL, fun v z => by rw [dL] at z; cases z⟩
      · rw [List.mem_singleton.mp hb]
        exact ⟨go, hpushed, fun v z => by rw [hgd] at z; cases z⟩
    · intro X pins hP hw hK hm hB hA hS mL mG h0 hk
      subst hP; subst hw; subst hK; subst hm; subst hB; subst hA; subst hS
      have kL := hk s.heap.objs.size List.mem_cons_self oL (Heap.get?_push_of_some _ hoL)
      have kG := hk s1.heap.objs.size (List.mem_cons_of_mem _ (List.mem_singleton.mpr rfl)) go hpushed
      have Fx : GFix X (defScope st) s.heap.objs.size s1.heap.objs.size s1.gens.size go := ⟨hr.hd, lt1, e0.bsz, fun b hb => by
        obtain ⟨_, o, ho, _⟩ := e0.funs.mem hb
        exact Heap.lt_size ho, S.kind, nc, S.co, hgc, ⟨nm, qn, hgd⟩, hgs⟩
      refine rdy_fresh (go := go) Fx ?_ D hG ?_ (fun x => hs _ x) hb first (SlotsAt.stay nc loc1 fun o e => ?_) I1.len kG mL mG
      · exact ⟨hr.hd, by have := hr.dp; show X.A.depth + 1 + 3 * k + 5 < _; omega, by have := hr.un; show X.A.units + 1 + 3 + 16 * k + 200 < _; omega⟩
      · exact I1.quiet
      · have e : s1.heap.get? s.heap.objs.size = some o := e
        exact hk s.heap.objs.size List.mem_cons_self o (Heap.get?_push_of_some _ e)
  exact main _ _ _ _ rfl rfl rfl fun h => Heap.get?_push_size _ rfl
end
/-! ### for .. in f(..) -/
section
variable {X : Cx} {pins : List (Addr × Obj)} {σ : L2.St} {H : Hp} {s : Shared}
theorem SP.regen {D : Ends} {fl : Flow} {s' : Shared} (h : SP X pins D fl s') {G : Array GenState} (hg : AllBare G) : SP X pins D fl { s' with gens := G } := by
  cases fl with
  | next => obtain ⟨σ, H, I, q⟩ := h; exact ⟨σ, H, Inv.regen I hg, q⟩
  | brk => obtain ⟨σ, H, I, q⟩ := h; exact ⟨σ, H, Inv.regen I hg, q⟩
  | cont => obtain ⟨σ, H, I, q⟩ := h; exact ⟨σ, H, Inv.regen I hg, q⟩
  | ret u => obtain ⟨v, σ, H, I, r, q⟩ := h; exact ⟨v, σ, H, Inv.regen I hg, r, q⟩
/-- a run from here leaves asleep what is asleep -/
theorem still {α : Type} {t : Sem α} {R : α → Shared → Prop} {E : Value → Shared → Prop} (I : L2.Inv X pins σ H s) (h : ∀ s, L2.Inv X pins σ H s → wpAny (model X.prog X.w) X.A t (fun a s' => AllBare s'.gens ∧ R a s') (fun _ _ => False) s) (hR : ∀ a s' G, AllBare G → R a s' → R a { s' with gens := G }) :
    wpAny (model X.prog X.w) X.A t (fun a s' => R a s' ∧ ∀ (i : Nat) y, s.gens[i]? = some y → asleep y = true → s'.gens[i]? = some y) E s := by
  refine wpAny_mono (wpAny_still (h (kill s) (Inv.regen I (allBare_kill I.bare)))) (fun a s' ⟨s1, P, e, hb, hr⟩ => ?_) fun _ _ ⟨_, _, _, z⟩ => z.elim
  subst e
  exact ⟨hR a s1 _ (allBare_back I.bare hb) hr, fun i y e a => back_sleeps P e a⟩
end
open GenW
abbrev TGm := L2.St → Hp → (Nat → (Nat → Hp → Prop) → (Nat → V → List (Addr × HO) → Prop) → Hp → Prop) → Prop
/-- an expression whose value is a generator that has been made -/
structure PGn (X : Cx) (e : Expr) (t : TGm) : Prop where
  run : ∀ (pins : List (Addr × Obj)) (s : Shared) (σ : L2.St) (H : Hp) (R : Nat → (Nat → Hp → Prop) → (Nat → V → List (Addr × HO) → Prop) → Hp → Prop), L2.Inv X pins σ H s → t σ H R →
    wpAny (model X.prog X.w) X.A (eval e X.env) (fun u s' => ∃ n G Yd H1 s1, L2.Inv X pins σ H1 s1 ∧ GMd X.prog X.w X.K X.mg X.base X.A X.stack n G Yd u s1 s' ∧ R n G Yd H1) X.xe s
def tGm (sp : SpY) (t : TA) : TGm := fun σ H R => t σ H fun vs H1 => ∃ n G Yd, sp vs n G Yd ∧ R n G Yd H1
section
variable {X : Cx} {k : Nat} {f : Addr} {fd : FuncData} {ps : List Str} {sp : SpY} {x : Str} {p pos : Pos} {e : Expr} {es : List Expr} {t : TA}
/-- f(e, ..) -/
theorem pgn_call (F : GenFn X.prog X.w X.K X.mg X.base k f fd ps sp) (hr : Room k X.A) (hx : Gl X x) (hm : X.mg x = some (.ref f)) (hk : PySem.W.keepIn X.K (.ref f) = true) (hb : L2.Binds X.K fd ps [])
    (ha : PA X (e :: es) t) (hdb : (x == ("__debug__" : Str)) = false := by decide) (he : starEach (e :: es) X.env = (false, eval e X.env) :: starEach es X.env := by rfl) (hpl : (backTo pos (starEach es X.env)).any (·.1) = false := by rfl) :
    PGn X (.Call (.Name x p) (e :: es) [] pos) (tGm sp t) := by
  constructor
  intro pins s σ H R I h
  have run : ∀ {us : List Value} {vs : List V} {H1 : Hp} {s1 : Shared}, L2.Inv X pins σ H1 s1 → Vals vs us → (∃ n G Yd, sp vs n G Yd ∧ R n G Yd H1) →
      wpAny (model X.prog X.w) X.A (call (.ref f) us) (fun u s' => ∃ n G Yd H1 s1, L2.Inv X pins σ H1 s1 ∧ GMd X.prog X.w X.K X.mg X.base X.A X.stack n G Yd u s1 s' ∧ R n G Yd H1) X.xe s1 := by
    intro us vs H1 s1 I1 r q
    obtain ⟨n, G, Yd, q1, q2⟩ := q
    have hl : us.length = ps.length := by rw [← r.length]; exact F.len _ _ _ _ q1
    have bt := hb s1 us I1.kIn (by rw [List.append_nil]; exact hl)
    rw [List.append_nil] at bt
    refine wpAny_call (codeAny_mono (F.go hr I1.env0 bt r q1) ?_)
    rintro r s2 ⟨u, rfl, z⟩
    exact ⟨n, G, Yd, H1, s1, I1, z, q2⟩
  refine wpAny_Call_Name_kw (ld_glob I hx hm ?_ hdb)
  exact PySem.W.callWith_K (h₀ := X.base) I.ok.mod.kin hk (thn (ha.run pos pins s σ H _ I h) fun us s1 ⟨vs, H1, I1, r, q⟩ => ⟨I1.kIn, run I1 r q⟩) he hpl
end
def tForG (t : TGm) (g : TG) (tb : TS) : TS := fun D σ H => t σ H fun n G Yd H1 => ∃ Pv : Nat → L2.St → Hp → Prop, Pv 0 σ H1 ∧ (∀ i σ H, i ≤ n → Pv i σ H → G i H) ∧
  (∀ i σ H y Nw, i < n → Pv i σ H → Yd i y Nw → (∀ q ∈ Nw, H q.1 = none) → g y σ (lay Nw H) fun σ2 H2 => tb { D with nx := Pv (i + 1), ct := Pv (i + 1), bk := D.nx } σ2 H2) ∧ ∀ σ H, Pv n σ H → D.nx σ H
section
variable {X : Cx} {pins : List (Addr × Obj)} {σ : L2.St} {H : Hp} {s s' : Shared}
/-- the maker's state, once the generator is there -/
theorem GMd.inv {n : Nat} {G : Nat → Hp → Prop} {Yd : Nat → V → List (Addr × HO) → Prop} {u : Value} (I : L2.Inv X pins σ H s) (m : GMd X.prog X.w X.K X.mg X.base X.A X.stack n G Yd u s s') :
    ∃ L ga g gs, u = .ref ga ∧ L < ga ∧ s'.gens[g]? = some gs ∧ s'.heap.IsGen ga g ∧ L2.Inv X pins σ H s' ∧ (∀ b ∈ [L, ga], FpOk X pins H b ∧ ∃ o, s'.heap.get? b = some o ∧ ∀ v, o.data ≠ .cell v) ∧
      ∀ (Y : Cx) (pins : List (Addr × Obj)), Y.prog = X.prog → Y.w = X.w → Y.K = X.K → Y.mg = X.mg → Y.base = X.base → Y.A = X.A → Y.stack = X.stack → Mine Y pins L → Mine Y pins ga →
        ∀ h0 : Heap, (∀ b ∈ [L, ga], ∀ o, s'.heap.get? b = some o → h0.get? b = some o) → Rdy (model X.prog X.w) X.A.in1 Y pins ga g n G Yd n gs [L, ga] h0 := by
  obtain ⟨L, ga, g, gs, e, hL, hlt, hos, hba, hk, hg, hgen, hobj, hy⟩ := m
  have I2 : L2.Inv X pins σ H s' := I.call' (ch := []) hos (Un.kept hk) (I.hok.kept hk) hba fun b z => by cases z
  refine ⟨L, ga, g, gs, e, hlt, hg, hgen, I2, fun b hb => ⟨?_, hobj b hb⟩, hy⟩
  have hb' : s.heap.objs.size ≤ b := by
    rcases List.mem_cons.mp hb with z | hb
    · rw [z]; exact hL
    · rw [List.mem_singleton.mp hb]; exact Nat.le_trans hL (Nat.le_of_lt hlt)
  exact I.fpOk hb' (I.hok.fresh hb')
/-- nothing is let go ahead of the store -/
theorem go_gen {M : Model} {A : Around} {E : Value → Shared → Prop} {tg : Expr} {ga g : Nat} {u : Value} {Q : Unit → Shared → Prop} (hg : s.heap.IsGen ga g) (hQ : Q () s) : wpAny M A (letOwnedTupleGo tg (.ref ga) u) Q E s := by
  obtain ⟨o, nm, qn, ho, hc, hd, _⟩ := hg
  exact go_of ho hc hd (by decide) hQ
/-- the loop's state ahead of a wake -/
structure Ahead (X : Cx) (pins : List (Addr × Obj)) (ga g n : Nat) (G : Nat → Hp → Prop) (Yd : Nat → V → List (Addr × HO) → Prop) (m : Nat) (σ : L2.St) (H : Hp) (s : Shared) : Prop where
  ex : ∃ (gs : GenState) (fp : List Addr) (h0 : Heap), s.gens[g]? = some gs ∧ Rdy (model X.prog X.w) X.A.in1 X pins ga g n G Yd m gs fp h0 ∧ (∀ b ∈ fp, FpOk X pins H b ∧ ∀ o, h0.get? b = some o → s.heap.get? b = some o)
  inv : L2.Inv X pins σ H s
  gen : s.heap.IsGen ga g
/-- the next is asked for -/
theorem Ahead.next {ga g n m : Nat} {G : Nat → Hp → Prop} {Yd : Nat → V → List (Addr × HO) → Prop} {E : Value → Shared → Prop} (h : Ahead X pins ga g n G Yd m σ H s) (hr : Room 0 X.A) (hg : G (n - m) H) (hm : m ≤ n) {Q : Option Value → Shared → Prop}
    (hQ0 : m = 0 → ∀ s', L2.Inv X pins σ H s' → Q none s')
    (hQ1 : ∀ m', m = m' + 1 → ∀ (v : Value) (y : V) (Nw : List (Addr × HO)) (fp : List Addr) (gs : GenState) (s' : Shared), RelV y v → Yd (n - m) y Nw → (∀ q ∈ Nw, H q.1 = none) → L2.Inv X pins σ (lay Nw H) s' →
      (∀ b ∈ fp, FpOk X pins (lay Nw H) b ∧ ∃ o, s'.heap.get? b = some o ∧ ∀ v, o.data ≠ .cell v) → ga ∈ fp → s'.heap.IsGen ga g → s'.gens[g]? = some gs → asleep gs = true → Rdy (model X.prog X.w) X.A.in1 X pins ga g n G Yd m' gs fp s'.heap → Q (some v) s') :
    wpAny (model X.prog X.w) X.A (pyNext (.ref ga)) Q E s := by
  obtain ⟨⟨gs, fp, h0, hgs, hrd, hfp⟩, I, hgen⟩ := h
  have hgl : g < s.gens.size := (Array.getElem?_eq_some_iff.mp hgs).1
  have bare2 : ∀ {s1 : Shared} {x : GenState}, AllBare s1.gens → x.bare = true → AllBare (s1.setGen g x).gens := fun h hx => allBare_setGen h hx
  have Ir : L2.Inv X pins σ H (s.setGen g .running) := Inv.regen I (bare2 I.bare rfl)
  refine wpAny_mono (wpAny_gsz (n := g + 1) hgl (Q := fun a s' => Q a s') (E := E) ?_) (fun _ _ z => z) fun _ _ z => z
  refine next_gen (Φ := Outp (model X.prog X.w) X.A.in1 X pins ga g n G Yd m σ H) hr.hd I.nolimit hr.depth hgen hgs ?_ fun e s1 he => ?_
  · cases m with
    | zero => exact hrd _ σ H Ir (fun b hb => ⟨(hfp b hb).1.1, (hfp b hb).2⟩) hg
    | succ m' => exact hrd _ σ H Ir (fun b hb => ⟨(hfp b hb).1.1, (hfp b hb).2⟩) hg
  · cases m with
    | zero =>
      obtain ⟨rfl, I1⟩ := he
      refine ⟨rfl, rfl, fun h' hk _ => hQ0 rfl _ ?_⟩
      have I2 : L2.Inv X pins σ H (s1.setGen g .finished) := Inv.regen I1 (bare2 I1.bare rfl)
      exact I2.kept (t' := s1.toks) hk
    | succ m' =>
      obtain ⟨v, l, k, c, p, fs, rfl, hq, y, Nw, fp', ry, hYd, hNw, I1, hfp', mg, hgen', hrd'⟩ := he
      refine ⟨hq, fun hsz => ?_⟩
      have hsz' : g < s1.gens.size := by
        have q : (s1.setGen g (End.susp v false l k c p fs).genState).gens.size = s1.gens.size := setGen_size _ _ _
        have hsz : g + 1 ≤ (s1.setGen g (End.susp v false l k c p fs).genState).gens.size := hsz
        omega
      exact hQ1 m' rfl v y Nw fp' _ _ ry hYd hNw (Inv.regen I1 (bare2 I1.bare (End.bare_of_quiet hq))) hfp' mg hgen' (setGen_at hsz') rfl hrd'
/-- what was pinned is as it was -/
theorem pin_at {fp : List Addr} {h : Heap} {σ' : L2.St} {H' : Hp} (I : L2.Inv X (pins ++ pinsAt fp h) σ' H' s) {b : Addr} (hb : b ∈ fp) {o : Obj} (e : h.get? b = some o) : s.heap.get? b = some o ∧ H' b = none :=
  let z := I.pin (b, o) (List.mem_append_right _ (List.mem_append_right _ (mem_pinsAt hb e)))
  ⟨z.1, z.2.1⟩
theorem Ahead.back {ga g n m : Nat} {G : Nat → Hp → Prop} {Yd : Nat → V → List (Addr × HO) → Prop} {fp : List Addr} {gs : GenState} {h3 : Heap} {H3 : Hp} (I : L2.Inv X (pins ++ pinsAt fp h3) σ H s) (hfp : ∀ b ∈ fp, FpOk X pins H3 b ∧ ∃ o, h3.get? b = some o ∧ ∀ v, o.data ≠ .cell v) (mg : ga ∈ fp) (hgen : h3.IsGen ga g)
    (hgs : s.gens[g]? = some gs) (hrd : Rdy (model X.prog X.w) X.A.in1 X pins ga g n G Yd m gs fp h3) : Ahead X pins ga g n G Yd m σ H s where
  ex := ⟨gs, fp, h3, hgs, hrd, fun b hb => by
    obtain ⟨f1, o, e, _⟩ := hfp b hb
    exact ⟨⟨(pin_at I hb e).2, f1.2⟩, fun o e => (pin_at I hb e).1⟩⟩
  inv := I.unpinned
  gen := by
    obtain ⟨o, nm, qn, e, r⟩ := hgen
    exact ⟨o, nm, qn, (pin_at I mg e).1, r⟩
end
section
variable {X : Cx}
theorem ps_forG {tg iter : Expr} {body : List Stmt} {t : TGm} {g : TG} {tb : TS} {pos : Pos} (hx : X.xe = fun _ _ => False) (hr : Room 0 X.A) (hi : PGn X iter t) (hg : PG X tg g) (hb : PSs X body tb)
    (hs : ∀ x, foldedSetIterable iter X.env x = pure x := by intro _; rfl) : PS X (.For tg iter body [] pos) (tForG t g tb) := by
  refine ⟨fun pins s σ H D I h => ?_⟩
  refine wpAny_For (thn (hi.run pins s σ H _ I h) fun u s1 ⟨n, G, Yd, H1, s0, I0, gm, hR⟩ => ?_) hs
  obtain ⟨L, ga, gn, gs, rfl, hlt, hgs, hgen, I1, hfp, hy⟩ := GMd.inv I0 gm
  obtain ⟨Pv, p0, hG, turn, done⟩ := hR
  refine wpAny_pyIter_gen hgen ?_
  refine codeAny_forLoop_any (fun m s' => m ≤ n ∧ ∃ σ' H', Ahead X pins ga gn n G Yd m σ' H' s' ∧ Pv (n - m) σ' H') ?_ n ⟨Nat.le_refl _, σ, H1, ⟨⟨gs, [L, ga], s1.heap, hgs, hy X pins rfl rfl rfl rfl rfl rfl rfl (hfp L List.mem_cons_self).1.2 (hfp ga (List.mem_cons_of_mem _ (List.mem_singleton.mpr rfl))).1.2 s1.heap (fun _ _ _ e => e), fun b hb => ⟨(hfp b hb).1, fun _ e => e⟩⟩, I1, hgen⟩, by rw [Nat.sub_self]; exact p0⟩
  rintro m s2 ⟨hm, σ2, H2, ha, hp⟩
  refine ha.next hr (hG (n - m) σ2 H2 (Nat.sub_le ..) hp) hm (fun e s3 I3 => ?_) (fun m' e v y Nw fp gs' s3 ry hYd hNw I3 hfp3 mg hgen3 hgs3 hsl hrd => ?_)
  · subst e
    exact wpAny_execs_nil ⟨σ2, H2, I3, done σ2 H2 hp⟩
  · subst e
    refine go_gen hgen3 ?_
    have I3' := I3.pinned (fun b hb => (hfp3 b hb).1) (fun b hb => (hfp3 b hb).2)
    have e1 : n - (m' + 1) + 1 = n - m' := by omega
    have tn := turn (n - (m' + 1)) σ2 H2 y Nw (by omega) hp hYd hNw
    rw [e1] at tn
    have ag : ∀ s, L2.Inv X (pins ++ pinsAt fp s3.heap) σ2 (lay Nw H2) s → wpAny (model X.prog X.w) X.A (assign tg X.env v) (fun _ s' => AllBare s'.gens ∧ ∃ σ' H', L2.Inv X (pins ++ pinsAt fp s3.heap) σ' H' s' ∧ tb { D with nx := Pv (n - m'), ct := Pv (n - m'), bk := D.nx } σ' H') (fun _ _ => False) s := fun s I => by
      have q := hg.run _ s σ2 (lay Nw H2) y v _ I ry tn
      rw [hx] at q
      exact thn q fun _ s' ⟨σ', H', I', q'⟩ => ⟨I'.bare, σ', H', I', q'⟩
    refine thn (still I3' ag fun _ s' G hG ⟨σ', H', I', q'⟩ => ⟨σ', H', Inv.regen I' hG, q'⟩) fun _ s4 ⟨⟨σ4, H4, I4, q4⟩, sl4⟩ => ?_
    have bd : ∀ s, L2.Inv X (pins ++ pinsAt fp s3.heap) σ4 H4 s → wpAny (model X.prog X.w) X.A (execs body X.env) (fun fl s' => AllBare s'.gens ∧ SP X (pins ++ pinsAt fp s3.heap) { D with nx := Pv (n - m'), ct := Pv (n - m'), bk := D.nx } fl s') (fun _ _ => False) s := fun s I => by
      have q := hb.run _ s σ4 H4 _ I q4
      rw [hx] at q
      refine thn q fun fl s' z => ⟨?_, z⟩
      cases fl with
      | next => obtain ⟨_, _, I', _⟩ := z; exact I'.bare
      | brk => obtain ⟨_, _, I', _⟩ := z; exact I'.bare
      | cont => obtain ⟨_, _, I', _⟩ := z; exact I'.bare
      | ret u => obtain ⟨_, _, _, I', _⟩ := z; exact I'.bare
    refine thn (still I4 bd fun fl s' G hG z => SP.regen z hG) fun fl s5 ⟨hs5, sl5⟩ => ?_
    have g5 : s5.gens[gn]? = some gs' := sl5 gn gs' (sl4 gn gs' hgs3 hsl) hsl
    cases fl with
    | next =>
      obtain ⟨σ5, H5, I5, n5⟩ := hs5
      exact ⟨m', Nat.lt_succ_self _, by omega, σ5, H5, Ahead.back I5 hfp3 mg hgen3 g5 hrd, n5⟩
    | cont =>
      obtain ⟨σ5, H5, I5, n5⟩ := hs5
      exact ⟨m', Nat.lt_succ_self _, by omega, σ5, H5, Ahead.back I5 hfp3 mg hgen3 g5 hrd, n5⟩
    | brk => obtain ⟨σ5, H5, I5, q5⟩ := hs5; exact ⟨σ5, H5, I5.unpinned, q5⟩
    | ret v => obtain ⟨x5, σ5, H5, I5, r5, q5⟩ := hs5; exact ⟨x5, σ5, H5, I5.unpinned, r5, q5⟩
end
section
variable {X : Cx} {K : PySem.W.Frag}
theorem pi_listK {tg l : Expr} {tl : TE} (h : X.K = K) (hl : PE X l tl) : PI X tg l (iList K tl) := by
  subst h
  exact pi_list hl
theorem call_listK (h : X.K = K) : CallR X (.type "list") (fun xs H Q => ∃ p ys, xs = [.ref p] ∧ (SqL K H p ys ∨ SqT K H p ys) ∧ ∀ l, H l = none → Q (.ref l) (upd H l (.lst ys))) := by
  subst h
  exact call_list_of
end
open GenW
/-! ### [elt for x in own_generator(..)] -/
def tLcG (t : TGm) (g : TG) (tt : TT) (te : TE) (vs : List Nat) : TE := fun σ H Q => t σ H fun n G Yd H1 => ∀ D, H1 D = none → ∃ Pv : Nat → Hp → Prop, Pv 0 (upd H1 D (.lst [])) ∧ (∀ i H, i ≤ n → Pv i H → G i H) ∧
  (∀ i H y Nw, i < n → Pv i H → Yd i y Nw → (∀ q ∈ Nw, H q.1 = none) → g y (wipe σ vs) (lay Nw H) fun σ2 H2 => wipe σ2 vs = wipe σ vs ∧ tt σ2 H2 fun b H3 =>
    if b = true then te σ2 H3 fun y H4 => ∃ acc, H4 D = some (.lst acc) ∧ acc.length < sizeLine ∧ Pv (i + 1) (upd H4 D (.lst (acc ++ [y]))) else Pv (i + 1) H3) ∧ ∀ H, Pv n H → Q (.ref D) H
section
variable {X : Cx} {pins : List (Addr × Obj)} {σ : L2.St} {H : Hp} {s : Shared} {α : Type}
theorem stillS {t : Sem α} {Φ : L2.St → Hp → Prop} {E : Value → Shared → Prop} (I : L2.Inv X pins σ H s) (h : ∀ s, L2.Inv X pins σ H s → wpAny (model X.prog X.w) X.A t (fun _ s' => ∃ σ' H', L2.Inv X pins σ' H' s' ∧ Φ σ' H') (fun _ _ => False) s) :
    wpAny (model X.prog X.w) X.A t (fun _ s' => (∃ σ' H', L2.Inv X pins σ' H' s' ∧ Φ σ' H') ∧ ∀ (i : Nat) y, s.gens[i]? = some y → asleep y = true → s'.gens[i]? = some y) E s :=
  still I (fun s I => thn (h s I) fun _ _ ⟨σ', H', I', q⟩ => ⟨I'.bare, σ', H', I', q⟩) fun _ _ _ hG ⟨σ', H', I', q⟩ => ⟨σ', H', Inv.regen I' hG, q⟩
theorem stillB {t : Sem α} {Φ : α → Hp → Prop} {E : Value → Shared → Prop} (I : L2.Inv X pins σ H s) (h : ∀ s, L2.Inv X pins σ H s → wpAny (model X.prog X.w) X.A t (fun a s' => ∃ H', L2.Inv X pins σ H' s' ∧ Φ a H') (fun _ _ => False) s) :
    wpAny (model X.prog X.w) X.A t (fun a s' => (∃ H', L2.Inv X pins σ H' s' ∧ Φ a H') ∧ ∀ (i : Nat) y, s.gens[i]? = some y → asleep y = true → s'.gens[i]? = some y) E s :=
  still I (fun s I => thn (h s I) fun _ _ ⟨H', I', q⟩ => ⟨I'.bare, H', I', q⟩) fun _ _ _ hG ⟨H', I', q⟩ => ⟨H', Inv.regen I' hG, q⟩
theorem stillV {t : Sem Value} {Φ : V → Hp → Prop} {E : Value → Shared → Prop} (I : L2.Inv X pins σ H s) (h : ∀ s, L2.Inv X pins σ H s → wpAny (model X.prog X.w) X.A t (fun a s' => ∃ y H', L2.Inv X pins σ H' s' ∧ RelV y a ∧ Φ y H') (fun _ _ => False) s) :
    wpAny (model X.prog X.w) X.A t (fun a s' => (∃ y H', L2.Inv X pins σ H' s' ∧ RelV y a ∧ Φ y H') ∧ ∀ (i : Nat) y, s.gens[i]? = some y → asleep y = true → s'.gens[i]? = some y) E s :=
  still I (fun s I => thn (h s I) fun _ _ ⟨y, H', I', r, q⟩ => ⟨I'.bare, y, H', I', r, q⟩) fun _ _ _ hG ⟨y, H', I', r, q⟩ => ⟨y, H', Inv.regen I' hG, r, q⟩
end
section
variable {X : Cx}
theorem lcG_core {pins : List (Addr × Obj)} {s : Shared} {σ : L2.St} {H : Hp} {Q : VK} {elt tg iter : Expr} {ifs : List Expr} {scope : Scope} {own : List (Str × Nat)} {pos pos' : Pos} {t : TGm} {g : TG} {tt : TT} {te : TE} {use : Option (Value → Sem Unit)} {Qf : Value → Shared → Prop}
    (hr : Room 0 X.A) (hN : X.N.Nodup) (I : L2.Inv X pins σ H s) (hi : PGn X iter t) (ok : BlkOk X.N X.env.scope scope own)
    (hg : ∀ (s : Shared) (H : Hp) (C : Addr) (cl : List (Str × Addr)) (fp : List Addr), PG (X.blk s H scope (compEnvC scope cl C X.env) fp) tg g) (ht : ∀ (s : Shared) (H : Hp) (C : Addr) (cl : List (Str × Addr)) (fp : List Addr), PTs (X.blk s H scope (compEnvC scope cl C X.env) fp) ifs tt)
    (he : ∀ (s : Shared) (H : Hp) (C : Addr) (cl : List (Str × Addr)) (fp : List Addr), PE (X.blk s H scope (compEnvC scope cl C X.env) fp) elt te) (hs : ∀ x, foldedSetIterable iter X.env x = pure x)
    (h : tLcG t g tt te (own.map (·.2)) σ H Q)
    (hRR : ∀ D C s' m H', L2.Inv X pins σ H' s' → Q (.ref D) H' → s'.heap.Ns C m → FpOk X pins H' C → compPost (model X.prog X.w) X.A X.xe use Qf (.ref D) C (.ok .next) s') :
    wpAny (model X.prog X.w) X.A (comprehension (.ListComp elt [⟨tg, iter, ifs, 0⟩] scope pos) scope X.env pos' (newList []) false (eval iter X.env) use) Qf X.xe s := by
  have hfree : ∀ y ∈ scope.names, y.2 = .free → ∃ c, X.env.cells.lookup y.1 = some c := fun y hy e => by
    rcases ok.free y hy e with k | k
    · exact I.ok.has _ (.inl k)
    · exact I.ok.has _ (.inr k)
  refine wpAny_comprehension_free (use := use) rfl hs (closure_ok hfree) ok.kind (fun y hy e => by rw [ok.uniq y hy, e])
    (thn (hi.run pins s σ H _ I h) fun u s1 ⟨n, G, Yd, H1, s0, I0, gm, hR⟩ => ?_)
  obtain ⟨L, ga, gn, gs, rfl, hlt, hgs, hgen, I1, hfp, hy⟩ := GMd.inv I0 gm
  refine wpAny_pyIter_gen hgen ?_
  refine wpAny_newObj_type (newEnv_comp ?_) (by show 0 ≤ sizeLine; decide)
  generalize hD : s1.heap.objs.size = D
  have hDn : H1 D = none := I1.hok.fresh (Nat.le_of_eq hD)
  obtain ⟨Pv, p0, hG, turn, done⟩ := hR D hDn
  have sz : ∀ b ∈ [L, ga], b < s1.heap.objs.size := fun b hb => by
    obtain ⟨_, o, e, _⟩ := hfp b hb
    exact Heap.lt_size e
  generalize hs3 : ({ s1 with heap := s1.heap.push { cls := .type "list", data := .seq ([] : List Value).toArray } } : Shared) = s3
  have I3 : L2.Inv X pins σ (upd H1 D (.lst [])) s3 := by
    rw [← hs3]
    refine I1.laid (t' := s1.toks) (fun b o e => Heap.get?_push_of_some _ e) (Nat.le_of_eq hD) ⟨Nat.zero_le _, [], 0, .nil, ?_⟩
    rw [← hD]
    exact Heap.get?_push_size _ rfl
  have h3 : s3.heap = s1.heap.push { cls := .type "list", data := .seq ([] : List Value).toArray } := by rw [← hs3]
  have g3 : s3.gens = s1.gens := by rw [← hs3]
  have f3 : ∀ b ∈ [L, ga], FpOk X pins (upd H1 D (.lst [])) b ∧ b < s3.heap.objs.size := fun b hb => by
    have hlt := sz b hb
    refine ⟨⟨?_, (hfp b hb).1.2⟩, by rw [h3, Heap.size_push]; exact Nat.lt_succ_of_lt hlt⟩
    rw [upd_ne (by rw [← hD]; exact Nat.ne_of_lt hlt)]
    exact (hfp b hb).1.1
  have I4 := block_start I3 ok hN f3
  have pg := hg s3 (upd H1 D (.lst [])) s3.heap.objs.size (cellsFrom (s3.heap.objs.size + 1) scope.names (cloFrom X.env.cells scope.names [])) [L, ga]
  have pt := ht s3 (upd H1 D (.lst [])) s3.heap.objs.size (cellsFrom (s3.heap.objs.size + 1) scope.names (cloFrom X.env.cells scope.names [])) [L, ga]
  have pe := he s3 (upd H1 D (.lst [])) s3.heap.objs.size (cellsFrom (s3.heap.objs.size + 1) scope.names (cloFrom X.env.cells scope.names [])) [L, ga]
  show codeAny _ _ (.compStart (.ListComp elt [⟨tg, iter, ifs, 0⟩] scope pos) 0 (.ref ga) (.ref D) (compEnvC scope (cellsFrom (s3.heap.objs.size + 1) scope.names (cloFrom X.env.cells scope.names [])) s3.heap.objs.size X.env)) (compPost (model X.prog X.w) X.A X.xe use Qf (.ref D) s3.heap.objs.size) { s3 with heap := pushCells (s3.heap.push { cls := .type "dict", data := .dict #[] }) scope.names }
  generalize hce : compEnvC scope (cellsFrom (s3.heap.objs.size + 1) scope.names (cloFrom X.env.cells scope.names [])) s3.heap.objs.size X.env = ce at I4 pg pt pe ⊢
  have cL : ce.locals = s3.heap.objs.size := by subst hce; rfl
  generalize hH3 : upd H1 D (.lst []) = H3 at I3 I4 pg pt pe p0 f3
  generalize hs4 : ({ s3 with heap := pushCells (s3.heap.push { cls := .type "dict", data := .dict #[] }) scope.names } : Shared) = s4 at I4 ⊢
  have keep4 : ∀ b o, s1.heap.get? b = some o → s4.heap.get? b = some o := fun b o e => by
    rw [← hs4]
    refine pushCells_keeps _ _ _ _ (Heap.get?_push_of_some _ ?_)
    rw [h3]
    exact Heap.get?_push_of_some _ e
  have g4 : s4.gens = s1.gens := by rw [← hs4]; exact g3
  have gen4 : s4.heap.IsGen ga gn := by
    obtain ⟨o, nm, qn, e, r⟩ := hgen
    exact ⟨o, nm, qn, keep4 _ _ e, r⟩
  have nfp : ∀ b ∈ [L, ga], H3 b = none := fun b hb => (f3 b hb).1.1
  have stat : ∀ {σ' : L2.St} {H' : Hp} {s' : Shared}, L2.Inv (X.blk s3 H3 scope ce [L, ga]) [] σ' H' s' → (∀ b ∈ [L, ga], H' b = none) → ∀ b ∈ [L, ga], FpOk (X.blk s3 H3 scope ce [L, ga]) [] H' b := fun {σ' H' s'} I' hn b hb =>
    ⟨hn b hb, (I'.ok.exf b hb).1, I'.ok.exfs b hb, .inl hb, fun x c e => (I'.ok.exf b hb).2 x c e, fun p hp => absurd (show p ∈ ([] : List (Addr × Obj)) ++ [] from hp) (by simp)⟩
  have sta0 := stat I4 nfp
  have A0 : Ahead (X.blk s3 H3 scope ce [L, ga]) [] ga gn n G Yd n (wipe σ (own.map (·.2))) H3 s4 :=
    ⟨⟨gs, [L, ga], s1.heap, by rw [g4]; exact hgs, hy (X.blk s3 H3 scope ce [L, ga]) [] rfl rfl rfl rfl rfl rfl rfl (sta0 L List.mem_cons_self).2 (sta0 ga (List.mem_cons_of_mem _ (List.mem_singleton.mpr rfl))).2 s1.heap (fun _ _ _ e => e), fun b hb => ⟨sta0 b hb, fun o e => keep4 b o e⟩⟩, I4, gen4⟩
  have loop : codeAny (model X.prog X.w) X.A (.compLoop (.ListComp elt [⟨tg, iter, ifs, 0⟩] scope pos) 0 (.ref ga) (.ref D) ce) (compPost (model X.prog X.w) X.A X.xe use Qf (.ref D) s3.heap.objs.size) s4 := by
    refine compLoop_any (fun m s' => m ≤ n ∧ ∃ H', Ahead (X.blk s3 H3 scope ce [L, ga]) [] ga gn n G Yd m (wipe σ (own.map (·.2))) H' s' ∧ Pv (n - m) H') ?_ n ⟨Nat.le_refl _, H3, A0, by rw [Nat.sub_self]; exact p0⟩
    rintro m s2 ⟨hm, H2, ha, hp⟩
    refine ha.next (X := X.blk s3 H3 scope ce [L, ga]) hr (hG (n - m) H2 (Nat.sub_le ..) hp) hm (fun e s5 I5 => ?_) (fun m' e v y Nw fp gs' s5 ry hYd hNw I5 hfp5 mg hgen5 hgs5 hsl hrd => ?_)
    · subst e
      have I7 : L2.Inv X pins σ H2 s5 := I3.call' (ch := [L, ga]) I5.os I5.base I5.hok I5.bare fun b hb => ⟨(f3 b hb).1.2.2.2.1, (f3 b hb).1.2.1, (f3 b hb).1.2.2.2.2.1, (f3 b hb).1.2.2.2.2.2⟩
      have nC : H2 s3.heap.objs.size = none := by
        have z : H2 ce.locals = none := I5.free
        rw [cL] at z
        exact z
      obtain ⟨m, hn, _⟩ := I5.loc
      have hn : s5.heap.Ns ce.locals m := hn
      rw [cL] at hn
      exact hRR D s3.heap.objs.size s5 m H2 I7 (done H2 hp) hn (I3.fpOk (Nat.le_refl _) nC)
    · subst e
      refine go_gen hgen5 ?_
      have I5' := I5.pinned (fun b hb => (hfp5 b hb).1) (fun b hb => (hfp5 b hb).2)
      have e1 : n - (m' + 1) + 1 = n - m' := by omega
      have tn := turn (n - (m' + 1)) H2 y Nw (by omega) hp hYd hNw
      rw [e1] at tn
      refine thnF (stillS (X := X.blk s3 H3 scope ce [L, ga]) I5' fun s I => pg.run _ s (wipe σ (own.map (·.2))) (lay Nw H2) y v _ I ry tn) fun _ s6 z6 => ?_
      obtain ⟨⟨σ6, H6, I6, hw6, q6⟩, sl6⟩ := z6
      refine thnF (stillB (X := X.blk s3 H3 scope ce [L, ga]) I6 fun s I => pt.run _ s σ6 H6 _ I q6) fun b s7 z7 => ?_
      obtain ⟨⟨H7, I7, q7⟩, sl7⟩ := z7
      have fin : ∀ {s' : Shared} {H' : Hp}, L2.Inv (X.blk s3 H3 scope ce [L, ga]) ([] ++ pinsAt fp s5.heap) σ6 H' s' → s'.gens[gn]? = some gs' → Pv (n - m') H' →
          ∃ m, m < m' + 1 ∧ m ≤ n ∧ ∃ H', Ahead (X.blk s3 H3 scope ce [L, ga]) [] ga gn n G Yd m (wipe σ (own.map (·.2))) H' s' ∧ Pv (n - m) H' := fun {s' H'} I' eg pv => by
        have hl : (wipe σ (own.map (·.2))).length = σ6.length := by rw [← hw6, wipe_length]
        have Iw := I'.weak hl (fun j v e => by rw [← hw6] at e; exact (wipe_some e).1)
        exact ⟨m', Nat.lt_succ_self _, by omega, H', Ahead.back Iw hfp5 mg hgen5 eg hrd, pv⟩
      have e7 : s7.gens[gn]? = some gs' := sl7 gn gs' (sl6 gn gs' hgs5 hsl) hsl
      cases b with
      | false =>
        simp only [Bool.false_eq_true, if_false] at q7 ⊢
        exact fin I7 e7 q7
      | true =>
        simp only [if_true] at q7 ⊢
        refine thnF (stillV (X := X.blk s3 H3 scope ce [L, ga]) I7 fun s I => pe.run _ s σ6 H7 _ I q7) fun z s8 z8 => ?_
        obtain ⟨⟨yv, H8, I8, r8, acc, hD8, hz8, nx⟩, sl8⟩ := z8
        have e8 := sl8 gn gs' e7 hsl
        have ap := fun (s : Shared) (I : L2.Inv (X.blk s3 H3 scope ce [L, ga]) ([] ++ pinsAt fp s5.heap) σ6 H8 s) => app_ok (X := X.blk s3 H3 scope ce [L, ga]) (Q := fun _ s' => AllBare s'.gens ∧ L2.Inv (X.blk s3 H3 scope ce [L, ga]) ([] ++ pinsAt fp s5.heap) σ6 (upd H8 D (.lst (acc ++ [yv]))) s') (E := fun _ _ => False) I hD8 hz8 r8 fun s11 I11 => ⟨I11.bare, I11⟩
        refine thnF (still (X := X.blk s3 H3 scope ce [L, ga]) I8 ap fun _ s' G hG I' => Inv.regen I' hG) fun _ s9 z9 => ?_
        obtain ⟨I9, sl9⟩ := z9
        exact fin I9 (sl9 gn gs' e8 hsl) nx
  exact codeAny_compStart_list loop (wpAny_pyIter_gen gen4 loop)
/-- as a value -/
theorem pe_lcG {elt tg iter : Expr} {ifs : List Expr} {scope : Scope} {own : List (Str × Nat)} {pos : Pos} {t : TGm} {g : TG} {tt : TT} {te : TE} (hr : Room 0 X.A) (hN : X.N.Nodup) (hi : PGn X iter t) (ok : BlkOk X.N X.env.scope scope own)
    (hg : ∀ (s : Shared) (H : Hp) (C : Addr) (cl : List (Str × Addr)) (fp : List Addr), PG (X.blk s H scope (compEnvC scope cl C X.env) fp) tg g) (ht : ∀ (s : Shared) (H : Hp) (C : Addr) (cl : List (Str × Addr)) (fp : List Addr), PTs (X.blk s H scope (compEnvC scope cl C X.env) fp) ifs tt)
    (he : ∀ (s : Shared) (H : Hp) (C : Addr) (cl : List (Str × Addr)) (fp : List Addr), PE (X.blk s H scope (compEnvC scope cl C X.env) fp) elt te) (hs : ∀ x, foldedSetIterable iter X.env x = pure x := by intro _; rfl) :
    PE X (.ListComp elt [⟨tg, iter, ifs, 0⟩] scope pos) (tLcG t g tt te (own.map (·.2))) := by
  refine ⟨fun pins s σ H Q I h => ?_⟩
  rw [eval_ListComp]
  refine lcG_core hr hN I hi ok hg ht he hs h fun D C s' m H' I' q hn f => ⟨m, hn, fun h'' sb => ?_⟩
  obtain ⟨f0, f1, f2, f3, f4, f5⟩ := f
  exact ⟨.ref D, H', I'.turned (t' := s'.toks) (fun b o hb e => (sb.2 b hb).trans e) f0 f1 f3 f4 f5, rfl, q⟩
end
open GenW
/-! ### calls by keywords alone -/
/-- a promise by the values of the keywords ks -/
def FnV (P : Program) (w : World) (K : PySem.W.Frag) (mg : Str → Option Value) (base : Heap) (k : Nat) (f : Addr) (ks : List Str) (sp : Sp) : Prop :=
  ∀ (A : Around) (outer : List Env) (s : Shared) (H : Hp) (us : List Value) (vs : List V) (Q : VK) (E : XK), Room k A → Env0 P w K mg base A outer s H → Vals vs us → sp vs H Q E →
    codeAny (model P w) A (.call (.ref f) ⟨[], ks.zip us⟩) (CR CX0 outer P w H s Q E) s
theorem vals_rev {vs : List V} {us : List Value} (h : Vals vs us) : Vals vs.reverse us.reverse := by
  induction vs generalizing us with
  | nil => cases h; exact .nil
  | cons v r ih =>
    cases h with
    | cons a t =>
      rw [List.reverse_cons, List.reverse_cons]
      exact (ih t).append (.cons a .nil)
section
variable {P : Program} {w : World} {K : PySem.W.Frag} {mg : Str → Option Value} {base : Heap} {k : Nat} {f : Addr} {fd : FuncData} {ps ks : List Str} {sp : Sp}
theorem FnOk.byName (F : FnOk P w K mg base CX0 k f fd ps sp) (hb : ∀ us : List Value, us.length = ps.length → bindArgs fd ⟨[], ks.zip us⟩ = pure (ps.zip us)) : FnV P w K mg base k f ks sp := by
  intro A outer s H us vs Q E hr e0 r hs
  have hl : us.length = ps.length := by rw [← r.length]; exact F.len _ _ _ _ hs
  exact F.run A outer s H ⟨[], ks.zip us⟩ us vs Q E hr e0 (.of_eq (hb us hl)) r hs
theorem FnOk.byNameR (F : FnOk P w K mg base CX0 k f fd ps sp) (hb : ∀ us : List Value, us.length = ps.length → bindArgs fd ⟨[], ks.zip us⟩ = pure (ps.zip us.reverse)) : FnV P w K mg base k f ks (fun vs => sp vs.reverse) := by
  intro A outer s H us vs Q E hr e0 r hs
  have r2 := vals_rev r
  have hl : us.length = ps.length := by
    rw [← List.length_reverse, ← r2.length]; exact F.len _ _ _ _ hs
  exact F.run A outer s H ⟨[], ks.zip us⟩ us.reverse vs.reverse Q E hr e0 (.of_eq (hb us hl)) r2 hs
end
section
variable {X : Cx} {k : Nat} {f : Addr} {fd : FuncData} {ps ks : List Str} {sp : Sp} {spy : SpY} {E : XK} {x : Str} {p pos : Pos} {kws : List Keyword} {tk : TA}
/-- f(k = v, ..) -/
theorem pe_callV (F : FnV X.prog X.w X.K X.mg X.base k f ks sp) (hr : Room k X.A) (hg : Gl X x) (hm : X.mg x = some (.ref f)) (hk : PySem.W.keepIn X.K (.ref f) = true) (hkw : PK X kws tk)
    (hall : (backToKw pos (keywordEach kws X.env)).all (·.1.isSome) = true := by rfl) (hks : (backToKw pos (keywordEach kws X.env)).filterMap (·.1) = ks := by rfl)
    (hdb : (x == ("__debug__" : Str)) = false := by decide)
    (hpl : ((backTo pos (starEach [] X.env)).any (·.1) || (backToKw pos (keywordEach kws X.env)).any (·.1.isNone)) = false := by rfl) :
    PE X (.Call (.Name x p) [] kws pos) (fun σ H Q => tk σ H fun vs H1 => sp vs H1 Q (fun _ _ _ => False)) := by
  refine ⟨fun pins s σ H Q I h => ?_⟩
  refine wpAny_Call_Name_kw (ld_glob I hg hm ?_ hdb)
  refine PySem.W.callWith_KW0 (h₀ := X.base) I.ok.mod.kin hk hall (thn (hkw.run pos pins s σ H _ I h) fun ws s2 ⟨zs, H2, I2, rz, q2⟩ => ⟨I2.kIn, ?_⟩) hpl
  rw [hks]
  refine wpAny_call (codeAny_mono (F X.A X.stack s2 H2 ws zs Q _ hr I2.env0 rz q2) fun r s' hq => ?_)
  cases r with
  | error e => exact False.elim hq
  | ok fl =>
    cases fl with
    | ret u => exact I2.after hq
    | next => exact False.elim hq
    | brk => exact False.elim hq
    | cont => exact False.elim hq
/-- own_generator(k = v, ..) -/
theorem pgn_callV (F : GenFn X.prog X.w X.K X.mg X.base k f fd ps spy) (hr : Room k X.A) (hx : Gl X x) (hm : X.mg x = some (.ref f)) (hk : PySem.W.keepIn X.K (.ref f) = true)
    (hb : ∀ us : List Value, us.length = ps.length → bindArgs fd ⟨[], ks.zip us⟩ = pure (ps.zip us)) (hkw : PK X kws tk)
    (hall : (backToKw pos (keywordEach kws X.env)).all (·.1.isSome) = true := by rfl) (hks : (backToKw pos (keywordEach kws X.env)).filterMap (·.1) = ks := by rfl)
    (hdb : (x == ("__debug__" : Str)) = false := by decide)
    (hpl : ((backTo pos (starEach [] X.env)).any (·.1) || (backToKw pos (keywordEach kws X.env)).any (·.1.isNone)) = false := by rfl) :
    PGn X (.Call (.Name x p) [] kws pos) (tGm spy tk) := by
  constructor
  intro pins s σ H R I h
  refine wpAny_Call_Name_kw (ld_glob I hx hm ?_ hdb)
  refine PySem.W.callWith_KW0 (h₀ := X.base) I.ok.mod.kin hk hall (thn (hkw.run pos pins s σ H _ I h) fun us s1 ⟨vs, H1, I1, r, n, G, Yd, q1, q2⟩ => ⟨I1.kIn, ?_⟩) hpl
  rw [hks]
  have hl : us.length = ps.length := by rw [← r.length]; exact F.len _ _ _ _ q1
  refine wpAny_call (codeAny_mono (F.go hr I1.env0 (.of_eq (hb us hl)) r q1) ?_)
  rintro r s2 ⟨u, rfl, z⟩
  exact ⟨n, G, Yd, H1, s1, I1, z, q2⟩
/-- a def with a star parameter and nothing for it, called plainly: as FnR -/
theorem pe_callR0 {e : Expr} {es : List Expr} {t : TA} (F : FnR X.prog X.w X.K X.mg X.base CX0 k f sp) (hr : Room k X.A) (hg : Gl X x) (hm : X.mg x = some (.ref f)) (hk : PySem.W.keepIn X.K (.ref f) = true)
    (ha : PA X (e :: es) t) (hdb : (x == ("__debug__" : Str)) = false := by decide) (he : starEach (e :: es) X.env = (false, eval e X.env) :: starEach es X.env := by rfl) (hpl : (backTo pos (starEach es X.env)).any (·.1) = false := by rfl) :
    PE X (.Call (.Name x p) (e :: es) [] pos) (fun σ H Q => t σ H fun vs H1 => sp vs H1 Q (fun _ _ _ => False)) := by
  constructor
  intro pins s σ H Q I h
  refine wpAny_Call_Name_kw (ld_glob I hg hm ?_ hdb)
  refine PySem.W.callWith_K (h₀ := X.base) I.ok.mod.kin hk (thn (ha.run pos pins s σ H _ I h) fun us s1 ⟨vs, H1, I1, r, q⟩ => ⟨I1.kIn, ?_⟩) he hpl
  refine wpAny_call (codeAny_mono (F X.A X.stack s1 H1 us vs Q _ hr I1.env0 r q) ?_)
  rintro (z | (_ | _ | _ | u)) s2 hq
  · exact False.elim hq
  · exact hq.elim
  · exact hq.elim
  · exact hq.elim
  · exact I1.after hq
end
/-! ### do_moves without a move -/
def spMoves0 (K : PySem.W.Frag) : Sp := fun vs H Q _ => ∃ (o : Addr) (js : List Int), vs = [.ref o] ∧ SqL K H o (js.map V.int) ∧ ∀ (p : Addr) (H' : Hp), H p = none → Same H H' → H' p = some (.lst (js.map V.int)) → Q (.ref p) H'
theorem scMoves0 : FnScope ["order", "moves", "result", "move"] ((["order"] : List Str) ++ [("moves" : Str)]) (defScope sDoMoves) := ⟨rfl, rfl, rfl, by decide +kernel, rfl, by decide +kernel, by decide +kernel⟩
section
variable {P : Program} {w : World} {K : PySem.W.Frag} {mg : Str → Option Value} {base : Heap}
/-- by any arguments that bind to the order and an empty tuple -/
theorem moves0_run {f fD : Addr} {fd fdD : FuncData} {spD : Sp} (F : Fun K "do_moves" "do_moves" sDoMoves f fd) (T : mg "list" = none) (GD : FnOk P w K mg base CX0 4 fD fdD ["order", "move"] spD) (mD : mg "do_move" = some (.ref fD)) (kD : PySem.W.keepIn K (.ref fD) = true) (bD : L2.Binds K fdD ["order", "move"] [])
    {args : List Value → Args} (hb : ∀ us : List Value, us.length = 1 → bindArgs fd (args us) = (newTuple [] >>= fun t => pure ((["order"] : List Str).zip us ++ [(("moves" : Str), t)])))
    {A : Around} {outer : List Env} {s : Shared} {H : Hp} {us : List Value} {vs : List V} {Q : VK} {E : XK} (hr : Room 5 A) (e0 : Env0 P w K mg base A outer s H) (r : Vals vs us) (h : spMoves0 K vs H Q E) :
    codeAny (model P w) A (.call (.ref f) (args us)) (CR CX0 outer P w H s Q E) s := by
  obtain ⟨oc, od, kV, doc, pm, an, cdv, ct, osl, rfl, lk, hcd⟩ := F.ex
  obtain ⟨o, js, rfl, hO, k⟩ := h
  have hn : H s.heap.objs.size = Option.none := e0.hok.fresh (Nat.le_refl _)
  obtain ⟨u, rfl, ru⟩ := vals1 r
  refine StX.run_bnd lk hcd scMoves0 hr e0 (G := fun xs H2 => ∃ p, H p = Option.none ∧ xs = [V.ref o] ++ [V.ref p] ∧ H2 = upd H p (.tup [])) (fun A' Ex Q' h => ?_) fun s2 H2 xs ⟨p, hp, ex, eH⟩ hr' => ?_
  · rw [hb [u] rfl]
    refine wpAny_bind (wpAny_newTuple (wpAny_pure ?_) (Nat.zero_le _))
    have new : ObjOk P w (upd H s.heap.objs.size (.tup [])) (s.heap.push ({ cls := .type "tuple", data := .seq ([] : List Value).toArray } : Obj)) s.heap.objs.size (.tup []) := ⟨Nat.zero_le _, [], .nil, ⟨_, Heap.get?_push_size _ rfl, rfl, _, rfl⟩⟩
    have un := StX.un_laid (fs := frs outer) (s := s) (o := ({ cls := .type "tuple", data := .seq ([] : List Value).toArray } : Obj)) (u := .tup []) hn
    exact h _ _ ([V.ref o] ++ [V.ref s.heap.objs.size]) ([u] ++ [Value.ref s.heap.objs.size]) (StX.env0_laid e0 new) un rfl (fun e s' z => z) (r.append (.cons rfl .nil)) rfl ⟨_, hn, rfl, rfl⟩
  · subst ex eH
    refine ⟨_, PSs.nox (pss_cons (ps_set (i := 2) scMoves0.nd rfl (Or.inl rfl) (pe_callTy call_list_of (by rfl) T (by decide +kernel) (pa_cons (pv 0) pa_nil)))
      (pss_cons (ps_for PassesOwn.never rfl (pi_tup (pv 1)) (pg_name (i := 3) scMoves0.nd rfl (Or.inl rfl))
        (pss_one (ps_set (i := 2) scMoves0.nd rfl (Or.inl rfl) (pe_call GD hr' rfl mD kD bD .nil pass0 (pa_cons (pv 2) (pa_cons (pv 3) pa_nil))))))
      (pss_one (ps_ret (pv 2))))), ?_⟩
    have s1 := Same.new (o := .tup []) hp
    refine ⟨_, rfl, o, _, rfl, .inl (Same.sq s1 hO), fun q hq => ?_⟩
    have s2 := Same.new (o := .lst (js.map V.int)) hq
    have hpt : SqT K (upd (upd H p (.tup [])) q (.lst (js.map V.int))) p [] := SqT.of (s2 _ _ upd_same)
    refine ⟨_, rfl, p, rfl, ⟨_, hpt⟩, ?_⟩
    refine for_tup (K := K) (a := p) (xs := ([] : List V)) (fun i σ H' => σ = [some (.ref o), some (.ref p), some (.ref q), none] ∧ H' = upd (upd H p (.tup [])) q (.lst (js.map V.int))) ⟨rfl, rfl⟩ (fun i σ H' _ e => by rw [e.2]; exact hpt) ?_ ?_
    · rintro i x σ H' hx _
      simp at hx
    · rintro σ H' ⟨rfl, rfl⟩
      refine ⟨_, rfl, k q _ ?_ (s1.trans s2) upd_same⟩
      cases e : H q with
      | none => rfl
      | some u => rw [s1 _ _ e] at hq; cases hq
theorem ok_moves0 {f fD : Addr} {fd fdD : FuncData} {spD : Sp} (F : Fun K "do_moves" "do_moves" sDoMoves f fd) (T : mg "list" = none) (GD : FnOk P w K mg base CX0 4 fD fdD ["order", "move"] spD) (mD : mg "do_move" = some (.ref fD)) (kD : PySem.W.keepIn K (.ref fD) = true) (bD : L2.Binds K fdD ["order", "move"] [])
    (hb : ∀ us : List Value, us.length = 1 → bindArgs fd ⟨us, []⟩ = (newTuple [] >>= fun t => pure ((["order"] : List Str).zip us ++ [(("moves" : Str), t)]))) : FnR P w K mg base CX0 5 f (spMoves0 K) :=
  fun A outer s H us vs Q E hr e0 r h => moves0_run F T GD mD kD bD (args := fun us => ⟨us, []⟩) hb hr e0 r h
theorem ok_moves0V {f fD : Addr} {fd fdD : FuncData} {spD : Sp} (F : Fun K "do_moves" "do_moves" sDoMoves f fd) (T : mg "list" = none) (GD : FnOk P w K mg base CX0 4 fD fdD ["order", "move"] spD) (mD : mg "do_move" = some (.ref fD)) (kD : PySem.W.keepIn K (.ref fD) = true) (bD : L2.Binds K fdD ["order", "move"] [])
    (hb : ∀ us : List Value, us.length = 1 → bindArgs fd ⟨[], (["order"] : List Str).zip us⟩ = (newTuple [] >>= fun t => pure ((["order"] : List Str).zip us ++ [(("moves" : Str), t)]))) : FnV P w K mg base 5 f ["order"] (spMoves0 K) :=
  fun A outer s H us vs Q E hr e0 r h => moves0_run F T GD mD kD bD (args := fun us => ⟨[], (["order"] : List Str).zip us⟩) hb hr e0 r h
end
/-! ### neighbours -/
def befor (ns : List Int) (i : Nat) : Int := ((0 :: ns)[i]?).getD 0
def here (ns : List Int) (i : Nat) : Int := (ns[i]?).getD 0
def spNeigh (K : PySem.W.Frag) : SpY := fun vs n G Yd => ∃ (a : Addr) (ns : List Int), vs = [.ref a] ∧ n = ns.length ∧ G = (fun i H => i = 0 → SqL K H a (ns.map V.int)) ∧ Yd = fun i y Nw => ∃ T, y = .ref T ∧ Nw = [(T, .tup [.int (befor ns i), .int (here ns i)])]
section
variable {P : Program} {w : World} {K : PySem.W.Frag} {mg : Str → Option Value} {base : Heap}
theorem scNeigh : GScope ["order", "before", "row_id"] ["order"] (defScope sNeigh) := ⟨rfl, rfl, rfl, by decide +kernel, rfl, by decide +kernel, by decide +kernel⟩
theorem ok_neigh {f : Addr} {fd : FuncData} (F : Fun K "neighbours" "neighbours" sNeigh f fd) (T : mg "list" = none) : GenFn P w K mg base 1 f fd ["order"] (spNeigh K) := by
  refine GenFn.mk' (k := 0) (N := ["order", "before", "row_id"]) F scNeigh (by decide +kernel) rfl (fun _ _ => rfl) (fun vs n G Yd h => ?_) fun cdv vs n G Yd h => ?_
  · obtain ⟨a, ns, rfl, _⟩ := h
    rfl
  · obtain ⟨a, ns, rfl, rfl, rfl, rfl⟩ := h
    refine ⟨fun i H H' s q e => Same.sq s (q e), _, _, _, _, _, ⟨fun Ag outer L s H hr => ⟨pss_one (ps_set (i := 1) scNeigh.nd rfl (.inl rfl) pe_int), pi_listK (K := K) rfl (pe_callTy (call_listK (K := K) rfl) (by rfl) T (by decide +kernel) (pa_cons (pv 0) pa_nil)), pg_name (i := 2) scNeigh.nd rfl (.inl rfl),
      pe_tup (pa_cons (pv 1) (pa_cons (pv 2) pa_nil)), pss_one (ps_set (i := 1) scNeigh.nd rfl (.inl rfl) (pv 2))⟩⟩, fun H g0 => ?_⟩
    have hS := g0 rfl
    refine ⟨_, rfl, a, _, rfl, .inl hS, fun p hp => ⟨p, rfl, ⟨ns.map V.int, SqL.of upd_same⟩, ?_⟩⟩
    refine ⟨[(p, .lst (ns.map V.int))], fun i σ => ∃ v, σ = [some (.ref a), some (.int (befor ns i)), v], fun i σ => σ = [some (.ref a), some (.int (befor ns i)), some (.int (here ns i))], rfl, fun q hq => ?_, ⟨none, rfl⟩, ⟨?_, ?_, ?_⟩⟩
    · rw [List.mem_singleton.mp hq]
      exact ⟨hp, True.intro⟩
    · rintro i σ H hi _ hfr ⟨v, rfl⟩
      have sq : SqL K (upd H p (.lst (ns.map V.int))) p (ns.map V.int) := SqL.of upd_same
      have hat : (ns.map V.int)[i]? = some (.int (here ns i)) := by
        rw [List.getElem?_map, List.getElem?_eq_getElem hi]
        show some (V.int ns[i]) = some (V.int ((ns[i]?).getD 0))
        rw [List.getElem?_eq_getElem hi]; rfl
      refine ⟨⟨_, _, sq, hat⟩, fun x H' y => ?_⟩
      obtain ⟨rfl, y⟩ := y
      have y := y _ sq
      rw [hat] at y
      obtain rfl := Option.some.inj y
      refine ⟨_, rfl, _, rfl, by show 2 ≤ sizeLine; decide, fun T hT => ⟨[(T, .tup [.int (befor ns i), .int (here ns i)])], rfl, fun q hq => ?_, ⟨T, rfl, rfl⟩, rfl⟩⟩
      rw [List.mem_singleton.mp hq]
      exact hT
    · rintro i σ H hi _ _ rfl
      refine ⟨_, rfl, rfl, some (.int (here ns i)), ?_⟩
      show [some (V.ref a), some (V.int (here ns i)), some (V.int (here ns i))] = [some (V.ref a), some (V.int (befor ns (i + 1))), some (V.int (here ns i))]
      rfl
    · rintro σ H _ _ _
      exact ⟨_, SqL.of upd_same, by rw [List.length_map]; exact Nat.le_refl _⟩
end
/-! ### a list of lists of ints -/
def RowsAt (H : Hp) (a : Addr) (rows : List (List Int)) : Prop := ∃ ps : List Addr, H a = some (.lst (ps.map V.ref)) ∧ ps.length = rows.length ∧ (∀ (i : Nat) (p : Addr) (r : List Int), ps[i]? = some p → rows[i]? = some r → H p = some (.lst (r.map V.int)) ∧ p ≠ a)
theorem same_but {A B C : Hp} {d : Addr} (s : Same A B) (n : A d = none) (b : But d B C) : Same A C := fun p o e => b p o (ne_of_none e n) (s p o e)
theorem DVs.rows {K : PySem.W.Frag} {H : Hp} : ∀ {ps : List Addr} {rows : List (List Int)}, ps.length = rows.length → (∀ (i : Nat) (p : Addr) (r : List Int), ps[i]? = some p → rows[i]? = some r → H p = some (.lst (r.map V.int))) → DVs K H (ps.map V.ref) (rows.map fun r => .list (r.map .int))
  | [], [], _, _ => .nil
  | [], _ :: _, h, _ => by cases h
  | _ :: _, [], h, _ => by cases h
  | p :: ps, r :: rows, hl, h => .cons (.lst (SqL.of (h 0 p r rfl rfl)) (DVs.intsR r)) (DVs.rows (Nat.succ.inj hl) fun i q t h1 h2 => h (i + 1) q t h1 h2)
where
  DVs.intsR {K : PySem.W.Frag} {H : Hp} : ∀ ks : List Int, DVs K H (ks.map V.int) (ks.map PyData.int)
    | [] => .nil
    | k :: r => .cons (.int k) (DVs.intsR r)
theorem RowsAt.dv {K : PySem.W.Frag} {H : Hp} {a : Addr} {rows : List (List Int)} (R : RowsAt H a rows) : DV K H (.ref a) (.list (rows.map fun r => .list (r.map .int))) := by
  obtain ⟨ps, h1, h2, h3⟩ := R
  exact .lst (SqL.of h1) (DVs.rows h2 fun i p r e1 e2 => (h3 i p r e1 e2).1)
theorem RowsAt.nil {H : Hp} {a : Addr} (h : H a = some (.lst [])) : RowsAt H a [] := ⟨[], h, rfl, fun i p r e _ => by simp at e⟩
theorem RowsAt.same {H H' : Hp} {a : Addr} {rows : List (List Int)} (R : RowsAt H a rows) (s : Same H H') : RowsAt H' a rows := by
  obtain ⟨ps, h1, h2, h3⟩ := R
  exact ⟨ps, s _ _ h1, h2, fun i p r e1 e2 => ⟨s _ _ (h3 i p r e1 e2).1, (h3 i p r e1 e2).2⟩⟩
theorem RowsAt.but {H H' : Hp} {a d : Addr} {rows : List (List Int)} (R : RowsAt H a rows) (s : But d H H') (n : H d = none) : RowsAt H' a rows := R.same fun b o e => s b o (ne_of_none e n) e
/-- one more behind it -/
theorem RowsAt.push {H : Hp} {a p : Addr} {rows : List (List Int)} {r : List Int} (R : RowsAt H a rows) (hp : H p = some (.lst (r.map V.int))) (hne : p ≠ a) :
    ∃ xs, H a = some (.lst xs) ∧ xs.length = rows.length ∧ RowsAt (upd H a (.lst (xs ++ [.ref p]))) a (rows ++ [r]) := by
  obtain ⟨ps, h1, h2, h3⟩ := R
  refine ⟨ps.map V.ref, h1, by rw [List.length_map, h2], ps ++ [p], ?_, ?_, fun i q t e1 e2 => ?_⟩
  · rw [upd_same, List.map_append]; rfl
  · rw [List.length_append, List.length_append, h2]; rfl
  · by_cases hi : i < ps.length
    · rw [List.getElem?_append_left hi] at e1
      rw [List.getElem?_append_left (by omega)] at e2
      obtain ⟨z1, z2⟩ := h3 i q t e1 e2
      exact ⟨by rw [upd_ne z2]; exact z1, z2⟩
    · rw [List.getElem?_append_right (by omega)] at e1
      rw [List.getElem?_append_right (by omega)] at e2
      have hj : i - ps.length = 0 := by
        cases z : i - ps.length with
        | zero => rfl
        | succ m => rw [z] at e1; simp at e1
      rw [hj] at e1
      rw [show i - rows.length = 0 by omega] at e2
      simp at e1 e2
      subst e1; subst e2
      exact ⟨by rw [upd_ne hne]; exact hp, hne⟩
theorem rok_rows {rows : List (List Int)} (h : ∀ r ∈ rows, r.length ≤ 10 ∧ ∀ z ∈ r, 0 ≤ z ∧ z ≤ 1000000) (hl : rows.length ≤ 20) : Rok (.list (rows.map fun r => .list (r.map .int))) := by
  have hm : modAll (rows.map fun r => .list (r.map .int)) = true ∧ PyData.depthAll (rows.map fun r => .list (r.map .int)) ≤ 10 ∧ szAll (rows.map fun r => .list (r.map .int)) ≤ rows.length * 4000 := by
    clear hl
    induction rows with
    | nil => exact ⟨by rw [List.map_nil, modAll], by rw [List.map_nil, PyData.depthAll]; decide, by rw [List.map_nil, szAll]; omega⟩
    | cons r rows ih =>
      obtain ⟨i1, i2, i3⟩ := ih fun r hr => h r (List.mem_cons_of_mem _ hr)
      obtain ⟨j1, j2⟩ := h r List.mem_cons_self
      refine ⟨?_, ?_, ?_⟩
      · rw [List.map_cons, modAll, modD, modAll_ints r fun z hz => small_abs (by have := j2 z hz; omega) (by have := j2 z hz; omega), i1]; rfl
      · have := depthAll_ints r
        rw [List.map_cons, PyData.depthAll, PyData.depth]
        omega
      · rw [List.map_cons, szAll, szD, szAll_ints, List.length_cons]
        omega
  obtain ⟨m1, m2, m3⟩ := hm
  refine ⟨?_, ?_, ?_⟩
  · rw [modD]; exact m1
  · rw [PyData.depth]; omega
  · rw [szD]; omega
/-! ### sorted, < of data -/
theorem each_vals {β : Type} {val : β → V} : ∀ {bs : List β} {us : List Value}, Vals (bs.map val) us → PySem.W.EachIs (fun u b => RelV (val b) u) us bs
  | [], _, .nil => .nil
  | _ :: _, _, .cons r t => .cons r (each_vals t)
theorem vals_each {β : Type} {val : β → V} : ∀ {us : List Value} {bs : List β}, PySem.W.EachIs (fun u b => RelV (val b) u) us bs → Vals (bs.map val) us
  | _, _, .nil => .nil
  | _, _, .cons r t => .cons r (vals_each t)
/-- sorted(xs) of data that can be compared -/
def rSortD (K : PySem.W.Frag) : List V → Hp → VK → Prop := fun xs H Q => ∃ (a : Addr) (β : Type) (bs : List β) (enc : β → PyData) (val : β → V), xs = [.ref a] ∧ SqL K H a (bs.map val) ∧ (∀ b ∈ bs, DV K H (val b) (enc b)) ∧ PySem.W.AllAlike (bs.map enc) ∧ PySem.W.Sortable (bs.map enc) ∧ (∀ b ∈ bs, (enc b).depth ≤ 40) ∧
  ∀ p, H p = none → Q (.ref p) (upd H p (.lst ((bs.mergeSort (PySem.W.dataLe false enc)).map val)))
section
variable {X : Cx}
theorem each_reads {β : Type} {enc : β → PyData} {val : β → V} {pins : List (Addr × Obj)} {σ : L2.St} {H : Hp} {s : Shared} (I : L2.Inv X pins σ H s) : ∀ {us : List Value} {bs : List β}, PySem.W.EachIs (fun u b => RelV (val b) u) us bs → (∀ b ∈ bs, DV X.K H (val b) (enc b)) → PySem.W.EachIs (fun u b => ∃ as, Reads s.heap u (enc b) as) us bs
  | _, _, .nil, _ => .nil
  | _, _, .cons r t, h => .cons (DV.reads I _ _ _ (h _ List.mem_cons_self) r) (each_reads I t fun b hb => h b (List.mem_cons_of_mem _ hb))
theorem call_sortD (hu : X.A.units + 64 < cLine) : CallR X (.builtin "sorted") (rSortD X.K) := by
  intro pins s σ H xs us Q I r h
  obtain ⟨a, β, bs, enc, val, rfl, hS, hd, hal, hk, hdep, q⟩ := h
  obtain ⟨its, rv, hl, hz⟩ := I.list hS
  obtain ⟨u, rfl, ru⟩ := vals1 r
  obtain rfl : u = Value.ref a := ru
  have e := each_vals rv
  rw [List.length_map] at hz
  refine PySem.W.sorted_data (R := fun u b => RelV (val b) u) (vs := its) hl.isList e (each_reads I e hd) hal hk hz (fun b hb => by have := hdep b hb; omega) fun out hlen hout => ?_
  obtain ⟨n, hn⟩ := sortedAll_at s.heap its out.toArray
  have hle : s.heap.objs.size ≤ s.heap.objs.size + 1 := Nat.le_succ _
  refine ⟨.ref (s.heap.objs.size + 1), upd H (s.heap.objs.size + 1) (.lst ((bs.mergeSort (PySem.W.dataLe false enc)).map val)), I.laid (t' := s.toks) (fun b o e => sortedAll_old e) hle ⟨?_, out, n, vals_each hout, hn⟩, rfl, q _ (I.hok.fresh hle)⟩
  rw [List.length_map, List.length_mergeSort]
  exact hz
/-- x < y of data that can be compared -/
def rLtD (K : PySem.W.Frag) : R2 := fun x y H Q => ∃ dx dy : PyData, DV K H x dx ∧ DV K H y dy ∧ PySem.W.alike dx dy = true ∧ dx ≠ .none ∧ dx.depth ≤ 40 ∧ Q (.bl (PySem.W.dataLt dx dy)) H
theorem op_ltD (hu : X.A.units + 64 < cLine) : OpR X (compareOp .Lt) (rLtD X.K) := by
  intro pins s σ H x y v u Q I rx ry h
  obtain ⟨dx, dy, hx, hy, ha, hn, hdp, q⟩ := h
  obtain ⟨as, r1⟩ := DV.reads I _ _ _ hx rx
  obtain ⟨bs, r2⟩ := DV.reads I _ _ _ hy ry
  exact PySem.W.lt_data r1 r2 ha hn (by omega) ⟨.bl _, H, I, rfl, q⟩
end
/-! ### for x in d.items(): the pair as a whole -/
def ItRec (h : Heap) (it d : Addr) (i n ep : Nat) (f0 f1 ok ov : Value) : Prop :=
  h.get? it = some { cls := .type "dict_itemiterator", dict := none, data := .fields #[f0, f1, .ref d, .int i 0, .int n 0, .int ep 0, ok, ov], slots := #[] }
def ItAt (h : Heap) (it d : Addr) (i n ep : Nat) : Prop := ∃ f0 f1 ok ov, (f0 = .none ∨ ∃ a : Addr, f0 = rawInt a) ∧ ItRec h it d i n ep f0 f1 ok ov
section
variable {prog : Program} {w : World} {Ky : Type} [DecidableEq Ky] {knd : KeyKind prog w Ky} {A : Around} {E : Value → Shared → Prop} {s : Shared}
theorem next_itemN {it d : Addr} {i ep : Nat} {kvs : List (Ky × Value)} {k : Ky} {v : Value} {Q : Option Value → Shared → Prop} (hit : ItAt s.heap it d i kvs.length ep) (hm : s.heap.DictAt knd d kvs ep) (hx : kvs[i]? = some (k, v))
    (hQ : ∀ key h', knd.is k key = true → ItAt h' it d (i + 1) kvs.length ep → h'.get? s.heap.objs.size = some { cls := .type "tuple", data := .seq #[key, v] } → (∀ b o, b ≠ it → s.heap.get? b = some o → h'.get? b = some o) → Q (some (.ref s.heap.objs.size)) { s with heap := h' }) :
    wpAny (model prog w) A (pyNext (.ref it)) Q E s := by
  obtain ⟨hp, g, dr, tk, os⟩ := s
  obtain ⟨f0, f1, ok, ov, hf0, hit⟩ := hit
  have hit : hp.get? it = some { cls := .type "dict_itemiterator", dict := none, data := .fields #[f0, f1, .ref d, .int i 0, .int kvs.length 0, .int ep 0, ok, ov], slots := #[] } := hit
  obtain ⟨od, es, hod, hcd, hdd, hk, hpr, hn⟩ := id hm
  have hT : Shared.TypeIs ⟨hp, g, dr, tk, os⟩ (.ref it) "dict_itemiterator" := ⟨_, hit, rfl⟩
  unfold pyNext
  refine wpAny_bind (wpAny_attempt ?_)
  refine wpAny_callSpecial?_slot (name := Str.ofString "__next__") hT F.slot_dict_itemiterator_next ?_
  refine wpAny_call_entry F.slot_dict_itemiterator_next hT F.entry_dict_itemiterator_next ?_ (F.args_dict_itemiterator_next_1 _)
  refine wpAny_bind (wpAny_pure ?_)
  refine wpAny_bind ?_
  refine wpAny_bind ?_
  first | refine wpAny_bind (wpAny_typeNameOfWhole_itemiter hT (wpAny_pure ?_)) | refine wpAny_bind (wpAny_typeNameOf_itemiter hT (wpAny_pure ?_))
  refine wpAny_bind (wpAny_fieldsOf hit rfl ?_)
  have own1 : Builtin.Dict_items.ownsTuple "dict_itemiterator" = true := by decide
  simp only [own1, if_true]
  show wpAny _ _ (if (Value.ref d == Value.none) = true then _ else _) _ _ _
  rw [if_neg (show ¬ ((Value.ref d == Value.none) = true) from Bool.false_ne_true)]
  refine wpAny_bind (wpAny_pure ?_)
  refine wpAny_bind (wpAny_dictEntries hod hdd ?_)
  have hsz : es.size = kvs.length := by rw [← hpr.length]; simp
  rw [if_neg (by rw [hsz]; simp)]
  refine wpAny_bind (wpAny_pure ?_)
  refine wpAny_bind (wpAny_dictEpoch hod hdd ?_)
  rw [if_neg (by simp)]
  refine wpAny_pure ?_
  have hlt : i < kvs.length := by
    rcases Nat.lt_or_ge i kvs.length with h | h
    · exact h
    · simp [List.getElem?_eq_none h] at hx
  have hlt' : i < es.size := by rw [hsz]; exact hlt
  obtain ⟨hkey, hval⟩ := hpr.get? (e := es[i]) (by simp [hlt']) hx
  simp only [show ¬ ((i : Int) < 0) from by omega, if_false, Int.toNat_natCast, Array.getElem?_eq_getElem hlt']
  refine wpAny_bind ?_
  first | refine wpAny_bind (wpAny_typeNameOfWhole_itemiter hT (wpAny_pure ?_)) | refine wpAny_bind (wpAny_typeNameOf_itemiter hT (wpAny_pure ?_))
  refine wpAny_bind (wpAny_isOneOf_itemiter hT ?_)
  show wpAny _ _ (setField (.ref it) 3 (rawInt ((i : Int) + 1)) >>= _) _ _ ⟨hp, g, dr, tk, os⟩
  refine wpAny_bind (wpAny_setField_rec hit (by simp) fun h1 he1 hs1 => ?_)
  have hs1 : Heap.SameBut it hp h1 := hs1
  have he1 : ItRec h1 it d (i + 1) kvs.length ep f0 f1 ok ov := by
    have e : ((i + 1 : Nat) : Int) = (i : Int) + 1 := by omega
    unfold ItRec; rw [e]; simpa [rawInt] using he1
  have hT1 : Shared.TypeIs ⟨h1, g, dr, tk, os⟩ (.ref it) "dict_itemiterator" := ⟨_, he1, rfl⟩
  refine wpAny_bind (wpAny_holding ?_)
  refine wpAny_bind (wpAny_isOneOf_itemiter hT1 ?_)
  refine wpAny_bind (wpAny_isOneOf_itemiter hT1 ?_)
  show wpAny _ _ (Builtin.Dict_items.pairFromOwner (.ref it) 6 es[i].key es[i].val) _ _ ⟨h1, g, dr, tk, os⟩
  unfold Builtin.Dict_items.pairFromOwner
  refine wpAny_bind (wpAny_newTuple ?_)
  have he2 : ItRec (h1.push { cls := .type "tuple", data := .seq #[es[i].key, es[i].val] }) it d (i + 1) kvs.length ep f0 f1 ok ov := Heap.get?_push_of_some _ he1
  generalize hh2 : h1.push { cls := .type "tuple", data := .seq #[es[i].key, es[i].val] } = h2 at he2
  have hz1 : h1.objs.size = hp.objs.size := hs1.1
  have hil : it < hp.objs.size := Heap.lt_size hit
  have ht2 : h2.get? hp.objs.size = some { cls := .type "tuple", data := .seq #[es[i].key, es[i].val] } := by rw [← hh2, ← hz1]; exact Heap.get?_push_size _ rfl
  have hk2 : ∀ b o, b ≠ it → hp.get? b = some o → h2.get? b = some o := fun b o hb e => by rw [← hh2]; exact Heap.get?_push_of_some _ (hs1.extBut b o hb e)
  show wpAny _ _ (Builtin.Dict_items.ownedTupleIsFree (.ref it) >>= _) _ _ ⟨h2, g, dr, tk, os⟩
  rw [hz1]
  clear hh2 he1 hs1 hT1 hz1
  -- the pair is the caller's: kept by the iterator, or not
  have fill : ∀ (h2 : Heap) (f0 f1 ok ov : Value), ItRec h2 it d (i + 1) kvs.length ep f0 f1 ok ov → h2.get? hp.objs.size = some { cls := .type "tuple", data := .seq #[es[i].key, es[i].val] } → (∀ b o, b ≠ it → hp.get? b = some o → h2.get? b = some o) →
      ∀ E', wpAny (model prog w) A.in1 (do
        let old := [← field (.ref it) 6, ← field (.ref it) (6 + 1)]
        setField (.ref it) 6 es[i].key; setField (.ref it) (6 + 1) es[i].val
        setField (.ref it) 0 (rawInt hp.objs.size); setField (.ref it) 1 (.bool false)
        letGo old [Value.ref hp.objs.size]) (fun _ s' => ∃ h', s' = ⟨h', g, dr, tk, os⟩ ∧ ItAt h' it d (i + 1) kvs.length ep ∧ h'.get? hp.objs.size = some { cls := .type "tuple", data := .seq #[es[i].key, es[i].val] } ∧ ∀ b o, b ≠ it → hp.get? b = some o → h'.get? b = some o) E' ⟨h2, g, dr, tk, os⟩ := by
    intro h2 f0 f1 ok ov he2 ht2 hk2 E'
    refine wpAny_bind (wpAny_field (show h2.get? it = _ from he2) rfl (x := ok) rfl ?_)
    refine wpAny_bind (wpAny_field (show h2.get? it = _ from he2) rfl (x := ov) rfl ?_)
    refine wpAny_bind (wpAny_setField_rec he2 (by simp) fun h3 he3 hs3 => ?_)
    have hs3 : Heap.SameBut it h2 h3 := hs3
    have he3 : ItRec h3 it d (i + 1) kvs.length ep f0 f1 es[i].key ov := he3
    refine wpAny_bind (wpAny_setField_rec he3 (by simp) fun h4 he4 hs4 => ?_)
    have hs4 : Heap.SameBut it h3 h4 := hs4
    have he4 : ItRec h4 it d (i + 1) kvs.length ep f0 f1 es[i].key es[i].val := he4
    refine wpAny_bind (wpAny_setField_rec he4 (by simp) fun h5 he5 hs5 => ?_)
    have hs5 : Heap.SameBut it h4 h5 := hs5
    have he5 : ItRec h5 it d (i + 1) kvs.length ep (rawInt hp.objs.size) f1 es[i].key es[i].val := he5
    refine wpAny_bind (wpAny_setField_rec he5 (by simp) fun h6 he6 hs6 => ?_)
    have hs6 : Heap.SameBut it h5 h6 := hs6
    have he6 : ItRec h6 it d (i + 1) kvs.length ep (rawInt hp.objs.size) (.bool false) es[i].key es[i].val := he6
    refine wpAny_letGo ⟨h6, rfl, ⟨_, _, _, _, .inr ⟨_, rfl⟩, he6⟩, ?_, fun b o hb e => hs6.extBut b o hb (hs5.extBut b o hb (hs4.extBut b o hb (hs3.extBut b o hb (hk2 b o hb e))))⟩
    exact hs6.extBut _ _ (Nat.ne_of_gt hil) (hs5.extBut _ _ (Nat.ne_of_gt hil) (hs4.extBut _ _ (Nat.ne_of_gt hil) (hs3.extBut _ _ (Nat.ne_of_gt hil) ht2)))
  have isfree : ∀ (Q' : Bool → Shared → Prop) (E' : Value → Shared → Prop), (∀ (b : Bool) (h3 : Heap) (g0 g1 : Value), (g0 = .none ∨ ∃ a : Addr, g0 = rawInt a) → ItRec h3 it d (i + 1) kvs.length ep g0 g1 ok ov → h3.get? hp.objs.size = some { cls := .type "tuple", data := .seq #[es[i].key, es[i].val] } → (∀ b o, b ≠ it → hp.get? b = some o → h3.get? b = some o) →
      Q' b ⟨h3, g, dr, tk, os⟩) → wpAny (model prog w) A.in1 (Builtin.Dict_items.ownedTupleIsFree (.ref it)) Q' E' ⟨h2, g, dr, tk, os⟩ := by
    intro Q' E' hq
    unfold Builtin.Dict_items.ownedTupleIsFree
    refine wpAny_bind (wpAny_field (show h2.get? it = _ from he2) rfl (x := f0) rfl ?_)
    rcases hf0 with rfl | ⟨a, rfl⟩
    · exact wpAny_pure (hq true h2 _ _ (.inl rfl) he2 ht2 hk2)
    · show wpAny _ _ (loadIfAlive ((a : Int).toNat) >>= _) _ _ _
      refine wpAny_bind (fun Γ p _ => ?_)
      unfold loadIfAlive
      rw [Sem.wp_loadIfAlive, Sem.wp_pure]
      cases hal : (h2.get? ((a : Int).toNat)) with
      | none => exact wpAny_pure (hq true h2 _ _ (.inr ⟨a, rfl⟩) he2 ht2 hk2)
      | some ob =>
        refine wpAny_bind (wpAny_field (show h2.get? it = _ from he2) rfl (x := f1) rfl ?_)
        by_cases hb : (f1 != Value.bool true) = true
        · rw [if_pos hb]
          refine wpAny_bind (wpAny_setField_rec he2 (by simp) fun h3 he3 hs3 => ?_)
          have hs3 : Heap.SameBut it h2 h3 := hs3
          have he3 : ItRec h3 it d (i + 1) kvs.length ep (rawInt a) (.bool true) ok ov := he3
          exact wpAny_pure (hq false h3 _ _ (.inr ⟨a, rfl⟩) he3 (hs3.extBut _ _ (Nat.ne_of_gt hil) ht2) fun b o hb e => hs3.extBut b o hb (hk2 b o hb e))
        · rw [if_neg hb]
          exact wpAny_pure (hq false h2 _ _ (.inr ⟨a, rfl⟩) he2 ht2 hk2)
  have out : ∀ h', ItAt h' it d (i + 1) kvs.length ep → h'.get? hp.objs.size = some { cls := .type "tuple", data := .seq #[es[i].key, es[i].val] } → (∀ b o, b ≠ it → hp.get? b = some o → h'.get? b = some o) → Q (some (.ref hp.objs.size)) ⟨h', g, dr, tk, os⟩ := fun h' h1 h2 h3 =>
    hQ es[i].key h' hkey h1 (by rw [← hval]; exact h2) h3
  refine wpAny_bind (isfree _ _ fun b h3 g0 g1 hg0 he3 ht3 hk3 => ?_)
  cases b with
  | false =>
    rw [if_neg Bool.false_ne_true]
    exact wpAny_pure (wpAny_pure ⟨_, rfl, wpAny_pure (out h3 ⟨_, _, _, _, hg0, he3⟩ ht3 hk3)⟩)
  | true =>
    rw [if_pos rfl]
    refine wpAny_bind (wpAny_field (show h3.get? it = _ from he3) rfl (x := ok) rfl ?_)
    refine wpAny_bind (wpAny_field (show h3.get? it = _ from he3) rfl (x := ov) rfl ?_)
    refine wpAny_bind (wpAny_setField_rec he3 (by simp) fun h4 he4 hs4 => ?_)
    have hs4 : Heap.SameBut it h3 h4 := hs4
    have he4 : ItRec h4 it d (i + 1) kvs.length ep g0 g1 es[i].key ov := he4
    refine wpAny_bind (wpAny_setField_rec he4 (by simp) fun h5 he5 hs5 => ?_)
    have hs5 : Heap.SameBut it h4 h5 := hs5
    have he5 : ItRec h5 it d (i + 1) kvs.length ep g0 g1 es[i].key es[i].val := he5
    refine wpAny_bind (wpAny_setField_rec he5 (by simp) fun h6 he6 hs6 => ?_)
    have hs6 : Heap.SameBut it h5 h6 := hs6
    have he6 : ItRec h6 it d (i + 1) kvs.length ep (rawInt hp.objs.size) g1 es[i].key es[i].val := he6
    refine wpAny_bind (wpAny_setField_rec he6 (by simp) fun h7 he7 hs7 => ?_)
    have hs7 : Heap.SameBut it h6 h7 := hs7
    have he7 : ItRec h7 it d (i + 1) kvs.length ep (rawInt hp.objs.size) (.bool false) es[i].key es[i].val := he7
    refine wpAny_bind (wpAny_letGo (wpAny_pure (wpAny_pure ⟨_, rfl, wpAny_pure (out h7 ⟨_, _, _, _, .inr ⟨_, rfl⟩, he7⟩ ?_ ?_)⟩)))
    · exact hs7.extBut _ _ (Nat.ne_of_gt hil) (hs6.extBut _ _ (Nat.ne_of_gt hil) (hs5.extBut _ _ (Nat.ne_of_gt hil) (hs4.extBut _ _ (Nat.ne_of_gt hil) ht3)))
    · exact fun b o hb e => hs7.extBut b o hb (hs6.extBut b o hb (hs5.extBut b o hb (hs4.extBut b o hb (hk3 b o hb e))))
theorem next_endN {it d : Addr} {i ep : Nat} {kvs : List (Ky × Value)} {Q : Option Value → Shared → Prop} (hh : A.handled = none) (hit : ItAt s.heap it d i kvs.length ep) (hm : s.heap.DictAt knd d kvs ep) (hx : kvs[i]? = none)
    (hQ : ∀ h', Heap.ExtBut it s.heap h' → Q none { s with heap := h' }) : wpAny (model prog w) A (pyNext (.ref it)) Q E s := by
  obtain ⟨f0, f1, ok, ov, hf0, hit⟩ := hit
  have hit : s.heap.get? it = some { cls := .type "dict_itemiterator", dict := none, data := .fields #[f0, f1, .ref d, .int i 0, .int kvs.length 0, .int ep 0, ok, ov], slots := #[] } := hit
  obtain ⟨od, es, hod, hcd, hdd, hk, hpr, hn⟩ := id hm
  have hT : s.TypeIs (.ref it) "dict_itemiterator" := ⟨_, hit, rfl⟩
  unfold pyNext
  refine wpAny_bind (wpAny_attempt ?_)
  refine wpAny_callSpecial?_slot (name := Str.ofString "__next__") hT F.slot_dict_itemiterator_next ?_
  refine wpAny_call_entry F.slot_dict_itemiterator_next hT F.entry_dict_itemiterator_next ?_ (F.args_dict_itemiterator_next_1 _)
  refine wpAny_bind (wpAny_pure ?_)
  refine wpAny_bind ?_
  refine wpAny_bind ?_
  first | refine wpAny_bind (wpAny_typeNameOfWhole_itemiter hT (wpAny_pure ?_)) | refine wpAny_bind (wpAny_typeNameOf_itemiter hT (wpAny_pure ?_))
  refine wpAny_bind (wpAny_fieldsOf hit rfl ?_)
  have own1 : Builtin.Dict_items.ownsTuple "dict_itemiterator" = true := by decide
  simp only [own1, if_true]
  show wpAny _ _ (if (Value.ref d == Value.none) = true then _ else _) _ _ s
  rw [if_neg (show ¬ ((Value.ref d == Value.none) = true) from Bool.false_ne_true)]
  refine wpAny_bind (wpAny_pure ?_)
  refine wpAny_bind (wpAny_dictEntries hod hdd ?_)
  have hsz : es.size = kvs.length := by rw [← hpr.length]; simp
  rw [if_neg (by rw [hsz]; simp)]
  refine wpAny_bind (wpAny_pure ?_)
  refine wpAny_bind (wpAny_dictEpoch hod hdd ?_)
  rw [if_neg (by simp)]
  refine wpAny_pure ?_
  have hge : es.size ≤ i := by rw [hsz]; simpa using hx
  simp only [show ¬ ((i : Int) < 0) from by omega, if_false, Int.toNat_natCast, Array.getElem?_eq_none hge]
  refine wpAny_bind ?_
  first | refine wpAny_bind (wpAny_typeNameOfWhole_itemiter hT (wpAny_pure ?_)) | refine wpAny_bind (wpAny_typeNameOf_itemiter hT (wpAny_pure ?_))
  show wpAny _ _ (setField (.ref it) 2 .none >>= _) _ _ s
  refine wpAny_bind (wpAny_setField hit rfl (by simp) ?_)
  show wpAny _ _ (newExc (.type "StopIteration") [] >>= _) _ _ _
  refine wpAny_bind ?_
  simp only [newExc, newTuple]
  refine wpAny_bind (wpAny_newObj_type ?_ (by size_fits))
  refine wpAny_bind (m := firstArgMember _ _) (wpAny_of_eq (a := Value.none) (by first | rfl | (simp only [firstArgMember]; rfl)) ?_)
  refine wpAny_newObj_type ?_ (by size_fits)
  simp only [raiseNew]
  refine wpAny_bind (wpAny_handled ?_)
  rw [show A.in1.handled = none from hh]
  refine wpAny_bind (wpAny_pure (wpAny_throw ?_))
  refine wpAny_bind (wpAny_isInstance (T := "StopIteration") (b := true) ⟨_, Heap.get?_push_size _ rfl, rfl⟩ isSubtype_stop ?_)
  exact wpAny_pure (hQ _ (((Heap.SameBut.update ..).extBut.push _).push _))
end
section
variable {P : Program} {w : World} {K : PySem.W.Frag} {d : Addr} {o : Obj} {es : Array DictEntry} {ep : Nat}
theorem turn_itemsN {kvs : List (Key × V)} {x : Str} {px : Pos} (it : Addr) (hod : o.data = .dict es ep) : Turn P w K (.Name x px) (Iti d o kvs) [it] it (fun i h => ItAt h it d i kvs.length ep) where
  mem := List.mem_singleton.mpr rfl
  obj := fun i h st b hb => by
    have e := List.mem_singleton.mp hb
    subst e
    obtain ⟨f0, f1, ok, ov, _, e⟩ := st
    exact ⟨_, e, fun v z => nomatch z⟩
  keep := fun i h h' st k => let ⟨f0, f1, ok, ov, hf, e⟩ := st; ⟨f0, f1, ok, ov, hf, k it (List.mem_singleton.mpr rfl) _ e⟩
  item := by
    intro X hP hw hK hc i pins s σ H E I hf st hg
    subst hP hw hK
    obtain ⟨hd, hi⟩ := hg
    obtain ⟨hs, hgd, hx, es', ep', vs, hdt, hsz, kv, hm⟩ := I.frzK hd
    obtain ⟨rfl, rfl⟩ := dict_ep hod hdt
    obtain ⟨⟨k, v⟩, hkv⟩ : ∃ p, kvs[i]? = some p := ⟨kvs[i], List.getElem?_eq_getElem hi⟩
    obtain ⟨u, hu, ru⟩ := kv_get kv hkv
    have hl : kvs.length = vs.length := Paired.length kv
    rw [hl] at st
    have hlt : it < s.heap.objs.size := by
      obtain ⟨f0, f1, ok, ov, _, e⟩ := st
      exact Heap.lt_size e
    refine next_itemN st hm hu fun key h' hkey ho hT hk => ?_
    have new : L2.ObjOk X.prog X.w (upd H s.heap.objs.size (.tup [kV k, v])) h' s.heap.objs.size (.tup [kV k, v]) :=
      ⟨by show 2 ≤ sizeLine; decide, [key, u], .cons (relV_key (show keyIs k key = true from hkey)) (.cons ru .nil), ⟨_, hT, rfl, _, rfl⟩⟩
    have I1 : L2.Inv X pins σ (upd H s.heap.objs.size (.tup [kV k, v])) { s with heap := h' } :=
      I.turnedNew (t' := s.toks) (ch := [it]) (fun b ob hb e => hk b ob (fun z => hb (List.mem_singleton.mpr z)) e) hf (Nat.le_refl _) new
    refine ⟨_, rfl, wpAny_pure ⟨.ref s.heap.objs.size, _, I1, rfl, ⟨_, k, v, hkv, rfl, I.hok.fresh (Nat.le_refl _), rfl⟩, by rw [hl]; exact ho, fun b hb => ?_⟩⟩
    have e := List.mem_singleton.mp hb
    rw [e, upd_ne (Nat.ne_of_lt hlt)]
    exact (hf it (List.mem_singleton.mpr rfl)).1
  done := by
    intro X hP hw hK hc i pins s σ H E I hf st hg
    subst hP hw hK
    obtain ⟨hd, hi⟩ := hg
    obtain ⟨f0, f1, f2, f3, f4, f5⟩ := hf it (List.mem_singleton.mpr rfl)
    obtain ⟨hs, hgd, hx, es', ep', vs, hdt, hsz, kv, hm⟩ := I.frzK hd
    obtain ⟨rfl, rfl⟩ := dict_ep hod hdt
    have hl : kvs.length = vs.length := Paired.length kv
    rw [hl] at st
    exact next_endN (I.ok.hd hc) st hm (List.getElem?_eq_none (by omega)) fun h' eb => ⟨rfl, I.turned (t' := s.toks) (fun b ob hb e => eb b ob hb e) f0 f1 f3 f4 f5⟩
  self := fun A i s Q E st h => by
    obtain ⟨f0, f1, ok, ov, _, e⟩ := st
    have hT : s.TypeIs (.ref it) "dict_itemiterator" := ⟨_, e, rfl⟩
    refine wpAny_pyIter_slot hT PySem.F.slot_dict_itemiterator_iter (wpAny_call_entry PySem.F.slot_dict_itemiterator_iter hT PySem.W.kcp_entry ?_ (PySem.F.args_dict_itemiterator_iter_1 _))
    show wpAny _ _ (ret (.ref it)) _ _ s
    exact wpAny_pure ⟨_, rfl, "dict_itemiterator", _, hT, PySem.F.slot_dict_itemiterator_next.lookup, h⟩
end
section
variable {X : Cx} {e : Expr} {td : TE} {apos cpos : Pos} {x : Str} {px : Pos}
theorem pi_itemsN (he : PE X e td) (hbase : attributeBase e "items" X.env (eval e X.env) = eval e X.env := by rfl) (hline : (apos.endLine == cpos.line) = true := by rfl) :
    PI X (.Name x px) (.Call (.Attribute e "items" apos) [] [] cpos) (iItems td) := by
  refine ⟨fun pins s σ H R I h => ?_⟩
  refine wpAny_Call_method (T := "dict") (id := "dict.items") hbase rfl hline F.plainAttrs_dict F.slot_dict_items F.type_dict_items (thn (he.run pins s σ H _ I h) fun u s1 ⟨y, H1, I1, rx, d, o, kvs, ex, hd, q⟩ => ?_)
  subst ex
  obtain rfl : u = Value.ref d := rx
  obtain ⟨hs, hgd, hx, es, ep, vs, hdt, hsz, kv, hm⟩ := I1.frzK hd
  have hl : kvs.length = vs.length := Paired.length kv
  refine ⟨hm.dictOf.typeIs, hm.dictOf.mapOf.noDict, ?_⟩
  have I2 : L2.Inv X pins σ H1 { s1 with heap := s1.heap.push { cls := .type "dict_items", data := .fields #[.ref d] } } := I1.kept (t' := s1.toks) fun b ob q => Heap.get?_push_of_some _ q
  have fin : wpAny (model X.prog X.w) X.A (pyIter (.ref s1.heap.objs.size)) (PIE X pins σ (.Name x px) R) X.xe { s1 with heap := s1.heap.push { cls := .type "dict_items", data := .fields #[.ref d] } } := by
    refine wpAny_pyIter_items (d := d) (knd := mixKind X.prog X.w) ⟨_, Heap.get?_push_size _ rfl, rfl, rfl⟩ (hm.push _) (pi_one (tk := s1.toks) I2 _ (turn_itemsN _ hdt) ⟨.none, .bool false, .none, .none, .inl rfl, ?_⟩ q)
    rw [hl]
    exact Heap.get?_push_size _ rfl
  show wpAny _ _ (callWith cpos (.builtin "dict.items") [.ref d] [] []) _ X.xe s1
  exact method_meetsIn F.slot_dict_items F.entry_dict_items rfl (PySem.evalArgs_none ⟨rfl, hm.dictOf.typeIs, F.args_dict_items_1 _, _, meets_dict_items (mixKind X.prog X.w) d hs, ⟨vs, hm.dictOf⟩, fin⟩)
end
/-! ### the rule's order -/
def rankI (fs : List Int) (c : Int) : Int := if c > 0 then (fs[(c - 1).toNat]?).getD 0 else -((fs[(-c - 1).toNat]?).getD 0)
def keyI (cs : List Int) (e : Int × List Int) : List Int := cs.map (rankI e.2) ++ [e.1]
def ColsOk (cs : List Int) (n : Nat) : Prop := cs.length ≤ 4 ∧ ∀ c ∈ cs, c ≠ 0 ∧ c.natAbs ≤ n
def cmpI (a b : List Int) : Int := if a = b then 0 else if a < b then -1 else 1
theorem ix_tupK {X : Cx} {K : PySem.W.Frag} (h : X.K = K) : IxR X (rIxT K) := by
  subst h
  exact ix_tup
theorem alike_rows (a b : List Int) : PySem.W.alike (.list (a.map .int)) (.list (b.map .int)) = true := by
  show PySem.W.alike (.list (a.map .int)) (.list (b.map .int)) = true
  rw [PySem.W.alike]
  exact PySem.W.alike_ints a b
theorem dataLt_rows (a b : List Int) : PySem.W.dataLt (.list (a.map .int)) (.list (b.map .int)) = decide (a < b) := by
  rw [PySem.W.dataLt_list]
  exact PySem.W.dataLt_ints a b
theorem DVs.intsL {K : PySem.W.Frag} {H : Hp} : ∀ ks : List Int, DVs K H (ks.map V.int) (ks.map PyData.int)
  | [] => .nil
  | k :: r => .cons (.int k) (DVs.intsL r)
theorem depth_rows (a : List Int) : (PyData.list (a.map .int)).depth ≤ 40 := by
  rw [PyData.depth, PySem.W.depth_ints]
  decide
section
variable {P : Program} {w : World} {K : PySem.W.Frag} {mg : Str → Option Value} {base : Heap}
def spKey (K : PySem.W.Frag) : Sp := fun vs H Q _ => ∃ (r it pf : Addr) (cs fs : List Int) (i : Int), vs = [.ref r, .ref it] ∧ SqT K H r (cs.map V.int) ∧ SqT K H it [.int i, .ref pf] ∧ SqT K H pf (fs.map V.int) ∧ ColsOk cs fs.length ∧
  ∀ p H', Same H H' → H p = none → H' p = some (.lst ((keyI cs (i, fs)).map V.int)) → Q (.ref p) H'
theorem scKey : FnScope ["rule", "item", "row_id", "fields", "ranks", "column"] ["rule", "item"] (defScope sKey) := ⟨rfl, rfl, rfl, by decide +kernel, rfl, by decide +kernel, by decide +kernel⟩
theorem ok_key {f : Addr} {fd : FuncData} (F : Fun K "sort_key" "sort_key" sKey f fd) : FnOk P w K mg base CX0 1 f fd ["rule", "item"] (spKey K) := by
  refine F.ok scKey (fun vs H Q E h => ?_) (fun cdv A outer s H vs Q E hr h => ?_)
  · obtain ⟨r, it, pf, cs, fs, i, rfl, _⟩ := h
    rfl
  · obtain ⟨r, it, pf, cs, fs, i, rfl, hr1, hit, hpf, hc, k⟩ := h
    refine ⟨_, pss_cons (ps_asg (pv 1) (pg_tup rfl (pgs_cons (pg_name (i := 2) scKey.nd rfl (Or.inl rfl)) (pgs_cons (pg_name (i := 3) scKey.nd rfl (Or.inr rfl)) pgs_nil))))
      (pss_cons (ps_setLc (i := 4) (own := [("column", 5)]) (g := gName 5) rfl scKey.nd rfl rfl (sw_true rfl rfl rfl (by decide +kernel)) (pi_tup (pv 0)) (blkOk_by (N := ["rule", "item", "row_id", "fields", "ranks", "column"]) (sc := defScope sKey) (by decide +kernel)) (fun _ _ _ _ _ => pg_name (i := 5) scKey.nd rfl (Or.inl rfl))
          (fun _ _ _ _ _ => pts_nil) (fun _ _ _ _ _ => pe_ifExp (pt_cmpR op_gt (pv 5) pe_int (nomark _)) (pe_ix (ix_tupK (K := K) rfl) (pv 3) (pe_op op_sub (pv 5) pe_int) (fun _ _ => rfl)) (pe_un un_neg (pe_ix (ix_tupK (K := K) rfl) (pv 3) (pe_op op_sub (pe_un un_neg (pv 5)) pe_int) (fun _ _ => rfl)))))
      (pss_one (ps_ret (pe_op op_cat (pv 4) (pe_lst (pa_cons (pv 2) pa_nil)))))), ?_⟩
    have h16 : sizeLine = 16777216 := sizeLine_eq
    refine ⟨_, rfl, it, _, rfl, hit, rfl, _, _, rfl, _, _, rfl, rfl, ?_⟩
    refine ⟨_, rfl, r, rfl, ⟨_, hr1⟩, fun D hD => ?_⟩
    refine lc_tup (K := K) (a := r) (xs := cs.map V.int) (fun j H' => Same H H' ∧ H' D = some (.lst ((cs.take j).map fun c => V.int (rankI fs c)))) ⟨Same.new hD, upd_same⟩ (fun j H' _ q => Same.tq q.1 hr1) ?_ ?_
    · rintro j x H' hx ⟨s1, hL⟩
      obtain ⟨c, hc1, rfl⟩ : ∃ c, cs[j]? = some c ∧ x = V.int c := by
        rw [List.getElem?_map] at hx
        cases e : cs[j]? with
        | none => rw [e] at hx; cases hx
        | some c => rw [e] at hx; exact ⟨c, rfl, (Option.some.inj hx).symm⟩
      obtain ⟨hc0, hcn⟩ := hc.2 c (List.mem_of_getElem? hc1)
      have at_ : ∀ m : Nat, m < fs.length → (fs.map V.int)[m]? = some (V.int ((fs[m]?).getD 0)) := fun m hm => by
        rw [List.getElem?_map, List.getElem?_eq_getElem hm]; rfl
      have fin : ∀ v, v = rankI fs c → ∃ acc, H' D = some (.lst acc) ∧ acc.length < sizeLine ∧ Same H (upd H' D (.lst (acc ++ [V.int v]))) ∧ (upd H' D (.lst (acc ++ [V.int v]))) D = some (.lst ((cs.take (j + 1)).map fun c => V.int (rankI fs c))) := by
        rintro v rfl
        refine ⟨_, hL, ?_, fun b u e => by rw [upd_ne (ne_of_none e hD)]; exact s1 b u e, ?_⟩
        · rw [List.length_map, List.length_take, h16]; have := hc.1; omega
        · rw [upd_same, take_snoc hc1, List.map_append]; rfl
      refine ⟨rfl, _, rfl, _, _, rfl, rfl, _, rfl, ?_⟩
      refine ite2 (fun hp => ?_) (fun hp => ?_)
      · have hp : 0 < c := of_decide_eq_true hp
        refine ⟨_, rfl, _, rfl, _, _, rfl, rfl, pf, fs.map V.int, c - 1, V.int ((fs[(c - 1).toNat]?).getD 0), rfl, rfl, Same.tq s1 hpf, ?_, fin _ ?_⟩
        · obtain ⟨m, hm⟩ : ∃ m : Nat, c - 1 = (m : Int) := ⟨(c - 1).toNat, by omega⟩
          rw [hm, Int.toNat_natCast]
          exact atI_nat (at_ m (by omega))
        · unfold rankI
          rw [if_pos hp]
      · have hp : ¬ c > 0 := fun z => hp (decide_eq_true z)
        refine ⟨_, rfl, _, rfl, _, rfl, _, _, rfl, rfl, pf, fs.map V.int, -c - 1, V.int ((fs[(-c - 1).toNat]?).getD 0), rfl, rfl, Same.tq s1 hpf, ?_, _, rfl, fin _ ?_⟩
        · obtain ⟨m, hm⟩ : ∃ m : Nat, -c - 1 = (m : Int) := ⟨(-c - 1).toNat, by omega⟩
          rw [hm, Int.toNat_natCast]
          exact atI_nat (at_ m (by omega))
        · unfold rankI
          rw [if_neg hp]
    · rintro H' ⟨s1, hL⟩
      rw [List.length_map, List.take_length] at hL
      refine ⟨_, rfl, _, rfl, by show 1 ≤ sizeLine; decide, fun z hz => ⟨D, z, _, _, rfl, rfl, Same.new hz _ _ hL, upd_same, by rw [List.length_map, h16]; have := hc.1; show cs.length + 1 ≤ _; omega, fun p hp => ?_⟩⟩
      refine k p _ (s1.trans ((Same.new hz).trans (Same.new hp))) ?_ ?_
      · cases e : H p with
        | none => rfl
        | some u =>
          have := Same.new (o := .lst [.int i]) hz p u (s1 _ _ e)
          rw [hp] at this; cases this
      · rw [upd_same]
        unfold keyI
        rw [List.map_append, List.map_map]
        rfl
/-- compare_items -/
def spCmp (K : PySem.W.Frag) : Sp := fun vs H Q _ => ∃ (r a pa b pb : Addr) (cs fa fb : List Int) (ia ib : Int), vs = [.ref r, .ref a, .ref b] ∧ SqT K H r (cs.map V.int) ∧ SqT K H a [.int ia, .ref pa] ∧ SqT K H pa (fa.map V.int) ∧ SqT K H b [.int ib, .ref pb] ∧ SqT K H pb (fb.map V.int) ∧
  ColsOk cs fa.length ∧ ColsOk cs fb.length ∧ ∀ H', Same H H' → Q (.int (cmpI (keyI cs (ia, fa)) (keyI cs (ib, fb)))) H'
theorem scCmp : FnScope ["rule", "first", "second", "first_key", "second_key"] ["rule", "first", "second"] (defScope sCompare) := ⟨rfl, rfl, rfl, by decide +kernel, rfl, by decide +kernel, by decide +kernel⟩
theorem ok_cmp {f fK : Addr} {fd fdK : FuncData} (F : Fun K "compare_items" "compare_items" sCompare f fd) (GK : FnOk P w K mg base CX0 1 fK fdK ["rule", "item"] (spKey K)) (kK : PySem.W.keepIn K (.ref fK) = true) (bK : L2.Binds K fdK ["rule", "item"] []) (mK : mg "sort_key" = some (.ref fK)) :
    FnOk P w K mg base CX0 2 f fd ["rule", "first", "second"] (spCmp K) := by
  refine F.ok scCmp (fun vs H Q E h => ?_) (fun cdv A outer s H vs Q E hr h => ?_)
  · obtain ⟨r, a, pa, b, pb, cs, fa, fb, ia, ib, rfl, _⟩ := h
    rfl
  · obtain ⟨r, a, pa, b, pb, cs, fa, fb, ia, ib, rfl, hr1, ha, hpa, hb, hpb, ca, cb, k⟩ := h
    have h64 := hu64 hr
    refine ⟨_, pss_cons (ps_set (i := 3) scCmp.nd rfl (Or.inl rfl) (pe_call GK hr rfl mK kK bK .nil pass0 (pa_cons (pv 0) (pa_cons (pv 1) pa_nil))))
      (pss_cons (ps_set (i := 4) scCmp.nd rfl (Or.inl rfl) (pe_call GK hr rfl mK kK bK .nil pass0 (pa_cons (pv 0) (pa_cons (pv 2) pa_nil))))
      (pss_cons (ps_if (pt_cmpR (op_eqL h64) (pv 3) (pv 4) (nomark _)) (pss_one (ps_ret pe_int)) pss_nil)
      (pss_one (ps_ret (pe_ifExp (pt_cmpR (op_ltD h64) (pv 3) (pv 4) (nomark _)) (pe_un un_neg pe_int) pe_int))))), ?_⟩
    refine ⟨_, rfl, _, rfl, r, a, pa, cs, fa, ia, rfl, hr1, ha, hpa, ca, fun p H1 s1 hp hP => ?_⟩
    refine ⟨_, rfl, _, rfl, r, b, pb, cs, fb, ib, rfl, Same.tq s1 hr1, Same.tq s1 hb, Same.tq s1 hpb, cb, fun q H2 s2 hq hQ => ?_⟩
    have hP2 := s2 _ _ hP
    refine ⟨_, rfl, _, rfl, p, q, _, _, rfl, rfl, SqL.of hP2, SqL.of hQ, _, rfl, ite2 (fun e => ?_) (fun e => ?_)⟩
    · have e := of_decide_eq_true e
      have := k H2 (s1.trans s2)
      unfold cmpI at this
      rw [if_pos e] at this
      exact this
    · have e : ¬ (keyI cs (ia, fa) = keyI cs (ib, fb)) := fun z => e (decide_eq_true z)
      have kk := k H2 (s1.trans s2)
      unfold cmpI at kk
      rw [if_neg e] at kk
      refine ⟨_, rfl, _, rfl, .list ((keyI cs (ia, fa)).map .int), .list ((keyI cs (ib, fb)).map .int), .lst (SqL.of hP2) (DVs.intsL _), .lst (SqL.of hQ) (DVs.intsL _), alike_rows _ _, fun z => (by cases z), depth_rows _, _, rfl, ?_⟩
      rw [dataLt_rows]
      refine ite2 (fun e2 => ?_) (fun e2 => ?_)
      · have e2 := of_decide_eq_true e2
        rw [if_pos e2] at kk
        exact ⟨_, rfl, kk⟩
      · have e2 : ¬ (keyI cs (ia, fa) < keyI cs (ib, fb)) := fun z => e2 (decide_eq_true z)
        rw [if_neg e2] at kk
        exact kk
/-- rule_order -/
def StockK (K : PySem.W.Frag) (H : Hp) (kvs : List (Key × V)) (st : List (Int × List Int)) : Prop := kvs.length = st.length ∧ ∀ (i : Nat) (kv : Key × V) (e : Int × List Int), kvs[i]? = some kv → st[i]? = some e → kv.1 = .inl e.1 ∧ ∃ p, kv.2 = .ref p ∧ SqT K H p (e.2.map V.int)
def lastI (k : List Int) : Int := (k.getLast?).getD 0
def orderI (cs : List Int) (st : List (Int × List Int)) : List Int := ((st.map (keyI cs)).mergeSort fun a b => decide (a ≤ b)).map lastI
def spRuleO (K : PySem.W.Frag) : Sp := fun vs H Q _ => ∃ (r d : Addr) (cs : List Int) (kvs : List (Key × V)) (st : List (Int × List Int)), vs = [.ref r, .ref d] ∧ SqT K H r (cs.map V.int) ∧ H d = some (.dK kvs) ∧ StockK K H kvs st ∧ (∀ e ∈ st, ColsOk cs e.2.length) ∧ st.length ≤ 1000 ∧
  ∀ p H', Same H H' → H p = none → H' p = some (.lst ((orderI cs st).map V.int)) → Q (.ref p) H'
theorem scOrd : FnScope ["rule", "items", "keys", "item", "key"] ["rule", "items"] (defScope sRuleOrder) := ⟨rfl, rfl, rfl, by decide +kernel, rfl, by decide +kernel, by decide +kernel⟩
theorem ix_listK {X : Cx} {K : PySem.W.Frag} (h : X.K = K) : IxR X (rIxL K) := by
  subst h
  exact ix_list
theorem RowsAt.unlock {H : Hp} {a d : Addr} {od : Obj} {u o : HO} {rows : List (List Int)} (R : RowsAt H a rows) (h : H d = some (.frz od u)) : RowsAt (upd H d o) a rows := by
  obtain ⟨ps, h1, h2, h3⟩ := R
  refine ⟨ps, by rw [upd_ne (ne_of h1 h (fun z => by cases z))]; exact h1, h2, fun i p r e1 e2 => ?_⟩
  obtain ⟨z1, z2⟩ := h3 i p r e1 e2
  exact ⟨by rw [upd_ne (ne_of z1 h (fun z => by cases z))]; exact z1, z2⟩
theorem _root_.L2.SqT.lock {K : PySem.W.Frag} {H : Hp} {a d : Addr} {kvs : List (Key × V)} {o : HO} {xs : List V} (h : SqT K H a xs) (hd : H d = some (.dK kvs)) : SqT K (upd H d o) a xs := by
  rcases h with (h | ⟨o', h⟩) | h
  · exact .inl (.inl (by rw [upd_ne (ne_of h hd (fun z => by cases z))]; exact h))
  · exact .inl (.inr ⟨o', by rw [upd_ne (ne_of h hd (fun z => by cases z))]; exact h⟩)
  · exact .inr h
theorem ok_ruleO {f fK : Addr} {fd fdK : FuncData} (F : Fun K "rule_order" "rule_order" sRuleOrder f fd) (T : mg "sorted" = none) (GK : FnOk P w K mg base CX0 1 fK fdK ["rule", "item"] (spKey K)) (kK : PySem.W.keepIn K (.ref fK) = true) (bK : L2.Binds K fdK ["rule", "item"] []) (mK : mg "sort_key" = some (.ref fK)) :
    FnOk P w K mg base CX0 2 f fd ["rule", "items"] (spRuleO K) := by
  refine F.ok scOrd (fun vs H Q E h => ?_) (fun cdv A outer s H vs Q E hr h => ?_)
  · obtain ⟨r, d, cs, kvs, st, rfl, _⟩ := h
    rfl
  · obtain ⟨r, d, cs, kvs, st, rfl, hr1, hd, hst, hc, hl, k⟩ := h
    have h64 := hu64 hr
    refine ⟨_, pss_cons (ps_set (i := 2) scOrd.nd rfl (Or.inl rfl) (pe_callB (call_sortD h64) (by rfl) T (by decide +kernel) (pa_cons (pe_lock (pe_lc (own := [("item", 3)]) (g := gName 3) (tt := tYes) rfl scOrd.nd (pi_itemsN (pv 1)) (blkOk_by (N := ["rule", "items", "keys", "item", "key"]) (sc := defScope sRuleOrder) (by decide +kernel))
        (fun _ _ _ _ _ => pg_name (i := 3) scOrd.nd rfl (Or.inl rfl)) (fun _ _ _ _ _ => pts_nil) (fun _ _ _ _ _ => pe_call GK hr rfl mK kK bK .nil pass0 (pa_cons (pv 0) (pa_cons (pv 3) pa_nil))))) pa_nil)))
      (pss_one (ps_ret (pe_lc (own := [("key", 4)]) (g := gName 4) (tt := tYes) rfl scOrd.nd (pi_list (pv 2)) (blkOk_by (N := ["rule", "items", "keys", "item", "key"]) (sc := defScope sRuleOrder) (by decide +kernel))
        (fun _ _ _ _ _ => pg_name (i := 4) scOrd.nd rfl (Or.inl rfl)) (fun _ _ _ _ _ => pts_nil) (fun _ _ _ _ _ => pe_ix (ix_listK (K := K) rfl) (pv 4) (pe_un un_neg pe_int) (fun _ _ => rfl))))), ?_⟩
    have h16 : sizeLine = 16777216 := sizeLine_eq
    refine ⟨d, _, hd, True.intro, fun od => ?_⟩
    have hrd := hr1
    generalize hHl : upd H d (.frz od (.dK kvs)) = Hl
    have hlk : ∀ {a : Addr} {xs : List V}, SqT K H a xs → SqT K Hl a xs := fun hh => by rw [← hHl]; exact hh.lock hd
    have hdl : Hl d = some (.frz od (.dK kvs)) := by rw [← hHl]; exact upd_same
    have hlen : kvs.length = st.length := hst.1
    refine ⟨_, rfl, d, od, kvs, rfl, hdl, fun D hD => ?_⟩
    refine lc_it (walk_items (d := d) (o := od) (kvs := kvs)) (fun i H' => Same Hl H' ∧ RowsAt H' D ((st.take i).map (keyI cs))) ⟨Same.new hD, RowsAt.nil upd_same⟩ (fun i H' _ q => q.1 _ _ hdl) ?_ ?_
    · rintro i x Hi H' hi ⟨s1, hR⟩ ⟨T, x1, y1, rfl, hT, rfl, e1, e2⟩
      obtain ⟨kv, hkv⟩ : ∃ kv, kvs[i]? = some kv := ⟨kvs[i], List.getElem?_eq_getElem hi⟩
      obtain ⟨e, he⟩ : ∃ e, st[i]? = some e := ⟨st[i]'(by omega), List.getElem?_eq_getElem (by omega)⟩
      obtain ⟨z1, p, z2, z3⟩ := hst.2 i kv e hkv he
      have e1 : kvs[i]?.map (fun kv => kV kv.1) = some x1 := e1
      have e2 : kvs[i]?.map Prod.snd = some y1 := e2
      rw [hkv] at e1 e2
      have e1 : kV kv.1 = x1 := Option.some.inj e1
      have e2 : kv.2 = y1 := Option.some.inj e2
      rw [z1] at e1
      rw [z2] at e2
      subst e1; subst e2
      have sT := Same.new (o := .tup [kV (.inl e.1), .ref p]) hT
      refine ⟨rfl, ?_⟩
      refine ⟨_, rfl, _, rfl, r, T, p, cs, e.2, e.1, rfl, Same.tq (s1.trans sT) (hlk hr1), SqT.of upd_same, Same.tq (s1.trans sT) (hlk z3), hc e (List.mem_of_getElem? he), fun q H2 s2 hq hQ => ?_⟩
      have hR2 := (hR.same sT).same s2
      obtain ⟨xs, w1, w2, w3⟩ := hR2.push hQ (fun z => by
        subst z
        obtain ⟨ps, g1, _⟩ := hR.same sT
        rw [hq] at g1; cases g1)
      refine ⟨xs, w1, ?_, ?_, ?_⟩
      · rw [w2, List.length_map, List.length_take, h16]; omega
      · intro b u eb
        have : b ≠ D := ne_of_none eb hD
        rw [upd_ne this]
        exact s2 _ _ (sT _ _ (s1 _ _ eb))
      · rw [take_snoc he, List.map_append]
        exact w3
    · rintro H' ⟨s1, hR⟩
      rw [hlen, List.take_length] at hR
      have hdl' := s1 _ _ hdl
      refine ⟨hdl', ?_⟩
      have hR2 := hR.unlock (o := .dK kvs) hdl'
      have s2 : Same H (upd H' d (.dK kvs)) := fun b u eb => by
        by_cases z : b = d
        · subst z
          rw [hd] at eb
          rw [upd_same]; exact eb
        · rw [upd_ne z]
          refine s1 _ _ ?_
          rw [← hHl, upd_ne z]; exact eb
      generalize upd H' d (.dK kvs) = H2 at hR2 s2 ⊢
      obtain ⟨ps, g1, g2, g3⟩ := hR2
      have hrl : (st.map (keyI cs)).length ≤ 1000 := by rw [List.length_map]; exact hl
      have hzl : ∀ {α β : Type} (xs : List α) (ys : List β), xs.length = ys.length → (xs.zip ys).map Prod.fst = xs ∧ (xs.zip ys).map Prod.snd = ys := fun xs ys e => ⟨List.map_fst_zip (Nat.le_of_eq e), List.map_snd_zip (Nat.le_of_eq e.symm)⟩
      have hkeys : ∀ r ∈ st.map (keyI cs), ∃ i, r.getLast? = some i ∧ atI (r.map V.int) (-1) = some (.int (lastI r)) := fun r hr => by
        obtain ⟨e, _, rfl⟩ := List.mem_map.mp hr
        refine ⟨e.1, by unfold keyI; simp, ?_⟩
        have : lastI (keyI cs e) = e.1 := by unfold lastI keyI; simp
        rw [this]
        unfold keyI
        rw [List.map_append]
        exact atI_last _ _
      generalize hrows : st.map (keyI cs) = rows at g2 g3 hrl hkeys
      obtain ⟨zf, zs⟩ := hzl ps rows g2
      have hat : ∀ b ∈ ps.zip rows, H2 b.1 = some (.lst (b.2.map V.int)) ∧ b.2 ∈ rows := fun b hb => by
        obtain ⟨i, hi⟩ := List.mem_iff_getElem?.mp hb
        rw [List.getElem?_zip_eq_some] at hi
        exact ⟨(g3 i _ _ hi.1 hi.2).1, List.mem_of_getElem? hi.2⟩
      refine ⟨D, (Addr × List Int), ps.zip rows, (fun b => .list (b.2.map .int)), (fun b => .ref b.1), rfl, ?_, ?_, ?_, ?_, ?_, fun p hp => ?_⟩
      · have : (ps.zip rows).map (fun b => V.ref b.1) = ps.map V.ref := by
          rw [show (ps.zip rows).map (fun b => V.ref b.1) = ((ps.zip rows).map Prod.fst).map V.ref from (List.map_map ..).symm, zf]
        rw [this]
        exact SqL.of g1
      · exact fun b hb => .lst (SqL.of (hat b hb).1) (DVs.intsL _)
      · exact PySem.W.AllAlike.of fun b b' => alike_rows _ _
      · exact PySem.W.Sortable.others (enc := fun b : Addr × List Int => PyData.list (b.2.map .int)) (fun b => ⟨fun z => (by cases z), fun xs z => (by cases z)⟩)
      · exact fun b _ => depth_rows _
      · rw [PySem.W.dataLe_rows]
        have hsort : (((ps.zip rows).mergeSort fun p q => decide (p.2 ≤ q.2)).map Prod.snd) = rows.mergeSort fun a b => decide (a ≤ b) := by
          rw [PySem.W.sort_maps (s := fun a b => decide (a ≤ b)) Prod.snd (fun _ _ _ _ => rfl), zs]
        have hmem : ∀ b ∈ ((ps.zip rows).mergeSort fun p q => decide (p.2 ≤ q.2)), b ∈ ps.zip rows := fun b hb => List.mem_mergeSort.mp hb
        have hln : ((ps.zip rows).mergeSort fun p q => decide (p.2 ≤ q.2)).length ≤ 1000 := by
          rw [List.length_mergeSort, List.length_zip]; omega
        generalize ((ps.zip rows).mergeSort fun p q => decide (p.2 ≤ q.2)) = bs at hsort hmem hln ⊢
        have sp := Same.new (o := .lst (bs.map fun b => V.ref b.1)) hp
        refine ⟨_, rfl, _, rfl, ⟨_, SqL.of upd_same⟩, fun D2 hD2 => ?_⟩
        have hp2 : ∀ {H' : Hp}, Same (upd H2 p (.lst (bs.map fun b => V.ref b.1))) H' → SqL K H' p (bs.map fun b => V.ref b.1) := fun s => SqL.of (s _ _ upd_same)
        refine lc_list (K := K) (a := p) (xs := bs.map fun b => V.ref b.1) (fun j H' => Same (upd H2 p (.lst (bs.map fun b => V.ref b.1))) H' ∧ H' D2 = some (.lst ((bs.take j).map fun b => V.int (lastI b.2)))) ⟨Same.new hD2, upd_same⟩ (fun j H' _ q => hp2 q.1) ?_ ?_
        · rintro j x H' hx ⟨s3, hL⟩
          obtain ⟨b, hb, rfl⟩ : ∃ b, bs[j]? = some b ∧ x = V.ref b.1 := by
            rw [List.getElem?_map] at hx
            cases e : bs[j]? with
            | none => rw [e] at hx; cases hx
            | some c => rw [e] at hx; exact ⟨c, rfl, (Option.some.inj hx).symm⟩
          obtain ⟨u1, u2⟩ := hat b (hmem b (List.mem_of_getElem? hb))
          obtain ⟨_, _, u3⟩ := hkeys b.2 u2
          refine ⟨rfl, _, rfl, _, rfl, b.1, _, -1, _, rfl, rfl, SqL.of (s3 _ _ (sp _ _ u1)), u3, ?_⟩
          refine ⟨_, hL, ?_, fun c u e => by rw [upd_ne (ne_of_none e hD2)]; exact s3 c u e, ?_⟩
          · rw [List.length_map, List.length_take, h16]; omega
          · rw [upd_same, take_snoc hb, List.map_append]; rfl
        · rintro H' ⟨s3, hL⟩
          rw [List.length_map, List.take_length] at hL
          have s4 : Same H H' := s2.trans (sp.trans s3)
          refine k D2 H' s4 ?_ ?_
          · cases e : H D2 with
            | none => rfl
            | some u =>
              have := sp D2 u (s2 _ _ e)
              rw [hD2] at this; cases this
          · rw [hL]
            unfold orderI
            rw [hrows, ← hsort, List.map_map, List.map_map]
            rfl
end
/-! ### _law_same -/
def Rok2 (d : PyData) : Prop := okD d = true ∧ d.depth ≤ 40 ∧ szD d ≤ 1000000
/-- a pair of two values with the same data -/
def PairAt (K : PySem.W.Frag) (H : Hp) (x : V) : Prop := ∃ (T : Addr) (v1 v2 : V) (d : PyData), x = .ref T ∧ SqT K H T [v1, v2] ∧ DV K H v1 d ∧ DV K H v2 d ∧ Rok2 d
theorem PairAt.same {K : PySem.W.Frag} {H H' : Hp} {x : V} (h : PairAt K H x) (s : Same H H') : PairAt K H' x := by
  obtain ⟨T, v1, v2, d, e, h1, h2, h3, h4⟩ := h
  exact ⟨T, v1, v2, d, e, Same.tq s h1, h2.same s, h3.same s, h4⟩
theorem call_reprK {X : Cx} {K : PySem.W.Frag} (h : X.K = K) (hg : X.A.guards = some []) (hu : X.A.units + 64 < cLine) : CallR X (.builtin "repr") (rRepr2 K) := by
  subst h
  exact call_repr2 hg hu
section
variable {P : Program} {w : World} {K : PySem.W.Frag} {mg : Str → Option Value} {base : Heap}
def spSame (K : PySem.W.Frag) : Sp := fun vs H Q _ => ∃ (p : Addr) (xs : List V), vs = [.ref p] ∧ SqL K H p xs ∧ (∀ x ∈ xs, PairAt K H x) ∧ xs.length ≤ 1000 ∧ ∀ H', Same H H' → Q (.bl true) H'
theorem scSame : FnScope ["pairs", "pair"] ["pairs"] (defScope sSame) := ⟨rfl, rfl, rfl, by decide +kernel, rfl, by decide +kernel, by decide +kernel⟩
theorem ok_same {f : Addr} {fd : FuncData} (F : Fun K "_law_same" "_law_same" sSame f fd) (T : mg "repr" = none) : FnG P w K mg base 1 f fd ["pairs"] (spSame K) := by
  refine FnG.mk' F scSame (fun vs H Q E h => ?_) (fun cdv A outer s H vs Q E hg hr h => ?_)
  · obtain ⟨p, xs, rfl, _⟩ := h
    rfl
  · obtain ⟨p, xs, rfl, hS, hx, hl, k⟩ := h
    have h64 := hu64 hr
    refine ⟨_, pss_one (ps_ret (pe_cmpR (op_eqL h64) (pe_lc (own := [("pair", 1)]) (g := gName 1) rfl scSame.nd (pi_list (pv 0)) (blkOk_by (N := ["pairs", "pair"]) (sc := defScope sSame) (by decide +kernel))
        (fun _ _ _ _ _ => pg_name (i := 1) scSame.nd rfl (Or.inl rfl)) (fun _ _ _ _ _ => pts_one (pt_cmpR op_ne (pe_callB (call_reprK (K := K) rfl hg h64) (by rfl) T (by decide +kernel) (pa_cons (pe_ix (ix_tupK (K := K) rfl) (pv 1) pe_int (fun _ _ => rfl)) pa_nil))
          (pe_callB (call_reprK (K := K) rfl hg h64) (by rfl) T (by decide +kernel) (pa_cons (pe_ix (ix_tupK (K := K) rfl) (pv 1) pe_int (fun _ _ => rfl)) pa_nil)) (nomark _)))
        (fun _ _ _ _ _ => pv 1)) (pe_lst pa_nil) (nomark _))), ?_⟩
    refine ⟨_, rfl, p, rfl, ⟨_, hS⟩, fun D hD => ?_⟩
    refine lc_list (K := K) (a := p) (xs := xs) (fun j H' => Same H H' ∧ H' D = some (.lst [])) ⟨Same.new hD, upd_same⟩ (fun j H' _ q => Same.sq q.1 hS) ?_ ?_
    · rintro j x H' hx1 ⟨s1, hL⟩
      obtain ⟨T, v1, v2, d, rfl, hT, h1, h2, o1, o2, o3⟩ := (hx x (List.mem_of_getElem? hx1)).same s1
      refine ⟨rfl, ?_⟩
      refine ⟨_, rfl, T, [v1, v2], 0, v1, rfl, rfl, hT, rfl, v1, d, rfl, h1, o1, o2, o3, _, rfl, T, [v1, v2], 1, v2, rfl, rfl, hT, rfl, v2, d, rfl, h2, o1, o2, o3, rfl, ?_⟩
      have e : (!decide (V.str d.shown = V.str d.shown)) = false := by simp
      rw [e]
      exact ⟨_, rfl, iteF ⟨s1, hL⟩⟩
    · rintro H' ⟨s1, hL⟩
      refine ⟨by decide, fun q hq => ?_⟩
      have s2 := s1.trans (Same.new (o := .lst []) hq)
      refine ⟨D, q, [], [], rfl, rfl, SqL.of (Same.new hq _ _ hL), SqL.of upd_same, ?_⟩
      exact k _ s2
end
/-! ### the heap without one address -/
def er (H : Hp) (p : Addr) : Hp := fun b => if b = p then none else H b
theorem er_at {H : Hp} {p b : Addr} {o : HO} (h : H b = some o) (n : b ≠ p) : er H p b = some o := by
  unfold er
  rw [if_neg n]; exact h
theorem er_le {H : Hp} {p : Addr} : Same (er H p) H := fun b o e => by
  unfold er at e
  by_cases n : b = p
  · rw [if_pos n] at e; cases e
  · rw [if_neg n] at e; exact e
theorem er_same {H H' : Hp} {p : Addr} (s : Same H H') : Same (er H p) (er H' p) := fun b o e => by
  unfold er at e ⊢
  by_cases n : b = p
  · rw [if_pos n] at e; cases e
  · rw [if_neg n] at e ⊢; exact s b o e
theorem er_upd {H : Hp} {p : Addr} {o : HO} : er (upd H p o) p = er H p := by
  funext b
  unfold er
  by_cases n : b = p
  · rw [if_pos n, if_pos n]
  · rw [if_neg n, if_neg n, upd_ne n]
theorem er_upd_ne {H : Hp} {p q : Addr} {o : HO} (n : q ≠ p) : er (upd H q o) p = upd (er H p) q o := by
  funext b
  unfold er
  by_cases h : b = q
  · subst h
    rw [if_neg n, upd_same, upd_same]
  · rw [upd_ne h, upd_ne h]
theorem er_of {Hz H : Hp} {p : Addr} (s : Same Hz H) (hz : Hz p = none) : Same Hz (er H p) := fun b o e => er_at (s b o e) (ne_of_none e hz)
/-- n pairs of values of the same data -/
def PairsIn (K : PySem.W.Frag) (H : Hp) (p : Addr) (n : Nat) : Prop := ∃ xs : List V, H p = some (.lst xs) ∧ xs.length = n ∧ ∀ x ∈ xs, PairAt K (er H p) x
section
variable {K : PySem.W.Frag} {H H' : Hp} {p : Addr} {n : Nat}
theorem PairsIn.same (R : PairsIn K H p n) (s : Same H H') : PairsIn K H' p n := by
  obtain ⟨xs, h1, h2, h3⟩ := R
  exact ⟨xs, s _ _ h1, h2, fun x hx => (h3 x hx).same (er_same s)⟩
theorem PairsIn.ne (R : PairsIn K H p n) {q : Addr} (h : H q = none) : q ≠ p := by
  obtain ⟨xs, h1, _⟩ := R
  exact (ne_of_none h1 h).symm
theorem PairsIn.push {T : Addr} {v1 v2 : V} {d : PyData} (R : PairsIn K H p n) (hT : H T = some (.tup [v1, v2])) (hne : T ≠ p) (h1 : DV K (er H p) v1 d) (h2 : DV K (er H p) v2 d) (ok : Rok2 d) :
    ∃ xs, H p = some (.lst xs) ∧ xs.length = n ∧ PairsIn K (upd H p (.lst (xs ++ [.ref T]))) p (n + 1) := by
  obtain ⟨xs, q1, q2, q3⟩ := R
  refine ⟨xs, q1, q2, xs ++ [.ref T], upd_same, by rw [List.length_append, q2]; rfl, fun x hx => ?_⟩
  rw [er_upd]
  rcases List.mem_append.mp hx with hx | hx
  · exact q3 x hx
  · rw [List.mem_singleton.mp hx]
    exact ⟨T, v1, v2, d, rfl, SqT.of (er_at hT hne), h1, h2, ok⟩
end
/-! ### their data -/
theorem szAllI : ∀ xs : List Int, szAll (xs.map .int) = xs.length * 303
  | [] => by rw [List.map_nil, szAll]; rfl
  | _ :: r => by rw [List.map_cons, szAll, szD, szAllI r, List.length_cons]; omega
theorem okAllI : ∀ xs : List Int, (∀ z ∈ xs, z.natAbs < 2 ^ 300) → okAll (xs.map .int) = true
  | [], _ => by rw [List.map_nil, okAll]
  | x :: r, h => by
    rw [List.map_cons, okAll, okD, okAllI r fun z hz => h z (List.mem_cons_of_mem _ hz), decide_eq_true (h x List.mem_cons_self)]
    rfl
theorem rok2_bl (b : Bool) : Rok2 (.bool b) := ⟨by rw [okD], by rw [PyData.depth]; decide, by rw [szD]; decide⟩
theorem rok2_int {i : Int} (h : i.natAbs < 2 ^ 300) : Rok2 (.int i) := ⟨by rw [okD]; exact decide_eq_true h, by rw [PyData.depth]; decide, by rw [szD]; decide⟩
theorem rok2_ints {xs : List Int} (h : ∀ z ∈ xs, z.natAbs < 2 ^ 300) (hl : xs.length ≤ 1000) : Rok2 (.list (xs.map .int)) := by
  refine ⟨by rw [okD]; exact okAllI xs h, ?_, ?_⟩
  · rw [PyData.depth]
    have := depthAll_ints xs
    omega
  · rw [szD, szAllI]
    omega
theorem dvL {K : PySem.W.Frag} {H : Hp} {q : Addr} {xs : List Int} (h : H q = some (.lst (xs.map V.int))) : DV K H (.ref q) (.list (xs.map .int)) := .lst (SqL.of h) (DVs.intsL xs)
theorem dvT {K : PySem.W.Frag} {H : Hp} {q : Addr} {xs : List Int} (h : H q = some (.tup (xs.map V.int))) : DV K H (.ref q) (.tuple (xs.map .int)) := .tup (SqT.of h) (DVs.intsL xs)
theorem cmpI_b (a b : List Int) : (cmpI a b).natAbs < 2 ^ 300 := by
  unfold cmpI
  split
  · decide +kernel
  · split
    · decide +kernel
    · decide +kernel
theorem lastI_key (cs : List Int) (e : Int × List Int) : lastI (keyI cs e) = e.1 := by unfold lastI keyI; simp
theorem orderI_mem {cs : List Int} {st : List (Int × List Int)} {z : Int} (h : z ∈ orderI cs st) : ∃ e ∈ st, z = e.1 := by
  unfold orderI at h
  obtain ⟨r, hr, rfl⟩ := List.mem_map.mp h
  obtain ⟨e, he, rfl⟩ := List.mem_map.mp (List.mem_mergeSort.mp hr)
  exact ⟨e, he, lastI_key cs e⟩
theorem orderI_len (cs : List Int) (st : List (Int × List Int)) : (orderI cs st).length = st.length := by
  unfold orderI
  rw [List.length_map, List.length_mergeSort, List.length_map]
/-! ### the neighbours' list -/
def nbD (js : List Int) (i : Nat) : List PyData := (List.range i).map fun j => .tuple [.int (befor js j), .int (here js j)]
/-- the first i tuples stand in the list at D -/
def NbAt (H : Hp) (D : Addr) (js : List Int) (i : Nat) : Prop := ∃ ps : List Addr, H D = some (.lst (ps.map V.ref)) ∧ ps.length = i ∧ ∀ (j : Nat) (p : Addr), ps[j]? = some p → H p = some (.tup [.int (befor js j), .int (here js j)])
theorem NbAt.same {H H' : Hp} {D : Addr} {js : List Int} {i : Nat} (R : NbAt H D js i) (s : Same H H') : NbAt H' D js i := by
  obtain ⟨ps, h1, h2, h3⟩ := R
  exact ⟨ps, s _ _ h1, h2, fun j p e => s _ _ (h3 j p e)⟩
theorem NbAt.push {H : Hp} {D T : Addr} {js : List Int} {i : Nat} (R : NbAt H D js i) (hT : H T = some (.tup [.int (befor js i), .int (here js i)])) : ∃ xs, H D = some (.lst xs) ∧ xs.length = i ∧ NbAt (upd H D (.lst (xs ++ [.ref T]))) D js (i + 1) := by
  obtain ⟨ps, h1, h2, h3⟩ := R
  refine ⟨ps.map V.ref, h1, by rw [List.length_map, h2], ps ++ [T], by rw [upd_same, List.map_append]; rfl, by rw [List.length_append, h2]; rfl, fun j p e => ?_⟩
  have hp : H p = some (.tup [.int (befor js j), .int (here js j)]) := by
    by_cases hj : j < ps.length
    · rw [List.getElem?_append_left hj] at e
      exact h3 j p e
    · rw [List.getElem?_append_right (by omega)] at e
      have hj0 : j - ps.length = 0 := by
        cases z : j - ps.length with
        | zero => rfl
        | succ m => rw [z] at e; simp at e
      rw [hj0] at e
      simp at e
      subst e
      rw [show j = i by omega]
      exact hT
  rw [upd_ne (ne_of hp h1 (fun z => by cases z))]
  exact hp
theorem NbAt.dvs {K : PySem.W.Frag} {H : Hp} {js : List Int} : ∀ {ps : List Addr} {k : Nat}, (∀ (j : Nat) (p : Addr), ps[j]? = some p → H p = some (.tup [.int (befor js (k + j)), .int (here js (k + j))])) →
    DVs K H (ps.map V.ref) ((List.range' k ps.length).map fun j => .tuple [.int (befor js j), .int (here js j)])
  | [], _, _ => .nil
  | p :: ps, k, h => .cons (.tup (SqT.of (h 0 p rfl)) (.cons (.int _) (.cons (.int _) .nil))) (NbAt.dvs (k := k + 1) fun j q e => by
      have := h (j + 1) q e
      rw [show k + (j + 1) = k + 1 + j by omega] at this
      exact this)
theorem NbAt.dv {K : PySem.W.Frag} {H : Hp} {D : Addr} {js : List Int} {i : Nat} (R : NbAt H D js i) : DV K H (.ref D) (.list (nbD js i)) := by
  obtain ⟨ps, h1, h2, h3⟩ := R
  refine .lst (SqL.of h1) ?_
  unfold nbD
  rw [List.range_eq_range', ← h2]
  exact NbAt.dvs fun j p e => by rw [Nat.zero_add]; exact h3 j p e
structure TxtL (mg : Str → Option Value) : Prop where
  range : mg "range" = none
  max : mg "max" = none
  min : mg "min" = none
structure Fn (K : PySem.W.Frag) (mg : Str → Option Value) (x : Str) (st : Stmt) (ps : List Str) (f : Addr) (fd : FuncData) : Prop where
  F : Fun K x x st f fd
  b : L2.Binds K fd ps []
  m : mg x = some (.ref f)
/-- a def called by place and by name -/
structure FnK (P : Program) (w : World) (K : PySem.W.Frag) (mg : Str → Option Value) (base : Heap) (k : Nat) (x : Str) (ps ks : List Str) (sp spv : Sp) (f : Addr) (fd : FuncData) : Prop where
  G : FnOk P w K mg base CX0 k f fd ps sp
  V : FnV P w K mg base k f ks spv
  kp : PySem.W.keepIn K (.ref f) = true
  b : L2.Binds K fd ps []
  m : mg x = some (.ref f)
section
variable {P : Program} {w : World} {K : PySem.W.Frag} {mg : Str → Option Value} {base : Heap}
def spLaw (K : PySem.W.Frag) : Sp := fun vs H Q _ => ∃ (a : Addr) (ns : List Int), vs = [.ref a] ∧ SqL K H a (ns.map V.int) ∧ ns.length ≤ 63 ∧ (∀ z ∈ ns, Builtin.Int.intBits z ≤ 1048576) ∧ ∀ H', Q (.bl true) H'
abbrev NL : List Str := ["script", "start", "deck", "turn", "stock", "way", "one", "other", "line", "step", "pairs", "pair"]
theorem scLaw : FnScope NL ["script"] (defScope sLaw) := ⟨rfl, rfl, rfl, by decide +kernel, rfl, by decide +kernel, by decide +kernel⟩
def rv (sp : Sp) : Sp := fun vs => sp vs.reverse
theorem _root_.Hk.Fs.at {d : Addr} {Hd H : Hp} {fs : List (Addr × HO)} (F : Fs d Hd fs H) (i : Nat) {p : Addr} {o : HO} (h : fs[i]? = some (p, o)) : H p = some o := (F.2.2 (p, o) (List.mem_of_getElem? h)).2
theorem nk {kvs : List (Key × V)} (h : ∀ x y, kvs ≠ dk x y) : ∀ x y, HO.dK kvs ≠ .dK (dk x y) := fun x y e => h x y (by cases e; rfl)
theorem app_read {K : PySem.W.Frag} {Hz H : Hp} {pr T : Addr} {n : Nat} {v1 v2 : V} {d : PyData} (zpr : Hz pr = none) (sz : Same Hz H) (R : PairsIn K H pr n) (hT : H T = none) (h1 : DV K (er H pr) v1 d) (h2 : DV K (er H pr) v2 d) (ok : Rok2 d) (hn : n < 1000) :
    ∃ (xs : List V) (H3 : Hp), H3 = upd (upd H T (.tup [v1, v2])) pr (.lst (xs ++ [.ref T])) ∧ (upd H T (.tup [v1, v2])) pr = some (.lst xs) ∧ xs.length < sizeLine ∧ Same Hz H3 ∧ PairsIn K H3 pr (n + 1) := by
  have s1 := Same.new (o := .tup [v1, v2]) hT
  obtain ⟨xs, q1, q2, q3⟩ := (R.same s1).push upd_same (R.ne hT) (h1.same (er_same s1)) (h2.same (er_same s1)) ok
  refine ⟨xs, _, rfl, q1, by rw [q2, sizeLine_eq]; omega, fun b u e => ?_, q3⟩
  rw [upd_ne (ne_of_none e zpr)]
  exact s1 _ _ (sz _ _ e)
theorem ok_law {f fDe fDr fC fI fR fCm fO fIo fM fD fN fMs fSm : Addr} {fd fdDe fdDr fdC fdI fdR fdCm fdO fdIo fdM fdD fdN fdSm : FuncData} (F : Fun K "law" "law" sLaw f fd) (TD : TxtD mg) (TL : TxtL mg)
    (De : Fn K mg "_law_deck" sDeck ["script", "start"] fDe fdDe) (Dr : Fn K mg "_law_draw" sDraw ["deck", "size"] fDr fdDr) (Ch : Fn K mg "_law_choose" sChoose ["deck", "things"] fC fdC)
    (It : FnK P w K mg base 4 "is_item" ["value", "width"] ["width", "value"] (spIsItem K) (rv (spIsItem K)) fI fdI)
    (Ru : FnK P w K mg base 3 "is_rule" ["value", "width"] ["width", "value"] (spIsRule K) (rv (spIsRule K)) fR fdR)
    (Cm : FnK P w K mg base 2 "compare_items" ["rule", "first", "second"] ["second", "first", "rule"] (spCmp K) (rv (spCmp K)) fCm fdCm)
    (Ro : FnK P w K mg base 2 "rule_order" ["rule", "items"] ["items", "rule"] (spRuleO K) (rv (spRuleO K)) fO fdO)
    (Io : FnK P w K mg base 4 "is_order" ["value"] ["value"] (spIsOrder K) (spIsOrder K) fIo fdIo)
    (Im : FnK P w K mg base 3 "is_move" ["order", "value"] ["value", "order"] (spIsMove K) (rv (spIsMove K)) fM fdM)
    (Do : FnK P w K mg base 4 "do_move" ["order", "move"] ["move", "order"] (spDo K) (rv (spDo K)) fD fdD)
    (GMs : FnR P w K mg base CX0 5 fMs (spMoves0 K)) (VMs : FnV P w K mg base 5 fMs ["order"] (spMoves0 K)) (kMs : PySem.W.keepIn K (.ref fMs) = true) (mMs : mg "do_moves" = some (.ref fMs))
    (Ne : Fn K mg "neighbours" sNeigh ["order"] fN fdN) (bNe : ∀ us : List Value, us.length = (["order"] : List Str).length → bindArgs fdN ⟨[], (["order"] : List Str).zip us⟩ = pure ((["order"] : List Str).zip us))
    (Sm : Fn K mg "_law_same" sSame ["pairs"] fSm fdSm) (mRepr : mg "repr" = none) (mList : mg "list" = none) : FnG P w K mg base 6 f fd ["script"] (spLaw K) := by
  have GDe : FnOk P w K mg base CX0 1 fDe fdDe ["script", "start"] (spDeck K) := ok_deck De.F TD
  have GDr : FnOk P w K mg base CX0 1 fDr fdDr ["deck", "size"] spDraw := ok_draw Dr.F
  have GC : FnOk P w K mg base CX0 2 fC fdC ["deck", "things"] (spChoose K) := ok_choose Ch.F TD Dr.F Dr.b Dr.m
  have GN : GenFn P w K mg base 1 fN fdN ["order"] (spNeigh K) := ok_neigh Ne.F mList
  have GSm : FnG P w K mg base 1 fSm fdSm ["pairs"] (spSame K) := ok_same Sm.F mRepr
  refine FnG.mk' F scLaw (fun vs H Q E h => ?_) (fun cdv A outer s H vs Q E hg hr h => ?_)
  · obtain ⟨a, ns, rfl, _⟩ := h
    rfl
  · obtain ⟨a, ns, rfl, hS, hlen, hbits, k⟩ := h
    have hr0 : Room 0 _ := hr.mono (by decide)
    have hr1 : Room 1 _ := hr.mono (by decide)
    have hr2 : Room 2 _ := hr.mono (by decide)
    have hr3 : Room 3 _ := hr.mono (by decide)
    have hr4 : Room 4 _ := hr.mono (by decide)
    have h64 := hu64 hr
    refine ⟨_, pss_cons (ps_for PassesOwn.never rfl (pi_range1 rfl TL.range (pa_cons (pe_callB (call_max2 rfl) (by rfl) TL.max (by decide +kernel) (pa_cons pe_int (pa_cons (pe_callB (call_min2 rfl) (by rfl) TL.min (by decide +kernel)
          (pa_cons pe_int (pa_cons (pe_callB call_len_seq (by rfl) TD.len PySem.boot_len (pa_cons (pv 0) pa_nil)) pa_nil))) pa_nil))) pa_nil)) (pg_name (i := 1) scLaw.nd rfl (Or.inl rfl))
        (pss_cons (ps_set (i := 2) scLaw.nd rfl (Or.inl rfl) (pe_call GDe hr1 rfl De.m De.F.kp De.b .nil pass0 (pa_cons (pv 0) (pa_cons (pv 1) pa_nil))))
        (pss_one (ps_for PassesOwn.never rfl (pi_range1 rfl TL.range (pa_cons pe_int pa_nil)) (pg_name (i := 3) scLaw.nd rfl (Or.inl rfl))
          (pss_cons (ps_set (i := 4) scLaw.nd rfl (Or.inl rfl) (pe_disp (pps_cons pe_int (pe_tup (pa_cons pe_int (pa_cons pe_int pa_nil)))
              (pps_cons pe_int (pe_tup (pa_cons (pe_call GDr hr1 rfl Dr.m Dr.F.kp Dr.b .nil pass0 (pa_cons (pv 2) (pa_cons pe_int pa_nil))) (pa_cons pe_int pa_nil)))
              (pps_cons pe_int (pe_tup (pa_cons pe_int (pa_cons (pe_call GDr hr1 rfl Dr.m Dr.F.kp Dr.b .nil pass0 (pa_cons (pv 2) (pa_cons pe_int pa_nil))) pa_nil))) pps_nil))) rfl rfl (by decide) (by decide)))
          (pss_cons (ps_set (i := 5) scLaw.nd rfl (Or.inl rfl) (pe_call GC hr2 rfl Ch.m Ch.F.kp Ch.b .nil pass0 (pa_cons (pv 2) (pa_cons (pe_lst (pa_cons (pe_tup pa_nil) (pa_cons (pe_tup (pa_cons pe_int pa_nil))
              (pa_cons (pe_tup (pa_cons (pe_op op_sub pe_int pe_int) (pa_cons pe_int pa_nil))) (pa_cons (pe_tup (pa_cons pe_int pa_nil)) pa_nil))))) pa_nil))))
          (pss_cons (ps_par (i := 6) (j := 7) (by rfl) scLaw.nd rfl rfl (by decide) rfl rfl (pa_cons (pe_tup (pa_cons pe_int (pa_cons (pe_dget (hu_of hr) (pv 4) pe_int (fun _ _ => rfl)) pa_nil))) (pa_cons (pe_tup (pa_cons pe_int (pa_cons (pe_dget (hu_of hr) (pv 4) pe_int (fun _ _ => rfl)) pa_nil))) pa_nil)) (by rfl))
          (pss_cons (ps_par (i := 8) (j := 9) (by rfl) scLaw.nd rfl rfl (by decide) rfl rfl (pa_cons (pe_lst (pa_cons pe_int (pa_cons pe_int (pa_cons pe_int pa_nil))))
              (pa_cons (pe_tup (pa_cons (pe_tup (pa_cons pe_int pa_nil)) (pa_cons (pe_call GC hr2 rfl Ch.m Ch.F.kp Ch.b .nil pass0 (pa_cons (pv 2) (pa_cons (pe_lst (pa_cons pe_int (pa_cons pe_int (pa_cons pe_int pa_nil)))) pa_nil))) pa_nil))) pa_nil)) (by rfl))
          (pss_cons (ps_set (i := 10) scLaw.nd rfl (Or.inl rfl) (pe_lst (pa_cons (pe_tup (pa_cons (pe_callV It.V hr4 rfl It.m It.kp (pk_cons pe_int (pk_cons (pv 6) pk_nil))) (pa_cons (pe_call It.G hr4 rfl It.m It.kp It.b .nil pass0 (pa_cons (pv 6) (pa_cons pe_int pa_nil))) pa_nil)))
              (pa_cons (pe_tup (pa_cons (pe_callV Ru.V hr3 rfl Ru.m Ru.kp (pk_cons pe_int (pk_cons (pv 5) pk_nil))) (pa_cons (pe_call Ru.G hr3 rfl Ru.m Ru.kp Ru.b .nil pass0 (pa_cons (pv 5) (pa_cons pe_int pa_nil))) pa_nil))) pa_nil))))
          (pss_cons (ps_expr (pe_bm PySem.F.plainAttrs_list PySem.F.slot_list_append PySem.F.type_list_append mt_append (pv 10) (pa_cons (pe_tup (pa_cons (pe_callV Cm.V hr2 rfl Cm.m Cm.kp (pk_cons (pv 6) (pk_cons (pv 7) (pk_cons (pv 5) pk_nil))))
              (pa_cons (pe_call Cm.G hr2 rfl Cm.m Cm.kp Cm.b .nil pass0 (pa_cons (pv 5) (pa_cons (pv 7) (pa_cons (pv 6) pa_nil)))) pa_nil))) pa_nil)))
          (pss_cons (ps_expr (pe_bm PySem.F.plainAttrs_list PySem.F.slot_list_append PySem.F.type_list_append mt_append (pv 10) (pa_cons (pe_tup (pa_cons (pe_callV Ro.V hr2 rfl Ro.m Ro.kp (pk_cons (pv 4) (pk_cons (pv 5) pk_nil)))
              (pa_cons (pe_call Ro.G hr2 rfl Ro.m Ro.kp Ro.b .nil pass0 (pa_cons (pv 5) (pa_cons (pv 4) pa_nil))) pa_nil))) pa_nil)))
          (pss_cons (ps_expr (pe_bm PySem.F.plainAttrs_list PySem.F.slot_list_append PySem.F.type_list_append mt_append (pv 10) (pa_cons (pe_tup (pa_cons (pe_callV Io.V hr4 rfl Io.m Io.kp (pk_cons (pv 8) pk_nil))
              (pa_cons (pe_call Io.G hr4 rfl Io.m Io.kp Io.b .nil pass0 (pa_cons (pv 8) pa_nil)) pa_nil))) pa_nil)))
          (pss_cons (ps_expr (pe_bm PySem.F.plainAttrs_list PySem.F.slot_list_append PySem.F.type_list_append mt_append (pv 10) (pa_cons (pe_tup (pa_cons (pe_callV Im.V hr3 rfl Im.m Im.kp (pk_cons (pv 9) (pk_cons (pv 8) pk_nil)))
              (pa_cons (pe_call Im.G hr3 rfl Im.m Im.kp Im.b .nil pass0 (pa_cons (pv 8) (pa_cons (pv 9) pa_nil))) pa_nil))) pa_nil)))
          (pss_cons (ps_expr (pe_bm PySem.F.plainAttrs_list PySem.F.slot_list_append PySem.F.type_list_append mt_append (pv 10) (pa_cons (pe_tup (pa_cons (pe_callV Do.V hr4 rfl Do.m Do.kp (pk_cons (pv 9) (pk_cons (pv 8) pk_nil)))
              (pa_cons (pe_call Do.G hr4 rfl Do.m Do.kp Do.b .nil pass0 (pa_cons (pv 8) (pa_cons (pv 9) pa_nil))) pa_nil))) pa_nil)))
          (pss_cons (ps_expr (pe_bm PySem.F.plainAttrs_list PySem.F.slot_list_append PySem.F.type_list_append mt_append (pv 10) (pa_cons (pe_tup (pa_cons (pe_callV VMs hr rfl mMs kMs (pk_cons (pv 8) pk_nil))
              (pa_cons (pe_callR0 GMs hr rfl mMs kMs (pa_cons (pv 8) pa_nil)) pa_nil))) pa_nil)))
          (pss_cons (ps_expr (pe_bm PySem.F.plainAttrs_list PySem.F.slot_list_append PySem.F.type_list_append mt_append (pv 10) (pa_cons (pe_tup (pa_cons
              (pe_lcG (own := [("pair", 11)]) (g := gName 11) (tt := tYes) hr0 scLaw.nd (pgn_callV GN hr1 rfl Ne.m Ne.F.kp bNe (pk_cons (pv 8) pk_nil)) (blkOk_by (N := NL) (sc := defScope sLaw) (by decide +kernel)) (fun _ _ _ _ _ => pg_name (i := 11) scLaw.nd rfl (Or.inl rfl)) (fun _ _ _ _ _ => pts_nil) (fun _ _ _ _ _ => pv 11))
              (pa_cons (pe_lcG (own := [("pair", 11)]) (g := gName 11) (tt := tYes) hr0 scLaw.nd (pgn_call GN hr1 rfl Ne.m Ne.F.kp Ne.b (pa_cons (pv 8) pa_nil)) (blkOk_by (N := NL) (sc := defScope sLaw) (by decide +kernel)) (fun _ _ _ _ _ => pg_name (i := 11) scLaw.nd rfl (Or.inl rfl)) (fun _ _ _ _ _ => pts_nil) (fun _ _ _ _ _ => pv 11)) pa_nil))) pa_nil)))
          (pss_one (ps_if (pt_not (pt_val (pe_callG (E := E0) GSm hg hr1 rfl Sm.m Sm.F.kp Sm.b (pa_cons (pv 10) pa_nil)))) (pss_one (ps_ret pe_bl)) pss_nil))))))))))))))))))
      (pss_one (ps_ret pe_bl)), ?_⟩
    have h16 : sizeLine = 16777216 := sizeLine_eq
    obtain ⟨J, hJ, hJ0, hJ4⟩ : ∃ J : Int, J = (if (if (((ns.map V.int).length : Nat) : Int) < 4 then (((ns.map V.int).length : Nat) : Int) else 4) > 1 then (if (((ns.map V.int).length : Nat) : Int) < 4 then (((ns.map V.int).length : Nat) : Int) else 4) else 1) ∧ 0 ≤ J ∧ J ≤ 4 := by
      refine ⟨_, rfl, ?_, ?_⟩
      · split <;> split <;> omega
      · split <;> split <;> omega
    refine ⟨_, rfl, a, _, rfl, .inl hS, _, _, rfl, _, _, rfl, J, by rw [hJ], by omega, by omega, ?_⟩
    refine for_range (lo := 0) (n := J.toNat) (fun i σ H' => (∃ v1 v2 v3 v4 v5 v6 v7 v8 v9 v10 v11 : Option V, σ = [some (.ref a), v1, v2, v3, v4, v5, v6, v7, v8, v9, v10, v11]) ∧ Same H H')
      ⟨⟨none, none, none, none, none, none, none, none, none, none, none, rfl⟩, Same.refl H⟩ ?_ ?_
    · rintro st σ H0 hst ⟨⟨v1, v2, v3, v4, v5, v6, v7, v8, v9, v10, v11, rfl⟩, s0⟩
      refine ⟨_, rfl, _, rfl, a, ns, _, rfl, Same.sq s0 hS, hlen, hbits, by omega, by omega, fun d Hd hd sd D => ?_⟩
      have hHd : H d = none := Same.free s0 hd
      have sd0 : Same H Hd := s0.trans sd
      refine ⟨4, rfl, by decide, by decide, ?_⟩
      refine for_range (lo := 0) (n := 4) (fun i σ H' => (∃ v3 v4 v5 v6 v7 v8 v9 v10 v11 : Option V, σ = [some (.ref a), some (.int (0 + (st : Int))), some (.ref d), v3, v4, v5, v6, v7, v8, v9, v10, v11]) ∧ Fs d Hd [] H')
        ⟨⟨_, _, _, _, _, _, _, _, _, rfl⟩, Fs.start D⟩ ?_ ?_
      · rintro tu σ H1 htu ⟨⟨v3, v4, v5, v6, v7, v8, v9, v10, v11, rfl⟩, F1⟩
        -- stock
        refine fun sk hsk => ?_
        have hskd : Hd sk = none := by
          cases e : Hd sk with
          | none => rfl
          | some u =>
            by_cases z : sk = d
            · subst z
              obtain ⟨_, _, q, _⟩ := F1.deck
              rw [hsk] at q; cases q
            · have := F1.1 sk u z e
              rw [hsk] at this; cases this
        have F2 := F1.new hsk (o := .dK []) (nk fun x y e => by cases e)
        refine ⟨by decide, fun t1 ht1 => ?_⟩
        have n1 : t1 ≠ sk := (ne_of_none F2.g0 ht1).symm
        have F3 := F2.new ht1 (o := .tup [.int 1, .int 2]) nt
        refine ⟨_, rfl, d, 3, rfl, F3.deck, by decide, by decide, fun r1 Ha r10 r11 Da Ba => ?_⟩
        have F4 := F3.step Da Ba
        refine ⟨by show 2 ≤ sizeLine; decide, fun t2 ht2 => ?_⟩
        have n2 : t2 ≠ sk := (ne_of_none F4.g1 ht2).symm
        have F5 := F4.new ht2 (o := .tup [.int r1, .int 2]) nt
        refine ⟨_, rfl, d, 4, rfl, F5.deck, by decide, by decide, fun r2 Hb r20 r21 Db Bb => ?_⟩
        have F6 := F5.step Db Bb
        refine ⟨by show 2 ≤ sizeLine; decide, fun t3 ht3 => ?_⟩
        have n3 : t3 ≠ sk := (ne_of_none F6.g2 ht3).symm
        have F7 := F6.new ht3 (o := .tup [.int 1, .int r2]) nt
        refine ⟨F7.g3, [(.inl 3, .ref t1), (.inl 7, .ref t2), (.inl 5, .ref t3)], rfl, by show 3 ≤ 15; decide, ?_⟩
        have F8 : Fs d Hd [(sk, .dK [(.inl 3, .ref t1), (.inl 7, .ref t2), (.inl 5, .ref t3)]), (t3, .tup [.int 1, .int r2]), (t2, .tup [.int r1, .int 2]), (t1, .tup [.int 1, .int 2])] (upd (upd Hb t3 (.tup [.int 1, .int r2])) sk (.dK [(.inl 3, .ref t1), (.inl 7, .ref t2), (.inl 5, .ref t3)])) := by
          have G : Fs d Hd [(t3, .tup [.int 1, .int r2]), (t2, .tup [.int r1, .int 2]), (t1, .tup [.int 1, .int 2])] (upd Hb t3 (.tup [.int 1, .int r2])) := ⟨F7.1, F7.2.1, fun q hq => F7.2.2 q (by
            rcases List.mem_cons.mp hq with e | hq
            · rw [e]; exact List.mem_cons_self
            rcases List.mem_cons.mp hq with e | hq
            · rw [e]; exact List.mem_cons_of_mem _ List.mem_cons_self
            · rw [List.mem_singleton.mp hq]; exact List.mem_cons_of_mem _ (List.mem_cons_of_mem _ List.mem_cons_self))⟩
          exact (G.put hskd (F7.2.2 _ (List.mem_cons_of_mem _ (List.mem_cons_of_mem _ (List.mem_cons_of_mem _ List.mem_cons_self)))).1 (fun q hq => by
            rcases List.mem_cons.mp hq with e | hq
            · rw [e]; exact n3
            rcases List.mem_cons.mp hq with e | hq
            · rw [e]; exact n2
            · rw [List.mem_singleton.mp hq]; exact n1)).add upd_same (nk fun x y e => by cases e)
        show gName 4 (.ref sk) _ (upd (upd Hb t3 (.tup [.int 1, .int r2])) sk (.dK [(.inl 3, .ref t1), (.inl 7, .ref t2), (.inl 5, .ref t3)])) _
        generalize (upd (upd Hb t3 (.tup [.int 1, .int r2])) sk (.dK [(.inl 3, .ref t1), (.inl 7, .ref t2), (.inl 5, .ref t3)]) : Hp) = H8 at F8 ⊢
        -- way
        refine ⟨_, rfl, by decide, fun w0 hw0 => ⟨by decide, fun w1 hw1 => ⟨_, _, rfl, rfl, by decide, fun w2 hw2 => ⟨by decide, fun w3 hw3 => ⟨by show 4 ≤ sizeLine; decide, fun wl hwl => ?_⟩⟩⟩⟩⟩
        have G1 := F8.new hw0 (o := .tup []) nt
        have G2 := G1.new hw1 (o := .tup [.int 1]) nt
        have G3 := G2.new hw2 (o := .tup [.int (0 - 2), .int 1]) nt
        have G4 := G3.new hw3 (o := .tup [.int 2]) nt
        have G5 := G4.new hwl (o := .lst [.ref w0, .ref w1, .ref w2, .ref w3]) nl
        refine ⟨d, wl, _, rfl, G5.deck, SqL.of G5.g0, (fun z => by cases z), by show 4 < 1000000; decide, fun v Hc hv Dc Bc => ?_⟩
        have G6 := G5.step Dc Bc
        obtain ⟨wy, cs, rfl, hwy, hcs⟩ : ∃ (wy : Addr) (cs : List Int), v = .ref wy ∧ (wy, HO.tup (cs.map V.int)) ∈ [(wl, HO.lst [.ref w0, .ref w1, .ref w2, .ref w3]), (w3, .tup [.int 2]), (w2, .tup [.int (0 - 2), .int 1]), (w1, .tup [.int 1]), (w0, .tup []), (sk, .dK [(.inl 3, .ref t1), (.inl 7, .ref t2), (.inl 5, .ref t3)]), (t3, .tup [.int 1, .int r2]), (t2, .tup [.int r1, .int 2]), (t1, .tup [.int 1, .int 2])] ∧ (cs.length ≤ 4 ∧ ∀ c ∈ cs, c ≠ 0 ∧ c.natAbs ≤ 2) := by
          rcases List.mem_cons.mp hv with e | hv
          · exact ⟨w0, [], e, .tail _ (.tail _ (.tail _ (.tail _ (.head _)))), by decide⟩
          rcases List.mem_cons.mp hv with e | hv
          · exact ⟨w1, [1], e, .tail _ (.tail _ (.tail _ (.head _))), by decide⟩
          rcases List.mem_cons.mp hv with e | hv
          · exact ⟨w2, [0 - 2, 1], e, .tail _ (.tail _ (.head _)), by decide⟩
          · exact ⟨w3, [2], List.mem_singleton.mp hv, .tail _ (.head _), by decide⟩
        have G7 : Fs d Hd [(wy, .tup (cs.map V.int)), (sk, .dK [(.inl 3, .ref t1), (.inl 7, .ref t2), (.inl 5, .ref t3)]), (t3, .tup [.int 1, .int r2]), (t2, .tup [.int r1, .int 2]), (t1, .tup [.int 1, .int 2])] Hc := ⟨G6.1, G6.2.1, fun q hq => by
          rcases List.mem_cons.mp hq with e | hq
          · rw [e]; exact G6.2.2 _ hwy
          · exact G6.2.2 q (.tail _ (.tail _ (.tail _ (.tail _ (.tail _ hq)))))⟩
        clear G6 G5 G4 G3 G2 G1 hwy hv
        -- one, other
        have K3 : valV ([(.inl 3, .ref t1), (.inl 7, .ref t2), (.inl 5, .ref t3)] : List (Key × V)) (.inl 3) = some (.ref t1) := rfl
        have K5 : valV ([(.inl 3, .ref t1), (.inl 7, .ref t2), (.inl 5, .ref t3)] : List (Key × V)) (.inl 5) = some (.ref t3) := rfl
        have dg : ∀ {H : Hp} {k : Int} {u : V}, H sk = some (.dK [(.inl 3, .ref t1), (.inl 7, .ref t2), (.inl 5, .ref t3)]) → valV ([(.inl 3, .ref t1), (.inl 7, .ref t2), (.inl 5, .ref t3)] : List (Key × V)) (.inl k) = some u → DGet H sk (.int k) (some u) := fun {H k u} h e => by
          have := DGet.k (k := .inl k) h
          rw [e] at this
          exact this
        refine ⟨_, rfl, sk, _, rfl, dg G7.g1 K3, by show 2 ≤ sizeLine; decide, fun o1 ho1 => ?_⟩
        have G8 := G7.new ho1 (o := .tup [.int 3, .ref t1]) nt
        refine ⟨_, rfl, sk, _, rfl, dg G8.g2 K5, by show 2 ≤ sizeLine; decide, fun o2 ho2 => ⟨_, _, rfl, ?_⟩⟩
        have G9 := G8.new ho2 (o := .tup [.int 5, .ref t3]) nt
        -- line, step
        refine ⟨by decide, fun ln hln => ⟨by decide, fun s7 hs7 => ⟨_, rfl, by decide, fun cl hcl => ?_⟩⟩⟩
        have G10 := G9.new hln (o := .lst ([3, 7, 5].map V.int)) nl
        have G11 := G10.new hs7 (o := .tup ([7].map V.int)) nt
        have G12 := G11.skip hcl (o := .lst [.int 0, .int 3, .int 5])
        refine ⟨d, cl, [.int 0, .int 3, .int 5], rfl, G12.deck, SqL.of upd_same, (fun z => by cases z), by decide, fun v Hg hv Dg Bg => ?_⟩
        have G13 := G12.step Dg Bg
        obtain ⟨b, rfl, hb⟩ : ∃ b : Int, v = .int b ∧ (b = 0 ∨ b = 3 ∨ b = 5) := by
          rcases List.mem_cons.mp hv with e | hv
          · exact ⟨0, e, .inl rfl⟩
          rcases List.mem_cons.mp hv with e | hv
          · exact ⟨3, e, .inr (.inl rfl)⟩
          · exact ⟨5, List.mem_singleton.mp hv, .inr (.inr rfl)⟩
        refine ⟨by show 2 ≤ sizeLine; decide, fun sp hsp => ⟨_, _, rfl, ?_⟩⟩
        have G14 := G13.new hsp (o := .tup [.ref s7, .int b]) nt
        generalize (upd Hg sp (.tup [.ref s7, .int b]) : Hp) = Hz at G14 ⊢
        have zsp : Hz sp = some (.tup [.ref s7, .int b]) := G14.at 0 rfl
        have zs7 : Hz s7 = some (.tup ([7].map V.int)) := G14.at 1 rfl
        have zln : Hz ln = some (.lst ([3, 7, 5].map V.int)) := G14.at 2 rfl
        have zo2 : Hz o2 = some (.tup [.int 5, .ref t3]) := G14.at 3 rfl
        have zo1 : Hz o1 = some (.tup [.int 3, .ref t1]) := G14.at 4 rfl
        have zwy : Hz wy = some (.tup (cs.map V.int)) := G14.at 5 rfl
        have zsk : Hz sk = some (.dK [(.inl 3, .ref t1), (.inl 7, .ref t2), (.inl 5, .ref t3)]) := G14.at 6 rfl
        have zt3 : Hz t3 = some (.tup ([1, r2].map V.int)) := G14.at 7 rfl
        have zt2 : Hz t2 = some (.tup ([r1, 2].map V.int)) := G14.at 8 rfl
        have zt1 : Hz t1 = some (.tup ([1, 2].map V.int)) := G14.at 9 rfl
        have FZ : Fs d Hd [] Hz := ⟨G14.1, G14.2.1, fun q hq => by cases hq⟩
        clear G7 G8 G9 G10 G11 G12 G13 G14 F8 F7 F6 F5 F4 F3 F2
        have itD : DV K Hz (.ref o1) (.tuple [.int 3, .tuple ([1, 2].map .int)]) := .tup (SqT.of zo1) (.cons (.int _) (.cons (dvT zt1) .nil))
        have wyD : DV K Hz (.ref wy) (.tuple (cs.map .int)) := dvT zwy
        have mvD : DV K Hz (.ref sp) (.tuple [.tuple ([7].map .int), .int b]) := .tup (SqT.of zsp) (.cons (dvT zs7) (.cons (.int _) .nil))
        have mvO : MoveOk [3, 7, 5] [7] b := by rcases hb with rfl | rfl | rfl <;> exact ⟨by decide, by decide, by decide, by decide⟩
        have dmO : (∀ z ∈ doMove [3, 7, 5] [7] b, z.natAbs < 2 ^ 300) ∧ (doMove [3, 7, 5] [7] b).length ≤ 1000 := by rcases hb with rfl | rfl | rfl <;> exact ⟨by decide +kernel, by decide +kernel⟩
        -- pairs
        refine ⟨_, rfl, .ref o1, _, 2, rfl, itD, fun Ha sa => ⟨_, rfl, .ref o1, _, 2, rfl, itD.same sa, fun Hb sb => ⟨by show 2 ≤ sizeLine; decide, fun q1 hq1 => ?_⟩⟩⟩
        have z1 := (sa.trans sb).trans (Same.new (o := .tup [.bl (isItemD 2 (.tuple [.int 3, .tuple ([1, 2].map .int)])), .bl (isItemD 2 (.tuple [.int 3, .tuple ([1, 2].map .int)]))]) hq1)
        refine ⟨_, rfl, .ref wy, _, 2, rfl, wyD.same z1, fun Hc sc => ⟨_, rfl, .ref wy, _, 2, rfl, wyD.same (z1.trans sc), fun Hd' sd' => ⟨by show 2 ≤ sizeLine; decide, fun q2 hq2 => ⟨by show 2 ≤ sizeLine; decide, fun pr hpr => ?_⟩⟩⟩⟩
        have z2 := Same.new (o := .tup [.bl (isRuleD 2 (.tuple (cs.map .int))), .bl (isRuleD 2 (.tuple (cs.map .int)))]) hq2
        have z3 := Same.new (o := .lst [.ref q1, .ref q2]) hpr
        have zz : Same Hz (upd Hd' q2 (.tup [.bl (isRuleD 2 (.tuple (cs.map .int))), .bl (isRuleD 2 (.tuple (cs.map .int)))])) := ((z1.trans sc).trans sd').trans z2
        have zpr : Hz pr = none := Same.free zz hpr
        have R2 : PairsIn K (upd (upd Hd' q2 (.tup [.bl (isRuleD 2 (.tuple (cs.map .int))), .bl (isRuleD 2 (.tuple (cs.map .int)))])) pr (.lst [.ref q1, .ref q2])) pr 2 := by
          have g1 := ((sc.trans sd').trans z2) _ _ (upd_same (H := Hb) (a := q1) (o := .tup [.bl (isItemD 2 (.tuple [.int 3, .tuple ([1, 2].map .int)])), .bl (isItemD 2 (.tuple [.int 3, .tuple ([1, 2].map .int)]))]))
          have g2 := upd_same (H := Hd') (a := q2) (o := .tup [.bl (isRuleD 2 (.tuple (cs.map .int))), .bl (isRuleD 2 (.tuple (cs.map .int)))])
          refine ⟨_, upd_same, rfl, fun x hx => ?_⟩
          rw [er_upd]
          rcases List.mem_cons.mp hx with e | hx
          · rw [e]
            exact ⟨q1, _, _, .bool (isItemD 2 (.tuple [.int 3, .tuple ([1, 2].map .int)])), rfl, SqT.of (er_at g1 (ne_of_none g1 hpr)), .bl _, .bl _, rok2_bl _⟩
          · rw [List.mem_singleton.mp hx]
            exact ⟨q2, _, _, .bool (isRuleD 2 (.tuple (cs.map .int))), rfl, SqT.of (er_at g2 (ne_of_none g2 hpr)), .bl _, .bl _, rok2_bl _⟩
        have Z2 : Same Hz (upd (upd Hd' q2 (.tup [.bl (isRuleD 2 (.tuple (cs.map .int))), .bl (isRuleD 2 (.tuple (cs.map .int)))])) pr (.lst [.ref q1, .ref q2])) := zz.trans z3
        generalize (upd (upd Hd' q2 (.tup [.bl (isRuleD 2 (.tuple (cs.map .int))), .bl (isRuleD 2 (.tuple (cs.map .int)))])) pr (.lst [.ref q1, .ref q2]) : Hp) = H2 at R2 Z2 ⊢
        clear z1 z2 z3 zz hpr hq2 sd' sc hq1 sb sa
        -- compare_items
        obtain ⟨xs2, x2, _, _⟩ := id R2
        refine ⟨_, rfl, .inl ⟨rfl, _, SqL.of x2⟩, _, rfl, _, rfl, _, rfl, wy, o2, t3, o1, t1, cs, [1, r2], [1, 2], 5, 3, rfl, SqT.of (Z2 _ _ zwy), SqT.of (Z2 _ _ zo2), SqT.of (Z2 _ _ zt3), SqT.of (Z2 _ _ zo1), SqT.of (Z2 _ _ zt1), hcs, hcs, fun Ha sa => ?_⟩
        have Za := Z2.trans sa
        refine ⟨_, rfl, _, rfl, _, rfl, wy, o2, t3, o1, t1, cs, [1, r2], [1, 2], 5, 3, rfl, SqT.of (Za _ _ zwy), SqT.of (Za _ _ zo2), SqT.of (Za _ _ zt3), SqT.of (Za _ _ zo1), SqT.of (Za _ _ zt1), hcs, hcs, fun Hb sb => ?_⟩
        refine ⟨by show 2 ≤ sizeLine; decide, fun T hT => ?_⟩
        obtain ⟨xsn, H3, eH, q1, q2, Z3, R3⟩ := app_read zpr (Za.trans sb) ((R2.same sa).same sb) hT (.int _) (.int _) (rok2_int (cmpI_b _ _)) (by decide)
        refine ⟨pr, xsn, _, rfl, rfl, q1, q2, ?_⟩
        rw [← eH]
        clear eH q1 q2
        clear R2 Z2 x2 sa sb Za hT
        -- rule_order
        obtain ⟨xs3, x3, _, _⟩ := id R3
        have stk : ∀ {H : Hp}, Same Hz H → StockK K H [(.inl 3, .ref t1), (.inl 7, .ref t2), (.inl 5, .ref t3)] [(3, [1, 2]), (7, [r1, 2]), (5, [1, r2])] := fun s => ⟨rfl, fun i kv e h1 h2 => by
          match i, h1, h2 with
          | 0, h1, h2 =>
            obtain rfl := Option.some.inj h1; obtain rfl := Option.some.inj h2
            exact ⟨rfl, t1, rfl, SqT.of (s _ _ zt1)⟩
          | 1, h1, h2 =>
            obtain rfl := Option.some.inj h1; obtain rfl := Option.some.inj h2
            exact ⟨rfl, t2, rfl, SqT.of (s _ _ zt2)⟩
          | 2, h1, h2 =>
            obtain rfl := Option.some.inj h1; obtain rfl := Option.some.inj h2
            exact ⟨rfl, t3, rfl, SqT.of (s _ _ zt3)⟩
          | i + 3, h1, h2 => simp at h1⟩
        have stc : ∀ e ∈ ([(3, [1, 2]), (7, [r1, 2]), (5, [1, r2])] : List (Int × List Int)), ColsOk cs e.2.length := fun e he => by
          rcases List.mem_cons.mp he with q | he
          · rw [q]; exact hcs
          rcases List.mem_cons.mp he with q | he
          · rw [q]; exact hcs
          · rw [List.mem_singleton.mp he]; exact hcs
        have orO : ∀ z ∈ orderI cs [(3, [1, 2]), (7, [r1, 2]), (5, [1, r2])], z.natAbs < 2 ^ 300 := fun z hz => by
          obtain ⟨e, he, rfl⟩ := orderI_mem hz
          rcases List.mem_cons.mp he with q | he
          · rw [q]; show (3 : Int).natAbs < 2 ^ 300; decide +kernel
          rcases List.mem_cons.mp he with q | he
          · rw [q]; show (7 : Int).natAbs < 2 ^ 300; decide +kernel
          · rw [List.mem_singleton.mp he]; show (5 : Int).natAbs < 2 ^ 300; decide +kernel
        refine ⟨_, rfl, .inl ⟨rfl, _, SqL.of x3⟩, _, rfl, _, rfl, wy, sk, cs, _, _, rfl, SqT.of (Z3 _ _ zwy), Z3 _ _ zsk, stk Z3, stc, by show 3 ≤ 1000; decide, fun p1 Ha sa hp1 hP1 => ?_⟩
        have Za := Z3.trans sa
        refine ⟨_, rfl, _, rfl, wy, sk, cs, _, _, rfl, SqT.of (Za _ _ zwy), Za _ _ zsk, stk Za, stc, by show 3 ≤ 1000; decide, fun p2 Hb sb hp2 hP2 => ?_⟩
        refine ⟨by show 2 ≤ sizeLine; decide, fun T hT => ?_⟩
        obtain ⟨xsn, H4, eH, q1, q2, Z4, R4⟩ := app_read zpr (Za.trans sb) ((R3.same sa).same sb) hT (dvL (er_at (sb _ _ hP1) (R3.ne hp1))) (dvL (er_at hP2 ((R3.same sa).ne hp2))) (rok2_ints orO (by rw [orderI_len]; show 3 ≤ 1000; decide)) (by decide)
        refine ⟨pr, xsn, _, rfl, rfl, q1, q2, ?_⟩
        rw [← eH]
        clear eH q1 q2
        clear R3 Z3 x3 sa sb Za hT hp1 hp2 hP1 hP2
        -- is_order
        obtain ⟨xs4, x4, _, _⟩ := id R4
        refine ⟨_, rfl, .inl ⟨rfl, _, SqL.of x4⟩, _, rfl, .ref ln, _, rfl, dvL (Z4 _ _ zln), fun ds e => (by cases e; exact fewD.of (by decide)), fun Ha sa => ?_⟩
        refine ⟨_, rfl, .ref ln, _, rfl, dvL ((Z4.trans sa) _ _ zln), fun ds e => (by cases e; exact fewD.of (by decide)), fun Hb sb => ?_⟩
        refine ⟨by show 2 ≤ sizeLine; decide, fun T hT => ?_⟩
        obtain ⟨xsn, H5, eH, q1, q2, Z5, R5⟩ := app_read zpr ((Z4.trans sa).trans sb) ((R4.same sa).same sb) hT (.bl _) (.bl _) (rok2_bl _) (by decide)
        refine ⟨pr, xsn, _, rfl, rfl, q1, q2, ?_⟩
        rw [← eH]
        clear eH q1 q2
        clear R4 Z4 x4 sa sb hT
        -- is_move
        obtain ⟨xs5, x5, _, _⟩ := id R5
        refine ⟨_, rfl, .inl ⟨rfl, _, SqL.of x5⟩, _, rfl, _, rfl, ln, [3, 7, 5], .ref sp, _, rfl, SqL.of (Z5 _ _ zln), by decide, mvD.same Z5, fun ds b e => (by cases e; exact fewD.of (by decide)), fun Ha sa => ?_⟩
        refine ⟨_, rfl, _, rfl, ln, [3, 7, 5], .ref sp, _, rfl, SqL.of ((Z5.trans sa) _ _ zln), by decide, mvD.same (Z5.trans sa), fun ds b e => (by cases e; exact fewD.of (by decide)), fun Hb sb => ?_⟩
        refine ⟨by show 2 ≤ sizeLine; decide, fun T hT => ?_⟩
        obtain ⟨xsn, H6, eH, q1, q2, Z6, R6⟩ := app_read zpr ((Z5.trans sa).trans sb) ((R5.same sa).same sb) hT (.bl _) (.bl _) (rok2_bl _) (by decide)
        refine ⟨pr, xsn, _, rfl, rfl, q1, q2, ?_⟩
        rw [← eH]
        clear eH q1 q2
        clear R5 Z5 x5 sa sb hT
        -- do_move
        obtain ⟨xs6, x6, _, _⟩ := id R6
        refine ⟨_, rfl, .inl ⟨rfl, _, SqL.of x6⟩, _, rfl, _, rfl, ln, sp, s7, [3, 7, 5], [7], b, rfl, SqL.of (Z6 _ _ zln), SqT.of (Z6 _ _ zsp), SqT.of (Z6 _ _ zs7), by decide, by decide, mvO, fun p1 Ha hp1 sa hP1 => ?_⟩
        refine ⟨_, rfl, _, rfl, ln, sp, s7, [3, 7, 5], [7], b, rfl, SqL.of ((Z6.trans sa) _ _ zln), SqT.of ((Z6.trans sa) _ _ zsp), SqT.of ((Z6.trans sa) _ _ zs7), by decide, by decide, mvO, fun p2 Hb hp2 sb hP2 => ?_⟩
        refine ⟨by show 2 ≤ sizeLine; decide, fun T hT => ?_⟩
        obtain ⟨xsn, H7, eH, q1, q2, Z7, R7⟩ := app_read zpr ((Z6.trans sa).trans sb) ((R6.same sa).same sb) hT (dvL (er_at (sb _ _ hP1) (R6.ne hp1))) (dvL (er_at hP2 ((R6.same sa).ne hp2))) (rok2_ints dmO.1 dmO.2) (by decide)
        refine ⟨pr, xsn, _, rfl, rfl, q1, q2, ?_⟩
        rw [← eH]
        clear eH q1 q2
        clear R6 Z6 x6 sa sb hT hp1 hp2 hP1 hP2
        -- do_moves
        obtain ⟨xs7, x7, _, _⟩ := id R7
        refine ⟨_, rfl, .inl ⟨rfl, _, SqL.of x7⟩, _, rfl, ln, [3, 7, 5], rfl, SqL.of (Z7 _ _ zln), fun p1 Ha hp1 sa hP1 => ?_⟩
        refine ⟨_, rfl, ln, [3, 7, 5], rfl, SqL.of ((Z7.trans sa) _ _ zln), fun p2 Hb hp2 sb hP2 => ?_⟩
        refine ⟨by show 2 ≤ sizeLine; decide, fun T hT => ?_⟩
        obtain ⟨xsn, H8, eH, q1, q2, Z8, R8⟩ := app_read zpr ((Z7.trans sa).trans sb) ((R7.same sa).same sb) hT (dvL (er_at (sb _ _ hP1) (R7.ne hp1))) (dvL (er_at hP2 ((R7.same sa).ne hp2))) (rok2_ints (by decide +kernel) (by decide)) (by decide)
        refine ⟨pr, xsn, _, rfl, rfl, q1, q2, ?_⟩
        rw [← eH]
        clear eH q1 q2
        clear R7 Z7 x7 sa sb hT hp1 hp2 hP1 hP2
        -- neighbours
        obtain ⟨xs8, x8, _, _⟩ := id R8
        refine ⟨_, rfl, .inl ⟨rfl, _, SqL.of x8⟩, _, rfl, _, _, _, ⟨ln, [3, 7, 5], rfl, rfl, rfl, rfl⟩, fun D1 hD1 => ?_⟩
        have n1 := R8.ne hD1
        refine ⟨fun i H' => Same H8 H' ∧ NbAt (er H' pr) D1 [3, 7, 5] i ∧ D1 ≠ pr, ⟨Same.new hD1, ⟨[], er_at upd_same n1, rfl, fun j p e => (by simp at e)⟩, n1⟩, fun i H' _ q _ => SqL.of (q.1 _ _ (Z8 _ _ zln)), ?_, ?_⟩
        · rintro i H' y Nw hi ⟨sa, nb, nD⟩ ⟨T, rfl, rfl⟩ hN
          have hT : H' T = none := hN _ (List.mem_singleton.mpr rfl)
          have sT : Same H' (lay [(T, .tup [.int (befor [3, 7, 5] i), .int (here [3, 7, 5] i)])] H') := Same.new hT
          have hT9 : (lay [(T, .tup [.int (befor [3, 7, 5] i), .int (here [3, 7, 5] i)])] H') T = some (.tup [.int (befor [3, 7, 5] i), .int (here [3, 7, 5] i)]) := upd_same
          have nT : T ≠ pr := (R8.same sa).ne hT
          generalize (lay [(T, .tup [.int (befor [3, 7, 5] i), .int (here [3, 7, 5] i)])] H' : Hp) = H9 at sT hT9 ⊢
          obtain ⟨acc, e1, e2, nb2⟩ := (nb.same (er_same sT)).push (er_at hT9 nT)
          have hi3 : i < 3 := hi
          refine ⟨rfl, _, rfl, acc, er_le _ _ e1, by rw [e2, h16]; omega, fun b u e => ?_, ?_, nD⟩
          · rw [upd_ne (ne_of_none e hD1)]
            exact sT _ _ (sa _ _ e)
          · rw [er_upd_ne nD]
            exact nb2
        rintro Ha ⟨sa, nbA, nD1⟩
        have Ra := R8.same sa
        refine ⟨_, rfl, _, _, _, ⟨ln, [3, 7, 5], rfl, rfl, rfl, rfl⟩, fun D2 hD2 => ?_⟩
        have n2 := Ra.ne hD2
        refine ⟨fun i H' => Same Ha H' ∧ NbAt (er H' pr) D2 [3, 7, 5] i ∧ D2 ≠ pr, ⟨Same.new hD2, ⟨[], er_at upd_same n2, rfl, fun j p e => (by simp at e)⟩, n2⟩, fun i H' _ q _ => SqL.of (q.1 _ _ ((Z8.trans sa) _ _ zln)), ?_, ?_⟩
        · rintro i H' y Nw hi ⟨sb, nb, nD⟩ ⟨T, rfl, rfl⟩ hN
          have hT : H' T = none := hN _ (List.mem_singleton.mpr rfl)
          have sT : Same H' (lay [(T, .tup [.int (befor [3, 7, 5] i), .int (here [3, 7, 5] i)])] H') := Same.new hT
          have hT9 : (lay [(T, .tup [.int (befor [3, 7, 5] i), .int (here [3, 7, 5] i)])] H') T = some (.tup [.int (befor [3, 7, 5] i), .int (here [3, 7, 5] i)]) := upd_same
          have nT : T ≠ pr := (Ra.same sb).ne hT
          generalize (lay [(T, .tup [.int (befor [3, 7, 5] i), .int (here [3, 7, 5] i)])] H' : Hp) = H9 at sT hT9 ⊢
          obtain ⟨acc, e1, e2, nb2⟩ := (nb.same (er_same sT)).push (er_at hT9 nT)
          have hi3 : i < 3 := hi
          refine ⟨rfl, _, rfl, acc, er_le _ _ e1, by rw [e2, h16]; omega, fun b u e => ?_, ?_, nD⟩
          · rw [upd_ne (ne_of_none e hD2)]
            exact sT _ _ (sb _ _ e)
          · rw [er_upd_ne nD]
            exact nb2
        rintro Hb ⟨sb, nbB, nD2⟩
        refine ⟨by show 2 ≤ sizeLine; decide, fun T hT => ?_⟩
        have nbO : Rok2 (.list (nbD [3, 7, 5] 3)) := by
          refine ⟨?_, ?_, ?_⟩ <;> decide +kernel
        obtain ⟨xsn, H9, eH, q1, q2, Z9, R9⟩ := app_read zpr ((Z8.trans sa).trans sb) (Ra.same sb) hT ((nbA.same (er_same sb)).dv) nbB.dv nbO (by decide)
        refine ⟨pr, xsn, _, rfl, rfl, q1, q2, ?_⟩
        rw [← eH]
        clear eH q1 q2
        clear R8 Z8 x8 sa sb hT
        -- _law_same
        obtain ⟨xs9, x9, l9, a9⟩ := id R9
        refine ⟨_, rfl, pr, xs9, rfl, SqL.of x9, fun x hx => (a9 x hx).same er_le, by omega, fun H10 s10 => ?_⟩
        refine ⟨_, rfl, iteF ?_⟩
        exact ⟨⟨_, _, _, _, _, _, _, _, _, rfl⟩, FZ.same (Z9.trans s10)⟩
      · rintro σ H1 ⟨⟨v3, v4, v5, v6, v7, v8, v9, v10, v11, rfl⟩, F1⟩
        exact ⟨⟨_, _, _, _, _, _, _, _, _, _, _, rfl⟩, F1.old hHd sd0⟩
    · rintro σ H1 ⟨⟨v1, v2, v3, v4, v5, v6, v7, v8, v9, v10, v11, rfl⟩, s1⟩
      exact k H1
end
/-! ### what the top has written, the head -/
theorem all_mk {l : PySem.W.OpenLaw} {w : World} {K : PySem.W.Frag} {h : Heap} {mg : Str → Option Value} {fa : Addr} (X : K.In h) (G : h.Ns mainGlobals mg) (hfa : mg "law" = some (.ref fa))
    {f1 : Addr} {od1 an1 : Option Addr} {sl1 : Array (Option Value)} {oc1 kV1 dc1 pm1 cd1 ct1 : Value}
    {f2 : Addr} {od2 an2 : Option Addr} {sl2 : Array (Option Value)} {oc2 kV2 dc2 pm2 cd2 ct2 : Value}
    {f3 : Addr} {od3 an3 : Option Addr} {sl3 : Array (Option Value)} {oc3 kV3 dc3 pm3 cd3 ct3 : Value}
    {f4 : Addr} {od4 an4 : Option Addr} {sl4 : Array (Option Value)} {oc4 kV4 dc4 pm4 cd4 ct4 : Value}
    {f5 : Addr} {od5 an5 : Option Addr} {sl5 : Array (Option Value)} {oc5 kV5 dc5 pm5 cd5 ct5 : Value}
    {f6 : Addr} {od6 an6 : Option Addr} {sl6 : Array (Option Value)} {oc6 kV6 dc6 pm6 cd6 ct6 : Value}
    {f7 : Addr} {od7 an7 : Option Addr} {sl7 : Array (Option Value)} {oc7 kV7 dc7 pm7 cd7 ct7 : Value}
    {f8 : Addr} {od8 an8 : Option Addr} {sl8 : Array (Option Value)} {oc8 kV8 dc8 pm8 cd8 ct8 : Value}
    {f9 : Addr} {od9 an9 : Option Addr} {sl9 : Array (Option Value)} {oc9 kV9 dc9 pm9 cd9 ct9 : Value}
    {f10 : Addr} {od10 an10 : Option Addr} {sl10 : Array (Option Value)} {oc10 kV10 dc10 pm10 cd10 ct10 : Value}
    {f11 : Addr} {od11 an11 : Option Addr} {sl11 : Array (Option Value)} {oc11 kV11 dc11 pm11 cd11 ct11 : Value}
    {f12 : Addr} {od12 an12 : Option Addr} {sl12 : Array (Option Value)} {oc12 kV12 dc12 pm12 cd12 ct12 : Value}
    {f13 : Addr} {od13 an13 : Option Addr} {sl13 : Array (Option Value)} {oc13 kV13 dc13 pm13 cd13 ct13 : Value}
    {f14 : Addr} {od14 an14 : Option Addr} {sl14 : Array (Option Value)} {oc14 kV14 dc14 pm14 cd14 ct14 : Value}
    {f15 : Addr} {od15 an15 : Option Addr} {sl15 : Array (Option Value)} {oc15 kV15 dc15 pm15 cd15 ct15 : Value}
    {f16 : Addr} {od16 an16 : Option Addr} {sl16 : Array (Option Value)} {oc16 kV16 dc16 pm16 cd16 ct16 : Value}
    {f17 : Addr} {od17 an17 : Option Addr} {sl17 : Array (Option Value)} {oc17 kV17 dc17 pm17 cd17 ct17 : Value}
    {f18 : Addr} {od18 an18 : Option Addr} {sl18 : Array (Option Value)} {oc18 kV18 dc18 pm18 cd18 ct18 : Value}
    {f19 : Addr} {od19 an19 : Option Addr} {sl19 : Array (Option Value)} {oc19 kV19 dc19 pm19 cd19 ct19 : Value}
    {f20 : Addr} {od20 an20 : Option Addr} {sl20 : Array (Option Value)} {oc20 kV20 dc20 pm20 cd20 ct20 : Value}
    {f21 : Addr} {od21 an21 : Option Addr} {sl21 : Array (Option Value)} {oc21 kV21 dc21 pm21 cd21 ct21 : Value}
    {gt0 : Tok}
    {gt1 : Tok}
    {gt2 : Tok}
    (a1 : PySem.W.nsIn K mainGlobals "is_whole" = some (some (.ref f1))) (l1 : K.lookup f1 = some ⟨oc1, od1, .func (PySem.W.fnOf "is_whole" "is_whole" (defArgs sWhole) (defBody sWhole) (defScope sWhole) .none kV1 dc1 pm1 an1 cd1 ct1), sl1⟩) (c1 : PySem.W.codeIn K cd1 "is_whole" = true) (k1 : PySem.W.keepIn K (.ref f1) = true)
    (a2 : PySem.W.nsIn K mainGlobals "is_within" = some (some (.ref f2))) (l2 : K.lookup f2 = some ⟨oc2, od2, .func (PySem.W.fnOf "is_within" "is_within" (defArgs sWithin) (defBody sWithin) (defScope sWithin) .none kV2 dc2 pm2 an2 cd2 ct2), sl2⟩) (c2 : PySem.W.codeIn K cd2 "is_within" = true) (k2 : PySem.W.keepIn K (.ref f2) = true)
    (a3 : PySem.W.nsIn K mainGlobals "all_different" = some (some (.ref f3))) (l3 : K.lookup f3 = some ⟨oc3, od3, .func (PySem.W.fnOf "all_different" "all_different" (defArgs sDiff) (defBody sDiff) (defScope sDiff) .none kV3 dc3 pm3 an3 cd3 ct3), sl3⟩) (c3 : PySem.W.codeIn K cd3 "all_different" = true) (k3 : PySem.W.keepIn K (.ref f3) = true)
    (a4 : PySem.W.nsIn K mainGlobals "is_id" = some (some (.ref f4))) (l4 : K.lookup f4 = some ⟨oc4, od4, .func (PySem.W.fnOf "is_id" "is_id" (defArgs sIsId) (defBody sIsId) (defScope sIsId) .none kV4 dc4 pm4 an4 cd4 ct4), sl4⟩) (c4 : PySem.W.codeIn K cd4 "is_id" = true) (k4 : PySem.W.keepIn K (.ref f4) = true)
    (a5 : PySem.W.nsIn K mainGlobals "are_fields" = some (some (.ref f5))) (l5 : K.lookup f5 = some ⟨oc5, od5, .func (PySem.W.fnOf "are_fields" "are_fields" (defArgs sAreFields) (defBody sAreFields) (defScope sAreFields) .none kV5 dc5 pm5 an5 cd5 ct5), sl5⟩) (c5 : PySem.W.codeIn K cd5 "are_fields" = true) (k5 : PySem.W.keepIn K (.ref f5) = true)
    (a6 : PySem.W.nsIn K mainGlobals "is_item" = some (some (.ref f6))) (l6 : K.lookup f6 = some ⟨oc6, od6, .func (PySem.W.fnOf "is_item" "is_item" (defArgs sIsItem) (defBody sIsItem) (defScope sIsItem) .none kV6 dc6 pm6 an6 cd6 ct6), sl6⟩) (c6 : PySem.W.codeIn K cd6 "is_item" = true) (k6 : PySem.W.keepIn K (.ref f6) = true)
    (a7 : PySem.W.nsIn K mainGlobals "is_rule" = some (some (.ref f7))) (l7 : K.lookup f7 = some ⟨oc7, od7, .func (PySem.W.fnOf "is_rule" "is_rule" (defArgs sIsRule) (defBody sIsRule) (defScope sIsRule) .none kV7 dc7 pm7 an7 cd7 ct7), sl7⟩) (c7 : PySem.W.codeIn K cd7 "is_rule" = true) (k7 : PySem.W.keepIn K (.ref f7) = true)
    (a8 : PySem.W.nsIn K mainGlobals "sort_key" = some (some (.ref f8))) (l8 : K.lookup f8 = some ⟨oc8, od8, .func (PySem.W.fnOf "sort_key" "sort_key" (defArgs sKey) (defBody sKey) (defScope sKey) .none kV8 dc8 pm8 an8 cd8 ct8), sl8⟩) (c8 : PySem.W.codeIn K cd8 "sort_key" = true) (k8 : PySem.W.keepIn K (.ref f8) = true)
    (a9 : PySem.W.nsIn K mainGlobals "compare_items" = some (some (.ref f9))) (l9 : K.lookup f9 = some ⟨oc9, od9, .func (PySem.W.fnOf "compare_items" "compare_items" (defArgs sCompare) (defBody sCompare) (defScope sCompare) .none kV9 dc9 pm9 an9 cd9 ct9), sl9⟩) (c9 : PySem.W.codeIn K cd9 "compare_items" = true) (k9 : PySem.W.keepIn K (.ref f9) = true)
    (a10 : PySem.W.nsIn K mainGlobals "rule_order" = some (some (.ref f10))) (l10 : K.lookup f10 = some ⟨oc10, od10, .func (PySem.W.fnOf "rule_order" "rule_order" (defArgs sRuleOrder) (defBody sRuleOrder) (defScope sRuleOrder) .none kV10 dc10 pm10 an10 cd10 ct10), sl10⟩) (c10 : PySem.W.codeIn K cd10 "rule_order" = true) (k10 : PySem.W.keepIn K (.ref f10) = true)
    (a11 : PySem.W.nsIn K mainGlobals "is_order" = some (some (.ref f11))) (l11 : K.lookup f11 = some ⟨oc11, od11, .func (PySem.W.fnOf "is_order" "is_order" (defArgs sIsOrder) (defBody sIsOrder) (defScope sIsOrder) .none kV11 dc11 pm11 an11 cd11 ct11), sl11⟩) (c11 : PySem.W.codeIn K cd11 "is_order" = true) (k11 : PySem.W.keepIn K (.ref f11) = true)
    (a12 : PySem.W.nsIn K mainGlobals "are_ids_of" = some (some (.ref f12))) (l12 : K.lookup f12 = some ⟨oc12, od12, .func (PySem.W.fnOf "are_ids_of" "are_ids_of" (defArgs sAreIds) (defBody sAreIds) (defScope sAreIds) .none kV12 dc12 pm12 an12 cd12 ct12), sl12⟩) (c12 : PySem.W.codeIn K cd12 "are_ids_of" = true) (k12 : PySem.W.keepIn K (.ref f12) = true)
    (a13 : PySem.W.nsIn K mainGlobals "is_move" = some (some (.ref f13))) (l13 : K.lookup f13 = some ⟨oc13, od13, .func (PySem.W.fnOf "is_move" "is_move" (defArgs sIsMove) (defBody sIsMove) (defScope sIsMove) .none kV13 dc13 pm13 an13 cd13 ct13), sl13⟩) (c13 : PySem.W.codeIn K cd13 "is_move" = true) (k13 : PySem.W.keepIn K (.ref f13) = true)
    (a14 : PySem.W.nsIn K mainGlobals "do_move" = some (some (.ref f14))) (l14 : K.lookup f14 = some ⟨oc14, od14, .func (PySem.W.fnOf "do_move" "do_move" (defArgs sDoMove) (defBody sDoMove) (defScope sDoMove) .none kV14 dc14 pm14 an14 cd14 ct14), sl14⟩) (c14 : PySem.W.codeIn K cd14 "do_move" = true) (k14 : PySem.W.keepIn K (.ref f14) = true)
    (a15 : PySem.W.nsIn K mainGlobals "do_moves" = some (some (.ref f15))) (l15 : K.lookup f15 = some ⟨oc15, od15, .func (PySem.W.fnOf "do_moves" "do_moves" (defArgs sDoMoves) (defBody sDoMoves) (defScope sDoMoves) .none kV15 dc15 pm15 an15 cd15 ct15), sl15⟩) (c15 : PySem.W.codeIn K cd15 "do_moves" = true) (k15 : PySem.W.keepIn K (.ref f15) = true)
    (a16 : PySem.W.nsIn K mainGlobals "neighbours" = some (some (.ref f16))) (l16 : K.lookup f16 = some ⟨oc16, od16, .func (PySem.W.fnOf "neighbours" "neighbours" (defArgs sNeigh) (defBody sNeigh) (defScope sNeigh) .none kV16 dc16 pm16 an16 cd16 ct16), sl16⟩) (c16 : PySem.W.codeIn K cd16 "neighbours" = true) (k16 : PySem.W.keepIn K (.ref f16) = true)
    (a17 : PySem.W.nsIn K mainGlobals "_law_deck" = some (some (.ref f17))) (l17 : K.lookup f17 = some ⟨oc17, od17, .func (PySem.W.fnOf "_law_deck" "_law_deck" (defArgs sDeck) (defBody sDeck) (defScope sDeck) .none kV17 dc17 pm17 an17 cd17 ct17), sl17⟩) (c17 : PySem.W.codeIn K cd17 "_law_deck" = true) (k17 : PySem.W.keepIn K (.ref f17) = true)
    (a18 : PySem.W.nsIn K mainGlobals "_law_draw" = some (some (.ref f18))) (l18 : K.lookup f18 = some ⟨oc18, od18, .func (PySem.W.fnOf "_law_draw" "_law_draw" (defArgs sDraw) (defBody sDraw) (defScope sDraw) .none kV18 dc18 pm18 an18 cd18 ct18), sl18⟩) (c18 : PySem.W.codeIn K cd18 "_law_draw" = true) (k18 : PySem.W.keepIn K (.ref f18) = true)
    (a19 : PySem.W.nsIn K mainGlobals "_law_choose" = some (some (.ref f19))) (l19 : K.lookup f19 = some ⟨oc19, od19, .func (PySem.W.fnOf "_law_choose" "_law_choose" (defArgs sChoose) (defBody sChoose) (defScope sChoose) .none kV19 dc19 pm19 an19 cd19 ct19), sl19⟩) (c19 : PySem.W.codeIn K cd19 "_law_choose" = true) (k19 : PySem.W.keepIn K (.ref f19) = true)
    (a20 : PySem.W.nsIn K mainGlobals "_law_same" = some (some (.ref f20))) (l20 : K.lookup f20 = some ⟨oc20, od20, .func (PySem.W.fnOf "_law_same" "_law_same" (defArgs sSame) (defBody sSame) (defScope sSame) .none kV20 dc20 pm20 an20 cd20 ct20), sl20⟩) (c20 : PySem.W.codeIn K cd20 "_law_same" = true) (k20 : PySem.W.keepIn K (.ref f20) = true)
    (a21 : PySem.W.nsIn K mainGlobals "law" = some (some (.ref f21))) (l21 : K.lookup f21 = some ⟨oc21, od21, .func (PySem.W.fnOf "law" "law" (defArgs sLaw) (defBody sLaw) (defScope sLaw) .none kV21 dc21 pm21 an21 cd21 ct21), sl21⟩) (c21 : PySem.W.codeIn K cd21 "law" = true) (k21 : PySem.W.keepIn K (.ref f21) = true)
    (z0 : PySem.W.nsIn K mainGlobals "len" = some none)
    (z1 : PySem.W.nsIn K mainGlobals "isinstance" = some none)
    (z2 : PySem.W.nsIn K mainGlobals "int" = some none)
    (z3 : PySem.W.nsIn K mainGlobals "bool" = some none)
    (z4 : PySem.W.nsIn K mainGlobals "tuple" = some none)
    (z5 : PySem.W.nsIn K mainGlobals "set" = some none)
    (z6 : PySem.W.nsIn K mainGlobals "all" = some none)
    (z7 : PySem.W.nsIn K mainGlobals "list" = some none)
    (z8 : PySem.W.nsIn K mainGlobals "range" = some none)
    (z9 : PySem.W.nsIn K mainGlobals "max" = some none)
    (z10 : PySem.W.nsIn K mainGlobals "min" = some none)
    (z11 : PySem.W.nsIn K mainGlobals "repr" = some none)
    (z12 : PySem.W.nsIn K mainGlobals "abs" = some none)
    (z13 : PySem.W.nsIn K mainGlobals "sorted" = some none)
    (cst0 : PySem.W.nsIn K mainGlobals "GREATEST_ID" = some (some (.int 1000000 gt0)))
    (cst1 : PySem.W.nsIn K mainGlobals "GREATEST_FIELD" = some (some (.int 1000000000 gt1)))
    (cst2 : PySem.W.nsIn K mainGlobals "MOST_FIELDS" = some (some (.int 4 gt2)))
    : ∃ fd : FuncData, (∀ (s : Shared) (v : Value), BindsTo s fd ⟨[v], []⟩ [("script", v)]) ∧ ∀ base : Heap, K.In base → base.Ns mainGlobals mg → FnG l.prog w K mg base 6 fa fd ["script"] (spLaw K) := by
  have e := hfa.symm.trans (PySem.W.mg_of X G a21)
  cases e
  have n_len := PySem.W.mg_none_of X G z0
  have n_isinstance := PySem.W.mg_none_of X G z1
  have n_int := PySem.W.mg_none_of X G z2
  have n_bool := PySem.W.mg_none_of X G z3
  have n_tuple := PySem.W.mg_none_of X G z4
  have n_set := PySem.W.mg_none_of X G z5
  have n_all := PySem.W.mg_none_of X G z6
  have n_list := PySem.W.mg_none_of X G z7
  have n_range := PySem.W.mg_none_of X G z8
  have n_max := PySem.W.mg_none_of X G z9
  have n_min := PySem.W.mg_none_of X G z10
  have n_repr := PySem.W.mg_none_of X G z11
  have n_abs := PySem.W.mg_none_of X G z12
  have n_sorted := PySem.W.mg_none_of X G z13
  have F1 := fun_mk (st := sWhole) l1 c1 k1
  have b1 := F1.binds (ps := ["value"]) fun _ _ _ _ _ _ us hl => match us, hl with | [_], _ => rfl
  have W : Fn K mg "is_whole" sWhole ["value"] f1 _ := ⟨F1, b1, PySem.W.mg_of X G a1⟩
  have F2 := fun_mk (st := sWithin) l2 c2 k2
  have b2 := F2.binds (ps := ["value", "low", "high"]) fun _ _ _ _ _ _ us hl => match us, hl with | [_, _, _], _ => rfl
  have Wi : Fn K mg "is_within" sWithin ["value", "low", "high"] f2 _ := ⟨F2, b2, PySem.W.mg_of X G a2⟩
  have F3 := fun_mk (st := sDiff) l3 c3 k3
  have b3 := F3.binds (ps := ["numbers"]) fun _ _ _ _ _ _ us hl => match us, hl with | [_], _ => rfl
  have D : Fn K mg "all_different" sDiff ["numbers"] f3 _ := ⟨F3, b3, PySem.W.mg_of X G a3⟩
  have F4 := fun_mk (st := sIsId) l4 c4 k4
  have b4 := F4.binds (ps := ["value"]) fun _ _ _ _ _ _ us hl => match us, hl with | [_], _ => rfl
  have II : Fn K mg "is_id" sIsId ["value"] f4 _ := ⟨F4, b4, PySem.W.mg_of X G a4⟩
  have F5 := fun_mk (st := sAreFields) l5 c5 k5
  have b5 := F5.binds (ps := ["value", "width"]) fun _ _ _ _ _ _ us hl => match us, hl with | [_, _], _ => rfl
  have AF : Fn K mg "are_fields" sAreFields ["value", "width"] f5 _ := ⟨F5, b5, PySem.W.mg_of X G a5⟩
  have F6 := fun_mk (st := sIsItem) l6 c6 k6
  have b6 := F6.binds (ps := ["value", "width"]) fun _ _ _ _ _ _ us hl => match us, hl with | [_, _], _ => rfl
  have It : Fn K mg "is_item" sIsItem ["value", "width"] f6 _ := ⟨F6, b6, PySem.W.mg_of X G a6⟩
  have F7 := fun_mk (st := sIsRule) l7 c7 k7
  have b7 := F7.binds (ps := ["value", "width"]) fun _ _ _ _ _ _ us hl => match us, hl with | [_, _], _ => rfl
  have R0 : Fn K mg "is_rule" sIsRule ["value", "width"] f7 _ := ⟨F7, b7, PySem.W.mg_of X G a7⟩
  have F8 := fun_mk (st := sKey) l8 c8 k8
  have b8 := F8.binds (ps := ["rule", "item"]) fun _ _ _ _ _ _ us hl => match us, hl with | [_, _], _ => rfl
  have Ky : Fn K mg "sort_key" sKey ["rule", "item"] f8 _ := ⟨F8, b8, PySem.W.mg_of X G a8⟩
  have F9 := fun_mk (st := sCompare) l9 c9 k9
  have b9 := F9.binds (ps := ["rule", "first", "second"]) fun _ _ _ _ _ _ us hl => match us, hl with | [_, _, _], _ => rfl
  have Cm : Fn K mg "compare_items" sCompare ["rule", "first", "second"] f9 _ := ⟨F9, b9, PySem.W.mg_of X G a9⟩
  have F10 := fun_mk (st := sRuleOrder) l10 c10 k10
  have b10 := F10.binds (ps := ["rule", "items"]) fun _ _ _ _ _ _ us hl => match us, hl with | [_, _], _ => rfl
  have Ro : Fn K mg "rule_order" sRuleOrder ["rule", "items"] f10 _ := ⟨F10, b10, PySem.W.mg_of X G a10⟩
  have F11 := fun_mk (st := sIsOrder) l11 c11 k11
  have b11 := F11.binds (ps := ["value"]) fun _ _ _ _ _ _ us hl => match us, hl with | [_], _ => rfl
  have Io : Fn K mg "is_order" sIsOrder ["value"] f11 _ := ⟨F11, b11, PySem.W.mg_of X G a11⟩
  have F12 := fun_mk (st := sAreIds) l12 c12 k12
  have b12 := F12.binds (ps := ["order", "value"]) fun _ _ _ _ _ _ us hl => match us, hl with | [_, _], _ => rfl
  have A : Fn K mg "are_ids_of" sAreIds ["order", "value"] f12 _ := ⟨F12, b12, PySem.W.mg_of X G a12⟩
  have F13 := fun_mk (st := sIsMove) l13 c13 k13
  have b13 := F13.binds (ps := ["order", "value"]) fun _ _ _ _ _ _ us hl => match us, hl with | [_, _], _ => rfl
  have M : Fn K mg "is_move" sIsMove ["order", "value"] f13 _ := ⟨F13, b13, PySem.W.mg_of X G a13⟩
  have F14 := fun_mk (st := sDoMove) l14 c14 k14
  have b14 := F14.binds (ps := ["order", "move"]) fun _ _ _ _ _ _ us hl => match us, hl with | [_, _], _ => rfl
  have Do : Fn K mg "do_move" sDoMove ["order", "move"] f14 _ := ⟨F14, b14, PySem.W.mg_of X G a14⟩
  have F15 := fun_mk (st := sDoMoves) l15 c15 k15
  have m_Ms := PySem.W.mg_of X G a15
  have F_Ms := F15
  have F16 := fun_mk (st := sNeigh) l16 c16 k16
  have b16 := F16.binds (ps := ["order"]) fun _ _ _ _ _ _ us hl => match us, hl with | [_], _ => rfl
  have Ne : Fn K mg "neighbours" sNeigh ["order"] f16 _ := ⟨F16, b16, PySem.W.mg_of X G a16⟩
  have F17 := fun_mk (st := sDeck) l17 c17 k17
  have b17 := F17.binds (ps := ["script", "start"]) fun _ _ _ _ _ _ us hl => match us, hl with | [_, _], _ => rfl
  have De : Fn K mg "_law_deck" sDeck ["script", "start"] f17 _ := ⟨F17, b17, PySem.W.mg_of X G a17⟩
  have F18 := fun_mk (st := sDraw) l18 c18 k18
  have b18 := F18.binds (ps := ["deck", "size"]) fun _ _ _ _ _ _ us hl => match us, hl with | [_, _], _ => rfl
  have Dr : Fn K mg "_law_draw" sDraw ["deck", "size"] f18 _ := ⟨F18, b18, PySem.W.mg_of X G a18⟩
  have F19 := fun_mk (st := sChoose) l19 c19 k19
  have b19 := F19.binds (ps := ["deck", "things"]) fun _ _ _ _ _ _ us hl => match us, hl with | [_, _], _ => rfl
  have Ch : Fn K mg "_law_choose" sChoose ["deck", "things"] f19 _ := ⟨F19, b19, PySem.W.mg_of X G a19⟩
  have F20 := fun_mk (st := sSame) l20 c20 k20
  have b20 := F20.binds (ps := ["pairs"]) fun _ _ _ _ _ _ us hl => match us, hl with | [_], _ => rfl
  have Sm : Fn K mg "_law_same" sSame ["pairs"] f20 _ := ⟨F20, b20, PySem.W.mg_of X G a20⟩
  exact ⟨PySem.W.fnOf "law" "law" (defArgs sLaw) (defBody sLaw) (defScope sLaw) .none kV21 dc21 pm21 an21 cd21 ct21, fun s v => .of_eq rfl, fun base _ _ =>
    (have TV : TxtV mg := ⟨n_len, n_isinstance, n_int, n_bool, n_tuple, n_set, n_all, n_list⟩
    have TI : TxtI mg := ⟨⟨_, PySem.W.mg_of X G cst0⟩, ⟨_, PySem.W.mg_of X G cst1⟩, ⟨_, PySem.W.mg_of X G cst2⟩, n_abs⟩
    have GWi := ok_within (P := l.prog) (w := w) (base := base) Wi.F TV W.F W.b W.m
    have GII := ok_isId II.F TI.id GWi Wi.F.kp Wi.b Wi.m
    have GAF := ok_areFields AF.F TV TI GWi Wi.F.kp Wi.b Wi.m
    have GIt := ok_isItem It.F TV GII II.F.kp II.b II.m GAF AF.F.kp AF.b AF.m
    have GR0 := ok_isRule R0.F TV TI W.F W.b W.m D.F D.b D.m GWi Wi.F.kp Wi.b Wi.m
    have GKy := ok_key (P := l.prog) (w := w) (mg := mg) (base := base) Ky.F
    have GCm := ok_cmp Cm.F GKy Ky.F.kp Ky.b Ky.m
    have GRo := ok_ruleO Ro.F n_sorted GKy Ky.F.kp Ky.b Ky.m
    have GIo := ok_isOrder Io.F TV D.F D.b D.m GII II.F.kp II.b II.m
    have GM := ok_isMove (P := l.prog) (w := w) (base := base) M.F TV W.F W.b W.m D.F D.b D.m A.F A.b A.m
    have GDo := ok_do (P := l.prog) (w := w) (base := base) Do.F TV W.F W.b W.m D.F D.b D.m A.F A.b A.m M.F M.b M.m
    ok_law (fun_mk (st := sLaw) l21 c21 k21) ⟨n_len⟩ ⟨n_range, n_max, n_min⟩ De Dr Ch
      ⟨GIt, Hk.FnOk.byNameR GIt (fun us hl => match us, hl with | [_, _], _ => rfl), It.F.kp, It.b, It.m⟩
      ⟨GR0, Hk.FnOk.byNameR GR0 (fun us hl => match us, hl with | [_, _], _ => rfl), R0.F.kp, R0.b, R0.m⟩
      ⟨GCm, Hk.FnOk.byNameR GCm (fun us hl => match us, hl with | [_, _, _], _ => rfl), Cm.F.kp, Cm.b, Cm.m⟩
      ⟨GRo, Hk.FnOk.byNameR GRo (fun us hl => match us, hl with | [_, _], _ => rfl), Ro.F.kp, Ro.b, Ro.m⟩
      ⟨GIo, Hk.FnOk.byName GIo (fun us hl => match us, hl with | [_], _ => rfl), Io.F.kp, Io.b, Io.m⟩
      ⟨GM, Hk.FnOk.byNameR GM (fun us hl => match us, hl with | [_, _], _ => rfl), M.F.kp, M.b, M.m⟩
      ⟨GDo, Hk.FnOk.byNameR GDo (fun us hl => match us, hl with | [_, _], _ => rfl), Do.F.kp, Do.b, Do.m⟩
      (ok_moves0 F_Ms n_list GDo Do.m Do.F.kp Do.b (fun us hl => match us, hl with | [_], _ => rfl)) (ok_moves0V F_Ms n_list GDo Do.m Do.F.kp Do.b (fun us hl => match us, hl with | [_], _ => rfl)) F_Ms.kp m_Ms Ne (fun us hl => match us, hl with | [_], _ => rfl) Sm n_repr n_list)⟩
end Hk
open PySem PySem.W PyProof.Rows in
set_option maxRecDepth 100000 in
set_option maxHeartbeats 0 in
theorem PySem.Challenge.cw_handsorted_k08_arguments_by_name_holds : PySem.Challenge.rw_handsorted_k08_arguments_by_name.Holds := by
  w_on; o_law; k_head; (case hw => w_witness2)
  k_fill
  refine Hk.walkG (l := PySem.Challenge.rw_handsorted_k08_arguments_by_name) (n := 63) (k := 6) (x := "script") (sp := Hk.spLaw) rfl (by decide) rfl ⟨rfl, by decide, by decide⟩ (fun w h Y => PySem.W.kIn_of Y) ?F (fun _ _ a ns hl hb hS => ⟨a, ns, rfl, hS, hl, hb, fun _ => rfl⟩)
  case F =>
    intro w mg fa h KX G hmg
    refine' Hk.all_mk KX G hmg ?a1 ?l1 ?c1 ?k1 ?a2 ?l2 ?c2 ?k2 ?a3 ?l3 ?c3 ?k3 ?a4 ?l4 ?c4 ?k4 ?a5 ?l5 ?c5 ?k5 ?a6 ?l6 ?c6 ?k6 ?a7 ?l7 ?c7 ?k7 ?a8 ?l8 ?c8 ?k8 ?a9 ?l9 ?c9 ?k9 ?a10 ?l10 ?c10 ?k10 ?a11 ?l11 ?c11 ?k11 ?a12 ?l12 ?c12 ?k12 ?a13 ?l13 ?c13 ?k13 ?a14 ?l14 ?c14 ?k14 ?a15 ?l15 ?c15 ?k15 ?a16 ?l16 ?c16 ?k16 ?a17 ?l17 ?c17 ?k17 ?a18 ?l18 ?c18 ?k18 ?a19 ?l19 ?c19 ?k19 ?a20 ?l20 ?c20 ?k20 ?a21 ?l21 ?c21 ?k21 ?z0 ?z1 ?z2 ?z3 ?z4 ?z5 ?z6 ?z7 ?z8 ?z9 ?z10 ?z11 ?z12 ?z13 ?cst0 ?cst1 ?cst2
    (case a1 => k_is)
    (case l1 => k_is)
    (case c1 => k_is)
    (case k1 => k_is)
    (case a2 => k_is)
    (case l2 => k_is)
    (case c2 => k_is)
    (case k2 => k_is)
    (case a3 => k_is)
    (case l3 => k_is)
    (case c3 => k_is)
    (case k3 => k_is)
    (case a4 => k_is)
    (case l4 => k_is)
    (case c4 => k_is)
    (case k4 => k_is)
    (case a5 => k_is)
    (case l5 => k_is)
    (case c5 => k_is)
    (case k5 => k_is)
    (case a6 => k_is)
    (case l6 => k_is)
    (case c6 => k_is)
    (case k6 => k_is)
    (case a7 => k_is)
    (case l7 => k_is)
    (case c7 => k_is)
    (case k7 => k_is)
    (case a8 => k_is)
    (case l8 => k_is)
    (case c8 => k_is)
    (case k8 => k_is)
    (case a9 => k_is)
    (case l9 => k_is)
    (case c9 => k_is)
    (case k9 => k_is)
    (case a10 => k_is)
    (case l10 => k_is)
    (case c10 => k_is)
    (case k10 => k_is)
    (case a11 => k_is)
    (case l11 => k_is)
    (case c11 => k_is)
    (case k11 => k_is)
    (case a12 => k_is)
    (case l12 => k_is)
    (case c12 => k_is)
    (case k12 => k_is)
    (case a13 => k_is)
    (case l13 => k_is)
    (case c13 => k_is)
    (case k13 => k_is)
    (case a14 => k_is)
    (case l14 => k_is)
    (case c14 => k_is)
    (case k14 => k_is)
    (case a15 => k_is)
    (case l15 => k_is)
    (case c15 => k_is)
    (case k15 => k_is)
    (case a16 => k_is)
    (case l16 => k_is)
    (case c16 => k_is)
    (case k16 => k_is)
    (case a17 => k_is)
    (case l17 => k_is)
    (case c17 => k_is)
    (case k17 => k_is)
    (case a18 => k_is)
    (case l18 => k_is)
    (case c18 => k_is)
    (case k18 => k_is)
    (case a19 => k_is)
    (case l19 => k_is)
    (case c19 => k_is)
    (case k19 => k_is)
    (case a20 => k_is)
    (case l20 => k_is)
    (case c20 => k_is)
    (case k20 => k_is)
    (case a21 => k_is)
    (case l21 => k_is)
    (case c21 => k_is)
    (case k21 => k_is)
    (case z0 => k_is)
    (case z1 => k_is)
    (case z2 => k_is)
    (case z3 => k_is)
    (case z4 => k_is)
    (case z5 => k_is)
    (case z6 => k_is)
    (case z7 => k_is)
    (case z8 => k_is)
    (case z9 => k_is)
    (case z10 => k_is)
    (case z11 => k_is)
    (case z12 => k_is)
    (case z13 => k_is)
    (case cst0 => k_is)
    (case cst1 => k_is)
    (case cst2 => k_is)

