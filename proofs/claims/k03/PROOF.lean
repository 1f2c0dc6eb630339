import PyProof.Rows.All
import Wide.All
import OpenK.AllK
import Wide.FinOn
import HandS.ForMost
import HandS.EndBits
import HandS.Set
import HandS.SetFor
import HandS.IsInst
import PyProof.ReprRoads
import PyProof.EqAt
import PyProof.EqKinds
import PyProof.TupleCall
import HandS.Walk
import HandS.Style
import HandS.TupAny
import HandS.Exc
import HandS.ExcInit
import HandS.ExcIs
import HandS.ExcField
import HandS.TryMany
import HandS.TupLe
import HandS.Words
import KE.KSortedM
import PySem.Challenge.RW_handsorted_k03_errors_made
set_option Elab.async false
set_option linter.all false
set_option maxRecDepth 100000
set_option maxHeartbeats 8000000
namespace Hk
open PySem L2 PySem.Spec PyProof.Rows
def top (i : Nat) : Stmt := PySem.Challenge.pw_handsorted_k03_errors_made.main.body.getD i (.Pass ⟨0, 0, 0, 0⟩)
abbrev sCHandError : Stmt := top 1
abbrev sCBadItem : Stmt := top 2
abbrev sCBadRule : Stmt := top 3
abbrev sCBadMove : Stmt := top 4
abbrev sCBadStep : Stmt := top 5
abbrev sCBadText : Stmt := top 6
abbrev sCBadCommand : Stmt := top 7
abbrev sCUnknownId : Stmt := top 8
abbrev sCTakenId : Stmt := top 9
abbrev sCTooMany : Stmt := top 10
abbrev sCNothingToDo : Stmt := top 11
abbrev sCUnknownName : Stmt := top 12
abbrev sCNameTaken : Stmt := top 13
abbrev sDeck : Stmt := top 15
abbrev sDraw : Stmt := top 16
abbrev sChoose : Stmt := top 17
abbrev sValues : Stmt := top 18
abbrev sKinds : Stmt := top 19
abbrev sOneKind : Stmt := top 20
abbrev sMade : Stmt := top 21
abbrev sNamed : Stmt := top 22
abbrev sLaw : Stmt := top 23
/-! ### numbers of any size -/
def CPowG (i j : Int) : Prop := 0 ≤ j ∧ (Builtin.Int.intBits i : Int) * j ≤ 2 ^ 27
section
variable {X : Cx}
theorem op_mulG : OpR X (binaryOp .Mult) (rI IntMulOk fun i j => .int (i * j)) := opI fun _ _ _ _ _ _ _ hc q => mul_int q hc
theorem op_powG : OpR X (binaryOp .Pow) (rI CPowG fun i j => .int (i ^ j.toNat)) := opI fun _ _ _ _ _ _ _ hc q => pow_int hc.1 hc.2 q
end
theorem mulOk_bits {i j : Int} {a b : Nat} (ha : Builtin.Int.intBits i ≤ a) (hb : Builtin.Int.intBits j ≤ b) (h : a + b ≤ 100000000) : IntMulOk i j := by
  have e : bitsLine = 134217728 := by decide
  unfold IntMulOk
  intro z
  rw [Bool.and_eq_true] at z
  have z2 := z.2
  unfold Builtin.Int.intTooBig at z2
  have z3 := of_decide_eq_true z2
  rw [e] at z3
  omega
theorem bits_le {i : Int} {n : Nat} (h : i.natAbs < 2 ^ n) : Builtin.Int.intBits i ≤ n := intBits_le h
/-- the turn of the deck's loop -/
theorem turn_bits {m e : Int} {k : Nat} (h0 : 0 ≤ m) (h1 : m < 2147483600) (he : Builtin.Int.intBits e ≤ k) (hk : 30 ≤ k) :
    Builtin.Int.intBits (m * 20011 + e * e + 13) ≤ 2 * k + 1 := by
  refine bits_le ?_
  have a1 : e.natAbs < 2 ^ k := Nat.lt_of_lt_of_le (natAbs_lt_pow_bits e) (Nat.pow_le_pow_right (by omega) he)
  have a2 : (e * e).natAbs < 2 ^ (2 * k) := by
    rw [Int.natAbs_mul, Nat.two_mul, Nat.pow_add]
    exact Nat.mul_lt_mul'' a1 a1
  have a3 : (m * 20011 + 13).natAbs < 2 ^ 60 := by
    have : (2 : Nat) ^ 60 = 1152921504606846976 := by decide
    omega
  have a4 : (2 : Nat) ^ 60 ≤ 2 ^ (2 * k) := Nat.pow_le_pow_right (by omega) (by omega)
  have a5 : (2 : Nat) ^ (2 * k + 1) = 2 ^ (2 * k) + 2 ^ (2 * k) := by rw [Nat.pow_succ, Nat.mul_two]
  rw [a5]
  generalize (2 : Nat) ^ (2 * k) = B at *
  generalize e * e = q at *
  omega
/-! ### the deck -/
def dk (x y : Int) : List (Key × V) := [(.inr "digits", .int x), (.inr "mixed", .int y)]
def DeckAt (H : Hp) (d : Addr) : Prop := ∃ x y : Int, H d = some (.dK (dk x y)) ∧ 0 ≤ x ∧ 0 ≤ y ∧ y < 2147483600
/-- all that was tracked is as it was, but what stands at d -/
def But (d : Addr) (H H' : Hp) : Prop := ∀ b o, b ≠ d → H b = some o → H' b = some o
theorem But.refl (d : Addr) (H : Hp) : But d H H := fun _ _ _ h => h
theorem But.trans {d : Addr} {H H1 H2 : Hp} (a : But d H H1) (b : But d H1 H2) : But d H H2 := fun c o n h => b c o n (a c o n h)
theorem But.of {d : Addr} {H H' : Hp} (a : Same H H') : But d H H' := fun c o _ h => a c o h
theorem But.upd {d : Addr} {H : Hp} {o : HO} : But d H (upd H d o) := fun b u n h => by rw [upd_ne n]; exact h
theorem But.new {d p : Addr} {H : Hp} {o : HO} (h : H p = none) : But d H (L2.upd H p o) := fun b u n e => by rw [upd_ne (ne_of_none e h)]; exact e
theorem Same.new {p : Addr} {H : Hp} {o : HO} (h : H p = none) : Same H (L2.upd H p o) := fun b u e => by rw [upd_ne (ne_of_none e h)]; exact e
theorem DeckAt.same {H H' : Hp} {d : Addr} (D : DeckAt H d) (s : Same H H') : DeckAt H' d := let ⟨x, y, h, r⟩ := D; ⟨x, y, s _ _ h, r⟩
theorem dm_ : ¬ (("digits" : Str) = "mixed") := by decide +kernel
theorem md_ : ¬ (("mixed" : Str) = "digits") := by decide +kernel
theorem dk_digits (x y : Int) : valV (dk x y) (Sum.inr "digits" : Key) = some (.int x) := by
  unfold valV dk
  rw [List.find?_cons_of_pos]
  · rfl
  · exact decide_eq_true rfl
theorem dk_mixed (x y : Int) : valV (dk x y) (Sum.inr "mixed" : Key) = some (.int y) := by
  unfold valV dk
  rw [List.find?_cons_of_neg, List.find?_cons_of_pos]
  · rfl
  · exact decide_eq_true rfl
  · intro q
    exact dm_ (Sum.inr.inj (of_decide_eq_true q))
theorem dk_put_digits (x y z : Int) : putK (dk x y) (Sum.inr "digits" : Key) (.int z) = dk z y := by
  unfold putK dk
  have n : ¬ (Sum.inr "mixed" : Key) = (Sum.inr "digits" : Key) := fun q => md_ (Sum.inr.inj q)
  simp only [List.any_cons, decide_true, Bool.true_or, if_true, List.map_cons, List.map_nil, if_neg n]
theorem dk_put_mixed (x y z : Int) : putK (dk x y) (Sum.inr "mixed" : Key) (.int z) = dk x z := by
  unfold putK dk
  have n : ¬ (Sum.inr "digits" : Key) = (Sum.inr "mixed" : Key) := fun q => dm_ (Sum.inr.inj q)
  simp only [List.any_cons, decide_true, Bool.true_or, Bool.or_true, if_true, List.map_cons, List.map_nil, if_neg n]
theorem dk_merge (x y : Int) : mergeK [] [((Sum.inr "digits" : Key), V.int x), ((Sum.inr "mixed" : Key), V.int y)] = dk x y := by
  unfold mergeK putK dk
  have n : ¬ (Sum.inr "digits" : Key) = (Sum.inr "mixed" : Key) := fun q => dm_ (Sum.inr.inj q)
  simp only [List.foldl_cons, List.foldl_nil, List.any_nil, List.nil_append, List.any_cons, decide_eq_false n, Bool.or_self]
  rfl
structure TxtD (mg : Str → Option Value) : Prop where
  len : mg "len" = none
section
variable {P : Program} {w : World} {K : PySem.W.Frag} {mg : Str → Option Value} {base : Heap}
def spDeck (K : PySem.W.Frag) : Sp := fun vs H Q _ => ∃ (a : Addr) (ns : List Int) (st : Int), vs = [.ref a, .int st] ∧ SqL K H a (ns.map V.int) ∧ ns.length ≤ 63 ∧ (∀ z ∈ ns, Builtin.Int.intBits z ≤ 1048576) ∧ 0 ≤ st ∧ st ≤ 63 ∧
  ∀ (d : Addr) (H' : Hp), H d = none → Same H H' → DeckAt H' d → Q (.ref d) H'
theorem scDeck : FnScope ["script", "start", "mixed", "entry", "digits"] ["script", "start"] (defScope sDeck) := ⟨rfl, rfl, rfl, by decide +kernel, rfl, by decide +kernel, by decide +kernel⟩
theorem ok_deck {f : Addr} {fd : FuncData} (F : Fun K "_law_deck" "_law_deck" sDeck f fd) (T : TxtD mg) : FnOk P w K mg base CX0 1 f fd ["script", "start"] (spDeck K) := by
  refine F.ok scDeck (fun vs H Q E h => ?_) (fun cdv A outer s H vs Q E hr h => ?_)
  · obtain ⟨a, ns, st, rfl, _⟩ := h
    rfl
  · obtain ⟨a, ns, st, rfl, hS, hlen, hb, h0, h1, k⟩ := h
    have hu := hu_of hr
    refine ⟨_, pss_cons (ps_set (i := 2) scDeck.nd rfl (Or.inl rfl) (pe_op op_add pe_int (pe_op op_mul (pv 1) pe_int)))
      (pss_cons (ps_for PassesOwn.never rfl (pi_list (pv 0)) (pg_name (i := 3) scDeck.nd rfl (Or.inl rfl))
        (pss_one (ps_set (i := 2) scDeck.nd rfl (Or.inl rfl) (pe_op op_add (pe_op op_mod (pe_op op_powG (pe_op op_add (pe_op op_add (pe_op op_mul (pv 2) pe_int) (pe_op op_mulG (pv 3) (pv 3))) pe_int) pe_int) pe_int) pe_int))))
      (pss_cons (ps_set (i := 4) scDeck.nd rfl (Or.inl rfl) (pe_ifExp (PW.pt (pw_and (pt_cmpR op_lt (pv 1) (pe_callB call_len_seq (by rfl) T.len PySem.boot_len (pa_cons (pv 0) pa_nil)) (nomark _))
          (pw_and1 (pt_cmpR op_ge (pe_ix ix_list (pv 0) (pv 1) (fun _ _ => rfl)) (pe_op op_pow pe_int pe_int) (nomark _)))))
          (pe_op op_sub (pe_ix ix_list (pv 0) (pv 1) (fun _ _ => rfl)) (pe_op op_pow pe_int pe_int)) pe_int))
      (pss_one (ps_ret (pe_disp (pps_cons pe_str (pv 4) (pps_cons pe_str (pv 2) pps_nil)) (by rfl) (by rfl) (fun z => by cases z) (by decide)))))), ?_⟩
    refine ⟨_, rfl, _, _, rfl, rfl, .inr ⟨by decide, by decide⟩, _, _, rfl, rfl, ?_⟩
    refine ⟨_, rfl, a, rfl, ⟨_, hS⟩, for_list (K := K) (a := a) (xs := ns.map V.int) (fun i σ H' => ∃ (m : Int) (v : Option V), σ = [some (.ref a), some (.int st), some (.int m), v, none] ∧ H' = H ∧ 0 ≤ m ∧ m < 2147483600)
      ⟨_, none, rfl, rfl, by omega, by omega⟩ (fun i σ H' _ ⟨_, _, _, e, _⟩ => by rw [e]; exact hS) ?_ ?_⟩
    · rintro i y σ H' hi ⟨m, v, rfl, rfl, m0, m1⟩
      obtain ⟨e, he, rfl⟩ : ∃ e, e ∈ ns ∧ y = V.int e := by
        rw [List.getElem?_map] at hi
        cases q : ns[i]? with
        | none => rw [q] at hi; cases hi
        | some u => rw [q] at hi; exact ⟨u, List.mem_of_getElem? q, (Option.some.inj hi).symm⟩
      have hbits := hb e he
      have hT := turn_bits (k := 1048576) m0 m1 hbits (by decide)
      refine ⟨_, rfl, _, _, rfl, rfl, .inr ⟨by decide, by decide⟩, _, rfl, _, rfl, _, _, rfl, rfl, mulOk_bits hbits hbits (by decide), _, _, rfl, rfl, _, _, rfl, rfl, _, _, rfl, rfl, ⟨by decide, ?_⟩, _, _, rfl, rfl, (by show (0 : Int) < 2147483549; decide), _, _, rfl, rfl, ?_⟩
      · have z : (2 : Int) ^ 27 = 134217728 := by decide
        rw [z]
        generalize Builtin.Int.intBits (m * 20011 + e * e + 13) = B at hT ⊢
        omega
      · refine ⟨_, _, rfl, rfl, ?_, ?_⟩
        · have := Int.emod_nonneg ((m * 20011 + e * e + 13) ^ (2 : Int).toNat) (b := 2147483549) (by decide)
          generalize (m * 20011 + e * e + 13) ^ (2 : Int).toNat % 2147483549 = z at *
          omega
        · have := Int.emod_lt_of_pos ((m * 20011 + e * e + 13) ^ (2 : Int).toNat) (b := 2147483549) (by decide)
          generalize (m * 20011 + e * e + 13) ^ (2 : Int).toNat % 2147483549 = z at *
          omega
    · rintro σ H' ⟨m, v, rfl, rfl, m0, m1⟩
      have fin : ∀ (x : Int) (σ' : L2.St), 0 ≤ x → σ' = [some (.ref a), some (.int st), some (.int m), v, some (.int x)] →
          (tRet (tDisp [(tC (.str "digits"), tVar 4), (tC (.str "mixed"), tVar 2)])) { nx := fun _ H' => Q .non H', rt := Q } σ' H' := by
        rintro x σ' hx rfl
        intro p hp
        refine ⟨_, rfl, _, rfl, upd_same, [((Sum.inr "digits" : Key), V.int x), ((Sum.inr "mixed" : Key), V.int m)], rfl, (by show 2 ≤ 15; decide), ?_⟩
        rw [upd_upd, dk_merge]
        exact k p _ hp (Same.new hp) ⟨x, m, upd_same, hx, m0, m1⟩
      refine ⟨_, rfl, _, rfl, a, _, rfl, .inl hS, _, _, rfl, rfl, _, rfl, ?_⟩
      refine ite2 (fun hlt => ?_) (fun hlt => ?_)
      · have hlt' : st < (ns.map V.int).length := of_decide_eq_true hlt
        rw [List.length_map] at hlt'
        obtain ⟨n, rfl⟩ : ∃ n : Nat, st = (n : Int) := ⟨st.toNat, by omega⟩
        have hn : n < ns.length := by omega
        have hat : (ns.map V.int)[n]? = some (V.int ns[n]) := by rw [List.getElem?_map, List.getElem?_eq_getElem hn]; rfl
        refine ⟨_, rfl, _, rfl, a, _, _, _, rfl, rfl, hS, atI_nat hat, _, _, rfl, rfl, ⟨by decide, by decide, by decide⟩, _, _, rfl, rfl, _, rfl, ?_⟩
        refine ite2 (fun hge => ?_) (fun hge => ?_)
        · have hge' := of_decide_eq_true hge
          refine ⟨_, rfl, _, rfl, a, _, _, _, rfl, rfl, hS, atI_nat hat, _, _, rfl, rfl, ⟨by decide, by decide, by decide⟩, _, _, rfl, rfl, ?_⟩
          exact fin _ _ (by omega) rfl
        · exact fin 0 _ (Int.le_refl _) rfl
      · refine iteF ?_
        exact fin 0 _ (Int.le_refl _) rfl
end
theorem But.seq {d a : Addr} {H H' : Hp} {K : PySem.W.Frag} {xs : List V} (D : DeckAt H d) (s : But d H H') (h : SqL K H a xs) : SqL K H' a xs := by
  obtain ⟨x, y, hd, _⟩ := D
  rcases h with (h | ⟨o, h⟩) | h
  · exact .inl (.inl (s _ _ (ne_of h hd (by intro z; cases z)) h))
  · exact .inl (.inr ⟨o, s _ _ (ne_of h hd (by intro z; cases z)) h⟩)
  · exact .inr h
theorem But.lst {d a : Addr} {H H' : Hp} {xs : List V} (D : DeckAt H d) (s : But d H H') (h : H a = some (.lst xs)) : H' a = some (.lst xs) := by
  obtain ⟨x, y, hd, _⟩ := D
  exact s _ _ (ne_of h hd (by intro z; cases z)) h
theorem But.tup {d a : Addr} {H H' : Hp} {xs : List V} (D : DeckAt H d) (s : But d H H') (h : H a = some (.tup xs)) : H' a = some (.tup xs) := by
  obtain ⟨x, y, hd, _⟩ := D
  exact s _ _ (ne_of h hd (by intro z; cases z)) h
/-- new behind is new ahead -/
theorem But.free {d p : Addr} {H H' : Hp} (D : DeckAt H' d) (s : But d H H') (h : H' p = none) : H p = none := by
  obtain ⟨x, y, hd, _⟩ := D
  cases q : H p with
  | none => rfl
  | some o =>
    have := s _ _ (fun e => by rw [e, hd] at h; cases h) q
    rw [h] at this
    cases this
theorem pow6 : (10 : Int) ^ (6 : Int).toNat = 1000000 := by decide
section
variable {P : Program} {w : World} {K : PySem.W.Frag} {mg : Str → Option Value} {base : Heap}
/-! ### a draw -/
def spDraw : Sp := fun vs H Q _ => ∃ (d : Addr) (n : Int), vs = [.ref d, .int n] ∧ DeckAt H d ∧ 0 < n ∧ n < 1073741824 ∧ ∀ (r : Int) (H' : Hp), 0 ≤ r → r < n → DeckAt H' d → But d H H' → Q (.int r) H'
theorem scDraw : FnScope ["deck", "size", "found"] ["deck", "size"] (defScope sDraw) := ⟨rfl, rfl, rfl, by decide +kernel, rfl, by decide +kernel, by decide +kernel⟩
theorem ok_draw {f : Addr} {fd : FuncData} (F : Fun K "_law_draw" "_law_draw" sDraw f fd) : FnOk P w K mg base CX0 1 f fd ["deck", "size"] spDraw := by
  refine F.ok scDraw (fun vs H Q E h => ?_) (fun cdv A outer s H vs Q E hr h => ?_)
  · obtain ⟨d, n, rfl, _⟩ := h
    rfl
  · obtain ⟨d, n, rfl, ⟨x, y, hd, x0, y0, y1⟩, n0, n1, k⟩ := h
    have hu := hu_of hr
    refine ⟨_, pss_cons (ps_if (pt_cmpR op_ge (pe_dget hu (pv 0) pe_str (fun _ _ => rfl)) (pv 1) (nomark _))
        (pss_cons (ps_set (i := 2) scDraw.nd rfl (Or.inl rfl) (pe_op op_mod (pe_dget hu (pv 0) pe_str (fun _ _ => rfl)) (pv 1)))
        (pss_cons (ps_dput hu (pv 0) pe_str (pe_op op_fdiv (pe_dget hu (pv 0) pe_str (fun _ _ => rfl)) (pv 1)) rfl)
        (pss_one (ps_ret (pv 2))))) pss_nil)
      (pss_cons (ps_dput hu (pv 0) pe_str (pe_op op_mod (pe_op op_add (pe_op op_mul (pe_dget hu (pv 0) pe_str (fun _ _ => rfl)) pe_int) pe_int) pe_int) rfl)
      (pss_one (ps_ret (pe_op op_mod (pe_op op_fdiv (pe_op op_mod (pe_op op_pow (pe_op op_mod (pe_op op_pow (pe_dget hu (pv 0) pe_str (fun _ _ => rfl)) pe_int) pe_int) pe_int) pe_int) pe_int) (pv 1))))), ?_⟩
    have gx : ∀ {H : Hp} {x y : Int}, H d = some (.dK (dk x y)) → DGet H d (.str "digits") (some (.int x)) := fun {H x y} e => by
      have := DGet.k (k := Sum.inr "digits") e
      rw [dk_digits] at this
      exact this
    have gy : ∀ {H : Hp} {x y : Int}, H d = some (.dK (dk x y)) → DGet H d (.str "mixed") (some (.int y)) := fun {H x y} e => by
      have := DGet.k (k := Sum.inr "mixed") e
      rw [dk_mixed] at this
      exact this
    have px : ∀ {H : Hp} {x y z : Int}, H d = some (.dK (dk x y)) → DPut H d (.str "digits") (.int z) (upd H d (.dK (dk z y))) := fun {H x y z} e => by
      have := DPut.k (k := Sum.inr "digits") (v := .int z) e (by show 2 < sizeLine; decide)
      rw [dk_put_digits] at this
      exact this
    have py : ∀ {H : Hp} {x y z : Int}, H d = some (.dK (dk x y)) → DPut H d (.str "mixed") (.int z) (upd H d (.dK (dk x z))) := fun {H x y z} e => by
      have := DPut.k (k := Sum.inr "mixed") (v := .int z) e (by show 2 < sizeLine; decide)
      rw [dk_put_mixed] at this
      exact this
    refine ⟨_, rfl, d, _, rfl, gx hd, _, rfl, _, _, rfl, rfl, _, rfl, ?_⟩
    refine ite2 (fun c => ?_) (fun c => ?_)
    · refine ⟨_, rfl, d, _, rfl, gx hd, _, rfl, _, _, rfl, rfl, n0, ?_⟩
      refine ⟨_, rfl, d, _, rfl, gx hd, _, rfl, _, _, rfl, rfl, ⟨n0, n1⟩, _, rfl, d, _, rfl, px hd, ?_⟩
      exact ⟨_, rfl, k _ _ (Int.emod_nonneg _ (by omega)) (Int.emod_lt_of_pos _ n0) ⟨_, y, upd_same, Int.ediv_nonneg x0 (by omega), y0, y1⟩ But.upd⟩
    · have m0 := Int.emod_nonneg (y * 39373 + 2027) (b := 2147483549) (by decide)
      have m1 := Int.emod_lt_of_pos (y * 39373 + 2027) (b := 2147483549) (by decide)
      refine ⟨_, rfl, d, _, rfl, gy hd, _, _, rfl, rfl, .inr ⟨by decide, by decide⟩, _, _, rfl, rfl, _, _, rfl, rfl, (by show (0 : Int) < 2147483549; decide), _, rfl, d, _, rfl, py hd, ?_⟩
      refine ⟨_, rfl, d, _, rfl, gy upd_same, _, _, rfl, rfl, ⟨by decide, by decide, by omega⟩, _, _, rfl, rfl, (by show (0 : Int) < 2147483423; decide), ?_⟩
      have q0 := Int.emod_nonneg (((y * 39373 + 2027) % 2147483549) ^ (2 : Int).toNat) (b := 2147483423) (by decide)
      have q1 := Int.emod_lt_of_pos (((y * 39373 + 2027) % 2147483549) ^ (2 : Int).toNat) (b := 2147483423) (by decide)
      refine ⟨_, _, rfl, rfl, ⟨by decide, by decide, by omega⟩, _, _, rfl, rfl, (by show (0 : Int) < 998244353; decide), _, _, rfl, rfl, ⟨by decide, by decide⟩, _, rfl, _, _, rfl, rfl, n0, ?_⟩
      exact k _ _ (Int.emod_nonneg _ (by omega)) (Int.emod_lt_of_pos _ n0) ⟨x, _, upd_same, x0, m0, by omega⟩ But.upd
/-! ### one of some things -/
def spChoose (K : PySem.W.Frag) : Sp := fun vs H Q _ => ∃ (d t : Addr) (xs : List V), vs = [.ref d, .ref t] ∧ DeckAt H d ∧ SqL K H t xs ∧ xs ≠ [] ∧ xs.length < 1000000 ∧ ∀ (v : V) (H' : Hp), v ∈ xs → DeckAt H' d → But d H H' → Q v H'
theorem scChoose : FnScope ["deck", "things"] ["deck", "things"] (defScope sChoose) := ⟨rfl, rfl, rfl, by decide +kernel, rfl, by decide +kernel, by decide +kernel⟩
theorem ok_choose {f fD : Addr} {fd fdD : FuncData} (F : Fun K "_law_choose" "_law_choose" sChoose f fd) (T : TxtD mg) (FD : Fun K "_law_draw" "_law_draw" sDraw fD fdD) (bD : Binds K fdD ["deck", "size"] []) (mD : mg "_law_draw" = some (.ref fD)) :
    FnOk P w K mg base CX0 2 f fd ["deck", "things"] (spChoose K) := by
  have GD : FnOk P w K mg base CX0 1 fD fdD ["deck", "size"] spDraw := ok_draw FD
  refine F.ok scChoose (fun vs H Q E h => ?_) (fun cdv A outer s H vs Q E hr h => ?_)
  · obtain ⟨d, t, xs, rfl, _⟩ := h
    rfl
  · obtain ⟨d, t, xs, rfl, D, hS, h0, h1, k⟩ := h
    refine ⟨_, pss_one (ps_ret (pe_ix ix_list (pv 1) (pe_call GD hr rfl mD FD.kp bD .nil pass0 (pa_cons (pv 0) (pa_cons (pe_callB call_len_seq (by rfl) T.len PySem.boot_len (pa_cons (pv 1) pa_nil)) pa_nil))) (fun _ _ => rfl))), ?_⟩
    have hl : 0 < xs.length := List.length_pos_iff.mpr h0
    refine ⟨_, rfl, _, rfl, _, rfl, t, _, rfl, .inl hS, d, _, rfl, D, by omega, by omega, fun r H' r0 r1 D' B => ?_⟩
    obtain ⟨n, rfl⟩ : ∃ n : Nat, r = (n : Int) := ⟨r.toNat, by omega⟩
    have hn : n < xs.length := by omega
    have hat : xs[n]? = some xs[n] := List.getElem?_eq_getElem hn
    exact ⟨t, _, _, _, rfl, rfl, B.seq D hS, atI_nat hat, k _ _ (List.getElem_mem hn) D' B⟩
end
/-! ### the walk through the ids meets a free one -/
theorem len_le_of_sub : ∀ (xs ys : List Int), xs.Nodup → (∀ x ∈ xs, x ∈ ys) → xs.length ≤ ys.length
  | [], _, _, _ => Nat.zero_le _
  | x :: r, ys, hn, hs => by
    have hx : x ∈ ys := hs x List.mem_cons_self
    have hn' := List.nodup_cons.mp hn
    have ih := len_le_of_sub r (ys.erase x) hn'.2 fun z hz => (List.mem_erase_of_ne (fun e => hn'.1 (by rw [← e]; exact hz))).mpr (hs z (List.mem_cons_of_mem _ hz))
    have hl := List.length_erase_of_mem hx
    have : 0 < ys.length := List.length_pos_of_mem hx
    show r.length + 1 ≤ ys.length
    omega
def nx (z : Int) (i : Nat) : Int := (z - 1 + (i : Int)) % 1000000 + 1
theorem nx_zero {z : Int} (h0 : 1 ≤ z) (h1 : z ≤ 1000000) : nx z 0 = z := by unfold nx; omega
theorem nx_succ {z : Int} {i : Nat} : nx z i % 1000000 + 1 = nx z (i + 1) := by unfold nx; omega
theorem nx_lo (z : Int) (i : Nat) : 1 ≤ nx z i := by unfold nx; omega
theorem nx_hi (z : Int) (i : Nat) : nx z i ≤ 1000000 := by unfold nx; omega
theorem nx_inj {z : Int} {i j : Nat} (hi : i < 1000) (hj : j < 1000) (h : nx z i = nx z j) : i = j := by unfold nx at h; omega
theorem nx_few {z : Int} {js : List Int} {t : Nat} (ht : t ≤ 500) (h : ∀ i, i < t → nx z i ∈ js) : t ≤ js.length := by
  have a : ((List.range t).map (nx z)).Nodup := by
    refine List.pairwise_map.mpr ?_
    refine List.Pairwise.imp_of_mem ?_ (List.pairwise_lt_range (n := t))
    intro i j hi hj l e
    have q := nx_inj (by have := List.mem_range.mp hi; omega) (by have := List.mem_range.mp hj; omega) e
    omega
  have b := len_le_of_sub _ js a (fun x hx => by
    obtain ⟨i, hi, rfl⟩ := List.mem_map.mp hx
    exact h i (List.mem_range.mp hi))
  rw [List.length_map, List.length_range] at b
  exact b
theorem eqV_int (i j : Int) : eqV (.int i) (.int j) = decide (i = j) := by
  first
    | rfl
    | simp [eqV]
theorem inV_int (z : Int) (js : List Int) : inV (.int z) (js.map V.int) = decide (z ∈ js) := by
  unfold inV
  rw [List.any_map]
  induction js with
  | nil => rfl
  | cons a r ih =>
    rw [List.any_cons, ih]
    show (eqV (.int a) (.int z) || decide (z ∈ r)) = decide (z ∈ a :: r)
    rw [eqV_int]
    by_cases e : a = z
    · subst e
      simp
    · have e' : ¬ z = a := fun q => e q.symm
      simp [e, e']
theorem all_flat (js : List Int) : (js.map V.int).all flatV = true := by
  induction js with
  | nil => rfl
  | cons a r ih => exact ih
/-! ### sets of ints -/
/-- S is the set of the ints ns, n their number -/
def SetIs (ns : List Int) (S : Int → Bool) (n : Nat) : Prop := (∀ k, S k = decide (k ∈ ns)) ∧ ∃ L : List Int, L.Nodup ∧ L.length = n ∧ ∀ k, k ∈ L ↔ k ∈ ns
theorem shorter : ∀ ns : List Int, ¬ ns.Nodup → ∃ ms : List Int, ms.length < ns.length ∧ ∀ k ∈ ns, k ∈ ms
  | [], h => absurd List.nodup_nil h
  | a :: r, h => by
    by_cases ha : a ∈ r
    · exact ⟨r, Nat.lt_succ_self _, fun k hk => by
        rcases List.mem_cons.mp hk with e | e
        · rw [e]; exact ha
        · exact e⟩
    · have hr : ¬ r.Nodup := fun q => h (List.nodup_cons.mpr ⟨ha, q⟩)
      obtain ⟨ms, h1, h2⟩ := shorter r hr
      exact ⟨a :: ms, Nat.succ_lt_succ h1, fun k hk => by
        rcases List.mem_cons.mp hk with e | e
        · rw [e]; exact List.mem_cons_self
        · exact List.mem_cons_of_mem _ (h2 k e)⟩
theorem SetIs.count {ns : List Int} {S : Int → Bool} {n : Nat} (h : SetIs ns S n) : ((n : Int) = (ns.length : Int)) ↔ ns.Nodup := by
  obtain ⟨_, L, h1, h2, h3⟩ := h
  have a := len_le_of_sub L ns h1 fun k hk => (h3 k).mp hk
  constructor
  · intro e
    by_cases hN : ns.Nodup
    · exact hN
    · obtain ⟨ms, m1, m2⟩ := shorter ns hN
      have b := len_le_of_sub L ms h1 fun k hk => m2 k ((h3 k).mp hk)
      omega
  · intro hN
    have b := len_le_of_sub ns L hN fun k hk => (h3 k).mpr hk
    omega
theorem firstMet_nodup (val : Nat → Int) : ∀ i, (firstMet val i).Nodup
  | 0 => by rw [firstMet_zero]; exact List.nodup_nil
  | i + 1 => by
    rw [firstMet_succ]
    unfold step_dedup
    have ih := firstMet_nodup val i
    split
    · exact ih
    · rename_i h
      refine List.nodup_append.mpr ⟨ih, by simp, ?_⟩
      intro a ha b hb e
      have : b = val i := by simpa using hb
      refine h (List.any_eq_true.mpr ⟨a, ha, ?_⟩)
      rw [e, this]
      simp
theorem getD_range (ns : List Int) : (List.range ns.length).map (fun i => ns.getD i 0) = ns := by
  apply List.ext_getElem
  · simp
  · intro i h1 h2
    simp [List.getD, h2]
theorem firstMet_mem (ns : List Int) (k : Int) : k ∈ firstMet (fun i => ns.getD i 0) ns.length ↔ k ∈ ns := by
  have h := firstMet_any (fun i => ns.getD i 0) ns.length k
  rw [getD_range] at h
  have e : ∀ l : List Int, (l.any (· == k) = true) ↔ k ∈ l := fun l => by
    rw [List.any_eq_true]
    constructor
    · rintro ⟨x, hx, q⟩
      have : x = k := by simpa using q
      rw [← this]; exact hx
    · intro hk
      exact ⟨k, hk, by simp⟩
  rw [← e, ← e, h]
def rSetI (K : PySem.W.Frag) : List V → Hp → VK → Prop := fun xs H Q => ∃ (p : Addr) (ns : List Int), xs = [.ref p] ∧ (SqL K H p (ns.map V.int) ∨ SqT K H p (ns.map V.int)) ∧ ns.length ≤ 4000 ∧
  ∀ (q : Addr) (S : Int → Bool) (n : Nat), H q = none → SetIs ns S n → n ≤ ns.length → Q (.ref q) (upd H q (.set S n))
section
variable {X : Cx}
theorem cr_setI (hc : X.calm = true) : CallR X (.type "set") (rSetI X.K) := by
  intro pins s σ H xs us Q I r h
  obtain ⟨p, ns, rfl, hq, hlen, k⟩ := h
  rw [Vals.ref1 r]
  have hs : scanBound = 4096 := rfl
  rcases hq with hq | hq
  · obtain ⟨its, rv, pl, hz⟩ := I.list hq
    have hl := rv.length
    rw [List.length_map] at hl
    refine call_set_list (I.ok.hd hc) pl.isList (ns := ns) (Vals.ints rv) (by rw [List.size_toArray, hs]; omega) fun h' tk R kk => ?_
    have esz : its.toArray.size = ns.length := by rw [List.size_toArray]; omega
    rw [esz] at R
    have hn := firstMet_mem ns
    have hset : SetIs ns (fun k' => (firstMet (fun i => ns.getD i 0) ns.length).any (· == k')) (firstMet (fun i => ns.getD i 0) ns.length).length := by
      refine ⟨fun k => ?_, _, firstMet_nodup _ _, rfl, hn⟩
      rw [Bool.eq_iff_iff, decide_eq_true_iff, ← hn k, List.any_eq_true]
      constructor
      · rintro ⟨x, hx, q⟩
        have : x = k := by simpa using q
        rw [← this]; exact hx
      · intro hk
        exact ⟨k, hk, by simp⟩
    have I' := I.laid (a := s.heap.objs.size) (o := .set _ _) (h' := h') (t' := tk) (fun b u e => kk b u (Heap.lt_size e) e) (Nat.le_refl _) R
    exact ⟨.ref _, _, I', rfl, k _ _ _ (I.hok.fresh (Nat.le_refl _)) hset (firstMet_length_le _ _)⟩
  · obtain ⟨its, rv, pl, hz⟩ := I.tuple hq
    have hl := rv.length
    rw [List.length_map] at hl
    refine call_set_tupI ns (I.ok.hd hc) pl (Vals.ints rv) (by rw [hs]; omega) fun h' tk c R hle kk => ?_
    have hset : SetIs ns (fun j => decide (j ∈ ns)) c := by
      obtain ⟨o, es, ep, t, h1, h2, h3, h4, h5, h6, h7, h8, h9, _⟩ := id R
      refine ⟨fun k => rfl, es.toList.map keyOf, h5, ?_, fun k => ?_⟩
      · rw [List.length_map, ← h9]; rfl
      · rw [← h6 k, decide_eq_true_iff]
    have I' := I.laid (a := s.heap.objs.size) (o := .set _ _) (h' := h') (t' := tk) (fun b u e => kk b u e) (Nat.le_refl _) (SetR.setOf R)
    exact ⟨.ref _, _, I', rfl, k _ _ _ (I.hok.fresh (Nat.le_refl _)) hset hle⟩
def rInSet (neg : Bool) : R2 := fun x y H Q => ∃ (k : Int) (a : Addr) (S : Int → Bool) (n : Nat), x = .int k ∧ y = .ref a ∧ H a = some (.set S n) ∧ Q (.bl (if neg then !S k else S k)) H
theorem op_inSet : OpR X (compareOp .In) (rInSet false) := by
  intro pins s σ H x y v u Q I rx ry h
  obtain ⟨k, a, S, n, rfl, rfl, ha, q⟩ := h
  cases ry
  obtain ⟨t, rfl⟩ := rx
  exact wpAny_inSet_of (knd := PySem.intKind X.prog X.w) (k := k) (by first | rfl | simp [PySem.intKind, Value.isInt]) rfl (I.hok a _ ha) ⟨.bl (S k), H, I.tok _, rfl, q⟩
theorem op_notInSet : OpR X (compareOp .NotIn) (rInSet true) := by
  intro pins s σ H x y v u Q I rx ry h
  obtain ⟨k, a, S, n, rfl, rfl, ha, q⟩ := h
  cases ry
  obtain ⟨t, rfl⟩ := rx
  exact wpAny_notInSet_of (knd := PySem.intKind X.prog X.w) (k := k) (by first | rfl | simp [PySem.intKind, Value.isInt]) rfl (I.hok a _ ha) ⟨.bl (!S k), H, I.tok _, rfl, q⟩
theorem call_lenSet : CallR X (.builtin "len") (fun xs H Q => ∃ a S n, xs = [.ref a] ∧ H a = some (.set S n) ∧ Q (.int n) H) := by
  intro pins s σ H xs us Q I r h
  obtain ⟨a, S, n, rfl, ha, q⟩ := h
  rw [Vals.ref1 r]
  obtain ⟨o, es, ep, t, h1, h2, h3, h4, h5, h6, h7, h8⟩ := I.hok a _ ha
  have hs : scanBound = 4096 := rfl
  refine call_len_set h1 h2 h3 h7 (by omega) ?_
  rw [h8]
  exact ⟨.int n, H, (I.tok (s.toks + 1 + 1)), ⟨_, rfl⟩, q⟩
end
/-! ### data in the heap: flat things, lists, tuples, the empty dict -/
mutual
inductive DV (K : PySem.W.Frag) (H : Hp) : V → PyData → Prop
  | non : DV K H .non .none
  | bl (b : Bool) : DV K H (.bl b) (.bool b)
  | int (i : Int) : DV K H (.int i) (.int i)
  | str (x : Str) : DV K H (.str x) (.str x)
  | lst {a : Addr} {xs : List V} {ds : List PyData} : SqL K H a xs → DVs K H xs ds → DV K H (.ref a) (.list ds)
  | tup {a : Addr} {xs : List V} {ds : List PyData} : SqT K H a xs → DVs K H xs ds → DV K H (.ref a) (.tuple ds)
  | dk0 {a : Addr} : H a = some (.dK []) → DV K H (.ref a) (.dict [])
inductive DVs (K : PySem.W.Frag) (H : Hp) : List V → List PyData → Prop
  | nil : DVs K H [] []
  | cons {v : V} {vs : List V} {d : PyData} {ds : List PyData} : DV K H v d → DVs K H vs ds → DVs K H (v :: vs) (d :: ds)
end
section
variable {K : PySem.W.Frag} {H H' : Hp}
theorem DVs.length {vs : List V} {ds : List PyData} (h : DVs K H vs ds) : vs.length = ds.length := by
  induction vs generalizing ds with
  | nil => cases h; rfl
  | cons v r ih => cases h with | cons _ t => exact congrArg Nat.succ (ih t)
theorem DVs.at {vs : List V} {ds : List PyData} (h : DVs K H vs ds) : ∀ {i : Nat} {v : V}, vs[i]? = some v → ∃ d, ds[i]? = some d ∧ DV K H v d := by
  induction vs generalizing ds with
  | nil => intro i v e; simp at e
  | cons v r ih =>
    cases h with
    | cons p t =>
      intro i u e
      cases i with
      | zero => simp at e; subst e; exact ⟨_, rfl, p⟩
      | succ i => simp at e; obtain ⟨d, h1, h2⟩ := ih t e; exact ⟨d, by simpa using h1, h2⟩
theorem Same.sq {a : Addr} {xs : List V} (e : Same H H') (h : SqL K H a xs) : SqL K H' a xs := e.seq h
theorem Same.tq {a : Addr} {xs : List V} (e : Same H H') (h : SqT K H a xs) : SqT K H' a xs := by
  rcases h with (h | ⟨o, h⟩) | h
  · exact .inl (.inl (e _ _ h))
  · exact .inl (.inr ⟨o, e _ _ h⟩)
  · exact .inr h
mutual
theorem DV.same (e : Same H H') : ∀ {d : PyData} {v : V}, DV K H v d → DV K H' v d
  | _, _, .non => .non
  | _, _, .bl b => .bl b
  | _, _, .int i => .int i
  | _, _, .str x => .str x
  | _, _, .lst h t => .lst (Same.sq e h) (DVs.same e t)
  | _, _, .tup h t => .tup (Same.tq e h) (DVs.same e t)
  | _, _, .dk0 h => .dk0 (e _ _ h)
theorem DVs.same (e : Same H H') : ∀ {ds : List PyData} {vs : List V}, DVs K H vs ds → DVs K H' vs ds
  | _, _, .nil => .nil
  | _, _, .cons p t => .cons (DV.same e p) (DVs.same e t)
end
/-- a value's built-in type by its name -/
def TyD (K : PySem.W.Frag) (H : Hp) (x : V) : Prop := ∃ nm : String, TyX K H x (.type nm) ∧ ((nm = "NoneType" ∧ x = .non) ∨ (nm = "bool" ∧ ∃ b, x = .bl b) ∨ (nm = "int" ∧ ∃ i, x = .int i) ∨ (nm = "str" ∧ ∃ z, x = .str z) ∨
  (nm = "list" ∧ ∃ a, x = .ref a) ∨ (nm = "tuple" ∧ ∃ a, x = .ref a) ∨ (nm = "dict" ∧ ∃ a, x = .ref a))
theorem tyL {a : Addr} {xs : List V} (h : SqL K H a xs) : TyX K H (.ref a) (.type "list") := by
  rcases h with (h | ⟨o, h⟩) | ⟨o, _, _, h, c, _⟩
  · exact .base (.lst h)
  · exact .base (.frz h)
  · exact .kList h c
theorem tyT {a : Addr} {xs : List V} (h : SqT K H a xs) : TyX K H (.ref a) (.type "tuple") := by
  rcases h with (h | ⟨o, h⟩) | ⟨o, _, _, h, c, _⟩
  · exact .base (.tup h)
  · exact .fTuple h
  · exact .kTuple h c
theorem DV.ty {v : V} {d : PyData} (h : DV K H v d) : TyD K H v := by
  cases h with
  | non => exact ⟨_, .base .non, .inl ⟨rfl, rfl⟩⟩
  | bl b => exact ⟨_, .base (.bl b), .inr (.inl ⟨rfl, b, rfl⟩)⟩
  | int i => exact ⟨_, .base (.int i), .inr (.inr (.inl ⟨rfl, i, rfl⟩))⟩
  | str x => exact ⟨_, .base (.str x), .inr (.inr (.inr (.inl ⟨rfl, x, rfl⟩)))⟩
  | lst h t => exact ⟨_, tyL h, .inr (.inr (.inr (.inr (.inl ⟨rfl, _, rfl⟩))))⟩
  | tup h t => exact ⟨_, tyT h, .inr (.inr (.inr (.inr (.inr (.inl ⟨rfl, _, rfl⟩)))))⟩
  | dk0 h => exact ⟨_, .base (.dK h), .inr (.inr (.inr (.inr (.inr (.inr ⟨rfl, _, rfl⟩)))))⟩
end
def wholeV : V → Bool
  | .int _ => true
  | _ => false
def wholeD : PyData → Bool
  | .int _ => true
  | _ => false
theorem DV.whole {K : PySem.W.Frag} {H : Hp} {v : V} {d : PyData} (h : DV K H v d) : wholeV v = wholeD d := by cases h <;> rfl
structure TxtV (mg : Str → Option Value) : Prop where
  len : mg "len" = none
  isi : mg "isinstance" = none
  int : mg "int" = none
  bool : mg "bool" = none
  tuple : mg "tuple" = none
  set : mg "set" = none
  all : mg "all" = none
  list : mg "list" = none
def isTup : PyData → Bool
  | .tuple _ => true
  | _ => false
def isLst : PyData → Bool
  | .list _ => true
  | _ => false
theorem kb1 : kitB "NoneType" "tuple" = some false := by decide +kernel
theorem kb2 : kitB "NoneType" "list" = some false := by decide +kernel
theorem kb3 : kitB "bool" "tuple" = some false := by decide +kernel
theorem kb4 : kitB "bool" "list" = some false := by decide +kernel
theorem kb5 : kitB "int" "tuple" = some false := by decide +kernel
theorem kb6 : kitB "int" "list" = some false := by decide +kernel
theorem kb7 : kitB "str" "tuple" = some false := by decide +kernel
theorem kb8 : kitB "str" "list" = some false := by decide +kernel
theorem kb9 : kitB "list" "tuple" = some false := by decide +kernel
theorem kb10 : kitB "list" "list" = some true := by decide +kernel
theorem kb11 : kitB "tuple" "tuple" = some true := by decide +kernel
theorem kb12 : kitB "tuple" "list" = some false := by decide +kernel
theorem kb13 : kitB "dict" "tuple" = some false := by decide +kernel
theorem kb14 : kitB "dict" "list" = some false := by decide +kernel
theorem DV.kit {K : PySem.W.Frag} {H : Hp} {v : V} {d : PyData} (h : DV K H v d) : ∃ nm : String, TyX K H v (.type nm) ∧ PySem.W.kitOne K (.type nm) (.type "tuple") = some (isTup d) ∧ PySem.W.kitOne K (.type nm) (.type "list") = some (isLst d) := by
  cases h with
  | non => exact ⟨_, .base .non, kit_ty kb1, kit_ty kb2⟩
  | bl b => exact ⟨_, .base (.bl b), kit_ty kb3, kit_ty kb4⟩
  | int i => exact ⟨_, .base (.int i), kit_ty kb5, kit_ty kb6⟩
  | str x => exact ⟨_, .base (.str x), kit_ty kb7, kit_ty kb8⟩
  | lst h t => exact ⟨_, tyL h, kit_ty kb9, kit_ty kb10⟩
  | tup h t => exact ⟨_, tyT h, kit_ty kb11, kit_ty kb12⟩
  | dk0 h => exact ⟨_, .base (.dK h), kit_ty kb13, kit_ty kb14⟩
/-! ### the plain functions -/
def intOf : PyData → Int
  | .int i => i
  | _ => 0
theorem whole_all {K : PySem.W.Frag} {H : Hp} : ∀ {ds : List PyData} {vs : List V}, DVs K H vs ds → ds.all wholeD = true → vs = (ds.map intOf).map V.int
  | _, _, .nil, _ => rfl
  | d :: ds, v :: vs, .cons p t, h => by
    rw [List.all_cons, Bool.and_eq_true] at h
    rw [List.map_cons, List.map_cons, ← whole_all t h.2]
    cases p <;> first | rfl | (exact absurd h.1 (by intro q; cases q))
theorem DVs.wholes {K : PySem.W.Frag} {H : Hp} {ds : List PyData} {vs : List V} (h : DVs K H vs ds) {i : Nat} {v : V} (e : vs[i]? = some v) : ∃ d, ds[i]? = some d ∧ wholeV v = wholeD d ∧ TyD K H v := by
  obtain ⟨d, h1, h2⟩ := h.at e
  exact ⟨d, h1, h2.whole, h2.ty⟩
theorem take_snoc {α : Type} {l : List α} {i : Nat} {x : α} (h : l[i]? = some x) : l.take (i + 1) = l.take i ++ [x] := by
  rw [List.take_succ, h]; rfl
theorem lt_of_some {α : Type} {l : List α} {i : Nat} {x : α} (h : l[i]? = some x) : i < l.length := (List.getElem?_eq_some_iff.mp h).1
theorem cut_to (xs : List V) (k : Nat) : cutV xs none (some (k : Int)) = xs.take k := by
  unfold cutV
  rw [HT.sIx_none, HT.sIx_nat, List.drop_zero, Nat.sub_zero]
  rcases Nat.le_total k xs.length with h | h
  · rw [Nat.min_eq_left h]
  · rw [Nat.min_eq_right h, List.take_length, List.take_of_length_le h]
theorem cut_from (xs : List V) (k : Nat) : cutV xs (some (k : Int)) none = xs.drop k := by
  unfold cutV
  rw [HT.sIx_none, HT.sIx_nat]
  rcases Nat.le_total k xs.length with h | h
  · rw [Nat.min_eq_left h, ← List.length_drop, List.take_length]
  · rw [Nat.min_eq_right h, Nat.sub_self, List.take_zero, List.drop_of_length_le h]
theorem eqvAll_ints : ∀ xs ys : List Int, PyData.eqvAll (xs.map .int) (ys.map .int) = decide (xs = ys)
  | [], [] => by simp [PyData.eqvAll]
  | [], _ :: _ => by simp [PyData.eqvAll]
  | _ :: _, [] => by simp [PyData.eqvAll]
  | x :: xs, y :: ys => by
    rw [List.map_cons, List.map_cons, PyData.eqvAll, eqvAll_ints xs ys, PyData.eqv]
    by_cases h : x = y
    · subst h
      simp
    · simp [h]
theorem canLay_ints : ∀ xs : List Int, PyData.canLayAll0 (xs.map .int) = true
  | [] => by rw [List.map_nil, PyData.canLayAll0]
  | x :: xs => by rw [List.map_cons, PyData.canLayAll0, canLay_ints xs, PyData.canLay0]; rfl
theorem depthAll_ints : ∀ xs : List Int, PyData.depthAll (xs.map .int) ≤ 1
  | [] => by rw [List.map_nil, PyData.depthAll]; omega
  | x :: xs => by
    have := depthAll_ints xs
    rw [List.map_cons, PyData.depthAll, PyData.depth]
    omega
theorem shaped_ints (xs : List Int) : SeqAt.shaped (.list (xs.map .int)) = true := by
  unfold SeqAt.shaped
  rw [Bool.and_eq_true]
  refine ⟨?_, decide_eq_true ?_⟩
  · rw [PyData.canLay0]; exact canLay_ints xs
  · have := depthAll_ints xs
    rw [PyData.depth]
    omega
theorem DpAll.ints {K : PySem.W.Frag} {H : Hp} : ∀ xs : List Int, DpAll K H (xs.map V.int) (xs.map .int)
  | [] => .nil
  | x :: xs => .cons (.int x) (DpAll.ints xs)
def rEqL (K : PySem.W.Frag) : R2 := fun x y H Q => ∃ (p q : Addr) (xs ys : List Int), x = .ref p ∧ y = .ref q ∧ SqL K H p (xs.map V.int) ∧ SqL K H q (ys.map V.int) ∧ Q (.bl (decide (xs = ys))) H
def rNeL (K : PySem.W.Frag) : R2 := fun x y H Q => ∃ (p q : Addr) (xs ys : List Int), x = .ref p ∧ y = .ref q ∧ SqL K H p (xs.map V.int) ∧ SqL K H q (ys.map V.int) ∧ Q (.bl (!decide (xs = ys))) H
section
variable {X : Cx}
theorem op_eqL (hu : X.A.units + 64 < cLine) : OpR X (compareOp .Eq) (rEqL X.K) := by
  intro pins s σ H x y v u Q I rx ry h
  obtain ⟨p, q, xs, ys, rfl, rfl, h1, h2, k⟩ := h
  refine op_eqD hu pins s σ H _ _ v u Q I rx ry ⟨_, _, .lst h1 (DpAll.ints xs), .lst h2 (DpAll.ints ys), shaped_ints xs, shaped_ints ys, ?_⟩
  rw [PyData.eqv, eqvAll_ints]
  exact k
theorem op_neL (hu : X.A.units + 64 < cLine) : OpR X (compareOp .NotEq) (rNeL X.K) := by
  intro pins s σ H x y v u Q I rx ry h
  obtain ⟨p, q, xs, ys, rfl, rfl, h1, h2, k⟩ := h
  refine op_neD hu pins s σ H _ _ v u Q I rx ry ⟨_, _, .lst h1 (DpAll.ints xs), .lst h2 (DpAll.ints ys), shaped_ints xs, shaped_ints ys, ?_⟩
  rw [PyData.eqv, eqvAll_ints]
  exact k
end
theorem hu64 {A : Around} {k : Nat} (hr : Room k A) : A.units + 64 < cLine := by have := hr.un; omega
/-- behind Hd: all as it was but the deck at d, and these objects stand -/
def Fs (d : Addr) (Hd : Hp) (fs : List (Addr × HO)) (H' : Hp) : Prop := But d Hd H' ∧ DeckAt H' d ∧ ∀ p ∈ fs, p.1 ≠ d ∧ H' p.1 = some p.2
section
variable {d p p0 p1 p2 p3 p4 p5 : Addr} {Hd H1 H2 : Hp} {fs : List (Addr × HO)} {o o0 o1 o2 o3 o4 o5 : HO}
theorem Fs.start (D : DeckAt Hd d) : Fs d Hd [] Hd := ⟨But.refl _ _, D, fun _ h => by cases h⟩
theorem Fs.step (F : Fs d Hd fs H1) (D : DeckAt H2 d) (B : But d H1 H2) : Fs d Hd fs H2 := ⟨F.1.trans B, D, fun q hq => ⟨(F.2.2 q hq).1, B _ _ (F.2.2 q hq).1 (F.2.2 q hq).2⟩⟩
theorem Fs.same (F : Fs d Hd fs H1) (s : Same H1 H2) : Fs d Hd fs H2 := F.step (F.2.1.same s) (But.of s)
theorem Fs.add (F : Fs d Hd fs H1) (h : H1 p = some o) (n : ∀ x y, o ≠ .dK (dk x y)) : Fs d Hd ((p, o) :: fs) H1 := ⟨F.1, F.2.1, fun q hq => by
  rcases List.mem_cons.mp hq with e | e
  · subst e
    obtain ⟨x, y, hd, _⟩ := F.2.1
    exact ⟨ne_of h hd (n x y), h⟩
  · exact F.2.2 q e⟩
theorem Fs.new (F : Fs d Hd fs H1) (h : H1 p = none) (n : ∀ x y, o ≠ .dK (dk x y)) : Fs d Hd ((p, o) :: fs) (upd H1 p o) := (F.same (Same.new h)).add upd_same n
theorem Fs.skip (F : Fs d Hd fs H1) (h : H1 p = none) : Fs d Hd fs (upd H1 p o) := F.same (Same.new h)
theorem Fs.tail (F : Fs d Hd ((p, o) :: fs) H1) : Fs d Hd fs H1 := ⟨F.1, F.2.1, fun q hq => F.2.2 q (List.mem_cons_of_mem _ hq)⟩
theorem Fs.deck (F : Fs d Hd fs H1) : DeckAt H1 d := F.2.1
theorem Fs.g0 (F : Fs d Hd ((p0, o0) :: fs) H1) : H1 p0 = some o0 := (F.2.2 _ List.mem_cons_self).2
theorem Fs.g1 (F : Fs d Hd ((p0, o0) :: (p1, o1) :: fs) H1) : H1 p1 = some o1 := F.tail.g0
theorem Fs.g2 (F : Fs d Hd ((p0, o0) :: (p1, o1) :: (p2, o2) :: fs) H1) : H1 p2 = some o2 := F.tail.g1
theorem Fs.g3 (F : Fs d Hd ((p0, o0) :: (p1, o1) :: (p2, o2) :: (p3, o3) :: fs) H1) : H1 p3 = some o3 := F.tail.g2
theorem Fs.g4 (F : Fs d Hd ((p0, o0) :: (p1, o1) :: (p2, o2) :: (p3, o3) :: (p4, o4) :: fs) H1) : H1 p4 = some o4 := F.tail.g3
/-- what stood ahead of the deck stands -/
theorem Fs.old {H : Hp} (F : Fs d Hd fs H1) (hd : H d = none) (s : Same H Hd) : Same H H1 := fun b u h => F.1 b u (ne_of_none h hd) (s b u h)
end
theorem nl {xs : List V} : ∀ x y, HO.lst xs ≠ .dK (dk x y) := fun _ _ h => by cases h
theorem nt {xs : List V} : ∀ x y, HO.tup xs ≠ .dK (dk x y) := fun _ _ h => by cases h
theorem cut_mid (js : List Int) {f t : Nat} (h : f < js.length) : cutV (js.map V.int) (some (f : Int)) (some ((f : Int) + 1 + (t : Int))) = ((js.drop f).take (t + 1)).map V.int := by
  unfold cutV
  have e : (f : Int) + 1 + (t : Int) = ((f + 1 + t : Nat) : Int) := by omega
  rw [e, HT.sIx_nat, HT.sIx_nat, List.length_map, Nat.min_eq_left (by omega : f ≤ js.length), List.map_take, List.map_drop]
  rcases Nat.le_total (f + 1 + t) js.length with q | q
  · rw [Nat.min_eq_left q]
    congr 1
    omega
  · rw [Nat.min_eq_right q, List.take_of_length_le, List.take_of_length_le]
    · rw [List.length_drop, List.length_map]; omega
    · rw [List.length_drop, List.length_map]; omega
/-! ### defs that are called where no repr is under way (their context's guards are known to be none) -/
/-- the promise of a def, wherever no guard stands -/
structure FnG (P : Program) (w : World) (K : PySem.W.Frag) (mg : Str → Option Value) (base : Heap) (k : Nat) (f : Addr) (fd : FuncData) (ps : List Str) (sp : Sp) : Prop where
  len : ∀ vs H Q E, sp vs H Q E → vs.length = ps.length
  go : ∀ {A : Around} {outer : List Env} {s : Shared} {H : Hp} {args : Args} {us : List Value} {vs : List V} {Q : VK} {E : XK}, A.guards = some [] → Room k A → Env0 P w K mg base A outer s H →
    BindsTo s fd args (ps.zip us) → Vals vs us → sp vs H Q E → codeAny (model P w) A (.call (.ref f) args) (CR CX0 outer P w H s Q E) s
section
variable {P : Program} {w : World} {K : PySem.W.Frag} {mg : Str → Option Value} {base : Heap}
/-- by its body -/
theorem FnG.mk' {x qual : Str} {st : Stmt} {f : Addr} {fd : FuncData} {N ps : List Str} {k : Nat} {sp : Sp} (F : Fun K x qual st f fd) (S : FnScope N ps (defScope st)) (len : ∀ vs H Q E, sp vs H Q E → vs.length = ps.length)
    (body : ∀ (cdv : Value) (A : Around) (outer : List Env) (s : Shared) (H : Hp) (vs : List V) (Q : VK) (E : XK), (A.deeper (envOfC qual (defScope st) s.heap.objs.size f cdv)).guards = some [] → Room k (A.deeper (envOfC qual (defScope st) s.heap.objs.size f cdv)) → sp vs H Q E →
      ∃ t, PSs (cxOf CX0 P w K mg base N qual (defScope st) f cdv A outer s H E).nox (defBody st) t ∧ t { nx := fun _ H' => Q .non H', rt := Q } (start N vs) H) : FnG P w K mg base (k + 1) f fd ps sp := by
  obtain ⟨oc, od, kV, doc, pm, an, cdv, ct, osl, rfl, lk, hcd⟩ := F.ex
  refine ⟨len, ?_⟩
  intro A outer s H args us vs Q E hg hr en hb rel hsp
  have kept : ∀ b o, base.get? b = some o → s.heap.get? b = some o := fun b o q => (en.bs b o q).1
  have inK := en.mod.kin.keeps kept
  refine codeAny_call_function hr.depth (inK _ _ lk) rfl S.co S.gen rfl (PySem.W.codeRec_of inK hcd) (hb _ _ _ _ ?_)
  have kinds : ∀ q ∈ ps.zip us, (defScope st).names.lookup q.1 = some .local ∨ ((defScope st).names.lookup q.1 = some .cell ∧ ((cellsFrom (s.heap.objs.size + 1) (defScope st).names []).lookup q.1).isSome = true) := by
    rintro ⟨n, v⟩ hq
    exact (S.par n (List.of_mem_zip hq).1).elim .inl fun c => .inr ⟨c, PySem.W.cellsFrom_some _ _ _ (.inl c)⟩
  refine wpAny_newFunctionEnv_cells S.kind kinds fun env he s1 ic => ?_
  subst he
  obtain ⟨t, ht, hq⟩ := body cdv A outer s H vs Q E hg (hr.deeper _) hsp
  have I0 := inv_start (CX := CX0) (E := E) S hr.hd en (len _ _ _ _ hsp) rel ic
  refine ⟨(en.mod.nolimit.keeps kept).keeps ic.toInCall.keep, codeAny_func ?_⟩
  refine wpAny_mono (ht.nox.run [] s1 _ H _ I0 hq) ?_ fun _ _ z => z
  rintro (_ | _ | _ | u) s' hs
  · obtain ⟨σ', H', J, q⟩ := hs
    exact ⟨.non, H', J.os, J.bare, J.base, J.hok, rfl, q⟩
  · obtain ⟨_, _, _, q⟩ := hs
    exact q.elim
  · obtain ⟨_, _, _, q⟩ := hs
    exact q.elim
  · obtain ⟨v, σ', H', J, rv, q⟩ := hs
    exact ⟨v, H', J.os, J.bare, J.base, J.hok, rv, q⟩
end
section
variable {X : Cx} {k : Nat} {f : Addr} {fd : FuncData} {ps : List Str} {sp : Sp} {E : XK} {x : Str} {p pos : Pos} {e : Expr} {es : List Expr} {t : TA}
/-- such a def called by its name -/
theorem pe_callG (F : FnG X.prog X.w X.K X.mg X.base k f fd ps sp) (hg : X.A.guards = some []) (hr : Room k X.A) (hx : Gl X x) (hm : X.mg x = some (.ref f)) (hk : PySem.W.keepIn X.K (.ref f) = true) (hb : L2.Binds X.K fd ps [])
    (ha : PA X (e :: es) t) (hdb : (x == ("__debug__" : Str)) = false := by decide) (he : starEach (e :: es) X.env = (false, eval e X.env) :: starEach es X.env := by rfl) (hpl : (backTo pos (starEach es X.env)).any (·.1) = false := by rfl) :
    PE X (.Call (.Name x p) (e :: es) [] pos) (tCall sp [] E t) := by
  constructor
  intro pins s σ H Q I h
  have run : ∀ {us : List Value} {vs : List V} {H1 : Hp} {s1 : Shared}, Inv X pins σ H1 s1 → Vals vs us → sp (vs ++ []) H1 Q E → wpAny (model X.prog X.w) X.A (call (.ref f) us) (EP X pins σ Q) X.xe s1 := by
    intro us vs H1 s1 I1 r q
    rw [List.append_nil] at q
    have hl : us.length = ps.length := by rw [← r.length]; exact F.len _ _ _ _ q
    have bt := hb s1 us I1.kIn (by rw [List.append_nil]; exact hl)
    rw [List.append_nil] at bt
    refine wpAny_call (codeAny_mono (F.go hg hr I1.env0 bt r q) ?_)
    rintro (_ | (_ | _ | _ | u)) s2 z
    · exact z.elim
    · exact z.elim
    · exact z.elim
    · exact z.elim
    · exact I1.after z
  refine wpAny_Call_Name_kw (ld_glob I hx hm ?_ hdb)
  exact PySem.W.callWith_K (h₀ := X.base) I.ok.mod.kin hk (thn (ha.run pos pins s σ H _ I h) fun us s1 ⟨vs, H1, I1, r, q⟩ => ⟨I1.kIn, run I1 r q⟩) he hpl
end
/-! ### the end of a law whose def is such a def -/
/-- the heap of which nothing is known but the script -/
def justScript (K : PySem.W.Frag) (a : Addr) (vs : List Value) (ns : List Int) : Hp := fun b =>
  if b = a ∧ K.lookup a = none then some (.frz { cls := .type "list", data := .seq vs.toArray } (.lst (ns.map V.int))) else none
section
variable {P : Program} {w : World} {K : PySem.W.Frag} {mg mb : Str → Option Value} {k : Nat} {fa a : Addr} {fd : FuncData} {x : Str} {sp : Sp} {s₁ : Shared} {vs : List Value} {ns : List Int}
theorem js_out {b : Addr} (h : b ≠ a) : justScript K a vs ns b = none := if_neg fun z => h z.1
theorem js_some {b : Addr} {u : HO} (h : justScript K a vs ns b = some u) : b = a ∧ K.lookup a = none ∧ u = .frz { cls := .type "list", data := .seq vs.toArray } (.lst (ns.map V.int)) := by
  unfold justScript at h
  split at h
  · rename_i c
    exact ⟨c.1, c.2, (Option.some.inj h).symm⟩
  · cases h
theorem lawG (KX : K.In s₁.heap) (hns : s₁.heap.Ns mainGlobals mg) (hb : s₁.heap.Ns builtinsNs mb) (hbb : ∀ x : Str, x ≠ "__name__" → mb x = bootBuiltins x) (hlim : s₁.heap.NoLimit) (hg : s₁.gens = #[])
    (ha : s₁.heap.get? a = some { cls := .type "list", data := .seq vs.toArray }) (hi : IntsAre vs ns) (hl : ns.length ≤ sizeLine) (hr : Room k callerA)
    (F : ∀ base : Heap, K.In base → base.Ns mainGlobals mg → FnG P w K mg base k fa fd [x] sp) (hbind : ∀ (s : Shared) (u : Value), BindsTo s fd ⟨[u], []⟩ [(x, u)])
    (hsp : ∀ H : Hp, Only H → SqL K H a (ns.map V.int) → sp [.ref a] H (fun v _ => v = .bl true) fun _ _ _ => False) :
    codeAny (model P w) callerA (.call (.ref fa) ⟨[.ref a], []⟩) (fun r s' => r = .ok (.ret (.bool true)) ∧ OldK s₁.heap s'.heap ∧ s'.os = s₁.os ∧ AllBare s'.gens) s₁ := by
  have rv := L2.vals_ints hi
  have hlen := hi.length
  obtain ⟨H, hH⟩ : ∃ H, H = justScript K a vs ns := ⟨_, rfl⟩
  have hcases : ∀ b, H b = none ∨ (b = a ∧ K.lookup a = none ∧ H b = some (.frz { cls := .type "list", data := .seq vs.toArray } (.lst (ns.map V.int)))) := by
    intro b
    cases q : H b with
    | none => exact .inl rfl
    | some u =>
      rw [hH] at q
      obtain ⟨h1, h2, h3⟩ := js_some q
      exact .inr ⟨h1, h2, by rw [h3]⟩
  have only : Only H := fun b => (hcases b).imp id fun z => ⟨_, _, z.2.2⟩
  have list : SqL K H a (ns.map V.int) := by
    cases hk : K.lookup a with
    | none => exact .inl (.inr ⟨{ cls := .type "list", data := .seq vs.toArray }, by rw [hH]; exact if_pos ⟨rfl, hk⟩⟩)
    | some o =>
      have q := KX a o hk
      rw [ha] at q
      obtain rfl := Option.some.inj q
      exact .inr ⟨_, vs.toArray, _, hk, rfl, rfl, rfl, by rw [List.size_toArray, hlen]; exact hl, rv⟩
  have held : HOk P w H s₁.heap := by
    intro b u q
    rcases hcases b with z | ⟨rfl, _, z⟩
    · rw [z] at q; cases q
    · rw [z] at q
      obtain rfl := Option.some.inj q
      exact ⟨ha, by rw [List.length_map]; exact hl, vs, _, rv, ha⟩
  -- the rest of the heap, in which the module's facts stand
  have stay : ∀ {b : Addr} {o : Obj}, s₁.heap.get? b = some o → (b = a → K.lookup a ≠ none) → (hidT s₁.heap H).get? b = some o := by
    intro b o e n
    refine hidT_get e ?_
    rcases hcases b with z | ⟨e1, e2, _⟩
    · exact z
    · exact absurd e2 (n e1)
  have names : ∀ {b : Addr} {m : Str → Option Value}, s₁.heap.Ns b m → (hidT s₁.heap H).Ns b m := by
    rintro b m ⟨o, es, ep, e, d, r⟩
    refine ⟨o, es, ep, stay e ?_, d, r⟩
    rintro rfl
    rw [ha] at e
    obtain rfl := Option.some.inj e
    exact absurd d (by intro z; cases z)
  have kin : K.In (hidT s₁.heap H) := fun b o e => stay (KX b o e) fun q => by rw [← q, e]; exact fun z => by cases z
  obtain ⟨mc, l1, l2⟩ := hlim
  have mod : Mod K mg (hidT s₁.heap H) := ⟨kin, names hns, ⟨mb, names hb, hbb⟩, ⟨mc, names l1, l2⟩⟩
  have env : Env0 P w K mg (hidT s₁.heap H) callerA [] s₁ H := ⟨rfl, mod, fun b o e => of_hidT e, Nat.le_of_eq (hidT_size _ _), trivial, fun b z => (by exact absurd (show b ∈ ([] : List Addr) from z) (by simp)), held, .of_eq hg⟩
  have vr : Vals [V.ref a] [Value.ref a] := .cons (show RelV (.ref a) (.ref a) from rfl) .nil
  refine codeAny_mono ((F _ kin (names hns)).go (us := [.ref a]) rfl hr env (hbind s₁ (.ref a)) vr (hsp H only list)) ?_
  rintro (_ | (_ | _ | _ | u)) s' z
  · exact z.elim
  · exact z.elim
  · exact z.elim
  · exact z.elim
  · obtain ⟨v, H', os, bare, un, ok', r', q⟩ := z
    have q1 : v = .bl true := q
    subst q1
    have q2 : u = Value.bool true := r'
    subst q2
    refine ⟨rfl, OldK.of_keep fun b o e => ?_, os, bare⟩
    rcases hcases b with z | ⟨e1, _, z⟩
    · exact un.keep b o e z (fun z => absurd (show b ∈ ([] : List Addr) from z) (by simp)) (by simp)
    · obtain ⟨g, _⟩ := ok' b _ (un.frzs b _ _ z)
      obtain ⟨g0, _⟩ := held b _ z
      rw [g0] at e
      rw [← Option.some.inj e]
      exact g
end
theorem walkG {l : PySem.W.OpenLaw} {n k : Nat} {q : Program} {loose : List Str} {XP : (Str → Option Value) → Heap → Prop} {YP : World → Heap → Prop} {d : DefRec} {K : Params → PySem.W.Frag} {sp : PySem.W.Frag → Sp} {x : Str}
    (hn : l.most = some n) (hn2 : n ≤ sizeLine) (hdf : d.params.defaults = []) (hr : Room k callerA) (hY : ∀ (w : World) (h : Heap), YP w h → (K w.params).In h)
    (F : ∀ (w : World) (mg : Str → Option Value) (fa : Addr) (h : Heap), (K w.params).In h → h.Ns mainGlobals mg → mg d.name = some (.ref fa) →
      ∃ fd : FuncData, (∀ (s : Shared) (u : Value), BindsTo s fd ⟨[u], []⟩ [(x, u)]) ∧ ∀ base : Heap, (K w.params).In base → base.Ns mainGlobals mg → FnG l.prog w (K w.params) mg base k fa fd [x] (sp (K w.params)))
    (hsp : ∀ (K : PySem.W.Frag) (H : Hp) (a : Addr) (ns : List Int), ns.length ≤ n → (∀ z ∈ ns, Builtin.Int.intBits z ≤ 1048576) → SqL K H a (ns.map V.int) → sp K [.ref a] H (fun v _ => v = .bl true) fun _ _ _ => False) :
    PySem.W.WalkO q loose XP YP l.row.toRowW d [] (fun f vs => PySem.call f vs) := by
  refine Att.attach_callB hn hdf ?_
  intro w s₀ s₁ mg mb fa o pm cd doc a vs ns G Y ho hd hcd hmg hobj hints hlen hbits hg
  obtain ⟨fd, hb, hF⟩ := F w mg fa _ (hY w _ Y) G.T.g hmg
  exact lawG (hY w _ Y) G.T.g G.T.b G.T.builtins G.T.nolimit hg hobj hints (Nat.le_trans hlen hn2) hr hF hb fun H _ hS => hsp _ H a ns hlen hbits hS
/-! ### repr of data -/
mutual
/-- how long its text is at most -/
def szD : PyData → Nat
  | .none => 4
  | .bool _ => 5
  | .int _ => 301
  | .str x => (reprText x).length
  | .list xs => szAll xs + 2
  | .tuple xs => szAll xs + 3
  | .dict _ => 2
def szAll : List PyData → Nat
  | [] => 0
  | x :: xs => szD x + 2 + szAll xs
end
mutual
/-- ints of moderate size, no dict -/
def modD : PyData → Bool
  | .none | .bool _ | .str _ => true
  | .int i => decide (i.natAbs < 2 ^ 300)
  | .list xs | .tuple xs => modAll xs
  | .dict _ => false
def modAll : List PyData → Bool
  | [] => true
  | x :: xs => modD x && modAll xs
end
theorem log_of {i : Int} (h : i.natAbs < 2 ^ 300) : i.natAbs.log2 < 300 := PySem.Flt.log2_lt_of (by decide) h
mutual
theorem showable_of : ∀ d : PyData, modD d = true → d.showable = true
  | .none, _ => by rw [PyData.showable]
  | .bool _, _ => by rw [PyData.showable]
  | .str _, _ => by rw [PyData.showable]
  | .int i, h => by
    rw [modD] at h
    rw [PyData.showable]
    have := log_of (of_decide_eq_true h)
    exact decide_eq_true (by omega)
  | .list xs, h => by
    rw [modD] at h
    rw [PyData.showable]
    exact showableAll_of xs h
  | .tuple xs, h => by
    rw [modD] at h
    rw [PyData.showable]
    exact showableAll_of xs h
  | .dict _, h => by rw [modD] at h; cases h
theorem showableAll_of : ∀ xs : List PyData, modAll xs = true → PyData.showableAll xs = true
  | [], _ => by rw [PyData.showableAll]
  | x :: xs, h => by
    rw [modAll, Bool.and_eq_true] at h
    rw [PyData.showableAll, showable_of x h.1, showableAll_of xs h.2]
    rfl
end
mutual
theorem nodict_of : ∀ d : PyData, modD d = true → d.hasDict = false
  | .none, _ => by rw [PyData.hasDict]
  | .bool _, _ => by rw [PyData.hasDict]
  | .str _, _ => by rw [PyData.hasDict]
  | .int i, h => by rw [PyData.hasDict]
  | .list xs, h => by
    rw [modD] at h
    rw [PyData.hasDict]
    exact nodictAll_of xs h
  | .tuple xs, h => by
    rw [modD] at h
    rw [PyData.hasDict]
    exact nodictAll_of xs h
  | .dict _, h => by rw [modD] at h; cases h
theorem nodictAll_of : ∀ xs : List PyData, modAll xs = true → PyData.hasDictAll xs = false
  | [], _ => by rw [PyData.hasDictAll]
  | x :: xs, h => by
    rw [modAll, Bool.and_eq_true] at h
    rw [PyData.hasDictAll, nodict_of x h.1, nodictAll_of xs h.2]
    rfl
end
def pile : List Str → Nat
  | [] => 0
  | t :: r => t.length + 2 + pile r
theorem textFrom_le : ∀ (ts : List Str) (k : Nat) (acc : Str), (textFrom k acc ts).length ≤ acc.length + pile ts
  | [], k, acc => by show acc.length ≤ acc.length + 0; omega
  | t :: r, k, acc => by
    have ih := textFrom_le r (k + 1) (acc ++ (if k > 0 then ", " else "" : String) ++ t)
    have e : (acc ++ (if k > 0 then ", " else "" : String) ++ t).length ≤ acc.length + 2 + t.length := by
      rw [strLen_append, strLen_append]
      split
      · show acc.length + 2 + t.length ≤ _; omega
      · show acc.length + 0 + t.length ≤ _; omega
    show (textFrom (k + 1) (acc ++ (if k > 0 then ", " else "" : String) ++ t) r).length ≤ acc.length + (t.length + 2 + pile r)
    omega
theorem listText_le (ts : List Str) : (listText ts).length ≤ pile ts + 2 := by
  unfold listText
  have h := textFrom_le ts 0 "["
  rw [strLen_append]
  have e1 : (("[" : String) : Str).length = 1 := rfl
  have e2 : (("]" : String) : Str).length = 1 := rfl
  rw [e2]
  rw [e1] at h
  omega
theorem join_le : ∀ ts : List Str, (Str.join ", " ts).length ≤ pile ts
  | [] => Nat.zero_le _
  | [x] => by show x.length ≤ x.length + 2 + 0; omega
  | x :: y :: r => by
    have ih := join_le (y :: r)
    show (x ++ ", " ++ Str.join ", " (y :: r)).length ≤ x.length + 2 + pile (y :: r)
    rw [strLen_append, strLen_append]
    have e2 : ((", " : String) : Str).length = 2 := rfl
    rw [e2]
    omega
theorem tupleText_le (ts : List Str) : (tupleText ts).length ≤ pile ts + 3 := by
  unfold tupleText
  have h := join_le ts
  rw [strLen_append, strLen_append]
  have e1 : (("(" : String) : Str).length = 1 := rfl
  have e2 : ((if ts.length == 1 then ",)" else ")" : String) : Str).length ≤ 2 := by
    split
    · exact Nat.le_refl _
    · exact Nat.le_succ _
  rw [e1]
  omega
mutual
theorem shown_le : ∀ d : PyData, modD d = true → d.shown.length ≤ szD d
  | .none, _ => by rw [PyData.shown, szD]; decide
  | .bool b, _ => by rw [PyData.shown, szD]; cases b <;> decide
  | .str x, _ => by rw [PyData.shown, szD]; exact Nat.le_refl _
  | .int i, h => by
    rw [modD] at h
    rw [PyData.shown, szD]
    have := int_text_length_le (k := 300) (by decide) (log_of (of_decide_eq_true h))
    have e : (Str.ofString (toString i)).length = (toString i).length := PySem.ofString_length _
    rw [e]
    omega
  | .list xs, h => by
    rw [modD] at h
    rw [PyData.shown, szD]
    have := listText_le (PyData.shownAll xs)
    have := shownAll_le xs h
    omega
  | .tuple xs, h => by
    rw [modD] at h
    rw [PyData.shown, szD]
    have := tupleText_le (PyData.shownAll xs)
    have := shownAll_le xs h
    omega
  | .dict _, h => by rw [modD] at h; cases h
theorem shownAll_le : ∀ xs : List PyData, modAll xs = true → pile (PyData.shownAll xs) ≤ szAll xs
  | [], _ => by rw [PyData.shownAll, szAll]; exact Nat.le_refl _
  | x :: xs, h => by
    rw [modAll, Bool.and_eq_true] at h
    have h1 := shown_le x h.1
    have h2 := shownAll_le xs h.2
    rw [PyData.shownAll, szAll]
    show x.shown.length + 2 + pile (PyData.shownAll xs) ≤ _
    omega
end
/-! ### data of the heap is read -/
section
variable {X : Cx} {pins : List (Addr × Obj)} {σ : L2.St} {H : Hp} {s : Shared}
mutual
theorem DV.reads (I : Inv X pins σ H s) : ∀ (d : PyData) (v : V) (u : Value), DV X.K H v d → RelV v u → ∃ as, Reads s.heap u d as
  | .none, _, _, .non, r => ⟨_, (show _ = Value.none from r) ▸ Reads.none⟩
  | .bool b, _, _, .bl _, r => ⟨_, (show _ = Value.bool b from r) ▸ Reads.bool b⟩
  | .int i, _, _, .int _, r => by
    obtain ⟨t, q⟩ := r
    rw [q]
    exact ⟨_, Reads.int i t⟩
  | .str x, _, _, .str _, r => by
    obtain ⟨t, q⟩ := r
    rw [q]
    exact ⟨_, Reads.str x t⟩
  | .list ds, _, u, .lst h t, r => by
    have r' : u = Value.ref _ := r
    subst r'
    obtain ⟨its, rv, ⟨o, n, ho, hc, _, hd⟩, _⟩ := I.list h
    obtain ⟨as, hr⟩ := DVs.reads I ds _ its t rv
    exact ⟨_, Reads.list ho hc hd hr⟩
  | .tuple ds, _, u, .tup h t, r => by
    have r' : u = Value.ref _ := r
    subst r'
    obtain ⟨its, rv, ⟨o, ho, hc, n, hd⟩, _⟩ := I.tuple h
    obtain ⟨as, hr⟩ := DVs.reads I ds _ its t rv
    exact ⟨_, Reads.tuple ho hc hd hr⟩
  | .dict _, _, u, .dk0 h, r => by
    have r' : u = Value.ref _ := r
    subst r'
    obtain ⟨_, _, vs, rel, o, es, ep, h1, h2, h3, h4⟩ := I.hok _ _ h
    cases rel
    have e0 : es.toList = [] := by
      have h5 := h4.2.1
      generalize es.toList = l at h5 ⊢
      cases h5
      rfl
    refine ⟨_, Reads.dict (as := []) (bs := []) h1 h2.1 h3 ?_ ?_⟩
    · rw [e0]; exact ReadsAll.nil
    · rw [e0]; exact ReadsAll.nil
theorem DVs.reads (I : Inv X pins σ H s) : ∀ (ds : List PyData) (vs : List V) (us : List Value), DVs X.K H vs ds → Vals vs us → ∃ as, ReadsAll s.heap us ds as
  | [], _, _, .nil, r => by
    cases r
    exact ⟨_, ReadsAll.nil⟩
  | d :: ds, _, _, .cons h1 h2, r => by
    cases r with
    | cons r1 r2 =>
      obtain ⟨as, q1⟩ := DV.reads I d _ _ h1 r1
      obtain ⟨bs, q2⟩ := DVs.reads I ds _ _ h2 r2
      exact ⟨_, ReadsAll.cons q1 q2⟩
end
/-- repr of a list or a tuple -/
def rRepr (K : PySem.W.Frag) : List V → Hp → VK → Prop := fun xs H Q => ∃ (a : Addr) (d : PyData), xs = [.ref a] ∧ DV K H (.ref a) d ∧ modD d = true ∧ d.depth ≤ 40 ∧ szD d ≤ 1000000 ∧ Q (.str d.shown) H
theorem call_repr (hg : X.A.guards = some []) (hu : X.A.units + 64 < cLine) : CallR X (.builtin "repr") (rRepr X.K) := by
  intro pins s σ H xs us Q I r h
  obtain ⟨a, d, rfl, hd, hm, hdep, hsz, q⟩ := h
  rw [Vals.ref1 r]
  obtain ⟨as, hr⟩ := DV.reads I d (.ref a) (.ref a) hd rfl
  have hl : d.shown.length ≤ sizeLine := by
    have := shown_le d hm
    rw [sizeLine_eq]
    omega
  exact repr_of_reads' hr (showable_of d hm) (fun z => by rw [nodict_of d hm] at z; cases z) hg (by omega) (fun _ _ e => e) (fun h' u tk kk => ⟨.str d.shown, H, I.kept kk, ⟨_, rfl⟩, q⟩) hl
end
/-! ### data that cannot change: flat things and tuples of such -/
mutual
inductive DT (H : Hp) : V → PyData → Prop
  | non : DT H .non .none
  | bl (b : Bool) : DT H (.bl b) (.bool b)
  | int (i : Int) : DT H (.int i) (.int i)
  | str (x : Str) : DT H (.str x) (.str x)
  | tup {a : Addr} {xs : List V} {ds : List PyData} : H a = some (.tup xs) → DTs H xs ds → DT H (.ref a) (.tuple ds)
inductive DTs (H : Hp) : List V → List PyData → Prop
  | nil : DTs H [] []
  | cons {v : V} {vs : List V} {d : PyData} {ds : List PyData} : DT H v d → DTs H vs ds → DTs H (v :: vs) (d :: ds)
end
/-- the tuples stand -/
def KeepT (H H' : Hp) : Prop := ∀ a xs, H a = some (.tup xs) → H' a = some (.tup xs)
theorem KeepT.refl (H : Hp) : KeepT H H := fun _ _ h => h
theorem KeepT.trans {H H1 H2 : Hp} (a : KeepT H H1) (b : KeepT H1 H2) : KeepT H H2 := fun c xs h => b c xs (a c xs h)
theorem KeepT.same {H H' : Hp} (s : Same H H') : KeepT H H' := fun a xs h => s a _ h
theorem KeepT.but {d : Addr} {H H' : Hp} (D : DeckAt H d) (s : But d H H') : KeepT H H' := fun a xs h => s.tup D h
theorem KeepT.put {x : Addr} {H : Hp} {ys : List V} {o : HO} (h : H x = some (.lst ys)) : KeepT H (upd H x o) := fun a xs e => by
  rw [upd_ne (ne_of e h (by intro z; cases z))]
  exact e
theorem KeepT.new {x : Addr} {H : Hp} {o : HO} (h : H x = none) : KeepT H (upd H x o) := KeepT.same (Same.new h)
mutual
theorem DT.keep {H H' : Hp} (e : KeepT H H') : ∀ {d : PyData} {v : V}, DT H v d → DT H' v d
  | _, _, .non => .non
  | _, _, .bl b => .bl b
  | _, _, .int i => .int i
  | _, _, .str x => .str x
  | _, _, .tup h t => .tup (e _ _ h) (DTs.keep e t)
theorem DTs.keep {H H' : Hp} (e : KeepT H H') : ∀ {ds : List PyData} {vs : List V}, DTs H vs ds → DTs H' vs ds
  | _, _, .nil => .nil
  | _, _, .cons p t => .cons (DT.keep e p) (DTs.keep e t)
end
mutual
theorem DT.dv {K : PySem.W.Frag} {H : Hp} : ∀ {d : PyData} {v : V}, DT H v d → DV K H v d
  | _, _, .non => .non
  | _, _, .bl b => .bl b
  | _, _, .int i => .int i
  | _, _, .str x => .str x
  | _, _, .tup h t => .tup (SqT.of h) (DTs.dv t)
theorem DTs.dv {K : PySem.W.Frag} {H : Hp} : ∀ {ds : List PyData} {vs : List V}, DTs H vs ds → DVs K H vs ds
  | _, _, .nil => .nil
  | _, _, .cons p t => .cons (DT.dv p) (DTs.dv t)
end
theorem DTs.ints {H : Hp} : ∀ ks : List Int, DTs H (ks.map V.int) (ks.map PyData.int)
  | [] => .nil
  | k :: r => .cons (.int k) (DTs.ints r)
theorem DTs.append {H : Hp} : ∀ {vs ws : List V} {ds es : List PyData}, DTs H vs ds → DTs H ws es → DTs H (vs ++ ws) (ds ++ es)
  | _, _, _, _, .nil, h => h
  | _, _, _, _, .cons p t, h => .cons p (DTs.append t h)
theorem DTs.take {H : Hp} : ∀ {vs : List V} {ds : List PyData} (n : Nat), DTs H vs ds → DTs H (vs.take n) (ds.take n)
  | _, _, 0, _ => .nil
  | _, _, _ + 1, .nil => .nil
  | _, _, n + 1, .cons p t => .cons p (DTs.take n t)
theorem DTs.length {H : Hp} : ∀ {vs : List V} {ds : List PyData}, DTs H vs ds → vs.length = ds.length
  | _, _, .nil => rfl
  | _, _, .cons _ t => congrArg Nat.succ (DTs.length t)
theorem DTs.none {H : Hp} : ∀ n : Nat, DTs H (List.replicate n V.non) (List.replicate n PyData.none)
  | 0 => .nil
  | n + 1 => .cons .non (DTs.none n)
/-! ### lists of ids as data -/
theorem modAll_ints : ∀ xs : List Int, (∀ z ∈ xs, z.natAbs < 2 ^ 300) → modAll (xs.map .int) = true
  | [], _ => by rw [List.map_nil, modAll]
  | x :: r, h => by
    rw [List.map_cons, modAll, modD, modAll_ints r fun z hz => h z (List.mem_cons_of_mem _ hz), decide_eq_true (h x List.mem_cons_self)]
    rfl
theorem szAll_ints : ∀ xs : List Int, szAll (xs.map .int) = xs.length * 303
  | [] => by rw [List.map_nil, szAll]; rfl
  | x :: r => by
    rw [List.map_cons, szAll, szD, szAll_ints r, List.length_cons]
    omega
theorem small_abs {z : Int} (h : -1000000000000 ≤ z) (h2 : z ≤ 1000000000000) : z.natAbs < 2 ^ 300 := by
  have : (1000000000001 : Nat) ≤ 2 ^ 300 := Nat.le_trans (by decide : 1000000000001 ≤ 2 ^ 50) (Nat.pow_le_pow_right (by decide) (by decide))
  generalize (2 : Nat) ^ 300 = B at *
  omega
structure Rok (d : PyData) : Prop where
  m : modD d = true
  dep : d.depth ≤ 40
  sz : szD d ≤ 1000000
theorem rok_ids {xs : List Int} (h : ∀ z ∈ xs, 1 ≤ z ∧ z ≤ 1000000) (hl : xs.length ≤ 300) : Rok (.list (xs.map .int)) := by
  refine ⟨?_, ?_, ?_⟩
  · rw [modD]
    exact modAll_ints xs fun z hz => by have := h z hz; exact small_abs (by omega) (by omega)
  · have := depthAll_ints xs
    rw [PyData.depth]
    omega
  · rw [szD, szAll_ints]
    omega
/-- changing one more object -/
theorem Fs.put {d x : Addr} {Hd H1 : Hp} {fs : List (Addr × HO)} {o : HO} (F : Fs d Hd fs H1) (h0 : Hd x = none) (hd : x ≠ d) (hn : ∀ p ∈ fs, p.1 ≠ x) : Fs d Hd fs (upd H1 x o) := by
  obtain ⟨f1, ⟨a, b, q, r⟩, f3⟩ := F
  refine ⟨fun c u hc e => ?_, ⟨a, b, by rw [upd_ne hd.symm]; exact q, r⟩, fun p hp => ⟨(f3 p hp).1, by rw [upd_ne (hn p hp)]; exact (f3 p hp).2⟩⟩
  rw [upd_ne (ne_of_none e h0)]
  exact f1 c u hc e
theorem Fs.apart {d x : Addr} {Hd H1 : Hp} {fs : List (Addr × HO)} (F : Fs d Hd fs H1) (h : H1 x = none) : Hd x = none ∧ x ≠ d ∧ ∀ p ∈ fs, p.1 ≠ x := by
  obtain ⟨f1, ⟨a, b, q, r⟩, f3⟩ := F
  have hd : x ≠ d := fun e => by rw [e, q] at h; cases h
  refine ⟨?_, hd, fun p hp => ne_of_none (f3 p hp).2 h⟩
  cases e : Hd x with
  | none => rfl
  | some u =>
    have := f1 x u hd e
    rw [h] at this; cases this
/-! ### repr of data with empty dicts in it -/
mutual
/-- ints of moderate size, dicts only empty -/
def okD : PyData → Bool
  | .none | .bool _ | .str _ => true
  | .int i => decide (i.natAbs < 2 ^ 300)
  | .list xs | .tuple xs => okAll xs
  | .dict kvs => kvs.isEmpty
def okAll : List PyData → Bool
  | [] => true
  | x :: xs => okD x && okAll xs
end
mutual
theorem shown_le2 : ∀ d : PyData, okD d = true → d.shown.length ≤ szD d
  | .none, _ => shown_le .none rfl
  | .bool b, _ => shown_le (.bool b) rfl
  | .str x, _ => shown_le (.str x) rfl
  | .int i, h => shown_le (.int i) (by rw [okD] at h; rw [modD]; exact h)
  | .list xs, h => by
    have h2 : okAll xs = true := by rw [okD] at h; exact h
    have b := shownAll_le2 xs h2
    have a := listText_le (PyData.shownAll xs)
    rw [szD, PyData.shown]
    omega
  | .tuple xs, h => by
    have h2 : okAll xs = true := by rw [okD] at h; exact h
    have b := shownAll_le2 xs h2
    have a := tupleText_le (PyData.shownAll xs)
    rw [szD, PyData.shown]
    omega
  | .dict kvs, h => by
    rw [okD] at h
    have e : kvs = [] := List.isEmpty_iff.mp h
    subst e
    rw [szD, PyData.shown, PyData.shownKv]
    exact Nat.le_refl 2
theorem shownAll_le2 : ∀ xs : List PyData, okAll xs = true → pile (PyData.shownAll xs) ≤ szAll xs
  | [], _ => by rw [PyData.shownAll, szAll]; exact Nat.le_refl _
  | x :: xs, h => by
    rw [okAll, Bool.and_eq_true] at h
    have a := shown_le2 x h.1
    have b := shownAll_le2 xs h.2
    rw [szAll, PyData.shownAll]
    show x.shown.length + 2 + pile (PyData.shownAll xs) ≤ _
    omega
end
section
variable {X : Cx} {pins : List (Addr × Obj)} {σ : L2.St} {H : Hp} {s : Shared}
mutual
theorem DV.rk (I : Inv X pins σ H s) : ∀ (d : PyData) (v : V) (u : Value), DV X.K H v d → RelV v u → okD d = true → d.shown.length ≤ sizeLine → ∃ bs, ReadAtMost s.heap d.depth bs ∧ ReprK X.prog X.w bs s.heap d.depth u d.shown
  | .none, _, _, .non, r, _, _ => ⟨[], (fun _ q => by cases q), by rw [PyData.shown, (show _ = Value.none from r)]; exact .of_is ReprIs.none _ _ _⟩
  | .bool b, _, _, .bl _, r, _, _ => ⟨[], (fun _ q => by cases q), by rw [PyData.shown, (show _ = Value.bool b from r)]; exact .of_is (ReprIs.bool b) _ _ _⟩
  | .int i, _, _, .int _, r, h, _ => by
    obtain ⟨t, rfl⟩ := r
    rw [okD] at h
    have := log_of (of_decide_eq_true h)
    exact ⟨[], (fun _ q => by cases q), by rw [PyData.shown]; exact .of_is (ReprIs.int t (by omega)) _ _ _⟩
  | .str x, _, _, .str _, r, _, hz => by
    obtain ⟨t, rfl⟩ := r
    rw [PyData.shown] at hz
    exact ⟨[], (fun _ q => by cases q), by rw [PyData.shown]; exact .of_is (ReprIs.str x t hz) _ _ _⟩
  | .list ds, _, u, .lst h t, r, hok, hz => by
    have r' : u = Value.ref _ := r
    subst r'
    rw [okD] at hok
    rw [PyData.shown] at hz
    obtain ⟨its, rv, ⟨o, n, ho, hc, _, hd⟩, _⟩ := I.list h
    obtain ⟨as, hr⟩ := DVs.reads I ds _ its t rv
    obtain ⟨bs, hb, hk⟩ := DVs.rk I ds _ its t rv hok fun x hx => Nat.le_trans (listText_mem_le hx) hz
    have R := Reads.list ho hc hd hr
    have far := not_mem_of_deeper R (by rw [PyData.depth]; omega) hb
    refine ⟨_, ReadAtMost.cons R (by rw [PyData.depth]; omega) hb, ?_⟩
    rw [PyData.depth, PyData.shown]
    cases its with
    | nil =>
      cases rv
      cases t
      rw [PyData.shownAll, listText_nil]
      exact ReprK.listEmpty ho hc hd
    | cons y l => exact ReprK.list ho hc hd far (by rw [hk.length_eq]; rfl) fun i y e => hk.item i y (by rw [List.getElem?_toArray] at e; exact e)
  | .tuple ds, _, u, .tup h t, r, hok, hz => by
    have r' : u = Value.ref _ := r
    subst r'
    rw [okD] at hok
    rw [PyData.shown] at hz
    obtain ⟨its, rv, ⟨o, ho, hc, n, hd⟩, _⟩ := I.tuple h
    obtain ⟨as, hr⟩ := DVs.reads I ds _ its t rv
    obtain ⟨bs, hb, hk⟩ := DVs.rk I ds _ its t rv hok fun x hx => Nat.le_trans (tupleText_mem_le hx) hz
    have R := Reads.tuple ho hc hd hr
    have far := not_mem_of_deeper R (by rw [PyData.depth]; omega) hb
    refine ⟨_, ReadAtMost.cons R (by rw [PyData.depth]; omega) hb, ?_⟩
    rw [PyData.depth, PyData.shown]
    exact ReprK.tuple ho hc hd far hk
  | .dict _, _, u, .dk0 h, r, _, _ => by
    have r' : u = Value.ref _ := r
    subst r'
    obtain ⟨_, sy, vs, rel, o, es, ep, h1, h2, h3, h4⟩ := I.hok _ _ h
    cases rel
    have e0 : es.toList = [] := by
      have h5 := h4.2.1
      generalize es.toList = l at h5 ⊢
      cases h5
      rfl
    have R : Reads s.heap (.ref _) (.dict []) _ := Reads.dict (as := []) (bs := []) h1 h2.1 h3 (by rw [e0]; exact ReadsAll.nil) (by rw [e0]; exact ReadsAll.nil)
    have hb : ReadAtMost s.heap (PyData.depthKv []) [] := fun _ q => by cases q
    refine ⟨_, ReadAtMost.cons R (by rw [PyData.depth]; omega) hb, ?_⟩
    rw [PyData.depth, PyData.shown, PyData.shownKv]
    exact ReprK.dict h1 h2.1 h3 sy (fun q => by cases q) (by rw [e0]; exact .nil)
theorem DVs.rk (I : Inv X pins σ H s) : ∀ (ds : List PyData) (vs : List V) (us : List Value), DVs X.K H vs ds → Vals vs us → okAll ds = true → (∀ x ∈ PyData.shownAll ds, x.length ≤ sizeLine) → ∃ bs, ReadAtMost s.heap (PyData.depthAll ds) bs ∧ ReprAllK X.prog X.w bs s.heap (PyData.depthAll ds) us (PyData.shownAll ds)
  | [], _, _, .nil, r, _, _ => by
    cases r
    exact ⟨[], (fun _ q => by cases q), by rw [PyData.shownAll]; exact .nil⟩
  | d :: ds, _, _, .cons h1 h2, r, hok, hz => by
    cases r with
    | cons r1 r2 =>
      rw [okAll, Bool.and_eq_true] at hok
      rw [PyData.shownAll] at hz
      obtain ⟨p1, a1, k1⟩ := DV.rk I d _ _ h1 r1 hok.1 (hz _ List.mem_cons_self)
      obtain ⟨p2, a2, k2⟩ := DVs.rk I ds _ _ h2 r2 hok.2 fun x hx => hz x (List.mem_cons_of_mem _ hx)
      rw [PyData.shownAll, PyData.depthAll]
      refine ⟨p1 ++ p2, fun b hm => ?_, .cons ((k1.more fun b hb => List.mem_append_left _ hb).level_le (by omega)) (k2.more_le (fun b hb => List.mem_append_right _ hb) (by omega))⟩
      rcases List.mem_append.mp hm with q | q
      · obtain ⟨e, f, r, g⟩ := a1 b q
        exact ⟨e, f, r, by omega⟩
      · obtain ⟨e, f, r, g⟩ := a2 b q
        exact ⟨e, f, r, by omega⟩
end
/-- repr of any data -/
def rRepr2 (K : PySem.W.Frag) : List V → Hp → VK → Prop := fun xs H Q => ∃ (v : V) (d : PyData), xs = [v] ∧ DV K H v d ∧ okD d = true ∧ d.depth ≤ 40 ∧ szD d ≤ 1000000 ∧ Q (.str d.shown) H
theorem call_repr2 (hg : X.A.guards = some []) (hu : X.A.units + 64 < cLine) : CallR X (.builtin "repr") (rRepr2 X.K) := by
  intro pins s σ H xs us Q I r h
  obtain ⟨v, d, rfl, hd, hok, hdep, hsz, q⟩ := h
  have hl : d.shown.length ≤ sizeLine := by
    have := shown_le2 d hok
    rw [sizeLine_eq]
    omega
  obtain ⟨u, rfl, ru⟩ : ∃ u, us = [u] ∧ RelV v u := by
    cases r with
    | cons r1 r2 => cases r2; exact ⟨_, rfl, r1⟩
  have kk : ∀ b o, s.heap.get? b = some o → s.heap.get? b = some o := fun _ _ e => e
  cases hd with
  | non =>
    have r' : u = Value.none := ru
    subst r'
    rw [PyData.shown] at q
    exact PySem.P.repr_of_none ⟨.str _, H, I.tok _, ⟨_, rfl⟩, q⟩
  | bl b =>
    have r' : u = Value.bool b := ru
    subst r'
    rw [PyData.shown] at q
    exact PySem.P.repr_of_bool ⟨.str _, H, I.tok _, ⟨_, rfl⟩, q⟩
  | int i =>
    obtain ⟨t, rfl⟩ := ru
    rw [okD] at hok
    have := log_of (of_decide_eq_true hok)
    rw [PyData.shown] at q
    exact PySem.P.repr_of_int (by omega) ⟨.str _, H, I.tok _, ⟨_, rfl⟩, q⟩
  | str x =>
    obtain ⟨t, rfl⟩ := ru
    rw [PyData.shown] at q hl
    exact PySem.P.repr_of_str ⟨.str _, H, I.tok _, ⟨_, rfl⟩, q⟩ hl
  | lst h t =>
    rename_i a vs ds
    have r' : u = Value.ref a := ru
    subst r'
    rw [okD] at hok
    rw [PyData.shown] at hl q
    rw [PyData.depth] at hdep
    obtain ⟨its, rv, ⟨o, n, ho, hc, _, hdt⟩, _⟩ := I.list h
    obtain ⟨as, hr⟩ := DVs.reads I ds _ its t rv
    obtain ⟨bs, hb, hk⟩ := DVs.rk I ds _ its t rv hok fun x hx => Nat.le_trans (listText_mem_le hx) hl
    have far := not_mem_of_deeper (Reads.list ho hc hdt hr) (by rw [PyData.depth]; omega) hb
    refine call_repr_slot (by omega) ⟨o, ho, hc⟩ F.slot_list_repr.toG ?_
    cases its with
    | nil =>
      cases rv
      cases t
      rw [PyData.shownAll, listText_nil] at q
      exact call_list_repr_empty ⟨o, ho, hc⟩ ho hdt ⟨_, _, rfl, .str _, H, I.tok _, ⟨_, rfl⟩, q⟩
    | cons y l =>
      exact call_list_reprK ho hc hdt far (by rw [hk.length_eq]; rfl) (fun i y e => hk.item i y (by rw [List.getElem?_toArray] at e; exact e)) hg (fun b _ => Clear.nil b) (by show X.A.units + 1 + _ < cLine; omega) kk
        (fun h' u tk k => ⟨_, _, rfl, .str _, H, I.kept k, ⟨_, rfl⟩, q⟩) hl
  | tup h t =>
    rename_i a vs ds
    have r' : u = Value.ref a := ru
    subst r'
    rw [okD] at hok
    rw [PyData.shown] at hl q
    rw [PyData.depth] at hdep
    obtain ⟨its, rv, ⟨o, ho, hc, n, hdt⟩, _⟩ := I.tuple h
    obtain ⟨as, hr⟩ := DVs.reads I ds _ its t rv
    obtain ⟨bs, hb, hk⟩ := DVs.rk I ds _ its t rv hok fun x hx => Nat.le_trans (tupleText_mem_le hx) hl
    have far := not_mem_of_deeper (Reads.tuple ho hc hdt hr) (by rw [PyData.depth]; omega) hb
    refine call_repr_slot (by omega) ⟨o, ho, hc⟩ F.slot_tuple_repr ?_
    exact call_tuple_reprK ho hc hdt far hk hg (fun b _ => Clear.nil b) (by show X.A.units + 1 + _ < cLine; omega) kk
      (fun h' u tk k => ⟨_, _, rfl, .str _, H, I.kept k, ⟨_, rfl⟩, q⟩) hl
  | dk0 h =>
    rename_i a
    have r' : u = Value.ref a := ru
    subst r'
    rw [PyData.shown, PyData.shownKv] at q
    obtain ⟨_, sy, vs, rel, o, es, ep, h1, h2, h3, h4⟩ := I.hok _ _ h
    cases rel
    have e0 : es.toList = [] := by
      have h5 := h4.2.1
      generalize es.toList = l at h5 ⊢
      cases h5
      rfl
    refine call_repr_slot (by omega) ⟨o, h1, h2.1⟩ F.slot_dict_repr ?_
    exact call_dict_reprK (d := 0) (as := []) h1 h2.1 h3 sy (fun q => by cases q) (by rw [e0]; exact .nil) hg (fun b _ => Clear.nil b) (by show X.A.units + 1 + _ < cLine; omega) kk
      (fun h' u tk k => ⟨_, _, rfl, .str _, H, I.kept k, ⟨_, rfl⟩, q⟩) (by rw [sizeLine_eq]; decide)
end
theorem But.tq {d a : Addr} {H H' : Hp} {K : PySem.W.Frag} {xs : List V} (D : DeckAt H d) (s : But d H H') (h : SqT K H a xs) : SqT K H' a xs := by
  obtain ⟨x, y, hd, _⟩ := D
  rcases h with (h | ⟨o, h⟩) | h
  · exact .inl (.inl (s _ _ (ne_of h hd (by intro z; cases z)) h))
  · exact .inl (.inr ⟨o, s _ _ (ne_of h hd (by intro z; cases z)) h⟩)
  · exact .inr h
mutual
/-- data is no deck -/
theorem DV.but {K : PySem.W.Frag} {d : Addr} {H H' : Hp} (D : DeckAt H d) (e : But d H H') : ∀ {x : PyData} {v : V}, DV K H v x → DV K H' v x
  | _, _, .non => .non
  | _, _, .bl b => .bl b
  | _, _, .int i => .int i
  | _, _, .str x => .str x
  | _, _, .lst h t => .lst (e.seq D h) (DVs.but D e t)
  | _, _, .tup h t => .tup (e.tq D h) (DVs.but D e t)
  | _, _, .dk0 h => .dk0 (e _ _ (by
      obtain ⟨x, y, hd, _⟩ := D
      exact ne_of h hd (by intro z; cases z)) h)
theorem DVs.but {K : PySem.W.Frag} {d : Addr} {H H' : Hp} (D : DeckAt H d) (e : But d H H') : ∀ {ds : List PyData} {vs : List V}, DVs K H vs ds → DVs K H' vs ds
  | _, _, .nil => .nil
  | _, _, .cons p t => .cons (DV.but D e p) (DVs.but D e t)
end
/-! ### the heap without one address -/
def er (H : Hp) (p : Addr) : Hp := fun b => if b = p then none else H b
theorem er_at {H : Hp} {p b : Addr} {o : HO} (h : H b = some o) (n : b ≠ p) : er H p b = some o := by
  unfold er
  rw [if_neg n]; exact h
theorem er_le {H : Hp} {p : Addr} : Same (er H p) H := fun b o e => by
  unfold er at e
  by_cases n : b = p
  · rw [if_pos n] at e; cases e
  · rw [if_neg n] at e; exact e
theorem er_same {H H' : Hp} {p : Addr} (s : Same H H') : Same (er H p) (er H' p) := fun b o e => by
  unfold er at e ⊢
  by_cases n : b = p
  · rw [if_pos n] at e; cases e
  · rw [if_neg n] at e ⊢; exact s b o e
theorem er_upd {H : Hp} {p : Addr} {o : HO} : er (upd H p o) p = er H p := by
  funext b
  unfold er
  by_cases n : b = p
  · rw [if_pos n, if_pos n]
  · rw [if_neg n, if_neg n, upd_ne n]
theorem er_upd_ne {H : Hp} {p q : Addr} {o : HO} (n : q ≠ p) : er (upd H q o) p = upd (er H p) q o := by
  funext b
  unfold er
  by_cases h : b = q
  · subst h
    rw [if_neg n, upd_same, upd_same]
  · rw [upd_ne h, upd_ne h]
theorem er_of {Hz H : Hp} {p : Addr} (s : Same Hz H) (hz : Hz p = none) : Same Hz (er H p) := fun b o e => er_at (s b o e) (ne_of_none e hz)
/-! ### _law_values -/
def GoodV (K : PySem.W.Frag) (H : Hp) (v : V) : Prop := ∃ x, DV K H v x ∧ okD x = true ∧ x.depth ≤ 10 ∧ szD x ≤ 4000
theorem GoodV.same {K : PySem.W.Frag} {H H' : Hp} {v : V} (h : GoodV K H v) (s : Same H H') : GoodV K H' v := by
  obtain ⟨x, h1, h2⟩ := h
  exact ⟨x, h1.same s, h2⟩
theorem GoodV.but {K : PySem.W.Frag} {H H' : Hp} {d : Addr} {v : V} (D : DeckAt H d) (B : But d H H') (h : GoodV K H v) : GoodV K H' v := by
  obtain ⟨x, h1, h2⟩ := h
  exact ⟨x, h1.but D B, h2⟩
theorem good_int {K : PySem.W.Frag} {H : Hp} {i : Int} (h : -1000000000000 ≤ i) (h2 : i ≤ 1000000000000) : GoodV K H (.int i) := ⟨.int i, .int i, by rw [okD]; exact decide_eq_true (small_abs h h2), by rw [PyData.depth]; decide, by rw [szD]; decide⟩
theorem er_but {H H' : Hp} {p d : Addr} (B : But d H H') (hp : H p = none) : But d H (er H' p) := fun b u n e => er_at (B b u n e) (ne_of_none e hp)
theorem goods {K : PySem.W.Frag} {H : Hp} : ∀ {ws : List V}, (∀ v ∈ ws, GoodV K H v) → ∃ ds, DVs K H ws ds ∧ okAll ds = true ∧ PyData.depthAll ds ≤ 10 ∧ szAll ds ≤ ws.length * 4002
  | [], _ => ⟨[], .nil, by rw [okAll], by rw [PyData.depthAll]; omega, by rw [szAll]; omega⟩
  | v :: ws, h => by
    obtain ⟨x, h1, h2, h3, h4⟩ := h v List.mem_cons_self
    obtain ⟨ds, i1, i2, i3, i4⟩ := goods (ws := ws) fun u hu => h u (List.mem_cons_of_mem _ hu)
    refine ⟨x :: ds, .cons h1 i1, by rw [okAll, h2, i2]; rfl, by rw [PyData.depthAll]; omega, ?_⟩
    rw [szAll, List.length_cons]
    omega
theorem er_deck {H : Hp} {p d : Addr} (D : DeckAt H d) (n : d ≠ p) : DeckAt (er H p) d := by
  obtain ⟨x, y, h, r⟩ := D
  exact ⟨x, y, er_at h n, r⟩
theorem er_butE {H H' : Hp} {p d : Addr} (B : But d H H') : But d (er H p) (er H' p) := fun b u n e => by
  have np : b ≠ p := fun z => by
    unfold er at e
    rw [if_pos z] at e; cases e
  exact er_at (B b u n (er_le _ _ e)) np
section
variable {P : Program} {w : World} {K : PySem.W.Frag} {mg : Str → Option Value} {base : Heap}
def spValues (K : PySem.W.Frag) : Sp := fun vs H Q _ => ∃ (d : Addr) (n : Int), vs = [.ref d, .int n] ∧ DeckAt H d ∧ 0 ≤ n ∧ n ≤ 10 ∧
  ∀ (l : Addr) (ws : List V) (H' : Hp), But d H H' → DeckAt H' d → H' l = some (.lst ws) → ws.length = 12 → (∀ v ∈ ws, GoodV K (er H' l) v) → Q (.ref l) H'
abbrev NV : List Str := ["deck", "turn", "some", "found", "number", "word", "place"]
theorem scValues : FnScope NV ["deck", "turn"] (defScope sValues) := ⟨rfl, rfl, rfl, by decide +kernel, rfl, by decide +kernel, by decide +kernel⟩
theorem ok_values {f fC fD : Addr} {fd fdC fdD : FuncData} (F : Fun K "_law_values" "_law_values" sValues f fd) (TR : mg "range" = none) (GC : FnOk P w K mg base CX0 2 fC fdC ["deck", "things"] (spChoose K)) (kC : PySem.W.keepIn K (.ref fC) = true) (bC : L2.Binds K fdC ["deck", "things"] []) (mC : mg "_law_choose" = some (.ref fC))
    (GD : FnOk P w K mg base CX0 1 fD fdD ["deck", "size"] spDraw) (kD : PySem.W.keepIn K (.ref fD) = true) (bD : L2.Binds K fdD ["deck", "size"] []) (mD : mg "_law_draw" = some (.ref fD)) : FnOk P w K mg base CX0 3 f fd ["deck", "turn"] (spValues K) := by
  refine F.ok scValues (fun vs H Q E h => ?_) (fun cdv A outer s H vs Q E hr h => ?_)
  · obtain ⟨d, n, rfl, _⟩ := h
    rfl
  · obtain ⟨d, n, rfl, D, hn0, hn1, k⟩ := h
    have hr1 : Room 1 _ := hr.mono (by decide)
    refine ⟨_, pss_cons (ps_set (i := 2) scValues.nd rfl (Or.inr rfl) (pe_lst (pa_cons pe_int (pa_cons (pe_un un_neg pe_int) (pa_cons (pe_op op_powG pe_int pe_int) (pa_cons pe_bl (pa_cons pe_non (pa_cons pe_str (pa_cons pe_str (pa_cons (pe_tup pa_nil)
          (pa_cons (pe_tup (pa_cons pe_int (pa_cons (pe_tup (pa_cons pe_int pa_nil)) pa_nil))) (pa_cons (pe_lst (pa_cons pe_int (pa_cons (pv 1) pa_nil))) (pa_cons pe_dnewK pa_nil)))))))))))))
      (pss_cons (ps_set (i := 3) scValues.nd rfl (Or.inl rfl) (pe_op op_cat (pe_lst (pa_cons (pe_tup (pa_cons (pe_op op_add pe_int (pe_call GD hr1 rfl mD kD bD .nil pass0 (pa_cons (pv 0) (pa_cons pe_int pa_nil)))) (pa_cons (pe_tup (pa_cons (pv 1) pa_nil)) pa_nil))) pa_nil))
          (pe_lc (own := [("place", 6)]) (g := gName 6) (tt := tYes) rfl scValues.nd (pi_range1 rfl TR (pa_cons pe_int pa_nil)) (blkOk_by (N := NV) (sc := defScope sValues) (by decide +kernel)) (fun _ _ _ _ _ => pg_name (i := 6) scValues.nd rfl (Or.inl rfl)) (fun _ _ _ _ _ => pts_nil)
            (fun _ _ _ _ _ => pe_call GC hr rfl mC kC bC .nil pass0 (pa_cons (pv 0) (pa_cons (pv 2) pa_nil))))))
      (pss_cons (ps_asg (pe_tup (pa_cons (pe_tup (pa_cons pe_int (pa_cons (pe_op op_add pe_int (pe_call GD hr1 rfl mD kD bD .nil pass0 (pa_cons (pv 0) (pa_cons pe_int pa_nil)))) pa_nil))) (pa_cons pe_int pa_nil))) (pg_sub (pv 3) pe_int set_list))
      (pss_cons (ps_par (i := 4) (j := 5) (by rfl) scValues.nd rfl rfl (by decide) rfl rfl (pa_cons (pe_op op_add pe_int (pe_call GD hr1 rfl mD kD bD .nil pass0 (pa_cons (pv 0) (pa_cons pe_int pa_nil)))) (pa_cons (pe_call GC hr rfl mC kC bC .nil pass0 (pa_cons (pv 0) (pa_cons (pe_lst (pa_cons pe_str (pa_cons pe_str (pa_cons pe_str pa_nil)))) pa_nil))) pa_nil)) (by rfl))
      (pss_one (ps_ret (pe_op op_cat (pv 3) (pe_lst (pa_cons (pv 4) (pa_cons (pe_op op_add (pv 4) pe_int) (pa_cons (pe_op op_add (pv 4) pe_int) (pa_cons (pe_call GC hr rfl mC kC bC .nil pass0 (pa_cons (pv 0) (pa_cons (pe_lst (pa_cons pe_str (pa_cons pe_str pa_nil))) pa_nil)))
          (pa_cons (pv 5) (pa_cons (pe_op op_add_str (pv 5) pe_str) pa_nil))))))))))))), ?_⟩
    have h16 := sizeLine_eq
    have cpG : CPowG 10 59 := ⟨by decide, by decide⟩
    refine ⟨_, rfl, _, _, rfl, rfl, cpG, by show 0 ≤ sizeLine; omega, fun q1 h1 => ⟨by show 1 ≤ sizeLine; omega, fun q2 h2 => ⟨by show 2 ≤ sizeLine; omega, fun q3 h3 => ⟨_, rfl, by show 2 ≤ sizeLine; omega, fun q4 h4 => fun q5 h5 => ⟨by show 11 ≤ sizeLine; omega, fun q9 h9 => ?_⟩⟩⟩⟩⟩
    have t1 := Same.new (o := .tup []) h1
    have t2 := Same.new (o := .tup [.int 1]) h2
    have t3 := Same.new (o := .tup [.int 0, .ref q2]) h3
    have t4 := Same.new (o := .lst [.int 1, .int n]) h4
    have t5 := Same.new (o := .dK []) h5
    have t9 := Same.new (o := .lst [V.int 0, .int (-1), .int (10 ^ (59 : Int).toNat), .bl true, .non, .str "", .str "undo", .ref q1, .ref q3, .ref q4, .ref q5]) h9
    have w5 := t5.trans t9
    have w4 := t4.trans w5
    have w3 := t3.trans w4
    have w2 := t2.trans w3
    have S := t1.trans w2
    have e1 := w2 _ _ (upd_same (H := H) (a := q1) (o := .tup []))
    have e2 := w3 _ _ (upd_same (a := q2) (o := .tup [.int 1]))
    have e3 := w4 _ _ (upd_same (a := q3) (o := .tup [.int 0, .ref q2]))
    have e4 := w5 _ _ (upd_same (a := q4) (o := .lst [.int 1, .int n]))
    have e5 := t9 _ _ (upd_same (a := q5) (o := .dK []))
    have e9 : (upd _ q9 (.lst [V.int 0, .int (-1), .int (10 ^ (59 : Int).toNat), .bl true, .non, .str "", .str "undo", .ref q1, .ref q3, .ref q4, .ref q5])) q9 = some (.lst [V.int 0, .int (-1), .int (10 ^ (59 : Int).toNat), .bl true, .non, .str "", .str "undo", .ref q1, .ref q3, .ref q4, .ref q5]) := upd_same (H := upd (upd (upd (upd (upd H q1 (.tup [])) q2 (.tup [.int 1])) q3 (.tup [.int 0, .ref q2])) q4 (.lst [.int 1, .int n])) q5 (.dK []))
    generalize (upd (upd (upd (upd (upd (upd H q1 (.tup [])) q2 (.tup [.int 1])) q3 (.tup [.int 0, .ref q2])) q4 (.lst [.int 1, .int n])) q5 (.dK [])) q9 (.lst [V.int 0, .int (-1), .int (10 ^ (59 : Int).toNat), .bl true, .non, .str "", .str "undo", .ref q1, .ref q3, .ref q4, .ref q5]) : Hp) = H9 at S e1 e2 e3 e4 e5 e9 ⊢
    clear t1 t2 t3 t4 t5 t9 w5 w4 w3 w2 h1 h2 h3 h4 h5 h9
    have D9 := D.same S
    have B9 : But d H H9 := But.of S
    have good : ∀ v ∈ ([V.int 0, .int (-1), .int (10 ^ (59 : Int).toNat), .bl true, .non, .str "", .str "undo", .ref q1, .ref q3, .ref q4, .ref q5] : List V), GoodV K H9 v := by
      intro v hv
      rcases List.mem_cons.mp hv with e | hv
      · rw [e]; exact good_int (by decide) (by decide)
      rcases List.mem_cons.mp hv with e | hv
      · rw [e]; exact good_int (by decide) (by decide)
      rcases List.mem_cons.mp hv with e | hv
      · rw [e]; exact ⟨_, .int _, by rw [okD]; decide +kernel, by rw [PyData.depth]; decide, by rw [szD]; decide⟩
      rcases List.mem_cons.mp hv with e | hv
      · rw [e]; exact ⟨_, .bl _, by rw [okD], by rw [PyData.depth]; decide, by rw [szD]; decide⟩
      rcases List.mem_cons.mp hv with e | hv
      · rw [e]; exact ⟨_, .non, by rw [okD], by rw [PyData.depth]; decide, by rw [szD]; decide⟩
      rcases List.mem_cons.mp hv with e | hv
      · rw [e]; exact ⟨_, .str _, by rw [okD], by rw [PyData.depth]; decide, by decide +kernel⟩
      rcases List.mem_cons.mp hv with e | hv
      · rw [e]; exact ⟨_, .str _, by rw [okD], by rw [PyData.depth]; decide, by decide +kernel⟩
      rcases List.mem_cons.mp hv with e | hv
      · rw [e]; exact ⟨.tuple [], .tup (SqT.of e1) .nil, by decide +kernel, by decide +kernel, by decide +kernel⟩
      rcases List.mem_cons.mp hv with e | hv
      · rw [e]; exact ⟨.tuple [.int 0, .tuple [.int 1]], .tup (SqT.of e3) (.cons (.int _) (.cons (.tup (SqT.of e2) (.cons (.int _) .nil)) .nil)), by decide +kernel, by decide +kernel, by decide +kernel⟩
      rcases List.mem_cons.mp hv with e | hv
      · rw [e]
        refine ⟨.list [.int 1, .int n], .lst (SqL.of e4) (.cons (.int _) (.cons (.int _) .nil)), ?_, ?_, ?_⟩
        · rw [okD, okAll, okAll, okAll, okD, okD, decide_eq_true (small_abs (by decide) (by decide) : (1 : Int).natAbs < 2 ^ 300), decide_eq_true (small_abs (by omega) (by omega) : n.natAbs < 2 ^ 300)]; rfl
        · rw [PyData.depth, PyData.depthAll, PyData.depthAll, PyData.depthAll, PyData.depth, PyData.depth]; decide
        · rw [szD, szAll, szAll, szAll, szD, szD]; decide
      · rw [List.mem_singleton.mp hv]; exact ⟨.dict [], .dk0 e5, by decide +kernel, by decide +kernel, by decide +kernel⟩
    -- found
    refine ⟨_, rfl, d, 9, rfl, D9, by decide, by decide, fun r Ha r0 r1 Da Ba => ⟨_, _, rfl, rfl, _, rfl, by show 1 ≤ sizeLine; omega, fun u1 hu1 => ⟨by show 2 ≤ sizeLine; omega, fun u2 hu2 => ⟨by show 1 ≤ sizeLine; omega, fun u3 hu3 => ?_⟩⟩⟩⟩
    have n9 : q9 ≠ d := by
      obtain ⟨_, _, z, _⟩ := D9
      exact ne_of e9 z (fun y => by cases y)
    have ga : ∀ v ∈ ([V.int 0, .int (-1), .int (10 ^ (59 : Int).toNat), .bl true, .non, .str "", .str "undo", .ref q1, .ref q3, .ref q4, .ref q5] : List V), GoodV K Ha v := fun v hv => (good v hv).but D9 Ba
    have m1 := Same.new (o := .tup [.int n]) hu1
    have m2 := Same.new (o := .tup [.int (1 + r), .ref u1]) hu2
    have m3 := Same.new (o := .lst [.ref u2]) hu3
    have c1 := (m2.trans m3) _ _ (upd_same (H := Ha) (a := u1) (o := .tup [.int n]))
    have c2 := m3 _ _ (upd_same (a := u2) (o := .tup [.int (1 + r), .ref u1]))
    have c3 : (upd (upd (upd Ha u1 (.tup [.int n])) u2 (.tup [.int (1 + r), .ref u1])) u3 (.lst [.ref u2])) u3 = some (.lst [.ref u2]) := upd_same
    have M := m1.trans (m2.trans m3)
    generalize (upd (upd (upd Ha u1 (.tup [.int n])) u2 (.tup [.int (1 + r), .ref u1])) u3 (.lst [.ref u2]) : Hp) = Hb at M c1 c2 c3 ⊢
    clear m1 m2 m3 hu1 hu2 hu3
    have Db := Da.same M
    have gb : ∀ v ∈ ([V.int 0, .int (-1), .int (10 ^ (59 : Int).toNat), .bl true, .non, .str "", .str "undo", .ref q1, .ref q3, .ref q4, .ref q5] : List V), GoodV K Hb v := fun v hv => (ga v hv).same M
    have b9 := M _ _ (Ba _ _ n9 e9)
    have Bb : But d H Hb := (B9.trans Ba).trans (But.of M)
    have u2g : GoodV K Hb (.ref u2) := by
      refine ⟨.tuple [.int (1 + r), .tuple [.int n]], .tup (SqT.of c2) (.cons (.int _) (.cons (.tup (SqT.of c1) (.cons (.int _) .nil)) .nil)), ?_, ?_, ?_⟩
      · rw [okD, okAll, okAll, okAll, okD, okD, okAll, okAll, okD, decide_eq_true (small_abs (by omega) (by omega) : (1 + r).natAbs < 2 ^ 300), decide_eq_true (small_abs (by omega) (by omega) : n.natAbs < 2 ^ 300)]; rfl
      · rw [PyData.depth, PyData.depthAll, PyData.depthAll, PyData.depthAll, PyData.depth, PyData.depth, PyData.depthAll, PyData.depthAll, PyData.depth]; decide
      · rw [szD, szAll, szAll, szAll, szD, szD, szAll, szAll, szD]; decide
    clear good ga e1 e2 e3 e4 e5 e9 S D9 B9 Ba Da M
    refine ⟨5, rfl, by decide, by decide, fun D0 hD0 => ?_⟩
    have nd0 : d ≠ D0 := by
      obtain ⟨_, _, z, _⟩ := Db
      exact ne_of_none z hD0
    refine lc_range (lo := 0) (n := (5 : Int).toNat) (fun i H' => (∃ ws, ws.length = i ∧ H' D0 = some (.lst ws) ∧ ∀ v ∈ ws, GoodV K (er H' D0) v) ∧ But d Hb H' ∧ DeckAt H' d) ⟨⟨[], rfl, upd_same, fun v h => by cases h⟩, But.of (Same.new hD0), Db.same (Same.new hD0)⟩ ?_ ?_
    · rintro i H' hi ⟨⟨ws, hl, hL, hg⟩, B', D'⟩
      have hi : i < 5 := hi
      refine ⟨rfl, _, rfl, _, rfl, d, q9, _, rfl, D', SqL.of (B' _ _ n9 b9), (fun z => by cases z), by show 11 < 1000000; decide, fun v H2 hv D2 B2 => ?_⟩
      refine ⟨ws, B2 _ _ nd0.symm hL, by omega, ⟨ws ++ [v], by rw [List.length_append, hl]; rfl, upd_same, fun u hu => ?_⟩, fun b u nb e => ?_, ?_⟩
      · rw [er_upd]
        rcases List.mem_append.mp hu with hu | hu
        · exact (hg u hu).but (er_deck D' nd0) (er_butE B2)
        · rw [List.mem_singleton.mp hu]
          exact (gb v hv).but Db (er_but (B'.trans B2) hD0)
      · rw [upd_ne (ne_of_none e hD0)]
        exact B2 _ _ nb (B' _ _ nb e)
      · obtain ⟨x, y, z, zr⟩ := D2
        exact ⟨x, y, by rw [upd_ne nd0]; exact z, zr⟩
    rintro Hc ⟨⟨ws, hl, hL, hg⟩, B', D'⟩
    have hl5 : ws.length = 5 := hl
    have n3 : u3 ≠ d := by
      obtain ⟨_, _, z, _⟩ := Db
      exact ne_of c3 z (fun y => by cases y)
    refine ⟨u3, D0, [.ref u2], ws, rfl, rfl, B' _ _ n3 c3, hL, by show 1 + ws.length ≤ sizeLine; omega, fun q hq => ?_⟩
    have F0g : ∀ v ∈ ([.ref u2] ++ ws : List V), GoodV K Hc v := fun v hv => by
      rcases List.mem_append.mp hv with h | h
      · rw [List.mem_singleton.mp h]; exact u2g.but Db B'
      · exact (hg v h).same er_le
    have Bc := Bb.trans B'
    obtain ⟨F0, hF0⟩ : ∃ F0, F0 = ([.ref u2] ++ ws : List V) := ⟨_, rfl⟩
    have hF0l : F0.length = 6 := by rw [hF0, List.length_append, hl5]; rfl
    rw [← hF0] at F0g ⊢
    clear hg hL u2g gb b9 Bb Db hF0 hl hl5 c1 c2 c3 n9 n3
    have hHq : H q = none := by
      cases e : H q with
      | none => rfl
      | some u =>
        have hqd : q ≠ d := fun z => by
          obtain ⟨_, _, y, _⟩ := D'
          rw [← z, hq] at y; cases y
        have := Bc _ _ hqd e
        rw [hq] at this; cases this
    have s1 := Same.new (o := .lst F0) hq
    have Q1 : (upd Hc q (.lst F0)) q = some (.lst F0) := upd_same
    have nq : d ≠ q := by
      obtain ⟨_, _, z, _⟩ := D'
      exact ne_of_none z hq
    have G1 : ∀ v ∈ F0, GoodV K (er (upd Hc q (.lst F0)) q) v := fun v hv => (F0g v hv).same (er_of s1 hq)
    have B1 := Bc.trans (But.of (d := d) s1)
    have D1 := D'.same s1
    generalize (upd Hc q (.lst F0) : Hp) = H1 at Q1 G1 B1 D1 ⊢
    clear F0g s1 Bc D' B'
    -- found[2]
    refine ⟨_, rfl, d, 9, rfl, D1, by decide, by decide, fun r' He r0' r1' De Be => ⟨_, _, rfl, rfl, by show 2 ≤ sizeLine; omega, fun x1 hx1 => ⟨by show 2 ≤ sizeLine; omega, fun x2 hx2 => ?_⟩⟩⟩
    have nqd : q ≠ d := nq.symm
    have Qe := Be _ _ nqd Q1
    have Ge : ∀ v ∈ F0, GoodV K (er He q) v := fun v hv => (G1 v hv).but (er_deck D1 nq) (er_butE Be)
    have m1 := Same.new (o := .tup [.int 1, .int (1 + r')]) hx1
    have m2 := Same.new (o := .tup [.ref x1, .int 0]) hx2
    have M := m1.trans m2
    have c1 := m2 _ _ (upd_same (H := He) (a := x1) (o := .tup [.int 1, .int (1 + r')]))
    have c2 : (upd (upd He x1 (.tup [.int 1, .int (1 + r')])) x2 (.tup [.ref x1, .int 0])) x2 = some (.tup [.ref x1, .int 0]) := upd_same
    have nx1 : x1 ≠ q := (ne_of_none Qe hx1).symm
    have nx2 : x2 ≠ q := (ne_of_none (m1 _ _ Qe) hx2).symm
    have Qf := M _ _ Qe
    have Df := De.same M
    have Gf : ∀ v ∈ F0, GoodV K (er (upd (upd He x1 (.tup [.int 1, .int (1 + r')])) x2 (.tup [.ref x1, .int 0])) q) v := fun v hv => (Ge v hv).same (er_same M)
    have Bf := (B1.trans Be).trans (But.of (d := d) M)
    generalize (upd (upd He x1 (.tup [.int 1, .int (1 + r')])) x2 (.tup [.ref x1, .int 0]) : Hp) = Hf at Qf Df Gf Bf c1 c2 ⊢
    clear m1 m2 M hx1 hx2 Ge Qe De Be G1 D1 Q1 B1
    refine ⟨_, rfl, q, F0, 2, 2, rfl, rfl, Qf, by rw [hF0l]; rfl, ?_⟩
    have x2g : GoodV K (er Hf q) (.ref x2) := by
      refine ⟨.tuple [.tuple [.int 1, .int (1 + r')], .int 0], .tup (SqT.of (er_at c2 nx2)) (.cons (.tup (SqT.of (er_at c1 nx1)) (.cons (.int _) (.cons (.int _) .nil))) (.cons (.int _) .nil)), ?_, ?_, ?_⟩
      · rw [okD, okAll, okAll, okAll, okD, okD, okAll, okAll, okAll, okD, okD, decide_eq_true (small_abs (by omega) (by omega) : (1 + r').natAbs < 2 ^ 300), decide_eq_true (small_abs (by decide) (by decide) : (1 : Int).natAbs < 2 ^ 300), decide_eq_true (small_abs (by decide) (by decide) : (0 : Int).natAbs < 2 ^ 300)]; rfl
      · rw [PyData.depth, PyData.depthAll, PyData.depthAll, PyData.depthAll, PyData.depth, PyData.depth, PyData.depthAll, PyData.depthAll, PyData.depthAll, PyData.depth, PyData.depth]; decide
      · rw [szD, szAll, szAll, szAll, szD, szD, szAll, szAll, szAll, szD, szD]; decide
    obtain ⟨F1, hF1⟩ : ∃ F1, F1 = F0.set 2 (.ref x2) := ⟨_, rfl⟩
    have hF1l : F1.length = 6 := by rw [hF1, List.length_set, hF0l]
    have G2 : ∀ v ∈ F1, GoodV K (er (upd Hf q (.lst F1)) q) v := fun v hv => by
      rw [er_upd]
      rw [hF1] at hv
      rcases List.mem_or_eq_of_mem_set hv with h | h
      · exact Gf v h
      · rw [h]; exact x2g
    rw [← hF1]
    have Q2 : (upd Hf q (.lst F1)) q = some (.lst F1) := upd_same
    have B2 : But d H (upd Hf q (.lst F1)) := fun b u nb e => by rw [upd_ne (ne_of_none e hHq)]; exact Bf _ _ nb e
    have D2 : DeckAt (upd Hf q (.lst F1)) d := by
      obtain ⟨x, y, z, zr⟩ := Df
      exact ⟨x, y, by rw [upd_ne nq]; exact z, zr⟩
    generalize (upd Hf q (.lst F1) : Hp) = H2 at G2 Q2 B2 D2 ⊢
    clear Gf x2g Qf Df Bf c1 c2 hF1
    -- number, word
    refine ⟨_, rfl, d, 99, rfl, D2, by decide, by decide, fun nr Hg nr0 nr1 Dg Bg => ⟨_, _, rfl, rfl, _, rfl, by show 3 ≤ sizeLine; omega, fun y1 hy1 => ?_⟩⟩
    have s3 := Same.new (o := .lst [.str "a", .str "zz", .str "desk"]) hy1
    refine ⟨d, y1, [.str "a", .str "zz", .str "desk"], rfl, Dg.same s3, SqL.of upd_same, (fun z => by cases z), by decide, fun v Hh hv Dh Bh => ⟨_, _, rfl, ?_⟩⟩
    obtain ⟨wz, rfl, hwz, hwb⟩ : ∃ wz : Str, v = .str wz ∧ wz.length ≤ 10 ∧ (∀ {H : Hp}, GoodV K H (.str wz) ∧ GoodV K H (.str (wz ++ "b"))) := by
      have gs : ∀ {z : Str} {H : Hp}, okD (.str z) = true → szD (.str z) ≤ 4000 → GoodV K H (.str z) := fun h1 h2 => ⟨_, .str _, h1, by rw [PyData.depth]; decide, h2⟩
      rcases List.mem_cons.mp hv with e | hv
      · exact ⟨_, e, by decide, fun {H} => ⟨gs (by decide +kernel) (by decide +kernel), gs (by decide +kernel) (by decide +kernel)⟩⟩
      rcases List.mem_cons.mp hv with e | hv
      · exact ⟨_, e, by decide, fun {H} => ⟨gs (by decide +kernel) (by decide +kernel), gs (by decide +kernel) (by decide +kernel)⟩⟩
      · exact ⟨_, List.mem_singleton.mp hv, by decide, fun {H} => ⟨gs (by decide +kernel) (by decide +kernel), gs (by decide +kernel) (by decide +kernel)⟩⟩
    have Qh := Bh _ _ nqd (s3 _ _ (Bg _ _ nqd Q2))
    have Bt : But d H2 Hh := (Bg.trans (But.of s3)).trans Bh
    have Gh : ∀ v ∈ F1, GoodV K (er Hh q) v := fun v hv => (G2 v hv).but (er_deck D2 nq) (er_butE Bt)
    have BH := B2.trans Bt
    clear s3 hy1 hv Bg Bh Dg G2 Q2 B2 D2 Bt
    refine ⟨_, rfl, _, rfl, _, rfl, _, _, rfl, rfl, _, rfl, _, _, rfl, rfl, _, rfl, by show 2 ≤ sizeLine; omega, fun y2 hy2 => ?_⟩
    have s4 := Same.new (o := .lst [.str "undo", .str "redo"]) hy2
    refine ⟨d, y2, [.str "undo", .str "redo"], rfl, Dh.same s4, SqL.of upd_same, (fun z => by cases z), by decide, fun v2 Hi hv2 Di Bi => ?_⟩
    have v2g : ∀ {H : Hp}, GoodV K H v2 := fun {H} => by
      rcases List.mem_cons.mp hv2 with e | hv2
      · rw [e]; exact ⟨_, .str _, by rw [okD], by rw [PyData.depth]; decide, by decide +kernel⟩
      · rw [List.mem_singleton.mp hv2]; exact ⟨_, .str _, by rw [okD], by rw [PyData.depth]; decide, by decide +kernel⟩
    refine ⟨_, rfl, _, rfl, _, _, rfl, rfl, by show wz.length + 1 ≤ sizeLine; omega, by show 6 ≤ sizeLine; omega, fun y3 hy3 => ?_⟩
    have Bj : But d Hh Hi := (But.of s4).trans Bi
    have s5 := Same.new (o := .lst [.int (1 + nr), .int (1 + nr + 1), .int (1 + nr + 300), v2, .str wz, .str (wz ++ "b")]) hy3
    refine ⟨q, y3, F1, _, rfl, rfl, s5 _ _ (Bj _ _ nqd Qh), upd_same, by show F1.length + 6 ≤ sizeLine; omega, fun q2 hq2 => ?_⟩
    have s6 := Same.new (o := .lst (F1 ++ [.int (1 + nr), .int (1 + nr + 1), .int (1 + nr + 300), v2, .str wz, .str (wz ++ "b")])) hq2
    have Di2 := (Di.same s5).same s6
    refine k q2 _ _ ((BH.trans Bj).trans (But.of (s5.trans s6))) Di2 upd_same (by rw [List.length_append, hF1l]; rfl) fun u hu => ?_
    rcases List.mem_append.mp hu with hu | hu
    · have g1 : GoodV K Hi u := ((Gh u hu).but (er_deck Dh nq) (er_butE Bj)).same er_le
      exact g1.same (s5.trans (er_of s6 hq2))
    · rcases List.mem_cons.mp hu with e | hu
      · rw [e]; exact good_int (by omega) (by omega)
      rcases List.mem_cons.mp hu with e | hu
      · rw [e]; exact good_int (by omega) (by omega)
      rcases List.mem_cons.mp hu with e | hu
      · rw [e]; exact good_int (by omega) (by omega)
      rcases List.mem_cons.mp hu with e | hu
      · rw [e]; exact v2g
      rcases List.mem_cons.mp hu with e | hu
      · rw [e]; exact hwb.1
      · rw [List.mem_singleton.mp hu]; exact hwb.2
end
open PySem PySem.W PySem.Calls PySem.HandSPX
end Hk
namespace Hk.ExK
open PySem PySem.W PySem.Calls PySem.HandSPX
section
variable {M : Model} {A : Around} {E : Value → Shared → Prop} {h : Heap} {g : Array GenState} {d : Drawn} {t : Nat} {os : OsState}
variable {nm q : Str} {C N : Addr} {bs bm bmB : List Value} {hdct : Bool} {sn : List Str} {sub : List Value} {ab : Bool} {col : Option Bool} {dd : Option Addr} {k0 k1 k2 k3 k5 : Option Value} {B newId initId : String} {kw : List (Str × Value)}
theorem check_new_ownK (F : ExcBaseFacts B newId initId bmB) (hT : ∀ X : String, bm.contains (.type X) = bmB.contains (.type X)) {rest : List Value} {Q : Unit → Shared → Prop}
    (hC : h.get? C = some (excClassObj nm q C N bs bm hdct sn sub ab col dd k0 k1 k2 k3 k5 newId)) (hq : Q () ⟨h, g, d, t, os⟩) : wpAny M A (checkBuiltinCall newId ⟨.ref C :: rest, kw⟩) Q E ⟨h, g, d, t, os⟩ := by
  have hcont : (Value.ref C :: bm).contains (.type B) = true := by rw [List.contains_cons, hT, F.hasB, Bool.or_true]
  have hstar := F.noStar
  simp only [checkBuiltinCall, F.newKind, F.newSplit, F.newRow]
  repeat (first | refine wpAny_loadPart_at hC ?_ | (refine wpAny_isSubtype_exc hC ?_; rw [hcont]) | refine wpAny_staticBase_exc hC ?_ | refine wpAny_madeBy_exc hC ?_ | simp only [bne_self_eq_false, Bool.false_eq_true, if_false] | wp_step)
  exact hq
end
section
variable {prog : Program} {w : World} {A : Around} {E : Value → Shared → Prop} {R : Result → Shared → Prop} {h : Heap} {g : Array GenState} {d : Drawn} {t : Nat} {os : OsState}
variable {nm q : Str} {C N : Addr} {bs bm bmB : List Value} {hdct : Bool} {sn : List Str} {sub : List Value} {ab : Bool} {col : Option Bool} {dd : Option Addr} {k0 k1 k2 k3 k5 : Option Value} {B newId initId : String} {kw : List (Str × Value)}
theorem new_ownK (F : ExcBaseFacts B newId initId bmB) (hT : ∀ X : String, bm.contains (.type X) = bmB.contains (.type X)) {rest : List Value}
    (hC : h.get? C = some (excClassObj nm q C N bs bm hdct sn sub ab col dd k0 k1 k2 k3 k5 newId))
    (hq : R (.ok (.ret (.ref (h.objs.size + 1)))) ⟨(h.push { cls := .type "tuple", data := .seq rest.toArray }).push
      { cls := .ref C, data := .fields #[.ref h.objs.size, .none, .none, .none, .bool false, .none] }, g, d, t, os⟩) (hrest : rest.length ≤ sizeLine) :
    codeAny (model prog w) A (.builtin newId ⟨.ref C :: rest, kw⟩) R ⟨h, g, d, t, os⟩ := by
  have hends := F.ends
  have hcB : (Value.ref C :: bm).contains (.type B) = true := by rw [List.contains_cons, hT, F.hasB, Bool.or_true]
  have hcA : (Value.ref C :: bm).contains (.type "AttributeError") = false := by rw [List.contains_cons, hT, F.noAttr]; rfl
  have hcN : (Value.ref C :: bm).contains (.type "NameError") = false := by rw [List.contains_cons, hT, F.noName]; rfl
  refine codeAny_builtinAt F.entry ?_
  unfold Builtin.«BaseException.__new__»
  refine wpAt_bind ?_
  show wpAt _ _ _ (stack >>= _) _ _ _
  refine wpAt_bind (wpAt_stack fun p below => wpAt_of_wpAny ?_)
  wp_walk
  refine wpAt_of_wpAny ?_
  rw [F.owner]
  repeat (first | with_reducible refine wpAny_madeHere_exc F.canon hC ?_ | with_reducible refine wpAny_loadPart_at hC ?_ | (with_reducible refine wpAny_isSubtype_exc hC ?_; first | rw [hcB] | rw [hcA] | rw [hcN]) | wp_step)
  show R _ _
  rw [Heap.size_push]
  exact hq
theorem type_call_ownK (F : ExcBaseFacts B newId initId bmB) (hT : ∀ X : String, bm.contains (.type X) = bmB.contains (.type X)) {rest : List Value} {fI : Addr} {Q : Fin → Shared → Prop}
    (hC : h.get? C = some (excClassObj nm q C N bs bm hdct sn sub ab col dd k0 k1 k2 k3 k5 newId))
    (hi : W.Looks (model prog w) h (typeLookup (.ref C) "__init__") (some (.ref fI))) (hb : ∀ self, W.Looks (model prog w) h (bindSpecial (.ref fI) self) (.ref fI, [self])) (hrest : rest.length ≤ sizeLine)
    (hq : codeAny (model prog w) A (.call (.ref fI) ⟨.ref (h.objs.size + 1) :: rest, kw⟩)
      (fun r s' => match r with | .ok (.ret v) => v = .none ∧ Q (.done (.ret (.ref (h.objs.size + 1)))) s' | .ok _ => False | .error e => E e s')
      ⟨(h.push (W.kdv_tup rest)).push (excO C h.objs.size), g, d, t, os⟩) :
    wpAny (model prog w) A (Builtin.«type.__call__» ⟨.ref C :: rest, kw⟩) Q E ⟨h, g, d, t, os⟩ := by
  repeat (first | with_reducible refine wpAny_loadPart_at hC ?_ | with_reducible refine wpAny_madeBy_exc hC ?_ | wp_step)
  refine codeAny_call_builtin_code (Code.quiet_builtin _ F.quiet) (check_new_ownK F hT hC ?_)
  refine new_ownK F hT hC ?_ hrest
  show wpAny _ _ _ _ _ _
  have k : ∀ b o, h.get? b = some o → ((h.push (W.kdv_tup rest)).push (excO C h.objs.size)).get? b = some o := fun b o e => Heap.get?_push_of_some _ (Heap.get?_push_of_some _ e)
  have hC₁ := k _ _ hC
  have hget : ((h.push (W.kdv_tup rest)).push (excO C h.objs.size)).get? (h.objs.size + 1) = some (excO C h.objs.size) := by heap_get
  have hcC : (Value.ref C :: bm).contains (.ref C) = true := by simp
  have i1 := hi.keeps k
  have b1 := (hb (.ref (h.objs.size + 1))).keeps k
  unfold isInstance
  repeat (first | with_reducible refine wpAny_loadPart_at hget ?_ | (with_reducible refine wpAny_isSubtype_exc hC₁ ?_; rw [hcC]) | wp_step)
  show wpAny _ _ (typeLookup (.ref C) _) _ _ _
  refine i1.at ?_
  refine wpAny_holding (wpAny_bind (b1.at ?_))
  refine wpAny_bind (wpAny_call (codeAny_mono hq fun r s' z => ?_))
  rcases r with e | (v | _ | _ | _) <;> first | exact z | exact z.elim | skip
  obtain ⟨rfl, z⟩ := z
  first
    | exact wpAny_pure (wpAny_pure z)
    | (wp_walk; exact z)
theorem call_ownK (F : ExcBaseFacts B newId initId bmB) (hT : ∀ X : String, bm.contains (.type X) = bmB.contains (.type X)) {rest : List Value} {fI : Addr}
    (hC : h.get? C = some (excClassObj nm q C N bs bm hdct sn sub ab col dd k0 k1 k2 k3 k5 newId))
    (hi : W.Looks (model prog w) h (typeLookup (.ref C) "__init__") (some (.ref fI))) (hb : ∀ self, W.Looks (model prog w) h (bindSpecial (.ref fI) self) (.ref fI, [self])) (hrest : rest.length ≤ sizeLine)
    (hq : codeAny (model prog w) (A.under (.builtin "type.__call__" ⟨.ref C :: rest, kw⟩)) (.call (.ref fI) ⟨.ref (h.objs.size + 1) :: rest, kw⟩) (W.InitBack (h.objs.size + 1) R)
      ⟨(h.push (W.kdv_tup rest)).push (excO C h.objs.size), g, d, t, os⟩) :
    codeAny (model prog w) A (.call (.ref C) ⟨rest, kw⟩) R ⟨h, g, d, t, os⟩ := by
  have f1 := tc_lookup
  have f2 := tc_bind (.ref C)
  have hTy : (⟨h, g, d, t, os⟩ : Shared).TypeIs (.ref C) "type" := ⟨_, hC, rfl⟩
  refine codeAny_of_tree ?_
  show wpAny _ _ (callAny (.ref C) _) _ _ _
  repeat (any_goals (first | assumption | with_reducible refine wpAny_loadPart_at hC ?_ | wp_step))
  refine ⟨rfl, ?_⟩
  refine codeAny_call_builtin_at (Code.quiet_builtin _ (by decide +kernel)) entry_typeCall (wpAny_check_type_call_sub hC (type_call_ownK F hT hC hi hb hrest ?_))
  refine codeAny_mono hq fun r s' z => ?_
  rcases r with e | (v | _ | _ | _) <;> exact z
end
end Hk.ExK
namespace Hk
open PySem L2 PySem.Spec PyProof.Rows
end Hk
/-! ### isinstance of an error that has fields of its own -/
namespace PySem.W
open PySem PySem.Spec PySem.Calls PyProof.Rows
section
variable {prog : Program} {w : World} {Ar : Around} {Er : Value → Shared → Prop} {st : Shared} {K : Frag} {ea D : Addr} {eo : Obj} {own : Option Obj}
theorem xfind {nm : Str} {at1 g1 : Value} (q1 : (clsIn K D).isSome = true) (q2 : findIn K (.ref D) nm = some (some at1)) (q3 : specialIn K at1 "__get__" = some (some g1)) (q4 : takesIn K at1 = some true) : findObj K D own nm = some (.bind g1 at1) := by
  obtain ⟨cd, e⟩ := Option.isSome_iff_exists.mp q1
  unfold findObj
  rw [e, Option.bind_some, q2, Option.bind_some]
  simp [q3, q4]
theorem xclass {Qr : Option Value → Shared → Prop} (C : L2.ExcC K D) (X : K.In st.heap) (J : InstAt st.heap ea eo D own) (hq : Qr (some (.ref D)) { st with toks := st.toks + 1 }) : wpAny (model prog w) Ar (getAttr? (.ref ea) "__class__") Qr Er st := by
  have fnd : findObj K D own "__class__" = some (.bind (.builtin "getset_descriptor.__get__") (.builtin "object.__class__")) := xfind (by obtain ⟨cd, e, _⟩ := any_some C.hd; rw [e]; rfl) C.ha C.hn C.ht
  obtain ⟨hp, gn, dr, tk, os⟩ := st
  have T0 := J.type (M := model prog w)
  have T1 := looks_findIn (M := model prog w) X C.hg
  have T2 := looks_findIn (M := model prog w) X C.hk
  have T3 := looks_find (M := model prog w) X J fnd
  have isX : Looks (model prog w) hp (isInstance (.ref ea) (.type "BaseException")) true := T0.andThen (looks_subIn X C.hs)
  have n0 : (false && onTheHeap (Value.builtin "BaseException.__getattribute__")) = false := rfl
  have n2 : (Value.builtin "BaseException.__getattribute__" == Value.builtin "object.__getattribute__") = false := by decide +kernel
  have n1 : (onTheHeap (Value.ref D) && Value.builtin "BaseException.__getattribute__" == Value.builtin "object.__getattribute__") = false := by rw [n2]; rfl
  unfold getAttr? getAttrBy? getAttrBy
  refine wpAny_bind (wpAny_mkText (wpAny_bind (wpAny_attempt (wpAny_holding (wpAny_bind (T0.at (wpAny_bind (T1.at ?_))))))))
  show wpAny _ _ (ite ((onTheHeap (Value.ref D) && Value.builtin "BaseException.__getattribute__" == Value.builtin "object.__getattribute__") = true) _ _) _ _ _
  rw [n1, if_neg Bool.false_ne_true]
  unfold getAttrByItsOwn hookBefore
  refine wpAny_bind (?_)
  rw [if_pos (show onTheHeap (Value.ref D) = true from rfl)]
  refine T2.at (?_)
  refine wpAny_bind (wpAny_attempt (wpAny_holding (?_)))
  unfold callGetattribute
  rw [n0, if_neg Bool.false_ne_true]
  unfold boundAndCalled
  rw [PySem.F.excAttr_ValueError.ga.bind (.ref ea)]
  refine wpAny_bind (wpAny_pure (?_))
  show wpAny _ _ (call (.builtin "BaseException.__getattribute__") [.ref ea, .str "__class__" tk]) _ _ _
  refine wpAny_call (codeAny_call_builtin PySem.F.excAttr_ValueError.ga.plain PySem.F.entry_bexc_ga (?_))
  refine @check_slot (model prog w) _ _ ⟨hp, gn, dr, tk + 1, os⟩ "BaseException.__getattribute__" "BaseException" "__getattribute__" (.ref ea) [.str "__class__" tk] [] _ (by decide +kernel) (by decide +kernel) isX (PySem.F.args_bexc_ga (.ref ea) (.str "__class__" tk)) ?_
  unfold Builtin.«object.__getattribute__»
  refine wpAny_bind (wpAny_of_eq (a := ((Value.ref ea : Value), [Value.str "__class__" tk])) (by first | rfl | (simp only [slotArgs]; rfl)) ?_)
  refine wpAny_bind (wpAny_pure (wpAny_bind (T0.at (wpAny_bind (T3.at (?_))))))
  show wpAny _ _ (holding [Value.builtin "object.__class__"] (call (.builtin "getset_descriptor.__get__") [.builtin "object.__class__", .ref ea, .ref D]) >>= ret) _ _ _
  refine wpAny_bind (wpAny_holding (wpAny_call (class_get (s := ⟨hp, gn, dr, tk + 1, os⟩) (ox := eo) (od := own) X J C.hm ?_)))
  refine wpAny_pure (?_)
  show wpAny _ _ (handedOut (.ref D)) _ _ _
  rw [handedOut_of (v := Value.ref D) rfl]
  first
    | exact wpAny_pure (wpAny_pure hq)
    | exact wpAny_pure hq
    | exact wpAny_pure (wpAny_bind (wpAny_pure (wpAny_pure hq)))
theorem xkit (C : L2.ExcC K D) (Hx : Heap → Prop) (hx : ∀ h, Hx h → ∃ own, InstAt h ea eo D own) : KitX K (.ref ea) (.ref D) Hx where
  ty := fun _ h _ z => let ⟨_, J⟩ := hx h z; J.type
  it := fun _ h X _ => by
    obtain ⟨cdD, e, _⟩ := any_some C.hd
    unfold clsIn at e
    split at e
    · rename_i ho
      intro A' Q' E' s' k q
      unfold isType loadHead
      exact wpAny_bind (wpAny_loadPart (k _ _ (X _ _ ho)) (wpAny_pure q))
    · cases e
  ne := fun h tp dd its n sl X htp => by
    obtain ⟨cdD, e, _⟩ := any_some C.hd
    refine Bool.eq_false_iff.mpr fun q => ?_
    obtain rfl : D = tp := Value.ref.inj (beq_iff_eq.mp q)
    unfold clsIn at e
    split at e
    · rename_i ho
      have z := (X _ _ ho).symm.trans htp
      cases z
    · cases e
  ca := fun {_ _ _ _ _ s} X z k => let ⟨_, J⟩ := hx s.heap z; xclass C X J k
end
end PySem.W
namespace L2
open PySem PySem.Spec PyProof.Rows
/-- isinstance(e, c), e the error with fields of its own that the suite holds -/
def rIsX (K : PySem.W.Frag) (D a : Addr) (cls : Value) (d : Option Addr) : List V → Hp → VK → Prop := fun xs H Q => ∃ (c : V) (cv : Value) (b : Bool) (dd : Addr) (kv : List (Str × V)), xs = [.ref a, c] ∧ (∀ u, RelV c u → u = cv) ∧ cls = .ref D ∧ d = some dd ∧ H dd = some (.xd kv) ∧ PySem.W.kitOne K (.ref D) cv = some b ∧ Q (.bl b) H
theorem call_isX {X : Cx} {K : PySem.W.Frag} {a D : Addr} {cls : Value} {d : Option Addr} {oe : Obj} {pn : List (Addr × Obj)} (hK : X.K = K) (C : ExcC K D) (hz : Zc cls d oe) (hf : ∃ vs, oe.data = .fields vs) : CallR (X.suite a ((a, oe) :: pn)) (.builtin "isinstance") (rIsX K D a cls d) := by
  subst hK
  intro pins s σ H xs us Q I r h
  obtain ⟨c, cv, b, dd, kv, rfl, hcv, rfl, rfl, hd, e, q⟩ := h
  cases r with
  | cons rx rr =>
    cases rr with
    | cons rt rr =>
      cases rr
      cases rx
      obtain rfl := hcv _ rt
      obtain ⟨hget, _⟩ := I.pin (a, oe) (List.mem_append.mpr (.inl List.mem_cons_self))
      obtain ⟨fv, hv⟩ := hf
      obtain ⟨mA, hns, _⟩ := (show ObjOk X.prog X.w H s.heap dd (.xd kv) from I.hok dd _ hd)
      obtain ⟨od, ho, _⟩ := lookIn_ns hns
      have J : PySem.W.InstAt s.heap a oe D (some od) := ⟨hget, hz.1, by unfold PySem.W.notCls; rw [hv] <;> rfl, by rw [hz.2]; exact ho⟩
      exact PySem.W.kia_one (PySem.W.xkit C (fun h => PySem.W.InstAt h a oe D (some od)) fun h z => ⟨_, z⟩) I.kIn J e (fun z => nomatch z) fun tk => ⟨.bl b, H, I.kept (t' := tk) fun _ _ z => z, rfl, q⟩
end L2
namespace Hk
open PySem L2 PySem.Spec PyProof.Rows
/-! ### errors of own classes, kept as values -/
/-- what the made error is: its class, its one field -/
def ExAt (H : Hp) (a C : Addr) (f : Str) (v : V) : Prop := ∃ d, H a = some (exo a C (some d)) ∧ H d = some (exd d [(f, v)])
theorem ExAt.same {H H' : Hp} {a C : Addr} {f : Str} {v : V} (h : ExAt H a C f v) (s : Same H H') : ExAt H' a C f v := by
  obtain ⟨d, h1, h2⟩ := h
  exact ⟨d, s _ _ h1, s _ _ h2⟩
/-- what the __init__ of such a class promises -/
def spMk (K : PySem.W.Frag) (f : Str) : Sp := fun vs H Q _ => ∃ (a C : Addr) (v : V), vs = [.ref a, v] ∧ OexC K C ∧ PySem.W.findIn K (.ref C) f = some none ∧ H a = some (exo a C none) ∧
  ∀ dx, H dx = none → dx ≠ a → Q .non (upd (upd H dx (exd dx [(f, v)])) a (exo a C (some dx)))
section
variable {X : Cx} {k : Nat} {C fI : Addr} {fd : FuncData} {ps ks : List Str} {sp : Sp} {x : Str} {p pos : Pos} {e : Expr} {es : List Expr} {kws : List Keyword} {t tk : TA}
/-- C is made: the object, then its __init__ -/
theorem oex_run {pins : List (Addr × Obj)} {σ : L2.St} {H : Hp} {s : Shared} {Q : VK} {us ws all : List Value} {vs : List V} (T : OexC X.K C) (iC : PySem.W.findIn X.K (.ref C) "__init__" = some (some (.ref fI))) (tI : PySem.W.typeIn X.K (.ref fI) = some (.type "function"))
    (F1 : FnOk X.prog X.w X.K X.mg X.base CX0 k fI fd ps sp) (hr : Room (k + 1) X.A) (I : L2.Inv X pins σ H s) (hus : us.length ≤ 1000) (hb : ∀ self : Value, bindArgs fd ⟨self :: us, ks.zip ws⟩ = pure (ps.zip (self :: all))) (r : Vals vs all)
    (h : ∀ a, H a = none → sp (.ref a :: vs) (upd H a (exo a C none)) (fun v H2 => v = .non ∧ Q (.ref a) H2) (fun _ _ _ => False)) :
    wpAny (model X.prog X.w) X.A (call (.ref C) us (ks.zip ws)) (EP X pins σ Q) X.xe s := by
  obtain ⟨nm, q, N, bs, bm, sn, sub, ab, col, dd, k0, k1, k2, k3, k5, hC, hbm⟩ := T.cls
  obtain ⟨hp, g, dr, tk, os⟩ := s
  have hsz : hp.objs.size ≤ hp.objs.size + 1 := Nat.le_succ _
  have hn : H (hp.objs.size + 1) = none := I.hok.fresh hsz
  have hq := h (hp.objs.size + 1) hn
  have kk : ∀ b o, hp.get? b = some o → ((hp.push (PySem.W.kdv_tup us)).push (PySem.HandSPX.excO C hp.objs.size)).get? b = some o := fun b o e => Heap.get?_push_of_some _ (Heap.get?_push_of_some _ e)
  have hget : ((hp.push (PySem.W.kdv_tup us)).push (PySem.HandSPX.excO C hp.objs.size)).get? (hp.objs.size + 1) = some (PySem.HandSPX.excO C hp.objs.size) := by heap_get
  have I2 : L2.Inv X pins σ (upd H (hp.objs.size + 1) (exo (hp.objs.size + 1) C none)) ⟨(hp.push (PySem.W.kdv_tup us)).push (PySem.HandSPX.excO C hp.objs.size), g, dr, tk, os⟩ :=
    I.laid (t' := tk) (a := hp.objs.size + 1) (o := exo (hp.objs.size + 1) C none) (h' := (hp.push (PySem.W.kdv_tup us)).push (PySem.HandSPX.excO C hp.objs.size)) kk hsz (exo_ok hget)
  have r2 : Vals (V.ref (hp.objs.size + 1) :: vs) (Value.ref (hp.objs.size + 1) :: all) := .cons rfl r
  have hus' : us.length ≤ sizeLine := by rw [sizeLine_eq]; omega
  refine wpAny_call (ExK.call_ownK F.excBase_ValueError (fun Y => PySem.HandSPX.refsVE_contains Y bm hbm) (I.kIn _ _ hC) (PySem.W.looks_findIn I.kIn iC) (fun self => PySem.W.bind_fn I.kIn self tI) hus'
    (codeAny_mono (F1.run _ X.stack _ _ ⟨Value.ref (hp.objs.size + 1) :: us, ks.zip ws⟩ (Value.ref (hp.objs.size + 1) :: all) _ _ (fun _ _ _ => False) (hr.make C us (ks.zip ws)) (I2.env0.make C us (ks.zip ws)) (.of_eq (hb _)) r2 hq) fun r s' hq' => ?_))
  cases r with
  | error er => exact (show Passes CX0 X (fun _ _ _ => False) from pass0) pins σ _ _ er s' I2 hq'
  | ok fl =>
    cases fl with
    | ret u =>
      obtain ⟨v, H', I3, rv, ev, q3⟩ := I2.after hq'
      subst ev
      exact ⟨rv, ⟨V.ref (hp.objs.size + 1), H', I3, rfl, q3⟩⟩
    | next => exact False.elim hq'
    | brk => exact False.elim hq'
    | cont => exact False.elim hq'
/-- C(e) -/
theorem pe_oexV (T : OexC X.K C) (iC : PySem.W.findIn X.K (.ref C) "__init__" = some (some (.ref fI))) (tI : PySem.W.typeIn X.K (.ref fI) = some (.type "function")) (F1 : FnOk X.prog X.w X.K X.mg X.base CX0 k fI fd ps sp) (hr : Room (k + 1) X.A)
    (hb : ∀ self v : Value, bindArgs fd ⟨[self, v], []⟩ = pure (ps.zip [self, v])) (hg : Gl X x) (hm : X.mg x = some (.ref C)) (ha : PA X [e] t)
    (hdb : (x == ("__debug__" : Str)) = false := by decide) (he : starEach [e] X.env = (false, eval e X.env) :: starEach [] X.env := by rfl) (hpl : (backTo pos (starEach [] X.env)).any (·.1) = false := by rfl) :
    PE X (.Call (.Name x p) [e] [] pos) (fun σ H Q => t σ H fun vs H1 => vs.length = 1 ∧ ∀ a, H1 a = none → sp (.ref a :: vs) (upd H1 a (exo a C none)) (fun v H2 => v = .non ∧ Q (.ref a) H2) (fun _ _ _ => False)) := by
  refine ⟨fun pins s σ H Q I h => ?_⟩
  refine wpAny_Call_Name_kw (ld_glob I hg hm ?_ hdb)
  refine PySem.W.callWith_K (h₀ := X.base) I.ok.mod.kin T.kC (thn (ha.run pos pins s σ H _ I h) fun us s1 ⟨vs, H1, I1, r1, hl, q1⟩ => ⟨I1.kIn, ?_⟩) he hpl
  have hl2 : us.length = 1 := by rw [← r1.length]; exact hl
  obtain ⟨u, rfl⟩ : ∃ u, us = [u] := match us, hl2 with | [u], _ => ⟨u, rfl⟩
  exact oex_run (ks := []) (ws := []) T iC tI F1 hr I1 (by show 1 ≤ 1000; decide) (fun self => hb self u) r1 q1
/-- C(f = e) -/
theorem pe_oexVK (T : OexC X.K C) (iC : PySem.W.findIn X.K (.ref C) "__init__" = some (some (.ref fI))) (tI : PySem.W.typeIn X.K (.ref fI) = some (.type "function")) (F1 : FnOk X.prog X.w X.K X.mg X.base CX0 k fI fd ps sp) (hr : Room (k + 1) X.A)
    (hb : ∀ self v : Value, bindArgs fd ⟨[self], ks.zip [v]⟩ = pure (ps.zip [self, v])) (hg : Gl X x) (hm : X.mg x = some (.ref C)) (hkw : PK X kws tk)
    (hall : (backToKw pos (keywordEach kws X.env)).all (·.1.isSome) = true := by rfl) (hks : (backToKw pos (keywordEach kws X.env)).filterMap (·.1) = ks := by rfl)
    (hdb : (x == ("__debug__" : Str)) = false := by decide)
    (hpl : ((backTo pos (starEach [] X.env)).any (·.1) || (backToKw pos (keywordEach kws X.env)).any (·.1.isNone)) = false := by rfl) :
    PE X (.Call (.Name x p) [] kws pos) (fun σ H Q => tk σ H fun vs H1 => vs.length = 1 ∧ ∀ a, H1 a = none → sp (.ref a :: vs) (upd H1 a (exo a C none)) (fun v H2 => v = .non ∧ Q (.ref a) H2) (fun _ _ _ => False)) := by
  refine ⟨fun pins s σ H Q I h => ?_⟩
  refine wpAny_Call_Name_kw (ld_glob I hg hm ?_ hdb)
  refine PySem.W.callWith_KW0 (h₀ := X.base) I.ok.mod.kin T.kC hall (thn (hkw.run pos pins s σ H _ I h) fun ws s2 ⟨zs, H2, I2, rz, hl, q2⟩ => ⟨I2.kIn, ?_⟩) hpl
  rw [hks]
  have hl2 : ws.length = 1 := by rw [← rz.length]; exact hl
  obtain ⟨u, rfl⟩ : ∃ u, ws = [u] := match ws, hl2 with | [u], _ => ⟨u, rfl⟩
  exact oex_run (us := []) (ws := [u]) T iC tI F1 hr I2 (by show 0 ≤ 1000; decide) (fun self => hb self u) rz q2
end
/-- e.f of such an error -/
def tExF (K : PySem.W.Frag) (f : Str) (te : TE) : TE := fun σ H Q => te σ H fun x H1 => ∃ (a C : Addr) (v : V), x = .ref a ∧ XfC K C ∧ PySem.W.findIn K (.ref C) f = some none ∧ ExAt H1 a C f v ∧ Q v H1
theorem pe_exF {X : Cx} {e : Expr} {te : TE} {pos : Pos} {n : Str} (he : PE X e te) (hb : attributeBase e n X.env (eval e X.env) = eval e X.env := by rfl) : PE X (.Attribute e n pos) (tExF X.K n te) := by
  refine ⟨fun pins s σ H Q I h => ?_⟩
  refine attr_of hb (thn (he.run pins s σ H _ I h) fun u s1 hh => ?_)
  obtain ⟨x, H1, I1, rx, a, C, v, ex, T, hno, ⟨dd, ea, ed⟩, q⟩ := hh
  subst ex
  obtain rfl : u = Value.ref a := rx
  obtain ⟨t1, ha⟩ := exo_at I1.hok ea
  obtain ⟨mA, hns, hr⟩ := exd_at I1.hok ed
  obtain ⟨od, ho, hl⟩ := lookIn_ns hns
  have l : ([(n, v)] : List (Str × V)).lookup n = some v := by simp [List.lookup]
  obtain ⟨u, hu, ru⟩ := RelO.some_of (v := v) (o := mA n) (by rw [← l]; exact hr n)
  have J : PySem.W.InstAt s1.heap a _ C (some od) := ⟨ha, rfl, rfl, ho⟩
  exact HandSPX.exc_get I1.kIn J T.ga T.gg T.exC (PySem.W.findObj_own T.hdC hno rfl (by rw [hl, hu])) (handed_of ru) ⟨v, H1, I1.tok _, ru, q⟩
/-- isinstance(e, c) of such an error -/
def rIsO (K : PySem.W.Frag) : List V → Hp → VK → Prop := fun xs H Q => ∃ (a D : Addr) (c : V) (cv : Value) (b : Bool) (f : Str) (v : V), xs = [.ref a, c] ∧ ExcC K D ∧ ExAt H a D f v ∧ (∀ u, RelV c u → u = cv) ∧ PySem.W.kitOne K (.ref D) cv = some b ∧ Q (.bl b) H
theorem call_isO {X : Cx} : CallR X (.builtin "isinstance") (rIsO X.K) := by
  intro pins s σ H xs us Q I r h
  obtain ⟨a, D, c, cv, b, f, v, rfl, C, ⟨dd, ea, ed⟩, hcv, e, q⟩ := h
  cases r with
  | cons rx rr =>
    cases rr with
    | cons rt rr =>
      cases rr
      cases rx
      obtain rfl := hcv _ rt
      obtain ⟨t1, ha⟩ := exo_at I.hok ea
      obtain ⟨mA, hns, _⟩ := exd_at I.hok ed
      obtain ⟨od, ho, _⟩ := lookIn_ns hns
      have J : PySem.W.InstAt s.heap a _ D (some od) := ⟨ha, rfl, rfl, ho⟩
      exact PySem.W.kia_one (PySem.W.xkit C (fun h => PySem.W.InstAt h a _ D (some od)) fun h z => ⟨_, z⟩) I.kIn J e (fun z => nomatch z) fun tk => ⟨.bl b, H, I.kept (t' := tk) fun _ _ z => z, rfl, q⟩
/-! ### the errors' own __init__ -/
def initOf : Stmt → Stmt
  | .ClassDef (body := b) .. => b.headD (.Pass ⟨0, 0, 0, 0⟩)
  | s => s
section
variable {P : Program} {w : World} {K : PySem.W.Frag} {mg : Str → Option Value} {base : Heap}
theorem sc_BadItem : FnScope ["self", "value"] ["self", "value"] (defScope (initOf sCBadItem)) := ⟨rfl, rfl, rfl, by decide +kernel, rfl, by decide +kernel, by decide +kernel⟩
theorem in_BadItem {f : Addr} {fd : FuncData} (F : Fun K "__init__" "BadItem.__init__" (initOf sCBadItem) f fd) : FnOk P w K mg base CX0 1 f fd ["self", "value"] (spMk K "value") := by
  refine F.ok sc_BadItem (fun vs H Q E h => ?_) (fun cdv A outer s H vs Q E hr h => ?_)
  · obtain ⟨a, C, v, rfl, _⟩ := h
    rfl
  · obtain ⟨a, C, v, rfl, T, hno, ha, k⟩ := h
    exact ⟨_, pss_one (ps_ost (pv 0) (pv 1)), _, rfl, _, rfl, a, C, rfl, T, hno, .inl ⟨ha, fun dx n ne => k dx n ne⟩⟩
theorem sc_BadRule : FnScope ["self", "value"] ["self", "value"] (defScope (initOf sCBadRule)) := ⟨rfl, rfl, rfl, by decide +kernel, rfl, by decide +kernel, by decide +kernel⟩
theorem in_BadRule {f : Addr} {fd : FuncData} (F : Fun K "__init__" "BadRule.__init__" (initOf sCBadRule) f fd) : FnOk P w K mg base CX0 1 f fd ["self", "value"] (spMk K "value") := by
  refine F.ok sc_BadRule (fun vs H Q E h => ?_) (fun cdv A outer s H vs Q E hr h => ?_)
  · obtain ⟨a, C, v, rfl, _⟩ := h
    rfl
  · obtain ⟨a, C, v, rfl, T, hno, ha, k⟩ := h
    exact ⟨_, pss_one (ps_ost (pv 0) (pv 1)), _, rfl, _, rfl, a, C, rfl, T, hno, .inl ⟨ha, fun dx n ne => k dx n ne⟩⟩
theorem sc_BadMove : FnScope ["self", "value"] ["self", "value"] (defScope (initOf sCBadMove)) := ⟨rfl, rfl, rfl, by decide +kernel, rfl, by decide +kernel, by decide +kernel⟩
theorem in_BadMove {f : Addr} {fd : FuncData} (F : Fun K "__init__" "BadMove.__init__" (initOf sCBadMove) f fd) : FnOk P w K mg base CX0 1 f fd ["self", "value"] (spMk K "value") := by
  refine F.ok sc_BadMove (fun vs H Q E h => ?_) (fun cdv A outer s H vs Q E hr h => ?_)
  · obtain ⟨a, C, v, rfl, _⟩ := h
    rfl
  · obtain ⟨a, C, v, rfl, T, hno, ha, k⟩ := h
    exact ⟨_, pss_one (ps_ost (pv 0) (pv 1)), _, rfl, _, rfl, a, C, rfl, T, hno, .inl ⟨ha, fun dx n ne => k dx n ne⟩⟩
theorem sc_BadStep : FnScope ["self", "value"] ["self", "value"] (defScope (initOf sCBadStep)) := ⟨rfl, rfl, rfl, by decide +kernel, rfl, by decide +kernel, by decide +kernel⟩
theorem in_BadStep {f : Addr} {fd : FuncData} (F : Fun K "__init__" "BadStep.__init__" (initOf sCBadStep) f fd) : FnOk P w K mg base CX0 1 f fd ["self", "value"] (spMk K "value") := by
  refine F.ok sc_BadStep (fun vs H Q E h => ?_) (fun cdv A outer s H vs Q E hr h => ?_)
  · obtain ⟨a, C, v, rfl, _⟩ := h
    rfl
  · obtain ⟨a, C, v, rfl, T, hno, ha, k⟩ := h
    exact ⟨_, pss_one (ps_ost (pv 0) (pv 1)), _, rfl, _, rfl, a, C, rfl, T, hno, .inl ⟨ha, fun dx n ne => k dx n ne⟩⟩
theorem sc_BadText : FnScope ["self", "value"] ["self", "value"] (defScope (initOf sCBadText)) := ⟨rfl, rfl, rfl, by decide +kernel, rfl, by decide +kernel, by decide +kernel⟩
theorem in_BadText {f : Addr} {fd : FuncData} (F : Fun K "__init__" "BadText.__init__" (initOf sCBadText) f fd) : FnOk P w K mg base CX0 1 f fd ["self", "value"] (spMk K "value") := by
  refine F.ok sc_BadText (fun vs H Q E h => ?_) (fun cdv A outer s H vs Q E hr h => ?_)
  · obtain ⟨a, C, v, rfl, _⟩ := h
    rfl
  · obtain ⟨a, C, v, rfl, T, hno, ha, k⟩ := h
    exact ⟨_, pss_one (ps_ost (pv 0) (pv 1)), _, rfl, _, rfl, a, C, rfl, T, hno, .inl ⟨ha, fun dx n ne => k dx n ne⟩⟩
theorem sc_BadCommand : FnScope ["self", "command"] ["self", "command"] (defScope (initOf sCBadCommand)) := ⟨rfl, rfl, rfl, by decide +kernel, rfl, by decide +kernel, by decide +kernel⟩
theorem in_BadCommand {f : Addr} {fd : FuncData} (F : Fun K "__init__" "BadCommand.__init__" (initOf sCBadCommand) f fd) : FnOk P w K mg base CX0 1 f fd ["self", "command"] (spMk K "command") := by
  refine F.ok sc_BadCommand (fun vs H Q E h => ?_) (fun cdv A outer s H vs Q E hr h => ?_)
  · obtain ⟨a, C, v, rfl, _⟩ := h
    rfl
  · obtain ⟨a, C, v, rfl, T, hno, ha, k⟩ := h
    exact ⟨_, pss_one (ps_ost (pv 0) (pv 1)), _, rfl, _, rfl, a, C, rfl, T, hno, .inl ⟨ha, fun dx n ne => k dx n ne⟩⟩
theorem sc_UnknownId : FnScope ["self", "row_id"] ["self", "row_id"] (defScope (initOf sCUnknownId)) := ⟨rfl, rfl, rfl, by decide +kernel, rfl, by decide +kernel, by decide +kernel⟩
theorem in_UnknownId {f : Addr} {fd : FuncData} (F : Fun K "__init__" "UnknownId.__init__" (initOf sCUnknownId) f fd) : FnOk P w K mg base CX0 1 f fd ["self", "row_id"] (spMk K "row_id") := by
  refine F.ok sc_UnknownId (fun vs H Q E h => ?_) (fun cdv A outer s H vs Q E hr h => ?_)
  · obtain ⟨a, C, v, rfl, _⟩ := h
    rfl
  · obtain ⟨a, C, v, rfl, T, hno, ha, k⟩ := h
    exact ⟨_, pss_one (ps_ost (pv 0) (pv 1)), _, rfl, _, rfl, a, C, rfl, T, hno, .inl ⟨ha, fun dx n ne => k dx n ne⟩⟩
theorem sc_TakenId : FnScope ["self", "row_id"] ["self", "row_id"] (defScope (initOf sCTakenId)) := ⟨rfl, rfl, rfl, by decide +kernel, rfl, by decide +kernel, by decide +kernel⟩
theorem in_TakenId {f : Addr} {fd : FuncData} (F : Fun K "__init__" "TakenId.__init__" (initOf sCTakenId) f fd) : FnOk P w K mg base CX0 1 f fd ["self", "row_id"] (spMk K "row_id") := by
  refine F.ok sc_TakenId (fun vs H Q E h => ?_) (fun cdv A outer s H vs Q E hr h => ?_)
  · obtain ⟨a, C, v, rfl, _⟩ := h
    rfl
  · obtain ⟨a, C, v, rfl, T, hno, ha, k⟩ := h
    exact ⟨_, pss_one (ps_ost (pv 0) (pv 1)), _, rfl, _, rfl, a, C, rfl, T, hno, .inl ⟨ha, fun dx n ne => k dx n ne⟩⟩
theorem sc_TooMany : FnScope ["self", "count"] ["self", "count"] (defScope (initOf sCTooMany)) := ⟨rfl, rfl, rfl, by decide +kernel, rfl, by decide +kernel, by decide +kernel⟩
theorem in_TooMany {f : Addr} {fd : FuncData} (F : Fun K "__init__" "TooMany.__init__" (initOf sCTooMany) f fd) : FnOk P w K mg base CX0 1 f fd ["self", "count"] (spMk K "count") := by
  refine F.ok sc_TooMany (fun vs H Q E h => ?_) (fun cdv A outer s H vs Q E hr h => ?_)
  · obtain ⟨a, C, v, rfl, _⟩ := h
    rfl
  · obtain ⟨a, C, v, rfl, T, hno, ha, k⟩ := h
    exact ⟨_, pss_one (ps_ost (pv 0) (pv 1)), _, rfl, _, rfl, a, C, rfl, T, hno, .inl ⟨ha, fun dx n ne => k dx n ne⟩⟩
theorem sc_NothingToDo : FnScope ["self", "action"] ["self", "action"] (defScope (initOf sCNothingToDo)) := ⟨rfl, rfl, rfl, by decide +kernel, rfl, by decide +kernel, by decide +kernel⟩
theorem in_NothingToDo {f : Addr} {fd : FuncData} (F : Fun K "__init__" "NothingToDo.__init__" (initOf sCNothingToDo) f fd) : FnOk P w K mg base CX0 1 f fd ["self", "action"] (spMk K "action") := by
  refine F.ok sc_NothingToDo (fun vs H Q E h => ?_) (fun cdv A outer s H vs Q E hr h => ?_)
  · obtain ⟨a, C, v, rfl, _⟩ := h
    rfl
  · obtain ⟨a, C, v, rfl, T, hno, ha, k⟩ := h
    exact ⟨_, pss_one (ps_ost (pv 0) (pv 1)), _, rfl, _, rfl, a, C, rfl, T, hno, .inl ⟨ha, fun dx n ne => k dx n ne⟩⟩
theorem sc_UnknownName : FnScope ["self", "name"] ["self", "name"] (defScope (initOf sCUnknownName)) := ⟨rfl, rfl, rfl, by decide +kernel, rfl, by decide +kernel, by decide +kernel⟩
theorem in_UnknownName {f : Addr} {fd : FuncData} (F : Fun K "__init__" "UnknownName.__init__" (initOf sCUnknownName) f fd) : FnOk P w K mg base CX0 1 f fd ["self", "name"] (spMk K "name") := by
  refine F.ok sc_UnknownName (fun vs H Q E h => ?_) (fun cdv A outer s H vs Q E hr h => ?_)
  · obtain ⟨a, C, v, rfl, _⟩ := h
    rfl
  · obtain ⟨a, C, v, rfl, T, hno, ha, k⟩ := h
    exact ⟨_, pss_one (ps_ost (pv 0) (pv 1)), _, rfl, _, rfl, a, C, rfl, T, hno, .inl ⟨ha, fun dx n ne => k dx n ne⟩⟩
theorem sc_NameTaken : FnScope ["self", "name"] ["self", "name"] (defScope (initOf sCNameTaken)) := ⟨rfl, rfl, rfl, by decide +kernel, rfl, by decide +kernel, by decide +kernel⟩
theorem in_NameTaken {f : Addr} {fd : FuncData} (F : Fun K "__init__" "NameTaken.__init__" (initOf sCNameTaken) f fd) : FnOk P w K mg base CX0 1 f fd ["self", "name"] (spMk K "name") := by
  refine F.ok sc_NameTaken (fun vs H Q E h => ?_) (fun cdv A outer s H vs Q E hr h => ?_)
  · obtain ⟨a, C, v, rfl, _⟩ := h
    rfl
  · obtain ⟨a, C, v, rfl, T, hno, ha, k⟩ := h
    exact ⟨_, pss_one (ps_ost (pv 0) (pv 1)), _, rfl, _, rfl, a, C, rfl, T, hno, .inl ⟨ha, fun dx n ne => k dx n ne⟩⟩
end
/-- all that is asked of an error's class: x its name, f its field -/
structure ErrOk (P : Program) (w : World) (K : PySem.W.Frag) (mg : Str → Option Value) (base : Heap) (x f : Str) (C fI : Addr) (fd : FuncData) : Prop where
  gm : mg x = some (.ref C)
  T : OexC K C
  X : XfC K C
  E : ExcC K C
  no : PySem.W.findIn K (.ref C) f = some none
  iC : PySem.W.findIn K (.ref C) "__init__" = some (some (.ref fI))
  tI : PySem.W.typeIn K (.ref fI) = some (.type "function")
  F1 : FnOk P w K mg base CX0 1 fI fd ["self", f] (spMk K f)
  hb : ∀ self v : Value, bindArgs fd ⟨[self, v], []⟩ = pure ((["self", f] : List Str).zip [self, v])
  hk : ∀ self v : Value, bindArgs fd ⟨[self], ([f] : List Str).zip [v]⟩ = pure ((["self", f] : List Str).zip [self, v])
/-- one error is made -/
theorem mk_facts {H : Hp} {a dx C : Addr} {f : Str} {v : V} (ha : H a = none) (hd : (upd H a (exo a C none)) dx = none) (ne : dx ≠ a) :
    Same H (upd (upd (upd H a (exo a C none)) dx (exd dx [(f, v)])) a (exo a C (some dx))) ∧ ExAt (upd (upd (upd H a (exo a C none)) dx (exd dx [(f, v)])) a (exo a C (some dx))) a C f v := by
  refine ⟨fun b u e => ?_, ⟨dx, upd_same, by rw [upd_ne ne]; exact upd_same⟩⟩
  have n1 : b ≠ a := ne_of_none e ha
  have n2 : b ≠ dx := ne_of_none (H := upd H a (exo a C none)) (by rw [upd_ne n1]; exact e) hd
  rw [upd_ne n1, upd_ne n2, upd_ne n1]
  exact e
/-! ### the errors of a list of values -/
inductive Errs (H : Hp) : List V → List (Addr × Str) → List V → Prop
  | nil : Errs H [] [] []
  | cons {a C : Addr} {f : Str} {v : V} {as : List V} {cf : List (Addr × Str)} {ws : List V} : ExAt H a C f v → Errs H as cf ws → Errs H (.ref a :: as) ((C, f) :: cf) (v :: ws)
theorem Errs.same {H H' : Hp} {as : List V} {cf : List (Addr × Str)} {ws : List V} (h : Errs H as cf ws) (s : Same H H') : Errs H' as cf ws := by
  induction h with
  | nil => exact .nil
  | cons x _ ih => exact .cons (x.same s) ih
def spErrs (K : PySem.W.Frag) (CF : List (Addr × Str)) : Sp := fun vs H Q _ => ∃ (p : Addr) (ws : List V), vs = [.ref p] ∧ SqL K H p ws ∧ ws.length = 12 ∧ ∀ (q : Addr) (H' : Hp) (as : List V), Same H H' → H q = none → H' q = some (.lst as) → Errs H' as CF ws → Q (.ref q) H'
theorem len12 {α : Type} {ws : List α} (h : ws.length = 12) : ∃ w0 w1 w2 w3 w4 w5 w6 w7 w8 w9 w10 w11, ws = [w0, w1, w2, w3, w4, w5, w6, w7, w8, w9, w10, w11] :=
  match ws, h with
  | [w0, w1, w2, w3, w4, w5, w6, w7, w8, w9, w10, w11], _ => ⟨w0, w1, w2, w3, w4, w5, w6, w7, w8, w9, w10, w11, rfl⟩
section
variable {P : Program} {w : World} {K : PySem.W.Frag} {mg : Str → Option Value} {base : Heap}
theorem scMade : FnScope ["one", "some"] ["one"] (defScope sMade) := ⟨rfl, rfl, rfl, by decide +kernel, rfl, by decide +kernel, by decide +kernel⟩
theorem ok_Made {f : Addr} {fd : FuncData} (F : Fun K "_law_made" "_law_made" sMade f fd) {C0 C1 C2 C3 C4 C5 C6 C7 C8 C9 C10 C11 f0 f1 f2 f3 f4 f5 f6 f7 f8 f9 f10 f11 : Addr} {d0 d1 d2 d3 d4 d5 d6 d7 d8 d9 d10 d11 : FuncData}
    (e0 : ErrOk P w K mg base "BadItem" "value" C0 f0 d0)
    (e1 : ErrOk P w K mg base "BadRule" "value" C1 f1 d1)
    (e2 : ErrOk P w K mg base "BadMove" "value" C2 f2 d2)
    (e3 : ErrOk P w K mg base "BadStep" "value" C3 f3 d3)
    (e4 : ErrOk P w K mg base "BadText" "value" C4 f4 d4)
    (e5 : ErrOk P w K mg base "BadCommand" "command" C5 f5 d5)
    (e6 : ErrOk P w K mg base "UnknownId" "row_id" C6 f6 d6)
    (e7 : ErrOk P w K mg base "TakenId" "row_id" C7 f7 d7)
    (e8 : ErrOk P w K mg base "TooMany" "count" C8 f8 d8)
    (e9 : ErrOk P w K mg base "NothingToDo" "action" C9 f9 d9)
    (e10 : ErrOk P w K mg base "UnknownName" "name" C10 f10 d10)
    (e11 : ErrOk P w K mg base "NameTaken" "name" C11 f11 d11) : FnOk P w K mg base CX0 3 f fd ["one"] (spErrs K [(C0, "value"), (C1, "value"), (C2, "value"), (C3, "value"), (C4, "value"), (C5, "command"), (C6, "row_id"), (C7, "row_id"), (C8, "count"), (C9, "action"), (C10, "name"), (C11, "name")]) := by
  refine F.ok scMade (fun vs H Q E h => ?_) (fun cdv A outer s H vs Q E hr h => ?_)
  · obtain ⟨p, ws, rfl, _⟩ := h
    rfl
  · obtain ⟨p, ws, rfl, hS, hl, k⟩ := h
    obtain ⟨w0, w1, w2, w3, w4, w5, w6, w7, w8, w9, w10, w11, rfl⟩ := len12 hl
    have h16 := sizeLine_eq
    refine ⟨_, pss_cons (ps_set (i := 1) scMade.nd rfl (Or.inl rfl) (pe_lst (pa_cons (pe_oexV e0.T e0.iC e0.tI e0.F1 hr e0.hb rfl e0.gm (pa_cons (pe_ix ix_list (pv 0) pe_int (fun _ _ => rfl)) pa_nil)) (pa_cons (pe_oexV e1.T e1.iC e1.tI e1.F1 hr e1.hb rfl e1.gm (pa_cons (pe_ix ix_list (pv 0) pe_int (fun _ _ => rfl)) pa_nil)) (pa_cons (pe_oexV e2.T e2.iC e2.tI e2.F1 hr e2.hb rfl e2.gm (pa_cons (pe_ix ix_list (pv 0) pe_int (fun _ _ => rfl)) pa_nil)) (pa_cons (pe_oexV e3.T e3.iC e3.tI e3.F1 hr e3.hb rfl e3.gm (pa_cons (pe_ix ix_list (pv 0) pe_int (fun _ _ => rfl)) pa_nil)) (pa_cons (pe_oexV e4.T e4.iC e4.tI e4.F1 hr e4.hb rfl e4.gm (pa_cons (pe_ix ix_list (pv 0) pe_int (fun _ _ => rfl)) pa_nil)) (pa_cons (pe_oexV e5.T e5.iC e5.tI e5.F1 hr e5.hb rfl e5.gm (pa_cons (pe_ix ix_list (pv 0) pe_int (fun _ _ => rfl)) pa_nil)) pa_nil))))))))
      (pss_cons (ps_set (i := 1) scMade.nd rfl (Or.inl rfl) (pe_op op_cat (pv 1) (pe_lst (pa_cons (pe_oexV e6.T e6.iC e6.tI e6.F1 hr e6.hb rfl e6.gm (pa_cons (pe_ix ix_list (pv 0) pe_int (fun _ _ => rfl)) pa_nil)) (pa_cons (pe_oexV e7.T e7.iC e7.tI e7.F1 hr e7.hb rfl e7.gm (pa_cons (pe_ix ix_list (pv 0) pe_int (fun _ _ => rfl)) pa_nil)) (pa_cons (pe_oexV e8.T e8.iC e8.tI e8.F1 hr e8.hb rfl e8.gm (pa_cons (pe_ix ix_list (pv 0) pe_int (fun _ _ => rfl)) pa_nil)) (pa_cons (pe_oexV e9.T e9.iC e9.tI e9.F1 hr e9.hb rfl e9.gm (pa_cons (pe_ix ix_list (pv 0) pe_int (fun _ _ => rfl)) pa_nil)) pa_nil)))))))
      (pss_one (ps_ret (pe_op op_cat (pv 1) (pe_lst (pa_cons (pe_oexV e10.T e10.iC e10.tI e10.F1 hr e10.hb rfl e10.gm (pa_cons (pe_ix ix_list (pv 0) pe_int (fun _ _ => rfl)) pa_nil)) (pa_cons (pe_oexV e11.T e11.iC e11.tI e11.F1 hr e11.hb rfl e11.gm (pa_cons (pe_ix ix_list (pv 0) pe_int (fun _ _ => rfl)) pa_nil)) pa_nil))))))), ?_⟩
    have S0 := Same.refl H
    refine ⟨_, rfl, p, [w0, w1, w2, w3, w4, w5, w6, w7, w8, w9, w10, w11], 0, w0, rfl, rfl, Same.sq S0 hS, rfl, ⟨rfl, fun a0 n0 => ⟨a0, C0, w0, rfl, e0.T, e0.no, upd_same, fun dx hd ne => ⟨rfl, ?_⟩⟩⟩⟩
    obtain ⟨s1, x0⟩ := mk_facts (C := C0) (f := "value") (v := w0) n0 hd ne
    generalize (upd (upd (upd H a0 (exo a0 C0 none)) dx (exd dx [("value", w0)])) a0 (exo a0 C0 (some dx)) : Hp) = H1 at s1 x0 ⊢
    clear hd ne dx
    have S1 := S0.trans s1
    refine ⟨_, rfl, p, [w0, w1, w2, w3, w4, w5, w6, w7, w8, w9, w10, w11], 1, w1, rfl, rfl, Same.sq S1 hS, rfl, ⟨rfl, fun a1 n1 => ⟨a1, C1, w1, rfl, e1.T, e1.no, upd_same, fun dx hd ne => ⟨rfl, ?_⟩⟩⟩⟩
    obtain ⟨s2, x1⟩ := mk_facts (C := C1) (f := "value") (v := w1) n1 hd ne
    generalize (upd (upd (upd H1 a1 (exo a1 C1 none)) dx (exd dx [("value", w1)])) a1 (exo a1 C1 (some dx)) : Hp) = H2 at s2 x1 ⊢
    clear hd ne dx
    have S2 := S1.trans s2
    refine ⟨_, rfl, p, [w0, w1, w2, w3, w4, w5, w6, w7, w8, w9, w10, w11], 2, w2, rfl, rfl, Same.sq S2 hS, rfl, ⟨rfl, fun a2 n2 => ⟨a2, C2, w2, rfl, e2.T, e2.no, upd_same, fun dx hd ne => ⟨rfl, ?_⟩⟩⟩⟩
    obtain ⟨s3, x2⟩ := mk_facts (C := C2) (f := "value") (v := w2) n2 hd ne
    generalize (upd (upd (upd H2 a2 (exo a2 C2 none)) dx (exd dx [("value", w2)])) a2 (exo a2 C2 (some dx)) : Hp) = H3 at s3 x2 ⊢
    clear hd ne dx
    have S3 := S2.trans s3
    refine ⟨_, rfl, p, [w0, w1, w2, w3, w4, w5, w6, w7, w8, w9, w10, w11], 3, w3, rfl, rfl, Same.sq S3 hS, rfl, ⟨rfl, fun a3 n3 => ⟨a3, C3, w3, rfl, e3.T, e3.no, upd_same, fun dx hd ne => ⟨rfl, ?_⟩⟩⟩⟩
    obtain ⟨s4, x3⟩ := mk_facts (C := C3) (f := "value") (v := w3) n3 hd ne
    generalize (upd (upd (upd H3 a3 (exo a3 C3 none)) dx (exd dx [("value", w3)])) a3 (exo a3 C3 (some dx)) : Hp) = H4 at s4 x3 ⊢
    clear hd ne dx
    have S4 := S3.trans s4
    refine ⟨_, rfl, p, [w0, w1, w2, w3, w4, w5, w6, w7, w8, w9, w10, w11], 4, w4, rfl, rfl, Same.sq S4 hS, rfl, ⟨rfl, fun a4 n4 => ⟨a4, C4, w4, rfl, e4.T, e4.no, upd_same, fun dx hd ne => ⟨rfl, ?_⟩⟩⟩⟩
    obtain ⟨s5, x4⟩ := mk_facts (C := C4) (f := "value") (v := w4) n4 hd ne
    generalize (upd (upd (upd H4 a4 (exo a4 C4 none)) dx (exd dx [("value", w4)])) a4 (exo a4 C4 (some dx)) : Hp) = H5 at s5 x4 ⊢
    clear hd ne dx
    have S5 := S4.trans s5
    refine ⟨_, rfl, p, [w0, w1, w2, w3, w4, w5, w6, w7, w8, w9, w10, w11], 5, w5, rfl, rfl, Same.sq S5 hS, rfl, ⟨rfl, fun a5 n5 => ⟨a5, C5, w5, rfl, e5.T, e5.no, upd_same, fun dx hd ne => ⟨rfl, ?_⟩⟩⟩⟩
    obtain ⟨s6, x5⟩ := mk_facts (C := C5) (f := "command") (v := w5) n5 hd ne
    generalize (upd (upd (upd H5 a5 (exo a5 C5 none)) dx (exd dx [("command", w5)])) a5 (exo a5 C5 (some dx)) : Hp) = H6 at s6 x5 ⊢
    clear hd ne dx
    have S6 := S5.trans s6
    refine ⟨by show 6 ≤ sizeLine; omega, fun q0 hq0 => ?_⟩
    have t0 := Same.new (o := .lst [.ref a0, .ref a1, .ref a2, .ref a3, .ref a4, .ref a5]) hq0
    have Q0 : (upd H6 q0 (.lst [.ref a0, .ref a1, .ref a2, .ref a3, .ref a4, .ref a5])) q0 = some (.lst [.ref a0, .ref a1, .ref a2, .ref a3, .ref a4, .ref a5]) := upd_same
    generalize (upd H6 q0 (.lst [.ref a0, .ref a1, .ref a2, .ref a3, .ref a4, .ref a5]) : Hp) = H7 at t0 Q0 ⊢
    have s7 := t0
    have S7 := S6.trans s7
    refine ⟨_, rfl, ?_⟩
    refine ⟨_, rfl, p, [w0, w1, w2, w3, w4, w5, w6, w7, w8, w9, w10, w11], 6, w6, rfl, rfl, Same.sq S7 hS, rfl, ⟨rfl, fun a6 n6 => ⟨a6, C6, w6, rfl, e6.T, e6.no, upd_same, fun dx hd ne => ⟨rfl, ?_⟩⟩⟩⟩
    obtain ⟨s8, x6⟩ := mk_facts (C := C6) (f := "row_id") (v := w6) n6 hd ne
    generalize (upd (upd (upd H7 a6 (exo a6 C6 none)) dx (exd dx [("row_id", w6)])) a6 (exo a6 C6 (some dx)) : Hp) = H8 at s8 x6 ⊢
    clear hd ne dx
    have S8 := S7.trans s8
    refine ⟨_, rfl, p, [w0, w1, w2, w3, w4, w5, w6, w7, w8, w9, w10, w11], 7, w7, rfl, rfl, Same.sq S8 hS, rfl, ⟨rfl, fun a7 n7 => ⟨a7, C7, w7, rfl, e7.T, e7.no, upd_same, fun dx hd ne => ⟨rfl, ?_⟩⟩⟩⟩
    obtain ⟨s9, x7⟩ := mk_facts (C := C7) (f := "row_id") (v := w7) n7 hd ne
    generalize (upd (upd (upd H8 a7 (exo a7 C7 none)) dx (exd dx [("row_id", w7)])) a7 (exo a7 C7 (some dx)) : Hp) = H9 at s9 x7 ⊢
    clear hd ne dx
    have S9 := S8.trans s9
    refine ⟨_, rfl, p, [w0, w1, w2, w3, w4, w5, w6, w7, w8, w9, w10, w11], 8, w8, rfl, rfl, Same.sq S9 hS, rfl, ⟨rfl, fun a8 n8 => ⟨a8, C8, w8, rfl, e8.T, e8.no, upd_same, fun dx hd ne => ⟨rfl, ?_⟩⟩⟩⟩
    obtain ⟨s10, x8⟩ := mk_facts (C := C8) (f := "count") (v := w8) n8 hd ne
    generalize (upd (upd (upd H9 a8 (exo a8 C8 none)) dx (exd dx [("count", w8)])) a8 (exo a8 C8 (some dx)) : Hp) = H10 at s10 x8 ⊢
    clear hd ne dx
    have S10 := S9.trans s10
    refine ⟨_, rfl, p, [w0, w1, w2, w3, w4, w5, w6, w7, w8, w9, w10, w11], 9, w9, rfl, rfl, Same.sq S10 hS, rfl, ⟨rfl, fun a9 n9 => ⟨a9, C9, w9, rfl, e9.T, e9.no, upd_same, fun dx hd ne => ⟨rfl, ?_⟩⟩⟩⟩
    obtain ⟨s11, x9⟩ := mk_facts (C := C9) (f := "action") (v := w9) n9 hd ne
    generalize (upd (upd (upd H10 a9 (exo a9 C9 none)) dx (exd dx [("action", w9)])) a9 (exo a9 C9 (some dx)) : Hp) = H11 at s11 x9 ⊢
    clear hd ne dx
    have S11 := S10.trans s11
    refine ⟨by show 4 ≤ sizeLine; omega, fun l1 hl1 => ?_⟩
    have t1 := Same.new (o := .lst [.ref a6, .ref a7, .ref a8, .ref a9]) hl1
    refine ⟨q0, l1, [.ref a0, .ref a1, .ref a2, .ref a3, .ref a4, .ref a5], [.ref a6, .ref a7, .ref a8, .ref a9], rfl, rfl, t1 _ _ (s11 _ _ (s10 _ _ (s9 _ _ (s8 _ _ Q0)))), upd_same, by show 10 ≤ sizeLine; omega, fun q1 hq1 => ?_⟩
    have u1 := t1.trans (Same.new (o := .lst ([.ref a0, .ref a1, .ref a2, .ref a3, .ref a4, .ref a5] ++ [.ref a6, .ref a7, .ref a8, .ref a9])) hq1)
    have Q1 : (upd (upd H11 l1 (.lst [.ref a6, .ref a7, .ref a8, .ref a9])) q1 (.lst ([.ref a0, .ref a1, .ref a2, .ref a3, .ref a4, .ref a5] ++ [.ref a6, .ref a7, .ref a8, .ref a9]))) q1 = some (.lst [.ref a0, .ref a1, .ref a2, .ref a3, .ref a4, .ref a5, .ref a6, .ref a7, .ref a8, .ref a9]) := upd_same
    have N1 : H q1 = none := Same.free (S11.trans t1) hq1
    generalize (upd (upd H11 l1 (.lst [.ref a6, .ref a7, .ref a8, .ref a9])) q1 (.lst ([.ref a0, .ref a1, .ref a2, .ref a3, .ref a4, .ref a5] ++ [.ref a6, .ref a7, .ref a8, .ref a9])) : Hp) = H12 at u1 Q1 ⊢
    have s12 := u1
    have S12 := S11.trans s12
    refine ⟨_, rfl, ?_⟩
    refine ⟨_, rfl, p, [w0, w1, w2, w3, w4, w5, w6, w7, w8, w9, w10, w11], 10, w10, rfl, rfl, Same.sq S12 hS, rfl, ⟨rfl, fun a10 n10 => ⟨a10, C10, w10, rfl, e10.T, e10.no, upd_same, fun dx hd ne => ⟨rfl, ?_⟩⟩⟩⟩
    obtain ⟨s13, x10⟩ := mk_facts (C := C10) (f := "name") (v := w10) n10 hd ne
    generalize (upd (upd (upd H12 a10 (exo a10 C10 none)) dx (exd dx [("name", w10)])) a10 (exo a10 C10 (some dx)) : Hp) = H13 at s13 x10 ⊢
    clear hd ne dx
    have S13 := S12.trans s13
    refine ⟨_, rfl, p, [w0, w1, w2, w3, w4, w5, w6, w7, w8, w9, w10, w11], 11, w11, rfl, rfl, Same.sq S13 hS, rfl, ⟨rfl, fun a11 n11 => ⟨a11, C11, w11, rfl, e11.T, e11.no, upd_same, fun dx hd ne => ⟨rfl, ?_⟩⟩⟩⟩
    obtain ⟨s14, x11⟩ := mk_facts (C := C11) (f := "name") (v := w11) n11 hd ne
    generalize (upd (upd (upd H13 a11 (exo a11 C11 none)) dx (exd dx [("name", w11)])) a11 (exo a11 C11 (some dx)) : Hp) = H14 at s14 x11 ⊢
    clear hd ne dx
    have S14 := S13.trans s14
    refine ⟨by show 2 ≤ sizeLine; omega, fun l2 hl2 => ?_⟩
    have t2 := Same.new (o := .lst [.ref a10, .ref a11]) hl2
    refine ⟨q1, l2, [.ref a0, .ref a1, .ref a2, .ref a3, .ref a4, .ref a5, .ref a6, .ref a7, .ref a8, .ref a9], [.ref a10, .ref a11], rfl, rfl, t2 _ _ (s14 _ _ (s13 _ _ Q1)), upd_same, by show 12 ≤ sizeLine; omega, fun q2 hq2 => ?_⟩
    have u2 := t2.trans (Same.new (o := .lst ([.ref a0, .ref a1, .ref a2, .ref a3, .ref a4, .ref a5, .ref a6, .ref a7, .ref a8, .ref a9] ++ [.ref a10, .ref a11])) hq2)
    have Q2 : (upd (upd H14 l2 (.lst [.ref a10, .ref a11])) q2 (.lst ([.ref a0, .ref a1, .ref a2, .ref a3, .ref a4, .ref a5, .ref a6, .ref a7, .ref a8, .ref a9] ++ [.ref a10, .ref a11]))) q2 = some (.lst [.ref a0, .ref a1, .ref a2, .ref a3, .ref a4, .ref a5, .ref a6, .ref a7, .ref a8, .ref a9, .ref a10, .ref a11]) := upd_same
    have N2 : H q2 = none := Same.free (S14.trans t2) hq2
    generalize (upd (upd H14 l2 (.lst [.ref a10, .ref a11])) q2 (.lst ([.ref a0, .ref a1, .ref a2, .ref a3, .ref a4, .ref a5, .ref a6, .ref a7, .ref a8, .ref a9] ++ [.ref a10, .ref a11])) : Hp) = H15 at u2 Q2 ⊢
    have s15 := u2
    have S15 := S14.trans s15
    exact k q2 H15 _ S15 N2 Q2 (.cons (x0.same (((((((((((((s2.trans s3).trans s4).trans s5).trans s6).trans s7).trans s8).trans s9).trans s10).trans s11).trans s12).trans s13).trans s14).trans s15)) (.cons (x1.same ((((((((((((s3.trans s4).trans s5).trans s6).trans s7).trans s8).trans s9).trans s10).trans s11).trans s12).trans s13).trans s14).trans s15)) (.cons (x2.same (((((((((((s4.trans s5).trans s6).trans s7).trans s8).trans s9).trans s10).trans s11).trans s12).trans s13).trans s14).trans s15)) (.cons (x3.same ((((((((((s5.trans s6).trans s7).trans s8).trans s9).trans s10).trans s11).trans s12).trans s13).trans s14).trans s15)) (.cons (x4.same (((((((((s6.trans s7).trans s8).trans s9).trans s10).trans s11).trans s12).trans s13).trans s14).trans s15)) (.cons (x5.same ((((((((s7.trans s8).trans s9).trans s10).trans s11).trans s12).trans s13).trans s14).trans s15)) (.cons (x6.same ((((((s9.trans s10).trans s11).trans s12).trans s13).trans s14).trans s15)) (.cons (x7.same (((((s10.trans s11).trans s12).trans s13).trans s14).trans s15)) (.cons (x8.same ((((s11.trans s12).trans s13).trans s14).trans s15)) (.cons (x9.same (((s12.trans s13).trans s14).trans s15)) (.cons (x10.same (s14.trans s15)) (.cons (x11.same s15) .nil))))))))))))
theorem scNamed : FnScope ["one", "some"] ["one"] (defScope sNamed) := ⟨rfl, rfl, rfl, by decide +kernel, rfl, by decide +kernel, by decide +kernel⟩
theorem ok_Named {f : Addr} {fd : FuncData} (F : Fun K "_law_named" "_law_named" sNamed f fd) {C0 C1 C2 C3 C4 C5 C6 C7 C8 C9 C10 C11 f0 f1 f2 f3 f4 f5 f6 f7 f8 f9 f10 f11 : Addr} {d0 d1 d2 d3 d4 d5 d6 d7 d8 d9 d10 d11 : FuncData}
    (e0 : ErrOk P w K mg base "BadItem" "value" C0 f0 d0)
    (e1 : ErrOk P w K mg base "BadRule" "value" C1 f1 d1)
    (e2 : ErrOk P w K mg base "BadMove" "value" C2 f2 d2)
    (e3 : ErrOk P w K mg base "BadStep" "value" C3 f3 d3)
    (e4 : ErrOk P w K mg base "BadText" "value" C4 f4 d4)
    (e5 : ErrOk P w K mg base "BadCommand" "command" C5 f5 d5)
    (e6 : ErrOk P w K mg base "UnknownId" "row_id" C6 f6 d6)
    (e7 : ErrOk P w K mg base "TakenId" "row_id" C7 f7 d7)
    (e8 : ErrOk P w K mg base "TooMany" "count" C8 f8 d8)
    (e9 : ErrOk P w K mg base "NothingToDo" "action" C9 f9 d9)
    (e10 : ErrOk P w K mg base "UnknownName" "name" C10 f10 d10)
    (e11 : ErrOk P w K mg base "NameTaken" "name" C11 f11 d11) : FnOk P w K mg base CX0 3 f fd ["one"] (spErrs K [(C0, "value"), (C1, "value"), (C2, "value"), (C3, "value"), (C4, "value"), (C5, "command"), (C6, "row_id"), (C7, "row_id"), (C8, "count"), (C9, "action"), (C10, "name"), (C11, "name")]) := by
  refine F.ok scNamed (fun vs H Q E h => ?_) (fun cdv A outer s H vs Q E hr h => ?_)
  · obtain ⟨p, ws, rfl, _⟩ := h
    rfl
  · obtain ⟨p, ws, rfl, hS, hl, k⟩ := h
    obtain ⟨w0, w1, w2, w3, w4, w5, w6, w7, w8, w9, w10, w11, rfl⟩ := len12 hl
    have h16 := sizeLine_eq
    refine ⟨_, pss_cons (ps_set (i := 1) scNamed.nd rfl (Or.inl rfl) (pe_lst (pa_cons (pe_oexVK e0.T e0.iC e0.tI e0.F1 hr e0.hk rfl e0.gm (pk_cons (pe_ix ix_list (pv 0) pe_int (fun _ _ => rfl)) pk_nil)) (pa_cons (pe_oexVK e1.T e1.iC e1.tI e1.F1 hr e1.hk rfl e1.gm (pk_cons (pe_ix ix_list (pv 0) pe_int (fun _ _ => rfl)) pk_nil)) (pa_cons (pe_oexVK e2.T e2.iC e2.tI e2.F1 hr e2.hk rfl e2.gm (pk_cons (pe_ix ix_list (pv 0) pe_int (fun _ _ => rfl)) pk_nil)) (pa_cons (pe_oexVK e3.T e3.iC e3.tI e3.F1 hr e3.hk rfl e3.gm (pk_cons (pe_ix ix_list (pv 0) pe_int (fun _ _ => rfl)) pk_nil)) pa_nil))))))
      (pss_cons (ps_set (i := 1) scNamed.nd rfl (Or.inl rfl) (pe_op op_cat (pv 1) (pe_lst (pa_cons (pe_oexVK e4.T e4.iC e4.tI e4.F1 hr e4.hk rfl e4.gm (pk_cons (pe_ix ix_list (pv 0) pe_int (fun _ _ => rfl)) pk_nil)) pa_nil))))
      (pss_cons (ps_set (i := 1) scNamed.nd rfl (Or.inl rfl) (pe_op op_cat (pv 1) (pe_lst (pa_cons (pe_oexVK e5.T e5.iC e5.tI e5.F1 hr e5.hk rfl e5.gm (pk_cons (pe_ix ix_list (pv 0) pe_int (fun _ _ => rfl)) pk_nil)) (pa_cons (pe_oexVK e6.T e6.iC e6.tI e6.F1 hr e6.hk rfl e6.gm (pk_cons (pe_ix ix_list (pv 0) pe_int (fun _ _ => rfl)) pk_nil)) (pa_cons (pe_oexVK e7.T e7.iC e7.tI e7.F1 hr e7.hk rfl e7.gm (pk_cons (pe_ix ix_list (pv 0) pe_int (fun _ _ => rfl)) pk_nil)) pa_nil))))))
      (pss_cons (ps_set (i := 1) scNamed.nd rfl (Or.inl rfl) (pe_op op_cat (pv 1) (pe_lst (pa_cons (pe_oexVK e8.T e8.iC e8.tI e8.F1 hr e8.hk rfl e8.gm (pk_cons (pe_ix ix_list (pv 0) pe_int (fun _ _ => rfl)) pk_nil)) pa_nil))))
      (pss_one (ps_ret (pe_op op_cat (pv 1) (pe_lst (pa_cons (pe_oexVK e9.T e9.iC e9.tI e9.F1 hr e9.hk rfl e9.gm (pk_cons (pe_ix ix_list (pv 0) pe_int (fun _ _ => rfl)) pk_nil)) (pa_cons (pe_oexVK e10.T e10.iC e10.tI e10.F1 hr e10.hk rfl e10.gm (pk_cons (pe_ix ix_list (pv 0) pe_int (fun _ _ => rfl)) pk_nil)) (pa_cons (pe_oexVK e11.T e11.iC e11.tI e11.F1 hr e11.hk rfl e11.gm (pk_cons (pe_ix ix_list (pv 0) pe_int (fun _ _ => rfl)) pk_nil)) pa_nil)))))))))), ?_⟩
    have S0 := Same.refl H
    refine ⟨_, rfl, p, [w0, w1, w2, w3, w4, w5, w6, w7, w8, w9, w10, w11], 0, w0, rfl, rfl, Same.sq S0 hS, rfl, ⟨rfl, fun a0 n0 => ⟨a0, C0, w0, rfl, e0.T, e0.no, upd_same, fun dx hd ne => ⟨rfl, ?_⟩⟩⟩⟩
    obtain ⟨s1, x0⟩ := mk_facts (C := C0) (f := "value") (v := w0) n0 hd ne
    generalize (upd (upd (upd H a0 (exo a0 C0 none)) dx (exd dx [("value", w0)])) a0 (exo a0 C0 (some dx)) : Hp) = H1 at s1 x0 ⊢
    clear hd ne dx
    have S1 := S0.trans s1
    refine ⟨_, rfl, p, [w0, w1, w2, w3, w4, w5, w6, w7, w8, w9, w10, w11], 1, w1, rfl, rfl, Same.sq S1 hS, rfl, ⟨rfl, fun a1 n1 => ⟨a1, C1, w1, rfl, e1.T, e1.no, upd_same, fun dx hd ne => ⟨rfl, ?_⟩⟩⟩⟩
    obtain ⟨s2, x1⟩ := mk_facts (C := C1) (f := "value") (v := w1) n1 hd ne
    generalize (upd (upd (upd H1 a1 (exo a1 C1 none)) dx (exd dx [("value", w1)])) a1 (exo a1 C1 (some dx)) : Hp) = H2 at s2 x1 ⊢
    clear hd ne dx
    have S2 := S1.trans s2
    refine ⟨_, rfl, p, [w0, w1, w2, w3, w4, w5, w6, w7, w8, w9, w10, w11], 2, w2, rfl, rfl, Same.sq S2 hS, rfl, ⟨rfl, fun a2 n2 => ⟨a2, C2, w2, rfl, e2.T, e2.no, upd_same, fun dx hd ne => ⟨rfl, ?_⟩⟩⟩⟩
    obtain ⟨s3, x2⟩ := mk_facts (C := C2) (f := "value") (v := w2) n2 hd ne
    generalize (upd (upd (upd H2 a2 (exo a2 C2 none)) dx (exd dx [("value", w2)])) a2 (exo a2 C2 (some dx)) : Hp) = H3 at s3 x2 ⊢
    clear hd ne dx
    have S3 := S2.trans s3
    refine ⟨_, rfl, p, [w0, w1, w2, w3, w4, w5, w6, w7, w8, w9, w10, w11], 3, w3, rfl, rfl, Same.sq S3 hS, rfl, ⟨rfl, fun a3 n3 => ⟨a3, C3, w3, rfl, e3.T, e3.no, upd_same, fun dx hd ne => ⟨rfl, ?_⟩⟩⟩⟩
    obtain ⟨s4, x3⟩ := mk_facts (C := C3) (f := "value") (v := w3) n3 hd ne
    generalize (upd (upd (upd H3 a3 (exo a3 C3 none)) dx (exd dx [("value", w3)])) a3 (exo a3 C3 (some dx)) : Hp) = H4 at s4 x3 ⊢
    clear hd ne dx
    have S4 := S3.trans s4
    refine ⟨by show 4 ≤ sizeLine; omega, fun q0 hq0 => ?_⟩
    have t0 := Same.new (o := .lst [.ref a0, .ref a1, .ref a2, .ref a3]) hq0
    have Q0 : (upd H4 q0 (.lst [.ref a0, .ref a1, .ref a2, .ref a3])) q0 = some (.lst [.ref a0, .ref a1, .ref a2, .ref a3]) := upd_same
    generalize (upd H4 q0 (.lst [.ref a0, .ref a1, .ref a2, .ref a3]) : Hp) = H5 at t0 Q0 ⊢
    have s5 := t0
    have S5 := S4.trans s5
    refine ⟨_, rfl, ?_⟩
    refine ⟨_, rfl, p, [w0, w1, w2, w3, w4, w5, w6, w7, w8, w9, w10, w11], 4, w4, rfl, rfl, Same.sq S5 hS, rfl, ⟨rfl, fun a4 n4 => ⟨a4, C4, w4, rfl, e4.T, e4.no, upd_same, fun dx hd ne => ⟨rfl, ?_⟩⟩⟩⟩
    obtain ⟨s6, x4⟩ := mk_facts (C := C4) (f := "value") (v := w4) n4 hd ne
    generalize (upd (upd (upd H5 a4 (exo a4 C4 none)) dx (exd dx [("value", w4)])) a4 (exo a4 C4 (some dx)) : Hp) = H6 at s6 x4 ⊢
    clear hd ne dx
    have S6 := S5.trans s6
    refine ⟨by show 1 ≤ sizeLine; omega, fun l1 hl1 => ?_⟩
    have t1 := Same.new (o := .lst [.ref a4]) hl1
    refine ⟨q0, l1, [.ref a0, .ref a1, .ref a2, .ref a3], [.ref a4], rfl, rfl, t1 _ _ (s6 _ _ Q0), upd_same, by show 5 ≤ sizeLine; omega, fun q1 hq1 => ?_⟩
    have u1 := t1.trans (Same.new (o := .lst ([.ref a0, .ref a1, .ref a2, .ref a3] ++ [.ref a4])) hq1)
    have Q1 : (upd (upd H6 l1 (.lst [.ref a4])) q1 (.lst ([.ref a0, .ref a1, .ref a2, .ref a3] ++ [.ref a4]))) q1 = some (.lst [.ref a0, .ref a1, .ref a2, .ref a3, .ref a4]) := upd_same
    have N1 : H q1 = none := Same.free (S6.trans t1) hq1
    generalize (upd (upd H6 l1 (.lst [.ref a4])) q1 (.lst ([.ref a0, .ref a1, .ref a2, .ref a3] ++ [.ref a4])) : Hp) = H7 at u1 Q1 ⊢
    have s7 := u1
    have S7 := S6.trans s7
    refine ⟨_, rfl, ?_⟩
    refine ⟨_, rfl, p, [w0, w1, w2, w3, w4, w5, w6, w7, w8, w9, w10, w11], 5, w5, rfl, rfl, Same.sq S7 hS, rfl, ⟨rfl, fun a5 n5 => ⟨a5, C5, w5, rfl, e5.T, e5.no, upd_same, fun dx hd ne => ⟨rfl, ?_⟩⟩⟩⟩
    obtain ⟨s8, x5⟩ := mk_facts (C := C5) (f := "command") (v := w5) n5 hd ne
    generalize (upd (upd (upd H7 a5 (exo a5 C5 none)) dx (exd dx [("command", w5)])) a5 (exo a5 C5 (some dx)) : Hp) = H8 at s8 x5 ⊢
    clear hd ne dx
    have S8 := S7.trans s8
    refine ⟨_, rfl, p, [w0, w1, w2, w3, w4, w5, w6, w7, w8, w9, w10, w11], 6, w6, rfl, rfl, Same.sq S8 hS, rfl, ⟨rfl, fun a6 n6 => ⟨a6, C6, w6, rfl, e6.T, e6.no, upd_same, fun dx hd ne => ⟨rfl, ?_⟩⟩⟩⟩
    obtain ⟨s9, x6⟩ := mk_facts (C := C6) (f := "row_id") (v := w6) n6 hd ne
    generalize (upd (upd (upd H8 a6 (exo a6 C6 none)) dx (exd dx [("row_id", w6)])) a6 (exo a6 C6 (some dx)) : Hp) = H9 at s9 x6 ⊢
    clear hd ne dx
    have S9 := S8.trans s9
    refine ⟨_, rfl, p, [w0, w1, w2, w3, w4, w5, w6, w7, w8, w9, w10, w11], 7, w7, rfl, rfl, Same.sq S9 hS, rfl, ⟨rfl, fun a7 n7 => ⟨a7, C7, w7, rfl, e7.T, e7.no, upd_same, fun dx hd ne => ⟨rfl, ?_⟩⟩⟩⟩
    obtain ⟨s10, x7⟩ := mk_facts (C := C7) (f := "row_id") (v := w7) n7 hd ne
    generalize (upd (upd (upd H9 a7 (exo a7 C7 none)) dx (exd dx [("row_id", w7)])) a7 (exo a7 C7 (some dx)) : Hp) = H10 at s10 x7 ⊢
    clear hd ne dx
    have S10 := S9.trans s10
    refine ⟨by show 3 ≤ sizeLine; omega, fun l2 hl2 => ?_⟩
    have t2 := Same.new (o := .lst [.ref a5, .ref a6, .ref a7]) hl2
    refine ⟨q1, l2, [.ref a0, .ref a1, .ref a2, .ref a3, .ref a4], [.ref a5, .ref a6, .ref a7], rfl, rfl, t2 _ _ (s10 _ _ (s9 _ _ (s8 _ _ Q1))), upd_same, by show 8 ≤ sizeLine; omega, fun q2 hq2 => ?_⟩
    have u2 := t2.trans (Same.new (o := .lst ([.ref a0, .ref a1, .ref a2, .ref a3, .ref a4] ++ [.ref a5, .ref a6, .ref a7])) hq2)
    have Q2 : (upd (upd H10 l2 (.lst [.ref a5, .ref a6, .ref a7])) q2 (.lst ([.ref a0, .ref a1, .ref a2, .ref a3, .ref a4] ++ [.ref a5, .ref a6, .ref a7]))) q2 = some (.lst [.ref a0, .ref a1, .ref a2, .ref a3, .ref a4, .ref a5, .ref a6, .ref a7]) := upd_same
    have N2 : H q2 = none := Same.free (S10.trans t2) hq2
    generalize (upd (upd H10 l2 (.lst [.ref a5, .ref a6, .ref a7])) q2 (.lst ([.ref a0, .ref a1, .ref a2, .ref a3, .ref a4] ++ [.ref a5, .ref a6, .ref a7])) : Hp) = H11 at u2 Q2 ⊢
    have s11 := u2
    have S11 := S10.trans s11
    refine ⟨_, rfl, ?_⟩
    refine ⟨_, rfl, p, [w0, w1, w2, w3, w4, w5, w6, w7, w8, w9, w10, w11], 8, w8, rfl, rfl, Same.sq S11 hS, rfl, ⟨rfl, fun a8 n8 => ⟨a8, C8, w8, rfl, e8.T, e8.no, upd_same, fun dx hd ne => ⟨rfl, ?_⟩⟩⟩⟩
    obtain ⟨s12, x8⟩ := mk_facts (C := C8) (f := "count") (v := w8) n8 hd ne
    generalize (upd (upd (upd H11 a8 (exo a8 C8 none)) dx (exd dx [("count", w8)])) a8 (exo a8 C8 (some dx)) : Hp) = H12 at s12 x8 ⊢
    clear hd ne dx
    have S12 := S11.trans s12
    refine ⟨by show 1 ≤ sizeLine; omega, fun l3 hl3 => ?_⟩
    have t3 := Same.new (o := .lst [.ref a8]) hl3
    refine ⟨q2, l3, [.ref a0, .ref a1, .ref a2, .ref a3, .ref a4, .ref a5, .ref a6, .ref a7], [.ref a8], rfl, rfl, t3 _ _ (s12 _ _ Q2), upd_same, by show 9 ≤ sizeLine; omega, fun q3 hq3 => ?_⟩
    have u3 := t3.trans (Same.new (o := .lst ([.ref a0, .ref a1, .ref a2, .ref a3, .ref a4, .ref a5, .ref a6, .ref a7] ++ [.ref a8])) hq3)
    have Q3 : (upd (upd H12 l3 (.lst [.ref a8])) q3 (.lst ([.ref a0, .ref a1, .ref a2, .ref a3, .ref a4, .ref a5, .ref a6, .ref a7] ++ [.ref a8]))) q3 = some (.lst [.ref a0, .ref a1, .ref a2, .ref a3, .ref a4, .ref a5, .ref a6, .ref a7, .ref a8]) := upd_same
    have N3 : H q3 = none := Same.free (S12.trans t3) hq3
    generalize (upd (upd H12 l3 (.lst [.ref a8])) q3 (.lst ([.ref a0, .ref a1, .ref a2, .ref a3, .ref a4, .ref a5, .ref a6, .ref a7] ++ [.ref a8])) : Hp) = H13 at u3 Q3 ⊢
    have s13 := u3
    have S13 := S12.trans s13
    refine ⟨_, rfl, ?_⟩
    refine ⟨_, rfl, p, [w0, w1, w2, w3, w4, w5, w6, w7, w8, w9, w10, w11], 9, w9, rfl, rfl, Same.sq S13 hS, rfl, ⟨rfl, fun a9 n9 => ⟨a9, C9, w9, rfl, e9.T, e9.no, upd_same, fun dx hd ne => ⟨rfl, ?_⟩⟩⟩⟩
    obtain ⟨s14, x9⟩ := mk_facts (C := C9) (f := "action") (v := w9) n9 hd ne
    generalize (upd (upd (upd H13 a9 (exo a9 C9 none)) dx (exd dx [("action", w9)])) a9 (exo a9 C9 (some dx)) : Hp) = H14 at s14 x9 ⊢
    clear hd ne dx
    have S14 := S13.trans s14
    refine ⟨_, rfl, p, [w0, w1, w2, w3, w4, w5, w6, w7, w8, w9, w10, w11], 10, w10, rfl, rfl, Same.sq S14 hS, rfl, ⟨rfl, fun a10 n10 => ⟨a10, C10, w10, rfl, e10.T, e10.no, upd_same, fun dx hd ne => ⟨rfl, ?_⟩⟩⟩⟩
    obtain ⟨s15, x10⟩ := mk_facts (C := C10) (f := "name") (v := w10) n10 hd ne
    generalize (upd (upd (upd H14 a10 (exo a10 C10 none)) dx (exd dx [("name", w10)])) a10 (exo a10 C10 (some dx)) : Hp) = H15 at s15 x10 ⊢
    clear hd ne dx
    have S15 := S14.trans s15
    refine ⟨_, rfl, p, [w0, w1, w2, w3, w4, w5, w6, w7, w8, w9, w10, w11], 11, w11, rfl, rfl, Same.sq S15 hS, rfl, ⟨rfl, fun a11 n11 => ⟨a11, C11, w11, rfl, e11.T, e11.no, upd_same, fun dx hd ne => ⟨rfl, ?_⟩⟩⟩⟩
    obtain ⟨s16, x11⟩ := mk_facts (C := C11) (f := "name") (v := w11) n11 hd ne
    generalize (upd (upd (upd H15 a11 (exo a11 C11 none)) dx (exd dx [("name", w11)])) a11 (exo a11 C11 (some dx)) : Hp) = H16 at s16 x11 ⊢
    clear hd ne dx
    have S16 := S15.trans s16
    refine ⟨by show 3 ≤ sizeLine; omega, fun l4 hl4 => ?_⟩
    have t4 := Same.new (o := .lst [.ref a9, .ref a10, .ref a11]) hl4
    refine ⟨q3, l4, [.ref a0, .ref a1, .ref a2, .ref a3, .ref a4, .ref a5, .ref a6, .ref a7, .ref a8], [.ref a9, .ref a10, .ref a11], rfl, rfl, t4 _ _ (s16 _ _ (s15 _ _ (s14 _ _ Q3))), upd_same, by show 12 ≤ sizeLine; omega, fun q4 hq4 => ?_⟩
    have u4 := t4.trans (Same.new (o := .lst ([.ref a0, .ref a1, .ref a2, .ref a3, .ref a4, .ref a5, .ref a6, .ref a7, .ref a8] ++ [.ref a9, .ref a10, .ref a11])) hq4)
    have Q4 : (upd (upd H16 l4 (.lst [.ref a9, .ref a10, .ref a11])) q4 (.lst ([.ref a0, .ref a1, .ref a2, .ref a3, .ref a4, .ref a5, .ref a6, .ref a7, .ref a8] ++ [.ref a9, .ref a10, .ref a11]))) q4 = some (.lst [.ref a0, .ref a1, .ref a2, .ref a3, .ref a4, .ref a5, .ref a6, .ref a7, .ref a8, .ref a9, .ref a10, .ref a11]) := upd_same
    have N4 : H q4 = none := Same.free (S16.trans t4) hq4
    generalize (upd (upd H16 l4 (.lst [.ref a9, .ref a10, .ref a11])) q4 (.lst ([.ref a0, .ref a1, .ref a2, .ref a3, .ref a4, .ref a5, .ref a6, .ref a7, .ref a8] ++ [.ref a9, .ref a10, .ref a11])) : Hp) = H17 at u4 Q4 ⊢
    have s17 := u4
    have S17 := S16.trans s17
    exact k q4 H17 _ S17 N4 Q4 (.cons (x0.same (((((((((((((((s2.trans s3).trans s4).trans s5).trans s6).trans s7).trans s8).trans s9).trans s10).trans s11).trans s12).trans s13).trans s14).trans s15).trans s16).trans s17)) (.cons (x1.same ((((((((((((((s3.trans s4).trans s5).trans s6).trans s7).trans s8).trans s9).trans s10).trans s11).trans s12).trans s13).trans s14).trans s15).trans s16).trans s17)) (.cons (x2.same (((((((((((((s4.trans s5).trans s6).trans s7).trans s8).trans s9).trans s10).trans s11).trans s12).trans s13).trans s14).trans s15).trans s16).trans s17)) (.cons (x3.same ((((((((((((s5.trans s6).trans s7).trans s8).trans s9).trans s10).trans s11).trans s12).trans s13).trans s14).trans s15).trans s16).trans s17)) (.cons (x4.same ((((((((((s7.trans s8).trans s9).trans s10).trans s11).trans s12).trans s13).trans s14).trans s15).trans s16).trans s17)) (.cons (x5.same ((((((((s9.trans s10).trans s11).trans s12).trans s13).trans s14).trans s15).trans s16).trans s17)) (.cons (x6.same (((((((s10.trans s11).trans s12).trans s13).trans s14).trans s15).trans s16).trans s17)) (.cons (x7.same ((((((s11.trans s12).trans s13).trans s14).trans s15).trans s16).trans s17)) (.cons (x8.same ((((s13.trans s14).trans s15).trans s16).trans s17)) (.cons (x9.same ((s15.trans s16).trans s17)) (.cons (x10.same (s16.trans s17)) (.cons (x11.same s17) .nil))))))))))))
end
/-! ### lists of bools, compared -/
theorem eqvAll_bls : ∀ xs ys : List Bool, PyData.eqvAll (xs.map .bool) (ys.map .bool) = decide (xs = ys)
  | [], [] => by simp [PyData.eqvAll]
  | [], _ :: _ => by simp [PyData.eqvAll]
  | _ :: _, [] => by simp [PyData.eqvAll]
  | x :: xs, y :: ys => by
    rw [List.map_cons, List.map_cons, PyData.eqvAll, eqvAll_bls xs ys, PyData.eqv]
    cases x <;> cases y <;> simp
theorem canLay_bls : ∀ xs : List Bool, PyData.canLayAll0 (xs.map .bool) = true
  | [] => by rw [List.map_nil, PyData.canLayAll0]
  | x :: xs => by rw [List.map_cons, PyData.canLayAll0, canLay_bls xs, PyData.canLay0]; rfl
theorem depthAll_bls : ∀ xs : List Bool, PyData.depthAll (xs.map .bool) ≤ 1
  | [] => by rw [List.map_nil, PyData.depthAll]; omega
  | x :: xs => by
    have := depthAll_bls xs
    rw [List.map_cons, PyData.depthAll, PyData.depth]
    omega
theorem shaped_bls (xs : List Bool) : SeqAt.shaped (.list (xs.map .bool)) = true := by
  unfold SeqAt.shaped
  rw [Bool.and_eq_true]
  refine ⟨?_, decide_eq_true ?_⟩
  · rw [PyData.canLay0]; exact canLay_bls xs
  · have := depthAll_bls xs
    rw [PyData.depth]
    omega
theorem DpAll.bls {K : PySem.W.Frag} {H : Hp} : ∀ xs : List Bool, DpAll K H (xs.map V.bl) (xs.map .bool)
  | [] => .nil
  | x :: xs => .cons (.bl x) (DpAll.bls xs)
theorem op_eqBL {X : Cx} (hu : X.A.units + 64 < cLine) : OpR X (compareOp .Eq) (fun x y H Q => ∃ (p q : Addr) (xs ys : List Bool), x = .ref p ∧ y = .ref q ∧ SqL X.K H p (xs.map V.bl) ∧ SqL X.K H q (ys.map V.bl) ∧ Q (.bl (decide (xs = ys))) H) := by
  intro pins s σ H x y v u Q I rx ry h
  obtain ⟨p, q, xs, ys, rfl, rfl, h1, h2, k⟩ := h
  refine op_eqD hu pins s σ H _ _ v u Q I rx ry ⟨_, _, .lst h1 (DpAll.bls xs), .lst h2 (DpAll.bls ys), shaped_bls xs, shaped_bls ys, ?_⟩
  rw [PyData.eqv, eqvAll_bls]
  exact k
section
variable {P : Program} {w : World} {K : PySem.W.Frag} {mg : Str → Option Value} {base : Heap}
/-! ### the kinds of an error -/
def kindsL (at_ : Nat) : List Bool := (List.range 12).map fun j => decide (j = at_)
def IsKind (K : PySem.W.Frag) (H : Hp) (Cs : List Addr) (a D : Addr) (at_ : Nat) : Prop := ExcC K D ∧ (∃ f v, ExAt H a D f v) ∧ ∀ (j : Nat) (C : Addr), Cs[j]? = some C → PySem.W.kitOne K (.ref D) (.ref C) = some (decide (j = at_))
def spKinds (K : PySem.W.Frag) (Cs : List Addr) : Sp := fun vs H Q _ => ∃ (a D : Addr) (at_ : Nat), vs = [.ref a] ∧ IsKind K H Cs a D at_ ∧ ∀ (q : Addr) (H' : Hp), Same H H' → H q = none → H' q = some (.lst ((kindsL at_).map V.bl)) → Q (.ref q) H'
theorem scKinds : FnScope ["error", "kinds"] ["error"] (defScope sKinds) := ⟨rfl, rfl, rfl, by decide +kernel, rfl, by decide +kernel, by decide +kernel⟩
theorem ok_kinds {f : Addr} {fd : FuncData} (F : Fun K "_law_kinds" "_law_kinds" sKinds f fd) (T : mg "isinstance" = none) {C0 C1 C2 C3 C4 C5 C6 C7 C8 C9 C10 C11 : Addr} (g0 : mg "BadItem" = some (.ref C0)) (g1 : mg "BadRule" = some (.ref C1)) (g2 : mg "BadMove" = some (.ref C2)) (g3 : mg "BadStep" = some (.ref C3)) (g4 : mg "BadText" = some (.ref C4)) (g5 : mg "BadCommand" = some (.ref C5)) (g6 : mg "UnknownId" = some (.ref C6)) (g7 : mg "TakenId" = some (.ref C7)) (g8 : mg "TooMany" = some (.ref C8)) (g9 : mg "NothingToDo" = some (.ref C9)) (g10 : mg "UnknownName" = some (.ref C10)) (g11 : mg "NameTaken" = some (.ref C11)) : FnOk P w K mg base CX0 1 f fd ["error"] (spKinds K [C0, C1, C2, C3, C4, C5, C6, C7, C8, C9, C10, C11]) := by
  refine F.ok scKinds (fun vs H Q E h => ?_) (fun cdv A outer s H vs Q E hr h => ?_)
  · obtain ⟨a, D, at_, rfl, _⟩ := h
    rfl
  · obtain ⟨a, D, at_, rfl, ⟨hE, ⟨fl, v, hx⟩, hk⟩, k⟩ := h
    have h16 := sizeLine_eq
    refine ⟨_, pss_cons (ps_set (i := 1) scKinds.nd rfl (Or.inl rfl) (pe_lst (pa_cons (pe_callB call_isO (by rfl) T (by decide +kernel) (pa_cons (pv 0) (pa_cons (pe_glob (v := .ref C0) rfl g0 rfl) pa_nil))) (pa_cons (pe_callB call_isO (by rfl) T (by decide +kernel) (pa_cons (pv 0) (pa_cons (pe_glob (v := .ref C1) rfl g1 rfl) pa_nil))) (pa_cons (pe_callB call_isO (by rfl) T (by decide +kernel) (pa_cons (pv 0) (pa_cons (pe_glob (v := .ref C2) rfl g2 rfl) pa_nil))) pa_nil)))))
      (pss_cons (ps_set (i := 1) scKinds.nd rfl (Or.inl rfl) (pe_op op_cat (pv 1) (pe_lst (pa_cons (pe_callB call_isO (by rfl) T (by decide +kernel) (pa_cons (pv 0) (pa_cons (pe_glob (v := .ref C3) rfl g3 rfl) pa_nil))) (pa_cons (pe_callB call_isO (by rfl) T (by decide +kernel) (pa_cons (pv 0) (pa_cons (pe_glob (v := .ref C4) rfl g4 rfl) pa_nil))) (pa_cons (pe_callB call_isO (by rfl) T (by decide +kernel) (pa_cons (pv 0) (pa_cons (pe_glob (v := .ref C5) rfl g5 rfl) pa_nil))) pa_nil))))))
      (pss_cons (ps_set (i := 1) scKinds.nd rfl (Or.inl rfl) (pe_op op_cat (pv 1) (pe_lst (pa_cons (pe_callB call_isO (by rfl) T (by decide +kernel) (pa_cons (pv 0) (pa_cons (pe_glob (v := .ref C6) rfl g6 rfl) pa_nil))) (pa_cons (pe_callB call_isO (by rfl) T (by decide +kernel) (pa_cons (pv 0) (pa_cons (pe_glob (v := .ref C7) rfl g7 rfl) pa_nil))) (pa_cons (pe_callB call_isO (by rfl) T (by decide +kernel) (pa_cons (pv 0) (pa_cons (pe_glob (v := .ref C8) rfl g8 rfl) pa_nil))) pa_nil))))))
      (pss_cons (ps_set (i := 1) scKinds.nd rfl (Or.inl rfl) (pe_op op_cat (pv 1) (pe_lst (pa_cons (pe_callB call_isO (by rfl) T (by decide +kernel) (pa_cons (pv 0) (pa_cons (pe_glob (v := .ref C9) rfl g9 rfl) pa_nil))) (pa_cons (pe_callB call_isO (by rfl) T (by decide +kernel) (pa_cons (pv 0) (pa_cons (pe_glob (v := .ref C10) rfl g10 rfl) pa_nil))) pa_nil)))))
      (pss_one (ps_ret (pe_op op_cat (pv 1) (pe_lst (pa_cons (pe_callB call_isO (by rfl) T (by decide +kernel) (pa_cons (pv 0) (pa_cons (pe_glob (v := .ref C11) rfl g11 rfl) pa_nil))) pa_nil)))))))), ?_⟩
    have S0 := Same.refl H
    refine ⟨_, rfl, a, D, .ref C0, .ref C0, _, fl, v, rfl, hE, hx.same S0, (fun u r => r), hk 0 C0 rfl, _, rfl, a, D, .ref C1, .ref C1, _, fl, v, rfl, hE, hx.same S0, (fun u r => r), hk 1 C1 rfl, _, rfl, a, D, .ref C2, .ref C2, _, fl, v, rfl, hE, hx.same S0, (fun u r => r), hk 2 C2 rfl, by show 3 ≤ sizeLine; omega, fun q0 hq0 => ?_⟩
    have S1 := Same.new (o := .lst [.bl (decide (0 = at_)), .bl (decide (1 = at_)), .bl (decide (2 = at_))]) hq0
    have Q0 : (upd H q0 (.lst [.bl (decide (0 = at_)), .bl (decide (1 = at_)), .bl (decide (2 = at_))])) q0 = some (.lst [.bl (decide (0 = at_)), .bl (decide (1 = at_)), .bl (decide (2 = at_))]) := upd_same
    generalize (upd H q0 (.lst [.bl (decide (0 = at_)), .bl (decide (1 = at_)), .bl (decide (2 = at_))]) : Hp) = H1 at S1 Q0 ⊢
    refine ⟨_, rfl, _, rfl, a, D, .ref C3, .ref C3, _, fl, v, rfl, hE, hx.same S1, (fun u r => r), hk 3 C3 rfl, _, rfl, a, D, .ref C4, .ref C4, _, fl, v, rfl, hE, hx.same S1, (fun u r => r), hk 4 C4 rfl, _, rfl, a, D, .ref C5, .ref C5, _, fl, v, rfl, hE, hx.same S1, (fun u r => r), hk 5 C5 rfl, by show 3 ≤ sizeLine; omega, fun l1 hl1 => ?_⟩
    have t1 := Same.new (o := .lst [.bl (decide (3 = at_)), .bl (decide (4 = at_)), .bl (decide (5 = at_))]) hl1
    refine ⟨q0, l1, [.bl (decide (0 = at_)), .bl (decide (1 = at_)), .bl (decide (2 = at_))], [.bl (decide (3 = at_)), .bl (decide (4 = at_)), .bl (decide (5 = at_))], rfl, rfl, t1 _ _ Q0, upd_same, by show 6 ≤ sizeLine; omega, fun q1 hq1 => ?_⟩
    have N1 : H q1 = none := Same.free (S1.trans t1) hq1
    have S2 := (S1.trans t1).trans (Same.new (o := .lst ([.bl (decide (0 = at_)), .bl (decide (1 = at_)), .bl (decide (2 = at_))] ++ [.bl (decide (3 = at_)), .bl (decide (4 = at_)), .bl (decide (5 = at_))])) hq1)
    have Q1 : (upd (upd H1 l1 (.lst [.bl (decide (3 = at_)), .bl (decide (4 = at_)), .bl (decide (5 = at_))])) q1 (.lst ([.bl (decide (0 = at_)), .bl (decide (1 = at_)), .bl (decide (2 = at_))] ++ [.bl (decide (3 = at_)), .bl (decide (4 = at_)), .bl (decide (5 = at_))]))) q1 = some (.lst [.bl (decide (0 = at_)), .bl (decide (1 = at_)), .bl (decide (2 = at_)), .bl (decide (3 = at_)), .bl (decide (4 = at_)), .bl (decide (5 = at_))]) := upd_same
    generalize (upd (upd H1 l1 (.lst [.bl (decide (3 = at_)), .bl (decide (4 = at_)), .bl (decide (5 = at_))])) q1 (.lst ([.bl (decide (0 = at_)), .bl (decide (1 = at_)), .bl (decide (2 = at_))] ++ [.bl (decide (3 = at_)), .bl (decide (4 = at_)), .bl (decide (5 = at_))])) : Hp) = H2 at S2 Q1 ⊢
    refine ⟨_, rfl, _, rfl, a, D, .ref C6, .ref C6, _, fl, v, rfl, hE, hx.same S2, (fun u r => r), hk 6 C6 rfl, _, rfl, a, D, .ref C7, .ref C7, _, fl, v, rfl, hE, hx.same S2, (fun u r => r), hk 7 C7 rfl, _, rfl, a, D, .ref C8, .ref C8, _, fl, v, rfl, hE, hx.same S2, (fun u r => r), hk 8 C8 rfl, by show 3 ≤ sizeLine; omega, fun l2 hl2 => ?_⟩
    have t2 := Same.new (o := .lst [.bl (decide (6 = at_)), .bl (decide (7 = at_)), .bl (decide (8 = at_))]) hl2
    refine ⟨q1, l2, [.bl (decide (0 = at_)), .bl (decide (1 = at_)), .bl (decide (2 = at_)), .bl (decide (3 = at_)), .bl (decide (4 = at_)), .bl (decide (5 = at_))], [.bl (decide (6 = at_)), .bl (decide (7 = at_)), .bl (decide (8 = at_))], rfl, rfl, t2 _ _ Q1, upd_same, by show 9 ≤ sizeLine; omega, fun q2 hq2 => ?_⟩
    have N2 : H q2 = none := Same.free (S2.trans t2) hq2
    have S3 := (S2.trans t2).trans (Same.new (o := .lst ([.bl (decide (0 = at_)), .bl (decide (1 = at_)), .bl (decide (2 = at_)), .bl (decide (3 = at_)), .bl (decide (4 = at_)), .bl (decide (5 = at_))] ++ [.bl (decide (6 = at_)), .bl (decide (7 = at_)), .bl (decide (8 = at_))])) hq2)
    have Q2 : (upd (upd H2 l2 (.lst [.bl (decide (6 = at_)), .bl (decide (7 = at_)), .bl (decide (8 = at_))])) q2 (.lst ([.bl (decide (0 = at_)), .bl (decide (1 = at_)), .bl (decide (2 = at_)), .bl (decide (3 = at_)), .bl (decide (4 = at_)), .bl (decide (5 = at_))] ++ [.bl (decide (6 = at_)), .bl (decide (7 = at_)), .bl (decide (8 = at_))]))) q2 = some (.lst [.bl (decide (0 = at_)), .bl (decide (1 = at_)), .bl (decide (2 = at_)), .bl (decide (3 = at_)), .bl (decide (4 = at_)), .bl (decide (5 = at_)), .bl (decide (6 = at_)), .bl (decide (7 = at_)), .bl (decide (8 = at_))]) := upd_same
    generalize (upd (upd H2 l2 (.lst [.bl (decide (6 = at_)), .bl (decide (7 = at_)), .bl (decide (8 = at_))])) q2 (.lst ([.bl (decide (0 = at_)), .bl (decide (1 = at_)), .bl (decide (2 = at_)), .bl (decide (3 = at_)), .bl (decide (4 = at_)), .bl (decide (5 = at_))] ++ [.bl (decide (6 = at_)), .bl (decide (7 = at_)), .bl (decide (8 = at_))])) : Hp) = H3 at S3 Q2 ⊢
    refine ⟨_, rfl, _, rfl, a, D, .ref C9, .ref C9, _, fl, v, rfl, hE, hx.same S3, (fun u r => r), hk 9 C9 rfl, _, rfl, a, D, .ref C10, .ref C10, _, fl, v, rfl, hE, hx.same S3, (fun u r => r), hk 10 C10 rfl, by show 2 ≤ sizeLine; omega, fun l3 hl3 => ?_⟩
    have t3 := Same.new (o := .lst [.bl (decide (9 = at_)), .bl (decide (10 = at_))]) hl3
    refine ⟨q2, l3, [.bl (decide (0 = at_)), .bl (decide (1 = at_)), .bl (decide (2 = at_)), .bl (decide (3 = at_)), .bl (decide (4 = at_)), .bl (decide (5 = at_)), .bl (decide (6 = at_)), .bl (decide (7 = at_)), .bl (decide (8 = at_))], [.bl (decide (9 = at_)), .bl (decide (10 = at_))], rfl, rfl, t3 _ _ Q2, upd_same, by show 11 ≤ sizeLine; omega, fun q3 hq3 => ?_⟩
    have N3 : H q3 = none := Same.free (S3.trans t3) hq3
    have S4 := (S3.trans t3).trans (Same.new (o := .lst ([.bl (decide (0 = at_)), .bl (decide (1 = at_)), .bl (decide (2 = at_)), .bl (decide (3 = at_)), .bl (decide (4 = at_)), .bl (decide (5 = at_)), .bl (decide (6 = at_)), .bl (decide (7 = at_)), .bl (decide (8 = at_))] ++ [.bl (decide (9 = at_)), .bl (decide (10 = at_))])) hq3)
    have Q3 : (upd (upd H3 l3 (.lst [.bl (decide (9 = at_)), .bl (decide (10 = at_))])) q3 (.lst ([.bl (decide (0 = at_)), .bl (decide (1 = at_)), .bl (decide (2 = at_)), .bl (decide (3 = at_)), .bl (decide (4 = at_)), .bl (decide (5 = at_)), .bl (decide (6 = at_)), .bl (decide (7 = at_)), .bl (decide (8 = at_))] ++ [.bl (decide (9 = at_)), .bl (decide (10 = at_))]))) q3 = some (.lst [.bl (decide (0 = at_)), .bl (decide (1 = at_)), .bl (decide (2 = at_)), .bl (decide (3 = at_)), .bl (decide (4 = at_)), .bl (decide (5 = at_)), .bl (decide (6 = at_)), .bl (decide (7 = at_)), .bl (decide (8 = at_)), .bl (decide (9 = at_)), .bl (decide (10 = at_))]) := upd_same
    generalize (upd (upd H3 l3 (.lst [.bl (decide (9 = at_)), .bl (decide (10 = at_))])) q3 (.lst ([.bl (decide (0 = at_)), .bl (decide (1 = at_)), .bl (decide (2 = at_)), .bl (decide (3 = at_)), .bl (decide (4 = at_)), .bl (decide (5 = at_)), .bl (decide (6 = at_)), .bl (decide (7 = at_)), .bl (decide (8 = at_))] ++ [.bl (decide (9 = at_)), .bl (decide (10 = at_))])) : Hp) = H4 at S4 Q3 ⊢
    refine ⟨_, rfl, _, rfl, a, D, .ref C11, .ref C11, _, fl, v, rfl, hE, hx.same S4, (fun u r => r), hk 11 C11 rfl, by show 1 ≤ sizeLine; omega, fun l4 hl4 => ?_⟩
    have t4 := Same.new (o := .lst [.bl (decide (11 = at_))]) hl4
    refine ⟨q3, l4, [.bl (decide (0 = at_)), .bl (decide (1 = at_)), .bl (decide (2 = at_)), .bl (decide (3 = at_)), .bl (decide (4 = at_)), .bl (decide (5 = at_)), .bl (decide (6 = at_)), .bl (decide (7 = at_)), .bl (decide (8 = at_)), .bl (decide (9 = at_)), .bl (decide (10 = at_))], [.bl (decide (11 = at_))], rfl, rfl, t4 _ _ Q3, upd_same, by show 12 ≤ sizeLine; omega, fun q4 hq4 => ?_⟩
    have N4 : H q4 = none := Same.free (S4.trans t4) hq4
    have S5 := (S4.trans t4).trans (Same.new (o := .lst ([.bl (decide (0 = at_)), .bl (decide (1 = at_)), .bl (decide (2 = at_)), .bl (decide (3 = at_)), .bl (decide (4 = at_)), .bl (decide (5 = at_)), .bl (decide (6 = at_)), .bl (decide (7 = at_)), .bl (decide (8 = at_)), .bl (decide (9 = at_)), .bl (decide (10 = at_))] ++ [.bl (decide (11 = at_))])) hq4)
    have Q4 : (upd (upd H4 l4 (.lst [.bl (decide (11 = at_))])) q4 (.lst ([.bl (decide (0 = at_)), .bl (decide (1 = at_)), .bl (decide (2 = at_)), .bl (decide (3 = at_)), .bl (decide (4 = at_)), .bl (decide (5 = at_)), .bl (decide (6 = at_)), .bl (decide (7 = at_)), .bl (decide (8 = at_)), .bl (decide (9 = at_)), .bl (decide (10 = at_))] ++ [.bl (decide (11 = at_))]))) q4 = some (.lst [.bl (decide (0 = at_)), .bl (decide (1 = at_)), .bl (decide (2 = at_)), .bl (decide (3 = at_)), .bl (decide (4 = at_)), .bl (decide (5 = at_)), .bl (decide (6 = at_)), .bl (decide (7 = at_)), .bl (decide (8 = at_)), .bl (decide (9 = at_)), .bl (decide (10 = at_)), .bl (decide (11 = at_))]) := upd_same
    generalize (upd (upd H4 l4 (.lst [.bl (decide (11 = at_))])) q4 (.lst ([.bl (decide (0 = at_)), .bl (decide (1 = at_)), .bl (decide (2 = at_)), .bl (decide (3 = at_)), .bl (decide (4 = at_)), .bl (decide (5 = at_)), .bl (decide (6 = at_)), .bl (decide (7 = at_)), .bl (decide (8 = at_)), .bl (decide (9 = at_)), .bl (decide (10 = at_))] ++ [.bl (decide (11 = at_))])) : Hp) = H5 at S5 Q4 ⊢
    exact k q4 H5 S5 N4 Q4
end
section
variable {P : Program} {w : World} {K : PySem.W.Frag} {mg : Str → Option Value} {base : Heap}
/-! ### of one kind -/
def spOneKind (K : PySem.W.Frag) (Cs : List Addr) (Ch : Addr) : Sp := fun vs H Q _ => ∃ (a D : Addr) (at_ : Nat), vs = [.ref a, .int (at_ : Nat)] ∧ IsKind K H Cs a D at_ ∧ at_ < 12 ∧ PySem.W.kitOne K (.ref D) (.ref Ch) = some true ∧ PySem.W.kitOne K (.ref D) (.type "ValueError") = some true ∧ ∀ H', Same H H' → Q (.bl true) H'
theorem scOneKind : FnScope ["error", "at", "k"] ["error", "at"] (defScope sOneKind) := ⟨rfl, rfl, rfl, by decide +kernel, rfl, by decide +kernel, by decide +kernel⟩
theorem ok_oneKind {f fK : Addr} {fd fdK : FuncData} (F : Fun K "_law_of_one_kind" "_law_of_one_kind" sOneKind f fd) (T : mg "isinstance" = none) (TV : mg "ValueError" = none) (TR : mg "range" = none) {Cs : List Addr} {Ch : Addr} (gH : mg "HandError" = some (.ref Ch))
    (GK : FnOk P w K mg base CX0 1 fK fdK ["error"] (spKinds K Cs)) (kK : PySem.W.keepIn K (.ref fK) = true) (bK : L2.Binds K fdK ["error"] []) (mK : mg "_law_kinds" = some (.ref fK)) : FnOk P w K mg base CX0 2 f fd ["error", "at"] (spOneKind K Cs Ch) := by
  refine F.ok scOneKind (fun vs H Q E h => ?_) (fun cdv A outer s H vs Q E hr h => ?_)
  · obtain ⟨a, D, at_, rfl, _⟩ := h
    rfl
  · obtain ⟨a, D, at_, rfl, hI, hat, kH, kV, k⟩ := h
    have h64 := hu64 hr
    obtain ⟨hE, ⟨fl, v, hx⟩, hk⟩ := id hI
    refine ⟨_, pss_cons (ps_if (PW.pt (pw_or (pt_not (pt_val (pe_callB call_isO (by rfl) T (by decide +kernel) (pa_cons (pv 0) (pa_cons (pe_glob (v := .ref Ch) rfl gH rfl) pa_nil)))))
          (pw_or1 (pt_not (pt_val (pe_callB call_isO (by rfl) T (by decide +kernel) (pa_cons (pv 0) (pa_cons (pe_bltn (v := .ty "ValueError") (by rfl) TV PyProof.Rows.Boot.«ValueError» rfl) pa_nil)))))))) (pss_one (ps_ret pe_bl)) pss_nil)
      (pss_one (ps_ret (pe_cmpR (op_eqBL h64) (pe_call GK hr rfl mK kK bK .nil pass0 (pa_cons (pv 0) pa_nil))
        (pe_lc (own := [("k", 2)]) (g := gName 2) (tt := tYes) rfl scOneKind.nd (pi_range1 rfl TR (pa_cons pe_int pa_nil)) (blkOk_by (N := ["error", "at", "k"]) (sc := defScope sOneKind) (by decide +kernel)) (fun _ _ _ _ _ => pg_name (i := 2) scOneKind.nd rfl (Or.inl rfl)) (fun _ _ _ _ _ => pts_nil)
          (fun _ _ _ _ _ => pe_cmpR op_eq (pv 2) (pv 1) (nomark _))) (nomark _)))), ?_⟩
    refine ⟨_, rfl, a, D, .ref Ch, .ref Ch, true, fl, v, rfl, hE, hx, (fun u r => r), kH, _, rfl, iteF ?_⟩
    refine ⟨_, rfl, a, D, .ty "ValueError", .type "ValueError", true, fl, v, rfl, hE, hx, (fun u r => r), kV, _, rfl, iteF ?_⟩
    refine ⟨_, rfl, a, D, at_, rfl, hI, fun q H1 s1 n1 hQ => ⟨12, rfl, by decide, by decide, fun DD hDD => ?_⟩⟩
    have h16 := sizeLine_eq
    refine lc_range (lo := 0) (n := (12 : Int).toNat) (fun i H' => Same H1 H' ∧ H' DD = some (.lst (((List.range i).map fun j => decide (j = at_)).map V.bl))) ⟨Same.new hDD, upd_same⟩ ?_ ?_
    · rintro i H' hi ⟨s2, hL⟩
      have hi : i < 12 := hi
      refine ⟨rfl, _, rfl, _, rfl, rfl, _, hL, ?_, fun b u e => ?_, ?_⟩
      · rw [List.length_map, List.length_map, List.length_range]; omega
      · rw [upd_ne (ne_of_none e hDD)]; exact s2 _ _ e
      · rw [upd_same, List.range_succ, List.map_append, List.map_append]
        have : decide (V.int (0 + (i : Int)) = V.int (at_ : Int)) = decide (i = at_) := by
          by_cases h : i = at_
          · subst h; simp
          · rw [decide_eq_false h, decide_eq_false]
            intro z
            injection z with z
            omega
        rw [this]; rfl
    · rintro H2 ⟨s2, hL⟩
      refine ⟨q, DD, kindsL at_, kindsL at_, rfl, rfl, SqL.of (s2 _ _ hQ), SqL.of hL, ?_⟩
      rw [decide_eq_true rfl]
      exact k H2 (s1.trans s2)
end
structure TxtL (mg : Str → Option Value) : Prop where
  range : mg "range" = none
  max : mg "max" = none
  min : mg "min" = none
  repr : mg "repr" = none
  enum : mg "enumerate" = none
structure Fn (K : PySem.W.Frag) (mg : Str → Option Value) (x : Str) (st : Stmt) (ps : List Str) (f : Addr) (fd : FuncData) : Prop where
  F : Fun K x x st f fd
  b : L2.Binds K fd ps []
  m : mg x = some (.ref f)
theorem pg_tupK {X : Cx} {K : PySem.W.Frag} {es : List Expr} {n : Nat} {t : TGs} {k : Nat} {pos : Pos} (hK : X.K = K) (hc : X.calm = true) (h : PGs X es t) (hn : (assignEach es X.env).length = n := by rfl) (hst : (assignEach es X.env).findIdx? (·.1) = none := by rfl) : PG X (.Tuple es k pos) (gTup K n t) := by
  subst hK
  exact pg_tup hc h hn hst
theorem call_reprK3 {X : Cx} {K : PySem.W.Frag} (h : X.K = K) (hg : X.A.guards = some []) (hu : X.A.units + 64 < cLine) : CallR X (.builtin "repr") (rRepr2 K) := by
  subst h
  exact call_repr2 hg hu
theorem Errs.at {H : Hp} : ∀ {as : List V} {cf : List (Addr × Str)} {ws : List V}, Errs H as cf ws → ∀ {j : Nat} {y : V}, as[j]? = some y → ∃ a C f v, y = .ref a ∧ (cf.map Prod.fst)[j]? = some C ∧ ExAt H a C f v
  | _, _, _, .nil, j, y, h => by simp at h
  | _, _, _, .cons (a := a) (C := C) (f := f) (v := v) x r, 0, y, h => ⟨a, C, f, v, (Option.some.inj h).symm, rfl, x⟩
  | _, _, _, .cons x r, j + 1, y, h => Errs.at r (j := j) (y := y) h
theorem Errs.put {H : Hp} {as : List V} {cf : List (Addr × Str)} {ws : List V} {p : Addr} {xs : List V} {o : HO} (h : Errs H as cf ws) (hp : H p = some (.lst xs)) : Errs (upd H p o) as cf ws := by
  induction h with
  | nil => exact .nil
  | cons x _ ih =>
    obtain ⟨d, h1, h2⟩ := x
    exact .cons ⟨d, by rw [upd_ne (ne_of h1 hp (fun z => by cases z))]; exact h1, by rw [upd_ne (ne_of h2 hp (fun z => by cases z))]; exact h2⟩ ih
theorem Errs.inv {H : Hp} {as : List V} {C : Addr} {f : Str} {cf : List (Addr × Str)} {ws : List V} (h : Errs H as ((C, f) :: cf) ws) : ∃ a v as' ws', as = .ref a :: as' ∧ ws = v :: ws' ∧ ExAt H a C f v ∧ Errs H as' cf ws' := by
  cases h with
  | cons x r => exact ⟨_, _, _, _, rfl, rfl, x, r⟩
theorem Errs.inv0 {H : Hp} {as ws : List V} (h : Errs H as [] ws) : as = [] ∧ ws = [] := by
  cases h with
  | nil => exact ⟨rfl, rfl⟩
theorem Errs.len {H : Hp} {as : List V} {cf : List (Addr × Str)} {ws : List V} (h : Errs H as cf ws) : as.length = cf.length := by
  induction h with
  | nil => rfl
  | cons _ _ ih => exact congrArg Nat.succ ih
section
variable {P : Program} {w : World} {K : PySem.W.Frag} {mg : Str → Option Value} {base : Heap}
def spLaw (K : PySem.W.Frag) : Sp := fun vs H Q _ => ∃ (a : Addr) (ns : List Int), vs = [.ref a] ∧ SqL K H a (ns.map V.int) ∧ ns.length ≤ 63 ∧ (∀ z ∈ ns, Builtin.Int.intBits z ≤ 1048576) ∧ ∀ H', Q (.bl true) H'
abbrev NL : List Str := ["script", "start", "deck", "turn", "one", "other", "own", "some", "more", "kept", "errors", "due", "found", "at", "error"]
theorem scLaw : FnScope NL ["script"] (defScope sLaw) := ⟨rfl, rfl, rfl, by decide +kernel, rfl, by decide +kernel, by decide +kernel⟩
theorem ok_law {f fDe fV fM fN fO : Addr} {fd fdDe fdV fdM fdN fdO : FuncData} (F : Fun K "law" "law" sLaw f fd) (TD : TxtD mg) (TL : TxtL mg) {Ch : Addr} {C0 C1 C2 C3 C4 C5 C6 C7 C8 C9 C10 C11 f0 f1 f2 f3 f4 f5 f6 f7 f8 f9 f10 f11 : Addr} {d0 d1 d2 d3 d4 d5 d6 d7 d8 d9 d10 d11 : FuncData}
    (e0 : ErrOk P w K mg base "BadItem" "value" C0 f0 d0)
    (e1 : ErrOk P w K mg base "BadRule" "value" C1 f1 d1)
    (e2 : ErrOk P w K mg base "BadMove" "value" C2 f2 d2)
    (e3 : ErrOk P w K mg base "BadStep" "value" C3 f3 d3)
    (e4 : ErrOk P w K mg base "BadText" "value" C4 f4 d4)
    (e5 : ErrOk P w K mg base "BadCommand" "command" C5 f5 d5)
    (e6 : ErrOk P w K mg base "UnknownId" "row_id" C6 f6 d6)
    (e7 : ErrOk P w K mg base "TakenId" "row_id" C7 f7 d7)
    (e8 : ErrOk P w K mg base "TooMany" "count" C8 f8 d8)
    (e9 : ErrOk P w K mg base "NothingToDo" "action" C9 f9 d9)
    (e10 : ErrOk P w K mg base "UnknownName" "name" C10 f10 d10)
    (e11 : ErrOk P w K mg base "NameTaken" "name" C11 f11 d11)
    (De : Fn K mg "_law_deck" sDeck ["script", "start"] fDe fdDe) (Va : Fn K mg "_law_values" sValues ["deck", "turn"] fV fdV) (GV : FnOk P w K mg base CX0 3 fV fdV ["deck", "turn"] (spValues K))
    (Ma : Fn K mg "_law_made" sMade ["one"] fM fdM) (GM : FnOk P w K mg base CX0 3 fM fdM ["one"] (spErrs K [(C0, "value"), (C1, "value"), (C2, "value"), (C3, "value"), (C4, "value"), (C5, "command"), (C6, "row_id"), (C7, "row_id"), (C8, "count"), (C9, "action"), (C10, "name"), (C11, "name")])) (Na : Fn K mg "_law_named" sNamed ["one"] fN fdN) (GN : FnOk P w K mg base CX0 3 fN fdN ["one"] (spErrs K [(C0, "value"), (C1, "value"), (C2, "value"), (C3, "value"), (C4, "value"), (C5, "command"), (C6, "row_id"), (C7, "row_id"), (C8, "count"), (C9, "action"), (C10, "name"), (C11, "name")]))
    (Ok : Fn K mg "_law_of_one_kind" sOneKind ["error", "at"] fO fdO) (GO : FnOk P w K mg base CX0 2 fO fdO ["error", "at"] (spOneKind K [C0, C1, C2, C3, C4, C5, C6, C7, C8, C9, C10, C11] Ch))
    (kk : ∀ (i j : Nat) (C D : Addr), ([C0, C1, C2, C3, C4, C5, C6, C7, C8, C9, C10, C11] : List Addr)[i]? = some C → ([C0, C1, C2, C3, C4, C5, C6, C7, C8, C9, C10, C11] : List Addr)[j]? = some D → PySem.W.kitOne K (.ref C) (.ref D) = some (decide (j = i)))
    (kh : ∀ C ∈ ([C0, C1, C2, C3, C4, C5, C6, C7, C8, C9, C10, C11] : List Addr), PySem.W.kitOne K (.ref C) (.ref Ch) = some true) (kv : ∀ C ∈ ([C0, C1, C2, C3, C4, C5, C6, C7, C8, C9, C10, C11] : List Addr), PySem.W.kitOne K (.ref C) (.type "ValueError") = some true) : FnG P w K mg base 4 f fd ["script"] (spLaw K) := by
  have GDe : FnOk P w K mg base CX0 1 fDe fdDe ["script", "start"] (spDeck K) := ok_deck De.F TD
  refine FnG.mk' F scLaw (fun vs H Q E h => ?_) (fun cdv A outer s H vs Q E hg hr h => ?_)
  · obtain ⟨a, ns, rfl, _⟩ := h
    rfl
  · obtain ⟨a, ns, rfl, hS, hlen, hbits, k⟩ := h
    have hr1 : Room 1 _ := hr.mono (by decide)
    have hr2 : Room 2 _ := hr.mono (by decide)
    have hr3 : Room 3 _ := hr.mono (by decide)
    have h64 := hu64 hr
    refine ⟨_, pss_cons (ps_for PassesOwn.never rfl (pi_range1 rfl TL.range (pa_cons (pe_callB (call_max2 rfl) (by rfl) TL.max (by decide +kernel) (pa_cons pe_int (pa_cons (pe_callB (call_min2 rfl) (by rfl) TL.min (by decide +kernel)
          (pa_cons pe_int (pa_cons (pe_callB call_len_seq (by rfl) TD.len PySem.boot_len (pa_cons (pv 0) pa_nil)) pa_nil))) pa_nil))) pa_nil)) (pg_name (i := 1) scLaw.nd rfl (Or.inl rfl))
        (pss_cons (ps_set (i := 2) scLaw.nd rfl (Or.inl rfl) (pe_call GDe hr1 rfl De.m De.F.kp De.b .nil pass0 (pa_cons (pv 0) (pa_cons (pv 1) pa_nil))))
        (pss_one (ps_for PassesOwn.never rfl (pi_range1 rfl TL.range (pa_cons pe_int pa_nil)) (pg_name (i := 3) scLaw.nd rfl (Or.inl rfl))
          (pss_cons (ps_par3 (i := 4) (j := 5) (l := 6) (by rfl) scLaw.nd rfl rfl rfl (by decide) (by decide) (by decide) rfl rfl rfl (pa_cons (pe_call GV hr3 rfl Va.m Va.F.kp Va.b .nil pass0 (pa_cons (pv 2) (pa_cons (pv 3) pa_nil))) (pa_cons (pe_call GV hr3 rfl Va.m Va.F.kp Va.b .nil pass0 (pa_cons (pv 2) (pa_cons (pv 3) pa_nil))) (pa_cons (pe_lst (pa_cons pe_int pa_nil)) pa_nil))) (by rfl))
          (pss_cons (ps_par (i := 7) (j := 8) (by rfl) scLaw.nd rfl rfl (by decide) rfl rfl (pa_cons (pe_call GM hr3 rfl Ma.m Ma.F.kp Ma.b .nil pass0 (pa_cons (pv 4) pa_nil)) (pa_cons (pe_call GN hr3 rfl Na.m Na.F.kp Na.b .nil pass0 (pa_cons (pv 5) pa_nil)) pa_nil)) (by rfl))
          (pss_cons (ps_set (i := 9) scLaw.nd rfl (Or.inl rfl) (pe_lst (pa_cons (pe_exF (pe_oexV e1.T e1.iC e1.tI e1.F1 hr2 e1.hb rfl e1.gm (pa_cons (pv 6) pa_nil))) (pa_cons (pe_exF (pe_oexV e3.T e3.iC e3.tI e3.F1 hr2 e3.hb rfl e3.gm (pa_cons (pv 6) pa_nil))) (pa_cons (pe_exF (pe_oexV e4.T e4.iC e4.tI e4.F1 hr2 e4.hb rfl e4.gm (pa_cons (pv 6) pa_nil))) (pa_cons (pe_exF (pe_oexV e5.T e5.iC e5.tI e5.F1 hr2 e5.hb rfl e5.gm (pa_cons (pv 6) pa_nil))) pa_nil))))))
          (pss_cons (ps_expr (pe_bm PySem.F.plainAttrs_list PySem.F.slot_list_append PySem.F.type_list_append mt_append (pv 6) (pa_cons (pv 3) pa_nil)))
          (pss_cons (ps_if (pt_cmpR op_ne (pe_callB (call_repr2 hg h64) (by rfl) TL.repr (by decide +kernel) (pa_cons (pv 9) pa_nil)) (pe_callB (call_repr2 hg h64) (by rfl) TL.repr (by decide +kernel) (pa_cons (pe_op op_rep (pe_lst (pa_cons (pe_lst (pa_cons pe_int (pa_cons (pv 3) pa_nil))) pa_nil)) pe_int) pa_nil)) (nomark _)) (pss_one (ps_ret pe_bl)) pss_nil)
          (pss_one (ps_for PassesOwn.never rfl (pi_list (pe_lst (pa_cons (pe_tup (pa_cons (pv 7) (pa_cons (pv 4) pa_nil))) (pa_cons (pe_tup (pa_cons (pv 8) (pa_cons (pv 5) pa_nil))) (pa_cons (pe_tup (pa_cons (pv 7) (pa_cons (pv 4) pa_nil))) pa_nil)))))
              (pg_tup rfl (pgs_cons (pg_name (i := 10) scLaw.nd rfl (Or.inl rfl)) (pgs_cons (pg_name (i := 11) scLaw.nd rfl (Or.inl rfl)) pgs_nil)))
            (pss_cons (ps_set (i := 12) scLaw.nd rfl (Or.inl rfl) (pe_lst (pa_cons (pe_exF (pe_ix ix_list (pv 10) pe_int (fun _ _ => rfl))) (pa_cons (pe_exF (pe_ix ix_list (pv 10) pe_int (fun _ _ => rfl))) (pa_cons (pe_exF (pe_ix ix_list (pv 10) pe_int (fun _ _ => rfl))) (pa_cons (pe_exF (pe_ix ix_list (pv 10) pe_int (fun _ _ => rfl))) (pa_cons (pe_exF (pe_ix ix_list (pv 10) pe_int (fun _ _ => rfl))) pa_nil)))))))
            (pss_cons (ps_set (i := 12) scLaw.nd rfl (Or.inl rfl) (pe_op op_cat (pv 12) (pe_lst (pa_cons (pe_exF (pe_ix ix_list (pv 10) pe_int (fun _ _ => rfl))) (pa_cons (pe_exF (pe_ix ix_list (pv 10) pe_int (fun _ _ => rfl))) (pa_cons (pe_exF (pe_ix ix_list (pv 10) pe_int (fun _ _ => rfl))) (pa_cons (pe_exF (pe_ix ix_list (pv 10) pe_int (fun _ _ => rfl))) pa_nil)))))))
            (pss_cons (ps_set (i := 12) scLaw.nd rfl (Or.inl rfl) (pe_op op_cat (pv 12) (pe_lst (pa_cons (pe_exF (pe_ix ix_list (pv 10) pe_int (fun _ _ => rfl))) (pa_cons (pe_exF (pe_ix ix_list (pv 10) pe_int (fun _ _ => rfl))) (pa_cons (pe_exF (pe_ix ix_list (pv 10) pe_int (fun _ _ => rfl))) pa_nil))))))
            (pss_cons (ps_if (pt_cmpR op_ne (pe_callB (call_repr2 hg h64) (by rfl) TL.repr (by decide +kernel) (pa_cons (pv 12) pa_nil)) (pe_callB (call_repr2 hg h64) (by rfl) TL.repr (by decide +kernel) (pa_cons (pv 11) pa_nil)) (nomark _)) (pss_one (ps_ret pe_bl)) pss_nil)
            (pss_one (ps_if (pt_cmpR op_in_seq pe_bl (pe_lc (own := [("at", 13), ("error", 14)]) (g := gTup K 2 (gCons (gName 13) (gCons (gName 14) gNil))) (tt := tYes) rfl scLaw.nd (pi_enum (by rfl) TL.enum (pa_cons (pv 10) pa_nil)) (blkOk_by (N := NL) (sc := defScope sLaw) (by decide +kernel))
                (fun _ _ _ _ _ => pg_tupK rfl rfl (pgs_cons (pg_name (i := 13) scLaw.nd rfl (Or.inl rfl)) (pgs_cons (pg_name (i := 14) scLaw.nd rfl (Or.inl rfl)) pgs_nil))) (fun _ _ _ _ _ => pts_nil)
                (fun _ _ _ _ _ => pe_call GO hr2 rfl Ok.m Ok.F.kp Ok.b .nil pass0 (pa_cons (pv 14) (pa_cons (pv 13) pa_nil)))) (by rfl)) (pss_one (ps_ret pe_bl)) pss_nil)))))))))))))))))
      (pss_one (ps_ret pe_bl)), ?_⟩
    have h16 := sizeLine_eq
    have kE : ∀ C ∈ ([C0, C1, C2, C3, C4, C5, C6, C7, C8, C9, C10, C11] : List Addr), ExcC K C := by
      intro C hC
      rcases List.mem_cons.mp hC with e | hC
      · rw [e]; exact e0.E
      rcases List.mem_cons.mp hC with e | hC
      · rw [e]; exact e1.E
      rcases List.mem_cons.mp hC with e | hC
      · rw [e]; exact e2.E
      rcases List.mem_cons.mp hC with e | hC
      · rw [e]; exact e3.E
      rcases List.mem_cons.mp hC with e | hC
      · rw [e]; exact e4.E
      rcases List.mem_cons.mp hC with e | hC
      · rw [e]; exact e5.E
      rcases List.mem_cons.mp hC with e | hC
      · rw [e]; exact e6.E
      rcases List.mem_cons.mp hC with e | hC
      · rw [e]; exact e7.E
      rcases List.mem_cons.mp hC with e | hC
      · rw [e]; exact e8.E
      rcases List.mem_cons.mp hC with e | hC
      · rw [e]; exact e9.E
      rcases List.mem_cons.mp hC with e | hC
      · rw [e]; exact e10.E
      rw [List.mem_singleton.mp hC]; exact e11.E
    obtain ⟨J, hJ, hJ0, hJ4⟩ : ∃ J : Int, J = (if (if (((ns.map V.int).length : Nat) : Int) < 4 then (((ns.map V.int).length : Nat) : Int) else 4) > 1 then (if (((ns.map V.int).length : Nat) : Int) < 4 then (((ns.map V.int).length : Nat) : Int) else 4) else 1) ∧ 0 ≤ J ∧ J ≤ 4 := by
      refine ⟨_, rfl, ?_, ?_⟩
      · split <;> split <;> omega
      · split <;> split <;> omega
    refine ⟨_, rfl, a, _, rfl, .inl hS, _, _, rfl, _, _, rfl, J, by rw [hJ], by omega, by omega, ?_⟩
    refine for_range (lo := 0) (n := J.toNat) (fun i σ H' => (∃ v1 v2 v3 v4 v5 v6 v7 v8 v9 v10 v11 v12 v13 v14 : Option V, σ = [some (.ref a), v1, v2, v3, v4, v5, v6, v7, v8, v9, v10, v11, v12, v13, v14]) ∧ Same H H')
      ⟨⟨none, none, none, none, none, none, none, none, none, none, none, none, none, none, rfl⟩, Same.refl H⟩ ?_ ?_
    · rintro st σ H0 hst ⟨⟨v1, v2, v3, v4, v5, v6, v7, v8, v9, v10, v11, v12, v13, v14, rfl⟩, s0⟩
      refine ⟨_, rfl, _, rfl, a, ns, _, rfl, Same.sq s0 hS, hlen, hbits, by omega, by omega, fun d Hd hd sd D => ?_⟩
      have hHd : H d = none := Same.free s0 hd
      have sd0 : Same H Hd := s0.trans sd
      refine ⟨4, rfl, by decide, by decide, ?_⟩
      refine for_range (lo := 0) (n := 4) (fun i σ H' => (∃ v3 v4 v5 v6 v7 v8 v9 v10 v11 v12 v13 v14 : Option V, σ = [some (.ref a), some (.int (0 + (st : Int))), some (.ref d), v3, v4, v5, v6, v7, v8, v9, v10, v11, v12, v13, v14]) ∧ Fs d Hd [] H')
        ⟨⟨_, _, _, _, _, _, _, _, _, _, _, _, rfl⟩, Fs.start D⟩ ?_ ?_
      · rintro tu σ H1 htu ⟨⟨v3, v4, v5, v6, v7, v8, v9, v10, v11, v12, v13, v14, rfl⟩, F1⟩
        have htu4 : tu < 4 := htu
        -- one, other, own
        refine ⟨_, rfl, _, rfl, d, _, rfl, F1.deck, by omega, by omega, fun l1 ws1 H2 B2 D2 hl1 hw1 g1 => ?_⟩
        have F2 := (F1.step D2 B2).add hl1 nl
        refine ⟨_, rfl, _, rfl, d, _, rfl, F2.deck, by omega, by omega, fun l2 ws2 H3 B3 D3 hl2 hw2 g2 => ?_⟩
        have F3 := (F2.step D3 B3).add hl2 nl
        have G1 : ∀ v ∈ ws1, GoodV K H3 v := fun v hv => ((g1 v hv).same er_le).but F2.deck B3
        have G2 : ∀ v ∈ ws2, GoodV K H3 v := fun v hv => (g2 v hv).same er_le
        refine ⟨by show 1 ≤ sizeLine; omega, fun ow how => ⟨_, _, _, rfl, ?_⟩⟩
        have s4 := Same.new (o := .lst [.int 1]) how
        have o4 : (upd H3 ow (.lst [.int 1])) ow = some (.lst [.int 1]) := upd_same
        have FZ : Fs d Hd [] H3 := ⟨F3.1, F3.2.1, fun q hq => by cases hq⟩
        have hA := F3.g1
        have hB := F3.g0
        generalize (upd H3 ow (.lst [.int 1]) : Hp) = H4 at s4 o4 ⊢
        clear F3 F2 F1 D2 D3 B2 B3 g1 g2 hl1 hl2
        -- some, more
        refine ⟨_, rfl, l1, ws1, rfl, SqL.of (s4 _ _ hA), hw1, fun qs H5 as1 s5 n5 hqs E1 => ?_⟩
        have S5 := s4.trans s5
        refine ⟨_, rfl, l2, ws2, rfl, SqL.of (S5 _ _ hB), hw2, fun qm H6 as2 s6 n6 hqm E2 => ⟨_, _, rfl, ?_⟩⟩
        have S6 := S5.trans s6
        have nqs : qs ≠ ow := (ne_of_none o4 n5).symm
        have nqm : qm ≠ ow := (ne_of_none (s5 _ _ o4) n6).symm
        have E1 := E1.same s6
        have hqs := s6 _ _ hqs
        have o6 := s6 _ _ (s5 _ _ o4)
        clear s4 s5 s6 n5 n6 S5
        -- kept
        refine ⟨_, rfl, rfl, fun k0 m0 => ⟨k0, C1, .ref ow, rfl, e1.T, e1.no, upd_same, fun dx hdx ne => ⟨rfl, ?_⟩⟩⟩
        obtain ⟨z0, x0⟩ := mk_facts (C := C1) (f := "value") (v := .ref ow) m0 hdx ne
        generalize (upd (upd (upd H6 k0 (exo k0 C1 none)) dx (exd dx [("value", .ref ow)])) k0 (exo k0 C1 (some dx)) : Hp) = H7 at z0 x0 ⊢
        clear hdx ne dx
        refine ⟨k0, C1, .ref ow, rfl, e1.X, e1.no, x0, ?_⟩
        refine ⟨_, rfl, rfl, fun k1 m1 => ⟨k1, C3, .ref ow, rfl, e3.T, e3.no, upd_same, fun dx hdx ne => ⟨rfl, ?_⟩⟩⟩
        obtain ⟨z1, x1⟩ := mk_facts (C := C3) (f := "value") (v := .ref ow) m1 hdx ne
        generalize (upd (upd (upd H7 k1 (exo k1 C3 none)) dx (exd dx [("value", .ref ow)])) k1 (exo k1 C3 (some dx)) : Hp) = H8 at z1 x1 ⊢
        clear hdx ne dx
        refine ⟨k1, C3, .ref ow, rfl, e3.X, e3.no, x1, ?_⟩
        refine ⟨_, rfl, rfl, fun k2 m2 => ⟨k2, C4, .ref ow, rfl, e4.T, e4.no, upd_same, fun dx hdx ne => ⟨rfl, ?_⟩⟩⟩
        obtain ⟨z2, x2⟩ := mk_facts (C := C4) (f := "value") (v := .ref ow) m2 hdx ne
        generalize (upd (upd (upd H8 k2 (exo k2 C4 none)) dx (exd dx [("value", .ref ow)])) k2 (exo k2 C4 (some dx)) : Hp) = H9 at z2 x2 ⊢
        clear hdx ne dx
        refine ⟨k2, C4, .ref ow, rfl, e4.X, e4.no, x2, ?_⟩
        refine ⟨_, rfl, rfl, fun k3 m3 => ⟨k3, C5, .ref ow, rfl, e5.T, e5.no, upd_same, fun dx hdx ne => ⟨rfl, ?_⟩⟩⟩
        obtain ⟨z3, x3⟩ := mk_facts (C := C5) (f := "command") (v := .ref ow) m3 hdx ne
        generalize (upd (upd (upd H9 k3 (exo k3 C5 none)) dx (exd dx [("command", .ref ow)])) k3 (exo k3 C5 (some dx)) : Hp) = H10 at z3 x3 ⊢
        clear hdx ne dx
        refine ⟨k3, C5, .ref ow, rfl, e5.X, e5.no, x3, ?_⟩
        refine ⟨by show 4 ≤ sizeLine; omega, fun kp hkp => ?_⟩
        have zz := z0.trans (z1.trans (z2.trans (z3.trans (Same.new (o := .lst [.ref ow, .ref ow, .ref ow, .ref ow]) hkp))))
        have nkp : kp ≠ ow := (ne_of_none ((z0.trans (z1.trans (z2.trans z3))) _ _ o6) hkp).symm
        have hkq : (upd H10 kp (.lst [.ref ow, .ref ow, .ref ow, .ref ow])) kp = some (.lst [.ref ow, .ref ow, .ref ow, .ref ow]) := upd_same
        generalize (upd H10 kp (.lst [.ref ow, .ref ow, .ref ow, .ref ow]) : Hp) = H11 at zz hkq ⊢
        have o11 := zz _ _ o6
        have E1 := E1.same zz
        have E2 := E2.same zz
        have hqs := zz _ _ hqs
        have hqm := zz _ _ hqm
        have S11 := S6.trans zz
        clear z0 z1 z2 z3 x0 x1 x2 x3 hkp zz S6 m0 m1 m2 m3 o6
        -- own.append(turn)
        refine ⟨_, rfl, .inl ⟨rfl, _, SqL.of o11⟩, _, rfl, ow, _, _, rfl, rfl, o11, by show 1 < sizeLine; omega, ?_⟩
        have E1 := E1.put (o := .lst ([.int 1] ++ [.int (0 + (tu : Int))])) o11
        have E2 := E2.put (o := .lst ([.int 1] ++ [.int (0 + (tu : Int))])) o11
        have hqs : (upd H11 ow (.lst ([.int 1] ++ [.int (0 + (tu : Int))]))) qs = some (.lst as1) := by rw [upd_ne nqs]; exact hqs
        have hqm : (upd H11 ow (.lst ([.int 1] ++ [.int (0 + (tu : Int))]))) qm = some (.lst as2) := by rw [upd_ne nqm]; exact hqm
        have hkq : (upd H11 ow (.lst ([.int 1] ++ [.int (0 + (tu : Int))]))) kp = some (.lst [.ref ow, .ref ow, .ref ow, .ref ow]) := by rw [upd_ne nkp]; exact hkq
        have o12 : (upd H11 ow (.lst ([.int 1] ++ [.int (0 + (tu : Int))]))) ow = some (.lst [.int 1, .int (0 + (tu : Int))]) := upd_same
        have S12 : Same H3 (upd H11 ow (.lst ([.int 1] ++ [.int (0 + (tu : Int))]))) := fun b u e => by rw [upd_ne (ne_of_none e how)]; exact S11 _ _ e
        generalize (upd H11 ow (.lst ([.int 1] ++ [.int (0 + (tu : Int))])) : Hp) = H12 at E1 E2 hqs hqm hkq o12 S12 ⊢
        clear S11 o11 o4
        -- kept is as it must be
        have dL : ∀ {H : Hp} {q : Addr}, H q = some (.lst [.int 1, .int (0 + (tu : Int))]) → DV K H (.ref q) (.list [.int 1, .int (0 + (tu : Int))]) := fun h => .lst (SqL.of h) (.cons (.int _) (.cons (.int _) .nil))
        have kO : okD (.list [.list [.int 1, .int (0 + (tu : Int))], .list [.int 1, .int (0 + (tu : Int))], .list [.int 1, .int (0 + (tu : Int))], .list [.int 1, .int (0 + (tu : Int))]]) = true := by
          have i1 : decide ((1 : Int).natAbs < 2 ^ 300) = true := decide_eq_true (small_abs (by decide) (by decide))
          have i2 : decide ((0 + (tu : Int)).natAbs < 2 ^ 300) = true := decide_eq_true (small_abs (by omega) (by omega))
          simp only [okD, okAll, i1, i2, Bool.and_self]
        have kD : (PyData.list [.list [.int 1, .int (0 + (tu : Int))], .list [.int 1, .int (0 + (tu : Int))], .list [.int 1, .int (0 + (tu : Int))], .list [.int 1, .int (0 + (tu : Int))]]).depth ≤ 40 := by
          simp only [PyData.depth, PyData.depthAll]; decide
        have kZ : szD (.list [.list [.int 1, .int (0 + (tu : Int))], .list [.int 1, .int (0 + (tu : Int))], .list [.int 1, .int (0 + (tu : Int))], .list [.int 1, .int (0 + (tu : Int))]]) ≤ 1000000 := by
          simp only [szD, szAll]; decide
        refine ⟨_, rfl, .ref kp, _, rfl, .lst (SqL.of hkq) (.cons (dL o12) (.cons (dL o12) (.cons (dL o12) (.cons (dL o12) .nil)))), kO, kD, kZ, _, rfl, by show 2 ≤ sizeLine; omega, fun y1 hy1 => ⟨by show 1 ≤ sizeLine; omega, fun y2 hy2 => ?_⟩⟩
        have w1 := Same.new (o := .lst [.int 1, .int (0 + (tu : Int))]) hy1
        have w2 := Same.new (o := .lst [.ref y1]) hy2
        refine ⟨y2, 4, [.ref y1], rfl, rfl, upd_same, by decide, by decide, by show 1 * 4 ≤ sizeLine; omega, fun y3 hy3 => ?_⟩
        have w3 := Same.new (o := .lst (List.replicate (4 : Int).toNat [V.ref y1]).flatten) hy3
        have c1 := (w2.trans w3) _ _ (upd_same (H := H12) (a := y1) (o := .lst [.int 1, .int (0 + (tu : Int))]))
        have w := w1.trans (w2.trans w3)
        refine ⟨.ref y3, _, rfl, .lst (SqL.of (show _ = some (HO.lst [.ref y1, .ref y1, .ref y1, .ref y1]) from upd_same)) (.cons (dL c1) (.cons (dL c1) (.cons (dL c1) (.cons (dL c1) .nil)))), kO, kD, kZ, rfl, _, rfl, iteNS rfl ?_⟩
        have S13 := S12.trans w
        have E1 := E1.same w
        have E2 := E2.same w
        have hqs := w _ _ hqs
        have hqm := w _ _ hqm
        generalize (upd (upd (upd H12 y1 (.lst [.int 1, .int (0 + (tu : Int))])) y2 (.lst [.ref y1])) y3 (.lst (List.replicate (4 : Int).toNat [V.ref y1]).flatten) : Hp) = H13 at S13 E1 E2 hqs hqm ⊢
        clear w w1 w2 w3 c1 hy1 hy2 hy3 S12 o12 hkq
        have hA := S13 _ _ hA
        have hB := S13 _ _ hB
        have G1 : ∀ v ∈ ws1, GoodV K H13 v := fun v hv => (G1 v hv).same S13
        have G2 : ∀ v ∈ ws2, GoodV K H13 v := fun v hv => (G2 v hv).same S13
        -- the three pairs
        refine ⟨_, rfl, _, rfl, by show 2 ≤ sizeLine; omega, fun T1 hT1 => ⟨_, rfl, _, rfl, by show 2 ≤ sizeLine; omega, fun T2 hT2 => ⟨_, rfl, _, rfl, by show 2 ≤ sizeLine; omega, fun T3 hT3 => ⟨by show 3 ≤ sizeLine; omega, fun Lq hLq => ?_⟩⟩⟩⟩
        have w1 := Same.new (o := .tup [.ref qs, .ref l1]) hT1
        have w2 := Same.new (o := .tup [.ref qm, .ref l2]) hT2
        have w3 := Same.new (o := .tup [.ref qs, .ref l1]) hT3
        have w4 := Same.new (o := .lst [.ref T1, .ref T2, .ref T3]) hLq
        have c1 := (w2.trans (w3.trans w4)) _ _ (upd_same (H := H13) (a := T1) (o := .tup [.ref qs, .ref l1]))
        have c2 := (w3.trans w4) _ _ (upd_same (a := T2) (o := .tup [.ref qm, .ref l2]))
        have c3 := w4 _ _ (upd_same (a := T3) (o := .tup [.ref qs, .ref l1]))
        have w := w1.trans (w2.trans (w3.trans w4))
        have cL : (upd (upd (upd (upd H13 T1 (.tup [.ref qs, .ref l1])) T2 (.tup [.ref qm, .ref l2])) T3 (.tup [.ref qs, .ref l1])) Lq (.lst [.ref T1, .ref T2, .ref T3])) Lq = some (.lst [.ref T1, .ref T2, .ref T3]) := upd_same
        generalize (upd (upd (upd (upd H13 T1 (.tup [.ref qs, .ref l1])) T2 (.tup [.ref qm, .ref l2])) T3 (.tup [.ref qs, .ref l1])) Lq (.lst [.ref T1, .ref T2, .ref T3]) : Hp) = H14 at w c1 c2 c3 cL ⊢
        clear w1 w2 w3 w4 hT1 hT2 hT3 hLq
        have pairAt : ∀ (i : Nat) (x : V), ([.ref T1, .ref T2, .ref T3] : List V)[i]? = some x → ∃ (T qe du : Addr) (as ws : List V), x = .ref T ∧ H14 T = some (.tup [.ref qe, .ref du]) ∧ H14 qe = some (.lst as) ∧ Errs H14 as ([(C0, "value"), (C1, "value"), (C2, "value"), (C3, "value"), (C4, "value"), (C5, "command"), (C6, "row_id"), (C7, "row_id"), (C8, "count"), (C9, "action"), (C10, "name"), (C11, "name")] : List (Addr × Str)) ws ∧ H14 du = some (.lst ws) ∧ ws.length = 12 ∧ ∀ v ∈ ws, GoodV K H14 v := fun i x h => by
          match i, h with
          | 0, h => exact ⟨T1, qs, l1, as1, ws1, (Option.some.inj h).symm, c1, w _ _ hqs, E1.same w, w _ _ hA, hw1, fun v hv => (G1 v hv).same w⟩
          | 1, h => exact ⟨T2, qm, l2, as2, ws2, (Option.some.inj h).symm, c2, w _ _ hqm, E2.same w, w _ _ hB, hw2, fun v hv => (G2 v hv).same w⟩
          | 2, h => exact ⟨T3, qs, l1, as1, ws1, (Option.some.inj h).symm, c3, w _ _ hqs, E1.same w, w _ _ hA, hw1, fun v hv => (G1 v hv).same w⟩
          | i + 3, h => simp at h
        refine ⟨Lq, rfl, ⟨_, SqL.of cL⟩, ?_⟩
        refine for_list (K := K) (a := Lq) (xs := [.ref T1, .ref T2, .ref T3]) (fun i σ H' => (∃ v10 v11 v12 v13 v14 : Option V, σ = [some (.ref a), some (.int (0 + (st : Int))), some (.ref d), some (.int (0 + (tu : Int))), some (.ref l1), some (.ref l2), some (.ref ow), some (.ref qs), some (.ref qm), some (.ref kp), v10, v11, v12, v13, v14]) ∧ Same H14 H')
          ⟨⟨_, _, _, _, _, rfl⟩, Same.refl _⟩ (fun i σ H' _ q => SqL.of (q.2 _ _ cL)) ?_ ?_
        · rintro i x σ H' hx ⟨⟨v10, v11, v12, v13, v14, rfl⟩, s15⟩
          obtain ⟨T, qe, du, as, ws, rfl, hT, hqe, EE, hdu, hwl, GG⟩ := pairAt i x hx
          have hT := s15 _ _ hT
          have hqe := s15 _ _ hqe
          have hdu := s15 _ _ hdu
          have EE := EE.same s15
          have GG : ∀ v ∈ ws, GoodV K H' v := fun v hv => (GG v hv).same s15
          refine ⟨T, _, rfl, SqT.of hT, rfl, _, _, rfl, _, _, rfl, rfl, ?_⟩
          have EE0 := EE
          obtain ⟨a0, w0, as, ws, rfl, rfl, x0, EE⟩ := EE.inv
          obtain ⟨a1, w1, as, ws, rfl, rfl, x1, EE⟩ := EE.inv
          obtain ⟨a2, w2, as, ws, rfl, rfl, x2, EE⟩ := EE.inv
          obtain ⟨a3, w3, as, ws, rfl, rfl, x3, EE⟩ := EE.inv
          obtain ⟨a4, w4, as, ws, rfl, rfl, x4, EE⟩ := EE.inv
          obtain ⟨a5, w5, as, ws, rfl, rfl, x5, EE⟩ := EE.inv
          obtain ⟨a6, w6, as, ws, rfl, rfl, x6, EE⟩ := EE.inv
          obtain ⟨a7, w7, as, ws, rfl, rfl, x7, EE⟩ := EE.inv
          obtain ⟨a8, w8, as, ws, rfl, rfl, x8, EE⟩ := EE.inv
          obtain ⟨a9, w9, as, ws, rfl, rfl, x9, EE⟩ := EE.inv
          obtain ⟨a10, w10, as, ws, rfl, rfl, x10, EE⟩ := EE.inv
          obtain ⟨a11, w11, as, ws, rfl, rfl, x11, EE⟩ := EE.inv
          obtain ⟨rfl, rfl⟩ := EE.inv0
          obtain ⟨ds, dv, dok, ddp, dsz⟩ := goods GG
          have dsz : szAll ds ≤ 48024 := by have : szAll ds ≤ 12 * 4002 := dsz; omega
          have lO : okD (.list ds) = true := by rw [okD]; exact dok
          have lD : (PyData.list ds).depth ≤ 40 := by rw [PyData.depth]; omega
          have lZ : szD (.list ds) ≤ 1000000 := by rw [szD]; omega
          have R0 := Same.refl H'
          refine ⟨_, rfl, qe, [.ref a0, .ref a1, .ref a2, .ref a3, .ref a4, .ref a5, .ref a6, .ref a7, .ref a8, .ref a9, .ref a10, .ref a11], 0, _, rfl, rfl, SqL.of (R0 _ _ hqe), rfl, a0, C0, w0, rfl, e0.X, e0.no, x0.same R0, _, rfl, qe, [.ref a0, .ref a1, .ref a2, .ref a3, .ref a4, .ref a5, .ref a6, .ref a7, .ref a8, .ref a9, .ref a10, .ref a11], 1, _, rfl, rfl, SqL.of (R0 _ _ hqe), rfl, a1, C1, w1, rfl, e1.X, e1.no, x1.same R0, _, rfl, qe, [.ref a0, .ref a1, .ref a2, .ref a3, .ref a4, .ref a5, .ref a6, .ref a7, .ref a8, .ref a9, .ref a10, .ref a11], 2, _, rfl, rfl, SqL.of (R0 _ _ hqe), rfl, a2, C2, w2, rfl, e2.X, e2.no, x2.same R0, _, rfl, qe, [.ref a0, .ref a1, .ref a2, .ref a3, .ref a4, .ref a5, .ref a6, .ref a7, .ref a8, .ref a9, .ref a10, .ref a11], 3, _, rfl, rfl, SqL.of (R0 _ _ hqe), rfl, a3, C3, w3, rfl, e3.X, e3.no, x3.same R0, _, rfl, qe, [.ref a0, .ref a1, .ref a2, .ref a3, .ref a4, .ref a5, .ref a6, .ref a7, .ref a8, .ref a9, .ref a10, .ref a11], 4, _, rfl, rfl, SqL.of (R0 _ _ hqe), rfl, a4, C4, w4, rfl, e4.X, e4.no, x4.same R0, by show 5 ≤ sizeLine; omega, fun q0 hq0 => ?_⟩
          have R1 := Same.new (o := .lst [w0, w1, w2, w3, w4]) hq0
          have Q0 : (upd H' q0 (.lst [w0, w1, w2, w3, w4])) q0 = some (.lst [w0, w1, w2, w3, w4]) := upd_same
          generalize (upd H' q0 (.lst [w0, w1, w2, w3, w4]) : Hp) = J1 at R1 Q0 ⊢
          refine ⟨_, rfl, _, rfl, qe, [.ref a0, .ref a1, .ref a2, .ref a3, .ref a4, .ref a5, .ref a6, .ref a7, .ref a8, .ref a9, .ref a10, .ref a11], 5, _, rfl, rfl, SqL.of (R1 _ _ hqe), rfl, a5, C5, w5, rfl, e5.X, e5.no, x5.same R1, _, rfl, qe, [.ref a0, .ref a1, .ref a2, .ref a3, .ref a4, .ref a5, .ref a6, .ref a7, .ref a8, .ref a9, .ref a10, .ref a11], 6, _, rfl, rfl, SqL.of (R1 _ _ hqe), rfl, a6, C6, w6, rfl, e6.X, e6.no, x6.same R1, _, rfl, qe, [.ref a0, .ref a1, .ref a2, .ref a3, .ref a4, .ref a5, .ref a6, .ref a7, .ref a8, .ref a9, .ref a10, .ref a11], 7, _, rfl, rfl, SqL.of (R1 _ _ hqe), rfl, a7, C7, w7, rfl, e7.X, e7.no, x7.same R1, _, rfl, qe, [.ref a0, .ref a1, .ref a2, .ref a3, .ref a4, .ref a5, .ref a6, .ref a7, .ref a8, .ref a9, .ref a10, .ref a11], 8, _, rfl, rfl, SqL.of (R1 _ _ hqe), rfl, a8, C8, w8, rfl, e8.X, e8.no, x8.same R1, by show 4 ≤ sizeLine; omega, fun l1x hl1x => ?_⟩
          have t1 := Same.new (o := .lst [w5, w6, w7, w8]) hl1x
          refine ⟨q0, l1x, [w0, w1, w2, w3, w4], [w5, w6, w7, w8], rfl, rfl, t1 _ _ Q0, upd_same, by show 9 ≤ sizeLine; omega, fun q1 hq1 => ?_⟩
          have R2 := (R1.trans t1).trans (Same.new (o := .lst ([w0, w1, w2, w3, w4] ++ [w5, w6, w7, w8])) hq1)
          have Q1 : (upd (upd J1 l1x (.lst [w5, w6, w7, w8])) q1 (.lst ([w0, w1, w2, w3, w4] ++ [w5, w6, w7, w8]))) q1 = some (.lst [w0, w1, w2, w3, w4, w5, w6, w7, w8]) := upd_same
          generalize (upd (upd J1 l1x (.lst [w5, w6, w7, w8])) q1 (.lst ([w0, w1, w2, w3, w4] ++ [w5, w6, w7, w8])) : Hp) = J2 at R2 Q1 ⊢
          refine ⟨_, rfl, _, rfl, qe, [.ref a0, .ref a1, .ref a2, .ref a3, .ref a4, .ref a5, .ref a6, .ref a7, .ref a8, .ref a9, .ref a10, .ref a11], 9, _, rfl, rfl, SqL.of (R2 _ _ hqe), rfl, a9, C9, w9, rfl, e9.X, e9.no, x9.same R2, _, rfl, qe, [.ref a0, .ref a1, .ref a2, .ref a3, .ref a4, .ref a5, .ref a6, .ref a7, .ref a8, .ref a9, .ref a10, .ref a11], 10, _, rfl, rfl, SqL.of (R2 _ _ hqe), rfl, a10, C10, w10, rfl, e10.X, e10.no, x10.same R2, _, rfl, qe, [.ref a0, .ref a1, .ref a2, .ref a3, .ref a4, .ref a5, .ref a6, .ref a7, .ref a8, .ref a9, .ref a10, .ref a11], 11, _, rfl, rfl, SqL.of (R2 _ _ hqe), rfl, a11, C11, w11, rfl, e11.X, e11.no, x11.same R2, by show 3 ≤ sizeLine; omega, fun l2x hl2x => ?_⟩
          have t2 := Same.new (o := .lst [w9, w10, w11]) hl2x
          refine ⟨q1, l2x, [w0, w1, w2, w3, w4, w5, w6, w7, w8], [w9, w10, w11], rfl, rfl, t2 _ _ Q1, upd_same, by show 12 ≤ sizeLine; omega, fun q2 hq2 => ?_⟩
          have R3 := (R2.trans t2).trans (Same.new (o := .lst ([w0, w1, w2, w3, w4, w5, w6, w7, w8] ++ [w9, w10, w11])) hq2)
          have Q2 : (upd (upd J2 l2x (.lst [w9, w10, w11])) q2 (.lst ([w0, w1, w2, w3, w4, w5, w6, w7, w8] ++ [w9, w10, w11]))) q2 = some (.lst [w0, w1, w2, w3, w4, w5, w6, w7, w8, w9, w10, w11]) := upd_same
          generalize (upd (upd J2 l2x (.lst [w9, w10, w11])) q2 (.lst ([w0, w1, w2, w3, w4, w5, w6, w7, w8] ++ [w9, w10, w11])) : Hp) = J3 at R3 Q2 ⊢
          have dv3 := dv.same R3
          refine ⟨_, rfl, .ref q2, _, rfl, .lst (SqL.of Q2) dv3, lO, lD, lZ, _, rfl, .ref du, _, rfl, .lst (SqL.of (R3 _ _ hdu)) dv3, lO, lD, lZ, rfl, _, rfl, iteNS rfl ?_⟩
          refine ⟨_, rfl, qe, _, rfl, SqL.of (R3 _ _ hqe), fun D0 hD0 => ?_⟩
          refine lc_it (walk_enum (K := K) (a := qe) (xs := [.ref a0, .ref a1, .ref a2, .ref a3, .ref a4, .ref a5, .ref a6, .ref a7, .ref a8, .ref a9, .ref a10, .ref a11])) (fun j H2 => Same J3 H2 ∧ H2 D0 = some (.lst (List.replicate j (V.bl true)))) ⟨Same.new hD0, upd_same⟩ (fun j H2 _ q => SqL.of (q.1 _ _ (R3 _ _ hqe))) ?_ ?_
          · rintro j x Hj Hj' hj ⟨sj, hL⟩ ⟨T', x', y', rfl, hT', rfl, ex, ey⟩
            have ex : V.int (j : Int) = x' := Option.some.inj ex
            subst ex
            obtain ⟨aa, C, f, v, rfl, hC, xa⟩ := EE0.at ey
            have hC : ([C0, C1, C2, C3, C4, C5, C6, C7, C8, C9, C10, C11] : List Addr)[j]? = some C := hC
            have hj12 : j < 12 := hj
            have hm := List.mem_of_getElem? hC
            have sT := Same.new (o := .tup [.int (j : Int), .ref aa]) hT'
            refine ⟨T', _, rfl, SqT.of upd_same, rfl, _, _, rfl, _, _, rfl, rfl, ?_⟩
            refine ⟨rfl, _, rfl, _, rfl, aa, C, j, rfl, ⟨kE C hm, ⟨f, v, xa.same (R3.trans (sj.trans sT))⟩, fun i D hD => kk j i C D hC hD⟩, hj12, kh C hm, kv C hm, fun H3 s3 => ?_⟩
            refine ⟨_, (sT.trans s3) _ _ hL, by rw [List.length_replicate]; omega, fun b u e => ?_, ?_⟩
            · rw [upd_ne (ne_of_none e hD0)]; exact s3 _ _ (sT _ _ (sj _ _ e))
            · rw [upd_same, List.replicate_succ']
          rintro H2 ⟨s2, hL⟩
          refine ⟨D0, _, rfl, .inl (SqL.of hL), rfl, rfl, _, rfl, iteF ?_⟩
          exact ⟨⟨_, _, _, _, _, rfl⟩, s15.trans (R3.trans s2)⟩
        · rintro σ H' ⟨⟨v10, v11, v12, v13, v14, rfl⟩, s15⟩
          exact ⟨⟨_, _, _, _, _, _, _, _, _, _, _, _, rfl⟩, FZ.same (S13.trans (w.trans s15))⟩
      · rintro σ H1 ⟨⟨v3, v4, v5, v6, v7, v8, v9, v10, v11, v12, v13, v14, rfl⟩, F1⟩
        exact ⟨⟨_, _, _, _, _, _, _, _, _, _, _, _, _, _, rfl⟩, F1.old hHd sd0⟩
    · rintro σ H1 ⟨⟨v1, v2, v3, v4, v5, v6, v7, v8, v9, v10, v11, v12, v13, v14, rfl⟩, s1⟩
      exact k H1
end
theorem kit_all {K : PySem.W.Frag} {CC0 CC1 CC2 CC3 CC4 CC5 CC6 CC7 CC8 CC9 CC10 CC11 : Addr} (q0_0 : PySem.W.kitOne K (.ref CC0) (.ref CC0) = some true) (q0_1 : PySem.W.kitOne K (.ref CC0) (.ref CC1) = some false) (q0_2 : PySem.W.kitOne K (.ref CC0) (.ref CC2) = some false) (q0_3 : PySem.W.kitOne K (.ref CC0) (.ref CC3) = some false) (q0_4 : PySem.W.kitOne K (.ref CC0) (.ref CC4) = some false) (q0_5 : PySem.W.kitOne K (.ref CC0) (.ref CC5) = some false) (q0_6 : PySem.W.kitOne K (.ref CC0) (.ref CC6) = some false) (q0_7 : PySem.W.kitOne K (.ref CC0) (.ref CC7) = some false) (q0_8 : PySem.W.kitOne K (.ref CC0) (.ref CC8) = some false) (q0_9 : PySem.W.kitOne K (.ref CC0) (.ref CC9) = some false) (q0_10 : PySem.W.kitOne K (.ref CC0) (.ref CC10) = some false) (q0_11 : PySem.W.kitOne K (.ref CC0) (.ref CC11) = some false) (q1_0 : PySem.W.kitOne K (.ref CC1) (.ref CC0) = some false) (q1_1 : PySem.W.kitOne K (.ref CC1) (.ref CC1) = some true) (q1_2 : PySem.W.kitOne K (.ref CC1) (.ref CC2) = some false) (q1_3 : PySem.W.kitOne K (.ref CC1) (.ref CC3) = some false) (q1_4 : PySem.W.kitOne K (.ref CC1) (.ref CC4) = some false) (q1_5 : PySem.W.kitOne K (.ref CC1) (.ref CC5) = some false) (q1_6 : PySem.W.kitOne K (.ref CC1) (.ref CC6) = some false) (q1_7 : PySem.W.kitOne K (.ref CC1) (.ref CC7) = some false) (q1_8 : PySem.W.kitOne K (.ref CC1) (.ref CC8) = some false) (q1_9 : PySem.W.kitOne K (.ref CC1) (.ref CC9) = some false) (q1_10 : PySem.W.kitOne K (.ref CC1) (.ref CC10) = some false) (q1_11 : PySem.W.kitOne K (.ref CC1) (.ref CC11) = some false) (q2_0 : PySem.W.kitOne K (.ref CC2) (.ref CC0) = some false) (q2_1 : PySem.W.kitOne K (.ref CC2) (.ref CC1) = some false) (q2_2 : PySem.W.kitOne K (.ref CC2) (.ref CC2) = some true) (q2_3 : PySem.W.kitOne K (.ref CC2) (.ref CC3) = some false) (q2_4 : PySem.W.kitOne K (.ref CC2) (.ref CC4) = some false) (q2_5 : PySem.W.kitOne K (.ref CC2) (.ref CC5) = some false) (q2_6 : PySem.W.kitOne K (.ref CC2) (.ref CC6) = some false) (q2_7 : PySem.W.kitOne K (.ref CC2) (.ref CC7) = some false) (q2_8 : PySem.W.kitOne K (.ref CC2) (.ref CC8) = some false) (q2_9 : PySem.W.kitOne K (.ref CC2) (.ref CC9) = some false) (q2_10 : PySem.W.kitOne K (.ref CC2) (.ref CC10) = some false) (q2_11 : PySem.W.kitOne K (.ref CC2) (.ref CC11) = some false) (q3_0 : PySem.W.kitOne K (.ref CC3) (.ref CC0) = some false) (q3_1 : PySem.W.kitOne K (.ref CC3) (.ref CC1) = some false) (q3_2 : PySem.W.kitOne K (.ref CC3) (.ref CC2) = some false) (q3_3 : PySem.W.kitOne K (.ref CC3) (.ref CC3) = some true) (q3_4 : PySem.W.kitOne K (.ref CC3) (.ref CC4) = some false) (q3_5 : PySem.W.kitOne K (.ref CC3) (.ref CC5) = some false) (q3_6 : PySem.W.kitOne K (.ref CC3) (.ref CC6) = some false) (q3_7 : PySem.W.kitOne K (.ref CC3) (.ref CC7) = some false) (q3_8 : PySem.W.kitOne K (.ref CC3) (.ref CC8) = some false) (q3_9 : PySem.W.kitOne K (.ref CC3) (.ref CC9) = some false) (q3_10 : PySem.W.kitOne K (.ref CC3) (.ref CC10) = some false) (q3_11 : PySem.W.kitOne K (.ref CC3) (.ref CC11) = some false) (q4_0 : PySem.W.kitOne K (.ref CC4) (.ref CC0) = some false) (q4_1 : PySem.W.kitOne K (.ref CC4) (.ref CC1) = some false) (q4_2 : PySem.W.kitOne K (.ref CC4) (.ref CC2) = some false) (q4_3 : PySem.W.kitOne K (.ref CC4) (.ref CC3) = some false) (q4_4 : PySem.W.kitOne K (.ref CC4) (.ref CC4) = some true) (q4_5 : PySem.W.kitOne K (.ref CC4) (.ref CC5) = some false) (q4_6 : PySem.W.kitOne K (.ref CC4) (.ref CC6) = some false) (q4_7 : PySem.W.kitOne K (.ref CC4) (.ref CC7) = some false) (q4_8 : PySem.W.kitOne K (.ref CC4) (.ref CC8) = some false) (q4_9 : PySem.W.kitOne K (.ref CC4) (.ref CC9) = some false) (q4_10 : PySem.W.kitOne K (.ref CC4) (.ref CC10) = some false) (q4_11 : PySem.W.kitOne K (.ref CC4) (.ref CC11) = some false) (q5_0 : PySem.W.kitOne K (.ref CC5) (.ref CC0) = some false) (q5_1 : PySem.W.kitOne K (.ref CC5) (.ref CC1) = some false) (q5_2 : PySem.W.kitOne K (.ref CC5) (.ref CC2) = some false) (q5_3 : PySem.W.kitOne K (.ref CC5) (.ref CC3) = some false) (q5_4 : PySem.W.kitOne K (.ref CC5) (.ref CC4) = some false) (q5_5 : PySem.W.kitOne K (.ref CC5) (.ref CC5) = some true) (q5_6 : PySem.W.kitOne K (.ref CC5) (.ref CC6) = some false) (q5_7 : PySem.W.kitOne K (.ref CC5) (.ref CC7) = some false) (q5_8 : PySem.W.kitOne K (.ref CC5) (.ref CC8) = some false) (q5_9 : PySem.W.kitOne K (.ref CC5) (.ref CC9) = some false) (q5_10 : PySem.W.kitOne K (.ref CC5) (.ref CC10) = some false) (q5_11 : PySem.W.kitOne K (.ref CC5) (.ref CC11) = some false) (q6_0 : PySem.W.kitOne K (.ref CC6) (.ref CC0) = some false) (q6_1 : PySem.W.kitOne K (.ref CC6) (.ref CC1) = some false) (q6_2 : PySem.W.kitOne K (.ref CC6) (.ref CC2) = some false) (q6_3 : PySem.W.kitOne K (.ref CC6) (.ref CC3) = some false) (q6_4 : PySem.W.kitOne K (.ref CC6) (.ref CC4) = some false) (q6_5 : PySem.W.kitOne K (.ref CC6) (.ref CC5) = some false) (q6_6 : PySem.W.kitOne K (.ref CC6) (.ref CC6) = some true) (q6_7 : PySem.W.kitOne K (.ref CC6) (.ref CC7) = some false) (q6_8 : PySem.W.kitOne K (.ref CC6) (.ref CC8) = some false) (q6_9 : PySem.W.kitOne K (.ref CC6) (.ref CC9) = some false) (q6_10 : PySem.W.kitOne K (.ref CC6) (.ref CC10) = some false) (q6_11 : PySem.W.kitOne K (.ref CC6) (.ref CC11) = some false) (q7_0 : PySem.W.kitOne K (.ref CC7) (.ref CC0) = some false) (q7_1 : PySem.W.kitOne K (.ref CC7) (.ref CC1) = some false) (q7_2 : PySem.W.kitOne K (.ref CC7) (.ref CC2) = some false) (q7_3 : PySem.W.kitOne K (.ref CC7) (.ref CC3) = some false) (q7_4 : PySem.W.kitOne K (.ref CC7) (.ref CC4) = some false) (q7_5 : PySem.W.kitOne K (.ref CC7) (.ref CC5) = some false) (q7_6 : PySem.W.kitOne K (.ref CC7) (.ref CC6) = some false) (q7_7 : PySem.W.kitOne K (.ref CC7) (.ref CC7) = some true) (q7_8 : PySem.W.kitOne K (.ref CC7) (.ref CC8) = some false) (q7_9 : PySem.W.kitOne K (.ref CC7) (.ref CC9) = some false) (q7_10 : PySem.W.kitOne K (.ref CC7) (.ref CC10) = some false) (q7_11 : PySem.W.kitOne K (.ref CC7) (.ref CC11) = some false) (q8_0 : PySem.W.kitOne K (.ref CC8) (.ref CC0) = some false) (q8_1 : PySem.W.kitOne K (.ref CC8) (.ref CC1) = some false) (q8_2 : PySem.W.kitOne K (.ref CC8) (.ref CC2) = some false) (q8_3 : PySem.W.kitOne K (.ref CC8) (.ref CC3) = some false) (q8_4 : PySem.W.kitOne K (.ref CC8) (.ref CC4) = some false) (q8_5 : PySem.W.kitOne K (.ref CC8) (.ref CC5) = some false) (q8_6 : PySem.W.kitOne K (.ref CC8) (.ref CC6) = some false) (q8_7 : PySem.W.kitOne K (.ref CC8) (.ref CC7) = some false) (q8_8 : PySem.W.kitOne K (.ref CC8) (.ref CC8) = some true) (q8_9 : PySem.W.kitOne K (.ref CC8) (.ref CC9) = some false) (q8_10 : PySem.W.kitOne K (.ref CC8) (.ref CC10) = some false) (q8_11 : PySem.W.kitOne K (.ref CC8) (.ref CC11) = some false) (q9_0 : PySem.W.kitOne K (.ref CC9) (.ref CC0) = some false) (q9_1 : PySem.W.kitOne K (.ref CC9) (.ref CC1) = some false) (q9_2 : PySem.W.kitOne K (.ref CC9) (.ref CC2) = some false) (q9_3 : PySem.W.kitOne K (.ref CC9) (.ref CC3) = some false) (q9_4 : PySem.W.kitOne K (.ref CC9) (.ref CC4) = some false) (q9_5 : PySem.W.kitOne K (.ref CC9) (.ref CC5) = some false) (q9_6 : PySem.W.kitOne K (.ref CC9) (.ref CC6) = some false) (q9_7 : PySem.W.kitOne K (.ref CC9) (.ref CC7) = some false) (q9_8 : PySem.W.kitOne K (.ref CC9) (.ref CC8) = some false) (q9_9 : PySem.W.kitOne K (.ref CC9) (.ref CC9) = some true) (q9_10 : PySem.W.kitOne K (.ref CC9) (.ref CC10) = some false) (q9_11 : PySem.W.kitOne K (.ref CC9) (.ref CC11) = some false) (q10_0 : PySem.W.kitOne K (.ref CC10) (.ref CC0) = some false) (q10_1 : PySem.W.kitOne K (.ref CC10) (.ref CC1) = some false) (q10_2 : PySem.W.kitOne K (.ref CC10) (.ref CC2) = some false) (q10_3 : PySem.W.kitOne K (.ref CC10) (.ref CC3) = some false) (q10_4 : PySem.W.kitOne K (.ref CC10) (.ref CC4) = some false) (q10_5 : PySem.W.kitOne K (.ref CC10) (.ref CC5) = some false) (q10_6 : PySem.W.kitOne K (.ref CC10) (.ref CC6) = some false) (q10_7 : PySem.W.kitOne K (.ref CC10) (.ref CC7) = some false) (q10_8 : PySem.W.kitOne K (.ref CC10) (.ref CC8) = some false) (q10_9 : PySem.W.kitOne K (.ref CC10) (.ref CC9) = some false) (q10_10 : PySem.W.kitOne K (.ref CC10) (.ref CC10) = some true) (q10_11 : PySem.W.kitOne K (.ref CC10) (.ref CC11) = some false) (q11_0 : PySem.W.kitOne K (.ref CC11) (.ref CC0) = some false) (q11_1 : PySem.W.kitOne K (.ref CC11) (.ref CC1) = some false) (q11_2 : PySem.W.kitOne K (.ref CC11) (.ref CC2) = some false) (q11_3 : PySem.W.kitOne K (.ref CC11) (.ref CC3) = some false) (q11_4 : PySem.W.kitOne K (.ref CC11) (.ref CC4) = some false) (q11_5 : PySem.W.kitOne K (.ref CC11) (.ref CC5) = some false) (q11_6 : PySem.W.kitOne K (.ref CC11) (.ref CC6) = some false) (q11_7 : PySem.W.kitOne K (.ref CC11) (.ref CC7) = some false) (q11_8 : PySem.W.kitOne K (.ref CC11) (.ref CC8) = some false) (q11_9 : PySem.W.kitOne K (.ref CC11) (.ref CC9) = some false) (q11_10 : PySem.W.kitOne K (.ref CC11) (.ref CC10) = some false) (q11_11 : PySem.W.kitOne K (.ref CC11) (.ref CC11) = some true) : ∀ (i j : Nat) (C D : Addr), ([CC0, CC1, CC2, CC3, CC4, CC5, CC6, CC7, CC8, CC9, CC10, CC11] : List Addr)[i]? = some C → ([CC0, CC1, CC2, CC3, CC4, CC5, CC6, CC7, CC8, CC9, CC10, CC11] : List Addr)[j]? = some D → PySem.W.kitOne K (.ref C) (.ref D) = some (decide (j = i)) := by
  intro i j C D hi hj
  have hi12 : i < 12 := lt_of_some hi
  have hj12 : j < 12 := lt_of_some hj
  match i, hi with
  | 0, hi =>
    obtain rfl := Option.some.inj hi
    match j, hj with
    | 0, hj => obtain rfl := Option.some.inj hj; exact q0_0
    | 1, hj => obtain rfl := Option.some.inj hj; exact q0_1
    | 2, hj => obtain rfl := Option.some.inj hj; exact q0_2
    | 3, hj => obtain rfl := Option.some.inj hj; exact q0_3
    | 4, hj => obtain rfl := Option.some.inj hj; exact q0_4
    | 5, hj => obtain rfl := Option.some.inj hj; exact q0_5
    | 6, hj => obtain rfl := Option.some.inj hj; exact q0_6
    | 7, hj => obtain rfl := Option.some.inj hj; exact q0_7
    | 8, hj => obtain rfl := Option.some.inj hj; exact q0_8
    | 9, hj => obtain rfl := Option.some.inj hj; exact q0_9
    | 10, hj => obtain rfl := Option.some.inj hj; exact q0_10
    | 11, hj => obtain rfl := Option.some.inj hj; exact q0_11
    | j + 12, hj => omega
  | 1, hi =>
    obtain rfl := Option.some.inj hi
    match j, hj with
    | 0, hj => obtain rfl := Option.some.inj hj; exact q1_0
    | 1, hj => obtain rfl := Option.some.inj hj; exact q1_1
    | 2, hj => obtain rfl := Option.some.inj hj; exact q1_2
    | 3, hj => obtain rfl := Option.some.inj hj; exact q1_3
    | 4, hj => obtain rfl := Option.some.inj hj; exact q1_4
    | 5, hj => obtain rfl := Option.some.inj hj; exact q1_5
    | 6, hj => obtain rfl := Option.some.inj hj; exact q1_6
    | 7, hj => obtain rfl := Option.some.inj hj; exact q1_7
    | 8, hj => obtain rfl := Option.some.inj hj; exact q1_8
    | 9, hj => obtain rfl := Option.some.inj hj; exact q1_9
    | 10, hj => obtain rfl := Option.some.inj hj; exact q1_10
    | 11, hj => obtain rfl := Option.some.inj hj; exact q1_11
    | j + 12, hj => omega
  | 2, hi =>
    obtain rfl := Option.some.inj hi
    match j, hj with
    | 0, hj => obtain rfl := Option.some.inj hj; exact q2_0
    | 1, hj => obtain rfl := Option.some.inj hj; exact q2_1
    | 2, hj => obtain rfl := Option.some.inj hj; exact q2_2
    | 3, hj => obtain rfl := Option.some.inj hj; exact q2_3
    | 4, hj => obtain rfl := Option.some.inj hj; exact q2_4
    | 5, hj => obtain rfl := Option.some.inj hj; exact q2_5
    | 6, hj => obtain rfl := Option.some.inj hj; exact q2_6
    | 7, hj => obtain rfl := Option.some.inj hj; exact q2_7
    | 8, hj => obtain rfl := Option.some.inj hj; exact q2_8
    | 9, hj => obtain rfl := Option.some.inj hj; exact q2_9
    | 10, hj => obtain rfl := Option.some.inj hj; exact q2_10
    | 11, hj => obtain rfl := Option.some.inj hj; exact q2_11
    | j + 12, hj => omega
  | 3, hi =>
    obtain rfl := Option.some.inj hi
    match j, hj with
    | 0, hj => obtain rfl := Option.some.inj hj; exact q3_0
    | 1, hj => obtain rfl := Option.some.inj hj; exact q3_1
    | 2, hj => obtain rfl := Option.some.inj hj; exact q3_2
    | 3, hj => obtain rfl := Option.some.inj hj; exact q3_3
    | 4, hj => obtain rfl := Option.some.inj hj; exact q3_4
    | 5, hj => obtain rfl := Option.some.inj hj; exact q3_5
    | 6, hj => obtain rfl := Option.some.inj hj; exact q3_6
    | 7, hj => obtain rfl := Option.some.inj hj; exact q3_7
    | 8, hj => obtain rfl := Option.some.inj hj; exact q3_8
    | 9, hj => obtain rfl := Option.some.inj hj; exact q3_9
    | 10, hj => obtain rfl := Option.some.inj hj; exact q3_10
    | 11, hj => obtain rfl := Option.some.inj hj; exact q3_11
    | j + 12, hj => omega
  | 4, hi =>
    obtain rfl := Option.some.inj hi
    match j, hj with
    | 0, hj => obtain rfl := Option.some.inj hj; exact q4_0
    | 1, hj => obtain rfl := Option.some.inj hj; exact q4_1
    | 2, hj => obtain rfl := Option.some.inj hj; exact q4_2
    | 3, hj => obtain rfl := Option.some.inj hj; exact q4_3
    | 4, hj => obtain rfl := Option.some.inj hj; exact q4_4
    | 5, hj => obtain rfl := Option.some.inj hj; exact q4_5
    | 6, hj => obtain rfl := Option.some.inj hj; exact q4_6
    | 7, hj => obtain rfl := Option.some.inj hj; exact q4_7
    | 8, hj => obtain rfl := Option.some.inj hj; exact q4_8
    | 9, hj => obtain rfl := Option.some.inj hj; exact q4_9
    | 10, hj => obtain rfl := Option.some.inj hj; exact q4_10
    | 11, hj => obtain rfl := Option.some.inj hj; exact q4_11
    | j + 12, hj => omega
  | 5, hi =>
    obtain rfl := Option.some.inj hi
    match j, hj with
    | 0, hj => obtain rfl := Option.some.inj hj; exact q5_0
    | 1, hj => obtain rfl := Option.some.inj hj; exact q5_1
    | 2, hj => obtain rfl := Option.some.inj hj; exact q5_2
    | 3, hj => obtain rfl := Option.some.inj hj; exact q5_3
    | 4, hj => obtain rfl := Option.some.inj hj; exact q5_4
    | 5, hj => obtain rfl := Option.some.inj hj; exact q5_5
    | 6, hj => obtain rfl := Option.some.inj hj; exact q5_6
    | 7, hj => obtain rfl := Option.some.inj hj; exact q5_7
    | 8, hj => obtain rfl := Option.some.inj hj; exact q5_8
    | 9, hj => obtain rfl := Option.some.inj hj; exact q5_9
    | 10, hj => obtain rfl := Option.some.inj hj; exact q5_10
    | 11, hj => obtain rfl := Option.some.inj hj; exact q5_11
    | j + 12, hj => omega
  | 6, hi =>
    obtain rfl := Option.some.inj hi
    match j, hj with
    | 0, hj => obtain rfl := Option.some.inj hj; exact q6_0
    | 1, hj => obtain rfl := Option.some.inj hj; exact q6_1
    | 2, hj => obtain rfl := Option.some.inj hj; exact q6_2
    | 3, hj => obtain rfl := Option.some.inj hj; exact q6_3
    | 4, hj => obtain rfl := Option.some.inj hj; exact q6_4
    | 5, hj => obtain rfl := Option.some.inj hj; exact q6_5
    | 6, hj => obtain rfl := Option.some.inj hj; exact q6_6
    | 7, hj => obtain rfl := Option.some.inj hj; exact q6_7
    | 8, hj => obtain rfl := Option.some.inj hj; exact q6_8
    | 9, hj => obtain rfl := Option.some.inj hj; exact q6_9
    | 10, hj => obtain rfl := Option.some.inj hj; exact q6_10
    | 11, hj => obtain rfl := Option.some.inj hj; exact q6_11
    | j + 12, hj => omega
  | 7, hi =>
    obtain rfl := Option.some.inj hi
    match j, hj with
    | 0, hj => obtain rfl := Option.some.inj hj; exact q7_0
    | 1, hj => obtain rfl := Option.some.inj hj; exact q7_1
    | 2, hj => obtain rfl := Option.some.inj hj; exact q7_2
    | 3, hj => obtain rfl := Option.some.inj hj; exact q7_3
    | 4, hj => obtain rfl := Option.some.inj hj; exact q7_4
    | 5, hj => obtain rfl := Option.some.inj hj; exact q7_5
    | 6, hj => obtain rfl := Option.some.inj hj; exact q7_6
    | 7, hj => obtain rfl := Option.some.inj hj; exact q7_7
    | 8, hj => obtain rfl := Option.some.inj hj; exact q7_8
    | 9, hj => obtain rfl := Option.some.inj hj; exact q7_9
    | 10, hj => obtain rfl := Option.some.inj hj; exact q7_10
    | 11, hj => obtain rfl := Option.some.inj hj; exact q7_11
    | j + 12, hj => omega
  | 8, hi =>
    obtain rfl := Option.some.inj hi
    match j, hj with
    | 0, hj => obtain rfl := Option.some.inj hj; exact q8_0
    | 1, hj => obtain rfl := Option.some.inj hj; exact q8_1
    | 2, hj => obtain rfl := Option.some.inj hj; exact q8_2
    | 3, hj => obtain rfl := Option.some.inj hj; exact q8_3
    | 4, hj => obtain rfl := Option.some.inj hj; exact q8_4
    | 5, hj => obtain rfl := Option.some.inj hj; exact q8_5
    | 6, hj => obtain rfl := Option.some.inj hj; exact q8_6
    | 7, hj => obtain rfl := Option.some.inj hj; exact q8_7
    | 8, hj => obtain rfl := Option.some.inj hj; exact q8_8
    | 9, hj => obtain rfl := Option.some.inj hj; exact q8_9
    | 10, hj => obtain rfl := Option.some.inj hj; exact q8_10
    | 11, hj => obtain rfl := Option.some.inj hj; exact q8_11
    | j + 12, hj => omega
  | 9, hi =>
    obtain rfl := Option.some.inj hi
    match j, hj with
    | 0, hj => obtain rfl := Option.some.inj hj; exact q9_0
    | 1, hj => obtain rfl := Option.some.inj hj; exact q9_1
    | 2, hj => obtain rfl := Option.some.inj hj; exact q9_2
    | 3, hj => obtain rfl := Option.some.inj hj; exact q9_3
    | 4, hj => obtain rfl := Option.some.inj hj; exact q9_4
    | 5, hj => obtain rfl := Option.some.inj hj; exact q9_5
    | 6, hj => obtain rfl := Option.some.inj hj; exact q9_6
    | 7, hj => obtain rfl := Option.some.inj hj; exact q9_7
    | 8, hj => obtain rfl := Option.some.inj hj; exact q9_8
    | 9, hj => obtain rfl := Option.some.inj hj; exact q9_9
    | 10, hj => obtain rfl := Option.some.inj hj; exact q9_10
    | 11, hj => obtain rfl := Option.some.inj hj; exact q9_11
    | j + 12, hj => omega
  | 10, hi =>
    obtain rfl := Option.some.inj hi
    match j, hj with
    | 0, hj => obtain rfl := Option.some.inj hj; exact q10_0
    | 1, hj => obtain rfl := Option.some.inj hj; exact q10_1
    | 2, hj => obtain rfl := Option.some.inj hj; exact q10_2
    | 3, hj => obtain rfl := Option.some.inj hj; exact q10_3
    | 4, hj => obtain rfl := Option.some.inj hj; exact q10_4
    | 5, hj => obtain rfl := Option.some.inj hj; exact q10_5
    | 6, hj => obtain rfl := Option.some.inj hj; exact q10_6
    | 7, hj => obtain rfl := Option.some.inj hj; exact q10_7
    | 8, hj => obtain rfl := Option.some.inj hj; exact q10_8
    | 9, hj => obtain rfl := Option.some.inj hj; exact q10_9
    | 10, hj => obtain rfl := Option.some.inj hj; exact q10_10
    | 11, hj => obtain rfl := Option.some.inj hj; exact q10_11
    | j + 12, hj => omega
  | 11, hi =>
    obtain rfl := Option.some.inj hi
    match j, hj with
    | 0, hj => obtain rfl := Option.some.inj hj; exact q11_0
    | 1, hj => obtain rfl := Option.some.inj hj; exact q11_1
    | 2, hj => obtain rfl := Option.some.inj hj; exact q11_2
    | 3, hj => obtain rfl := Option.some.inj hj; exact q11_3
    | 4, hj => obtain rfl := Option.some.inj hj; exact q11_4
    | 5, hj => obtain rfl := Option.some.inj hj; exact q11_5
    | 6, hj => obtain rfl := Option.some.inj hj; exact q11_6
    | 7, hj => obtain rfl := Option.some.inj hj; exact q11_7
    | 8, hj => obtain rfl := Option.some.inj hj; exact q11_8
    | 9, hj => obtain rfl := Option.some.inj hj; exact q11_9
    | 10, hj => obtain rfl := Option.some.inj hj; exact q11_10
    | 11, hj => obtain rfl := Option.some.inj hj; exact q11_11
    | j + 12, hj => omega
  | i + 12, hi => omega
/-! ### what the top has written, the head -/
theorem all_mk {l : PySem.W.OpenLaw} {w : World} {K : PySem.W.Frag} {h : Heap} {mg : Str → Option Value} {fa : Addr} (X : K.In h) (G : h.Ns mainGlobals mg) (hfa : mg "law" = some (.ref fa))
    {f1 : Addr} {od1 an1 : Option Addr} {sl1 : Array (Option Value)} {oc1 kV1 dc1 pm1 cd1 ct1 : Value}
    {f2 : Addr} {od2 an2 : Option Addr} {sl2 : Array (Option Value)} {oc2 kV2 dc2 pm2 cd2 ct2 : Value}
    {f3 : Addr} {od3 an3 : Option Addr} {sl3 : Array (Option Value)} {oc3 kV3 dc3 pm3 cd3 ct3 : Value}
    {f4 : Addr} {od4 an4 : Option Addr} {sl4 : Array (Option Value)} {oc4 kV4 dc4 pm4 cd4 ct4 : Value}
    {f5 : Addr} {od5 an5 : Option Addr} {sl5 : Array (Option Value)} {oc5 kV5 dc5 pm5 cd5 ct5 : Value}
    {f6 : Addr} {od6 an6 : Option Addr} {sl6 : Array (Option Value)} {oc6 kV6 dc6 pm6 cd6 ct6 : Value}
    {f7 : Addr} {od7 an7 : Option Addr} {sl7 : Array (Option Value)} {oc7 kV7 dc7 pm7 cd7 ct7 : Value}
    {f8 : Addr} {od8 an8 : Option Addr} {sl8 : Array (Option Value)} {oc8 kV8 dc8 pm8 cd8 ct8 : Value}
    {f9 : Addr} {od9 an9 : Option Addr} {sl9 : Array (Option Value)} {oc9 kV9 dc9 pm9 cd9 ct9 : Value}
    {C0h : Addr} {nm0 qq0 : Str} {N0 CC0 ff0 : Addr} {bs0 : List Value} {sn0 : List Str} {sub0 : List Value} {ab0 : Bool} {col0 : Option Bool} {dd0 : Option Addr} {ma0 mb0 mc0 md0 me0 : Option Value} {odI0 anI0 : Option Addr} {slI0 : Array (Option Value)} {ocI0 kVI0 dcI0 pmI0 cdI0 ctI0 : Value} {nm1 qq1 : Str} {N1 CC1 ff1 : Addr} {bs1 : List Value} {sn1 : List Str} {sub1 : List Value} {ab1 : Bool} {col1 : Option Bool} {dd1 : Option Addr} {ma1 mb1 mc1 md1 me1 : Option Value} {odI1 anI1 : Option Addr} {slI1 : Array (Option Value)} {ocI1 kVI1 dcI1 pmI1 cdI1 ctI1 : Value} {nm2 qq2 : Str} {N2 CC2 ff2 : Addr} {bs2 : List Value} {sn2 : List Str} {sub2 : List Value} {ab2 : Bool} {col2 : Option Bool} {dd2 : Option Addr} {ma2 mb2 mc2 md2 me2 : Option Value} {odI2 anI2 : Option Addr} {slI2 : Array (Option Value)} {ocI2 kVI2 dcI2 pmI2 cdI2 ctI2 : Value} {nm3 qq3 : Str} {N3 CC3 ff3 : Addr} {bs3 : List Value} {sn3 : List Str} {sub3 : List Value} {ab3 : Bool} {col3 : Option Bool} {dd3 : Option Addr} {ma3 mb3 mc3 md3 me3 : Option Value} {odI3 anI3 : Option Addr} {slI3 : Array (Option Value)} {ocI3 kVI3 dcI3 pmI3 cdI3 ctI3 : Value} {nm4 qq4 : Str} {N4 CC4 ff4 : Addr} {bs4 : List Value} {sn4 : List Str} {sub4 : List Value} {ab4 : Bool} {col4 : Option Bool} {dd4 : Option Addr} {ma4 mb4 mc4 md4 me4 : Option Value} {odI4 anI4 : Option Addr} {slI4 : Array (Option Value)} {ocI4 kVI4 dcI4 pmI4 cdI4 ctI4 : Value} {nm5 qq5 : Str} {N5 CC5 ff5 : Addr} {bs5 : List Value} {sn5 : List Str} {sub5 : List Value} {ab5 : Bool} {col5 : Option Bool} {dd5 : Option Addr} {ma5 mb5 mc5 md5 me5 : Option Value} {odI5 anI5 : Option Addr} {slI5 : Array (Option Value)} {ocI5 kVI5 dcI5 pmI5 cdI5 ctI5 : Value} {nm6 qq6 : Str} {N6 CC6 ff6 : Addr} {bs6 : List Value} {sn6 : List Str} {sub6 : List Value} {ab6 : Bool} {col6 : Option Bool} {dd6 : Option Addr} {ma6 mb6 mc6 md6 me6 : Option Value} {odI6 anI6 : Option Addr} {slI6 : Array (Option Value)} {ocI6 kVI6 dcI6 pmI6 cdI6 ctI6 : Value} {nm7 qq7 : Str} {N7 CC7 ff7 : Addr} {bs7 : List Value} {sn7 : List Str} {sub7 : List Value} {ab7 : Bool} {col7 : Option Bool} {dd7 : Option Addr} {ma7 mb7 mc7 md7 me7 : Option Value} {odI7 anI7 : Option Addr} {slI7 : Array (Option Value)} {ocI7 kVI7 dcI7 pmI7 cdI7 ctI7 : Value} {nm8 qq8 : Str} {N8 CC8 ff8 : Addr} {bs8 : List Value} {sn8 : List Str} {sub8 : List Value} {ab8 : Bool} {col8 : Option Bool} {dd8 : Option Addr} {ma8 mb8 mc8 md8 me8 : Option Value} {odI8 anI8 : Option Addr} {slI8 : Array (Option Value)} {ocI8 kVI8 dcI8 pmI8 cdI8 ctI8 : Value} {nm9 qq9 : Str} {N9 CC9 ff9 : Addr} {bs9 : List Value} {sn9 : List Str} {sub9 : List Value} {ab9 : Bool} {col9 : Option Bool} {dd9 : Option Addr} {ma9 mb9 mc9 md9 me9 : Option Value} {odI9 anI9 : Option Addr} {slI9 : Array (Option Value)} {ocI9 kVI9 dcI9 pmI9 cdI9 ctI9 : Value} {nm10 qq10 : Str} {N10 CC10 ff10 : Addr} {bs10 : List Value} {sn10 : List Str} {sub10 : List Value} {ab10 : Bool} {col10 : Option Bool} {dd10 : Option Addr} {ma10 mb10 mc10 md10 me10 : Option Value} {odI10 anI10 : Option Addr} {slI10 : Array (Option Value)} {ocI10 kVI10 dcI10 pmI10 cdI10 ctI10 : Value} {nm11 qq11 : Str} {N11 CC11 ff11 : Addr} {bs11 : List Value} {sn11 : List Str} {sub11 : List Value} {ab11 : Bool} {col11 : Option Bool} {dd11 : Option Addr} {ma11 mb11 mc11 md11 me11 : Option Value} {odI11 anI11 : Option Addr} {slI11 : Array (Option Value)} {ocI11 kVI11 dcI11 pmI11 cdI11 ctI11 : Value} 
    (a1 : PySem.W.nsIn K mainGlobals "_law_deck" = some (some (.ref f1))) (l1 : K.lookup f1 = some ⟨oc1, od1, .func (PySem.W.fnOf "_law_deck" "_law_deck" (defArgs sDeck) (defBody sDeck) (defScope sDeck) .none kV1 dc1 pm1 an1 cd1 ct1), sl1⟩) (c1 : PySem.W.codeIn K cd1 "_law_deck" = true) (k1 : PySem.W.keepIn K (.ref f1) = true)
    (a2 : PySem.W.nsIn K mainGlobals "_law_draw" = some (some (.ref f2))) (l2 : K.lookup f2 = some ⟨oc2, od2, .func (PySem.W.fnOf "_law_draw" "_law_draw" (defArgs sDraw) (defBody sDraw) (defScope sDraw) .none kV2 dc2 pm2 an2 cd2 ct2), sl2⟩) (c2 : PySem.W.codeIn K cd2 "_law_draw" = true) (k2 : PySem.W.keepIn K (.ref f2) = true)
    (a3 : PySem.W.nsIn K mainGlobals "_law_choose" = some (some (.ref f3))) (l3 : K.lookup f3 = some ⟨oc3, od3, .func (PySem.W.fnOf "_law_choose" "_law_choose" (defArgs sChoose) (defBody sChoose) (defScope sChoose) .none kV3 dc3 pm3 an3 cd3 ct3), sl3⟩) (c3 : PySem.W.codeIn K cd3 "_law_choose" = true) (k3 : PySem.W.keepIn K (.ref f3) = true)
    (a4 : PySem.W.nsIn K mainGlobals "_law_values" = some (some (.ref f4))) (l4 : K.lookup f4 = some ⟨oc4, od4, .func (PySem.W.fnOf "_law_values" "_law_values" (defArgs sValues) (defBody sValues) (defScope sValues) .none kV4 dc4 pm4 an4 cd4 ct4), sl4⟩) (c4 : PySem.W.codeIn K cd4 "_law_values" = true) (k4 : PySem.W.keepIn K (.ref f4) = true)
    (a5 : PySem.W.nsIn K mainGlobals "_law_kinds" = some (some (.ref f5))) (l5 : K.lookup f5 = some ⟨oc5, od5, .func (PySem.W.fnOf "_law_kinds" "_law_kinds" (defArgs sKinds) (defBody sKinds) (defScope sKinds) .none kV5 dc5 pm5 an5 cd5 ct5), sl5⟩) (c5 : PySem.W.codeIn K cd5 "_law_kinds" = true) (k5 : PySem.W.keepIn K (.ref f5) = true)
    (a6 : PySem.W.nsIn K mainGlobals "_law_of_one_kind" = some (some (.ref f6))) (l6 : K.lookup f6 = some ⟨oc6, od6, .func (PySem.W.fnOf "_law_of_one_kind" "_law_of_one_kind" (defArgs sOneKind) (defBody sOneKind) (defScope sOneKind) .none kV6 dc6 pm6 an6 cd6 ct6), sl6⟩) (c6 : PySem.W.codeIn K cd6 "_law_of_one_kind" = true) (k6 : PySem.W.keepIn K (.ref f6) = true)
    (a7 : PySem.W.nsIn K mainGlobals "_law_made" = some (some (.ref f7))) (l7 : K.lookup f7 = some ⟨oc7, od7, .func (PySem.W.fnOf "_law_made" "_law_made" (defArgs sMade) (defBody sMade) (defScope sMade) .none kV7 dc7 pm7 an7 cd7 ct7), sl7⟩) (c7 : PySem.W.codeIn K cd7 "_law_made" = true) (k7 : PySem.W.keepIn K (.ref f7) = true)
    (a8 : PySem.W.nsIn K mainGlobals "_law_named" = some (some (.ref f8))) (l8 : K.lookup f8 = some ⟨oc8, od8, .func (PySem.W.fnOf "_law_named" "_law_named" (defArgs sNamed) (defBody sNamed) (defScope sNamed) .none kV8 dc8 pm8 an8 cd8 ct8), sl8⟩) (c8 : PySem.W.codeIn K cd8 "_law_named" = true) (k8 : PySem.W.keepIn K (.ref f8) = true)
    (a9 : PySem.W.nsIn K mainGlobals "law" = some (some (.ref f9))) (l9 : K.lookup f9 = some ⟨oc9, od9, .func (PySem.W.fnOf "law" "law" (defArgs sLaw) (defBody sLaw) (defScope sLaw) .none kV9 dc9 pm9 an9 cd9 ct9), sl9⟩) (c9 : PySem.W.codeIn K cd9 "law" = true) (k9 : PySem.W.keepIn K (.ref f9) = true)
    (z0 : PySem.W.nsIn K mainGlobals "len" = some none)
    (z1 : PySem.W.nsIn K mainGlobals "range" = some none)
    (z2 : PySem.W.nsIn K mainGlobals "max" = some none)
    (z3 : PySem.W.nsIn K mainGlobals "min" = some none)
    (z4 : PySem.W.nsIn K mainGlobals "repr" = some none)
    (z5 : PySem.W.nsIn K mainGlobals "enumerate" = some none)
    (z6 : PySem.W.nsIn K mainGlobals "isinstance" = some none)
    (z7 : PySem.W.nsIn K mainGlobals "ValueError" = some none)
    (aH : PySem.W.nsIn K mainGlobals "HandError" = some (some (.ref C0h)))
    (xa0 : PySem.W.nsIn K mainGlobals "BadItem" = some (some (.ref CC0)))
    (xL0 : K.lookup CC0 = some (excClassObj nm0 qq0 CC0 N0 bs0 [.ref C0h, .type "ValueError", .type "Exception", .type "BaseException", .type "object"] true sn0 sub0 ab0 col0 dd0 ma0 mb0 mc0 md0 me0 "ValueError.__new__"))
    (xs0 : PySem.W.findIn K (.ref CC0) "__setattr__" = some (some (.builtin "object.__setattr__")))
    (xg0 : PySem.W.findIn K (.ref CC0) "__getattribute__" = some (some (.builtin "BaseException.__getattribute__")))
    (xh0 : PySem.W.findIn K (.ref CC0) "__getattr__" = some none)
    (xn0 : PySem.W.findIn K (.ref CC0) "value" = some none)
    (xi0 : PySem.W.findIn K (.ref CC0) "__init__" = some (some (.ref ff0)))
    (xt0 : PySem.W.typeIn K (.ref ff0) = some (.type "function"))
    (xl0 : K.lookup ff0 = some ⟨ocI0, odI0, .func (PySem.W.fnOf "__init__" "BadItem.__init__" (defArgs (initOf sCBadItem)) (defBody (initOf sCBadItem)) (defScope (initOf sCBadItem)) .none kVI0 dcI0 pmI0 anI0 cdI0 ctI0), slI0⟩)
    (xc0 : PySem.W.codeIn K cdI0 "BadItem.__init__" = true)
    (xk0 : PySem.W.keepIn K (.ref ff0) = true)
    (xK0 : PySem.W.keepIn K (.ref CC0) = true)
    (xe0 : PySem.W.subIn K (.ref CC0) (.type "BaseException") = some true)
    (xT0 : PySem.W.typeIn K (.ref CC0) = some (.type "type"))
    (xD0 : PySem.W.hasDictIn K CC0 = true)
    (xC0 : PySem.W.findIn K (.ref CC0) "__class__" = some (some (.builtin "object.__class__")))
    (xo0 : PySem.W.mroIn K CC0 (.type "object") = some true)
    (xH0 : PySem.W.kitOne K (.ref CC0) (.ref C0h) = some true)
    (xV0 : PySem.W.kitOne K (.ref CC0) (.type "ValueError") = some true)
    (xa1 : PySem.W.nsIn K mainGlobals "BadRule" = some (some (.ref CC1)))
    (xL1 : K.lookup CC1 = some (excClassObj nm1 qq1 CC1 N1 bs1 [.ref C0h, .type "ValueError", .type "Exception", .type "BaseException", .type "object"] true sn1 sub1 ab1 col1 dd1 ma1 mb1 mc1 md1 me1 "ValueError.__new__"))
    (xs1 : PySem.W.findIn K (.ref CC1) "__setattr__" = some (some (.builtin "object.__setattr__")))
    (xg1 : PySem.W.findIn K (.ref CC1) "__getattribute__" = some (some (.builtin "BaseException.__getattribute__")))
    (xh1 : PySem.W.findIn K (.ref CC1) "__getattr__" = some none)
    (xn1 : PySem.W.findIn K (.ref CC1) "value" = some none)
    (xi1 : PySem.W.findIn K (.ref CC1) "__init__" = some (some (.ref ff1)))
    (xt1 : PySem.W.typeIn K (.ref ff1) = some (.type "function"))
    (xl1 : K.lookup ff1 = some ⟨ocI1, odI1, .func (PySem.W.fnOf "__init__" "BadRule.__init__" (defArgs (initOf sCBadRule)) (defBody (initOf sCBadRule)) (defScope (initOf sCBadRule)) .none kVI1 dcI1 pmI1 anI1 cdI1 ctI1), slI1⟩)
    (xc1 : PySem.W.codeIn K cdI1 "BadRule.__init__" = true)
    (xk1 : PySem.W.keepIn K (.ref ff1) = true)
    (xK1 : PySem.W.keepIn K (.ref CC1) = true)
    (xe1 : PySem.W.subIn K (.ref CC1) (.type "BaseException") = some true)
    (xT1 : PySem.W.typeIn K (.ref CC1) = some (.type "type"))
    (xD1 : PySem.W.hasDictIn K CC1 = true)
    (xC1 : PySem.W.findIn K (.ref CC1) "__class__" = some (some (.builtin "object.__class__")))
    (xo1 : PySem.W.mroIn K CC1 (.type "object") = some true)
    (xH1 : PySem.W.kitOne K (.ref CC1) (.ref C0h) = some true)
    (xV1 : PySem.W.kitOne K (.ref CC1) (.type "ValueError") = some true)
    (xa2 : PySem.W.nsIn K mainGlobals "BadMove" = some (some (.ref CC2)))
    (xL2 : K.lookup CC2 = some (excClassObj nm2 qq2 CC2 N2 bs2 [.ref C0h, .type "ValueError", .type "Exception", .type "BaseException", .type "object"] true sn2 sub2 ab2 col2 dd2 ma2 mb2 mc2 md2 me2 "ValueError.__new__"))
    (xs2 : PySem.W.findIn K (.ref CC2) "__setattr__" = some (some (.builtin "object.__setattr__")))
    (xg2 : PySem.W.findIn K (.ref CC2) "__getattribute__" = some (some (.builtin "BaseException.__getattribute__")))
    (xh2 : PySem.W.findIn K (.ref CC2) "__getattr__" = some none)
    (xn2 : PySem.W.findIn K (.ref CC2) "value" = some none)
    (xi2 : PySem.W.findIn K (.ref CC2) "__init__" = some (some (.ref ff2)))
    (xt2 : PySem.W.typeIn K (.ref ff2) = some (.type "function"))
    (xl2 : K.lookup ff2 = some ⟨ocI2, odI2, .func (PySem.W.fnOf "__init__" "BadMove.__init__" (defArgs (initOf sCBadMove)) (defBody (initOf sCBadMove)) (defScope (initOf sCBadMove)) .none kVI2 dcI2 pmI2 anI2 cdI2 ctI2), slI2⟩)
    (xc2 : PySem.W.codeIn K cdI2 "BadMove.__init__" = true)
    (xk2 : PySem.W.keepIn K (.ref ff2) = true)
    (xK2 : PySem.W.keepIn K (.ref CC2) = true)
    (xe2 : PySem.W.subIn K (.ref CC2) (.type "BaseException") = some true)
    (xT2 : PySem.W.typeIn K (.ref CC2) = some (.type "type"))
    (xD2 : PySem.W.hasDictIn K CC2 = true)
    (xC2 : PySem.W.findIn K (.ref CC2) "__class__" = some (some (.builtin "object.__class__")))
    (xo2 : PySem.W.mroIn K CC2 (.type "object") = some true)
    (xH2 : PySem.W.kitOne K (.ref CC2) (.ref C0h) = some true)
    (xV2 : PySem.W.kitOne K (.ref CC2) (.type "ValueError") = some true)
    (xa3 : PySem.W.nsIn K mainGlobals "BadStep" = some (some (.ref CC3)))
    (xL3 : K.lookup CC3 = some (excClassObj nm3 qq3 CC3 N3 bs3 [.ref C0h, .type "ValueError", .type "Exception", .type "BaseException", .type "object"] true sn3 sub3 ab3 col3 dd3 ma3 mb3 mc3 md3 me3 "ValueError.__new__"))
    (xs3 : PySem.W.findIn K (.ref CC3) "__setattr__" = some (some (.builtin "object.__setattr__")))
    (xg3 : PySem.W.findIn K (.ref CC3) "__getattribute__" = some (some (.builtin "BaseException.__getattribute__")))
    (xh3 : PySem.W.findIn K (.ref CC3) "__getattr__" = some none)
    (xn3 : PySem.W.findIn K (.ref CC3) "value" = some none)
    (xi3 : PySem.W.findIn K (.ref CC3) "__init__" = some (some (.ref ff3)))
    (xt3 : PySem.W.typeIn K (.ref ff3) = some (.type "function"))
    (xl3 : K.lookup ff3 = some ⟨ocI3, odI3, .func (PySem.W.fnOf "__init__" "BadStep.__init__" (defArgs (initOf sCBadStep)) (defBody (initOf sCBadStep)) (defScope (initOf sCBadStep)) .none kVI3 dcI3 pmI3 anI3 cdI3 ctI3), slI3⟩)
    (xc3 : PySem.W.codeIn K cdI3 "BadStep.__init__" = true)
    (xk3 : PySem.W.keepIn K (.ref ff3) = true)
    (xK3 : PySem.W.keepIn K (.ref CC3) = true)
    (xe3 : PySem.W.subIn K (.ref CC3) (.type "BaseException") = some true)
    (xT3 : PySem.W.typeIn K (.ref CC3) = some (.type "type"))
    (xD3 : PySem.W.hasDictIn K CC3 = true)
    (xC3 : PySem.W.findIn K (.ref CC3) "__class__" = some (some (.builtin "object.__class__")))
    (xo3 : PySem.W.mroIn K CC3 (.type "object") = some true)
    (xH3 : PySem.W.kitOne K (.ref CC3) (.ref C0h) = some true)
    (xV3 : PySem.W.kitOne K (.ref CC3) (.type "ValueError") = some true)
    (xa4 : PySem.W.nsIn K mainGlobals "BadText" = some (some (.ref CC4)))
    (xL4 : K.lookup CC4 = some (excClassObj nm4 qq4 CC4 N4 bs4 [.ref C0h, .type "ValueError", .type "Exception", .type "BaseException", .type "object"] true sn4 sub4 ab4 col4 dd4 ma4 mb4 mc4 md4 me4 "ValueError.__new__"))
    (xs4 : PySem.W.findIn K (.ref CC4) "__setattr__" = some (some (.builtin "object.__setattr__")))
    (xg4 : PySem.W.findIn K (.ref CC4) "__getattribute__" = some (some (.builtin "BaseException.__getattribute__")))
    (xh4 : PySem.W.findIn K (.ref CC4) "__getattr__" = some none)
    (xn4 : PySem.W.findIn K (.ref CC4) "value" = some none)
    (xi4 : PySem.W.findIn K (.ref CC4) "__init__" = some (some (.ref ff4)))
    (xt4 : PySem.W.typeIn K (.ref ff4) = some (.type "function"))
    (xl4 : K.lookup ff4 = some ⟨ocI4, odI4, .func (PySem.W.fnOf "__init__" "BadText.__init__" (defArgs (initOf sCBadText)) (defBody (initOf sCBadText)) (defScope (initOf sCBadText)) .none kVI4 dcI4 pmI4 anI4 cdI4 ctI4), slI4⟩)
    (xc4 : PySem.W.codeIn K cdI4 "BadText.__init__" = true)
    (xk4 : PySem.W.keepIn K (.ref ff4) = true)
    (xK4 : PySem.W.keepIn K (.ref CC4) = true)
    (xe4 : PySem.W.subIn K (.ref CC4) (.type "BaseException") = some true)
    (xT4 : PySem.W.typeIn K (.ref CC4) = some (.type "type"))
    (xD4 : PySem.W.hasDictIn K CC4 = true)
    (xC4 : PySem.W.findIn K (.ref CC4) "__class__" = some (some (.builtin "object.__class__")))
    (xo4 : PySem.W.mroIn K CC4 (.type "object") = some true)
    (xH4 : PySem.W.kitOne K (.ref CC4) (.ref C0h) = some true)
    (xV4 : PySem.W.kitOne K (.ref CC4) (.type "ValueError") = some true)
    (xa5 : PySem.W.nsIn K mainGlobals "BadCommand" = some (some (.ref CC5)))
    (xL5 : K.lookup CC5 = some (excClassObj nm5 qq5 CC5 N5 bs5 [.ref C0h, .type "ValueError", .type "Exception", .type "BaseException", .type "object"] true sn5 sub5 ab5 col5 dd5 ma5 mb5 mc5 md5 me5 "ValueError.__new__"))
    (xs5 : PySem.W.findIn K (.ref CC5) "__setattr__" = some (some (.builtin "object.__setattr__")))
    (xg5 : PySem.W.findIn K (.ref CC5) "__getattribute__" = some (some (.builtin "BaseException.__getattribute__")))
    (xh5 : PySem.W.findIn K (.ref CC5) "__getattr__" = some none)
    (xn5 : PySem.W.findIn K (.ref CC5) "command" = some none)
    (xi5 : PySem.W.findIn K (.ref CC5) "__init__" = some (some (.ref ff5)))
    (xt5 : PySem.W.typeIn K (.ref ff5) = some (.type "function"))
    (xl5 : K.lookup ff5 = some ⟨ocI5, odI5, .func (PySem.W.fnOf "__init__" "BadCommand.__init__" (defArgs (initOf sCBadCommand)) (defBody (initOf sCBadCommand)) (defScope (initOf sCBadCommand)) .none kVI5 dcI5 pmI5 anI5 cdI5 ctI5), slI5⟩)
    (xc5 : PySem.W.codeIn K cdI5 "BadCommand.__init__" = true)
    (xk5 : PySem.W.keepIn K (.ref ff5) = true)
    (xK5 : PySem.W.keepIn K (.ref CC5) = true)
    (xe5 : PySem.W.subIn K (.ref CC5) (.type "BaseException") = some true)
    (xT5 : PySem.W.typeIn K (.ref CC5) = some (.type "type"))
    (xD5 : PySem.W.hasDictIn K CC5 = true)
    (xC5 : PySem.W.findIn K (.ref CC5) "__class__" = some (some (.builtin "object.__class__")))
    (xo5 : PySem.W.mroIn K CC5 (.type "object") = some true)
    (xH5 : PySem.W.kitOne K (.ref CC5) (.ref C0h) = some true)
    (xV5 : PySem.W.kitOne K (.ref CC5) (.type "ValueError") = some true)
    (xa6 : PySem.W.nsIn K mainGlobals "UnknownId" = some (some (.ref CC6)))
    (xL6 : K.lookup CC6 = some (excClassObj nm6 qq6 CC6 N6 bs6 [.ref C0h, .type "ValueError", .type "Exception", .type "BaseException", .type "object"] true sn6 sub6 ab6 col6 dd6 ma6 mb6 mc6 md6 me6 "ValueError.__new__"))
    (xs6 : PySem.W.findIn K (.ref CC6) "__setattr__" = some (some (.builtin "object.__setattr__")))
    (xg6 : PySem.W.findIn K (.ref CC6) "__getattribute__" = some (some (.builtin "BaseException.__getattribute__")))
    (xh6 : PySem.W.findIn K (.ref CC6) "__getattr__" = some none)
    (xn6 : PySem.W.findIn K (.ref CC6) "row_id" = some none)
    (xi6 : PySem.W.findIn K (.ref CC6) "__init__" = some (some (.ref ff6)))
    (xt6 : PySem.W.typeIn K (.ref ff6) = some (.type "function"))
    (xl6 : K.lookup ff6 = some ⟨ocI6, odI6, .func (PySem.W.fnOf "__init__" "UnknownId.__init__" (defArgs (initOf sCUnknownId)) (defBody (initOf sCUnknownId)) (defScope (initOf sCUnknownId)) .none kVI6 dcI6 pmI6 anI6 cdI6 ctI6), slI6⟩)
    (xc6 : PySem.W.codeIn K cdI6 "UnknownId.__init__" = true)
    (xk6 : PySem.W.keepIn K (.ref ff6) = true)
    (xK6 : PySem.W.keepIn K (.ref CC6) = true)
    (xe6 : PySem.W.subIn K (.ref CC6) (.type "BaseException") = some true)
    (xT6 : PySem.W.typeIn K (.ref CC6) = some (.type "type"))
    (xD6 : PySem.W.hasDictIn K CC6 = true)
    (xC6 : PySem.W.findIn K (.ref CC6) "__class__" = some (some (.builtin "object.__class__")))
    (xo6 : PySem.W.mroIn K CC6 (.type "object") = some true)
    (xH6 : PySem.W.kitOne K (.ref CC6) (.ref C0h) = some true)
    (xV6 : PySem.W.kitOne K (.ref CC6) (.type "ValueError") = some true)
    (xa7 : PySem.W.nsIn K mainGlobals "TakenId" = some (some (.ref CC7)))
    (xL7 : K.lookup CC7 = some (excClassObj nm7 qq7 CC7 N7 bs7 [.ref C0h, .type "ValueError", .type "Exception", .type "BaseException", .type "object"] true sn7 sub7 ab7 col7 dd7 ma7 mb7 mc7 md7 me7 "ValueError.__new__"))
    (xs7 : PySem.W.findIn K (.ref CC7) "__setattr__" = some (some (.builtin "object.__setattr__")))
    (xg7 : PySem.W.findIn K (.ref CC7) "__getattribute__" = some (some (.builtin "BaseException.__getattribute__")))
    (xh7 : PySem.W.findIn K (.ref CC7) "__getattr__" = some none)
    (xn7 : PySem.W.findIn K (.ref CC7) "row_id" = some none)
    (xi7 : PySem.W.findIn K (.ref CC7) "__init__" = some (some (.ref ff7)))
    (xt7 : PySem.W.typeIn K (.ref ff7) = some (.type "function"))
    (xl7 : K.lookup ff7 = some ⟨ocI7, odI7, .func (PySem.W.fnOf "__init__" "TakenId.__init__" (defArgs (initOf sCTakenId)) (defBody (initOf sCTakenId)) (defScope (initOf sCTakenId)) .none kVI7 dcI7 pmI7 anI7 cdI7 ctI7), slI7⟩)
    (xc7 : PySem.W.codeIn K cdI7 "TakenId.__init__" = true)
    (xk7 : PySem.W.keepIn K (.ref ff7) = true)
    (xK7 : PySem.W.keepIn K (.ref CC7) = true)
    (xe7 : PySem.W.subIn K (.ref CC7) (.type "BaseException") = some true)
    (xT7 : PySem.W.typeIn K (.ref CC7) = some (.type "type"))
    (xD7 : PySem.W.hasDictIn K CC7 = true)
    (xC7 : PySem.W.findIn K (.ref CC7) "__class__" = some (some (.builtin "object.__class__")))
    (xo7 : PySem.W.mroIn K CC7 (.type "object") = some true)
    (xH7 : PySem.W.kitOne K (.ref CC7) (.ref C0h) = some true)
    (xV7 : PySem.W.kitOne K (.ref CC7) (.type "ValueError") = some true)
    (xa8 : PySem.W.nsIn K mainGlobals "TooMany" = some (some (.ref CC8)))
    (xL8 : K.lookup CC8 = some (excClassObj nm8 qq8 CC8 N8 bs8 [.ref C0h, .type "ValueError", .type "Exception", .type "BaseException", .type "object"] true sn8 sub8 ab8 col8 dd8 ma8 mb8 mc8 md8 me8 "ValueError.__new__"))
    (xs8 : PySem.W.findIn K (.ref CC8) "__setattr__" = some (some (.builtin "object.__setattr__")))
    (xg8 : PySem.W.findIn K (.ref CC8) "__getattribute__" = some (some (.builtin "BaseException.__getattribute__")))
    (xh8 : PySem.W.findIn K (.ref CC8) "__getattr__" = some none)
    (xn8 : PySem.W.findIn K (.ref CC8) "count" = some none)
    (xi8 : PySem.W.findIn K (.ref CC8) "__init__" = some (some (.ref ff8)))
    (xt8 : PySem.W.typeIn K (.ref ff8) = some (.type "function"))
    (xl8 : K.lookup ff8 = some ⟨ocI8, odI8, .func (PySem.W.fnOf "__init__" "TooMany.__init__" (defArgs (initOf sCTooMany)) (defBody (initOf sCTooMany)) (defScope (initOf sCTooMany)) .none kVI8 dcI8 pmI8 anI8 cdI8 ctI8), slI8⟩)
    (xc8 : PySem.W.codeIn K cdI8 "TooMany.__init__" = true)
    (xk8 : PySem.W.keepIn K (.ref ff8) = true)
    (xK8 : PySem.W.keepIn K (.ref CC8) = true)
    (xe8 : PySem.W.subIn K (.ref CC8) (.type "BaseException") = some true)
    (xT8 : PySem.W.typeIn K (.ref CC8) = some (.type "type"))
    (xD8 : PySem.W.hasDictIn K CC8 = true)
    (xC8 : PySem.W.findIn K (.ref CC8) "__class__" = some (some (.builtin "object.__class__")))
    (xo8 : PySem.W.mroIn K CC8 (.type "object") = some true)
    (xH8 : PySem.W.kitOne K (.ref CC8) (.ref C0h) = some true)
    (xV8 : PySem.W.kitOne K (.ref CC8) (.type "ValueError") = some true)
    (xa9 : PySem.W.nsIn K mainGlobals "NothingToDo" = some (some (.ref CC9)))
    (xL9 : K.lookup CC9 = some (excClassObj nm9 qq9 CC9 N9 bs9 [.ref C0h, .type "ValueError", .type "Exception", .type "BaseException", .type "object"] true sn9 sub9 ab9 col9 dd9 ma9 mb9 mc9 md9 me9 "ValueError.__new__"))
    (xs9 : PySem.W.findIn K (.ref CC9) "__setattr__" = some (some (.builtin "object.__setattr__")))
    (xg9 : PySem.W.findIn K (.ref CC9) "__getattribute__" = some (some (.builtin "BaseException.__getattribute__")))
    (xh9 : PySem.W.findIn K (.ref CC9) "__getattr__" = some none)
    (xn9 : PySem.W.findIn K (.ref CC9) "action" = some none)
    (xi9 : PySem.W.findIn K (.ref CC9) "__init__" = some (some (.ref ff9)))
    (xt9 : PySem.W.typeIn K (.ref ff9) = some (.type "function"))
    (xl9 : K.lookup ff9 = some ⟨ocI9, odI9, .func (PySem.W.fnOf "__init__" "NothingToDo.__init__" (defArgs (initOf sCNothingToDo)) (defBody (initOf sCNothingToDo)) (defScope (initOf sCNothingToDo)) .none kVI9 dcI9 pmI9 anI9 cdI9 ctI9), slI9⟩)
    (xc9 : PySem.W.codeIn K cdI9 "NothingToDo.__init__" = true)
    (xk9 : PySem.W.keepIn K (.ref ff9) = true)
    (xK9 : PySem.W.keepIn K (.ref CC9) = true)
    (xe9 : PySem.W.subIn K (.ref CC9) (.type "BaseException") = some true)
    (xT9 : PySem.W.typeIn K (.ref CC9) = some (.type "type"))
    (xD9 : PySem.W.hasDictIn K CC9 = true)
    (xC9 : PySem.W.findIn K (.ref CC9) "__class__" = some (some (.builtin "object.__class__")))
    (xo9 : PySem.W.mroIn K CC9 (.type "object") = some true)
    (xH9 : PySem.W.kitOne K (.ref CC9) (.ref C0h) = some true)
    (xV9 : PySem.W.kitOne K (.ref CC9) (.type "ValueError") = some true)
    (xa10 : PySem.W.nsIn K mainGlobals "UnknownName" = some (some (.ref CC10)))
    (xL10 : K.lookup CC10 = some (excClassObj nm10 qq10 CC10 N10 bs10 [.ref C0h, .type "ValueError", .type "Exception", .type "BaseException", .type "object"] true sn10 sub10 ab10 col10 dd10 ma10 mb10 mc10 md10 me10 "ValueError.__new__"))
    (xs10 : PySem.W.findIn K (.ref CC10) "__setattr__" = some (some (.builtin "object.__setattr__")))
    (xg10 : PySem.W.findIn K (.ref CC10) "__getattribute__" = some (some (.builtin "BaseException.__getattribute__")))
    (xh10 : PySem.W.findIn K (.ref CC10) "__getattr__" = some none)
    (xn10 : PySem.W.findIn K (.ref CC10) "name" = some none)
    (xi10 : PySem.W.findIn K (.ref CC10) "__init__" = some (some (.ref ff10)))
    (xt10 : PySem.W.typeIn K (.ref ff10) = some (.type "function"))
    (xl10 : K.lookup ff10 = some ⟨ocI10, odI10, .func (PySem.W.fnOf "__init__" "UnknownName.__init__" (defArgs (initOf sCUnknownName)) (defBody (initOf sCUnknownName)) (defScope (initOf sCUnknownName)) .none kVI10 dcI10 pmI10 anI10 cdI10 ctI10), slI10⟩)
    (xc10 : PySem.W.codeIn K cdI10 "UnknownName.__init__" = true)
    (xk10 : PySem.W.keepIn K (.ref ff10) = true)
    (xK10 : PySem.W.keepIn K (.ref CC10) = true)
    (xe10 : PySem.W.subIn K (.ref CC10) (.type "BaseException") = some true)
    (xT10 : PySem.W.typeIn K (.ref CC10) = some (.type "type"))
    (xD10 : PySem.W.hasDictIn K CC10 = true)
    (xC10 : PySem.W.findIn K (.ref CC10) "__class__" = some (some (.builtin "object.__class__")))
    (xo10 : PySem.W.mroIn K CC10 (.type "object") = some true)
    (xH10 : PySem.W.kitOne K (.ref CC10) (.ref C0h) = some true)
    (xV10 : PySem.W.kitOne K (.ref CC10) (.type "ValueError") = some true)
    (xa11 : PySem.W.nsIn K mainGlobals "NameTaken" = some (some (.ref CC11)))
    (xL11 : K.lookup CC11 = some (excClassObj nm11 qq11 CC11 N11 bs11 [.ref C0h, .type "ValueError", .type "Exception", .type "BaseException", .type "object"] true sn11 sub11 ab11 col11 dd11 ma11 mb11 mc11 md11 me11 "ValueError.__new__"))
    (xs11 : PySem.W.findIn K (.ref CC11) "__setattr__" = some (some (.builtin "object.__setattr__")))
    (xg11 : PySem.W.findIn K (.ref CC11) "__getattribute__" = some (some (.builtin "BaseException.__getattribute__")))
    (xh11 : PySem.W.findIn K (.ref CC11) "__getattr__" = some none)
    (xn11 : PySem.W.findIn K (.ref CC11) "name" = some none)
    (xi11 : PySem.W.findIn K (.ref CC11) "__init__" = some (some (.ref ff11)))
    (xt11 : PySem.W.typeIn K (.ref ff11) = some (.type "function"))
    (xl11 : K.lookup ff11 = some ⟨ocI11, odI11, .func (PySem.W.fnOf "__init__" "NameTaken.__init__" (defArgs (initOf sCNameTaken)) (defBody (initOf sCNameTaken)) (defScope (initOf sCNameTaken)) .none kVI11 dcI11 pmI11 anI11 cdI11 ctI11), slI11⟩)
    (xc11 : PySem.W.codeIn K cdI11 "NameTaken.__init__" = true)
    (xk11 : PySem.W.keepIn K (.ref ff11) = true)
    (xK11 : PySem.W.keepIn K (.ref CC11) = true)
    (xe11 : PySem.W.subIn K (.ref CC11) (.type "BaseException") = some true)
    (xT11 : PySem.W.typeIn K (.ref CC11) = some (.type "type"))
    (xD11 : PySem.W.hasDictIn K CC11 = true)
    (xC11 : PySem.W.findIn K (.ref CC11) "__class__" = some (some (.builtin "object.__class__")))
    (xo11 : PySem.W.mroIn K CC11 (.type "object") = some true)
    (xH11 : PySem.W.kitOne K (.ref CC11) (.ref C0h) = some true)
    (xV11 : PySem.W.kitOne K (.ref CC11) (.type "ValueError") = some true)
    (yn : PySem.W.specialIn K (.builtin "object.__class__") "__get__" = some (some (.builtin "getset_descriptor.__get__")))
    (yt : PySem.W.takesIn K (.builtin "object.__class__") = some true)
    (q0_0 : PySem.W.kitOne K (.ref CC0) (.ref CC0) = some true)
    (q0_1 : PySem.W.kitOne K (.ref CC0) (.ref CC1) = some false)
    (q0_2 : PySem.W.kitOne K (.ref CC0) (.ref CC2) = some false)
    (q0_3 : PySem.W.kitOne K (.ref CC0) (.ref CC3) = some false)
    (q0_4 : PySem.W.kitOne K (.ref CC0) (.ref CC4) = some false)
    (q0_5 : PySem.W.kitOne K (.ref CC0) (.ref CC5) = some false)
    (q0_6 : PySem.W.kitOne K (.ref CC0) (.ref CC6) = some false)
    (q0_7 : PySem.W.kitOne K (.ref CC0) (.ref CC7) = some false)
    (q0_8 : PySem.W.kitOne K (.ref CC0) (.ref CC8) = some false)
    (q0_9 : PySem.W.kitOne K (.ref CC0) (.ref CC9) = some false)
    (q0_10 : PySem.W.kitOne K (.ref CC0) (.ref CC10) = some false)
    (q0_11 : PySem.W.kitOne K (.ref CC0) (.ref CC11) = some false)
    (q1_0 : PySem.W.kitOne K (.ref CC1) (.ref CC0) = some false)
    (q1_1 : PySem.W.kitOne K (.ref CC1) (.ref CC1) = some true)
    (q1_2 : PySem.W.kitOne K (.ref CC1) (.ref CC2) = some false)
    (q1_3 : PySem.W.kitOne K (.ref CC1) (.ref CC3) = some false)
    (q1_4 : PySem.W.kitOne K (.ref CC1) (.ref CC4) = some false)
    (q1_5 : PySem.W.kitOne K (.ref CC1) (.ref CC5) = some false)
    (q1_6 : PySem.W.kitOne K (.ref CC1) (.ref CC6) = some false)
    (q1_7 : PySem.W.kitOne K (.ref CC1) (.ref CC7) = some false)
    (q1_8 : PySem.W.kitOne K (.ref CC1) (.ref CC8) = some false)
    (q1_9 : PySem.W.kitOne K (.ref CC1) (.ref CC9) = some false)
    (q1_10 : PySem.W.kitOne K (.ref CC1) (.ref CC10) = some false)
    (q1_11 : PySem.W.kitOne K (.ref CC1) (.ref CC11) = some false)
    (q2_0 : PySem.W.kitOne K (.ref CC2) (.ref CC0) = some false)
    (q2_1 : PySem.W.kitOne K (.ref CC2) (.ref CC1) = some false)
    (q2_2 : PySem.W.kitOne K (.ref CC2) (.ref CC2) = some true)
    (q2_3 : PySem.W.kitOne K (.ref CC2) (.ref CC3) = some false)
    (q2_4 : PySem.W.kitOne K (.ref CC2) (.ref CC4) = some false)
    (q2_5 : PySem.W.kitOne K (.ref CC2) (.ref CC5) = some false)
    (q2_6 : PySem.W.kitOne K (.ref CC2) (.ref CC6) = some false)
    (q2_7 : PySem.W.kitOne K (.ref CC2) (.ref CC7) = some false)
    (q2_8 : PySem.W.kitOne K (.ref CC2) (.ref CC8) = some false)
    (q2_9 : PySem.W.kitOne K (.ref CC2) (.ref CC9) = some false)
    (q2_10 : PySem.W.kitOne K (.ref CC2) (.ref CC10) = some false)
    (q2_11 : PySem.W.kitOne K (.ref CC2) (.ref CC11) = some false)
    (q3_0 : PySem.W.kitOne K (.ref CC3) (.ref CC0) = some false)
    (q3_1 : PySem.W.kitOne K (.ref CC3) (.ref CC1) = some false)
    (q3_2 : PySem.W.kitOne K (.ref CC3) (.ref CC2) = some false)
    (q3_3 : PySem.W.kitOne K (.ref CC3) (.ref CC3) = some true)
    (q3_4 : PySem.W.kitOne K (.ref CC3) (.ref CC4) = some false)
    (q3_5 : PySem.W.kitOne K (.ref CC3) (.ref CC5) = some false)
    (q3_6 : PySem.W.kitOne K (.ref CC3) (.ref CC6) = some false)
    (q3_7 : PySem.W.kitOne K (.ref CC3) (.ref CC7) = some false)
    (q3_8 : PySem.W.kitOne K (.ref CC3) (.ref CC8) = some false)
    (q3_9 : PySem.W.kitOne K (.ref CC3) (.ref CC9) = some false)
    (q3_10 : PySem.W.kitOne K (.ref CC3) (.ref CC10) = some false)
    (q3_11 : PySem.W.kitOne K (.ref CC3) (.ref CC11) = some false)
    (q4_0 : PySem.W.kitOne K (.ref CC4) (.ref CC0) = some false)
    (q4_1 : PySem.W.kitOne K (.ref CC4) (.ref CC1) = some false)
    (q4_2 : PySem.W.kitOne K (.ref CC4) (.ref CC2) = some false)
    (q4_3 : PySem.W.kitOne K (.ref CC4) (.ref CC3) = some false)
    (q4_4 : PySem.W.kitOne K (.ref CC4) (.ref CC4) = some true)
    (q4_5 : PySem.W.kitOne K (.ref CC4) (.ref CC5) = some false)
    (q4_6 : PySem.W.kitOne K (.ref CC4) (.ref CC6) = some false)
    (q4_7 : PySem.W.kitOne K (.ref CC4) (.ref CC7) = some false)
    (q4_8 : PySem.W.kitOne K (.ref CC4) (.ref CC8) = some false)
    (q4_9 : PySem.W.kitOne K (.ref CC4) (.ref CC9) = some false)
    (q4_10 : PySem.W.kitOne K (.ref CC4) (.ref CC10) = some false)
    (q4_11 : PySem.W.kitOne K (.ref CC4) (.ref CC11) = some false)
    (q5_0 : PySem.W.kitOne K (.ref CC5) (.ref CC0) = some false)
    (q5_1 : PySem.W.kitOne K (.ref CC5) (.ref CC1) = some false)
    (q5_2 : PySem.W.kitOne K (.ref CC5) (.ref CC2) = some false)
    (q5_3 : PySem.W.kitOne K (.ref CC5) (.ref CC3) = some false)
    (q5_4 : PySem.W.kitOne K (.ref CC5) (.ref CC4) = some false)
    (q5_5 : PySem.W.kitOne K (.ref CC5) (.ref CC5) = some true)
    (q5_6 : PySem.W.kitOne K (.ref CC5) (.ref CC6) = some false)
    (q5_7 : PySem.W.kitOne K (.ref CC5) (.ref CC7) = some false)
    (q5_8 : PySem.W.kitOne K (.ref CC5) (.ref CC8) = some false)
    (q5_9 : PySem.W.kitOne K (.ref CC5) (.ref CC9) = some false)
    (q5_10 : PySem.W.kitOne K (.ref CC5) (.ref CC10) = some false)
    (q5_11 : PySem.W.kitOne K (.ref CC5) (.ref CC11) = some false)
    (q6_0 : PySem.W.kitOne K (.ref CC6) (.ref CC0) = some false)
    (q6_1 : PySem.W.kitOne K (.ref CC6) (.ref CC1) = some false)
    (q6_2 : PySem.W.kitOne K (.ref CC6) (.ref CC2) = some false)
    (q6_3 : PySem.W.kitOne K (.ref CC6) (.ref CC3) = some false)
    (q6_4 : PySem.W.kitOne K (.ref CC6) (.ref CC4) = some false)
    (q6_5 : PySem.W.kitOne K (.ref CC6) (.ref CC5) = some false)
    (q6_6 : PySem.W.kitOne K (.ref CC6) (.ref CC6) = some true)
    (q6_7 : PySem.W.kitOne K (.ref CC6) (.ref CC7) = some false)
    (q6_8 : PySem.W.kitOne K (.ref CC6) (.ref CC8) = some false)
    (q6_9 : PySem.W.kitOne K (.ref CC6) (.ref CC9) = some false)
    (q6_10 : PySem.W.kitOne K (.ref CC6) (.ref CC10) = some false)
    (q6_11 : PySem.W.kitOne K (.ref CC6) (.ref CC11) = some false)
    (q7_0 : PySem.W.kitOne K (.ref CC7) (.ref CC0) = some false)
    (q7_1 : PySem.W.kitOne K (.ref CC7) (.ref CC1) = some false)
    (q7_2 : PySem.W.kitOne K (.ref CC7) (.ref CC2) = some false)
    (q7_3 : PySem.W.kitOne K (.ref CC7) (.ref CC3) = some false)
    (q7_4 : PySem.W.kitOne K (.ref CC7) (.ref CC4) = some false)
    (q7_5 : PySem.W.kitOne K (.ref CC7) (.ref CC5) = some false)
    (q7_6 : PySem.W.kitOne K (.ref CC7) (.ref CC6) = some false)
    (q7_7 : PySem.W.kitOne K (.ref CC7) (.ref CC7) = some true)
    (q7_8 : PySem.W.kitOne K (.ref CC7) (.ref CC8) = some false)
    (q7_9 : PySem.W.kitOne K (.ref CC7) (.ref CC9) = some false)
    (q7_10 : PySem.W.kitOne K (.ref CC7) (.ref CC10) = some false)
    (q7_11 : PySem.W.kitOne K (.ref CC7) (.ref CC11) = some false)
    (q8_0 : PySem.W.kitOne K (.ref CC8) (.ref CC0) = some false)
    (q8_1 : PySem.W.kitOne K (.ref CC8) (.ref CC1) = some false)
    (q8_2 : PySem.W.kitOne K (.ref CC8) (.ref CC2) = some false)
    (q8_3 : PySem.W.kitOne K (.ref CC8) (.ref CC3) = some false)
    (q8_4 : PySem.W.kitOne K (.ref CC8) (.ref CC4) = some false)
    (q8_5 : PySem.W.kitOne K (.ref CC8) (.ref CC5) = some false)
    (q8_6 : PySem.W.kitOne K (.ref CC8) (.ref CC6) = some false)
    (q8_7 : PySem.W.kitOne K (.ref CC8) (.ref CC7) = some false)
    (q8_8 : PySem.W.kitOne K (.ref CC8) (.ref CC8) = some true)
    (q8_9 : PySem.W.kitOne K (.ref CC8) (.ref CC9) = some false)
    (q8_10 : PySem.W.kitOne K (.ref CC8) (.ref CC10) = some false)
    (q8_11 : PySem.W.kitOne K (.ref CC8) (.ref CC11) = some false)
    (q9_0 : PySem.W.kitOne K (.ref CC9) (.ref CC0) = some false)
    (q9_1 : PySem.W.kitOne K (.ref CC9) (.ref CC1) = some false)
    (q9_2 : PySem.W.kitOne K (.ref CC9) (.ref CC2) = some false)
    (q9_3 : PySem.W.kitOne K (.ref CC9) (.ref CC3) = some false)
    (q9_4 : PySem.W.kitOne K (.ref CC9) (.ref CC4) = some false)
    (q9_5 : PySem.W.kitOne K (.ref CC9) (.ref CC5) = some false)
    (q9_6 : PySem.W.kitOne K (.ref CC9) (.ref CC6) = some false)
    (q9_7 : PySem.W.kitOne K (.ref CC9) (.ref CC7) = some false)
    (q9_8 : PySem.W.kitOne K (.ref CC9) (.ref CC8) = some false)
    (q9_9 : PySem.W.kitOne K (.ref CC9) (.ref CC9) = some true)
    (q9_10 : PySem.W.kitOne K (.ref CC9) (.ref CC10) = some false)
    (q9_11 : PySem.W.kitOne K (.ref CC9) (.ref CC11) = some false)
    (q10_0 : PySem.W.kitOne K (.ref CC10) (.ref CC0) = some false)
    (q10_1 : PySem.W.kitOne K (.ref CC10) (.ref CC1) = some false)
    (q10_2 : PySem.W.kitOne K (.ref CC10) (.ref CC2) = some false)
    (q10_3 : PySem.W.kitOne K (.ref CC10) (.ref CC3) = some false)
    (q10_4 : PySem.W.kitOne K (.ref CC10) (.ref CC4) = some false)
    (q10_5 : PySem.W.kitOne K (.ref CC10) (.ref CC5) = some false)
    (q10_6 : PySem.W.kitOne K (.ref CC10) (.ref CC6) = some false)
    (q10_7 : PySem.W.kitOne K (.ref CC10) (.ref CC7) = some false)
    (q10_8 : PySem.W.kitOne K (.ref CC10) (.ref CC8) = some false)
    (q10_9 : PySem.W.kitOne K (.ref CC10) (.ref CC9) = some false)
    (q10_10 : PySem.W.kitOne K (.ref CC10) (.ref CC10) = some true)
    (q10_11 : PySem.W.kitOne K (.ref CC10) (.ref CC11) = some false)
    (q11_0 : PySem.W.kitOne K (.ref CC11) (.ref CC0) = some false)
    (q11_1 : PySem.W.kitOne K (.ref CC11) (.ref CC1) = some false)
    (q11_2 : PySem.W.kitOne K (.ref CC11) (.ref CC2) = some false)
    (q11_3 : PySem.W.kitOne K (.ref CC11) (.ref CC3) = some false)
    (q11_4 : PySem.W.kitOne K (.ref CC11) (.ref CC4) = some false)
    (q11_5 : PySem.W.kitOne K (.ref CC11) (.ref CC5) = some false)
    (q11_6 : PySem.W.kitOne K (.ref CC11) (.ref CC6) = some false)
    (q11_7 : PySem.W.kitOne K (.ref CC11) (.ref CC7) = some false)
    (q11_8 : PySem.W.kitOne K (.ref CC11) (.ref CC8) = some false)
    (q11_9 : PySem.W.kitOne K (.ref CC11) (.ref CC9) = some false)
    (q11_10 : PySem.W.kitOne K (.ref CC11) (.ref CC10) = some false)
    (q11_11 : PySem.W.kitOne K (.ref CC11) (.ref CC11) = some true)
    : ∃ fd : FuncData, (∀ (s : Shared) (v : Value), BindsTo s fd ⟨[v], []⟩ [("script", v)]) ∧ ∀ base : Heap, K.In base → base.Ns mainGlobals mg → FnG l.prog w K mg base 4 fa fd ["script"] (spLaw K) := by
  have e := hfa.symm.trans (PySem.W.mg_of X G a9)
  cases e
  have n_len := PySem.W.mg_none_of X G z0
  have n_range := PySem.W.mg_none_of X G z1
  have n_max := PySem.W.mg_none_of X G z2
  have n_min := PySem.W.mg_none_of X G z3
  have n_repr := PySem.W.mg_none_of X G z4
  have n_enumerate := PySem.W.mg_none_of X G z5
  have n_isinstance := PySem.W.mg_none_of X G z6
  have n_ValueError := PySem.W.mg_none_of X G z7
  have F1 := fun_mk (st := sDeck) l1 c1 k1
  have b1 := F1.binds (ps := ["script", "start"]) fun _ _ _ _ _ _ us hl => match us, hl with | [_, _], _ => rfl
  have De : Fn K mg "_law_deck" sDeck ["script", "start"] f1 _ := ⟨F1, b1, PySem.W.mg_of X G a1⟩
  have F2 := fun_mk (st := sDraw) l2 c2 k2
  have b2 := F2.binds (ps := ["deck", "size"]) fun _ _ _ _ _ _ us hl => match us, hl with | [_, _], _ => rfl
  have Dr : Fn K mg "_law_draw" sDraw ["deck", "size"] f2 _ := ⟨F2, b2, PySem.W.mg_of X G a2⟩
  have F3 := fun_mk (st := sChoose) l3 c3 k3
  have b3 := F3.binds (ps := ["deck", "things"]) fun _ _ _ _ _ _ us hl => match us, hl with | [_, _], _ => rfl
  have Ch : Fn K mg "_law_choose" sChoose ["deck", "things"] f3 _ := ⟨F3, b3, PySem.W.mg_of X G a3⟩
  have F4 := fun_mk (st := sValues) l4 c4 k4
  have b4 := F4.binds (ps := ["deck", "turn"]) fun _ _ _ _ _ _ us hl => match us, hl with | [_, _], _ => rfl
  have Va : Fn K mg "_law_values" sValues ["deck", "turn"] f4 _ := ⟨F4, b4, PySem.W.mg_of X G a4⟩
  have F5 := fun_mk (st := sKinds) l5 c5 k5
  have b5 := F5.binds (ps := ["error"]) fun _ _ _ _ _ _ us hl => match us, hl with | [_], _ => rfl
  have Ki : Fn K mg "_law_kinds" sKinds ["error"] f5 _ := ⟨F5, b5, PySem.W.mg_of X G a5⟩
  have F6 := fun_mk (st := sOneKind) l6 c6 k6
  have b6 := F6.binds (ps := ["error", "at"]) fun _ _ _ _ _ _ us hl => match us, hl with | [_, _], _ => rfl
  have Ok : Fn K mg "_law_of_one_kind" sOneKind ["error", "at"] f6 _ := ⟨F6, b6, PySem.W.mg_of X G a6⟩
  have F7 := fun_mk (st := sMade) l7 c7 k7
  have b7 := F7.binds (ps := ["one"]) fun _ _ _ _ _ _ us hl => match us, hl with | [_], _ => rfl
  have Ma : Fn K mg "_law_made" sMade ["one"] f7 _ := ⟨F7, b7, PySem.W.mg_of X G a7⟩
  have F8 := fun_mk (st := sNamed) l8 c8 k8
  have b8 := F8.binds (ps := ["one"]) fun _ _ _ _ _ _ us hl => match us, hl with | [_], _ => rfl
  have Na : Fn K mg "_law_named" sNamed ["one"] f8 _ := ⟨F8, b8, PySem.W.mg_of X G a8⟩
  exact ⟨PySem.W.fnOf "law" "law" (defArgs sLaw) (defBody sLaw) (defScope sLaw) .none kV9 dc9 pm9 an9 cd9 ct9, fun s v => .of_eq rfl, fun base _ _ =>
    (
    have E0 : ErrOk l.prog w K mg base "BadItem" "value" CC0 ff0 _ := ⟨PySem.W.mg_of X G xa0, ⟨⟨nm0, qq0, N0, bs0, _, sn0, sub0, ab0, col0, dd0, ma0, mb0, mc0, md0, me0, xL0, rfl⟩, xs0, xe0, xT0, xK0⟩, ⟨xg0, xh0, xe0, xD0⟩, ⟨xg0, xh0, xe0, xD0, xC0, yn, yt, xo0⟩, xn0, xi0, xt0, in_BadItem (fun_mk (st := initOf sCBadItem) xl0 xc0 xk0), fun _ _ => rfl, fun _ _ => rfl⟩
    have E1 : ErrOk l.prog w K mg base "BadRule" "value" CC1 ff1 _ := ⟨PySem.W.mg_of X G xa1, ⟨⟨nm1, qq1, N1, bs1, _, sn1, sub1, ab1, col1, dd1, ma1, mb1, mc1, md1, me1, xL1, rfl⟩, xs1, xe1, xT1, xK1⟩, ⟨xg1, xh1, xe1, xD1⟩, ⟨xg1, xh1, xe1, xD1, xC1, yn, yt, xo1⟩, xn1, xi1, xt1, in_BadRule (fun_mk (st := initOf sCBadRule) xl1 xc1 xk1), fun _ _ => rfl, fun _ _ => rfl⟩
    have E2 : ErrOk l.prog w K mg base "BadMove" "value" CC2 ff2 _ := ⟨PySem.W.mg_of X G xa2, ⟨⟨nm2, qq2, N2, bs2, _, sn2, sub2, ab2, col2, dd2, ma2, mb2, mc2, md2, me2, xL2, rfl⟩, xs2, xe2, xT2, xK2⟩, ⟨xg2, xh2, xe2, xD2⟩, ⟨xg2, xh2, xe2, xD2, xC2, yn, yt, xo2⟩, xn2, xi2, xt2, in_BadMove (fun_mk (st := initOf sCBadMove) xl2 xc2 xk2), fun _ _ => rfl, fun _ _ => rfl⟩
    have E3 : ErrOk l.prog w K mg base "BadStep" "value" CC3 ff3 _ := ⟨PySem.W.mg_of X G xa3, ⟨⟨nm3, qq3, N3, bs3, _, sn3, sub3, ab3, col3, dd3, ma3, mb3, mc3, md3, me3, xL3, rfl⟩, xs3, xe3, xT3, xK3⟩, ⟨xg3, xh3, xe3, xD3⟩, ⟨xg3, xh3, xe3, xD3, xC3, yn, yt, xo3⟩, xn3, xi3, xt3, in_BadStep (fun_mk (st := initOf sCBadStep) xl3 xc3 xk3), fun _ _ => rfl, fun _ _ => rfl⟩
    have E4 : ErrOk l.prog w K mg base "BadText" "value" CC4 ff4 _ := ⟨PySem.W.mg_of X G xa4, ⟨⟨nm4, qq4, N4, bs4, _, sn4, sub4, ab4, col4, dd4, ma4, mb4, mc4, md4, me4, xL4, rfl⟩, xs4, xe4, xT4, xK4⟩, ⟨xg4, xh4, xe4, xD4⟩, ⟨xg4, xh4, xe4, xD4, xC4, yn, yt, xo4⟩, xn4, xi4, xt4, in_BadText (fun_mk (st := initOf sCBadText) xl4 xc4 xk4), fun _ _ => rfl, fun _ _ => rfl⟩
    have E5 : ErrOk l.prog w K mg base "BadCommand" "command" CC5 ff5 _ := ⟨PySem.W.mg_of X G xa5, ⟨⟨nm5, qq5, N5, bs5, _, sn5, sub5, ab5, col5, dd5, ma5, mb5, mc5, md5, me5, xL5, rfl⟩, xs5, xe5, xT5, xK5⟩, ⟨xg5, xh5, xe5, xD5⟩, ⟨xg5, xh5, xe5, xD5, xC5, yn, yt, xo5⟩, xn5, xi5, xt5, in_BadCommand (fun_mk (st := initOf sCBadCommand) xl5 xc5 xk5), fun _ _ => rfl, fun _ _ => rfl⟩
    have E6 : ErrOk l.prog w K mg base "UnknownId" "row_id" CC6 ff6 _ := ⟨PySem.W.mg_of X G xa6, ⟨⟨nm6, qq6, N6, bs6, _, sn6, sub6, ab6, col6, dd6, ma6, mb6, mc6, md6, me6, xL6, rfl⟩, xs6, xe6, xT6, xK6⟩, ⟨xg6, xh6, xe6, xD6⟩, ⟨xg6, xh6, xe6, xD6, xC6, yn, yt, xo6⟩, xn6, xi6, xt6, in_UnknownId (fun_mk (st := initOf sCUnknownId) xl6 xc6 xk6), fun _ _ => rfl, fun _ _ => rfl⟩
    have E7 : ErrOk l.prog w K mg base "TakenId" "row_id" CC7 ff7 _ := ⟨PySem.W.mg_of X G xa7, ⟨⟨nm7, qq7, N7, bs7, _, sn7, sub7, ab7, col7, dd7, ma7, mb7, mc7, md7, me7, xL7, rfl⟩, xs7, xe7, xT7, xK7⟩, ⟨xg7, xh7, xe7, xD7⟩, ⟨xg7, xh7, xe7, xD7, xC7, yn, yt, xo7⟩, xn7, xi7, xt7, in_TakenId (fun_mk (st := initOf sCTakenId) xl7 xc7 xk7), fun _ _ => rfl, fun _ _ => rfl⟩
    have E8 : ErrOk l.prog w K mg base "TooMany" "count" CC8 ff8 _ := ⟨PySem.W.mg_of X G xa8, ⟨⟨nm8, qq8, N8, bs8, _, sn8, sub8, ab8, col8, dd8, ma8, mb8, mc8, md8, me8, xL8, rfl⟩, xs8, xe8, xT8, xK8⟩, ⟨xg8, xh8, xe8, xD8⟩, ⟨xg8, xh8, xe8, xD8, xC8, yn, yt, xo8⟩, xn8, xi8, xt8, in_TooMany (fun_mk (st := initOf sCTooMany) xl8 xc8 xk8), fun _ _ => rfl, fun _ _ => rfl⟩
    have E9 : ErrOk l.prog w K mg base "NothingToDo" "action" CC9 ff9 _ := ⟨PySem.W.mg_of X G xa9, ⟨⟨nm9, qq9, N9, bs9, _, sn9, sub9, ab9, col9, dd9, ma9, mb9, mc9, md9, me9, xL9, rfl⟩, xs9, xe9, xT9, xK9⟩, ⟨xg9, xh9, xe9, xD9⟩, ⟨xg9, xh9, xe9, xD9, xC9, yn, yt, xo9⟩, xn9, xi9, xt9, in_NothingToDo (fun_mk (st := initOf sCNothingToDo) xl9 xc9 xk9), fun _ _ => rfl, fun _ _ => rfl⟩
    have E10 : ErrOk l.prog w K mg base "UnknownName" "name" CC10 ff10 _ := ⟨PySem.W.mg_of X G xa10, ⟨⟨nm10, qq10, N10, bs10, _, sn10, sub10, ab10, col10, dd10, ma10, mb10, mc10, md10, me10, xL10, rfl⟩, xs10, xe10, xT10, xK10⟩, ⟨xg10, xh10, xe10, xD10⟩, ⟨xg10, xh10, xe10, xD10, xC10, yn, yt, xo10⟩, xn10, xi10, xt10, in_UnknownName (fun_mk (st := initOf sCUnknownName) xl10 xc10 xk10), fun _ _ => rfl, fun _ _ => rfl⟩
    have E11 : ErrOk l.prog w K mg base "NameTaken" "name" CC11 ff11 _ := ⟨PySem.W.mg_of X G xa11, ⟨⟨nm11, qq11, N11, bs11, _, sn11, sub11, ab11, col11, dd11, ma11, mb11, mc11, md11, me11, xL11, rfl⟩, xs11, xe11, xT11, xK11⟩, ⟨xg11, xh11, xe11, xD11⟩, ⟨xg11, xh11, xe11, xD11, xC11, yn, yt, xo11⟩, xn11, xi11, xt11, in_NameTaken (fun_mk (st := initOf sCNameTaken) xl11 xc11 xk11), fun _ _ => rfl, fun _ _ => rfl⟩
    have GD := ok_draw (P := l.prog) (w := w) (K := K) (mg := mg) (base := base) Dr.F
    have GC := ok_choose (P := l.prog) (w := w) (base := base) Ch.F ⟨n_len⟩ Dr.F Dr.b Dr.m
    have GVa := ok_values Va.F n_range GC Ch.F.kp Ch.b Ch.m GD Dr.F.kp Dr.b Dr.m
    have GKi := ok_kinds (P := l.prog) (w := w) (base := base) Ki.F n_isinstance (PySem.W.mg_of X G xa0) (PySem.W.mg_of X G xa1) (PySem.W.mg_of X G xa2) (PySem.W.mg_of X G xa3) (PySem.W.mg_of X G xa4) (PySem.W.mg_of X G xa5) (PySem.W.mg_of X G xa6) (PySem.W.mg_of X G xa7) (PySem.W.mg_of X G xa8) (PySem.W.mg_of X G xa9) (PySem.W.mg_of X G xa10) (PySem.W.mg_of X G xa11)
    have GOk := ok_oneKind Ok.F n_isinstance n_ValueError n_range (PySem.W.mg_of X G aH) GKi Ki.F.kp Ki.b Ki.m
    have GMa := ok_Made Ma.F E0 E1 E2 E3 E4 E5 E6 E7 E8 E9 E10 E11
    have GNa := ok_Named Na.F E0 E1 E2 E3 E4 E5 E6 E7 E8 E9 E10 E11
    ok_law (fun_mk (st := sLaw) l9 c9 k9) ⟨n_len⟩ ⟨n_range, n_max, n_min, n_repr, n_enumerate⟩ E0 E1 E2 E3 E4 E5 E6 E7 E8 E9 E10 E11 De Va GVa Ma GMa Na GNa Ok GOk
      (kit_all q0_0 q0_1 q0_2 q0_3 q0_4 q0_5 q0_6 q0_7 q0_8 q0_9 q0_10 q0_11 q1_0 q1_1 q1_2 q1_3 q1_4 q1_5 q1_6 q1_7 q1_8 q1_9 q1_10 q1_11 q2_0 q2_1 q2_2 q2_3 q2_4 q2_5 q2_6 q2_7 q2_8 q2_9 q2_10 q2_11 q3_0 q3_1 q3_2 q3_3 q3_4 q3_5 q3_6 q3_7 q3_8 q3_9 q3_10 q3_11 q4_0 q4_1 q4_2 q4_3 q4_4 q4_5 q4_6 q4_7 q4_8 q4_9 q4_10 q4_11 q5_0 q5_1 q5_2 q5_3 q5_4 q5_5 q5_6 q5_7 q5_8 q5_9 q5_10 q5_11 q6_0 q6_1 q6_2 q6_3 q6_4 q6_5 q6_6 q6_7 q6_8 q6_9 q6_10 q6_11 q7_0 q7_1 q7_2 q7_3 q7_4 q7_5 q7_6 q7_7 q7_8 q7_9 q7_10 q7_11 q8_0 q8_1 q8_2 q8_3 q8_4 q8_5 q8_6 q8_7 q8_8 q8_9 q8_10 q8_11 q9_0 q9_1 q9_2 q9_3 q9_4 q9_5 q9_6 q9_7 q9_8 q9_9 q9_10 q9_11 q10_0 q10_1 q10_2 q10_3 q10_4 q10_5 q10_6 q10_7 q10_8 q10_9 q10_10 q10_11 q11_0 q11_1 q11_2 q11_3 q11_4 q11_5 q11_6 q11_7 q11_8 q11_9 q11_10 q11_11)
      (fun C hC => by
        rcases List.mem_cons.mp hC with z | hC
        · rw [z]; exact xH0
        rcases List.mem_cons.mp hC with z | hC
        · rw [z]; exact xH1
        rcases List.mem_cons.mp hC with z | hC
        · rw [z]; exact xH2
        rcases List.mem_cons.mp hC with z | hC
        · rw [z]; exact xH3
        rcases List.mem_cons.mp hC with z | hC
        · rw [z]; exact xH4
        rcases List.mem_cons.mp hC with z | hC
        · rw [z]; exact xH5
        rcases List.mem_cons.mp hC with z | hC
        · rw [z]; exact xH6
        rcases List.mem_cons.mp hC with z | hC
        · rw [z]; exact xH7
        rcases List.mem_cons.mp hC with z | hC
        · rw [z]; exact xH8
        rcases List.mem_cons.mp hC with z | hC
        · rw [z]; exact xH9
        rcases List.mem_cons.mp hC with z | hC
        · rw [z]; exact xH10
        rw [List.mem_singleton.mp hC]; exact xH11)
      (fun C hC => by
        rcases List.mem_cons.mp hC with z | hC
        · rw [z]; exact xV0
        rcases List.mem_cons.mp hC with z | hC
        · rw [z]; exact xV1
        rcases List.mem_cons.mp hC with z | hC
        · rw [z]; exact xV2
        rcases List.mem_cons.mp hC with z | hC
        · rw [z]; exact xV3
        rcases List.mem_cons.mp hC with z | hC
        · rw [z]; exact xV4
        rcases List.mem_cons.mp hC with z | hC
        · rw [z]; exact xV5
        rcases List.mem_cons.mp hC with z | hC
        · rw [z]; exact xV6
        rcases List.mem_cons.mp hC with z | hC
        · rw [z]; exact xV7
        rcases List.mem_cons.mp hC with z | hC
        · rw [z]; exact xV8
        rcases List.mem_cons.mp hC with z | hC
        · rw [z]; exact xV9
        rcases List.mem_cons.mp hC with z | hC
        · rw [z]; exact xV10
        rw [List.mem_singleton.mp hC]; exact xV11))⟩
end Hk
open PySem PySem.W PyProof.Rows in
set_option maxRecDepth 100000 in
set_option maxHeartbeats 0 in
theorem PySem.Challenge.cw_handsorted_k03_errors_made_holds : PySem.Challenge.rw_handsorted_k03_errors_made.Holds := by
  w_on; o_law; k_head; (case hw => w_witness2)
  k_fill
  refine Hk.walkG (l := PySem.Challenge.rw_handsorted_k03_errors_made) (n := 63) (k := 4) (x := "script") (sp := Hk.spLaw) rfl (by decide) rfl ⟨rfl, by decide, by decide⟩ (fun w h Y => PySem.W.kIn_of Y) ?F (fun _ _ a ns hl hb hS => ⟨a, ns, rfl, hS, hl, hb, fun _ => rfl⟩)
  case F =>
    intro w mg fa h KX G hmg
    refine' Hk.all_mk KX G hmg ?a1 ?l1 ?c1 ?k1 ?a2 ?l2 ?c2 ?k2 ?a3 ?l3 ?c3 ?k3 ?a4 ?l4 ?c4 ?k4 ?a5 ?l5 ?c5 ?k5 ?a6 ?l6 ?c6 ?k6 ?a7 ?l7 ?c7 ?k7 ?a8 ?l8 ?c8 ?k8 ?a9 ?l9 ?c9 ?k9 ?z0 ?z1 ?z2 ?z3 ?z4 ?z5 ?z6 ?z7 ?aH ?xa0 ?xL0 ?xs0 ?xg0 ?xh0 ?xn0 ?xi0 ?xt0 ?xl0 ?xc0 ?xk0 ?xK0 ?xe0 ?xT0 ?xD0 ?xC0 ?xo0 ?xH0 ?xV0 ?xa1 ?xL1 ?xs1 ?xg1 ?xh1 ?xn1 ?xi1 ?xt1 ?xl1 ?xc1 ?xk1 ?xK1 ?xe1 ?xT1 ?xD1 ?xC1 ?xo1 ?xH1 ?xV1 ?xa2 ?xL2 ?xs2 ?xg2 ?xh2 ?xn2 ?xi2 ?xt2 ?xl2 ?xc2 ?xk2 ?xK2 ?xe2 ?xT2 ?xD2 ?xC2 ?xo2 ?xH2 ?xV2 ?xa3 ?xL3 ?xs3 ?xg3 ?xh3 ?xn3 ?xi3 ?xt3 ?xl3 ?xc3 ?xk3 ?xK3 ?xe3 ?xT3 ?xD3 ?xC3 ?xo3 ?xH3 ?xV3 ?xa4 ?xL4 ?xs4 ?xg4 ?xh4 ?xn4 ?xi4 ?xt4 ?xl4 ?xc4 ?xk4 ?xK4 ?xe4 ?xT4 ?xD4 ?xC4 ?xo4 ?xH4 ?xV4 ?xa5 ?xL5 ?xs5 ?xg5 ?xh5 ?xn5 ?xi5 ?xt5 ?xl5 ?xc5 ?xk5 ?xK5 ?xe5 ?xT5 ?xD5 ?xC5 ?xo5 ?xH5 ?xV5 ?xa6 ?xL6 ?xs6 ?xg6 ?xh6 ?xn6 ?xi6 ?xt6 ?xl6 ?xc6 ?xk6 ?xK6 ?xe6 ?xT6 ?xD6 ?xC6 ?xo6 ?xH6 ?xV6 ?xa7 ?xL7 ?xs7 ?xg7 ?xh7 ?xn7 ?xi7 ?xt7 ?xl7 ?xc7 ?xk7 ?xK7 ?xe7 ?xT7 ?xD7 ?xC7 ?xo7 ?xH7 ?xV7 ?xa8 ?xL8 ?xs8 ?xg8 ?xh8 ?xn8 ?xi8 ?xt8 ?xl8 ?xc8 ?xk8 ?xK8 ?xe8 ?xT8 ?xD8 ?xC8 ?xo8 ?xH8 ?xV8 ?xa9 ?xL9 ?xs9 ?xg9 ?xh9 ?xn9 ?xi9 ?xt9 ?xl9 ?xc9 ?xk9 ?xK9 ?xe9 ?xT9 ?xD9 ?xC9 ?xo9 ?xH9 ?xV9 ?xa10 ?xL10 ?xs10 ?xg10 ?xh10 ?xn10 ?xi10 ?xt10 ?xl10 ?xc10 ?xk10 ?xK10 ?xe10 ?xT10 ?xD10 ?xC10 ?xo10 ?xH10 ?xV10 ?xa11 ?xL11 ?xs11 ?xg11 ?xh11 ?xn11 ?xi11 ?xt11 ?xl11 ?xc11 ?xk11 ?xK11 ?xe11 ?xT11 ?xD11 ?xC11 ?xo11 ?xH11 ?xV11 ?yn ?yt ?q0_0 ?q0_1 ?q0_2 ?q0_3 ?q0_4 ?q0_5 ?q0_6 ?q0_7 ?q0_8 ?q0_9 ?q0_10 ?q0_11 ?q1_0 ?q1_1 ?q1_2 ?q1_3 ?q1_4 ?q1_5 ?q1_6 ?q1_7 ?q1_8 ?q1_9 ?q1_10 ?q1_11 ?q2_0 ?q2_1 ?q2_2 ?q2_3 ?q2_4 ?q2_5 ?q2_6 ?q2_7 ?q2_8 ?q2_9 ?q2_10 ?q2_11 ?q3_0 ?q3_1 ?q3_2 ?q3_3 ?q3_4 ?q3_5 ?q3_6 ?q3_7 ?q3_8 ?q3_9 ?q3_10 ?q3_11 ?q4_0 ?q4_1 ?q4_2 ?q4_3 ?q4_4 ?q4_5 ?q4_6 ?q4_7 ?q4_8 ?q4_9 ?q4_10 ?q4_11 ?q5_0 ?q5_1 ?q5_2 ?q5_3 ?q5_4 ?q5_5 ?q5_6 ?q5_7 ?q5_8 ?q5_9 ?q5_10 ?q5_11 ?q6_0 ?q6_1 ?q6_2 ?q6_3 ?q6_4 ?q6_5 ?q6_6 ?q6_7 ?q6_8 ?q6_9 ?q6_10 ?q6_11 ?q7_0 ?q7_1 ?q7_2 ?q7_3 ?q7_4 ?q7_5 ?q7_6 ?q7_7 ?q7_8 ?q7_9 ?q7_10 ?q7_11 ?q8_0 ?q8_1 ?q8_2 ?q8_3 ?q8_4 ?q8_5 ?q8_6 ?q8_7 ?q8_8 ?q8_9 ?q8_10 ?q8_11 ?q9_0 ?q9_1 ?q9_2 ?q9_3 ?q9_4 ?q9_5 ?q9_6 ?q9_7 ?q9_8 ?q9_9 ?q9_10 ?q9_11 ?q10_0 ?q10_1 ?q10_2 ?q10_3 ?q10_4 ?q10_5 ?q10_6 ?q10_7 ?q10_8 ?q10_9 ?q10_10 ?q10_11 ?q11_0 ?q11_1 ?q11_2 ?q11_3 ?q11_4 ?q11_5 ?q11_6 ?q11_7 ?q11_8 ?q11_9 ?q11_10 ?q11_11
    (case a1 => k_is)
    (case l1 => k_is)
    (case c1 => k_is)
    (case k1 => k_is)
    (case a2 => k_is)
    (case l2 => k_is)
    (case c2 => k_is)
    (case k2 => k_is)
    (case a3 => k_is)
    (case l3 => k_is)
    (case c3 => k_is)
    (case k3 => k_is)
    (case a4 => k_is)
    (case l4 => k_is)
    (case c4 => k_is)
    (case k4 => k_is)
    (case a5 => k_is)
    (case l5 => k_is)
    (case c5 => k_is)
    (case k5 => k_is)
    (case a6 => k_is)
    (case l6 => k_is)
    (case c6 => k_is)
    (case k6 => k_is)
    (case a7 => k_is)
    (case l7 => k_is)
    (case c7 => k_is)
    (case k7 => k_is)
    (case a8 => k_is)
    (case l8 => k_is)
    (case c8 => k_is)
    (case k8 => k_is)
    (case a9 => k_is)
    (case l9 => k_is)
    (case c9 => k_is)
    (case k9 => k_is)
    (case z0 => k_is)
    (case z1 => k_is)
    (case z2 => k_is)
    (case z3 => k_is)
    (case z4 => k_is)
    (case z5 => k_is)
    (case z6 => k_is)
    (case z7 => k_is)
    (case aH => k_is)
    (case xa0 => k_is)
    (case xL0 => k_is)
    (case xs0 => k_is)
    (case xg0 => k_is)
    (case xh0 => k_is)
    (case xn0 => k_is)
    (case xi0 => k_is)
    (case xt0 => k_is)
    (case xl0 => k_is)
    (case xc0 => k_is)
    (case xk0 => k_is)
    (case xK0 => k_is)
    (case xe0 => k_is)
    (case xT0 => k_is)
    (case xD0 => k_is)
    (case xC0 => k_is)
    (case xo0 => k_is)
    (case xH0 => first | k_is | rfl | decide +kernel)
    (case xV0 => first | k_is | rfl | decide +kernel)
    (case xa1 => k_is)
    (case xL1 => k_is)
    (case xs1 => k_is)
    (case xg1 => k_is)
    (case xh1 => k_is)
    (case xn1 => k_is)
    (case xi1 => k_is)
    (case xt1 => k_is)
    (case xl1 => k_is)
    (case xc1 => k_is)
    (case xk1 => k_is)
    (case xK1 => k_is)
    (case xe1 => k_is)
    (case xT1 => k_is)
    (case xD1 => k_is)
    (case xC1 => k_is)
    (case xo1 => k_is)
    (case xH1 => first | k_is | rfl | decide +kernel)
    (case xV1 => first | k_is | rfl | decide +kernel)
    (case xa2 => k_is)
    (case xL2 => k_is)
    (case xs2 => k_is)
    (case xg2 => k_is)
    (case xh2 => k_is)
    (case xn2 => k_is)
    (case xi2 => k_is)
    (case xt2 => k_is)
    (case xl2 => k_is)
    (case xc2 => k_is)
    (case xk2 => k_is)
    (case xK2 => k_is)
    (case xe2 => k_is)
    (case xT2 => k_is)
    (case xD2 => k_is)
    (case xC2 => k_is)
    (case xo2 => k_is)
    (case xH2 => first | k_is | rfl | decide +kernel)
    (case xV2 => first | k_is | rfl | decide +kernel)
    (case xa3 => k_is)
    (case xL3 => k_is)
    (case xs3 => k_is)
    (case xg3 => k_is)
    (case xh3 => k_is)
    (case xn3 => k_is)
    (case xi3 => k_is)
    (case xt3 => k_is)
    (case xl3 => k_is)
    (case xc3 => k_is)
    (case xk3 => k_is)
    (case xK3 => k_is)
    (case xe3 => k_is)
    (case xT3 => k_is)
    (case xD3 => k_is)
    (case xC3 => k_is)
    (case xo3 => k_is)
    (case xH3 => first | k_is | rfl | decide +kernel)
    (case xV3 => first | k_is | rfl | decide +kernel)
    (case xa4 => k_is)
    (case xL4 => k_is)
    (case xs4 => k_is)
    (case xg4 => k_is)
    (case xh4 => k_is)
    (case xn4 => k_is)
    (case xi4 => k_is)
    (case xt4 => k_is)
    (case xl4 => k_is)
    (case xc4 => k_is)
    (case xk4 => k_is)
    (case xK4 => k_is)
    (case xe4 => k_is)
    (case xT4 => k_is)
    (case xD4 => k_is)
    (case xC4 => k_is)
    (case xo4 => k_is)
    (case xH4 => first | k_is | rfl | decide +kernel)
    (case xV4 => first | k_is | rfl | decide +kernel)
    (case xa5 => k_is)
    (case xL5 => k_is)
    (case xs5 => k_is)
    (case xg5 => k_is)
    (case xh5 => k_is)
    (case xn5 => k_is)
    (case xi5 => k_is)
    (case xt5 => k_is)
    (case xl5 => k_is)
    (case xc5 => k_is)
    (case xk5 => k_is)
    (case xK5 => k_is)
    (case xe5 => k_is)
    (case xT5 => k_is)
    (case xD5 => k_is)
    (case xC5 => k_is)
    (case xo5 => k_is)
    (case xH5 => first | k_is | rfl | decide +kernel)
    (case xV5 => first | k_is | rfl | decide +kernel)
    (case xa6 => k_is)
    (case xL6 => k_is)
    (case xs6 => k_is)
    (case xg6 => k_is)
    (case xh6 => k_is)
    (case xn6 => k_is)
    (case xi6 => k_is)
    (case xt6 => k_is)
    (case xl6 => k_is)
    (case xc6 => k_is)
    (case xk6 => k_is)
    (case xK6 => k_is)
    (case xe6 => k_is)
    (case xT6 => k_is)
    (case xD6 => k_is)
    (case xC6 => k_is)
    (case xo6 => k_is)
    (case xH6 => first | k_is | rfl | decide +kernel)
    (case xV6 => first | k_is | rfl | decide +kernel)
    (case xa7 => k_is)
    (case xL7 => k_is)
    (case xs7 => k_is)
    (case xg7 => k_is)
    (case xh7 => k_is)
    (case xn7 => k_is)
    (case xi7 => k_is)
    (case xt7 => k_is)
    (case xl7 => k_is)
    (case xc7 => k_is)
    (case xk7 => k_is)
    (case xK7 => k_is)
    (case xe7 => k_is)
    (case xT7 => k_is)
    (case xD7 => k_is)
    (case xC7 => k_is)
    (case xo7 => k_is)
    (case xH7 => first | k_is | rfl | decide +kernel)
    (case xV7 => first | k_is | rfl | decide +kernel)
    (case xa8 => k_is)
    (case xL8 => k_is)
    (case xs8 => k_is)
    (case xg8 => k_is)
    (case xh8 => k_is)
    (case xn8 => k_is)
    (case xi8 => k_is)
    (case xt8 => k_is)
    (case xl8 => k_is)
    (case xc8 => k_is)
    (case xk8 => k_is)
    (case xK8 => k_is)
    (case xe8 => k_is)
    (case xT8 => k_is)
    (case xD8 => k_is)
    (case xC8 => k_is)
    (case xo8 => k_is)
    (case xH8 => first | k_is | rfl | decide +kernel)
    (case xV8 => first | k_is | rfl | decide +kernel)
    (case xa9 => k_is)
    (case xL9 => k_is)
    (case xs9 => k_is)
    (case xg9 => k_is)
    (case xh9 => k_is)
    (case xn9 => k_is)
    (case xi9 => k_is)
    (case xt9 => k_is)
    (case xl9 => k_is)
    (case xc9 => k_is)
    (case xk9 => k_is)
    (case xK9 => k_is)
    (case xe9 => k_is)
    (case xT9 => k_is)
    (case xD9 => k_is)
    (case xC9 => k_is)
    (case xo9 => k_is)
    (case xH9 => first | k_is | rfl | decide +kernel)
    (case xV9 => first | k_is | rfl | decide +kernel)
    (case xa10 => k_is)
    (case xL10 => k_is)
    (case xs10 => k_is)
    (case xg10 => k_is)
    (case xh10 => k_is)
    (case xn10 => k_is)
    (case xi10 => k_is)
    (case xt10 => k_is)
    (case xl10 => k_is)
    (case xc10 => k_is)
    (case xk10 => k_is)
    (case xK10 => k_is)
    (case xe10 => k_is)
    (case xT10 => k_is)
    (case xD10 => k_is)
    (case xC10 => k_is)
    (case xo10 => k_is)
    (case xH10 => first | k_is | rfl | decide +kernel)
    (case xV10 => first | k_is | rfl | decide +kernel)
    (case xa11 => k_is)
    (case xL11 => k_is)
    (case xs11 => k_is)
    (case xg11 => k_is)
    (case xh11 => k_is)
    (case xn11 => k_is)
    (case xi11 => k_is)
    (case xt11 => k_is)
    (case xl11 => k_is)
    (case xc11 => k_is)
    (case xk11 => k_is)
    (case xK11 => k_is)
    (case xe11 => k_is)
    (case xT11 => k_is)
    (case xD11 => k_is)
    (case xC11 => k_is)
    (case xo11 => k_is)
    (case xH11 => first | k_is | rfl | decide +kernel)
    (case xV11 => first | k_is | rfl | decide +kernel)
    (case yn => first | k_is | rfl | decide +kernel)
    (case yt => first | k_is | rfl | decide +kernel)
    (case q0_0 => first | k_is | rfl | decide +kernel)
    (case q0_1 => first | k_is | rfl | decide +kernel)
    (case q0_2 => first | k_is | rfl | decide +kernel)
    (case q0_3 => first | k_is | rfl | decide +kernel)
    (case q0_4 => first | k_is | rfl | decide +kernel)
    (case q0_5 => first | k_is | rfl | decide +kernel)
    (case q0_6 => first | k_is | rfl | decide +kernel)
    (case q0_7 => first | k_is | rfl | decide +kernel)
    (case q0_8 => first | k_is | rfl | decide +kernel)
    (case q0_9 => first | k_is | rfl | decide +kernel)
    (case q0_10 => first | k_is | rfl | decide +kernel)
    (case q0_11 => first | k_is | rfl | decide +kernel)
    (case q1_0 => first | k_is | rfl | decide +kernel)
    (case q1_1 => first | k_is | rfl | decide +kernel)
    (case q1_2 => first | k_is | rfl | decide +kernel)
    (case q1_3 => first | k_is | rfl | decide +kernel)
    (case q1_4 => first | k_is | rfl | decide +kernel)
    (case q1_5 => first | k_is | rfl | decide +kernel)
    (case q1_6 => first | k_is | rfl | decide +kernel)
    (case q1_7 => first | k_is | rfl | decide +kernel)
    (case q1_8 => first | k_is | rfl | decide +kernel)
    (case q1_9 => first | k_is | rfl | decide +kernel)
    (case q1_10 => first | k_is | rfl | decide +kernel)
    (case q1_11 => first | k_is | rfl | decide +kernel)
    (case q2_0 => first | k_is | rfl | decide +kernel)
    (case q2_1 => first | k_is | rfl | decide +kernel)
    (case q2_2 => first | k_is | rfl | decide +kernel)
    (case q2_3 => first | k_is | rfl | decide +kernel)
    (case q2_4 => first | k_is | rfl | decide +kernel)
    (case q2_5 => first | k_is | rfl | decide +kernel)
    (case q2_6 => first | k_is | rfl | decide +kernel)
    (case q2_7 => first | k_is | rfl | decide +kernel)
    (case q2_8 => first | k_is | rfl | decide +kernel)
    (case q2_9 => first | k_is | rfl | decide +kernel)
    (case q2_10 => first | k_is | rfl | decide +kernel)
    (case q2_11 => first | k_is | rfl | decide +kernel)
    (case q3_0 => first | k_is | rfl | decide +kernel)
    (case q3_1 => first | k_is | rfl | decide +kernel)
    (case q3_2 => first | k_is | rfl | decide +kernel)
    (case q3_3 => first | k_is | rfl | decide +kernel)
    (case q3_4 => first | k_is | rfl | decide +kernel)
    (case q3_5 => first | k_is | rfl | decide +kernel)
    (case q3_6 => first | k_is | rfl | decide +kernel)
    (case q3_7 => first | k_is | rfl | decide +kernel)
    (case q3_8 => first | k_is | rfl | decide +kernel)
    (case q3_9 => first | k_is | rfl | decide +kernel)
    (case q3_10 => first | k_is | rfl | decide +kernel)
    (case q3_11 => first | k_is | rfl | decide +kernel)
    (case q4_0 => first | k_is | rfl | decide +kernel)
    (case q4_1 => first | k_is | rfl | decide +kernel)
    (case q4_2 => first | k_is | rfl | decide +kernel)
    (case q4_3 => first | k_is | rfl | decide +kernel)
    (case q4_4 => first | k_is | rfl | decide +kernel)
    (case q4_5 => first | k_is | rfl | decide +kernel)
    (case q4_6 => first | k_is | rfl | decide +kernel)
    (case q4_7 => first | k_is | rfl | decide +kernel)
    (case q4_8 => first | k_is | rfl | decide +kernel)
    (case q4_9 => first | k_is | rfl | decide +kernel)
    (case q4_10 => first | k_is | rfl | decide +kernel)
    (case q4_11 => first | k_is | rfl | decide +kernel)
    (case q5_0 => first | k_is | rfl | decide +kernel)
    (case q5_1 => first | k_is | rfl | decide +kernel)
    (case q5_2 => first | k_is | rfl | decide +kernel)
    (case q5_3 => first | k_is | rfl | decide +kernel)
    (case q5_4 => first | k_is | rfl | decide +kernel)
    (case q5_5 => first | k_is | rfl | decide +kernel)
    (case q5_6 => first | k_is | rfl | decide +kernel)
    (case q5_7 => first | k_is | rfl | decide +kernel)
    (case q5_8 => first | k_is | rfl | decide +kernel)
    (case q5_9 => first | k_is | rfl | decide +kernel)
    (case q5_10 => first | k_is | rfl | decide +kernel)
    (case q5_11 => first | k_is | rfl | decide +kernel)
    (case q6_0 => first | k_is | rfl | decide +kernel)
    (case q6_1 => first | k_is | rfl | decide +kernel)
    (case q6_2 => first | k_is | rfl | decide +kernel)
    (case q6_3 => first | k_is | rfl | decide +kernel)
    (case q6_4 => first | k_is | rfl | decide +kernel)
    (case q6_5 => first | k_is | rfl | decide +kernel)
    (case q6_6 => first | k_is | rfl | decide +kernel)
    (case q6_7 => first | k_is | rfl | decide +kernel)
    (case q6_8 => first | k_is | rfl | decide +kernel)
    (case q6_9 => first | k_is | rfl | decide +kernel)
    (case q6_10 => first | k_is | rfl | decide +kernel)
    (case q6_11 => first | k_is | rfl | decide +kernel)
    (case q7_0 => first | k_is | rfl | decide +kernel)
    (case q7_1 => first | k_is | rfl | decide +kernel)
    (case q7_2 => first | k_is | rfl | decide +kernel)
    (case q7_3 => first | k_is | rfl | decide +kernel)
    (case q7_4 => first | k_is | rfl | decide +kernel)
    (case q7_5 => first | k_is | rfl | decide +kernel)
    (case q7_6 => first | k_is | rfl | decide +kernel)
    (case q7_7 => first | k_is | rfl | decide +kernel)
    (case q7_8 => first | k_is | rfl | decide +kernel)
    (case q7_9 => first | k_is | rfl | decide +kernel)
    (case q7_10 => first | k_is | rfl | decide +kernel)
    (case q7_11 => first | k_is | rfl | decide +kernel)
    (case q8_0 => first | k_is | rfl | decide +kernel)
    (case q8_1 => first | k_is | rfl | decide +kernel)
    (case q8_2 => first | k_is | rfl | decide +kernel)
    (case q8_3 => first | k_is | rfl | decide +kernel)
    (case q8_4 => first | k_is | rfl | decide +kernel)
    (case q8_5 => first | k_is | rfl | decide +kernel)
    (case q8_6 => first | k_is | rfl | decide +kernel)
    (case q8_7 => first | k_is | rfl | decide +kernel)
    (case q8_8 => first | k_is | rfl | decide +kernel)
    (case q8_9 => first | k_is | rfl | decide +kernel)
    (case q8_10 => first | k_is | rfl | decide +kernel)
    (case q8_11 => first | k_is | rfl | decide +kernel)
    (case q9_0 => first | k_is | rfl | decide +kernel)
    (case q9_1 => first | k_is | rfl | decide +kernel)
    (case q9_2 => first | k_is | rfl | decide +kernel)
    (case q9_3 => first | k_is | rfl | decide +kernel)
    (case q9_4 => first | k_is | rfl | decide +kernel)
    (case q9_5 => first | k_is | rfl | decide +kernel)
    (case q9_6 => first | k_is | rfl | decide +kernel)
    (case q9_7 => first | k_is | rfl | decide +kernel)
    (case q9_8 => first | k_is | rfl | decide +kernel)
    (case q9_9 => first | k_is | rfl | decide +kernel)
    (case q9_10 => first | k_is | rfl | decide +kernel)
    (case q9_11 => first | k_is | rfl | decide +kernel)
    (case q10_0 => first | k_is | rfl | decide +kernel)
    (case q10_1 => first | k_is | rfl | decide +kernel)
    (case q10_2 => first | k_is | rfl | decide +kernel)
    (case q10_3 => first | k_is | rfl | decide +kernel)
    (case q10_4 => first | k_is | rfl | decide +kernel)
    (case q10_5 => first | k_is | rfl | decide +kernel)
    (case q10_6 => first | k_is | rfl | decide +kernel)
    (case q10_7 => first | k_is | rfl | decide +kernel)
    (case q10_8 => first | k_is | rfl | decide +kernel)
    (case q10_9 => first | k_is | rfl | decide +kernel)
    (case q10_10 => first | k_is | rfl | decide +kernel)
    (case q10_11 => first | k_is | rfl | decide +kernel)
    (case q11_0 => first | k_is | rfl | decide +kernel)
    (case q11_1 => first | k_is | rfl | decide +kernel)
    (case q11_2 => first | k_is | rfl | decide +kernel)
    (case q11_3 => first | k_is | rfl | decide +kernel)
    (case q11_4 => first | k_is | rfl | decide +kernel)
    (case q11_5 => first | k_is | rfl | decide +kernel)
    (case q11_6 => first | k_is | rfl | decide +kernel)
    (case q11_7 => first | k_is | rfl | decide +kernel)
    (case q11_8 => first | k_is | rfl | decide +kernel)
    (case q11_9 => first | k_is | rfl | decide +kernel)
    (case q11_10 => first | k_is | rfl | decide +kernel)
    (case q11_11 => first | k_is | rfl | decide +kernel)

