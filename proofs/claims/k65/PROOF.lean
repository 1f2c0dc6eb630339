import PyProof.Rows.All
import Wide.All
import OpenK.AllK
import Wide.FinOn
import HandS.Base
import HandS.Call
import HandS.Comp
import HandS.Dict
import HandS.DictSubView
import HandS.Ends
import HandS.List
import HandS.Sort
import HandS.SortKw
import HandS.Words
import HandS.WordsDict
import HandS.WordsList
import HandS.ForMost
import HandS.EndBits
import HandS.Set
import HandS.SetFor
import HandS.SetKeys
import HandS.Strs
import HandS.Conv
import HandS.IsInst
import PyProof.ReprRoads
import PyProof.EqAt
import PyProof.EqKinds
import PyProof.TupleCall
import HandS.Walk
import HandS.Style
import HandS.Star
import HandS.GenList
import HandS.Defaults
import HandS.DictComp
import HandS.Iter
import HandS.ListItems
import HandS.DictTup
import KE.KSortedM
import KE.SortData
import KE.DataCmp
import KE.KDictZip
import KE.KTurns
import KE.DataMinMax
import KE.KItemsList
import KE.SortCalls
import PyProof.Rows.SortWalk
import PyProof.Rows.CallKwBuiltin
import HandS.Wide
import HandS.WideBits
import HandS.TupAny
import PyProof.NeKinds
import PyProof.Rows.TupMore
import PyProof.Rows.IntBool
import HandS.Finally
import KE.KEqDict
import PySem.Challenge.RW_handsorted_k65_best_sets_judged
set_option Elab.async false
set_option linter.all false
set_option maxRecDepth 100000
set_option maxHeartbeats 8000000
namespace Hk
open PySem L2 PySem.Spec PyProof.Rows
def top (i : Nat) : Stmt := PySem.Challenge.pw_handsorted_k65_best_sets_judged.main.body.getD i (.Pass ⟨0, 0, 0, 0⟩)
abbrev sWhole : Stmt := top 1
abbrev sPlaces : Stmt := top 3
abbrev sFull : Stmt := top 5
abbrev sTotal : Stmt := top 6
abbrev sTops : Stmt := top 8
abbrev sFavs : Stmt := top 9
abbrev sBest : Stmt := top 10
abbrev sCover : Stmt := top 12
abbrev sExact : Stmt := top 13
abbrev sIsChain : Stmt := top 14
abbrev sIsRun : Stmt := top 15
abbrev sTimes : Stmt := top 16
abbrev sCovSize : Stmt := top 17
abbrev sIsCover : Stmt := top 18
abbrev sIsBest : Stmt := top 19
abbrev sDeck : Stmt := top 21
abbrev sDraw : Stmt := top 22
abbrev sChoose : Stmt := top 23
abbrev sShuf : Stmt := top 24
abbrev sIds : Stmt := top 25
abbrev sGoal : Stmt := top 26
abbrev sLoads : Stmt := top 27
abbrev sLoad : Stmt := top 28
abbrev sLiked : Stmt := top 29
abbrev sLawExact : Stmt := top 30
abbrev sIsNum : Stmt := top 31
abbrev sLawIsRun : Stmt := top 32
abbrev sLawCovers : Stmt := top 33
abbrev sBentRun : Stmt := top 34
abbrev sBentCov : Stmt := top 35
abbrev sIsRight : Stmt := top 36
abbrev sBentIds : Stmt := top 37
abbrev sLaw : Stmt := top 38
/-! ### numbers of any size -/
def CPowG (i j : Int) : Prop := 0 ≤ j ∧ (Builtin.Int.intBits i : Int) * j ≤ 2 ^ 27
section
variable {X : Cx}
theorem op_mulG : OpR X (binaryOp .Mult) (rI IntMulOk fun i j => .int (i * j)) := opI fun _ _ _ _ _ _ _ hc q => mul_int q hc
theorem op_powG : OpR X (binaryOp .Pow) (rI CPowG fun i j => .int (i ^ j.toNat)) := opI fun _ _ _ _ _ _ _ hc q => pow_int hc.1 hc.2 q
end
theorem mulOk_bits {i j : Int} {a b : Nat} (ha : Builtin.Int.intBits i ≤ a) (hb : Builtin.Int.intBits j ≤ b) (h : a + b ≤ 100000000) : IntMulOk i j := by
  have e : bitsLine = 134217728 := by decide
  unfold IntMulOk
  intro z
  rw [Bool.and_eq_true] at z
  have z2 := z.2
  unfold Builtin.Int.intTooBig at z2
  have z3 := of_decide_eq_true z2
  rw [e] at z3
  omega
theorem bits_le {i : Int} {n : Nat} (h : i.natAbs < 2 ^ n) : Builtin.Int.intBits i ≤ n := intBits_le h
/-- the turn of the deck's loop -/
theorem turn_bits {m e : Int} {k : Nat} (h0 : 0 ≤ m) (h1 : m < 2147483600) (he : Builtin.Int.intBits e ≤ k) (hk : 30 ≤ k) :
    Builtin.Int.intBits (m * 20011 + e * e + 13) ≤ 2 * k + 1 := by
  refine bits_le ?_
  have a1 : e.natAbs < 2 ^ k := Nat.lt_of_lt_of_le (natAbs_lt_pow_bits e) (Nat.pow_le_pow_right (by omega) he)
  have a2 : (e * e).natAbs < 2 ^ (2 * k) := by
    rw [Int.natAbs_mul, Nat.two_mul, Nat.pow_add]
    exact Nat.mul_lt_mul'' a1 a1
  have a3 : (m * 20011 + 13).natAbs < 2 ^ 60 := by
    have : (2 : Nat) ^ 60 = 1152921504606846976 := by decide
    omega
  have a4 : (2 : Nat) ^ 60 ≤ 2 ^ (2 * k) := Nat.pow_le_pow_right (by omega) (by omega)
  have a5 : (2 : Nat) ^ (2 * k + 1) = 2 ^ (2 * k) + 2 ^ (2 * k) := by rw [Nat.pow_succ, Nat.mul_two]
  rw [a5]
  generalize (2 : Nat) ^ (2 * k) = B at *
  generalize e * e = q at *
  omega
/-! ### the deck -/
def dk (x y : Int) : List (Key × V) := [(.inr "digits", .int x), (.inr "mixed", .int y)]
def DeckAt (H : Hp) (d : Addr) : Prop := ∃ x y : Int, H d = some (.dK (dk x y)) ∧ 0 ≤ x ∧ 0 ≤ y ∧ y < 2147483600
/-- all that was tracked is as it was, but what stands at d -/
def But (d : Addr) (H H' : Hp) : Prop := ∀ b o, b ≠ d → H b = some o → H' b = some o
theorem But.refl (d : Addr) (H : Hp) : But d H H := fun _ _ _ h => h
theorem But.trans {d : Addr} {H H1 H2 : Hp} (a : But d H H1) (b : But d H1 H2) : But d H H2 := fun c o n h => b c o n (a c o n h)
theorem But.of {d : Addr} {H H' : Hp} (a : Same H H') : But d H H' := fun c o _ h => a c o h
theorem But.upd {d : Addr} {H : Hp} {o : HO} : But d H (upd H d o) := fun b u n h => by rw [upd_ne n]; exact h
theorem But.new {d p : Addr} {H : Hp} {o : HO} (h : H p = none) : But d H (L2.upd H p o) := fun b u n e => by rw [upd_ne (ne_of_none e h)]; exact e
theorem Same.new {p : Addr} {H : Hp} {o : HO} (h : H p = none) : Same H (L2.upd H p o) := fun b u e => by rw [upd_ne (ne_of_none e h)]; exact e
theorem DeckAt.same {H H' : Hp} {d : Addr} (D : DeckAt H d) (s : Same H H') : DeckAt H' d := let ⟨x, y, h, r⟩ := D; ⟨x, y, s _ _ h, r⟩
theorem dm_ : ¬ (("digits" : Str) = "mixed") := by decide +kernel
theorem md_ : ¬ (("mixed" : Str) = "digits") := by decide +kernel
theorem dk_digits (x y : Int) : valV (dk x y) (Sum.inr "digits" : Key) = some (.int x) := by
  unfold valV dk
  rw [List.find?_cons_of_pos]
  · rfl
  · exact decide_eq_true rfl
theorem dk_mixed (x y : Int) : valV (dk x y) (Sum.inr "mixed" : Key) = some (.int y) := by
  unfold valV dk
  rw [List.find?_cons_of_neg, List.find?_cons_of_pos]
  · rfl
  · exact decide_eq_true rfl
  · intro q
    exact dm_ (Sum.inr.inj (of_decide_eq_true q))
theorem dk_put_digits (x y z : Int) : putK (dk x y) (Sum.inr "digits" : Key) (.int z) = dk z y := by
  unfold putK dk
  have n : ¬ (Sum.inr "mixed" : Key) = (Sum.inr "digits" : Key) := fun q => md_ (Sum.inr.inj q)
  simp only [List.any_cons, decide_true, Bool.true_or, if_true, List.map_cons, List.map_nil, if_neg n]
theorem dk_put_mixed (x y z : Int) : putK (dk x y) (Sum.inr "mixed" : Key) (.int z) = dk x z := by
  unfold putK dk
  have n : ¬ (Sum.inr "digits" : Key) = (Sum.inr "mixed" : Key) := fun q => dm_ (Sum.inr.inj q)
  simp only [List.any_cons, decide_true, Bool.true_or, Bool.or_true, if_true, List.map_cons, List.map_nil, if_neg n]
theorem dk_merge (x y : Int) : mergeK [] [((Sum.inr "digits" : Key), V.int x), ((Sum.inr "mixed" : Key), V.int y)] = dk x y := by
  unfold mergeK putK dk
  have n : ¬ (Sum.inr "digits" : Key) = (Sum.inr "mixed" : Key) := fun q => dm_ (Sum.inr.inj q)
  simp only [List.foldl_cons, List.foldl_nil, List.any_nil, List.nil_append, List.any_cons, decide_eq_false n, Bool.or_self]
  rfl
/-- the turn of the deck's loop -/
theorem turn_bitsT {m e : Int} {k : Nat} (h0 : 0 ≤ m) (h1 : m < 2147483600) (he : Builtin.Int.intBits e ≤ k) (hk : 30 ≤ k) :
    Builtin.Int.intBits (m * 30011 + e * e + 7) ≤ 2 * k + 1 := by
  refine bits_le ?_
  have a1 : e.natAbs < 2 ^ k := Nat.lt_of_lt_of_le (natAbs_lt_pow_bits e) (Nat.pow_le_pow_right (by omega) he)
  have a2 : (e * e).natAbs < 2 ^ (2 * k) := by
    rw [Int.natAbs_mul, Nat.two_mul, Nat.pow_add]
    exact Nat.mul_lt_mul'' a1 a1
  have a3 : (m * 30011 + 7).natAbs < 2 ^ 60 := by
    have : (2 : Nat) ^ 60 = 1152921504606846976 := by decide
    omega
  have a4 : (2 : Nat) ^ 60 ≤ 2 ^ (2 * k) := Nat.pow_le_pow_right (by omega) (by omega)
  have a5 : (2 : Nat) ^ (2 * k + 1) = 2 ^ (2 * k) + 2 ^ (2 * k) := by rw [Nat.pow_succ, Nat.mul_two]
  rw [a5]
  generalize (2 : Nat) ^ (2 * k) = B at *
  generalize e * e = q at *
  omega
structure TxtD (mg : Str → Option Value) : Prop where
  len : mg "len" = none
section
variable {P : Program} {w : World} {K : PySem.W.Frag} {mg : Str → Option Value} {base : Heap}
def spDeck (K : PySem.W.Frag) : Sp := fun vs H Q _ => ∃ (a : Addr) (ns : List Int) (st : Int), vs = [.ref a, .int st] ∧ SqL K H a (ns.map V.int) ∧ ns.length ≤ 63 ∧ (∀ z ∈ ns, Builtin.Int.intBits z ≤ 1048576) ∧ 0 ≤ st ∧ st ≤ 63 ∧
  ∀ (d : Addr) (H' : Hp), H d = none → Same H H' → DeckAt H' d → Q (.ref d) H'
theorem scDeck : FnScope ["script", "start", "mixed", "cell", "digits"] ["script", "start"] (defScope sDeck) := ⟨rfl, rfl, rfl, by decide +kernel, rfl, by decide +kernel, by decide +kernel⟩
theorem ok_deck {f : Addr} {fd : FuncData} (F : Fun K "_law_tape" "_law_tape" sDeck f fd) (T : TxtD mg) : FnOk P w K mg base CX0 1 f fd ["script", "start"] (spDeck K) := by
  refine F.ok scDeck (fun vs H Q E h => ?_) (fun cdv A outer s H vs Q E hr h => ?_)
  · obtain ⟨a, ns, st, rfl, _⟩ := h
    rfl
  · obtain ⟨a, ns, st, rfl, hS, hlen, hb, h0, h1, k⟩ := h
    have hu := hu_of hr
    refine ⟨_, pss_cons (ps_set (i := 2) scDeck.nd rfl (Or.inl rfl) (pe_op op_add pe_int (pe_op op_mul (pv 1) pe_int)))
      (pss_cons (ps_for PassesOwn.never rfl (pi_list (pv 0)) (pg_name (i := 3) scDeck.nd rfl (Or.inl rfl))
        (pss_one (ps_set (i := 2) scDeck.nd rfl (Or.inl rfl) (pe_op op_add (pe_op op_mod (pe_op op_powG (pe_op op_add (pe_op op_add (pe_op op_mul (pv 2) pe_int) (pe_op op_mulG (pv 3) (pv 3))) pe_int) pe_int) pe_int) pe_int))))
      (pss_cons (ps_set (i := 4) scDeck.nd rfl (Or.inl rfl) (pe_ifExp (PW.pt (pw_and (pt_cmpR op_lt (pv 1) (pe_callB call_len_seq (by rfl) T.len PySem.boot_len (pa_cons (pv 0) pa_nil)) (nomark _))
          (pw_and1 (pt_cmpR op_ge (pe_ix ix_list (pv 0) (pv 1) (fun _ _ => rfl)) (pe_op op_pow pe_int pe_int) (nomark _)))))
          (pe_op op_sub (pe_ix ix_list (pv 0) (pv 1) (fun _ _ => rfl)) (pe_op op_pow pe_int pe_int)) pe_int))
      (pss_one (ps_ret (pe_disp (pps_cons pe_str (pv 4) (pps_cons pe_str (pv 2) pps_nil)) (by rfl) (by rfl) (fun z => by cases z) (by decide)))))), ?_⟩
    refine ⟨_, rfl, _, _, rfl, rfl, .inr ⟨by decide, by decide⟩, _, _, rfl, rfl, ?_⟩
    refine ⟨_, rfl, a, rfl, ⟨_, hS⟩, for_list (K := K) (a := a) (xs := ns.map V.int) (fun i σ H' => ∃ (m : Int) (v : Option V), σ = [some (.ref a), some (.int st), some (.int m), v, none] ∧ H' = H ∧ 0 ≤ m ∧ m < 2147483600)
      ⟨_, none, rfl, rfl, by omega, by omega⟩ (fun i σ H' _ ⟨_, _, _, e, _⟩ => by rw [e]; exact hS) ?_ ?_⟩
    · rintro i y σ H' hi ⟨m, v, rfl, rfl, m0, m1⟩
      obtain ⟨e, he, rfl⟩ : ∃ e, e ∈ ns ∧ y = V.int e := by
        rw [List.getElem?_map] at hi
        cases q : ns[i]? with
        | none => rw [q] at hi; cases hi
        | some u => rw [q] at hi; exact ⟨u, List.mem_of_getElem? q, (Option.some.inj hi).symm⟩
      have hbits := hb e he
      have hT := turn_bitsT (k := 1048576) m0 m1 hbits (by decide)
      refine ⟨_, rfl, _, _, rfl, rfl, .inr ⟨by decide, by decide⟩, _, rfl, _, rfl, _, _, rfl, rfl, mulOk_bits hbits hbits (by decide), _, _, rfl, rfl, _, _, rfl, rfl, _, _, rfl, rfl, ⟨by decide, ?_⟩, _, _, rfl, rfl, (by show (0 : Int) < 2147483563; decide), _, _, rfl, rfl, ?_⟩
      · have z : (2 : Int) ^ 27 = 134217728 := by decide
        rw [z]
        generalize Builtin.Int.intBits (m * 30011 + e * e + 7) = B at hT ⊢
        omega
      · refine ⟨_, _, rfl, rfl, ?_, ?_⟩
        · have := Int.emod_nonneg ((m * 30011 + e * e + 7) ^ (2 : Int).toNat) (b := 2147483563) (by decide)
          generalize (m * 30011 + e * e + 7) ^ (2 : Int).toNat % 2147483563 = z at *
          omega
        · have := Int.emod_lt_of_pos ((m * 30011 + e * e + 7) ^ (2 : Int).toNat) (b := 2147483563) (by decide)
          generalize (m * 30011 + e * e + 7) ^ (2 : Int).toNat % 2147483563 = z at *
          omega
    · rintro σ H' ⟨m, v, rfl, rfl, m0, m1⟩
      have fin : ∀ (x : Int) (σ' : L2.St), 0 ≤ x → σ' = [some (.ref a), some (.int st), some (.int m), v, some (.int x)] →
          (tRet (tDisp [(tC (.str "digits"), tVar 4), (tC (.str "mixed"), tVar 2)])) { nx := fun _ H' => Q .non H', rt := Q } σ' H' := by
        rintro x σ' hx rfl
        intro p hp
        refine ⟨_, rfl, _, rfl, upd_same, [((Sum.inr "digits" : Key), V.int x), ((Sum.inr "mixed" : Key), V.int m)], rfl, (by show 2 ≤ 15; decide), ?_⟩
        rw [upd_upd, dk_merge]
        exact k p _ hp (Same.new hp) ⟨x, m, upd_same, hx, m0, m1⟩
      refine ⟨_, rfl, _, rfl, a, _, rfl, .inl hS, _, _, rfl, rfl, _, rfl, ?_⟩
      refine ite2 (fun hlt => ?_) (fun hlt => ?_)
      · have hlt' : st < (ns.map V.int).length := of_decide_eq_true hlt
        rw [List.length_map] at hlt'
        obtain ⟨n, rfl⟩ : ∃ n : Nat, st = (n : Int) := ⟨st.toNat, by omega⟩
        have hn : n < ns.length := by omega
        have hat : (ns.map V.int)[n]? = some (V.int ns[n]) := by rw [List.getElem?_map, List.getElem?_eq_getElem hn]; rfl
        refine ⟨_, rfl, _, rfl, a, _, _, _, rfl, rfl, hS, atI_nat hat, _, _, rfl, rfl, ⟨by decide, by decide, by decide⟩, _, _, rfl, rfl, _, rfl, ?_⟩
        refine ite2 (fun hge => ?_) (fun hge => ?_)
        · have hge' := of_decide_eq_true hge
          refine ⟨_, rfl, _, rfl, a, _, _, _, rfl, rfl, hS, atI_nat hat, _, _, rfl, rfl, ⟨by decide, by decide, by decide⟩, _, _, rfl, rfl, ?_⟩
          exact fin _ _ (by omega) rfl
        · exact fin 0 _ (Int.le_refl _) rfl
      · refine iteF ?_
        exact fin 0 _ (Int.le_refl _) rfl
end
theorem But.seq {d a : Addr} {H H' : Hp} {K : PySem.W.Frag} {xs : List V} (D : DeckAt H d) (s : But d H H') (h : SqL K H a xs) : SqL K H' a xs := by
  obtain ⟨x, y, hd, _⟩ := D
  rcases h with (h | ⟨o, h⟩) | h
  · exact .inl (.inl (s _ _ (ne_of h hd (by intro z; cases z)) h))
  · exact .inl (.inr ⟨o, s _ _ (ne_of h hd (by intro z; cases z)) h⟩)
  · exact .inr h
theorem But.lst {d a : Addr} {H H' : Hp} {xs : List V} (D : DeckAt H d) (s : But d H H') (h : H a = some (.lst xs)) : H' a = some (.lst xs) := by
  obtain ⟨x, y, hd, _⟩ := D
  exact s _ _ (ne_of h hd (by intro z; cases z)) h
theorem But.tup {d a : Addr} {H H' : Hp} {xs : List V} (D : DeckAt H d) (s : But d H H') (h : H a = some (.tup xs)) : H' a = some (.tup xs) := by
  obtain ⟨x, y, hd, _⟩ := D
  exact s _ _ (ne_of h hd (by intro z; cases z)) h
/-- new behind is new ahead -/
theorem But.free {d p : Addr} {H H' : Hp} (D : DeckAt H' d) (s : But d H H') (h : H' p = none) : H p = none := by
  obtain ⟨x, y, hd, _⟩ := D
  cases q : H p with
  | none => rfl
  | some o =>
    have := s _ _ (fun e => by rw [e, hd] at h; cases h) q
    rw [h] at this
    cases this
theorem pow6 : (10 : Int) ^ (6 : Int).toNat = 1000000 := by decide
section
variable {P : Program} {w : World} {K : PySem.W.Frag} {mg : Str → Option Value} {base : Heap}
/-! ### a draw -/
def spDraw : Sp := fun vs H Q _ => ∃ (d : Addr) (n : Int), vs = [.ref d, .int n] ∧ DeckAt H d ∧ 0 < n ∧ n < 1073741824 ∧ ∀ (r : Int) (H' : Hp), 0 ≤ r → r < n → DeckAt H' d → But d H H' → Q (.int r) H'
theorem scDraw : FnScope ["tape", "size", "found"] ["tape", "size"] (defScope sDraw) := ⟨rfl, rfl, rfl, by decide +kernel, rfl, by decide +kernel, by decide +kernel⟩
theorem ok_draw {f : Addr} {fd : FuncData} (F : Fun K "_law_pick" "_law_pick" sDraw f fd) : FnOk P w K mg base CX0 1 f fd ["tape", "size"] spDraw := by
  refine F.ok scDraw (fun vs H Q E h => ?_) (fun cdv A outer s H vs Q E hr h => ?_)
  · obtain ⟨d, n, rfl, _⟩ := h
    rfl
  · obtain ⟨d, n, rfl, ⟨x, y, hd, x0, y0, y1⟩, n0, n1, k⟩ := h
    have hu := hu_of hr
    refine ⟨_, pss_cons (ps_if (pt_cmpR op_ge (pe_dget hu (pv 0) pe_str (fun _ _ => rfl)) (pv 1) (nomark _))
        (pss_cons (ps_set (i := 2) scDraw.nd rfl (Or.inl rfl) (pe_op op_mod (pe_dget hu (pv 0) pe_str (fun _ _ => rfl)) (pv 1)))
        (pss_cons (ps_dput hu (pv 0) pe_str (pe_op op_fdiv (pe_dget hu (pv 0) pe_str (fun _ _ => rfl)) (pv 1)) rfl)
        (pss_one (ps_ret (pv 2))))) pss_nil)
      (pss_cons (ps_dput hu (pv 0) pe_str (pe_op op_mod (pe_op op_add (pe_op op_mul (pe_dget hu (pv 0) pe_str (fun _ _ => rfl)) pe_int) pe_int) pe_int) rfl)
      (pss_one (ps_ret (pe_op op_mod (pe_op op_fdiv (pe_op op_mod (pe_op op_pow (pe_op op_mod (pe_op op_pow (pe_dget hu (pv 0) pe_str (fun _ _ => rfl)) pe_int) pe_int) pe_int) pe_int) pe_int) (pv 1))))), ?_⟩
    have gx : ∀ {H : Hp} {x y : Int}, H d = some (.dK (dk x y)) → DGet H d (.str "digits") (some (.int x)) := fun {H x y} e => by
      have := DGet.k (k := Sum.inr "digits") e
      rw [dk_digits] at this
      exact this
    have gy : ∀ {H : Hp} {x y : Int}, H d = some (.dK (dk x y)) → DGet H d (.str "mixed") (some (.int y)) := fun {H x y} e => by
      have := DGet.k (k := Sum.inr "mixed") e
      rw [dk_mixed] at this
      exact this
    have px : ∀ {H : Hp} {x y z : Int}, H d = some (.dK (dk x y)) → DPut H d (.str "digits") (.int z) (upd H d (.dK (dk z y))) := fun {H x y z} e => by
      have := DPut.k (k := Sum.inr "digits") (v := .int z) e (by show 2 < sizeLine; decide)
      rw [dk_put_digits] at this
      exact this
    have py : ∀ {H : Hp} {x y z : Int}, H d = some (.dK (dk x y)) → DPut H d (.str "mixed") (.int z) (upd H d (.dK (dk x z))) := fun {H x y z} e => by
      have := DPut.k (k := Sum.inr "mixed") (v := .int z) e (by show 2 < sizeLine; decide)
      rw [dk_put_mixed] at this
      exact this
    refine ⟨_, rfl, d, _, rfl, gx hd, _, rfl, _, _, rfl, rfl, _, rfl, ?_⟩
    refine ite2 (fun c => ?_) (fun c => ?_)
    · refine ⟨_, rfl, d, _, rfl, gx hd, _, rfl, _, _, rfl, rfl, n0, ?_⟩
      refine ⟨_, rfl, d, _, rfl, gx hd, _, rfl, _, _, rfl, rfl, ⟨n0, n1⟩, _, rfl, d, _, rfl, px hd, ?_⟩
      exact ⟨_, rfl, k _ _ (Int.emod_nonneg _ (by omega)) (Int.emod_lt_of_pos _ n0) ⟨_, y, upd_same, Int.ediv_nonneg x0 (by omega), y0, y1⟩ But.upd⟩
    · have m0 := Int.emod_nonneg (y * 40014 + 1013) (b := 2147483563) (by decide)
      have m1 := Int.emod_lt_of_pos (y * 40014 + 1013) (b := 2147483563) (by decide)
      refine ⟨_, rfl, d, _, rfl, gy hd, _, _, rfl, rfl, .inr ⟨by decide, by decide⟩, _, _, rfl, rfl, _, _, rfl, rfl, (by show (0 : Int) < 2147483563; decide), _, rfl, d, _, rfl, py hd, ?_⟩
      refine ⟨_, rfl, d, _, rfl, gy upd_same, _, _, rfl, rfl, ⟨by decide, by decide, by omega⟩, _, _, rfl, rfl, (by show (0 : Int) < 2147483399; decide), ?_⟩
      have q0 := Int.emod_nonneg (((y * 40014 + 1013) % 2147483563) ^ (2 : Int).toNat) (b := 2147483399) (by decide)
      have q1 := Int.emod_lt_of_pos (((y * 40014 + 1013) % 2147483563) ^ (2 : Int).toNat) (b := 2147483399) (by decide)
      refine ⟨_, _, rfl, rfl, ⟨by decide, by decide, by omega⟩, _, _, rfl, rfl, (by show (0 : Int) < 998244353; decide), _, _, rfl, rfl, ⟨by decide, by decide⟩, _, rfl, _, _, rfl, rfl, n0, ?_⟩
      exact k _ _ (Int.emod_nonneg _ (by omega)) (Int.emod_lt_of_pos _ n0) ⟨x, _, upd_same, x0, m0, by omega⟩ But.upd
/-! ### one of some things -/
def spChoose (K : PySem.W.Frag) : Sp := fun vs H Q _ => ∃ (d t : Addr) (xs : List V), vs = [.ref d, .ref t] ∧ DeckAt H d ∧ SqL K H t xs ∧ xs ≠ [] ∧ xs.length < 1000000 ∧ ∀ (v : V) (H' : Hp), v ∈ xs → DeckAt H' d → But d H H' → Q v H'
theorem scChoose : FnScope ["tape", "items"] ["tape", "items"] (defScope sChoose) := ⟨rfl, rfl, rfl, by decide +kernel, rfl, by decide +kernel, by decide +kernel⟩
theorem ok_choose {f fD : Addr} {fd fdD : FuncData} (F : Fun K "_law_one_of" "_law_one_of" sChoose f fd) (T : TxtD mg) (FD : Fun K "_law_pick" "_law_pick" sDraw fD fdD) (bD : Binds K fdD ["tape", "size"] []) (mD : mg "_law_pick" = some (.ref fD)) :
    FnOk P w K mg base CX0 2 f fd ["tape", "items"] (spChoose K) := by
  have GD : FnOk P w K mg base CX0 1 fD fdD ["tape", "size"] spDraw := ok_draw FD
  refine F.ok scChoose (fun vs H Q E h => ?_) (fun cdv A outer s H vs Q E hr h => ?_)
  · obtain ⟨d, t, xs, rfl, _⟩ := h
    rfl
  · obtain ⟨d, t, xs, rfl, D, hS, h0, h1, k⟩ := h
    refine ⟨_, pss_one (ps_ret (pe_ix ix_list (pv 1) (pe_call GD hr rfl mD FD.kp bD .nil pass0 (pa_cons (pv 0) (pa_cons (pe_callB call_len_seq (by rfl) T.len PySem.boot_len (pa_cons (pv 1) pa_nil)) pa_nil))) (fun _ _ => rfl))), ?_⟩
    have hl : 0 < xs.length := List.length_pos_iff.mpr h0
    refine ⟨_, rfl, _, rfl, _, rfl, t, _, rfl, .inl hS, d, _, rfl, D, by omega, by omega, fun r H' r0 r1 D' B => ?_⟩
    obtain ⟨n, rfl⟩ : ∃ n : Nat, r = (n : Int) := ⟨r.toNat, by omega⟩
    have hn : n < xs.length := by omega
    have hat : xs[n]? = some xs[n] := List.getElem?_eq_getElem hn
    exact ⟨t, _, _, _, rfl, rfl, B.seq D hS, atI_nat hat, k _ _ (List.getElem_mem hn) D' B⟩
end
/-! ### the walk through the ids meets a free one -/
theorem len_le_of_sub : ∀ (xs ys : List Int), xs.Nodup → (∀ x ∈ xs, x ∈ ys) → xs.length ≤ ys.length
  | [], _, _, _ => Nat.zero_le _
  | x :: r, ys, hn, hs => by
    have hx : x ∈ ys := hs x List.mem_cons_self
    have hn' := List.nodup_cons.mp hn
    have ih := len_le_of_sub r (ys.erase x) hn'.2 fun z hz => (List.mem_erase_of_ne (fun e => hn'.1 (by rw [← e]; exact hz))).mpr (hs z (List.mem_cons_of_mem _ hz))
    have hl := List.length_erase_of_mem hx
    have : 0 < ys.length := List.length_pos_of_mem hx
    show r.length + 1 ≤ ys.length
    omega
def nx (z : Int) (i : Nat) : Int := (z - 1 + (i : Int)) % 1000000 + 1
theorem nx_zero {z : Int} (h0 : 1 ≤ z) (h1 : z ≤ 1000000) : nx z 0 = z := by unfold nx; omega
theorem nx_succ {z : Int} {i : Nat} : nx z i % 1000000 + 1 = nx z (i + 1) := by unfold nx; omega
theorem nx_lo (z : Int) (i : Nat) : 1 ≤ nx z i := by unfold nx; omega
theorem nx_hi (z : Int) (i : Nat) : nx z i ≤ 1000000 := by unfold nx; omega
theorem nx_inj {z : Int} {i j : Nat} (hi : i < 1000) (hj : j < 1000) (h : nx z i = nx z j) : i = j := by unfold nx at h; omega
theorem nx_few {z : Int} {js : List Int} {t : Nat} (ht : t ≤ 500) (h : ∀ i, i < t → nx z i ∈ js) : t ≤ js.length := by
  have a : ((List.range t).map (nx z)).Nodup := by
    refine List.pairwise_map.mpr ?_
    refine List.Pairwise.imp_of_mem ?_ (List.pairwise_lt_range (n := t))
    intro i j hi hj l e
    have q := nx_inj (by have := List.mem_range.mp hi; omega) (by have := List.mem_range.mp hj; omega) e
    omega
  have b := len_le_of_sub _ js a (fun x hx => by
    obtain ⟨i, hi, rfl⟩ := List.mem_map.mp hx
    exact h i (List.mem_range.mp hi))
  rw [List.length_map, List.length_range] at b
  exact b
theorem eqV_int (i j : Int) : eqV (.int i) (.int j) = decide (i = j) := by
  first
    | rfl
    | simp [eqV]
theorem inV_int (z : Int) (js : List Int) : inV (.int z) (js.map V.int) = decide (z ∈ js) := by
  unfold inV
  rw [List.any_map]
  induction js with
  | nil => rfl
  | cons a r ih =>
    rw [List.any_cons, ih]
    show (eqV (.int a) (.int z) || decide (z ∈ r)) = decide (z ∈ a :: r)
    rw [eqV_int]
    by_cases e : a = z
    · subst e
      simp
    · have e' : ¬ z = a := fun q => e q.symm
      simp [e, e']
theorem all_flat (js : List Int) : (js.map V.int).all flatV = true := by
  induction js with
  | nil => rfl
  | cons a r ih => exact ih
/-! ### sets of ints -/
/-- S is the set of the ints ns, n their number -/
def SetIs (ns : List Int) (S : Int → Bool) (n : Nat) : Prop := (∀ k, S k = decide (k ∈ ns)) ∧ ∃ L : List Int, L.Nodup ∧ L.length = n ∧ ∀ k, k ∈ L ↔ k ∈ ns
theorem shorter : ∀ ns : List Int, ¬ ns.Nodup → ∃ ms : List Int, ms.length < ns.length ∧ ∀ k ∈ ns, k ∈ ms
  | [], h => absurd List.nodup_nil h
  | a :: r, h => by
    by_cases ha : a ∈ r
    · exact ⟨r, Nat.lt_succ_self _, fun k hk => by
        rcases List.mem_cons.mp hk with e | e
        · rw [e]; exact ha
        · exact e⟩
    · have hr : ¬ r.Nodup := fun q => h (List.nodup_cons.mpr ⟨ha, q⟩)
      obtain ⟨ms, h1, h2⟩ := shorter r hr
      exact ⟨a :: ms, Nat.succ_lt_succ h1, fun k hk => by
        rcases List.mem_cons.mp hk with e | e
        · rw [e]; exact List.mem_cons_self
        · exact List.mem_cons_of_mem _ (h2 k e)⟩
theorem SetIs.count {ns : List Int} {S : Int → Bool} {n : Nat} (h : SetIs ns S n) : ((n : Int) = (ns.length : Int)) ↔ ns.Nodup := by
  obtain ⟨_, L, h1, h2, h3⟩ := h
  have a := len_le_of_sub L ns h1 fun k hk => (h3 k).mp hk
  constructor
  · intro e
    by_cases hN : ns.Nodup
    · exact hN
    · obtain ⟨ms, m1, m2⟩ := shorter ns hN
      have b := len_le_of_sub L ms h1 fun k hk => m2 k ((h3 k).mp hk)
      omega
  · intro hN
    have b := len_le_of_sub ns L hN fun k hk => (h3 k).mpr hk
    omega
theorem firstMet_nodup (val : Nat → Int) : ∀ i, (firstMet val i).Nodup
  | 0 => by rw [firstMet_zero]; exact List.nodup_nil
  | i + 1 => by
    rw [firstMet_succ]
    unfold step_dedup
    have ih := firstMet_nodup val i
    split
    · exact ih
    · rename_i h
      refine List.nodup_append.mpr ⟨ih, by simp, ?_⟩
      intro a ha b hb e
      have : b = val i := by simpa using hb
      refine h (List.any_eq_true.mpr ⟨a, ha, ?_⟩)
      rw [e, this]
      simp
theorem getD_range (ns : List Int) : (List.range ns.length).map (fun i => ns.getD i 0) = ns := by
  apply List.ext_getElem
  · simp
  · intro i h1 h2
    simp [List.getD, h2]
theorem firstMet_mem (ns : List Int) (k : Int) : k ∈ firstMet (fun i => ns.getD i 0) ns.length ↔ k ∈ ns := by
  have h := firstMet_any (fun i => ns.getD i 0) ns.length k
  rw [getD_range] at h
  have e : ∀ l : List Int, (l.any (· == k) = true) ↔ k ∈ l := fun l => by
    rw [List.any_eq_true]
    constructor
    · rintro ⟨x, hx, q⟩
      have : x = k := by simpa using q
      rw [← this]; exact hx
    · intro hk
      exact ⟨k, hk, by simp⟩
  rw [← e, ← e, h]
def rSetI (K : PySem.W.Frag) : List V → Hp → VK → Prop := fun xs H Q => ∃ (p : Addr) (ns : List Int), xs = [.ref p] ∧ (SqL K H p (ns.map V.int) ∨ SqT K H p (ns.map V.int)) ∧ ns.length ≤ 4000 ∧
  ∀ (q : Addr) (S : Int → Bool) (n : Nat), H q = none → SetIs ns S n → n ≤ ns.length → Q (.ref q) (upd H q (.set S n))
section
variable {X : Cx}
theorem cr_setI (hc : X.calm = true) : CallR X (.type "set") (rSetI X.K) := by
  intro pins s σ H xs us Q I r h
  obtain ⟨p, ns, rfl, hq, hlen, k⟩ := h
  rw [Vals.ref1 r]
  have hs : scanBound = 4096 := rfl
  rcases hq with hq | hq
  · obtain ⟨its, rv, pl, hz⟩ := I.list hq
    have hl := rv.length
    rw [List.length_map] at hl
    refine call_set_list (I.ok.hd hc) pl.isList (ns := ns) (Vals.ints rv) (by rw [List.size_toArray, hs]; omega) fun h' tk R kk => ?_
    have esz : its.toArray.size = ns.length := by rw [List.size_toArray]; omega
    rw [esz] at R
    have hn := firstMet_mem ns
    have hset : SetIs ns (fun k' => (firstMet (fun i => ns.getD i 0) ns.length).any (· == k')) (firstMet (fun i => ns.getD i 0) ns.length).length := by
      refine ⟨fun k => ?_, _, firstMet_nodup _ _, rfl, hn⟩
      rw [Bool.eq_iff_iff, decide_eq_true_iff, ← hn k, List.any_eq_true]
      constructor
      · rintro ⟨x, hx, q⟩
        have : x = k := by simpa using q
        rw [← this]; exact hx
      · intro hk
        exact ⟨k, hk, by simp⟩
    have I' := I.laid (a := s.heap.objs.size) (o := .set _ _) (h' := h') (t' := tk) (fun b u e => kk b u (Heap.lt_size e) e) (Nat.le_refl _) R
    exact ⟨.ref _, _, I', rfl, k _ _ _ (I.hok.fresh (Nat.le_refl _)) hset (firstMet_length_le _ _)⟩
  · obtain ⟨its, rv, pl, hz⟩ := I.tuple hq
    have hl := rv.length
    rw [List.length_map] at hl
    refine call_set_tupI ns (I.ok.hd hc) pl (Vals.ints rv) (by rw [hs]; omega) fun h' tk c R hle kk => ?_
    have hset : SetIs ns (fun j => decide (j ∈ ns)) c := by
      obtain ⟨o, es, ep, t, h1, h2, h3, h4, h5, h6, h7, h8, h9, _⟩ := id R
      refine ⟨fun k => rfl, es.toList.map keyOf, h5, ?_, fun k => ?_⟩
      · rw [List.length_map, ← h9]; rfl
      · rw [← h6 k, decide_eq_true_iff]
    have I' := I.laid (a := s.heap.objs.size) (o := .set _ _) (h' := h') (t' := tk) (fun b u e => kk b u e) (Nat.le_refl _) (SetR.setOf R)
    exact ⟨.ref _, _, I', rfl, k _ _ _ (I.hok.fresh (Nat.le_refl _)) hset hle⟩
def rInSet (neg : Bool) : R2 := fun x y H Q => ∃ (k : Int) (a : Addr) (S : Int → Bool) (n : Nat), x = .int k ∧ y = .ref a ∧ H a = some (.set S n) ∧ Q (.bl (if neg then !S k else S k)) H
theorem op_inSet : OpR X (compareOp .In) (rInSet false) := by
  intro pins s σ H x y v u Q I rx ry h
  obtain ⟨k, a, S, n, rfl, rfl, ha, q⟩ := h
  cases ry
  obtain ⟨t, rfl⟩ := rx
  exact wpAny_inSet_of (knd := PySem.intKind X.prog X.w) (k := k) (by first | rfl | simp [PySem.intKind, Value.isInt]) rfl (I.hok a _ ha) ⟨.bl (S k), H, I.tok _, rfl, q⟩
theorem op_notInSet : OpR X (compareOp .NotIn) (rInSet true) := by
  intro pins s σ H x y v u Q I rx ry h
  obtain ⟨k, a, S, n, rfl, rfl, ha, q⟩ := h
  cases ry
  obtain ⟨t, rfl⟩ := rx
  exact wpAny_notInSet_of (knd := PySem.intKind X.prog X.w) (k := k) (by first | rfl | simp [PySem.intKind, Value.isInt]) rfl (I.hok a _ ha) ⟨.bl (!S k), H, I.tok _, rfl, q⟩
theorem call_lenSet : CallR X (.builtin "len") (fun xs H Q => ∃ a S n, xs = [.ref a] ∧ H a = some (.set S n) ∧ Q (.int n) H) := by
  intro pins s σ H xs us Q I r h
  obtain ⟨a, S, n, rfl, ha, q⟩ := h
  rw [Vals.ref1 r]
  obtain ⟨o, es, ep, t, h1, h2, h3, h4, h5, h6, h7, h8⟩ := I.hok a _ ha
  have hs : scanBound = 4096 := rfl
  refine call_len_set h1 h2 h3 h7 (by omega) ?_
  rw [h8]
  exact ⟨.int n, H, (I.tok (s.toks + 1 + 1)), ⟨_, rfl⟩, q⟩
end
/-! ### data in the heap: flat things, lists, tuples, the empty dict -/
mutual
inductive DV (K : PySem.W.Frag) (H : Hp) : V → PyData → Prop
  | non : DV K H .non .none
  | bl (b : Bool) : DV K H (.bl b) (.bool b)
  | int (i : Int) : DV K H (.int i) (.int i)
  | str (x : Str) : DV K H (.str x) (.str x)
  | lst {a : Addr} {xs : List V} {ds : List PyData} : SqL K H a xs → DVs K H xs ds → DV K H (.ref a) (.list ds)
  | tup {a : Addr} {xs : List V} {ds : List PyData} : SqT K H a xs → DVs K H xs ds → DV K H (.ref a) (.tuple ds)
  | dk0 {a : Addr} : H a = some (.dK []) → DV K H (.ref a) (.dict [])
inductive DVs (K : PySem.W.Frag) (H : Hp) : List V → List PyData → Prop
  | nil : DVs K H [] []
  | cons {v : V} {vs : List V} {d : PyData} {ds : List PyData} : DV K H v d → DVs K H vs ds → DVs K H (v :: vs) (d :: ds)
end
section
variable {K : PySem.W.Frag} {H H' : Hp}
theorem DVs.length {vs : List V} {ds : List PyData} (h : DVs K H vs ds) : vs.length = ds.length := by
  induction vs generalizing ds with
  | nil => cases h; rfl
  | cons v r ih => cases h with | cons _ t => exact congrArg Nat.succ (ih t)
theorem DVs.at {vs : List V} {ds : List PyData} (h : DVs K H vs ds) : ∀ {i : Nat} {v : V}, vs[i]? = some v → ∃ d, ds[i]? = some d ∧ DV K H v d := by
  induction vs generalizing ds with
  | nil => intro i v e; simp at e
  | cons v r ih =>
    cases h with
    | cons p t =>
      intro i u e
      cases i with
      | zero => simp at e; subst e; exact ⟨_, rfl, p⟩
      | succ i => simp at e; obtain ⟨d, h1, h2⟩ := ih t e; exact ⟨d, by simpa using h1, h2⟩
theorem Same.sq {a : Addr} {xs : List V} (e : Same H H') (h : SqL K H a xs) : SqL K H' a xs := e.seq h
theorem Same.tq {a : Addr} {xs : List V} (e : Same H H') (h : SqT K H a xs) : SqT K H' a xs := by
  rcases h with (h | ⟨o, h⟩) | h
  · exact .inl (.inl (e _ _ h))
  · exact .inl (.inr ⟨o, e _ _ h⟩)
  · exact .inr h
mutual
theorem DV.same (e : Same H H') : ∀ {d : PyData} {v : V}, DV K H v d → DV K H' v d
  | _, _, .non => .non
  | _, _, .bl b => .bl b
  | _, _, .int i => .int i
  | _, _, .str x => .str x
  | _, _, .lst h t => .lst (Same.sq e h) (DVs.same e t)
  | _, _, .tup h t => .tup (Same.tq e h) (DVs.same e t)
  | _, _, .dk0 h => .dk0 (e _ _ h)
theorem DVs.same (e : Same H H') : ∀ {ds : List PyData} {vs : List V}, DVs K H vs ds → DVs K H' vs ds
  | _, _, .nil => .nil
  | _, _, .cons p t => .cons (DV.same e p) (DVs.same e t)
end
/-- a value's built-in type by its name -/
def TyD (K : PySem.W.Frag) (H : Hp) (x : V) : Prop := ∃ nm : String, TyX K H x (.type nm) ∧ ((nm = "NoneType" ∧ x = .non) ∨ (nm = "bool" ∧ ∃ b, x = .bl b) ∨ (nm = "int" ∧ ∃ i, x = .int i) ∨ (nm = "str" ∧ ∃ z, x = .str z) ∨
  (nm = "list" ∧ ∃ a, x = .ref a) ∨ (nm = "tuple" ∧ ∃ a, x = .ref a) ∨ (nm = "dict" ∧ ∃ a, x = .ref a))
theorem tyL {a : Addr} {xs : List V} (h : SqL K H a xs) : TyX K H (.ref a) (.type "list") := by
  rcases h with (h | ⟨o, h⟩) | ⟨o, _, _, h, c, _⟩
  · exact .base (.lst h)
  · exact .base (.frz h)
  · exact .kList h c
theorem tyT {a : Addr} {xs : List V} (h : SqT K H a xs) : TyX K H (.ref a) (.type "tuple") := by
  rcases h with (h | ⟨o, h⟩) | ⟨o, _, _, h, c, _⟩
  · exact .base (.tup h)
  · exact .fTuple h
  · exact .kTuple h c
theorem DV.ty {v : V} {d : PyData} (h : DV K H v d) : TyD K H v := by
  cases h with
  | non => exact ⟨_, .base .non, .inl ⟨rfl, rfl⟩⟩
  | bl b => exact ⟨_, .base (.bl b), .inr (.inl ⟨rfl, b, rfl⟩)⟩
  | int i => exact ⟨_, .base (.int i), .inr (.inr (.inl ⟨rfl, i, rfl⟩))⟩
  | str x => exact ⟨_, .base (.str x), .inr (.inr (.inr (.inl ⟨rfl, x, rfl⟩)))⟩
  | lst h t => exact ⟨_, tyL h, .inr (.inr (.inr (.inr (.inl ⟨rfl, _, rfl⟩))))⟩
  | tup h t => exact ⟨_, tyT h, .inr (.inr (.inr (.inr (.inr (.inl ⟨rfl, _, rfl⟩)))))⟩
  | dk0 h => exact ⟨_, .base (.dK h), .inr (.inr (.inr (.inr (.inr (.inr ⟨rfl, _, rfl⟩)))))⟩
end
def wholeV : V → Bool
  | .int _ => true
  | _ => false
def wholeD : PyData → Bool
  | .int _ => true
  | _ => false
theorem DV.whole {K : PySem.W.Frag} {H : Hp} {v : V} {d : PyData} (h : DV K H v d) : wholeV v = wholeD d := by cases h <;> rfl
structure TxtV (mg : Str → Option Value) : Prop where
  len : mg "len" = none
  isi : mg "isinstance" = none
  int : mg "int" = none
  bool : mg "bool" = none
  tuple : mg "tuple" = none
  set : mg "set" = none
  all : mg "all" = none
  list : mg "list" = none
def isTup : PyData → Bool
  | .tuple _ => true
  | _ => false
def isLst : PyData → Bool
  | .list _ => true
  | _ => false
theorem kb1 : kitB "NoneType" "tuple" = some false := by decide +kernel
theorem kb2 : kitB "NoneType" "list" = some false := by decide +kernel
theorem kb3 : kitB "bool" "tuple" = some false := by decide +kernel
theorem kb4 : kitB "bool" "list" = some false := by decide +kernel
theorem kb5 : kitB "int" "tuple" = some false := by decide +kernel
theorem kb6 : kitB "int" "list" = some false := by decide +kernel
theorem kb7 : kitB "str" "tuple" = some false := by decide +kernel
theorem kb8 : kitB "str" "list" = some false := by decide +kernel
theorem kb9 : kitB "list" "tuple" = some false := by decide +kernel
theorem kb10 : kitB "list" "list" = some true := by decide +kernel
theorem kb11 : kitB "tuple" "tuple" = some true := by decide +kernel
theorem kb12 : kitB "tuple" "list" = some false := by decide +kernel
theorem kb13 : kitB "dict" "tuple" = some false := by decide +kernel
theorem kb14 : kitB "dict" "list" = some false := by decide +kernel
theorem DV.kit {K : PySem.W.Frag} {H : Hp} {v : V} {d : PyData} (h : DV K H v d) : ∃ nm : String, TyX K H v (.type nm) ∧ PySem.W.kitOne K (.type nm) (.type "tuple") = some (isTup d) ∧ PySem.W.kitOne K (.type nm) (.type "list") = some (isLst d) := by
  cases h with
  | non => exact ⟨_, .base .non, kit_ty kb1, kit_ty kb2⟩
  | bl b => exact ⟨_, .base (.bl b), kit_ty kb3, kit_ty kb4⟩
  | int i => exact ⟨_, .base (.int i), kit_ty kb5, kit_ty kb6⟩
  | str x => exact ⟨_, .base (.str x), kit_ty kb7, kit_ty kb8⟩
  | lst h t => exact ⟨_, tyL h, kit_ty kb9, kit_ty kb10⟩
  | tup h t => exact ⟨_, tyT h, kit_ty kb11, kit_ty kb12⟩
  | dk0 h => exact ⟨_, .base (.dK h), kit_ty kb13, kit_ty kb14⟩
/-! ### the plain functions -/
def intOf : PyData → Int
  | .int i => i
  | _ => 0
theorem whole_all {K : PySem.W.Frag} {H : Hp} : ∀ {ds : List PyData} {vs : List V}, DVs K H vs ds → ds.all wholeD = true → vs = (ds.map intOf).map V.int
  | _, _, .nil, _ => rfl
  | d :: ds, v :: vs, .cons p t, h => by
    rw [List.all_cons, Bool.and_eq_true] at h
    rw [List.map_cons, List.map_cons, ← whole_all t h.2]
    cases p <;> first | rfl | (exact absurd h.1 (by intro q; cases q))
theorem DVs.wholes {K : PySem.W.Frag} {H : Hp} {ds : List PyData} {vs : List V} (h : DVs K H vs ds) {i : Nat} {v : V} (e : vs[i]? = some v) : ∃ d, ds[i]? = some d ∧ wholeV v = wholeD d ∧ TyD K H v := by
  obtain ⟨d, h1, h2⟩ := h.at e
  exact ⟨d, h1, h2.whole, h2.ty⟩
theorem take_snoc {α : Type} {l : List α} {i : Nat} {x : α} (h : l[i]? = some x) : l.take (i + 1) = l.take i ++ [x] := by
  rw [List.take_succ, h]; rfl
theorem lt_of_some {α : Type} {l : List α} {i : Nat} {x : α} (h : l[i]? = some x) : i < l.length := (List.getElem?_eq_some_iff.mp h).1
theorem cut_to (xs : List V) (k : Nat) : cutV xs none (some (k : Int)) = xs.take k := by
  unfold cutV
  rw [HT.sIx_none, HT.sIx_nat, List.drop_zero, Nat.sub_zero]
  rcases Nat.le_total k xs.length with h | h
  · rw [Nat.min_eq_left h]
  · rw [Nat.min_eq_right h, List.take_length, List.take_of_length_le h]
theorem cut_from (xs : List V) (k : Nat) : cutV xs (some (k : Int)) none = xs.drop k := by
  unfold cutV
  rw [HT.sIx_none, HT.sIx_nat]
  rcases Nat.le_total k xs.length with h | h
  · rw [Nat.min_eq_left h, ← List.length_drop, List.take_length]
  · rw [Nat.min_eq_right h, Nat.sub_self, List.take_zero, List.drop_of_length_le h]
theorem eqvAll_ints : ∀ xs ys : List Int, PyData.eqvAll (xs.map .int) (ys.map .int) = decide (xs = ys)
  | [], [] => by simp [PyData.eqvAll]
  | [], _ :: _ => by simp [PyData.eqvAll]
  | _ :: _, [] => by simp [PyData.eqvAll]
  | x :: xs, y :: ys => by
    rw [List.map_cons, List.map_cons, PyData.eqvAll, eqvAll_ints xs ys, PyData.eqv]
    by_cases h : x = y
    · subst h
      simp
    · simp [h]
theorem canLay_ints : ∀ xs : List Int, PyData.canLayAll0 (xs.map .int) = true
  | [] => by rw [List.map_nil, PyData.canLayAll0]
  | x :: xs => by rw [List.map_cons, PyData.canLayAll0, canLay_ints xs, PyData.canLay0]; rfl
theorem depthAll_ints : ∀ xs : List Int, PyData.depthAll (xs.map .int) ≤ 1
  | [] => by rw [List.map_nil, PyData.depthAll]; omega
  | x :: xs => by
    have := depthAll_ints xs
    rw [List.map_cons, PyData.depthAll, PyData.depth]
    omega
theorem shaped_ints (xs : List Int) : SeqAt.shaped (.list (xs.map .int)) = true := by
  unfold SeqAt.shaped
  rw [Bool.and_eq_true]
  refine ⟨?_, decide_eq_true ?_⟩
  · rw [PyData.canLay0]; exact canLay_ints xs
  · have := depthAll_ints xs
    rw [PyData.depth]
    omega
theorem DpAll.ints {K : PySem.W.Frag} {H : Hp} : ∀ xs : List Int, DpAll K H (xs.map V.int) (xs.map .int)
  | [] => .nil
  | x :: xs => .cons (.int x) (DpAll.ints xs)
def rEqL (K : PySem.W.Frag) : R2 := fun x y H Q => ∃ (p q : Addr) (xs ys : List Int), x = .ref p ∧ y = .ref q ∧ SqL K H p (xs.map V.int) ∧ SqL K H q (ys.map V.int) ∧ Q (.bl (decide (xs = ys))) H
def rNeL (K : PySem.W.Frag) : R2 := fun x y H Q => ∃ (p q : Addr) (xs ys : List Int), x = .ref p ∧ y = .ref q ∧ SqL K H p (xs.map V.int) ∧ SqL K H q (ys.map V.int) ∧ Q (.bl (!decide (xs = ys))) H
section
variable {X : Cx}
theorem op_eqL (hu : X.A.units + 64 < cLine) : OpR X (compareOp .Eq) (rEqL X.K) := by
  intro pins s σ H x y v u Q I rx ry h
  obtain ⟨p, q, xs, ys, rfl, rfl, h1, h2, k⟩ := h
  refine op_eqD hu pins s σ H _ _ v u Q I rx ry ⟨_, _, .lst h1 (DpAll.ints xs), .lst h2 (DpAll.ints ys), shaped_ints xs, shaped_ints ys, ?_⟩
  rw [PyData.eqv, eqvAll_ints]
  exact k
theorem op_neL (hu : X.A.units + 64 < cLine) : OpR X (compareOp .NotEq) (rNeL X.K) := by
  intro pins s σ H x y v u Q I rx ry h
  obtain ⟨p, q, xs, ys, rfl, rfl, h1, h2, k⟩ := h
  refine op_neD hu pins s σ H _ _ v u Q I rx ry ⟨_, _, .lst h1 (DpAll.ints xs), .lst h2 (DpAll.ints ys), shaped_ints xs, shaped_ints ys, ?_⟩
  rw [PyData.eqv, eqvAll_ints]
  exact k
end
theorem hu64 {A : Around} {k : Nat} (hr : Room k A) : A.units + 64 < cLine := by have := hr.un; omega
/-- behind Hd: all as it was but the deck at d, and these objects stand -/
def Fs (d : Addr) (Hd : Hp) (fs : List (Addr × HO)) (H' : Hp) : Prop := But d Hd H' ∧ DeckAt H' d ∧ ∀ p ∈ fs, p.1 ≠ d ∧ H' p.1 = some p.2
section
variable {d p p0 p1 p2 p3 p4 p5 : Addr} {Hd H1 H2 : Hp} {fs : List (Addr × HO)} {o o0 o1 o2 o3 o4 o5 : HO}
theorem Fs.start (D : DeckAt Hd d) : Fs d Hd [] Hd := ⟨But.refl _ _, D, fun _ h => by cases h⟩
theorem Fs.step (F : Fs d Hd fs H1) (D : DeckAt H2 d) (B : But d H1 H2) : Fs d Hd fs H2 := ⟨F.1.trans B, D, fun q hq => ⟨(F.2.2 q hq).1, B _ _ (F.2.2 q hq).1 (F.2.2 q hq).2⟩⟩
theorem Fs.same (F : Fs d Hd fs H1) (s : Same H1 H2) : Fs d Hd fs H2 := F.step (F.2.1.same s) (But.of s)
theorem Fs.add (F : Fs d Hd fs H1) (h : H1 p = some o) (n : ∀ x y, o ≠ .dK (dk x y)) : Fs d Hd ((p, o) :: fs) H1 := ⟨F.1, F.2.1, fun q hq => by
  rcases List.mem_cons.mp hq with e | e
  · subst e
    obtain ⟨x, y, hd, _⟩ := F.2.1
    exact ⟨ne_of h hd (n x y), h⟩
  · exact F.2.2 q e⟩
theorem Fs.new (F : Fs d Hd fs H1) (h : H1 p = none) (n : ∀ x y, o ≠ .dK (dk x y)) : Fs d Hd ((p, o) :: fs) (upd H1 p o) := (F.same (Same.new h)).add upd_same n
theorem Fs.skip (F : Fs d Hd fs H1) (h : H1 p = none) : Fs d Hd fs (upd H1 p o) := F.same (Same.new h)
theorem Fs.tail (F : Fs d Hd ((p, o) :: fs) H1) : Fs d Hd fs H1 := ⟨F.1, F.2.1, fun q hq => F.2.2 q (List.mem_cons_of_mem _ hq)⟩
theorem Fs.deck (F : Fs d Hd fs H1) : DeckAt H1 d := F.2.1
theorem Fs.g0 (F : Fs d Hd ((p0, o0) :: fs) H1) : H1 p0 = some o0 := (F.2.2 _ List.mem_cons_self).2
theorem Fs.g1 (F : Fs d Hd ((p0, o0) :: (p1, o1) :: fs) H1) : H1 p1 = some o1 := F.tail.g0
theorem Fs.g2 (F : Fs d Hd ((p0, o0) :: (p1, o1) :: (p2, o2) :: fs) H1) : H1 p2 = some o2 := F.tail.g1
theorem Fs.g3 (F : Fs d Hd ((p0, o0) :: (p1, o1) :: (p2, o2) :: (p3, o3) :: fs) H1) : H1 p3 = some o3 := F.tail.g2
theorem Fs.g4 (F : Fs d Hd ((p0, o0) :: (p1, o1) :: (p2, o2) :: (p3, o3) :: (p4, o4) :: fs) H1) : H1 p4 = some o4 := F.tail.g3
/-- what stood ahead of the deck stands -/
theorem Fs.old {H : Hp} (F : Fs d Hd fs H1) (hd : H d = none) (s : Same H Hd) : Same H H1 := fun b u h => F.1 b u (ne_of_none h hd) (s b u h)
end
theorem nl {xs : List V} : ∀ x y, HO.lst xs ≠ .dK (dk x y) := fun _ _ h => by cases h
theorem nt {xs : List V} : ∀ x y, HO.tup xs ≠ .dK (dk x y) := fun _ _ h => by cases h
theorem cut_mid (js : List Int) {f t : Nat} (h : f < js.length) : cutV (js.map V.int) (some (f : Int)) (some ((f : Int) + 1 + (t : Int))) = ((js.drop f).take (t + 1)).map V.int := by
  unfold cutV
  have e : (f : Int) + 1 + (t : Int) = ((f + 1 + t : Nat) : Int) := by omega
  rw [e, HT.sIx_nat, HT.sIx_nat, List.length_map, Nat.min_eq_left (by omega : f ≤ js.length), List.map_take, List.map_drop]
  rcases Nat.le_total (f + 1 + t) js.length with q | q
  · rw [Nat.min_eq_left q]
    congr 1
    omega
  · rw [Nat.min_eq_right q, List.take_of_length_le, List.take_of_length_le]
    · rw [List.length_drop, List.length_map]; omega
    · rw [List.length_drop, List.length_map]; omega
theorem seqIndex_nat {k n : Nat} (h : k < n) : seqIndex? (k : Int) n = some k := by
  unfold seqIndex?
  have h1 : ¬ ((k : Int) < 0) := by omega
  simp only [h1, if_false]
  have h2 : (decide (0 ≤ (k : Int)) && decide ((k : Int) < (n : Int))) = true := by
    rw [Bool.and_eq_true]
    exact ⟨decide_eq_true (by omega), decide_eq_true (by omega)⟩
  rw [if_pos h2]
  simp
theorem erase_map (js : List Int) (k : Nat) : (js.map V.int).eraseIdx k = (js.eraseIdx k).map V.int := by
  exact L2.erase_mapI js k
section
variable {P : Program} {w : World} {K : PySem.W.Frag} {mg : Str → Option Value} {base : Heap}
/-! ### the things in a drawn sequence -/
def spShuf (K : PySem.W.Frag) : Sp := fun vs H Q _ => ∃ (d t : Addr) (js : List Int), vs = [.ref d, .ref t] ∧ DeckAt H d ∧ SqL K H t (js.map V.int) ∧ js.length ≤ 300 ∧
  ∀ (p : Addr) (ks : List Int) (H' : Hp), H p = none → But d H H' → DeckAt H' d → H' p = some (.lst (ks.map V.int)) → ks.Perm js → Q (.ref p) H'
structure TxtS (mg : Str → Option Value) : Prop where
  len : mg "len" = none
  list : mg "list" = none
theorem scShuf : FnScope ["tape", "ids", "left", "found"] ["tape", "ids"] (defScope sShuf) := ⟨rfl, rfl, rfl, by decide +kernel, rfl, by decide +kernel, by decide +kernel⟩
theorem ok_shuf {f fD : Addr} {fd fdD : FuncData} (F : Fun K "_law_shuffled" "_law_shuffled" sShuf f fd) (T : TxtS mg) (FD : Fun K "_law_pick" "_law_pick" sDraw fD fdD) (bD : L2.Binds K fdD ["tape", "size"] []) (mD : mg "_law_pick" = some (.ref fD)) :
    FnOk P w K mg base CX0 2 f fd ["tape", "ids"] (spShuf K) := by
  have GD : FnOk P w K mg base CX0 1 fD fdD ["tape", "size"] spDraw := ok_draw FD
  refine F.ok scShuf (fun vs H Q E h => ?_) (fun cdv A outer s H vs Q E hr h => ?_)
  · obtain ⟨d, t, js, rfl, _⟩ := h
    rfl
  · obtain ⟨d, t, js, rfl, D, hT, hj, k⟩ := h
    have h64 := hu64 hr
    refine ⟨_, pss_cons (ps_set (i := 2) scShuf.nd rfl (Or.inl rfl) (pe_callTy call_list_of (by rfl) T.list (by decide +kernel) (pa_cons (pv 1) pa_nil)))
      (pss_cons (ps_set (i := 3) scShuf.nd rfl (Or.inl rfl) (pe_lst pa_nil))
      (pss_cons (ps_while PassesOwn.never (pt_cmpR (op_neL h64) (pv 2) (pe_lst pa_nil) (nomark _))
        (pss_one (ps_expr (pe_bm PySem.F.plainAttrs_list PySem.F.slot_list_append PySem.F.type_list_append mt_append (pv 3) (pa_cons
          (pe_bm PySem.F.plainAttrs_list PySem.F.slot_list_pop PySem.F.type_list_pop mt_popAt (pv 2) (pa_cons (pe_call GD hr rfl mD FD.kp bD .nil pass0 (pa_cons (pv 0) (pa_cons (pe_callB call_len_seq (by rfl) T.len PySem.boot_len (pa_cons (pv 2) pa_nil)) pa_nil))) pa_nil)) pa_nil)))))
      (pss_one (ps_ret (pv 3))))), ?_⟩
    refine ⟨_, rfl, t, _, rfl, .inl hT, fun l hl => ?_⟩
    have F1 : Fs d H [(l, .lst (js.map V.int))] _ := (Fs.start D).new hl nl
    refine ⟨Nat.zero_le _, fun r hr' => ?_⟩
    have F2 := F1.new hr' (o := .lst []) nl
    have hr0 : H r = none := Same.free (Same.new (o := .lst (js.map V.int)) hl) hr'
    have nlr : l ≠ r := ne_of_none F1.g0 hr'
    refine ⟨fun m σ H' => ∃ (ls fs : List Int), σ = [some (.ref d), some (.ref t), some (.ref l), some (.ref r)] ∧ m = ls.length ∧ (fs ++ ls).Perm js ∧ But d H H' ∧ DeckAt H' d ∧ H' l = some (.lst (ls.map V.int)) ∧ H' r = some (.lst (fs.map V.int)),
      ⟨_, js, [], rfl, rfl, List.Perm.refl _, F2.1, F2.deck, F2.g1, F2.g0⟩, ?_⟩
    rintro m σ H1 ⟨ls, fs, rfl, rfl, hp, B1, D1, hL, hR⟩
    have hlen : fs.length + ls.length = js.length := by have := hp.length_eq; rw [List.length_append] at this; exact this
    refine ⟨_, rfl, Nat.zero_le _, fun q hq => ?_⟩
    have s2 : Same H1 (upd H1 q (.lst [])) := Same.new hq
    refine ⟨l, q, ls, [], rfl, rfl, SqL.of (s2 _ _ hL), SqL.of upd_same, _, rfl, ?_⟩
    by_cases h0 : ls = []
    · subst h0
      refine iteF ?_
      rw [List.append_nil] at hp
      exact ⟨_, rfl, k r fs _ hr0 (B1.trans (But.of s2)) (D1.same s2) (s2 _ _ hR) hp⟩
    · rw [decide_eq_false h0]
      refine iteT ?_
      have hpos : 0 < ls.length := List.length_pos_iff.mpr h0
      refine ⟨fun σ' H' => ∃ m', m' < ls.length ∧ ∃ (ls fs : List Int), σ' = [some (.ref d), some (.ref t), some (.ref l), some (.ref r)] ∧ m' = ls.length ∧ (fs ++ ls).Perm js ∧ But d H H' ∧ DeckAt H' d ∧ H' l = some (.lst (ls.map V.int)) ∧ H' r = some (.lst (fs.map V.int)), fun _ _ z => z, ?_⟩
      have D2 := D1.same s2
      refine ⟨_, rfl, .inl ⟨rfl, _, SqL.of (s2 _ _ hR)⟩, _, rfl, .inl ⟨rfl, _, SqL.of (s2 _ _ hL)⟩, _, rfl, _, rfl, l, _, rfl, .inl (SqL.of (s2 _ _ hL)), d, _, rfl, D2, by rw [List.length_map]; omega, by rw [List.length_map]; omega, fun z H3 z0 z1 D3 B3 => ?_⟩
      rw [List.length_map] at z1
      obtain ⟨i, rfl⟩ : ∃ m : Nat, z = (m : Int) := ⟨z.toNat, by omega⟩
      have hi : i < ls.length := by omega
      have hL3 := B3.lst D2 (s2 _ _ hL)
      have hR3 := B3.lst D2 (s2 _ _ hR)
      have hy : ls[i]? = some ls[i] := List.getElem?_eq_getElem hi
      refine ⟨l, _, _, i, .int ls[i], rfl, rfl, hL3, by omega, by omega, seqIndex_nat (by rw [List.length_map]; exact hi), by rw [List.getElem?_map, hy]; rfl, ?_⟩
      rw [erase_map]
      have hR4 : upd H3 l (.lst ((ls.eraseIdx i).map V.int)) r = some (.lst (fs.map V.int)) := by rw [upd_ne nlr.symm]; exact hR3
      refine ⟨r, _, _, rfl, rfl, hR4, by rw [List.length_map]; exact small1000 (by omega), ?_⟩
      have hel : (ls.eraseIdx i).length + 1 = ls.length := by rw [List.length_eraseIdx_of_lt hi]; omega
      refine ⟨(ls.eraseIdx i).length, by omega, ls.eraseIdx i, fs ++ [ls[i]], rfl, rfl, ?_, ?_, ?_, ?_, ?_⟩
      · rw [List.append_assoc]
        exact (List.Perm.append_left fs (L2.erase_perm ls i _ hy)).trans hp
      · intro b o hb e
        have nbl : b ≠ l := ne_of_none e hl
        have nbr : b ≠ r := ne_of_none e hr0
        rw [upd_ne nbr, upd_ne nbl]
        exact B3 b o hb (s2 _ _ (B1 b o hb e))
      · obtain ⟨x, y, hd, rr⟩ := D3
        have n1 : d ≠ l := (ne_of hL3 hd (nl _ _)).symm
        have n2 : d ≠ r := (ne_of hR3 hd (nl _ _)).symm
        exact ⟨x, y, by rw [upd_ne n2, upd_ne n1]; exact hd, rr⟩
      · rw [upd_ne nlr, upd_same]
      · rw [upd_same, List.map_append]; rfl
end
/-! ### pins as a forest: what is laid out is what is sorted by the places of the anchors -/
structure Forest (base : List Int) (p : Int → Option Int) (r : Int → Nat) (N : Nat) : Prop where
  nd : base.Nodup
  nz : ∀ x ∈ base, x ≠ 0
  lt : ∀ x ∈ base, r x < N
  anc : ∀ x ∈ base, ∀ a, p x = some a → a = 0 ∨ (a ∈ base ∧ r a < r x)
def kidsOf (base : List Int) (p : Int → Option Int) (a : Int) : List Int := base.filter fun x => p x == some a
def looseOf (base : List Int) (p : Int → Option Int) : List Int := base.filter fun x => p x == none
def dfsN (base : List Int) (p : Int → Option Int) : Nat → Int → List Int
  | 0, x => [x]
  | n + 1, x => x :: (kidsOf base p x).flatMap (dfsN base p n)
def ixI (base : List Int) (x : Int) : Int := (base.idxOf x : Nat)
def pathN (base : List Int) (p : Int → Option Int) : Nat → Int → List Int
  | 0, x => match p x with
    | none => [1, ixI base x]
    | some a => if a = 0 then [0, ixI base x] else []
  | m + 1, x => match p x with
    | none => [1, ixI base x]
    | some a => if a = 0 then [0, ixI base x] else pathN base p m a ++ [ixI base x]
theorem pathN_none {base : List Int} {p : Int → Option Int} {x : Int} (h : p x = none) : ∀ n, pathN base p n x = [1, ixI base x]
  | 0 => by rw [pathN, h]
  | n + 1 => by rw [pathN, h]
theorem pathN_top {base : List Int} {p : Int → Option Int} {x : Int} (h : p x = some 0) : ∀ n, pathN base p n x = [0, ixI base x]
  | 0 => by rw [pathN, h]; exact if_pos rfl
  | n + 1 => by rw [pathN, h]; exact if_pos rfl
theorem pathN_step {base : List Int} {p : Int → Option Int} {x a : Int} (h : p x = some a) (ha : a ≠ 0) (n : Nat) : pathN base p (n + 1) x = pathN base p n a ++ [ixI base x] := by
  rw [pathN, h]
  exact if_neg ha
theorem mem_kids {base : List Int} {p : Int → Option Int} {a x : Int} : x ∈ kidsOf base p a ↔ x ∈ base ∧ p x = some a := by
  unfold kidsOf
  rw [List.mem_filter, beq_iff_eq]
theorem mem_loose {base : List Int} {p : Int → Option Int} {x : Int} : x ∈ looseOf base p ↔ x ∈ base ∧ p x = none := by
  unfold looseOf
  rw [List.mem_filter, beq_iff_eq]
theorem app_lt (a : List Int) {x : Int} {s : List Int} : a < a ++ x :: s := by
  induction a with
  | nil => exact List.nil_lt_cons _ _
  | cons y r ih => rw [List.cons_append]; exact List.cons_lt_cons_iff.mpr (.inr ⟨rfl, ih⟩)
theorem app_lt2 (a : List Int) {b c : List Int} (h : b < c) : a ++ b < a ++ c := by
  induction a with
  | nil => exact h
  | cons y r ih => rw [List.cons_append, List.cons_append]; exact List.cons_lt_cons_iff.mpr (.inr ⟨rfl, ih⟩)
section
variable {base : List Int} {p : Int → Option Int} {r : Int → Nat} {N : Nat}
def treeOf (base : List Int) (p : Int → Option Int) (r : Int → Nat) (N : Nat) (x : Int) : List Int := dfsN base p (N - r x) x
def pathOf (base : List Int) (p : Int → Option Int) (r : Int → Nat) (x : Int) : List Int := pathN base p (r x) x
theorem kid_up (F : Forest base p r N) {a x : Int} (ha : a ∈ base) (h : x ∈ kidsOf base p a) : x ∈ base ∧ r a < r x := by
  obtain ⟨h1, h2⟩ := mem_kids.mp h
  rcases F.anc x h1 a h2 with e | ⟨_, e⟩
  · exact absurd e (F.nz a ha)
  · exact ⟨h1, e⟩
theorem dfs_more (F : Forest base p r N) : ∀ (n : Nat) (x : Int), x ∈ base → N - r x ≤ n → dfsN base p n x = treeOf base p r N x
  | 0, x, hx, h => by have := F.lt x hx; omega
  | n + 1, x, hx, h => by
    have hlt := F.lt x hx
    unfold treeOf
    obtain ⟨m, hm⟩ : ∃ m, N - r x = m + 1 := ⟨N - r x - 1, by omega⟩
    rw [hm, dfsN, dfsN]
    congr 1
    have key : ∀ l : List Int, (∀ c ∈ l, c ∈ kidsOf base p x) → l.flatMap (dfsN base p n) = l.flatMap (dfsN base p m) := by
      intro l
      induction l with
      | nil => intro _; rfl
      | cons c l ih =>
        intro hl
        obtain ⟨c1, c2⟩ := kid_up F hx (hl c List.mem_cons_self)
        rw [List.flatMap_cons, List.flatMap_cons, ih fun c hc => hl c (List.mem_cons_of_mem _ hc)]
        rw [dfs_more F n c c1 (by omega)]
        by_cases hmn : m = n
        · subst hmn; rw [dfs_more F m c c1 (by omega)]
        · have hmn2 : m < n + 1 := by omega
          congr 1
          unfold treeOf
          have := F.lt c c1
          have e1 : dfsN base p m c = treeOf base p r N c := dfs_more F m c c1 (by omega)
          rw [e1]; rfl
    exact key _ fun c hc => hc
termination_by n => n
theorem tree_eq (F : Forest base p r N) {x : Int} (hx : x ∈ base) : treeOf base p r N x = x :: (kidsOf base p x).flatMap (treeOf base p r N) := by
  have hlt := F.lt x hx
  have e : dfsN base p (N + 1) x = treeOf base p r N x := dfs_more F (N + 1) x hx (by omega)
  rw [← e, dfsN]
  congr 1
  have key : ∀ l : List Int, (∀ c ∈ l, c ∈ kidsOf base p x) → l.flatMap (dfsN base p N) = l.flatMap (treeOf base p r N) := by
    intro l
    induction l with
    | nil => intro _; rfl
    | cons c l ih =>
      intro hl
      obtain ⟨c1, c2⟩ := kid_up F hx (hl c List.mem_cons_self)
      rw [List.flatMap_cons, List.flatMap_cons, ih fun c hc => hl c (List.mem_cons_of_mem _ hc), dfs_more F N c c1 (by omega)]
  exact key _ fun c hc => hc
theorem path_more (F : Forest base p r N) : ∀ (n : Nat) (x : Int), x ∈ base → r x ≤ n → pathN base p n x = pathOf base p r x
  | n, x, hx, h => by
    unfold pathOf
    cases hp : p x with
    | none => rw [pathN_none hp, pathN_none hp]
    | some a =>
      by_cases ha : a = 0
      · subst ha
        rw [pathN_top hp, pathN_top hp]
      · rcases F.anc x hx a hp with e | ⟨a1, a2⟩
        · exact absurd e ha
        · obtain ⟨m, hm⟩ : ∃ m, r x = m + 1 := ⟨r x - 1, by omega⟩
          obtain ⟨k, rfl⟩ : ∃ k, n = k + 1 := ⟨n - 1, by omega⟩
          rw [hm, pathN_step hp ha, pathN_step hp ha, path_more F k a a1 (by omega), path_more F m a a1 (by omega)]
termination_by n => n
theorem path_none {x : Int} (h : p x = none) : pathOf base p r x = [1, ixI base x] := pathN_none h _
theorem path_top {x : Int} (h : p x = some 0) : pathOf base p r x = [0, ixI base x] := pathN_top h _
theorem path_step (F : Forest base p r N) {x a : Int} (hx : x ∈ base) (h : p x = some a) (ha : a ≠ 0) : a ∈ base ∧ pathOf base p r x = pathOf base p r a ++ [ixI base x] := by
  rcases F.anc x hx a h with e | ⟨a1, a2⟩
  · exact absurd e ha
  · refine ⟨a1, ?_⟩
    have e := path_more F (r x + 1) x hx (by omega)
    rw [← e, pathN_step h ha, path_more F (r x) a a1 (by omega)]
theorem ix_sorted {base : List Int} {f : Int → Bool} (nd : base.Nodup) : (base.filter f).Pairwise fun a b => ixI base a < ixI base b := by
  have h : base.Pairwise fun a b => ixI base a < ixI base b := by
    refine List.pairwise_iff_getElem.mpr fun i j hi hj hij => ?_
    unfold ixI
    rw [nd.idxOf_getElem i hi, nd.idxOf_getElem j hj]
    omega
  exact h.filter f
/-- what hangs on x -/
theorem tree_ok (F : Forest base p r N) : ∀ (n : Nat) (x : Int), x ∈ base → N - r x ≤ n → (∀ y ∈ treeOf base p r N x, y ∈ base ∧ ∃ s, pathOf base p r y = pathOf base p r x ++ s) ∧ (treeOf base p r N x).Pairwise (fun a b => pathOf base p r a < pathOf base p r b)
  | 0, x, hx, h => by have := F.lt x hx; omega
  | n + 1, x, hx, h => by
    have hlt := F.lt x hx
    have hk : ∀ c ∈ kidsOf base p x, c ∈ base ∧ (∀ y ∈ treeOf base p r N c, y ∈ base ∧ ∃ s, pathOf base p r y = pathOf base p r x ++ ixI base c :: s) ∧ (treeOf base p r N c).Pairwise (fun a b => pathOf base p r a < pathOf base p r b) := fun c hc => by
      obtain ⟨c1, c2⟩ := kid_up F hx hc
      obtain ⟨i1, i2⟩ := tree_ok F n c c1 (by omega)
      refine ⟨c1, fun y hy => ?_, i2⟩
      obtain ⟨y1, s, hs⟩ := i1 y hy
      refine ⟨y1, s, ?_⟩
      rw [hs, (path_step F c1 (mem_kids.mp hc).2 (F.nz x hx)).2, List.append_assoc]; rfl
    rw [tree_eq F hx]
    refine ⟨fun y hy => ?_, List.pairwise_cons.mpr ⟨fun y hy => ?_, List.pairwise_flatMap.mpr ⟨fun c hc => (hk c hc).2.2, ?_⟩⟩⟩
    · rcases List.mem_cons.mp hy with e | hy
      · rw [e]; exact ⟨hx, [], by rw [List.append_nil]⟩
      · obtain ⟨c, hc, hy⟩ := List.mem_flatMap.mp hy
        obtain ⟨y1, s, hs⟩ := (hk c hc).2.1 y hy
        exact ⟨y1, _, hs⟩
    · obtain ⟨c, hc, hy⟩ := List.mem_flatMap.mp hy
      obtain ⟨y1, s, hs⟩ := (hk c hc).2.1 y hy
      rw [hs]
      exact app_lt _
    · have hs : (kidsOf base p x).Pairwise fun a b => ixI base a < ixI base b := ix_sorted F.nd
      refine (List.pairwise_iff_forall_sublist.mpr fun {a b} hab u hu v hv => ?_)
      have hab2 := List.pairwise_iff_forall_sublist.mp hs hab
      have ha : a ∈ kidsOf base p x := hab.subset (by simp)
      have hb : b ∈ kidsOf base p x := hab.subset (by simp)
      obtain ⟨_, s1, e1⟩ := (hk a ha).2.1 u hu
      obtain ⟨_, s2, e2⟩ := (hk b hb).2.1 v hv
      rw [e1, e2]
      exact app_lt2 _ (List.cons_lt_cons_iff.mpr (.inl hab2))
termination_by n => n
/-- the laid order -/
def laidOf (base : List Int) (p : Int → Option Int) (r : Int → Nat) (N : Nat) : List Int := (kidsOf base p 0 ++ looseOf base p).flatMap (treeOf base p r N)
theorem tree_kids (F : Forest base p r N) : ∀ (n : Nat) (x : Int), x ∈ base → N - r x ≤ n → ∀ a ∈ treeOf base p r N x, ∀ c ∈ kidsOf base p a, c ∈ treeOf base p r N x
  | 0, x, hx, h => by have := F.lt x hx; omega
  | n + 1, x, hx, h => by
    have hlt := F.lt x hx
    intro a ha c hc
    rw [tree_eq F hx] at ha ⊢
    refine List.mem_cons_of_mem _ (List.mem_flatMap.mpr ?_)
    rcases List.mem_cons.mp ha with e | ha
    · rw [e] at hc
      refine ⟨c, hc, ?_⟩
      rw [tree_eq F (kid_up F hx hc).1]
      exact List.mem_cons_self
    · obtain ⟨k, hk, ha⟩ := List.mem_flatMap.mp ha
      obtain ⟨k1, k2⟩ := kid_up F hx hk
      exact ⟨k, hk, tree_kids F n k k1 (by omega) a ha c hc⟩
termination_by n => n
theorem tops_in {x : Int} (h : x ∈ kidsOf base p 0 ++ looseOf base p) : x ∈ base := by
  rcases List.mem_append.mp h with q | q
  · exact (mem_kids.mp q).1
  · exact (mem_loose.mp q).1
theorem laid_in (F : Forest base p r N) {y : Int} (h : y ∈ laidOf base p r N) : y ∈ base := by
  obtain ⟨c, hc, hy⟩ := List.mem_flatMap.mp h
  exact ((tree_ok F (N - r c) c (tops_in hc) (Nat.le_refl _)).1 y hy).1
theorem laid_all (F : Forest base p r N) : ∀ (n : Nat) (x : Int), x ∈ base → r x ≤ n → x ∈ laidOf base p r N
  | n, x, hx, h => by
    have top : x ∈ kidsOf base p 0 ++ looseOf base p → x ∈ laidOf base p r N := fun q => List.mem_flatMap.mpr ⟨x, q, by rw [tree_eq F hx]; exact List.mem_cons_self⟩
    cases hp : p x with
    | none => exact top (List.mem_append_right _ (mem_loose.mpr ⟨hx, hp⟩))
    | some a =>
      rcases F.anc x hx a hp with e | ⟨a1, a2⟩
      · subst e
        exact top (List.mem_append_left _ (mem_kids.mpr ⟨hx, hp⟩))
      · obtain ⟨m, rfl⟩ : ∃ m, n = m + 1 := ⟨n - 1, by omega⟩
        obtain ⟨c, hc, ha⟩ := List.mem_flatMap.mp (laid_all F m a a1 (by omega))
        exact List.mem_flatMap.mpr ⟨c, hc, tree_kids F _ c (tops_in hc) (Nat.le_refl _) a ha x (mem_kids.mpr ⟨hx, hp⟩)⟩
termination_by n => n
theorem laid_up (F : Forest base p r N) : (laidOf base p r N).Pairwise fun a b => pathOf base p r a < pathOf base p r b := by
  have hk : ∀ c ∈ kidsOf base p 0 ++ looseOf base p, (treeOf base p r N c).Pairwise fun a b => pathOf base p r a < pathOf base p r b := fun c hc => (tree_ok F _ c (tops_in hc) (Nat.le_refl _)).2
  have h0 : ∀ c ∈ kidsOf base p 0, ∀ y ∈ treeOf base p r N c, ∃ s, pathOf base p r y = 0 :: ixI base c :: s := fun c hc y hy => by
    obtain ⟨_, s, e⟩ := (tree_ok F _ c (mem_kids.mp hc).1 (Nat.le_refl _)).1 y hy
    exact ⟨s, by rw [e, path_top (mem_kids.mp hc).2]; rfl⟩
  have h1 : ∀ c ∈ looseOf base p, ∀ y ∈ treeOf base p r N c, ∃ s, pathOf base p r y = 1 :: ixI base c :: s := fun c hc y hy => by
    obtain ⟨_, s, e⟩ := (tree_ok F _ c (mem_loose.mp hc).1 (Nat.le_refl _)).1 y hy
    exact ⟨s, by rw [e, path_none (mem_loose.mp hc).2]; rfl⟩
  have hs : ∀ f : Int → Bool, (base.filter f).Pairwise fun a b => ixI base a < ixI base b := fun f => ix_sorted F.nd
  refine List.pairwise_flatMap.mpr ⟨hk, List.pairwise_append.mpr ⟨?_, ?_, ?_⟩⟩
  · refine List.pairwise_iff_forall_sublist.mpr fun {a b} hab u hu v hv => ?_
    have ha : a ∈ kidsOf base p 0 := hab.subset (by simp)
    have hb : b ∈ kidsOf base p 0 := hab.subset (by simp)
    obtain ⟨s1, e1⟩ := h0 a ha u hu
    obtain ⟨s2, e2⟩ := h0 b hb v hv
    rw [e1, e2]
    exact List.cons_lt_cons_iff.mpr (.inr ⟨rfl, List.cons_lt_cons_iff.mpr (.inl (List.pairwise_iff_forall_sublist.mp (hs _) hab))⟩)
  · refine List.pairwise_iff_forall_sublist.mpr fun {a b} hab u hu v hv => ?_
    have ha : a ∈ looseOf base p := hab.subset (by simp)
    have hb : b ∈ looseOf base p := hab.subset (by simp)
    obtain ⟨s1, e1⟩ := h1 a ha u hu
    obtain ⟨s2, e2⟩ := h1 b hb v hv
    rw [e1, e2]
    exact List.cons_lt_cons_iff.mpr (.inr ⟨rfl, List.cons_lt_cons_iff.mpr (.inl (List.pairwise_iff_forall_sublist.mp (hs _) hab))⟩)
  · intro a ha b hb u hu v hv
    obtain ⟨s1, e1⟩ := h0 a ha u hu
    obtain ⟨s2, e2⟩ := h1 b hb v hv
    rw [e1, e2]
    exact List.cons_lt_cons_iff.mpr (.inl (by decide))
theorem laid_nodup (F : Forest base p r N) : (laidOf base p r N).Nodup := (laid_up F).imp fun {a b} h e => by
  subst e
  exact List.lt_irrefl _ h
theorem laid_perm (F : Forest base p r N) : (laidOf base p r N).Perm base :=
  (List.perm_ext_iff_of_nodup (laid_nodup F) F.nd).mpr fun a => ⟨laid_in F, fun h => laid_all F _ a h (Nat.le_refl _)⟩
theorem path_inj (F : Forest base p r N) {x y : Int} (hx : x ∈ base) (hy : y ∈ base) (h : x ≠ y) : pathOf base p r x ≠ pathOf base p r y := by
  intro e
  have hx2 := laid_all F _ x hx (Nat.le_refl _)
  have hy2 := laid_all F _ y hy (Nat.le_refl _)
  obtain ⟨i, hi, ei⟩ := List.getElem_of_mem hx2
  obtain ⟨j, hj, ej⟩ := List.getElem_of_mem hy2
  have up := List.pairwise_iff_getElem.mp (laid_up F)
  rcases Nat.lt_trichotomy i j with q | q | q
  · have := up i j hi hj q
    rw [ei, ej, e] at this
    exact List.lt_irrefl _ this
  · subst q
    exact h (ei.symm.trans ej)
  · have := up j i hj hi q
    rw [ei, ej, e] at this
    exact List.lt_irrefl _ this
theorem laid_sort (F : Forest base p r N) : base.mergeSort (fun a b => decide (pathOf base p r a ≤ pathOf base p r b)) = laidOf base p r N := by
  have h4 : (base.mergeSort (fun a b => decide (pathOf base p r a ≤ pathOf base p r b))).Pairwise (fun a b => pathOf base p r a ≤ pathOf base p r b) := by
    have := List.pairwise_mergeSort (le := fun a b : Int => decide (pathOf base p r a ≤ pathOf base p r b)) (fun a b c x y => decide_eq_true (List.le_trans (of_decide_eq_true x) (of_decide_eq_true y)))
      (fun a b => by
        rcases List.le_total (pathOf base p r a) (pathOf base p r b) with q | q
        · rw [decide_eq_true q]; rfl
        · rw [decide_eq_true q, Bool.or_true]) base
    exact this.imp fun z => of_decide_eq_true z
  refine List.Perm.eq_of_pairwise (le := fun a b => pathOf base p r a ≤ pathOf base p r b) (fun a b ha hb x y => ?_) h4 ((laid_up F).imp fun z => List.le_of_lt z) ((List.mergeSort_perm _ _).trans (laid_perm F).symm)
  by_cases e : a = b
  · exact e
  · exact absurd (List.le_antisymm x y) (path_inj F (List.mem_mergeSort.mp ha) (laid_in F hb) e)
end
/-! ### lists hung in a dict -/
def HungAt (G : Hp) (n : Nat) (H : Hp) (h : Addr) (f : Int → List Int) : Prop := ∃ kvs : List (Key × V), H h = some (.dK kvs) ∧ kvs.length ≤ n ∧
  (∀ a, (valV kvs (.inl a : Key) = none ∧ f a = []) ∨ ∃ l, valV kvs (.inl a : Key) = some (.ref l) ∧ H l = some (.lst ((f a).map V.int)) ∧ G l = none) ∧
  ∀ a b l, valV kvs (.inl a : Key) = some (.ref l) → valV kvs (.inl b : Key) = some (.ref l) → a = b
def pushF (f : Int → List Int) (a x : Int) : Int → List Int := fun b => if b = a then f a ++ [x] else f b
theorem HungAt.nil {G H : Hp} {h : Addr} (e : H h = some (.dK [])) : HungAt G 0 H h fun _ => [] :=
  ⟨[], e, Nat.le_refl _, fun a => .inl ⟨rfl, rfl⟩, fun a b l z => by cases z⟩
theorem HungAt.same {G H H' : Hp} {n : Nat} {h : Addr} {f : Int → List Int} (s : Same H H') (g : HungAt G n H h f) : HungAt G n H' h f := by
  obtain ⟨kvs, h1, hn, h2, h3⟩ := g
  refine ⟨kvs, s _ _ h1, hn, fun a => ?_, h3⟩
  rcases h2 a with q | ⟨l, q1, q2, q3⟩
  · exact .inl q
  · exact .inr ⟨l, q1, s _ _ q2, q3⟩
/-- d.setdefault(a, []).append(x), with the list at z made for it -/
theorem HungAt.push {G H : Hp} {n : Nat} {h z : Addr} {f : Int → List Int} {a x : Int} (g : HungAt G n H h f) (hz : H z = none) (gz : G z = none) (gh : G h = none) (sG : Same G H) :
    ∃ kvs, (upd H z (.lst [])) h = some (.dK kvs) ∧ kvs.length ≤ n ∧
      (∀ v, valV kvs (.inl a : Key) = some v → ∃ l, v = .ref l ∧ (upd H z (.lst [])) l = some (.lst ((f a).map V.int)) ∧ HungAt G (n + 1) (upd (upd H z (.lst [])) l (.lst ((f a).map V.int ++ [.int x]))) h (pushF f a x) ∧ Same G (upd (upd H z (.lst [])) l (.lst ((f a).map V.int ++ [.int x]))) ∧ G l = none) ∧
      (valV kvs (.inl a : Key) = none → (upd (upd H z (.lst [])) h (.dK (putK kvs (.inl a : Key) (.ref z)))) z = some (.lst []) ∧ HungAt G (n + 1) (upd (upd (upd H z (.lst [])) h (.dK (putK kvs (.inl a : Key) (.ref z)))) z (.lst ([] ++ [.int x]))) h (pushF f a x) ∧
        Same G (upd (upd (upd H z (.lst [])) h (.dK (putK kvs (.inl a : Key) (.ref z)))) z (.lst ([] ++ [.int x])))) := by
  obtain ⟨kvs, h1, hn, h2, h3⟩ := g
  have nzh : h ≠ z := ne_of_none h1 hz
  have s1 : Same H (upd H z (.lst [])) := Same.new hz
  have old : ∀ b : Int, valV kvs (.inl b : Key) ≠ some (.ref z) := fun b q => by
    rcases h2 b with w | ⟨l2, w1, w2, _⟩
    · rw [w.1] at q; cases q
    · rw [q] at w1
      cases w1
      rw [hz] at w2; cases w2
  refine ⟨kvs, s1 _ _ h1, hn, fun v hv => ?_, fun hv => ?_⟩
  · rcases h2 a with q | ⟨l, q1, q2, q3⟩
    · rw [q.1] at hv; cases hv
    · rw [hv] at q1
      have hl := s1 _ _ q2
      refine ⟨l, Option.some.inj q1, hl, ⟨kvs, by rw [upd_ne (ne_of (s1 _ _ h1) hl (fun z => by cases z))]; exact s1 _ _ h1, by omega, fun b => ?_, h3⟩, fun b o e => by rw [upd_ne (ne_of_none e q3)]; exact s1 _ _ (sG _ _ e), q3⟩
      rw [q1] at hv
      by_cases e : b = a
      · subst e
        refine .inr ⟨l, hv, ?_, q3⟩
        rw [upd_same]
        unfold pushF
        rw [if_pos rfl, List.map_append]; rfl
      · unfold pushF
        rw [if_neg e]
        rcases h2 b with q | ⟨l2, w1, w2, w3⟩
        · exact .inl q
        · refine .inr ⟨l2, w1, ?_, w3⟩
          have nn : l2 ≠ l := fun z => by
            subst z
            exact e (h3 _ _ _ w1 hv)
          rw [upd_ne nn]
          exact s1 _ _ w2
  · have fa : f a = [] := by
      rcases h2 a with q | ⟨l, q, _⟩
      · exact q.2
      · rw [hv] at q; cases q
    have key : ∀ b : Int, valV (putK kvs (.inl a : Key) (.ref z)) (.inl b : Key) = if b = a then some (.ref z) else valV kvs (.inl b : Key) := fun b => by
      rw [valV_put]
      by_cases e : b = a
      · rw [if_pos e, if_pos (by rw [e])]
      · rw [if_neg e, if_neg (fun q => e (Sum.inl.inj q))]
    refine ⟨by rw [upd_ne nzh.symm, upd_same], ⟨_, by rw [upd_ne nzh, upd_same], Nat.le_trans (length_putK _ _ _) (by omega), fun b => ?_, fun b c l e1 e2 => ?_⟩, fun b o e => by rw [upd_ne (ne_of_none e gz), upd_ne (ne_of_none e gh)]; exact s1 _ _ (sG _ _ e)⟩
    · rw [key]
      unfold pushF
      by_cases e : b = a
      · rw [if_pos e, if_pos e, fa]
        exact .inr ⟨z, rfl, by rw [upd_same]; rfl, gz⟩
      · rw [if_neg e, if_neg e]
        rcases h2 b with q | ⟨l2, q1, q2, q3⟩
        · exact .inl q
        · exact .inr ⟨l2, q1, by rw [upd_ne (ne_of_none q2 hz), upd_ne (ne_of q2 h1 (fun z => by cases z)), upd_ne (ne_of_none q2 hz)]; exact q2, q3⟩
    · rw [key] at e1 e2
      by_cases eb : b = a
      · by_cases ec : c = a
        · rw [eb, ec]
        · rw [if_pos eb] at e1
          rw [if_neg ec, ← e1] at e2
          exact absurd e2 (old c)
      · by_cases ec : c = a
        · rw [if_pos ec] at e2
          rw [if_neg eb, ← e2] at e1
          exact absurd e1 (old b)
        · rw [if_neg eb] at e1
          rw [if_neg ec] at e2
          exact h3 _ _ _ e1 e2
/-! ### pins in the heap -/
def pinK (ps : List (Int × Int)) : List (Key × V) := ps.map fun e => (.inl e.1, .int e.2)
def anOf (ps : List (Int × Int)) (x : Int) : Option Int := (ps.find? fun e => decide (e.1 = x)).map (·.2)
theorem val_pin : ∀ (ps : List (Int × Int)) (x : Int), valV (pinK ps) (.inl x : Key) = (anOf ps x).map V.int
  | [], _ => rfl
  | e :: ps, x => by
    by_cases h : e.1 = x
    · rw [show pinK (e :: ps) = ((.inl e.1 : Key), V.int e.2) :: pinK ps from rfl, valV_pos (by show (.inl e.1 : Key) = .inl x; rw [h])]
      unfold anOf
      rw [List.find?_cons_of_pos (by exact decide_eq_true h)]
      rfl
    · rw [show pinK (e :: ps) = ((.inl e.1 : Key), V.int e.2) :: pinK ps from rfl, valV_neg (fun z : (.inl e.1 : Key) = .inl x => h (Sum.inl.inj z)), val_pin ps x]
      unfold anOf
      rw [List.find?_cons_of_neg (by intro z; exact h (of_decide_eq_true z))]
theorem int_at {js : List Int} {i : Nat} {y : V} (h : (js.map V.int)[i]? = some y) : ∃ x, js[i]? = some x ∧ y = .int x := by
  rw [List.getElem?_map] at h
  cases q : js[i]? with
  | none => rw [q] at h; cases h
  | some u => rw [q] at h; exact ⟨u, rfl, (Option.some.inj h).symm⟩
/-! ### defs that are called where no repr is under way (their context's guards are known to be none) -/
/-- the promise of a def, wherever no guard stands -/
structure FnG (P : Program) (w : World) (K : PySem.W.Frag) (mg : Str → Option Value) (base : Heap) (k : Nat) (f : Addr) (fd : FuncData) (ps : List Str) (sp : Sp) : Prop where
  len : ∀ vs H Q E, sp vs H Q E → vs.length = ps.length
  go : ∀ {A : Around} {outer : List Env} {s : Shared} {H : Hp} {args : Args} {us : List Value} {vs : List V} {Q : VK} {E : XK}, A.guards = some [] → Room k A → Env0 P w K mg base A outer s H →
    BindsTo s fd args (ps.zip us) → Vals vs us → sp vs H Q E → codeAny (model P w) A (.call (.ref f) args) (CR CX0 outer P w H s Q E) s
section
variable {P : Program} {w : World} {K : PySem.W.Frag} {mg : Str → Option Value} {base : Heap}
/-- by its body -/
theorem FnG.mk' {x qual : Str} {st : Stmt} {f : Addr} {fd : FuncData} {N ps : List Str} {k : Nat} {sp : Sp} (F : Fun K x qual st f fd) (S : FnScope N ps (defScope st)) (len : ∀ vs H Q E, sp vs H Q E → vs.length = ps.length)
    (body : ∀ (cdv : Value) (A : Around) (outer : List Env) (s : Shared) (H : Hp) (vs : List V) (Q : VK) (E : XK), (A.deeper (envOfC qual (defScope st) s.heap.objs.size f cdv)).guards = some [] → Room k (A.deeper (envOfC qual (defScope st) s.heap.objs.size f cdv)) → sp vs H Q E →
      ∃ t, PSs (cxOf CX0 P w K mg base N qual (defScope st) f cdv A outer s H E).nox (defBody st) t ∧ t { nx := fun _ H' => Q .non H', rt := Q } (start N vs) H) : FnG P w K mg base (k + 1) f fd ps sp := by
  obtain ⟨oc, od, kV, doc, pm, an, cdv, ct, osl, rfl, lk, hcd⟩ := F.ex
  refine ⟨len, ?_⟩
  intro A outer s H args us vs Q E hg hr en hb rel hsp
  have kept : ∀ b o, base.get? b = some o → s.heap.get? b = some o := fun b o q => (en.bs b o q).1
  have inK := en.mod.kin.keeps kept
  refine codeAny_call_function hr.depth (inK _ _ lk) rfl S.co S.gen rfl (PySem.W.codeRec_of inK hcd) (hb _ _ _ _ ?_)
  have kinds : ∀ q ∈ ps.zip us, (defScope st).names.lookup q.1 = some .local ∨ ((defScope st).names.lookup q.1 = some .cell ∧ ((cellsFrom (s.heap.objs.size + 1) (defScope st).names []).lookup q.1).isSome = true) := by
    rintro ⟨n, v⟩ hq
    exact (S.par n (List.of_mem_zip hq).1).elim .inl fun c => .inr ⟨c, PySem.W.cellsFrom_some _ _ _ (.inl c)⟩
  refine wpAny_newFunctionEnv_cells S.kind kinds fun env he s1 ic => ?_
  subst he
  obtain ⟨t, ht, hq⟩ := body cdv A outer s H vs Q E hg (hr.deeper _) hsp
  have I0 := inv_start (CX := CX0) (E := E) S hr.hd en (len _ _ _ _ hsp) rel ic
  refine ⟨(en.mod.nolimit.keeps kept).keeps ic.toInCall.keep, codeAny_func ?_⟩
  refine wpAny_mono (ht.nox.run [] s1 _ H _ I0 hq) ?_ fun _ _ z => z
  rintro (_ | _ | _ | u) s' hs
  · obtain ⟨σ', H', J, q⟩ := hs
    exact ⟨.non, H', J.os, J.bare, J.base, J.hok, rfl, q⟩
  · obtain ⟨_, _, _, q⟩ := hs
    exact q.elim
  · obtain ⟨_, _, _, q⟩ := hs
    exact q.elim
  · obtain ⟨v, σ', H', J, rv, q⟩ := hs
    exact ⟨v, H', J.os, J.bare, J.base, J.hok, rv, q⟩
end
section
variable {X : Cx} {k : Nat} {f : Addr} {fd : FuncData} {ps : List Str} {sp : Sp} {E : XK} {x : Str} {p pos : Pos} {e : Expr} {es : List Expr} {t : TA}
/-- such a def called by its name -/
theorem pe_callG (F : FnG X.prog X.w X.K X.mg X.base k f fd ps sp) (hg : X.A.guards = some []) (hr : Room k X.A) (hx : Gl X x) (hm : X.mg x = some (.ref f)) (hk : PySem.W.keepIn X.K (.ref f) = true) (hb : L2.Binds X.K fd ps [])
    (ha : PA X (e :: es) t) (hdb : (x == ("__debug__" : Str)) = false := by decide) (he : starEach (e :: es) X.env = (false, eval e X.env) :: starEach es X.env := by rfl) (hpl : (backTo pos (starEach es X.env)).any (·.1) = false := by rfl) :
    PE X (.Call (.Name x p) (e :: es) [] pos) (tCall sp [] E t) := by
  constructor
  intro pins s σ H Q I h
  have run : ∀ {us : List Value} {vs : List V} {H1 : Hp} {s1 : Shared}, Inv X pins σ H1 s1 → Vals vs us → sp (vs ++ []) H1 Q E → wpAny (model X.prog X.w) X.A (call (.ref f) us) (EP X pins σ Q) X.xe s1 := by
    intro us vs H1 s1 I1 r q
    rw [List.append_nil] at q
    have hl : us.length = ps.length := by rw [← r.length]; exact F.len _ _ _ _ q
    have bt := hb s1 us I1.kIn (by rw [List.append_nil]; exact hl)
    rw [List.append_nil] at bt
    refine wpAny_call (codeAny_mono (F.go hg hr I1.env0 bt r q) ?_)
    rintro (_ | (_ | _ | _ | u)) s2 z
    · exact z.elim
    · exact z.elim
    · exact z.elim
    · exact z.elim
    · exact I1.after z
  refine wpAny_Call_Name_kw (ld_glob I hx hm ?_ hdb)
  exact PySem.W.callWith_K (h₀ := X.base) I.ok.mod.kin hk (thn (ha.run pos pins s σ H _ I h) fun us s1 ⟨vs, H1, I1, r, q⟩ => ⟨I1.kIn, run I1 r q⟩) he hpl
end
/-! ### the end of a law whose def is such a def -/
/-- the heap of which nothing is known but the script -/
def justScript (K : PySem.W.Frag) (a : Addr) (vs : List Value) (ns : List Int) : Hp := fun b =>
  if b = a ∧ K.lookup a = none then some (.frz { cls := .type "list", data := .seq vs.toArray } (.lst (ns.map V.int))) else none
section
variable {P : Program} {w : World} {K : PySem.W.Frag} {mg mb : Str → Option Value} {k : Nat} {fa a : Addr} {fd : FuncData} {x : Str} {sp : Sp} {s₁ : Shared} {vs : List Value} {ns : List Int}
theorem js_out {b : Addr} (h : b ≠ a) : justScript K a vs ns b = none := if_neg fun z => h z.1
theorem js_some {b : Addr} {u : HO} (h : justScript K a vs ns b = some u) : b = a ∧ K.lookup a = none ∧ u = .frz { cls := .type "list", data := .seq vs.toArray } (.lst (ns.map V.int)) := by
  unfold justScript at h
  split at h
  · rename_i c
    exact ⟨c.1, c.2, (Option.some.inj h).symm⟩
  · cases h
theorem lawG (KX : K.In s₁.heap) (hns : s₁.heap.Ns mainGlobals mg) (hb : s₁.heap.Ns builtinsNs mb) (hbb : ∀ x : Str, x ≠ "__name__" → mb x = bootBuiltins x) (hlim : s₁.heap.NoLimit) (hg : s₁.gens = #[])
    (ha : s₁.heap.get? a = some { cls := .type "list", data := .seq vs.toArray }) (hi : IntsAre vs ns) (hl : ns.length ≤ sizeLine) (hr : Room k callerA)
    (F : ∀ base : Heap, K.In base → base.Ns mainGlobals mg → FnG P w K mg base k fa fd [x] sp) (hbind : ∀ (s : Shared) (u : Value), BindsTo s fd ⟨[u], []⟩ [(x, u)])
    (hsp : ∀ H : Hp, Only H → SqL K H a (ns.map V.int) → sp [.ref a] H (fun v _ => v = .bl true) fun _ _ _ => False) :
    codeAny (model P w) callerA (.call (.ref fa) ⟨[.ref a], []⟩) (fun r s' => r = .ok (.ret (.bool true)) ∧ OldK s₁.heap s'.heap ∧ s'.os = s₁.os ∧ AllBare s'.gens) s₁ := by
  have rv := L2.vals_ints hi
  have hlen := hi.length
  obtain ⟨H, hH⟩ : ∃ H, H = justScript K a vs ns := ⟨_, rfl⟩
  have hcases : ∀ b, H b = none ∨ (b = a ∧ K.lookup a = none ∧ H b = some (.frz { cls := .type "list", data := .seq vs.toArray } (.lst (ns.map V.int)))) := by
    intro b
    cases q : H b with
    | none => exact .inl rfl
    | some u =>
      rw [hH] at q
      obtain ⟨h1, h2, h3⟩ := js_some q
      exact .inr ⟨h1, h2, by rw [h3]⟩
  have only : Only H := fun b => (hcases b).imp id fun z => ⟨_, _, z.2.2⟩
  have list : SqL K H a (ns.map V.int) := by
    cases hk : K.lookup a with
    | none => exact .inl (.inr ⟨{ cls := .type "list", data := .seq vs.toArray }, by rw [hH]; exact if_pos ⟨rfl, hk⟩⟩)
    | some o =>
      have q := KX a o hk
      rw [ha] at q
      obtain rfl := Option.some.inj q
      exact .inr ⟨_, vs.toArray, _, hk, rfl, rfl, rfl, by rw [List.size_toArray, hlen]; exact hl, rv⟩
  have held : HOk P w H s₁.heap := by
    intro b u q
    rcases hcases b with z | ⟨rfl, _, z⟩
    · rw [z] at q; cases q
    · rw [z] at q
      obtain rfl := Option.some.inj q
      exact ⟨ha, by rw [List.length_map]; exact hl, vs, _, rv, ha⟩
  -- the rest of the heap, in which the module's facts stand
  have stay : ∀ {b : Addr} {o : Obj}, s₁.heap.get? b = some o → (b = a → K.lookup a ≠ none) → (hidT s₁.heap H).get? b = some o := by
    intro b o e n
    refine hidT_get e ?_
    rcases hcases b with z | ⟨e1, e2, _⟩
    · exact z
    · exact absurd e2 (n e1)
  have names : ∀ {b : Addr} {m : Str → Option Value}, s₁.heap.Ns b m → (hidT s₁.heap H).Ns b m := by
    rintro b m ⟨o, es, ep, e, d, r⟩
    refine ⟨o, es, ep, stay e ?_, d, r⟩
    rintro rfl
    rw [ha] at e
    obtain rfl := Option.some.inj e
    exact absurd d (by intro z; cases z)
  have kin : K.In (hidT s₁.heap H) := fun b o e => stay (KX b o e) fun q => by rw [← q, e]; exact fun z => by cases z
  obtain ⟨mc, l1, l2⟩ := hlim
  have mod : Mod K mg (hidT s₁.heap H) := ⟨kin, names hns, ⟨mb, names hb, hbb⟩, ⟨mc, names l1, l2⟩⟩
  have env : Env0 P w K mg (hidT s₁.heap H) callerA [] s₁ H := ⟨rfl, mod, fun b o e => of_hidT e, Nat.le_of_eq (hidT_size _ _), trivial, fun b z => (by exact absurd (show b ∈ ([] : List Addr) from z) (by simp)), held, .of_eq hg⟩
  have vr : Vals [V.ref a] [Value.ref a] := .cons (show RelV (.ref a) (.ref a) from rfl) .nil
  refine codeAny_mono ((F _ kin (names hns)).go (us := [.ref a]) rfl hr env (hbind s₁ (.ref a)) vr (hsp H only list)) ?_
  rintro (_ | (_ | _ | _ | u)) s' z
  · exact z.elim
  · exact z.elim
  · exact z.elim
  · exact z.elim
  · obtain ⟨v, H', os, bare, un, ok', r', q⟩ := z
    have q1 : v = .bl true := q
    subst q1
    have q2 : u = Value.bool true := r'
    subst q2
    refine ⟨rfl, OldK.of_keep fun b o e => ?_, os, bare⟩
    rcases hcases b with z | ⟨e1, _, z⟩
    · exact un.keep b o e z (fun z => absurd (show b ∈ ([] : List Addr) from z) (by simp)) (by simp)
    · obtain ⟨g, _⟩ := ok' b _ (un.frzs b _ _ z)
      obtain ⟨g0, _⟩ := held b _ z
      rw [g0] at e
      rw [← Option.some.inj e]
      exact g
end
theorem walkG {l : PySem.W.OpenLaw} {n k : Nat} {q : Program} {loose : List Str} {XP : (Str → Option Value) → Heap → Prop} {YP : World → Heap → Prop} {d : DefRec} {K : Params → PySem.W.Frag} {sp : PySem.W.Frag → Sp} {x : Str}
    (hn : l.most = some n) (hn2 : n ≤ sizeLine) (hdf : d.params.defaults = []) (hr : Room k callerA) (hY : ∀ (w : World) (h : Heap), YP w h → (K w.params).In h)
    (F : ∀ (w : World) (mg : Str → Option Value) (fa : Addr) (h : Heap), (K w.params).In h → h.Ns mainGlobals mg → mg d.name = some (.ref fa) →
      ∃ fd : FuncData, (∀ (s : Shared) (u : Value), BindsTo s fd ⟨[u], []⟩ [(x, u)]) ∧ ∀ base : Heap, (K w.params).In base → base.Ns mainGlobals mg → FnG l.prog w (K w.params) mg base k fa fd [x] (sp (K w.params)))
    (hsp : ∀ (K : PySem.W.Frag) (H : Hp) (a : Addr) (ns : List Int), ns.length ≤ n → (∀ z ∈ ns, Builtin.Int.intBits z ≤ 1048576) → SqL K H a (ns.map V.int) → sp K [.ref a] H (fun v _ => v = .bl true) fun _ _ _ => False) :
    PySem.W.WalkO q loose XP YP l.row.toRowW d [] (fun f vs => PySem.call f vs) := by
  refine Att.attach_callB hn hdf ?_
  intro w s₀ s₁ mg mb fa o pm cd doc a vs ns G Y ho hd hcd hmg hobj hints hlen hbits hg
  obtain ⟨fd, hb, hF⟩ := F w mg fa _ (hY w _ Y) G.T.g hmg
  exact lawG (hY w _ Y) G.T.g G.T.b G.T.builtins G.T.nolimit hg hobj hints (Nat.le_trans hlen hn2) hr hF hb fun H _ hS => hsp _ H a ns hlen hbits hS
/-! ### repr of data -/
mutual
/-- how long its text is at most -/
def szD : PyData → Nat
  | .none => 4
  | .bool _ => 5
  | .int _ => 301
  | .str x => (reprText x).length
  | .list xs => szAll xs + 2
  | .tuple xs => szAll xs + 3
  | .dict _ => 2
def szAll : List PyData → Nat
  | [] => 0
  | x :: xs => szD x + 2 + szAll xs
end
mutual
/-- ints of moderate size, no dict -/
def modD : PyData → Bool
  | .none | .bool _ | .str _ => true
  | .int i => decide (i.natAbs < 2 ^ 300)
  | .list xs | .tuple xs => modAll xs
  | .dict _ => false
def modAll : List PyData → Bool
  | [] => true
  | x :: xs => modD x && modAll xs
end
theorem log_of {i : Int} (h : i.natAbs < 2 ^ 300) : i.natAbs.log2 < 300 := PySem.Flt.log2_lt_of (by decide) h
mutual
theorem showable_of : ∀ d : PyData, modD d = true → d.showable = true
  | .none, _ => by rw [PyData.showable]
  | .bool _, _ => by rw [PyData.showable]
  | .str _, _ => by rw [PyData.showable]
  | .int i, h => by
    rw [modD] at h
    rw [PyData.showable]
    have := log_of (of_decide_eq_true h)
    exact decide_eq_true (by omega)
  | .list xs, h => by
    rw [modD] at h
    rw [PyData.showable]
    exact showableAll_of xs h
  | .tuple xs, h => by
    rw [modD] at h
    rw [PyData.showable]
    exact showableAll_of xs h
  | .dict _, h => by rw [modD] at h; cases h
theorem showableAll_of : ∀ xs : List PyData, modAll xs = true → PyData.showableAll xs = true
  | [], _ => by rw [PyData.showableAll]
  | x :: xs, h => by
    rw [modAll, Bool.and_eq_true] at h
    rw [PyData.showableAll, showable_of x h.1, showableAll_of xs h.2]
    rfl
end
mutual
theorem nodict_of : ∀ d : PyData, modD d = true → d.hasDict = false
  | .none, _ => by rw [PyData.hasDict]
  | .bool _, _ => by rw [PyData.hasDict]
  | .str _, _ => by rw [PyData.hasDict]
  | .int i, h => by rw [PyData.hasDict]
  | .list xs, h => by
    rw [modD] at h
    rw [PyData.hasDict]
    exact nodictAll_of xs h
  | .tuple xs, h => by
    rw [modD] at h
    rw [PyData.hasDict]
    exact nodictAll_of xs h
  | .dict _, h => by rw [modD] at h; cases h
theorem nodictAll_of : ∀ xs : List PyData, modAll xs = true → PyData.hasDictAll xs = false
  | [], _ => by rw [PyData.hasDictAll]
  | x :: xs, h => by
    rw [modAll, Bool.and_eq_true] at h
    rw [PyData.hasDictAll, nodict_of x h.1, nodictAll_of xs h.2]
    rfl
end
def pile : List Str → Nat
  | [] => 0
  | t :: r => t.length + 2 + pile r
theorem textFrom_le : ∀ (ts : List Str) (k : Nat) (acc : Str), (textFrom k acc ts).length ≤ acc.length + pile ts
  | [], k, acc => by show acc.length ≤ acc.length + 0; omega
  | t :: r, k, acc => by
    have ih := textFrom_le r (k + 1) (acc ++ (if k > 0 then ", " else "" : String) ++ t)
    have e : (acc ++ (if k > 0 then ", " else "" : String) ++ t).length ≤ acc.length + 2 + t.length := by
      rw [strLen_append, strLen_append]
      split
      · show acc.length + 2 + t.length ≤ _; omega
      · show acc.length + 0 + t.length ≤ _; omega
    show (textFrom (k + 1) (acc ++ (if k > 0 then ", " else "" : String) ++ t) r).length ≤ acc.length + (t.length + 2 + pile r)
    omega
theorem listText_le (ts : List Str) : (listText ts).length ≤ pile ts + 2 := by
  unfold listText
  have h := textFrom_le ts 0 "["
  rw [strLen_append]
  have e1 : (("[" : String) : Str).length = 1 := rfl
  have e2 : (("]" : String) : Str).length = 1 := rfl
  rw [e2]
  rw [e1] at h
  omega
theorem join_le : ∀ ts : List Str, (Str.join ", " ts).length ≤ pile ts
  | [] => Nat.zero_le _
  | [x] => by show x.length ≤ x.length + 2 + 0; omega
  | x :: y :: r => by
    have ih := join_le (y :: r)
    show (x ++ ", " ++ Str.join ", " (y :: r)).length ≤ x.length + 2 + pile (y :: r)
    rw [strLen_append, strLen_append]
    have e2 : ((", " : String) : Str).length = 2 := rfl
    rw [e2]
    omega
theorem tupleText_le (ts : List Str) : (tupleText ts).length ≤ pile ts + 3 := by
  unfold tupleText
  have h := join_le ts
  rw [strLen_append, strLen_append]
  have e1 : (("(" : String) : Str).length = 1 := rfl
  have e2 : ((if ts.length == 1 then ",)" else ")" : String) : Str).length ≤ 2 := by
    split
    · exact Nat.le_refl _
    · exact Nat.le_succ _
  rw [e1]
  omega
mutual
theorem shown_le : ∀ d : PyData, modD d = true → d.shown.length ≤ szD d
  | .none, _ => by rw [PyData.shown, szD]; decide
  | .bool b, _ => by rw [PyData.shown, szD]; cases b <;> decide
  | .str x, _ => by rw [PyData.shown, szD]; exact Nat.le_refl _
  | .int i, h => by
    rw [modD] at h
    rw [PyData.shown, szD]
    have := int_text_length_le (k := 300) (by decide) (log_of (of_decide_eq_true h))
    have e : (Str.ofString (toString i)).length = (toString i).length := PySem.ofString_length _
    rw [e]
    omega
  | .list xs, h => by
    rw [modD] at h
    rw [PyData.shown, szD]
    have := listText_le (PyData.shownAll xs)
    have := shownAll_le xs h
    omega
  | .tuple xs, h => by
    rw [modD] at h
    rw [PyData.shown, szD]
    have := tupleText_le (PyData.shownAll xs)
    have := shownAll_le xs h
    omega
  | .dict _, h => by rw [modD] at h; cases h
theorem shownAll_le : ∀ xs : List PyData, modAll xs = true → pile (PyData.shownAll xs) ≤ szAll xs
  | [], _ => by rw [PyData.shownAll, szAll]; exact Nat.le_refl _
  | x :: xs, h => by
    rw [modAll, Bool.and_eq_true] at h
    have h1 := shown_le x h.1
    have h2 := shownAll_le xs h.2
    rw [PyData.shownAll, szAll]
    show x.shown.length + 2 + pile (PyData.shownAll xs) ≤ _
    omega
end
/-! ### data of the heap is read -/
section
variable {X : Cx} {pins : List (Addr × Obj)} {σ : L2.St} {H : Hp} {s : Shared}
mutual
theorem DV.reads (I : Inv X pins σ H s) : ∀ (d : PyData) (v : V) (u : Value), DV X.K H v d → RelV v u → ∃ as, Reads s.heap u d as
  | .none, _, _, .non, r => ⟨_, (show _ = Value.none from r) ▸ Reads.none⟩
  | .bool b, _, _, .bl _, r => ⟨_, (show _ = Value.bool b from r) ▸ Reads.bool b⟩
  | .int i, _, _, .int _, r => by
    obtain ⟨t, q⟩ := r
    rw [q]
    exact ⟨_, Reads.int i t⟩
  | .str x, _, _, .str _, r => by
    obtain ⟨t, q⟩ := r
    rw [q]
    exact ⟨_, Reads.str x t⟩
  | .list ds, _, u, .lst h t, r => by
    have r' : u = Value.ref _ := r
    subst r'
    obtain ⟨its, rv, ⟨o, n, ho, hc, _, hd⟩, _⟩ := I.list h
    obtain ⟨as, hr⟩ := DVs.reads I ds _ its t rv
    exact ⟨_, Reads.list ho hc hd hr⟩
  | .tuple ds, _, u, .tup h t, r => by
    have r' : u = Value.ref _ := r
    subst r'
    obtain ⟨its, rv, ⟨o, ho, hc, n, hd⟩, _⟩ := I.tuple h
    obtain ⟨as, hr⟩ := DVs.reads I ds _ its t rv
    exact ⟨_, Reads.tuple ho hc hd hr⟩
  | .dict _, _, u, .dk0 h, r => by
    have r' : u = Value.ref _ := r
    subst r'
    obtain ⟨_, _, vs, rel, o, es, ep, h1, h2, h3, h4⟩ := I.hok _ _ h
    cases rel
    have e0 : es.toList = [] := by
      have h5 := h4.2.1
      generalize es.toList = l at h5 ⊢
      cases h5
      rfl
    refine ⟨_, Reads.dict (as := []) (bs := []) h1 h2.1 h3 ?_ ?_⟩
    · rw [e0]; exact ReadsAll.nil
    · rw [e0]; exact ReadsAll.nil
theorem DVs.reads (I : Inv X pins σ H s) : ∀ (ds : List PyData) (vs : List V) (us : List Value), DVs X.K H vs ds → Vals vs us → ∃ as, ReadsAll s.heap us ds as
  | [], _, _, .nil, r => by
    cases r
    exact ⟨_, ReadsAll.nil⟩
  | d :: ds, _, _, .cons h1 h2, r => by
    cases r with
    | cons r1 r2 =>
      obtain ⟨as, q1⟩ := DV.reads I d _ _ h1 r1
      obtain ⟨bs, q2⟩ := DVs.reads I ds _ _ h2 r2
      exact ⟨_, ReadsAll.cons q1 q2⟩
end
/-- repr of a list or a tuple -/
def rRepr (K : PySem.W.Frag) : List V → Hp → VK → Prop := fun xs H Q => ∃ (a : Addr) (d : PyData), xs = [.ref a] ∧ DV K H (.ref a) d ∧ modD d = true ∧ d.depth ≤ 40 ∧ szD d ≤ 1000000 ∧ Q (.str d.shown) H
theorem call_repr (hg : X.A.guards = some []) (hu : X.A.units + 64 < cLine) : CallR X (.builtin "repr") (rRepr X.K) := by
  intro pins s σ H xs us Q I r h
  obtain ⟨a, d, rfl, hd, hm, hdep, hsz, q⟩ := h
  rw [Vals.ref1 r]
  obtain ⟨as, hr⟩ := DV.reads I d (.ref a) (.ref a) hd rfl
  have hl : d.shown.length ≤ sizeLine := by
    have := shown_le d hm
    rw [sizeLine_eq]
    omega
  exact repr_of_reads' hr (showable_of d hm) (fun z => by rw [nodict_of d hm] at z; cases z) hg (by omega) (fun _ _ e => e) (fun h' u tk kk => ⟨.str d.shown, H, I.kept kk, ⟨_, rfl⟩, q⟩) hl
end
/-! ### data that cannot change: flat things and tuples of such -/
mutual
inductive DT (H : Hp) : V → PyData → Prop
  | non : DT H .non .none
  | bl (b : Bool) : DT H (.bl b) (.bool b)
  | int (i : Int) : DT H (.int i) (.int i)
  | str (x : Str) : DT H (.str x) (.str x)
  | tup {a : Addr} {xs : List V} {ds : List PyData} : H a = some (.tup xs) → DTs H xs ds → DT H (.ref a) (.tuple ds)
inductive DTs (H : Hp) : List V → List PyData → Prop
  | nil : DTs H [] []
  | cons {v : V} {vs : List V} {d : PyData} {ds : List PyData} : DT H v d → DTs H vs ds → DTs H (v :: vs) (d :: ds)
end
/-- the tuples stand -/
def KeepT (H H' : Hp) : Prop := ∀ a xs, H a = some (.tup xs) → H' a = some (.tup xs)
theorem KeepT.refl (H : Hp) : KeepT H H := fun _ _ h => h
theorem KeepT.trans {H H1 H2 : Hp} (a : KeepT H H1) (b : KeepT H1 H2) : KeepT H H2 := fun c xs h => b c xs (a c xs h)
theorem KeepT.same {H H' : Hp} (s : Same H H') : KeepT H H' := fun a xs h => s a _ h
theorem KeepT.but {d : Addr} {H H' : Hp} (D : DeckAt H d) (s : But d H H') : KeepT H H' := fun a xs h => s.tup D h
theorem KeepT.put {x : Addr} {H : Hp} {ys : List V} {o : HO} (h : H x = some (.lst ys)) : KeepT H (upd H x o) := fun a xs e => by
  rw [upd_ne (ne_of e h (by intro z; cases z))]
  exact e
theorem KeepT.new {x : Addr} {H : Hp} {o : HO} (h : H x = none) : KeepT H (upd H x o) := KeepT.same (Same.new h)
mutual
theorem DT.keep {H H' : Hp} (e : KeepT H H') : ∀ {d : PyData} {v : V}, DT H v d → DT H' v d
  | _, _, .non => .non
  | _, _, .bl b => .bl b
  | _, _, .int i => .int i
  | _, _, .str x => .str x
  | _, _, .tup h t => .tup (e _ _ h) (DTs.keep e t)
theorem DTs.keep {H H' : Hp} (e : KeepT H H') : ∀ {ds : List PyData} {vs : List V}, DTs H vs ds → DTs H' vs ds
  | _, _, .nil => .nil
  | _, _, .cons p t => .cons (DT.keep e p) (DTs.keep e t)
end
mutual
theorem DT.dv {K : PySem.W.Frag} {H : Hp} : ∀ {d : PyData} {v : V}, DT H v d → DV K H v d
  | _, _, .non => .non
  | _, _, .bl b => .bl b
  | _, _, .int i => .int i
  | _, _, .str x => .str x
  | _, _, .tup h t => .tup (SqT.of h) (DTs.dv t)
theorem DTs.dv {K : PySem.W.Frag} {H : Hp} : ∀ {ds : List PyData} {vs : List V}, DTs H vs ds → DVs K H vs ds
  | _, _, .nil => .nil
  | _, _, .cons p t => .cons (DT.dv p) (DTs.dv t)
end
theorem DTs.ints {H : Hp} : ∀ ks : List Int, DTs H (ks.map V.int) (ks.map PyData.int)
  | [] => .nil
  | k :: r => .cons (.int k) (DTs.ints r)
theorem DTs.append {H : Hp} : ∀ {vs ws : List V} {ds es : List PyData}, DTs H vs ds → DTs H ws es → DTs H (vs ++ ws) (ds ++ es)
  | _, _, _, _, .nil, h => h
  | _, _, _, _, .cons p t, h => .cons p (DTs.append t h)
theorem DTs.take {H : Hp} : ∀ {vs : List V} {ds : List PyData} (n : Nat), DTs H vs ds → DTs H (vs.take n) (ds.take n)
  | _, _, 0, _ => .nil
  | _, _, _ + 1, .nil => .nil
  | _, _, n + 1, .cons p t => .cons p (DTs.take n t)
theorem DTs.length {H : Hp} : ∀ {vs : List V} {ds : List PyData}, DTs H vs ds → vs.length = ds.length
  | _, _, .nil => rfl
  | _, _, .cons _ t => congrArg Nat.succ (DTs.length t)
theorem DTs.none {H : Hp} : ∀ n : Nat, DTs H (List.replicate n V.non) (List.replicate n PyData.none)
  | 0 => .nil
  | n + 1 => .cons .non (DTs.none n)
/-! ### lists of ids as data -/
theorem modAll_ints : ∀ xs : List Int, (∀ z ∈ xs, z.natAbs < 2 ^ 300) → modAll (xs.map .int) = true
  | [], _ => by rw [List.map_nil, modAll]
  | x :: r, h => by
    rw [List.map_cons, modAll, modD, modAll_ints r fun z hz => h z (List.mem_cons_of_mem _ hz), decide_eq_true (h x List.mem_cons_self)]
    rfl
theorem szAll_ints : ∀ xs : List Int, szAll (xs.map .int) = xs.length * 303
  | [] => by rw [List.map_nil, szAll]; rfl
  | x :: r => by
    rw [List.map_cons, szAll, szD, szAll_ints r, List.length_cons]
    omega
theorem small_abs {z : Int} (h : -1000000000000 ≤ z) (h2 : z ≤ 1000000000000) : z.natAbs < 2 ^ 300 := by
  have : (1000000000001 : Nat) ≤ 2 ^ 300 := Nat.le_trans (by decide : 1000000000001 ≤ 2 ^ 50) (Nat.pow_le_pow_right (by decide) (by decide))
  generalize (2 : Nat) ^ 300 = B at *
  omega
structure Rok (d : PyData) : Prop where
  m : modD d = true
  dep : d.depth ≤ 40
  sz : szD d ≤ 1000000
theorem rok_ids {xs : List Int} (h : ∀ z ∈ xs, 1 ≤ z ∧ z ≤ 1000000) (hl : xs.length ≤ 300) : Rok (.list (xs.map .int)) := by
  refine ⟨?_, ?_, ?_⟩
  · rw [modD]
    exact modAll_ints xs fun z hz => by have := h z hz; exact small_abs (by omega) (by omega)
  · have := depthAll_ints xs
    rw [PyData.depth]
    omega
  · rw [szD, szAll_ints]
    omega
/-- changing one more object -/
theorem Fs.put {d x : Addr} {Hd H1 : Hp} {fs : List (Addr × HO)} {o : HO} (F : Fs d Hd fs H1) (h0 : Hd x = none) (hd : x ≠ d) (hn : ∀ p ∈ fs, p.1 ≠ x) : Fs d Hd fs (upd H1 x o) := by
  obtain ⟨f1, ⟨a, b, q, r⟩, f3⟩ := F
  refine ⟨fun c u hc e => ?_, ⟨a, b, by rw [upd_ne hd.symm]; exact q, r⟩, fun p hp => ⟨(f3 p hp).1, by rw [upd_ne (hn p hp)]; exact (f3 p hp).2⟩⟩
  rw [upd_ne (ne_of_none e h0)]
  exact f1 c u hc e
theorem Fs.apart {d x : Addr} {Hd H1 : Hp} {fs : List (Addr × HO)} (F : Fs d Hd fs H1) (h : H1 x = none) : Hd x = none ∧ x ≠ d ∧ ∀ p ∈ fs, p.1 ≠ x := by
  obtain ⟨f1, ⟨a, b, q, r⟩, f3⟩ := F
  have hd : x ≠ d := fun e => by rw [e, q] at h; cases h
  refine ⟨?_, hd, fun p hp => ne_of_none (f3 p hp).2 h⟩
  cases e : Hd x with
  | none => rfl
  | some u =>
    have := f1 x u hd e
    rw [h] at this; cases this
/-- an object of the row may be laid anew -/
theorem Fs.reput {d x : Addr} {Hd H1 : Hp} {fs : List (Addr × HO)} {o o' : HO} (F : Fs d Hd ((x, o) :: fs) H1) (h0 : Hd x = none) (hn : ∀ p ∈ fs, p.1 ≠ x) : Fs d Hd ((x, o') :: fs) (upd H1 x o') := by
  obtain ⟨f1, ⟨a, b, q, r⟩, f3⟩ := F
  have hd : x ≠ d := (f3 _ List.mem_cons_self).1
  refine ⟨fun c u hc e => ?_, ⟨a, b, by rw [upd_ne hd.symm]; exact q, r⟩, fun p hp => ?_⟩
  · rw [upd_ne (ne_of_none e h0)]
    exact f1 c u hc e
  · rcases List.mem_cons.mp hp with e | e
    · subst e; exact ⟨hd, upd_same⟩
    · exact ⟨(f3 p (List.mem_cons_of_mem _ e)).1, by rw [upd_ne (hn p e)]; exact (f3 p (List.mem_cons_of_mem _ e)).2⟩
section
variable {P : Program} {w : World} {K : PySem.W.Frag} {mg : Str → Option Value} {base : Heap}
/-! ### ids -/
/-- so many different ids -/
def IdsL (js : List Int) : Prop := js.Nodup ∧ ∀ z ∈ js, 1 ≤ z ∧ z ≤ 1000000
structure TxtI (mg : Str → Option Value) : Prop where
  len : mg "len" = none
  list : mg "list" = none
  range : mg "range" = none
def spIds : Sp := fun vs H Q _ => ∃ (d : Addr) (n : Nat), vs = [.ref d, .int n] ∧ DeckAt H d ∧ n ≤ 100 ∧
  ∀ (l : Addr) (js : List Int) (H' : Hp), H l = none → But d H H' → DeckAt H' d → H' l = some (.lst (js.map V.int)) → js.length = n → IdsL js → Q (.ref l) H'
def stepL : List Int := [1, 1, 37, 9999]
theorem steps_ok {s : Int} (h : s ∈ stepL) : 1 ≤ s ∧ s ≤ 9999 := by
  have : ∀ s ∈ stepL, 1 ≤ s ∧ s ≤ 9999 := by decide
  exact this s h
def upTo (s : Int) (n : Nat) : List Int := (List.range n).map fun (i : Nat) => 1 + s * (i : Int)
theorem upTo_len (s : Int) (n : Nat) : (upTo s n).length = n := by simp [upTo]
theorem upTo_succ (s : Int) (n : Nat) : upTo s (n + 1) = upTo s n ++ [1 + s * (n : Int)] := by
  unfold upTo
  rw [List.range_succ, List.map_append]; rfl
theorem upTo_ids {s : Int} {n : Nat} (h1 : 1 ≤ s) (h2 : s ≤ 9999) (hn : n ≤ 100) : IdsL (upTo s n) := by
  refine ⟨?_, fun z hz => ?_⟩
  · unfold upTo
    refine List.pairwise_map.mpr ((List.nodup_range).imp fun {a b} h e => h ?_)
    have : s * (a : Int) = s * (b : Int) := by omega
    have h0 : s ≠ 0 := by omega
    have := Int.eq_of_mul_eq_mul_left h0 this
    omega
  · obtain ⟨i, hi, rfl⟩ := List.mem_map.mp hz
    have hi := List.mem_range.mp hi
    have a1 : 0 ≤ s * (i : Int) := Int.mul_nonneg (by omega) (by omega)
    have a2 : s * (i : Int) ≤ 9999 * 99 := Int.mul_le_mul h2 (by omega) (by omega) (by omega)
    omega
theorem scIds : FnScope ["tape", "size", "step", "place"] ["tape", "size"] (defScope sIds) := ⟨rfl, rfl, rfl, by decide +kernel, rfl, by decide +kernel, by decide +kernel⟩
theorem ok_ids {f fC fS : Addr} {fd fdC fdS : FuncData} (F : Fun K "_law_ids" "_law_ids" sIds f fd) (T : TxtI mg)
    (GC : FnOk P w K mg base CX0 2 fC fdC ["tape", "items"] (spChoose K)) (kC : PySem.W.keepIn K (.ref fC) = true) (bC : L2.Binds K fdC ["tape", "items"] []) (mC : mg "_law_one_of" = some (.ref fC))
    (GS : FnOk P w K mg base CX0 2 fS fdS ["tape", "ids"] (spShuf K)) (kS : PySem.W.keepIn K (.ref fS) = true) (bS : L2.Binds K fdS ["tape", "ids"] []) (mS : mg "_law_shuffled" = some (.ref fS)) :
    FnOk P w K mg base CX0 3 f fd ["tape", "size"] spIds := by
  refine F.ok scIds (fun vs H Q E h => ?_) (fun cdv A outer s H vs Q E hr h => ?_)
  · obtain ⟨d, n, rfl, _⟩ := h
    rfl
  · obtain ⟨d, n, rfl, D, n1, k⟩ := h
    refine ⟨_, pss_cons (ps_set (i := 2) scIds.nd rfl (Or.inr rfl) (pe_call GC hr rfl mC kC bC .nil pass0 (pa_cons (pv 0) (pa_cons (pe_lst (pa_cons pe_int (pa_cons pe_int (pa_cons pe_int (pa_cons pe_int pa_nil))))) pa_nil))))
      (pss_one (ps_ret (pe_call GS hr rfl mS kS bS .nil pass0 (pa_cons (pv 0) (pa_cons (pe_lc (own := [("place", 3)]) (g := gName 3) (tt := tYes) rfl scIds.nd (pi_range1 rfl T.range (pa_cons (pv 1) pa_nil)) (blkOk_by (N := ["tape", "size", "step", "place"]) (sc := defScope sIds) (by decide +kernel))
        (fun _ _ _ _ _ => pg_name (i := 3) scIds.nd rfl (Or.inl rfl)) (fun _ _ _ _ _ => pts_nil) (fun _ _ _ _ _ => pe_op op_add pe_int (pe_op op_mul (pv 2) (pv 3)))) pa_nil))))), ?_⟩
    have h16 : sizeLine = 16777216 := sizeLine_eq
    refine ⟨_, rfl, by show 4 ≤ sizeLine; rw [h16]; decide, fun p hp => ?_⟩
    have F1 : Fs d H [(p, .lst (stepL.map V.int))] (upd H p (.lst (stepL.map V.int))) := (Fs.start D).new hp nl
    refine ⟨d, p, stepL.map V.int, rfl, F1.deck, SqL.of F1.g0, (by intro z; cases z), (by show 4 < 1000000; decide), fun v H2 hv D2 B2 => ?_⟩
    obtain ⟨st, hst, rfl⟩ := List.mem_map.mp hv
    obtain ⟨s1, s2⟩ := steps_ok hst
    have F2 := (F1.step D2 B2).tail
    refine ⟨_, rfl, _, rfl, (n : Int), rfl, by omega, by omega, fun D' hD' => ?_⟩
    obtain ⟨a0, a1, a2⟩ := F2.apart hD'
    refine lc_range (lo := 0) (n := ((n : Int)).toNat) (fun i H' => Fs d H [(D', .lst ((upTo st i).map V.int))] H') (F2.new (o := .lst []) hD' nl) ?_ ?_
    · rintro i H' hi F3
      refine ⟨rfl, ?_⟩
      have i100 : (i : Int) ≤ 100 := by omega
      refine ⟨_, rfl, _, rfl, _, _, rfl, rfl, .inr ⟨by omega, by omega⟩, _, _, rfl, rfl, ?_⟩
      refine ⟨_, F3.g0, by rw [List.length_map, upTo_len, h16]; omega, ?_⟩
      have := F3.reput (o' := .lst ((upTo st i).map V.int ++ [V.int (1 + st * (0 + (i : Int)))])) a0 a2
      rw [upTo_succ, List.map_append]
      rw [Int.zero_add] at this ⊢
      exact this
    · rintro H' F3
      have e : ((n : Int)).toNat = n := by omega
      rw [e] at F3
      have hI := upTo_ids (n := n) s1 s2 n1
      refine ⟨d, D', upTo st n, rfl, F3.deck, SqL.of F3.g0, by rw [upTo_len]; omega, fun q ks H5 hq B5 D5 hQ hperm => ?_⟩
      have F5 := F3.step D5 B5
      refine k q ks H5 ?_ F5.1 D5 hQ ?_ ⟨hperm.nodup_iff.mpr hI.1, fun z hz => hI.2 z (hperm.mem_iff.mp hz)⟩
      · cases e : H q with
        | none => rfl
        | some u =>
          have hqd : q ≠ d := fun z => by
            rw [z] at hq
            obtain ⟨x, y, w, _⟩ := F3.deck
            rw [hq] at w; cases w
          have := F3.1 q u hqd e
          rw [hq] at this; cases this
      · rw [hperm.length_eq, upTo_len]
end
/-! ### repr of data with empty dicts in it -/
mutual
/-- ints of moderate size, dicts only empty -/
def okD : PyData → Bool
  | .none | .bool _ | .str _ => true
  | .int i => decide (i.natAbs < 2 ^ 300)
  | .list xs | .tuple xs => okAll xs
  | .dict kvs => kvs.isEmpty
def okAll : List PyData → Bool
  | [] => true
  | x :: xs => okD x && okAll xs
end
mutual
theorem shown_le2 : ∀ d : PyData, okD d = true → d.shown.length ≤ szD d
  | .none, _ => shown_le .none rfl
  | .bool b, _ => shown_le (.bool b) rfl
  | .str x, _ => shown_le (.str x) rfl
  | .int i, h => shown_le (.int i) (by rw [okD] at h; rw [modD]; exact h)
  | .list xs, h => by
    have h2 : okAll xs = true := by rw [okD] at h; exact h
    have b := shownAll_le2 xs h2
    have a := listText_le (PyData.shownAll xs)
    rw [szD, PyData.shown]
    omega
  | .tuple xs, h => by
    have h2 : okAll xs = true := by rw [okD] at h; exact h
    have b := shownAll_le2 xs h2
    have a := tupleText_le (PyData.shownAll xs)
    rw [szD, PyData.shown]
    omega
  | .dict kvs, h => by
    rw [okD] at h
    have e : kvs = [] := List.isEmpty_iff.mp h
    subst e
    rw [szD, PyData.shown, PyData.shownKv]
    exact Nat.le_refl 2
theorem shownAll_le2 : ∀ xs : List PyData, okAll xs = true → pile (PyData.shownAll xs) ≤ szAll xs
  | [], _ => by rw [PyData.shownAll, szAll]; exact Nat.le_refl _
  | x :: xs, h => by
    rw [okAll, Bool.and_eq_true] at h
    have a := shown_le2 x h.1
    have b := shownAll_le2 xs h.2
    rw [szAll, PyData.shownAll]
    show x.shown.length + 2 + pile (PyData.shownAll xs) ≤ _
    omega
end
section
variable {X : Cx} {pins : List (Addr × Obj)} {σ : L2.St} {H : Hp} {s : Shared}
mutual
theorem DV.rk (I : Inv X pins σ H s) : ∀ (d : PyData) (v : V) (u : Value), DV X.K H v d → RelV v u → okD d = true → d.shown.length ≤ sizeLine → ∃ bs, ReadAtMost s.heap d.depth bs ∧ ReprK X.prog X.w bs s.heap d.depth u d.shown
  | .none, _, _, .non, r, _, _ => ⟨[], (fun _ q => by cases q), by rw [PyData.shown, (show _ = Value.none from r)]; exact .of_is ReprIs.none _ _ _⟩
  | .bool b, _, _, .bl _, r, _, _ => ⟨[], (fun _ q => by cases q), by rw [PyData.shown, (show _ = Value.bool b from r)]; exact .of_is (ReprIs.bool b) _ _ _⟩
  | .int i, _, _, .int _, r, h, _ => by
    obtain ⟨t, rfl⟩ := r
    rw [okD] at h
    have := log_of (of_decide_eq_true h)
    exact ⟨[], (fun _ q => by cases q), by rw [PyData.shown]; exact .of_is (ReprIs.int t (by omega)) _ _ _⟩
  | .str x, _, _, .str _, r, _, hz => by
    obtain ⟨t, rfl⟩ := r
    rw [PyData.shown] at hz
    exact ⟨[], (fun _ q => by cases q), by rw [PyData.shown]; exact .of_is (ReprIs.str x t hz) _ _ _⟩
  | .list ds, _, u, .lst h t, r, hok, hz => by
    have r' : u = Value.ref _ := r
    subst r'
    rw [okD] at hok
    rw [PyData.shown] at hz
    obtain ⟨its, rv, ⟨o, n, ho, hc, _, hd⟩, _⟩ := I.list h
    obtain ⟨as, hr⟩ := DVs.reads I ds _ its t rv
    obtain ⟨bs, hb, hk⟩ := DVs.rk I ds _ its t rv hok fun x hx => Nat.le_trans (listText_mem_le hx) hz
    have R := Reads.list ho hc hd hr
    have far := not_mem_of_deeper R (by rw [PyData.depth]; omega) hb
    refine ⟨_, ReadAtMost.cons R (by rw [PyData.depth]; omega) hb, ?_⟩
    rw [PyData.depth, PyData.shown]
    cases its with
    | nil =>
      cases rv
      cases t
      rw [PyData.shownAll, listText_nil]
      exact ReprK.listEmpty ho hc hd
    | cons y l => exact ReprK.list ho hc hd far (by rw [hk.length_eq]; rfl) fun i y e => hk.item i y (by rw [List.getElem?_toArray] at e; exact e)
  | .tuple ds, _, u, .tup h t, r, hok, hz => by
    have r' : u = Value.ref _ := r
    subst r'
    rw [okD] at hok
    rw [PyData.shown] at hz
    obtain ⟨its, rv, ⟨o, ho, hc, n, hd⟩, _⟩ := I.tuple h
    obtain ⟨as, hr⟩ := DVs.reads I ds _ its t rv
    obtain ⟨bs, hb, hk⟩ := DVs.rk I ds _ its t rv hok fun x hx => Nat.le_trans (tupleText_mem_le hx) hz
    have R := Reads.tuple ho hc hd hr
    have far := not_mem_of_deeper R (by rw [PyData.depth]; omega) hb
    refine ⟨_, ReadAtMost.cons R (by rw [PyData.depth]; omega) hb, ?_⟩
    rw [PyData.depth, PyData.shown]
    exact ReprK.tuple ho hc hd far hk
  | .dict _, _, u, .dk0 h, r, _, _ => by
    have r' : u = Value.ref _ := r
    subst r'
    obtain ⟨_, sy, vs, rel, o, es, ep, h1, h2, h3, h4⟩ := I.hok _ _ h
    cases rel
    have e0 : es.toList = [] := by
      have h5 := h4.2.1
      generalize es.toList = l at h5 ⊢
      cases h5
      rfl
    have R : Reads s.heap (.ref _) (.dict []) _ := Reads.dict (as := []) (bs := []) h1 h2.1 h3 (by rw [e0]; exact ReadsAll.nil) (by rw [e0]; exact ReadsAll.nil)
    have hb : ReadAtMost s.heap (PyData.depthKv []) [] := fun _ q => by cases q
    refine ⟨_, ReadAtMost.cons R (by rw [PyData.depth]; omega) hb, ?_⟩
    rw [PyData.depth, PyData.shown, PyData.shownKv]
    exact ReprK.dict h1 h2.1 h3 sy (fun q => by cases q) (by rw [e0]; exact .nil)
theorem DVs.rk (I : Inv X pins σ H s) : ∀ (ds : List PyData) (vs : List V) (us : List Value), DVs X.K H vs ds → Vals vs us → okAll ds = true → (∀ x ∈ PyData.shownAll ds, x.length ≤ sizeLine) → ∃ bs, ReadAtMost s.heap (PyData.depthAll ds) bs ∧ ReprAllK X.prog X.w bs s.heap (PyData.depthAll ds) us (PyData.shownAll ds)
  | [], _, _, .nil, r, _, _ => by
    cases r
    exact ⟨[], (fun _ q => by cases q), by rw [PyData.shownAll]; exact .nil⟩
  | d :: ds, _, _, .cons h1 h2, r, hok, hz => by
    cases r with
    | cons r1 r2 =>
      rw [okAll, Bool.and_eq_true] at hok
      rw [PyData.shownAll] at hz
      obtain ⟨p1, a1, k1⟩ := DV.rk I d _ _ h1 r1 hok.1 (hz _ List.mem_cons_self)
      obtain ⟨p2, a2, k2⟩ := DVs.rk I ds _ _ h2 r2 hok.2 fun x hx => hz x (List.mem_cons_of_mem _ hx)
      rw [PyData.shownAll, PyData.depthAll]
      refine ⟨p1 ++ p2, fun b hm => ?_, .cons ((k1.more fun b hb => List.mem_append_left _ hb).level_le (by omega)) (k2.more_le (fun b hb => List.mem_append_right _ hb) (by omega))⟩
      rcases List.mem_append.mp hm with q | q
      · obtain ⟨e, f, r, g⟩ := a1 b q
        exact ⟨e, f, r, by omega⟩
      · obtain ⟨e, f, r, g⟩ := a2 b q
        exact ⟨e, f, r, by omega⟩
end
/-- repr of any data -/
def rRepr2 (K : PySem.W.Frag) : List V → Hp → VK → Prop := fun xs H Q => ∃ (v : V) (d : PyData), xs = [v] ∧ DV K H v d ∧ okD d = true ∧ d.depth ≤ 40 ∧ szD d ≤ 1000000 ∧ Q (.str d.shown) H
theorem call_repr2 (hg : X.A.guards = some []) (hu : X.A.units + 64 < cLine) : CallR X (.builtin "repr") (rRepr2 X.K) := by
  intro pins s σ H xs us Q I r h
  obtain ⟨v, d, rfl, hd, hok, hdep, hsz, q⟩ := h
  have hl : d.shown.length ≤ sizeLine := by
    have := shown_le2 d hok
    rw [sizeLine_eq]
    omega
  obtain ⟨u, rfl, ru⟩ : ∃ u, us = [u] ∧ RelV v u := by
    cases r with
    | cons r1 r2 => cases r2; exact ⟨_, rfl, r1⟩
  have kk : ∀ b o, s.heap.get? b = some o → s.heap.get? b = some o := fun _ _ e => e
  cases hd with
  | non =>
    have r' : u = Value.none := ru
    subst r'
    rw [PyData.shown] at q
    exact PySem.P.repr_of_none ⟨.str _, H, I.tok _, ⟨_, rfl⟩, q⟩
  | bl b =>
    have r' : u = Value.bool b := ru
    subst r'
    rw [PyData.shown] at q
    exact PySem.P.repr_of_bool ⟨.str _, H, I.tok _, ⟨_, rfl⟩, q⟩
  | int i =>
    obtain ⟨t, rfl⟩ := ru
    rw [okD] at hok
    have := log_of (of_decide_eq_true hok)
    rw [PyData.shown] at q
    exact PySem.P.repr_of_int (by omega) ⟨.str _, H, I.tok _, ⟨_, rfl⟩, q⟩
  | str x =>
    obtain ⟨t, rfl⟩ := ru
    rw [PyData.shown] at q hl
    exact PySem.P.repr_of_str ⟨.str _, H, I.tok _, ⟨_, rfl⟩, q⟩ hl
  | lst h t =>
    rename_i a vs ds
    have r' : u = Value.ref a := ru
    subst r'
    rw [okD] at hok
    rw [PyData.shown] at hl q
    rw [PyData.depth] at hdep
    obtain ⟨its, rv, ⟨o, n, ho, hc, _, hdt⟩, _⟩ := I.list h
    obtain ⟨as, hr⟩ := DVs.reads I ds _ its t rv
    obtain ⟨bs, hb, hk⟩ := DVs.rk I ds _ its t rv hok fun x hx => Nat.le_trans (listText_mem_le hx) hl
    have far := not_mem_of_deeper (Reads.list ho hc hdt hr) (by rw [PyData.depth]; omega) hb
    refine call_repr_slot (by omega) ⟨o, ho, hc⟩ F.slot_list_repr.toG ?_
    cases its with
    | nil =>
      cases rv
      cases t
      rw [PyData.shownAll, listText_nil] at q
      exact call_list_repr_empty ⟨o, ho, hc⟩ ho hdt ⟨_, _, rfl, .str _, H, I.tok _, ⟨_, rfl⟩, q⟩
    | cons y l =>
      exact call_list_reprK ho hc hdt far (by rw [hk.length_eq]; rfl) (fun i y e => hk.item i y (by rw [List.getElem?_toArray] at e; exact e)) hg (fun b _ => Clear.nil b) (by show X.A.units + 1 + _ < cLine; omega) kk
        (fun h' u tk k => ⟨_, _, rfl, .str _, H, I.kept k, ⟨_, rfl⟩, q⟩) hl
  | tup h t =>
    rename_i a vs ds
    have r' : u = Value.ref a := ru
    subst r'
    rw [okD] at hok
    rw [PyData.shown] at hl q
    rw [PyData.depth] at hdep
    obtain ⟨its, rv, ⟨o, ho, hc, n, hdt⟩, _⟩ := I.tuple h
    obtain ⟨as, hr⟩ := DVs.reads I ds _ its t rv
    obtain ⟨bs, hb, hk⟩ := DVs.rk I ds _ its t rv hok fun x hx => Nat.le_trans (tupleText_mem_le hx) hl
    have far := not_mem_of_deeper (Reads.tuple ho hc hdt hr) (by rw [PyData.depth]; omega) hb
    refine call_repr_slot (by omega) ⟨o, ho, hc⟩ F.slot_tuple_repr ?_
    exact call_tuple_reprK ho hc hdt far hk hg (fun b _ => Clear.nil b) (by show X.A.units + 1 + _ < cLine; omega) kk
      (fun h' u tk k => ⟨_, _, rfl, .str _, H, I.kept k, ⟨_, rfl⟩, q⟩) hl
  | dk0 h =>
    rename_i a
    have r' : u = Value.ref a := ru
    subst r'
    rw [PyData.shown, PyData.shownKv] at q
    obtain ⟨_, sy, vs, rel, o, es, ep, h1, h2, h3, h4⟩ := I.hok _ _ h
    cases rel
    have e0 : es.toList = [] := by
      have h5 := h4.2.1
      generalize es.toList = l at h5 ⊢
      cases h5
      rfl
    refine call_repr_slot (by omega) ⟨o, h1, h2.1⟩ F.slot_dict_repr ?_
    exact call_dict_reprK (d := 0) (as := []) h1 h2.1 h3 sy (fun q => by cases q) (by rw [e0]; exact .nil) hg (fun b _ => Clear.nil b) (by show X.A.units + 1 + _ < cLine; omega) kk
      (fun h' u tk k => ⟨_, _, rfl, .str _, H, I.kept k, ⟨_, rfl⟩, q⟩) (by rw [sizeLine_eq]; decide)
end
/-! ### repr of a dict -/
def bits (D : List (PyData × PyData)) : List Str := List.zipWith (fun k v : Str => k ++ ": " ++ v) (PyData.shownAll (D.map Prod.fst)) (PyData.shownAll (D.map Prod.snd))
def textD (D : List (PyData × PyData)) : Str := dictText (bits D)
theorem zip_pile : ∀ ks vs : List Str, pile (List.zipWith (fun k v : Str => k ++ ": " ++ v) ks vs) ≤ pile ks + pile vs
  | [], _ => by simp [pile]
  | _ :: _, [] => by simp [pile]
  | k :: ks, v :: vs => by
    have ih := zip_pile ks vs
    show (k ++ ": " ++ v).length + 2 + pile (List.zipWith _ ks vs) ≤ k.length + 2 + pile ks + (v.length + 2 + pile vs)
    have e : (k ++ (": " : Str) ++ v).length = k.length + 2 + v.length := by
      rw [Str.length_append, Str.length_append]; rfl
    rw [e]
    omega
theorem textD_len {D : List (PyData × PyData)} (h1 : okAll (D.map Prod.fst) = true) (h2 : okAll (D.map Prod.snd) = true) : (textD D).length ≤ szAll (D.map Prod.fst) + szAll (D.map Prod.snd) + 2 := by
  unfold textD dictText
  have e1 := join_le (bits D)
  have e2 := zip_pile (PyData.shownAll (D.map Prod.fst)) (PyData.shownAll (D.map Prod.snd))
  have e3 := shownAll_le2 _ h1
  have e4 := shownAll_le2 _ h2
  rw [Str.length_append, Str.length_append]
  have : ("{" : Str).length = 1 := rfl
  have : ("}" : Str).length = 1 := rfl
  unfold bits at e1 ⊢
  omega
theorem mem_pile {x : Str} : ∀ {l : List Str}, x ∈ l → x.length ≤ pile l
  | y :: r, h => by
    show _ ≤ y.length + 2 + pile r
    rcases List.mem_cons.mp h with e | e
    · rw [e]; omega
    · have := mem_pile e; omega
theorem keys_vals {P : Program} {w : World} : ∀ {es : List DictEntry} {kvs : List (Key × V)} {vs : List (Key × Value)}, KV kvs vs → Pairs (mixKind P w) es vs → Vals (kvs.map fun kv => kV kv.1) (es.map (·.key)) ∧ Vals (kvs.map Prod.snd) (es.map (·.val))
  | _, [], _, r, p => by
    cases r
    cases p
    exact ⟨.nil, .nil⟩
  | _, kv :: kvs, _, r, p => by
    cases r with
    | cons h t =>
      cases p with
      | cons k1 k2 pr =>
        obtain ⟨i1, i2⟩ := keys_vals (P := P) (w := w) t pr
        refine ⟨.cons (relV_key ?_) i1, .cons (show RelV kv.2 _ by have q := h.2; rw [← k2] at q; exact q) i2⟩
        have : keyIs _ _ = true := k1
        rw [h.1]; exact this
def rReprD (K : PySem.W.Frag) : List V → Hp → VK → Prop := fun xs H Q => ∃ (a : Addr) (kvs : List (Key × V)) (D : List (PyData × PyData)), xs = [.ref a] ∧ H a = some (.dK kvs) ∧ DVs K H (kvs.map fun kv => kV kv.1) (D.map Prod.fst) ∧ DVs K H (kvs.map Prod.snd) (D.map Prod.snd) ∧
  okAll (D.map Prod.fst) = true ∧ okAll (D.map Prod.snd) = true ∧ PyData.depthKv D ≤ 40 ∧ szAll (D.map Prod.fst) ≤ 1000000 ∧ szAll (D.map Prod.snd) ≤ 1000000 ∧ Q (.str (textD D)) H
section
variable {X : Cx}
theorem call_reprD (hg : X.A.guards = some []) (hu : X.A.units + 64 < cLine) : CallR X (.builtin "repr") (rReprD X.K) := by
  intro pins s σ H xs us Q I r h
  obtain ⟨a, kvs, D, rfl, hd, hK, hV, o1, o2, hdep, z1, z2, q⟩ := h
  obtain ⟨u, rfl, ru⟩ := vals1 r
  obtain rfl : u = Value.ref a := ru
  obtain ⟨_, sy, vs, rel, o, es, ep, h1, h2, h3, h4⟩ := I.hok _ _ hd
  obtain ⟨rk, rvv⟩ := keys_vals (P := X.prog) (w := X.w) rel h4.2.1
  have l1 := shownAll_le2 _ o1
  have l2 := shownAll_le2 _ o2
  have hline := sizeLine_eq
  obtain ⟨as1, R1⟩ := DVs.reads I _ _ _ hK rk
  obtain ⟨as2, R2⟩ := DVs.reads I _ _ _ hV rvv
  obtain ⟨bs1, b1, k1⟩ := DVs.rk I _ _ _ hK rk o1 fun x hx => by have := mem_pile hx; omega
  obtain ⟨bs2, b2, k2⟩ := DVs.rk I _ _ _ hV rvv o2 fun x hx => by have := mem_pile hx; omega
  have R : Reads s.heap (.ref a) (.dict D) _ := Reads.dict h1 h2.1 h3 R1 R2
  have d1 := PyData.depthAll_keys_le D
  have d2 := PyData.depthAll_vals_le D
  have hb : ReadAtMost s.heap (PyData.depthKv D) (bs1 ++ bs2) := (b1.mono d1).append (b2.mono d2)
  have far := not_mem_of_deeper R (by rw [PyData.depth]; omega) hb
  refine call_repr_slot (by omega) ⟨o, h1, h2.1⟩ F.slot_dict_repr ?_
  refine call_dict_reprK (d := PyData.depthKv D) (as := bs1 ++ bs2) h1 h2.1 h3 sy far (ReprEntriesK.of_two es.toList _ _ (k1.more_le (fun b hb => List.mem_append_left _ hb) d1) (k2.more_le (fun b hb => List.mem_append_right _ hb) d2)) hg (fun b _ => Clear.nil b) (by show X.A.units + 1 + _ < cLine; omega) (fun _ _ e => e)
    (fun h' u tk k => ⟨_, _, rfl, .str _, H, I.kept k, ⟨_, rfl⟩, q⟩) ?_
  have := textD_len o1 o2
  unfold textD bits at this
  omega
end
/-! ### data with dicts in it -/
mutual
inductive DW (K : PySem.W.Frag) (H : Hp) : V → PyData → Prop
  | non : DW K H .non .none
  | bl (b : Bool) : DW K H (.bl b) (.bool b)
  | int (i : Int) : DW K H (.int i) (.int i)
  | str (x : Str) : DW K H (.str x) (.str x)
  | lst {a : Addr} {xs : List V} {ds : List PyData} : SqL K H a xs → DWs K H xs ds → DW K H (.ref a) (.list ds)
  | tup {a : Addr} {xs : List V} {ds : List PyData} : SqT K H a xs → DWs K H xs ds → DW K H (.ref a) (.tuple ds)
  | dic {a : Addr} {kvs : List (Key × V)} {D : List (PyData × PyData)} : H a = some (.dK kvs) → DWs K H (kvs.map fun kv => kV kv.1) (D.map Prod.fst) → DWs K H (kvs.map Prod.snd) (D.map Prod.snd) → DW K H (.ref a) (.dict D)
inductive DWs (K : PySem.W.Frag) (H : Hp) : List V → List PyData → Prop
  | nil : DWs K H [] []
  | cons {v : V} {vs : List V} {d : PyData} {ds : List PyData} : DW K H v d → DWs K H vs ds → DWs K H (v :: vs) (d :: ds)
end
theorem DWs.ints {K : PySem.W.Frag} {H : Hp} : ∀ ks : List Int, DWs K H (ks.map V.int) (ks.map PyData.int)
  | [] => .nil
  | k :: r => .cons (.int k) (DWs.ints r)
mutual
def szW : PyData → Nat
  | .none => 303
  | .bool _ => 303
  | .int _ => 303
  | .str x => PyData.shown (.str x) |>.length
  | .list xs => szWs xs + 2
  | .tuple xs => szWs xs + 3
  | .dict D => szWk D + 2
def szWs : List PyData → Nat
  | [] => 0
  | x :: xs => szW x + 2 + szWs xs
def szWk : List (PyData × PyData) → Nat
  | [] => 0
  | (k, v) :: r => szW k + szW v + 4 + szWk r
end
mutual
/-- ints of moderate size -/
def okW : PyData → Bool
  | .none | .bool _ | .str _ => true
  | .int i => decide (i.natAbs < 2 ^ 300)
  | .list xs | .tuple xs => okWs xs
  | .dict D => okWk D
def okWs : List PyData → Bool
  | [] => true
  | x :: xs => okW x && okWs xs
def okWk : List (PyData × PyData) → Bool
  | [] => true
  | (k, v) :: r => okW k && okW v && okWk r
end
theorem okWk_split : ∀ {D : List (PyData × PyData)}, okWk D = true → okWs (D.map Prod.fst) = true ∧ okWs (D.map Prod.snd) = true
  | [], _ => ⟨by rw [List.map_nil, okWs], by rw [List.map_nil, okWs]⟩
  | (k, v) :: r, h => by
    rw [okWk, Bool.and_eq_true, Bool.and_eq_true] at h
    obtain ⟨i1, i2⟩ := okWk_split h.2
    exact ⟨by rw [List.map_cons, okWs, h.1.1, i1]; rfl, by rw [List.map_cons, okWs, h.1.2, i2]; rfl⟩
mutual
theorem shown_leW : ∀ d : PyData, okW d = true → d.shown.length ≤ szW d
  | .none, _ => by have := shown_le .none rfl; rw [szD] at this; rw [szW]; omega
  | .bool b, _ => by have := shown_le (.bool b) rfl; rw [szD] at this; rw [szW]; omega
  | .int i, h => by
    have := shown_le (.int i) (by rw [okW] at h; rw [modD]; exact h)
    rw [szD] at this; rw [szW]; omega
  | .str x, _ => by rw [szW]; exact Nat.le_refl _
  | .list xs, h => by
    have h2 : okWs xs = true := by rw [okW] at h; exact h
    have b := shownAll_leW xs h2
    have a := listText_le (PyData.shownAll xs)
    rw [szW, PyData.shown]
    omega
  | .tuple xs, h => by
    have h2 : okWs xs = true := by rw [okW] at h; exact h
    have b := shownAll_leW xs h2
    have a := tupleText_le (PyData.shownAll xs)
    rw [szW, PyData.shown]
    omega
  | .dict D, h => by
    have h2 : okWk D = true := by rw [okW] at h; exact h
    have b := shownKv_leW D h2
    have a := join_le (PyData.shownKv D)
    rw [szW, PyData.shown]
    unfold dictText
    rw [Str.length_append, Str.length_append]
    have : ("{" : Str).length = 1 := rfl
    have : ("}" : Str).length = 1 := rfl
    omega
theorem shownAll_leW : ∀ xs : List PyData, okWs xs = true → pile (PyData.shownAll xs) ≤ szWs xs
  | [], _ => by rw [PyData.shownAll, szWs]; exact Nat.le_refl _
  | x :: xs, h => by
    rw [okWs, Bool.and_eq_true] at h
    have a := shown_leW x h.1
    have b := shownAll_leW xs h.2
    rw [szWs, PyData.shownAll]
    show x.shown.length + 2 + pile (PyData.shownAll xs) ≤ _
    omega
theorem shownKv_leW : ∀ D : List (PyData × PyData), okWk D = true → pile (PyData.shownKv D) ≤ szWk D
  | [], _ => by rw [PyData.shownKv, szWk]; exact Nat.le_refl _
  | (k, v) :: r, h => by
    rw [okWk, Bool.and_eq_true, Bool.and_eq_true] at h
    have a := shown_leW k h.1.1
    have b := shown_leW v h.1.2
    have c := shownKv_leW r h.2
    rw [szWk, PyData.shownKv]
    show (k.shown ++ (": " : Str) ++ v.shown).length + 2 + pile (PyData.shownKv r) ≤ _
    rw [Str.length_append, Str.length_append]
    have : (": " : Str).length = 2 := rfl
    omega
end
section
variable {X : Cx} {pins : List (Addr × Obj)} {σ : L2.St} {H : Hp} {s : Shared}
mutual
theorem DW.reads (I : Inv X pins σ H s) : ∀ {v : V} {d : PyData} (_ : DW X.K H v d) (u : Value), RelV v u → ∃ as, Reads s.heap u d as
  | _, _, .non, _, r => ⟨_, (show _ = Value.none from r) ▸ Reads.none⟩
  | _, _, .bl b, _, r => ⟨_, (show _ = Value.bool b from r) ▸ Reads.bool b⟩
  | _, _, .int i, _, r => by
    obtain ⟨t, q⟩ := r
    rw [q]
    exact ⟨_, Reads.int i t⟩
  | _, _, .str x, _, r => by
    obtain ⟨t, q⟩ := r
    rw [q]
    exact ⟨_, Reads.str x t⟩
  | _, _, .lst h t, u, r => by
    have r' : u = Value.ref _ := r
    subst r'
    obtain ⟨its, rv, ⟨o, n, ho, hc, _, hd⟩, _⟩ := I.list h
    obtain ⟨as, hr⟩ := DWs.reads I t its rv
    exact ⟨_, Reads.list ho hc hd hr⟩
  | _, _, .tup h t, u, r => by
    have r' : u = Value.ref _ := r
    subst r'
    obtain ⟨its, rv, ⟨o, ho, hc, n, hd⟩, _⟩ := I.tuple h
    obtain ⟨as, hr⟩ := DWs.reads I t its rv
    exact ⟨_, Reads.tuple ho hc hd hr⟩
  | _, _, .dic h t1 t2, u, r => by
    have r' : u = Value.ref _ := r
    subst r'
    obtain ⟨_, _, vs, rel, o, es, ep, h1, h2, h3, h4⟩ := I.hok _ _ h
    obtain ⟨rk, rvv⟩ := keys_vals (P := X.prog) (w := X.w) rel h4.2.1
    obtain ⟨as1, R1⟩ := DWs.reads I t1 _ rk
    obtain ⟨as2, R2⟩ := DWs.reads I t2 _ rvv
    exact ⟨_, Reads.dict h1 h2.1 h3 R1 R2⟩
theorem DWs.reads (I : Inv X pins σ H s) : ∀ {vs : List V} {ds : List PyData} (_ : DWs X.K H vs ds) (us : List Value), Vals vs us → ∃ as, ReadsAll s.heap us ds as
  | _, _, .nil, _, r => by
    cases r
    exact ⟨_, ReadsAll.nil⟩
  | _, _, .cons h1 h2, _, r => by
    cases r with
    | cons r1 r2 =>
      obtain ⟨as, q1⟩ := DW.reads I h1 _ r1
      obtain ⟨bs, q2⟩ := DWs.reads I h2 _ r2
      exact ⟨_, ReadsAll.cons q1 q2⟩
end
mutual
theorem DW.rk (I : Inv X pins σ H s) : ∀ {v : V} {d : PyData} (_ : DW X.K H v d) (u : Value), RelV v u → okW d = true → d.shown.length ≤ sizeLine → ∃ bs, ReadAtMost s.heap d.depth bs ∧ ReprK X.prog X.w bs s.heap d.depth u d.shown
  | _, _, .non, _, r, _, _ => ⟨[], (fun _ q => by cases q), by rw [PyData.shown, (show _ = Value.none from r)]; exact .of_is ReprIs.none _ _ _⟩
  | _, _, .bl b, _, r, _, _ => ⟨[], (fun _ q => by cases q), by rw [PyData.shown, (show _ = Value.bool b from r)]; exact .of_is (ReprIs.bool b) _ _ _⟩
  | _, _, .int i, _, r, h, _ => by
    obtain ⟨t, rfl⟩ := r
    rw [okW] at h
    have := log_of (of_decide_eq_true h)
    exact ⟨[], (fun _ q => by cases q), by rw [PyData.shown]; exact .of_is (ReprIs.int t (by omega)) _ _ _⟩
  | _, _, .str x, _, r, _, hz => by
    obtain ⟨t, rfl⟩ := r
    rw [PyData.shown] at hz
    exact ⟨[], (fun _ q => by cases q), by rw [PyData.shown]; exact .of_is (ReprIs.str x t hz) _ _ _⟩
  | _, _, .lst h t, u, r, hok, hz => by
    have r' : u = Value.ref _ := r
    subst r'
    rw [okW] at hok
    rw [PyData.shown] at hz
    obtain ⟨its, rv, ⟨o, n, ho, hc, _, hd⟩, _⟩ := I.list h
    obtain ⟨as, hr⟩ := DWs.reads I t its rv
    obtain ⟨bs, hb, hk⟩ := DWs.rk I t its rv hok fun x hx => Nat.le_trans (listText_mem_le hx) hz
    have R := Reads.list ho hc hd hr
    have far := not_mem_of_deeper R (by rw [PyData.depth]; omega) hb
    refine ⟨_, ReadAtMost.cons R (by rw [PyData.depth]; omega) hb, ?_⟩
    rw [PyData.depth, PyData.shown]
    cases its with
    | nil =>
      cases rv
      cases t
      rw [PyData.shownAll, listText_nil]
      exact ReprK.listEmpty ho hc hd
    | cons y l => exact ReprK.list ho hc hd far (by rw [hk.length_eq]; rfl) fun i y e => hk.item i y (by rw [List.getElem?_toArray] at e; exact e)
  | _, _, .tup h t, u, r, hok, hz => by
    have r' : u = Value.ref _ := r
    subst r'
    rw [okW] at hok
    rw [PyData.shown] at hz
    obtain ⟨its, rv, ⟨o, ho, hc, n, hd⟩, _⟩ := I.tuple h
    obtain ⟨as, hr⟩ := DWs.reads I t its rv
    obtain ⟨bs, hb, hk⟩ := DWs.rk I t its rv hok fun x hx => Nat.le_trans (tupleText_mem_le hx) hz
    have R := Reads.tuple ho hc hd hr
    have far := not_mem_of_deeper R (by rw [PyData.depth]; omega) hb
    refine ⟨_, ReadAtMost.cons R (by rw [PyData.depth]; omega) hb, ?_⟩
    rw [PyData.depth, PyData.shown]
    exact ReprK.tuple ho hc hd far hk
  | _, _, .dic (D := D) h t1 t2, u, r, hok, hz => by
    have r' : u = Value.ref _ := r
    subst r'
    rw [okW] at hok
    obtain ⟨o1, o2⟩ := okWk_split hok
    rw [PyData.shown] at hz
    obtain ⟨_, sy, vs, rel, o, es, ep, h1, h2, h3, h4⟩ := I.hok _ _ h
    obtain ⟨rk, rvv⟩ := keys_vals (P := X.prog) (w := X.w) rel h4.2.1
    obtain ⟨as1, R1⟩ := DWs.reads I t1 _ rk
    obtain ⟨as2, R2⟩ := DWs.reads I t2 _ rvv
    obtain ⟨bs1, b1, k1⟩ := DWs.rk I t1 _ rk o1 fun t ht => let ⟨p, hp, hl⟩ := PyData.shownKv_key_le D t ht; Nat.le_trans hl (Nat.le_trans (dictText_mem_le hp) hz)
    obtain ⟨bs2, b2, k2⟩ := DWs.rk I t2 _ rvv o2 fun t ht => let ⟨p, hp, hl⟩ := PyData.shownKv_val_le D t ht; Nat.le_trans hl (Nat.le_trans (dictText_mem_le hp) hz)
    have R : Reads s.heap (.ref _) (.dict D) _ := Reads.dict h1 h2.1 h3 R1 R2
    have hb : ReadAtMost s.heap (PyData.depthKv D) (bs1 ++ bs2) := (b1.mono (PyData.depthAll_keys_le D)).append (b2.mono (PyData.depthAll_vals_le D))
    have far := not_mem_of_deeper R (by rw [PyData.depth]; omega) hb
    refine ⟨_, ReadAtMost.cons R (by rw [PyData.depth]; omega) hb, ?_⟩
    rw [PyData.depth, PyData.shown, PyData.shownKv_eq]
    exact ReprK.dict h1 h2.1 h3 sy far (ReprEntriesK.of_two es.toList _ _ (k1.more_le (fun b hb => List.mem_append_left _ hb) (PyData.depthAll_keys_le D)) (k2.more_le (fun b hb => List.mem_append_right _ hb) (PyData.depthAll_vals_le D)))
theorem DWs.rk (I : Inv X pins σ H s) : ∀ {vs : List V} {ds : List PyData} (_ : DWs X.K H vs ds) (us : List Value), Vals vs us → okWs ds = true → (∀ x ∈ PyData.shownAll ds, x.length ≤ sizeLine) → ∃ bs, ReadAtMost s.heap (PyData.depthAll ds) bs ∧ ReprAllK X.prog X.w bs s.heap (PyData.depthAll ds) us (PyData.shownAll ds)
  | _, _, .nil, _, r, _, _ => by
    cases r
    exact ⟨[], (fun _ q => by cases q), by rw [PyData.shownAll]; exact .nil⟩
  | _, _, .cons h1 h2, _, r, hok, hz => by
    cases r with
    | cons r1 r2 =>
      rw [okWs, Bool.and_eq_true] at hok
      rw [PyData.shownAll] at hz
      obtain ⟨p1, a1, k1⟩ := DW.rk I h1 _ r1 hok.1 (hz _ List.mem_cons_self)
      obtain ⟨p2, a2, k2⟩ := DWs.rk I h2 _ r2 hok.2 fun x hx => hz x (List.mem_cons_of_mem _ hx)
      rw [PyData.shownAll, PyData.depthAll]
      refine ⟨p1 ++ p2, fun b hm => ?_, .cons ((k1.more fun b hb => List.mem_append_left _ hb).level_le (by omega)) (k2.more_le (fun b hb => List.mem_append_right _ hb) (by omega))⟩
      rcases List.mem_append.mp hm with q | q
      · obtain ⟨e, f, r, g⟩ := a1 b q
        exact ⟨e, f, r, by omega⟩
      · obtain ⟨e, f, r, g⟩ := a2 b q
        exact ⟨e, f, r, by omega⟩
end
end
/-- repr of a list, a tuple or a dict of data -/
def rReprW (K : PySem.W.Frag) : List V → Hp → VK → Prop := fun xs H Q => ∃ (a : Addr) (d : PyData), xs = [.ref a] ∧ DW K H (.ref a) d ∧ okW d = true ∧ d.depth ≤ 40 ∧ szW d ≤ 1000000 ∧ Q (.str d.shown) H
section
variable {X : Cx}
theorem call_reprW (hg : X.A.guards = some []) (hu : X.A.units + 64 < cLine) : CallR X (.builtin "repr") (rReprW X.K) := by
  intro pins s σ H xs us Q I r h
  obtain ⟨a, d, rfl, hd, hok, hdep, hsz, q⟩ := h
  have hl : d.shown.length ≤ sizeLine := by
    have := shown_leW d hok
    rw [sizeLine_eq]
    omega
  obtain ⟨u, rfl, ru⟩ := vals1 r
  obtain rfl : u = Value.ref a := ru
  have kk : ∀ b o, s.heap.get? b = some o → s.heap.get? b = some o := fun _ _ e => e
  cases hd with
  | lst h t =>
    rename_i vs ds
    rw [okW] at hok
    rw [PyData.shown] at hl q
    rw [PyData.depth] at hdep
    obtain ⟨its, rv, ⟨o, n, ho, hc, _, hdt⟩, _⟩ := I.list h
    obtain ⟨as, hr⟩ := DWs.reads I t its rv
    obtain ⟨bs, hb, hk⟩ := DWs.rk I t its rv hok fun x hx => Nat.le_trans (listText_mem_le hx) hl
    have far := not_mem_of_deeper (Reads.list ho hc hdt hr) (by rw [PyData.depth]; omega) hb
    refine call_repr_slot (by omega) ⟨o, ho, hc⟩ F.slot_list_repr.toG ?_
    cases its with
    | nil =>
      cases rv
      cases t
      rw [PyData.shownAll, listText_nil] at q
      exact call_list_repr_empty ⟨o, ho, hc⟩ ho hdt ⟨_, _, rfl, .str _, H, I.tok _, ⟨_, rfl⟩, q⟩
    | cons y l =>
      exact call_list_reprK ho hc hdt far (by rw [hk.length_eq]; rfl) (fun i y e => hk.item i y (by rw [List.getElem?_toArray] at e; exact e)) hg (fun b _ => Clear.nil b) (by show X.A.units + 1 + _ < cLine; omega) kk
        (fun h' u tk k => ⟨_, _, rfl, .str _, H, I.kept k, ⟨_, rfl⟩, q⟩) hl
  | tup h t =>
    rename_i vs ds
    rw [okW] at hok
    rw [PyData.shown] at hl q
    rw [PyData.depth] at hdep
    obtain ⟨its, rv, ⟨o, ho, hc, n, hdt⟩, _⟩ := I.tuple h
    obtain ⟨as, hr⟩ := DWs.reads I t its rv
    obtain ⟨bs, hb, hk⟩ := DWs.rk I t its rv hok fun x hx => Nat.le_trans (tupleText_mem_le hx) hl
    have far := not_mem_of_deeper (Reads.tuple ho hc hdt hr) (by rw [PyData.depth]; omega) hb
    refine call_repr_slot (by omega) ⟨o, ho, hc⟩ F.slot_tuple_repr ?_
    exact call_tuple_reprK ho hc hdt far hk hg (fun b _ => Clear.nil b) (by show X.A.units + 1 + _ < cLine; omega) kk
      (fun h' u tk k => ⟨_, _, rfl, .str _, H, I.kept k, ⟨_, rfl⟩, q⟩) hl
  | dic h t1 t2 =>
    rename_i kvs D
    rw [okW] at hok
    obtain ⟨o1, o2⟩ := okWk_split hok
    rw [PyData.shown] at hl q
    rw [PyData.depth] at hdep
    obtain ⟨_, sy, vs, rel, o, es, ep, h1, h2, h3, h4⟩ := I.hok _ _ h
    obtain ⟨rk, rvv⟩ := keys_vals (P := X.prog) (w := X.w) rel h4.2.1
    obtain ⟨as1, R1⟩ := DWs.reads I t1 _ rk
    obtain ⟨as2, R2⟩ := DWs.reads I t2 _ rvv
    obtain ⟨bs1, b1, k1⟩ := DWs.rk I t1 _ rk o1 fun t ht => let ⟨p, hp, hl2⟩ := PyData.shownKv_key_le D t ht; Nat.le_trans hl2 (Nat.le_trans (dictText_mem_le hp) hl)
    obtain ⟨bs2, b2, k2⟩ := DWs.rk I t2 _ rvv o2 fun t ht => let ⟨p, hp, hl2⟩ := PyData.shownKv_val_le D t ht; Nat.le_trans hl2 (Nat.le_trans (dictText_mem_le hp) hl)
    have R : Reads s.heap (.ref a) (.dict D) _ := Reads.dict h1 h2.1 h3 R1 R2
    have hb : ReadAtMost s.heap (PyData.depthKv D) (bs1 ++ bs2) := (b1.mono (PyData.depthAll_keys_le D)).append (b2.mono (PyData.depthAll_vals_le D))
    have far := not_mem_of_deeper R (by rw [PyData.depth]; omega) hb
    rw [PyData.shownKv_eq] at hl q
    refine call_repr_slot (by omega) ⟨o, h1, h2.1⟩ F.slot_dict_repr ?_
    exact call_dict_reprK (d := PyData.depthKv D) (as := bs1 ++ bs2) h1 h2.1 h3 sy far (ReprEntriesK.of_two es.toList _ _ (k1.more_le (fun b hb => List.mem_append_left _ hb) (PyData.depthAll_keys_le D)) (k2.more_le (fun b hb => List.mem_append_right _ hb) (PyData.depthAll_vals_le D))) hg (fun b _ => Clear.nil b) (by show X.A.units + 1 + _ < cLine; omega) kk
      (fun h' u tk k => ⟨_, _, rfl, .str _, H, I.kept k, ⟨_, rfl⟩, q⟩) hl
end
/-! ### pins as a dict -/
theorem an_mem {ps : List (Int × Int)} {x a : Int} (h : anOf ps x = some a) : (x, a) ∈ ps := by
  unfold anOf at h
  cases q : ps.find? (fun e => decide (e.1 = x)) with
  | none => rw [q] at h; cases h
  | some e =>
    rw [q] at h
    have h2 := List.find?_some q
    have h1 : e.2 = a := Option.some.inj h
    have h3 : e.1 = x := of_decide_eq_true h2
    rw [← h1, ← h3]
    exact List.mem_of_find?_eq_some q
theorem nP {ps : List (Int × Int)} : ∀ x y, HO.dK (pinK ps) ≠ .dK (dk x y) := fun x y h => by
  have h := HO.dK.inj h
  unfold dk at h
  cases ps with
  | nil => cases h
  | cons e r =>
    have h2 : ((.inl e.1 : Key), V.int e.2) :: pinK r = [(.inr "digits", .int x), (.inr "mixed", .int y)] := h
    have h3 := congrArg Prod.fst (List.cons.inj h2).1
    cases h3
theorem pin_put {ps : List (Int × Int)} {x a : Int} (h : x ∉ ps.map Prod.fst) : putK (pinK ps) (.inl x : Key) (.int a) = pinK (ps ++ [(x, a)]) := by
  have hv : valV (pinK ps) (.inl x : Key) = none := by
    rw [val_pin]
    cases q : anOf ps x with
    | none => rfl
    | some b => exact absurd (List.mem_map.mpr ⟨_, an_mem q, rfl⟩) h
  rw [putK_new _ hv]
  unfold pinK
  rw [List.map_append]; rfl
theorem pin_len (ps : List (Int × Int)) : (pinK ps).length = ps.length := by unfold pinK; rw [List.length_map]
theorem cut_in {xs : List V} {lo hi : Option Int} {v : V} (h : v ∈ cutV xs lo hi) : v ∈ xs := by
  unfold cutV at h
  exact List.mem_of_mem_drop (List.mem_of_mem_take h)
/-! ### sorted, < of data -/
theorem each_vals {β : Type} {val : β → V} : ∀ {bs : List β} {us : List Value}, Vals (bs.map val) us → PySem.W.EachIs (fun u b => RelV (val b) u) us bs
  | [], _, .nil => .nil
  | _ :: _, _, .cons r t => .cons r (each_vals t)
theorem vals_each {β : Type} {val : β → V} : ∀ {us : List Value} {bs : List β}, PySem.W.EachIs (fun u b => RelV (val b) u) us bs → Vals (bs.map val) us
  | _, _, .nil => .nil
  | _, _, .cons r t => .cons r (vals_each t)
/-- sorted(xs) of data that can be compared -/
def rSortD (K : PySem.W.Frag) : List V → Hp → VK → Prop := fun xs H Q => ∃ (a : Addr) (β : Type) (bs : List β) (enc : β → PyData) (val : β → V), xs = [.ref a] ∧ SqL K H a (bs.map val) ∧ (∀ b ∈ bs, DV K H (val b) (enc b)) ∧ PySem.W.AllAlike (bs.map enc) ∧ PySem.W.Sortable (bs.map enc) ∧ (∀ b ∈ bs, (enc b).depth ≤ 40) ∧
  ∀ p, H p = none → Q (.ref p) (upd H p (.lst ((bs.mergeSort (PySem.W.dataLe false enc)).map val)))
section
variable {X : Cx}
theorem each_reads {β : Type} {enc : β → PyData} {val : β → V} {pins : List (Addr × Obj)} {σ : L2.St} {H : Hp} {s : Shared} (I : L2.Inv X pins σ H s) : ∀ {us : List Value} {bs : List β}, PySem.W.EachIs (fun u b => RelV (val b) u) us bs → (∀ b ∈ bs, DV X.K H (val b) (enc b)) → PySem.W.EachIs (fun u b => ∃ as, Reads s.heap u (enc b) as) us bs
  | _, _, .nil, _ => .nil
  | _, _, .cons r t, h => .cons (DV.reads I _ _ _ (h _ List.mem_cons_self) r) (each_reads I t fun b hb => h b (List.mem_cons_of_mem _ hb))
theorem call_sortD (hu : X.A.units + 64 < cLine) : CallR X (.builtin "sorted") (rSortD X.K) := by
  intro pins s σ H xs us Q I r h
  obtain ⟨a, β, bs, enc, val, rfl, hS, hd, hal, hk, hdep, q⟩ := h
  obtain ⟨its, rv, hl, hz⟩ := I.list hS
  obtain ⟨u, rfl, ru⟩ := vals1 r
  obtain rfl : u = Value.ref a := ru
  have e := each_vals rv
  rw [List.length_map] at hz
  refine PySem.W.sorted_data (R := fun u b => RelV (val b) u) (vs := its) hl.isList e (each_reads I e hd) hal hk hz (fun b hb => by have := hdep b hb; omega) fun out hlen hout => ?_
  obtain ⟨n, hn⟩ := sortedAll_at s.heap its out.toArray
  have hle : s.heap.objs.size ≤ s.heap.objs.size + 1 := Nat.le_succ _
  refine ⟨.ref (s.heap.objs.size + 1), upd H (s.heap.objs.size + 1) (.lst ((bs.mergeSort (PySem.W.dataLe false enc)).map val)), I.laid (t' := s.toks) (fun b o e => sortedAll_old e) hle ⟨?_, out, n, vals_each hout, hn⟩, rfl, q _ (I.hok.fresh hle)⟩
  rw [List.length_map, List.length_mergeSort]
  exact hz
/-- x < y of data that can be compared -/
def rLtD (K : PySem.W.Frag) : R2 := fun x y H Q => ∃ dx dy : PyData, DV K H x dx ∧ DV K H y dy ∧ PySem.W.alike dx dy = true ∧ dx ≠ .none ∧ dx.depth ≤ 40 ∧ Q (.bl (PySem.W.dataLt dx dy)) H
theorem op_ltD (hu : X.A.units + 64 < cLine) : OpR X (compareOp .Lt) (rLtD X.K) := by
  intro pins s σ H x y v u Q I rx ry h
  obtain ⟨dx, dy, hx, hy, ha, hn, hdp, q⟩ := h
  obtain ⟨as, r1⟩ := DV.reads I _ _ _ hx rx
  obtain ⟨bs, r2⟩ := DV.reads I _ _ _ hy ry
  exact PySem.W.lt_data r1 r2 ha hn (by omega) ⟨.bl _, H, I, rfl, q⟩
end
/-! ### the places of the anchors -/
theorem idx_hit {R : List Int} {x : Int} (h : x ∈ R) : R[R.idxOf x]? = some x := by
  rw [List.getElem?_eq_getElem (List.idxOf_lt_length_of_mem h)]
  exact congrArg some (List.getElem_idxOf _)
theorem idx_miss : ∀ {R : List Int} {x z : Int} {m : Nat}, m < R.idxOf x → R[m]? = some z → z ≠ x
  | [], x, z, m, hm, hz => by simp at hz
  | y :: R, x, z, m, hm, hz => by
    by_cases e : y = x
    · subst e
      simp at hm
    · have hb : (y == x) = false := by simpa using e
      rw [List.idxOf_cons, hb, cond_false] at hm
      cases m with
      | zero => rw [← Option.some.inj hz]; exact e
      | succ m => exact idx_miss (R := R) (by omega) hz
theorem ix1 {ids : List Int} {x : Int} (hx : x ∈ ids) : (ids.map V.int)[ids.idxOf x]? = some (.int x) := by rw [List.getElem?_map, idx_hit hx]; rfl
theorem ix2 (x : Int) : eqV (.int x) (.int x) = true := by rw [eqV_int]; exact decide_eq_true rfl
theorem ix3 {ids : List Int} {x : Int} (m : Nat) (z : V) (hm : m < ids.idxOf x) (hz : (ids.map V.int)[m]? = some z) : eqV z (.int x) = false := by
  obtain ⟨z, hz2, rfl⟩ := int_at hz
  rw [eqV_int]
  exact decide_eq_false (idx_miss hm hz2)
theorem alike_int (x y : Int) : PySem.W.alike (.int x) (.int y) = true := by rw [PySem.W.alike]
theorem DVs.intsT {K : PySem.W.Frag} {H : Hp} : ∀ ks : List Int, DVs K H (ks.map V.int) (ks.map PyData.int)
  | [] => .nil
  | k :: r => .cons (.int k) (DVs.intsT r)
/-! ### dict(zip(xs, ys)) -/
inductive Zipped : List V → List V → List (Key × V) → Prop
  | nil1 {ys : List V} : Zipped [] ys []
  | nil2 {xs : List V} : Zipped xs [] []
  | cons {k : Key} {v : V} {xs ys : List V} {kvs : List (Key × V)} : Zipped xs ys kvs → Zipped (kV k :: xs) (v :: ys) ((k, v) :: kvs)
theorem zip_prs {P : Program} {w : World} {xs ys : List V} {kvs : List (Key × V)} (h : Zipped xs ys kvs) : ∀ {us ws : List Value}, Vals xs us → Vals ys ws →
    ∃ prs : List (Key × Value), KV kvs prs ∧ prs.length = min us.length ws.length ∧ ∀ (i : Nat) (key v : Value), us[i]? = some key → ws[i]? = some v → ∃ k, prs[i]? = some (k, v) ∧ (mixKind P w).is k key = true := by
  induction h with
  | nil1 =>
    intro us ws r1 r2
    cases r1
    exact ⟨[], .nil, by simp, fun i key v e _ => by simp at e⟩
  | nil2 =>
    intro us ws r1 r2
    cases r2
    exact ⟨[], .nil, by simp, fun i key v _ e => by simp at e⟩
  | cons t ih =>
    intro us ws r1 r2
    cases r1 with
    | cons a1 a2 =>
      cases r2 with
      | cons b1 b2 =>
        obtain ⟨prs, i1, i2, i3⟩ := ih a2 b2
        rename_i k0 v0 _ _ _ _ _ w0 _
        refine ⟨(k0, w0) :: prs, .cons ⟨rfl, b1⟩ i1, by rw [List.length_cons, List.length_cons, List.length_cons, i2]; omega, fun i key v e1 e2 => ?_⟩
        cases i with
        | zero =>
          obtain rfl := Option.some.inj e1
          obtain rfl := Option.some.inj e2
          exact ⟨_, rfl, kV_is a1⟩
        | succ i => exact i3 i key v e1 e2
theorem vals_len : ∀ {xs : List V} {us : List Value}, Vals xs us → xs.length = us.length
  | _, _, .nil => rfl
  | _, _, .cons _ t => congrArg Nat.succ (vals_len t)
def tDZip (K : PySem.W.Frag) (ta : TA) : TE := fun σ H Q => ta σ H fun vs H1 => ∃ (a b : Addr) (xs ys : List V) (kvs : List (Key × V)), vs = [.ref a, .ref b] ∧ SqL K H1 a xs ∧ SqL K H1 b ys ∧ Zipped xs ys kvs ∧
  ∀ p, H1 p = none → Q (.ref p) (upd H1 p (.dK (mergeK [] kvs)))
section
variable {X : Cx}
theorem pe_dictZip {e e2 : Expr} {ta : TA} {p p2 pos pos2 : Pos} (hc : X.calm = true) (hg : Gl X "dict") (hm : X.mg "dict" = none) (hg2 : Gl X "zip") (hm2 : X.mg "zip" = none) (ha : PA X [e, e2] ta)
    (hs0 : starEach [.Call (.Name "zip" p2) [e, e2] [] pos2] X.env = [(false, eval (.Call (.Name "zip" p2) [e, e2] [] pos2) X.env)] := by rfl)
    (hs : starEach [e, e2] X.env = (false, eval e X.env) :: starEach [e2] X.env := by rfl) (hpl : (backTo pos2 (starEach [e2] X.env)).any (·.1) = false := by rfl) :
    PE X (.Call (.Name "dict" p) [.Call (.Name "zip" p2) [e, e2] [] pos2] [] pos) (tDZip X.K ta) := by
  refine ⟨fun pins s σ H Q I h => ?_⟩
  refine wpAny_Call_Name_kw (ld_blt I hg hm boot_dict ?_)
  refine PyProof.Rows.callWith_type1 ?_ hs0 rfl
  rw [hs0]
  show wpAny _ _ (spliced [(false, eval (.Call (.Name "zip" p2) [e, e2] [] pos2) X.env)]) _ _ s
  refine Calls.spliced_cons ?_
  refine wpAny_Call_Name_kw (ld_blt I hg2 hm2 PyProof.Rows.boot_zip (PyProof.Rows.callWith_type1 (thn (ha.run pos2 pins s σ H _ I h) fun us s1 ⟨vs, H1, I1, r1, q1⟩ => ?_) hs hpl))
  obtain ⟨a, b, xs, ys, kvs, ex, hqx, hqy, hz0, q⟩ := q1
  subst ex
  obtain ⟨u1, u2, rfl, ra, rb⟩ := vals2 r1
  obtain rfl : u1 = Value.ref a := ra
  obtain rfl : u2 = Value.ref b := rb
  obtain ⟨its, rv, p1, sz1⟩ := I1.list hqx
  obtain ⟨its2, rv2, p3, sz2⟩ := I1.list hqy
  have la : a < s1.heap.objs.size := p1.lt
  have lb : b < s1.heap.objs.size := p3.lt
  refine call_zip_2 p1.isList p3.isList fun h' hz hTI hTO h1 h2 hsz hk => Calls.spliced_nil ?_
  obtain ⟨prs, k1, k2, k3⟩ := zip_prs (P := X.prog) (w := X.w) hz0 rv rv2
  have hl1 := Heap.IsList.at p1.isList (h' := h') fun o e => hk _ o e
  have hl2 := Heap.IsList.at p3.isList (h' := h') fun o e => hk _ o e
  refine PySem.call_dict_pairs (knd := mixKind X.prog X.w) (kvs := prs) (PairArg.zip (s1.heap.objs.size + 4) (s1.heap.objs.size + 2) (s1.heap.objs.size + 3) s1.heap.objs.size (s1.heap.objs.size + 1) a b (PySem.W.ktu_apart s1.heap.objs.size a b la lb) its.toArray its2.toArray) (I1.ok.hd hc)
    ⟨hz, hTI, ⟨_, _, hTO⟩, h1, h2, hl1, hl2⟩ ⟨by rw [k2]; simp, fun i key v hr => k3 i key v (by simpa using hr.1) (by simpa using hr.2)⟩ (by have e1 := vals_len rv; rw [List.size_toArray, List.size_toArray, ← e1]; exact Nat.le_trans (Nat.min_le_left _ _) sz1) fun h3 tk hd' hk3 => ?_
  have hle : s1.heap.objs.size ≤ h'.objs.size := by rw [hsz]; exact Nat.le_add_right _ _
  have hm : (h'.objs.size == sysModules) = false := beq_eq_false_iff_ne.mpr (Nat.ne_of_gt (Nat.lt_of_lt_of_le I1.big hle))
  have hlen : (mergeK [] kvs).length ≤ sizeLine := by
    refine Nat.le_trans (length_mergeK kvs []) ?_
    rw [List.length_nil, Nat.zero_add, k1.length, k2]
    have e1 := vals_len rv
    rw [← e1]
    exact Nat.le_trans (Nat.min_le_left _ _) sz1
  have kk : ∀ c o, s1.heap.get? c = some o → h3.get? c = some o := fun c o e => by
    have hlt := Heap.lt_size e
    refine hk3 c o ?_ (hk _ _ e)
    simp only [List.mem_cons, List.not_mem_nil, or_false, not_or]
    exact ⟨Nat.ne_of_lt (Nat.lt_of_lt_of_le hlt (Nat.le_add_right _ _)), Nat.ne_of_lt (Nat.lt_of_lt_of_le hlt (Nat.le_add_right _ _)), Nat.ne_of_lt hlt, Nat.ne_of_lt (Nat.lt_of_lt_of_le hlt (Nat.le_add_right _ _))⟩
  exact ⟨.ref h'.objs.size, upd H1 h'.objs.size (.dK (mergeK [] kvs)), I1.laid (t' := tk) kk hle (show ObjOk X.prog X.w _ _ _ (.dK (mergeK [] kvs)) from ⟨hlen, hm, merged [] prs, KV.merge k1 .nil, hd'⟩), rfl, q _ (I1.hok.fresh hle)⟩
end
/-! ### dicts of ids -/
theorem idx_of_at {l : List Int} (nd : l.Nodup) {i : Nat} {x : Int} (h : l[i]? = some x) : l.idxOf x = i := by
  obtain ⟨h1, h2⟩ := List.getElem?_eq_some_iff.mp h
  rw [← h2]
  exact nd.idxOf_getElem i h1
theorem an_of : ∀ {ps : List (Int × Int)}, (ps.map Prod.fst).Nodup → ∀ e ∈ ps, anOf ps e.1 = some e.2
  | [], _, e, h => by cases h
  | f :: ps, nd, e, h => by
    obtain ⟨n1, n2⟩ := List.nodup_cons.mp nd
    rcases List.mem_cons.mp h with q | q
    · subst q
      unfold anOf
      rw [List.find?_cons_of_pos (by exact decide_eq_true rfl)]
      rfl
    · have hne : ¬ f.1 = e.1 := fun z => n1 (by rw [z]; exact List.mem_map.mpr ⟨e, q, rfl⟩)
      have ih := an_of n2 e q
      unfold anOf at ih ⊢
      rw [List.find?_cons_of_neg (by intro z; exact hne (of_decide_eq_true z))]
      exact ih
theorem merge_freshP : ∀ (more acc : List (Key × V)), ((acc ++ more).map Prod.fst).Nodup → mergeK acc more = acc ++ more
  | [], acc, _ => by rw [List.append_nil]; rfl
  | p :: r, acc, h => by
    have hp : putK acc p.1 p.2 = acc ++ [p] := by
      unfold putK
      rw [if_neg]
      intro z
      obtain ⟨q, hq, e⟩ := List.any_eq_true.mp z
      have e := of_decide_eq_true e
      rw [List.map_append, List.map_cons] at h
      have := (List.nodup_append.mp h).2.2 q.1 (List.mem_map.mpr ⟨q, hq, rfl⟩) p.1 List.mem_cons_self
      exact this e
    show mergeK (putK acc p.1 p.2) r = _
    rw [hp, merge_freshP r (acc ++ [p]) (by rw [List.append_assoc]; exact h), List.append_assoc]
    rfl
/-! ### as data -/
def pinD (ps : List (Int × Int)) : List (PyData × PyData) := ps.map fun e => (.int e.1, .int e.2)
theorem pin_dw {K : PySem.W.Frag} {H : Hp} {d : Addr} {ps : List (Int × Int)} (h : H d = some (.dK (pinK ps))) : DW K H (.ref d) (.dict (pinD ps)) := by
  refine .dic h ?_ ?_
  · have e1 : (pinK ps).map (fun kv => kV kv.1) = (ps.map Prod.fst).map V.int := by unfold pinK; rw [List.map_map, List.map_map]; rfl
    have e2 : (pinD ps).map Prod.fst = (ps.map Prod.fst).map PyData.int := by unfold pinD; rw [List.map_map, List.map_map]; rfl
    rw [e1, e2]
    exact DWs.ints _
  · have e1 : (pinK ps).map Prod.snd = (ps.map Prod.snd).map V.int := by unfold pinK; rw [List.map_map, List.map_map]; rfl
    have e2 : (pinD ps).map Prod.snd = (ps.map Prod.snd).map PyData.int := by unfold pinD; rw [List.map_map, List.map_map]; rfl
    rw [e1, e2]
    exact DWs.ints _
theorem ints_okW : ∀ xs : List Int, (∀ z ∈ xs, 0 ≤ z ∧ z ≤ 1000000) → okWs (xs.map .int) = true ∧ szWs (xs.map .int) = xs.length * 305
  | [], _ => ⟨by rw [List.map_nil, okWs], by rw [List.map_nil, szWs]; rfl⟩
  | x :: r, h => by
    obtain ⟨i1, i2⟩ := ints_okW r fun z hz => h z (List.mem_cons_of_mem _ hz)
    have hx := h x List.mem_cons_self
    refine ⟨?_, ?_⟩
    · rw [List.map_cons, okWs, okW, i1, decide_eq_true (small_abs (by omega) (by omega))]; rfl
    · rw [List.map_cons, szWs, szW, i2, List.length_cons]; omega
theorem pins_okW : ∀ ps : List (Int × Int), (∀ e ∈ ps, (0 ≤ e.1 ∧ e.1 ≤ 1000000) ∧ 0 ≤ e.2 ∧ e.2 ≤ 1000000) → okWk (pinD ps) = true ∧ szWk (pinD ps) = ps.length * 610 ∧ PyData.depthKv (pinD ps) = 0
  | [], _ => ⟨by rw [pinD, List.map_nil, okWk], by rw [pinD, List.map_nil, szWk]; rfl, by rw [pinD, List.map_nil, PyData.depthKv]⟩
  | e :: r, h => by
    obtain ⟨i1, i2, i3⟩ := pins_okW r fun z hz => h z (List.mem_cons_of_mem _ hz)
    obtain ⟨h1, h2⟩ := h e List.mem_cons_self
    have eD : pinD (e :: r) = (.int e.1, .int e.2) :: pinD r := rfl
    rw [eD]
    refine ⟨?_, ?_, ?_⟩
    · rw [okWk, okW, okW, i1, decide_eq_true (small_abs (by omega) (by omega)), decide_eq_true (small_abs (by omega) (by omega))]; rfl
    · rw [szWk, szW, szW, i2, List.length_cons]; omega
    · rw [PyData.depthKv, PyData.depth, PyData.depth, i3]; rfl
structure RokW (d : PyData) : Prop where
  o : okW d = true
  dep : d.depth ≤ 40
  sz : szW d ≤ 1000000
theorem rok_list {ids : List Int} (hI : ∀ z ∈ ids, 0 ≤ z ∧ z ≤ 1000000) (hl : ids.length ≤ 300) : RokW (.list (ids.map .int)) := by
  obtain ⟨o1, o2⟩ := ints_okW ids hI
  refine ⟨by rw [okW]; exact o1, by rw [PyData.depth, PySem.W.depth_ints]; decide, by rw [szW, o2]; omega⟩
/-! ### for k, v in d.items(), the pairs not kept -/
def isT (T : Addr) (xs : List V) : Heap → Prop := fun h => ∃ its, Vals xs its ∧ IsTup h T its.toArray
section
variable {X : Cx} {pins : List (Addr × Obj)} {σ : L2.St} {H : Hp} {s : Shared}
theorem _root_.L2.Inv.drop {T : Addr} {φ : Heap → Prop} (I : L2.Inv X pins σ (upd H T (.ext φ)) s) (hT : H T = none) : L2.Inv X pins σ H s := by
  have up : ∀ {b : Addr} {u : HO}, H b = some u → (upd H T (.ext φ)) b = some u := fun {b u} e => by rw [upd_ne (ne_of_none e hT)]; exact e
  have down : ∀ {b : Addr}, (upd H T (.ext φ)) b = none → H b = none := fun {b} e => by
    by_cases z : b = T
    · rw [z]; exact hT
    · rw [upd_ne z] at e; exact e
  have back : ∀ {b : Addr} {u : HO}, (upd H T (.ext φ)) b = some u → (∀ ψ, u ≠ .ext ψ) → H b = some u := fun {b u} e n => by
    by_cases z : b = T
    · rw [z, upd_same] at e
      exact absurd (Option.some.inj e).symm (n φ)
    · rw [upd_ne z] at e; exact e
  refine ⟨I.ok, I.os, I.bare, ⟨I.base.keep, I.base.slot, fun b o e n hx => down (I.base.free b o e n hx), I.base.there, fun b xs e => back (I.base.tups b xs e) (fun _ z => by cases z), fun b o u e => back (I.base.frzs b o u e) (fun _ z => by cases z), fun b ps e => ?_⟩,
    I.loc, I.cell, down I.free, fun x c e => down (I.freeC x c e), fun p hp => ?_, fun b u e => ?_, I.len⟩
  · obtain ⟨more, q⟩ := I.base.tbls b ps e
    exact ⟨more, back q (fun _ z => by cases z)⟩
  · obtain ⟨h1, h2, h3⟩ := I.pin p hp
    exact ⟨h1, down h2, h3⟩
  · exact (I.hok b u (up e)).stay (fun _ _ _ q => q) (fun c q => back q (fun _ z => by cases z)) fun c xs q => back q (fun _ z => by cases z)
end
def gTupE (n : Nat) (t : TGs) : TG := fun v σ H' Q => ∃ (T : Addr) (xs : List V) (H : Hp), v = .ref T ∧ H T = none ∧ H' = upd H T (.ext (isT T xs)) ∧ xs.length = n ∧ t xs σ H Q
def ItiE (d : Addr) (o : Obj) (kvs : List (Key × V)) : It :=
  ⟨fun i H => H d = some (.frz o (.dK kvs)) ∧ i < kvs.length, fun i H x H' => ∃ T k v, kvs[i]? = some (k, v) ∧ x = .ref T ∧ H T = none ∧ H' = upd H T (.ext (isT T [kV k, v])), fun i H => H d = some (.frz o (.dK kvs)) ∧ kvs.length ≤ i⟩
def iItemsE (td : TE) : TI := fun σ H R => td σ H fun x H1 => ∃ d o kvs, x = .ref d ∧ H1 d = some (.frz o (.dK kvs)) ∧ R (ItiE d o kvs) H1
section
variable {X : Cx}
theorem pg_tupE {es : List Expr} {k : Nat} {t : TGs} {n : Nat} {pos : Pos} (hc : X.calm = true) (h : PGs X es t)
    (hn : (assignEach es X.env).length = n := by rfl) (hst : (assignEach es X.env).findIdx? (·.1) = none := by rfl) : PG X (.Tuple es k pos) (gTupE n t) := by
  refine ⟨fun pins s σ H v u Q I r hw => ?_⟩
  obtain ⟨T, xs, H0, e1, hT, e2, hl, hw⟩ := hw
  subst e1
  subst e2
  cases r
  obtain ⟨⟨its, rv, ht⟩, _, _⟩ : ObjOk X.prog X.w (upd H0 T (.ext (isT T xs))) s.heap T (.ext (isT T xs)) := I.hok T _ upd_same
  have I0 := I.drop hT
  refine assign_Tuple_tuple (I.ok.hd hc) ht (by simp [hn, ← hl, rv.length]) hst fun h' hx => ?_
  have I1 : L2.Inv X pins σ H0 { s with heap := h' } := I0.kept (t' := s.toks) fun b o e => hx b o (Nat.ne_of_lt (Heap.lt_size e)) e
  exact h.run pins _ σ H0 xs _ Q I1 (by simpa using rv) hw
end
section
variable {P : Program} {w : World} {K : PySem.W.Frag} {d : Addr} {o : Obj} {es : Array DictEntry} {ep : Nat}
theorem turn_itemsE {kvs : List (Key × V)} {elts : List Expr} {kk : Nat} {tpos : Pos} (it : Addr) (hod : o.data = .dict es ep) :
    Turn P w K (.Tuple elts kk tpos) (ItiE d o kvs) [it] it (fun i h => ∃ ok ov, IsItemIter h it d i kvs.length ep ok ov) where
  mem := by simp
  obj := fun i h st b hb => by
    have e : b = it := by simpa using hb
    subst e
    obtain ⟨ok, ov, e⟩ := st
    exact ⟨_, e, fun v z => nomatch z⟩
  keep := fun i h h' st k => let ⟨ok, ov, e⟩ := st; ⟨ok, ov, k it (by simp) _ e⟩
  item := by
    intro X hP hw hK hc i pins s σ H E I hf st hg
    subst hP hw hK
    obtain ⟨hd, hi⟩ := hg
    obtain ⟨hs, hgd, hx, es', ep', vs, hdt, hsz, kv, hm⟩ := I.frzK hd
    obtain ⟨rfl, rfl⟩ := dict_ep hod hdt
    obtain ⟨⟨k, v⟩, hkv⟩ : ∃ p, kvs[i]? = some p := ⟨kvs[i], List.getElem?_eq_getElem hi⟩
    obtain ⟨u, hu, ru⟩ := kv_get kv hkv
    have hl : kvs.length = vs.length := Paired.length kv
    obtain ⟨ok, ov, he⟩ := st
    rw [hl] at he
    have hlt : it < s.heap.objs.size := Heap.lt_size he
    refine wpAny_pyNext_items_item he hm hu fun key h' hkey ho hT hz hk => ?_
    refine ⟨_, rfl, wpAny_letOwnedTupleGo_items (s := { s with heap := h' }) ho fun h'' he' sb => ?_⟩
    have hT2 : h''.get? s.heap.objs.size = some { cls := .type "tuple", data := .seq #[key, u] } := (sb.2 _ (Nat.ne_of_gt hlt)).trans hT
    have new : ObjOk X.prog X.w (upd H s.heap.objs.size (.ext (isT s.heap.objs.size [kV k, v]))) h'' s.heap.objs.size (.ext (isT s.heap.objs.size [kV k, v])) :=
      ⟨⟨[key, u], .cons (relV_key (show keyIs k key = true from hkey)) (.cons ru .nil), ⟨_, hT2, rfl, _, rfl⟩⟩, ⟨_, hT2⟩, fun h1 h2 ⟨its, rv, ob, e, c⟩ kk => ⟨its, rv, ob, kk _ e, c⟩⟩
    have I1 : L2.Inv X pins σ (upd H s.heap.objs.size (.ext (isT s.heap.objs.size [kV k, v]))) { s with heap := h'' } :=
      I.turnedNew (t' := s.toks) (ch := [it]) (fun b ob hb e => (sb.2 b (by simpa using hb)).trans (hk b ob (by simpa using hb) e)) hf (Nat.le_refl _) new
    refine ⟨.ref s.heap.objs.size, _, I1, rfl, ⟨_, k, v, hkv, rfl, I.hok.fresh (Nat.le_refl _), rfl⟩, ⟨key, u, ?_⟩, fun b hb => ?_⟩
    · rw [hl]; exact he'
    · have e : b = it := by simpa using hb
      rw [e, upd_ne (Nat.ne_of_lt hlt)]
      exact (hf it (by simp)).1
  done := by
    intro X hP hw hK hc i pins s σ H E I hf st hg
    subst hP hw hK
    obtain ⟨hd, hi⟩ := hg
    obtain ⟨f0, f1, f2, f3, f4, f5⟩ := hf it (by simp)
    obtain ⟨hs, hgd, hx, es', ep', vs, hdt, hsz, kv, hm⟩ := I.frzK hd
    obtain ⟨rfl, rfl⟩ := dict_ep hod hdt
    have hl : kvs.length = vs.length := Paired.length kv
    obtain ⟨ok, ov, he⟩ := st
    rw [hl] at he
    exact wpAny_pyNext_items_end (I.ok.hd hc) he hm (List.getElem?_eq_none (by omega)) fun h' eb => ⟨rfl, I.turned (t' := s.toks) (fun b ob hb e => eb b ob hb e) f0 f1 f3 f4 f5⟩
  self := fun A i s Q E st h => let ⟨_, _, e⟩ := st; PySem.W.kcp_self e h
end
section
variable {X : Cx} {e : Expr} {td : TE} {apos cpos : Pos}
theorem pi_itemsE {elts : List Expr} {kk : Nat} {tpos : Pos} (he : PE X e td) (hbase : attributeBase e "items" X.env (eval e X.env) = eval e X.env := by rfl) (hline : (apos.endLine == cpos.line) = true := by rfl) :
    PI X (.Tuple elts kk tpos) (.Call (.Attribute e "items" apos) [] [] cpos) (iItemsE td) := by
  refine ⟨fun pins s σ H R I h => ?_⟩
  refine wpAny_Call_method (T := "dict") (id := "dict.items") hbase rfl hline F.plainAttrs_dict F.slot_dict_items F.type_dict_items (thn (he.run pins s σ H _ I h) fun u s1 ⟨x, H1, I1, rx, d, o, kvs, ex, hd, q⟩ => ?_)
  subst ex
  obtain rfl : u = Value.ref d := rx
  obtain ⟨hs, hgd, hx, es, ep, vs, hdt, hsz, kv, hm⟩ := I1.frzK hd
  have hl : kvs.length = vs.length := Paired.length kv
  refine ⟨hm.dictOf.typeIs, hm.dictOf.mapOf.noDict, ?_⟩
  have I2 : L2.Inv X pins σ H1 { s1 with heap := s1.heap.push { cls := .type "dict_items", data := .fields #[.ref d] } } := I1.kept (t' := s1.toks) fun b ob q => Heap.get?_push_of_some _ q
  have fin : wpAny (model X.prog X.w) X.A (pyIter (.ref s1.heap.objs.size)) (PIE X pins σ (.Tuple elts kk tpos) R) X.xe { s1 with heap := s1.heap.push { cls := .type "dict_items", data := .fields #[.ref d] } } := by
    refine wpAny_pyIter_items (d := d) (knd := mixKind X.prog X.w) ⟨_, Heap.get?_push_size _ rfl, rfl, rfl⟩ (hm.push _) (pi_one (tk := s1.toks) I2 _ (turn_itemsE _ hdt) ⟨.none, .none, ?_⟩ q)
    rw [hl]
    exact Heap.get?_push_size _ rfl
  show wpAny _ _ (callWith cpos (.builtin "dict.items") [.ref d] [] []) _ X.xe s1
  exact method_meetsIn F.slot_dict_items F.entry_dict_items rfl (PySem.evalArgs_none ⟨rfl, hm.dictOf.typeIs, F.args_dict_items_1 _, _, meets_dict_items (mixKind X.prog X.w) d hs, ⟨vs, hm.dictOf⟩, fin⟩)
end
/-- the walk over all items -/
theorem walk_itemsE {d : Addr} {o : Obj} {kvs : List (Key × V)} : Walk (ItiE d o kvs) kvs.length (fun H => H d = some (.frz o (.dK kvs))) (fun i H x H' => ∃ T k v, kvs[i]? = some (k, v) ∧ x = .ref T ∧ H T = none ∧ H' = upd H T (.ext (isT T [kV k, v]))) :=
  ⟨fun _ _ hi q => ⟨q, hi⟩, fun _ q => ⟨q, Nat.le_refl _⟩, fun _ _ _ _ _ _ y => y⟩
/-! ### dicts made by comprehensions -/
theorem dc_it {J : It} {n : Nat} {G : Hp → Prop} {Y : Nat → Hp → V → Hp → Prop} (w : Walk J n G Y) {g : TG} {tt : TT} {tk tv : TE} {vs : List Nat} {σ : L2.St} {H1 : Hp} {D : Addr} {Qd : Hp → Prop} (Pv : Nat → Hp → Prop) (h0 : Pv 0 (upd H1 D (.dK []))) (hG : ∀ i H, i ≤ n → Pv i H → G H)
    (hs : ∀ i x H H', i < n → Pv i H → Y i H x H' → g x (wipe σ vs) H' fun σ2 H2 => wipe σ2 vs = wipe σ vs ∧ tt σ2 H2 fun b H3 =>
      if b = true then tk σ2 H3 fun y H4 => tv σ2 H4 fun z H5 => ∃ kvs k, y = kV k ∧ H5 D = some (.dK kvs) ∧ kvs.length < sizeLine ∧ Pv (i + 1) (upd H5 D (.dK (putK kvs k z))) else Pv (i + 1) H3) (hd : ∀ H, Pv n H → Qd H) :
    ∃ W : Nat → Nat → Hp → Prop, (∃ m, W 0 m (upd H1 D (.dK []))) ∧ ∀ i m H, W i m H →
      (J.stop i H ∧ Qd H) ∨ (J.go i H ∧ ∃ Nx : Hp → Prop, (∀ H', Nx H' → ∃ m', m' < m ∧ W (i + 1) m' H') ∧ ∀ x H', J.yld i H x H' → g x (wipe σ vs) H' fun σ2 H2 => wipe σ2 vs = wipe σ vs ∧ tt σ2 H2 fun b H3 =>
        if b = true then tk σ2 H3 fun y H4 => tv σ2 H4 fun z H5 => ∃ kvs k, y = kV k ∧ H5 D = some (.dK kvs) ∧ kvs.length < sizeLine ∧ Nx (upd H5 D (.dK (putK kvs k z))) else Nx H3) := by
  refine ⟨fun i m H => m = n - i ∧ i ≤ n ∧ Pv i H, ⟨n, by simp, Nat.zero_le _, h0⟩, ?_⟩
  rintro i m H ⟨rfl, hi, p⟩
  have q := hG i H hi p
  by_cases hlt : i < n
  · refine .inr ⟨w.goes i H hlt q, Pv (i + 1), fun H' p' => ⟨n - (i + 1), by omega, rfl, hlt, p'⟩, fun x H' y => hs i x H H' hlt p (w.yields i H x H' hlt q y)⟩
  · have e : i = n := by omega
    subst e
    exact .inl ⟨w.stops H q, hd H p⟩
/-! ### numbers by ids -/
/-- f of each id -/
def tabP (f : Int → Int) (l : List Int) : List (Int × Int) := l.map fun x => (x, f x)
theorem tab_keys (f : Int → Int) (l : List Int) : (tabP f l).map Prod.fst = l := by unfold tabP; rw [List.map_map]; simp [Function.comp_def]
theorem tab_len (f : Int → Int) (l : List Int) : (tabP f l).length = l.length := by unfold tabP; rw [List.length_map]
theorem tab_an {f : Int → Int} {l : List Int} {x : Int} (h : x ∈ l) : anOf (tabP f l) x = some (f x) := by
  induction l with
  | nil => cases h
  | cons y r ih =>
    unfold anOf tabP
    rw [List.map_cons]
    by_cases e : y = x
    · subst e
      rw [List.find?_cons_of_pos (by exact decide_eq_true rfl)]; rfl
    · rw [List.find?_cons_of_neg (by intro z; exact e (of_decide_eq_true z))]
      rcases List.mem_cons.mp h with q | q
      · exact absurd q.symm e
      · exact ih q
theorem tab_snoc {f : Int → Int} {l : List Int} {i : Nat} {x : Int} (h : l[i]? = some x) : tabP f (l.take (i + 1)) = tabP f (l.take i) ++ [(x, f x)] := by
  unfold tabP
  rw [take_snoc h, List.map_append]; rfl
theorem tab_new {f : Int → Int} {l : List Int} {i : Nat} {x : Int} (nd : l.Nodup) (h : l[i]? = some x) : x ∉ (tabP f (l.take i)).map Prod.fst := by
  rw [tab_keys]
  intro q
  obtain ⟨j, hj⟩ := List.mem_iff_getElem?.mp q
  rw [List.getElem?_take] at hj
  split at hj
  · rename_i hji
    have e := (List.getElem?_inj (by have := (List.getElem?_eq_some_iff.mp h).1; omega) nd).mp (hj.trans h.symm)
    omega
  · cases hj
section
variable {P : Program} {w : World} {K : PySem.W.Frag} {mg : Str → Option Value} {base : Heap}
/-- places_of -/
def spPlaces (K : PySem.W.Frag) : Sp := fun vs H Q _ => ∃ (o : Addr) (ids : List Int), vs = [.ref o] ∧ SqL K H o (ids.map V.int) ∧ ids.Nodup ∧ ids.length ≤ 300 ∧
  ∀ (q : Addr) (H' : Hp), Same H H' → H q = none → H' q = some (.dK (pinK (tabP (ixI ids) ids))) → Q (.ref q) H'
theorem scPlaces : FnScope ["order", "row_id", "place"] ["order"] (defScope sPlaces) := ⟨rfl, rfl, rfl, by decide +kernel, rfl, by decide +kernel, by decide +kernel⟩
theorem ok_places {f : Addr} {fd : FuncData} (F : Fun K "places_of" "places_of" sPlaces f fd) (T : mg "enumerate" = none) : FnOk P w K mg base CX0 1 f fd ["order"] (spPlaces K) := by
  refine F.ok scPlaces (fun vs H Q E h => ?_) (fun cdv A outer s H vs Q E hr h => ?_)
  · obtain ⟨o, ids, rfl, _⟩ := h
    rfl
  · obtain ⟨o, ids, rfl, ho, nd, hlen, k⟩ := h
    refine ⟨_, pss_one (ps_ret (pe_dc (own := [("place", 2), ("row_id", 1)]) (tt := tYes) (g := gTup K 2 (gCons (gName 2) (gCons (gName 1) gNil))) rfl scPlaces.nd (pi_enum (by rfl) T (pa_cons (pv 0) pa_nil)) (blkOk_by (N := ["order", "row_id", "place"]) (sc := defScope sPlaces) (by decide +kernel))
        (fun _ _ _ _ _ => pg_tup rfl (pgs_cons (pg_name (i := 2) scPlaces.nd rfl (Or.inl rfl)) (pgs_cons (pg_name (i := 1) scPlaces.nd rfl (Or.inl rfl)) pgs_nil))) (fun _ _ _ _ _ => pts_nil) (fun _ _ _ _ _ => pv 1) (fun _ _ _ _ _ => pv 2))), ?_⟩
    have h16 : sizeLine = 16777216 := sizeLine_eq
    refine ⟨_, rfl, o, _, rfl, ho, fun D hD => ?_⟩
    refine dc_it (walk_enum (K := K) (a := o) (xs := ids.map V.int)) (fun i H' => Same H H' ∧ i ≤ ids.length ∧ H' D = some (.dK (pinK (tabP (ixI ids) (ids.take i))))) ⟨Same.new hD, Nat.zero_le _, by rw [List.take_zero]; exact upd_same⟩ (fun i H' _ q => q.1.seq ho) ?_ ?_
    · rintro i y H1 H2 hi ⟨s1, hil, hP⟩ ⟨T0, x', y', rfl, hT, rfl, e1, e2⟩
      rw [List.length_map] at hi
      obtain rfl := Option.some.inj e1
      obtain ⟨x, hx, rfl⟩ := int_at e2
      refine ⟨T0, _, rfl, SqT.of upd_same, rfl, _, _, rfl, _, _, rfl, rfl, rfl, ?_⟩
      have s2 := Same.new (o := .tup [.int (i : Int), .int x]) hT
      refine ⟨_, rfl, _, rfl, pinK (tabP (ixI ids) (ids.take i)), .inl x, rfl, s2 _ _ hP, by rw [pin_len, tab_len, List.length_take, h16]; omega, fun b u e => by rw [upd_ne (ne_of_none e hD)]; exact s2 _ _ (s1 _ _ e), hi, ?_⟩
      have ei : ixI ids x = (i : Int) := by unfold ixI; rw [idx_of_at nd hx]
      rw [upd_same, pin_put (tab_new nd hx), tab_snoc hx, ei]
    · rintro H1 ⟨s1, _, hP⟩
      rw [List.length_map, List.take_length] at hP
      exact k D H1 s1 hD hP
/-- weights: none, or a dict -/
def WtAt (H : Hp) (v : V) (wo : Option (List (Int × Int))) : Prop := (v = .non ∧ wo = none) ∨ ∃ d ws, v = .ref d ∧ wo = some ws ∧ H d = some (.dK (pinK ws))
def wtI (wo : Option (List (Int × Int))) (x : Int) : Int := match wo with
  | none => 1
  | some ws => (anOf ws x).getD 1
theorem WtAt.same {H H' : Hp} {v : V} {wo : Option (List (Int × Int))} (s : Same H H') (h : WtAt H v wo) : WtAt H' v wo := by
  rcases h with h | ⟨d, ws, h1, h2, h3⟩
  · exact .inl h
  · exact .inr ⟨d, ws, h1, h2, s _ _ h3⟩
def spFull (K : PySem.W.Frag) : Sp := fun vs H Q _ => ∃ (o : Addr) (v : V) (ids : List Int) (wo : Option (List (Int × Int))), vs = [.ref o, v] ∧ SqL K H o (ids.map V.int) ∧ WtAt H v wo ∧ ids.Nodup ∧ ids.length ≤ 300 ∧
  ∀ (q : Addr) (H' : Hp), Same H H' → H q = none → H' q = some (.dK (pinK (tabP (wtI wo) ids))) → Q (.ref q) H'
theorem scFull : FnScope ["ids", "weights", "given", "row_id"] ["ids", "weights"] (defScope sFull) := ⟨rfl, rfl, rfl, by decide +kernel, rfl, by decide +kernel, by decide +kernel⟩
theorem ok_full {f : Addr} {fd : FuncData} (F : Fun K "full_weights" "full_weights" sFull f fd) : FnOk P w K mg base CX0 1 f fd ["ids", "weights"] (spFull K) := by
  refine F.ok scFull (fun vs H Q E h => ?_) (fun cdv A outer s H vs Q E hr h => ?_)
  · obtain ⟨o, v, ids, wo, rfl, _⟩ := h
    rfl
  · obtain ⟨o, v, ids, wo, rfl, ho, hw, nd, hlen, k⟩ := h
    have hu := hu_of hr
    refine ⟨_, pss_cons (ps_set (i := 2) scFull.nd rfl (Or.inr rfl) (pe_ifExp (pt_cmpR op_isN (pv 1) pe_non (nomark _)) pe_dnewK (pv 1)))
      (pss_one (ps_ret (pe_dc (own := [("row_id", 3)]) (tt := tYes) (g := gName 3) rfl scFull.nd (pi_list (pv 0)) (blkOk_by (N := ["ids", "weights", "given", "row_id"]) (sc := defScope sFull) (by decide +kernel))
        (fun _ _ _ _ _ => pg_name (i := 3) scFull.nd rfl (Or.inl rfl)) (fun _ _ _ _ _ => pts_nil) (fun _ _ _ _ _ => pv 3) (fun _ _ _ _ _ => pe_dget2 hu (pv 2) (pv 3) pe_int ⟨rfl, rfl, rfl, rfl⟩)))), ?_⟩
    have h16 : sizeLine = 16777216 := sizeLine_eq
    have go : ∀ (g : Addr) (ws : List (Int × Int)) (H1 : Hp), Same H H1 → H1 g = some (.dK (pinK ws)) → (∀ x, wtI wo x = (anOf ws x).getD 1) →
        (tRet (tDc (iList (cxOf CX0 P w K mg base ["ids", "weights", "given", "row_id"] "full_weights" (defScope sFull) f cdv A outer s H E).K (tVar 0)) (gName 3) tYes (tVar 3) (tDGet2 (tVar 2) (tVar 3) (tC (.int 1))) [3])) { nx := fun _ H' => Q .non H', rt := Q } [some (.ref o), some v, some (.ref g), none] H1 := by
      intro g ws H1 s1 hg hwt
      refine ⟨_, rfl, o, rfl, ⟨_, s1.seq ho⟩, fun D hD => ?_⟩
      refine dc_it (walk_list (K := K) (a := o) (xs := ids.map V.int)) (fun i H' => Same H1 H' ∧ i ≤ ids.length ∧ H' D = some (.dK (pinK (tabP (wtI wo) (ids.take i))))) ⟨Same.new hD, Nat.zero_le _, by rw [List.take_zero]; exact upd_same⟩ (fun i H' _ q => (s1.trans q.1).seq ho) ?_ ?_
      · rintro i y H2 H3 hi ⟨s2, hil, hP⟩ ⟨rfl, e2⟩
        rw [List.length_map] at hi
        obtain ⟨x, hx, rfl⟩ := int_at e2
        refine ⟨rfl, _, rfl, _, rfl, g, rfl, .inl ⟨_, .inl (s2 _ _ hg)⟩, _, rfl, _, DGet.k (k := (.inl x : Key)) (s2 _ _ hg), ?_⟩
        have ev : (valV (pinK ws) (.inl x : Key)).getD (.int 1) = .int (wtI wo x) := by
          rw [val_pin, hwt]
          cases anOf ws x <;> rfl
        rw [ev]
        refine ⟨pinK (tabP (wtI wo) (ids.take i)), .inl x, rfl, hP, by rw [pin_len, tab_len, List.length_take, h16]; omega, fun b u e => by rw [upd_ne (ne_of_none e hD)]; exact s2 _ _ e, hi, ?_⟩
        rw [upd_same, pin_put (tab_new nd hx), tab_snoc hx]
      · rintro H2 ⟨s2, _, hP⟩
        rw [List.length_map, List.take_length] at hP
        exact k D H2 (s1.trans s2) (Same.free s1 hD) hP
    rcases hw with ⟨rfl, rfl⟩ | ⟨d, ws, rfl, rfl, hd⟩
    · refine ⟨_, rfl, rfl, _, rfl, iteT ?_⟩
      intro p hp
      exact go p [] _ (Same.new hp) upd_same fun x => rfl
    · refine ⟨_, rfl, rfl, _, rfl, iteF ⟨_, rfl, ?_⟩⟩
      exact go d ws H (Same.refl H) hd fun x => rfl
end
/-! ### favoured_worths -/
def worthI (wo : Option (List (Int × Int))) (n : Nat) (fav : List Int) (x : Int) : Int := wtI wo x * ((n : Int) + 1) + (if x ∈ fav then 1 else 0)
structure TxtW (mg : Str → Option Value) : Prop where
  set : mg "set" = none
  len : mg "len" = none
section
variable {P : Program} {w : World} {K : PySem.W.Frag} {mg : Str → Option Value} {base : Heap}
def spFavs (K : PySem.W.Frag) : Sp := fun vs H Q _ => ∃ (g fv : Addr) (v : V) (ids fav : List Int) (wo : Option (List (Int × Int))), vs = [.ref g, v, .ref fv] ∧ SqL K H g (ids.map V.int) ∧ WtAt H v wo ∧ (SqL K H fv (fav.map V.int) ∨ SqT K H fv (fav.map V.int)) ∧ fav.length ≤ 4000 ∧ ids.Nodup ∧ ids.length ≤ 300 ∧ (∀ x ∈ ids, (wtI wo x).natAbs < 2 ^ 300) ∧
  ∀ (q : Addr) (H' : Hp), Same H H' → H q = none → H' q = some (.dK (pinK (tabP (worthI wo ids.length fav) ids))) → Q (.ref q) H'
abbrev NF : List Str := ["goal", "weights", "favoured", "liked", "full", "scale", "row_id"]
theorem scFavs : FnScope NF ["goal", "weights", "favoured"] (defScope sFavs) := ⟨rfl, rfl, rfl, by decide +kernel, rfl, by decide +kernel, by decide +kernel⟩
theorem ok_favs {f fF : Addr} {fd fdF : FuncData} (F : Fun K "favoured_worths" "favoured_worths" sFavs f fd) (T : TxtW mg) (GF : FnOk P w K mg base CX0 1 fF fdF ["ids", "weights"] (spFull K)) (kF : PySem.W.keepIn K (.ref fF) = true) (bF : L2.Binds K fdF ["ids", "weights"] []) (mF : mg "full_weights" = some (.ref fF)) :
    FnOk P w K mg base CX0 2 f fd ["goal", "weights", "favoured"] (spFavs K) := by
  refine F.ok scFavs (fun vs H Q E h => ?_) (fun cdv A outer s H vs Q E hr h => ?_)
  · obtain ⟨g, fv, v, ids, fav, wo, rfl, _⟩ := h
    rfl
  · obtain ⟨g, fv, v, ids, fav, wo, rfl, hg, hw, hf, hfl, nd, hlen, hwb, k⟩ := h
    have hu := hu_of hr
    refine ⟨_, pss_cons (ps_set (i := 3) scFavs.nd rfl (Or.inr rfl) (pe_callTy (cr_setI rfl) (by rfl) T.set (by decide +kernel) (pa_cons (pv 2) pa_nil)))
      (pss_cons (ps_set (i := 4) scFavs.nd rfl (Or.inr rfl) (pe_call GF hr rfl mF kF bF .nil pass0 (pa_cons (pv 0) (pa_cons (pv 1) pa_nil))))
      (pss_cons (ps_set (i := 5) scFavs.nd rfl (Or.inr rfl) (pe_op op_add (pe_callB call_len_seq (by rfl) T.len PySem.boot_len (pa_cons (pv 0) pa_nil)) pe_int))
      (pss_one (ps_ret (pe_dc (own := [("row_id", 6)]) (tt := tYes) (g := gName 6) rfl scFavs.nd (pi_list (pv 0)) (blkOk_by (N := NF) (sc := defScope sFavs) (by decide +kernel))
        (fun _ _ _ _ _ => pg_name (i := 6) scFavs.nd rfl (Or.inl rfl)) (fun _ _ _ _ _ => pts_nil) (fun _ _ _ _ _ => pv 6)
        (fun _ _ _ _ _ => pe_op op_add (pe_op op_mulG (pe_dget hu (pv 4) (pv 6) (fun _ _ => rfl)) (pv 5)) (pe_ifExp (pt_cmpR op_inSet (pv 6) (pv 3) (by rfl)) pe_int pe_int))))))), ?_⟩
    have h16 : sizeLine = 16777216 := sizeLine_eq
    refine ⟨_, rfl, fv, fav, rfl, hf, hfl, fun q S n hq hS hn => ?_⟩
    have s1 := Same.new (o := .set S n) hq
    have hS1 : (upd H q (.set S n)) q = some (.set S n) := upd_same
    generalize upd H q (.set S n) = H1 at s1 hS1 ⊢
    refine ⟨_, rfl, _, rfl, g, v, ids, wo, rfl, s1.seq hg, hw.same s1, nd, hlen, fun d H2 s2 hd hD => ?_⟩
    have s12 := s1.trans s2
    refine ⟨_, rfl, g, _, rfl, .inl (s12.seq hg), _, _, rfl, rfl, ?_⟩
    refine ⟨_, rfl, g, rfl, ⟨_, s12.seq hg⟩, fun D hDn => ?_⟩
    refine dc_it (walk_list (K := K) (a := g) (xs := ids.map V.int)) (fun i H' => Same H2 H' ∧ i ≤ ids.length ∧ H' D = some (.dK (pinK (tabP (worthI wo ids.length fav) (ids.take i))))) ⟨Same.new hDn, Nat.zero_le _, by rw [List.take_zero]; exact upd_same⟩ (fun i H' _ q => (s12.trans q.1).seq hg) ?_ ?_
    · rintro i y H3 H4 hi ⟨s3, hil, hP⟩ ⟨rfl, e2⟩
      rw [List.length_map] at hi
      obtain ⟨x, hx, rfl⟩ := int_at e2
      have hxm := List.mem_of_getElem? hx
      have dg : DGet H4 d (.int x) (some (.int (wtI wo x))) := by
        have := DGet.k (k := (.inl x : Key)) (s3 _ _ hD)
        rw [val_pin, tab_an hxm] at this
        exact this
      have hmul : IntMulOk (wtI wo x) (((ids.map V.int).length : Nat) + 1) := by
        refine mulOk_bits (a := 300) (b := 20) (bits_le (hwb x hxm)) (bits_le ?_) (by decide)
        rw [List.length_map]
        have : (2 : Nat) ^ 20 = 1048576 := by decide
        omega
      have fin : ∀ z : Int, z = (if x ∈ fav then 1 else 0) → ∃ kvs k, V.int x = kV k ∧ H4 D = some (.dK kvs) ∧ kvs.length < sizeLine ∧ (Same H2 (upd H4 D (.dK (putK kvs k (.int (wtI wo x * ((((ids.map V.int).length : Nat) : Int) + 1) + z))))) ∧ i + 1 ≤ ids.length ∧ (upd H4 D (.dK (putK kvs k (.int (wtI wo x * ((((ids.map V.int).length : Nat) : Int) + 1) + z))))) D = some (.dK (pinK (tabP (worthI wo ids.length fav) (ids.take (i + 1)))))) := by
        rintro z rfl
        refine ⟨pinK (tabP (worthI wo ids.length fav) (ids.take i)), .inl x, rfl, hP, by rw [pin_len, tab_len, List.length_take, h16]; omega, fun b u e => by rw [upd_ne (ne_of_none e hDn)]; exact s3 _ _ e, hi, ?_⟩
        rw [upd_same, pin_put (tab_new nd hx), tab_snoc hx, List.length_map]
        rfl
      refine ⟨rfl, _, rfl, _, rfl, _, rfl, d, _, rfl, dg, _, rfl, _, _, rfl, rfl, hmul, ?_⟩
      refine ⟨_, rfl, _, rfl, x, q, S, n, rfl, rfl, s3 _ _ (s2 _ _ hS1), _, rfl, ?_⟩
      have eS : (if false = true then !S x else S x) = decide (x ∈ fav) := hS.1 x
      rw [eS]
      refine ite2 (fun c => ?_) (fun c => ?_)
      · exact ⟨_, _, rfl, rfl, fin 1 (by rw [if_pos (of_decide_eq_true c)])⟩
      · exact ⟨_, _, rfl, rfl, fin 0 (by rw [if_neg (fun z => c (decide_eq_true z))])⟩
    · rintro H3 ⟨s3, _, hP⟩
      rw [List.length_map, List.take_length] at hP
      exact k D H3 (s12.trans s3) (Same.free s12 hDn) hP
end
/-! ### max(xs, default=d) -/
def maxI (d : Int) : List Int → Int
  | [] => d
  | n :: ns => ns.foldl max n
def rMaxDef (K : PySem.W.Frag) : List V → List V → Hp → VK → Prop := fun vs zs H Q => ∃ (a : Addr) (ns : List Int) (d : Int), vs = [.ref a] ∧ zs = [.int d] ∧ SqL K H a (ns.map V.int) ∧ Q (.int (maxI d ns)) H
theorem alike_allI (ns : List Int) : PySem.W.AlikeAll (ns.map .int) := by
  refine ⟨fun x hx y hy => ?_, fun x hx => ?_⟩
  · obtain ⟨a, _, rfl⟩ := List.mem_map.mp hx
    obtain ⟨b, _, rfl⟩ := List.mem_map.mp hy
    exact alike_int a b
  · obtain ⟨a, _, rfl⟩ := List.mem_map.mp hx
    exact fun z => by cases z
section
variable {X : Cx}
theorem cr_maxDef (hc : X.calm = true) (hu : X.A.units + 64 < cLine) : CallRK X (.builtin "max") [Str.ofString "default"] (rMaxDef X.K) := by
  intro pins s σ H vs zs us ws Q I r rz h
  obtain ⟨a, ns, d, rfl, rfl, hs, q⟩ := h
  obtain rfl := Vals.ref1 r
  obtain ⟨w1, rfl, t, rfl⟩ := vals1 rz
  obtain ⟨its, rv, hl, hz⟩ := I.list hs
  obtain ⟨as, hr⟩ := DVs.reads I _ _ _ (DVs.intsT (K := X.K) (H := H) ns) rv
  refine PySem.W.max_list_default (as := as) (I.ok.hd hc) hl.isList hr (alike_allI ns) (by rw [PySem.W.depth_ints]; omega) (fun e h' tk hk => ?_) fun y ys i v h' tk bs e hv hrd hk => ?_
  · have e0 : ns = [] := List.map_eq_nil_iff.mp e
    subst e0
    exact ⟨.int d, H, I.kept hk, ⟨t, rfl⟩, q⟩
  · cases ns with
    | nil => cases e
    | cons n ns =>
      rw [List.map_cons] at e
      obtain ⟨rfl, rfl⟩ := List.cons.inj e
      rw [PySem.W.maxD_ints] at hrd
      cases hrd
      exact ⟨.int _, H, I.kept hk, ⟨_, rfl⟩, q⟩
end
/-! ### top_levels -/
def levS (pl wf : Int → Int) (acc : List (Int × Int)) (x : Int) : Int × Int := (pl x, wf x + maxI 0 ((acc.filter fun e => decide (e.1 < pl x)).map Prod.snd))
def levF (pl wf : Int → Int) (l : List Int) : List (Int × Int) := l.foldl (fun acc x => acc ++ [levS pl wf acc x]) []
theorem lev_snoc (pl wf : Int → Int) (l : List Int) (x : Int) : levF pl wf (l ++ [x]) = levF pl wf l ++ [levS pl wf (levF pl wf l) x] := by
  unfold levF
  rw [List.foldl_append]; rfl
def topI (pl wf : Int → Int) (l : List Int) (x : Int) : Int := (levS pl wf (levF pl wf (l.take (l.idxOf x))) x).2
theorem lev_len (pl wf : Int → Int) (l : List Int) : (levF pl wf l).length = l.length := by
  have : ∀ (l : List Int) (acc : List (Int × Int)), (l.foldl (fun acc x => acc ++ [levS pl wf acc x]) acc).length = acc.length + l.length := by
    intro l
    induction l with
    | nil => intro acc; rfl
    | cons x r ih => intro acc; rw [List.foldl_cons, ih, List.length_append, List.length_cons, List.length_cons, List.length_nil]; omega
  have := this l []
  rw [List.length_nil, Nat.zero_add] at this
  exact this
/-- pairs of numbers, in a list -/
def PairsI (H : Hp) (D : Addr) (es : List (Addr × Int × Int)) : Prop := H D = some (.lst (es.map fun e => .ref e.1)) ∧ ∀ e ∈ es, H e.1 = some (.tup [.int e.2.1, .int e.2.2])
theorem PairsI.same {H H' : Hp} {D : Addr} {es : List (Addr × Int × Int)} (h : PairsI H D es) (s : Same H H') : PairsI H' D es := ⟨s _ _ h.1, fun e he => s _ _ (h.2 e he)⟩
theorem PairsI.push {H : Hp} {D t : Addr} {es : List (Addr × Int × Int)} {a b : Int} (h : PairsI H D es) (ht : H t = some (.tup [.int a, .int b])) : PairsI (upd H D (.lst (es.map (fun e => V.ref e.1) ++ [.ref t]))) D (es ++ [(t, a, b)]) := by
  obtain ⟨h1, h2⟩ := h
  refine ⟨by rw [upd_same, List.map_append]; rfl, fun e he => ?_⟩
  rcases List.mem_append.mp he with q | q
  · have a1 := h2 e q
    rw [upd_ne (ne_of a1 h1 (fun z => by cases z))]; exact a1
  · rw [List.mem_singleton.mp q]
    rw [upd_ne (ne_of ht h1 (fun z => by cases z))]; exact ht
theorem PairsI.put {H : Hp} {D x : Addr} {u o : HO} {es : List (Addr × Int × Int)} (h : PairsI H D es) (hx : H x = some u) (n1 : ∀ xs, HO.lst xs ≠ u) (n2 : ∀ xs, HO.tup xs ≠ u) : PairsI (upd H x o) D es :=
  ⟨by rw [upd_ne (ne_of h.1 hx (n1 _))]; exact h.1, fun e he => by rw [upd_ne (ne_of (h.2 e he) hx (n2 _))]; exact h.2 e he⟩
structure TxtM (mg : Str → Option Value) : Prop where
  max : mg "max" = none
section
variable {P : Program} {w : World} {K : PySem.W.Frag} {mg : Str → Option Value} {base : Heap}
def spTops (K : PySem.W.Frag) : Sp := fun vs H Q _ => ∃ (b g wd : Addr) (bs ids : List Int) (ws : List (Int × Int)) (wf : Int → Int), vs = [.ref b, .ref g, .ref wd] ∧ SqL K H b (bs.map V.int) ∧ SqL K H g (ids.map V.int) ∧ H wd = some (.dK (pinK ws)) ∧ (∀ x ∈ ids, anOf ws x = some (wf x)) ∧ bs.Nodup ∧ bs.length ≤ 300 ∧ ids.Nodup ∧ ids.length ≤ 300 ∧ (∀ x ∈ ids, x ∈ bs) ∧
  ∀ (q : Addr) (H' : Hp), Same H H' → H q = none → H' q = some (.dK (pinK (tabP (topI (ixI bs) wf ids) ids))) → Q (.ref q) H'
abbrev NT : List Str := ["base", "goal", "worths", "places", "found", "levels", "row_id", "place", "level", "before", "other"]
theorem scTops : FnScope NT ["base", "goal", "worths"] (defScope sTops) := ⟨rfl, rfl, rfl, by decide +kernel, rfl, by decide +kernel, by decide +kernel⟩
theorem ok_tops {f fP : Addr} {fd fdP : FuncData} (F : Fun K "top_levels" "top_levels" sTops f fd) (T : TxtM mg) (GP : FnOk P w K mg base CX0 1 fP fdP ["order"] (spPlaces K)) (kP : PySem.W.keepIn K (.ref fP) = true) (bP : L2.Binds K fdP ["order"] []) (mP : mg "places_of" = some (.ref fP)) :
    FnOk P w K mg base CX0 2 f fd ["base", "goal", "worths"] (spTops K) := by
  refine F.ok scTops (fun vs H Q E h => ?_) (fun cdv A outer s H vs Q E hr h => ?_)
  · obtain ⟨b, g, wd, bs, ids, ws, wf, rfl, _⟩ := h
    rfl
  · obtain ⟨b, g, wd, bs, ids, ws, wf, rfl, hb, hg, hw, hwf, nb, lb, nd, hlen, hsub, k⟩ := h
    have hu := hu_of hr
    have h64 := hu64 hr
    refine ⟨_, pss_cons (ps_set (i := 3) scTops.nd rfl (Or.inl rfl) (pe_call GP hr rfl mP kP bP .nil pass0 (pa_cons (pv 0) pa_nil)))
      (pss_cons (ps_set (i := 4) scTops.nd rfl (Or.inl rfl) (pe_lst pa_nil))
      (pss_cons (ps_set (i := 5) scTops.nd rfl (Or.inl rfl) pe_dnewK)
      (pss_cons (ps_for PassesOwn.never rfl (pi_list (pv 1)) (pg_name (i := 6) scTops.nd rfl (Or.inl rfl))
        (pss_cons (ps_set (i := 7) scTops.nd rfl (Or.inr rfl) (pe_dget hu (pv 3) (pv 6) (fun _ _ => rfl)))
        (pss_cons (ps_set (i := 8) scTops.nd rfl (Or.inl rfl) (pe_op op_add (pe_dget hu (pv 2) (pv 6) (fun _ _ => rfl)) (pe_callBK (cr_maxDef rfl h64) (by rfl) T.max (by decide +kernel)
            (pa_cons (pe_lc (own := [("before", 9), ("other", 10)]) (g := gTup K 2 (gCons (gName 9) (gCons (gName 10) gNil))) rfl scTops.nd (pi_list (pv 4)) (blkOk_by (N := NT) (sc := defScope sTops) (by decide +kernel))
              (fun _ _ _ _ _ => pg_tup rfl (pgs_cons (pg_name (i := 9) scTops.nd rfl (Or.inl rfl)) (pgs_cons (pg_name (i := 10) scTops.nd rfl (Or.inl rfl)) pgs_nil))) (fun _ _ _ _ _ => pts_one (pt_cmpR op_lt (pv 9) (pv 7) (nomark _))) (fun _ _ _ _ _ => pv 10)) pa_nil) (pk_cons pe_int pk_nil))))
        (pss_cons (ps_expr (pe_bm PySem.F.plainAttrs_list PySem.F.slot_list_append PySem.F.type_list_append mt_append (pv 4) (pa_cons (pe_tup (pa_cons (pv 7) (pa_cons (pv 8) pa_nil))) pa_nil)))
        (pss_one (ps_dput hu (pv 5) (pv 6) (pv 8) rfl))))))
      (pss_one (ps_ret (pv 5)))))), ?_⟩
    have h16 : sizeLine = 16777216 := sizeLine_eq
    refine ⟨_, rfl, b, bs, rfl, hb, nb, lb, fun pd H1 s1 hpd hP => ?_⟩
    refine ⟨Nat.zero_le _, fun fo hfo => fun ld hld => ?_⟩
    have nfl : fo ≠ ld := ne_of_none upd_same hld
    have hld1 : H1 ld = none := Same.free (Same.new (o := .lst []) hfo) hld
    obtain ⟨pl, hpl⟩ : ∃ pl, pl = ixI bs := ⟨_, rfl⟩
    rw [← hpl] at hP k
    have sfo := Same.new (o := .lst []) hfo
    have sld := Same.new (o := .dK []) hld
    have s2 : Same H1 (upd (upd H1 fo (.lst [])) ld (.dK [])) := sfo.trans sld
    refine ⟨_, rfl, g, rfl, ⟨_, (s1.trans s2).seq hg⟩, for_list (K := K) (a := g) (xs := ids.map V.int) (fun i σ H' => ∃ (es : List (Addr × Int × Int)) (v6 v7 v8 : Option V), σ = [some (.ref b), some (.ref g), some (.ref wd), some (.ref pd), some (.ref fo), some (.ref ld), v6, v7, v8, none, none] ∧ Same H1 H' ∧ PairsI H' fo es ∧
        es.map (fun e => e.2) = levF pl wf (ids.take i) ∧ H' ld = some (.dK (pinK (tabP (topI pl wf ids) (ids.take i)))) ∧ i ≤ ids.length)
      ⟨[], none, none, none, rfl, s2, ⟨sld _ _ upd_same, fun e h => by cases h⟩, by rw [List.take_zero]; rfl, by rw [List.take_zero]; exact upd_same, Nat.zero_le _⟩ (fun i σ H' _ ⟨_, _, _, _, _, s, _⟩ => (s1.trans s).seq hg) ?_ ?_⟩
    · rintro i y σ H3 hi ⟨es, v6, v7, v8, rfl, s3, hE, he, hL, hil⟩
      obtain ⟨x, hx, rfl⟩ := int_at (i := i) (by assumption)
      have hxm := List.mem_of_getElem? hx
      have hil2 : i < ids.length := (List.getElem?_eq_some_iff.mp hx).1
      have s13 := s1.trans s3
      have dgp : DGet H3 pd (.int x) (some (.int (pl x))) := by
        have := DGet.k (k := (.inl x : Key)) (s3 _ _ hP)
        rw [val_pin, tab_an (hsub x hxm)] at this
        exact this
      have dgw : DGet H3 wd (.int x) (some (.int (wf x))) := by
        have := DGet.k (k := (.inl x : Key)) (s13 _ _ hw)
        rw [val_pin, hwf x hxm] at this
        exact this
      have hel : es.length ≤ 300 := by
        have := congrArg List.length he
        rw [List.length_map, lev_len, List.length_take] at this
        omega
      refine ⟨_, rfl, _, rfl, pd, _, rfl, dgp, ?_⟩
      refine ⟨_, rfl, _, rfl, wd, _, rfl, dgw, _, rfl, fo, rfl, ⟨_, SqL.of hE.1⟩, fun D hD => ?_⟩
      refine lc_list (K := K) (a := fo) (xs := es.map fun e => V.ref e.1) (fun j H' => Same H3 H' ∧ H' D = some (.lst (((((es.take j).map fun e => e.2).filter fun e => decide (e.1 < pl x)).map Prod.snd).map V.int))) ⟨Same.new hD, by rw [List.take_zero]; exact upd_same⟩ (fun j H' _ q => SqL.of (q.1 _ _ hE.1)) ?_ ?_
      · rintro j y H4 hj ⟨s4, hA⟩
        obtain ⟨e, hej, rfl⟩ : ∃ e, es[j]? = some e ∧ y = V.ref e.1 := by
          rw [List.getElem?_map] at hj
          cases q : es[j]? with
          | none => rw [q] at hj; cases hj
          | some c => rw [q] at hj; exact ⟨c, rfl, (Option.some.inj hj).symm⟩
        have ht := s4 _ _ (hE.2 e (List.mem_of_getElem? hej))
        have hfl : ((((es.take j).map fun e => e.2).filter fun e => decide (e.1 < pl x)).map Prod.snd).length ≤ 300 := by
          rw [List.length_map]
          have := List.length_filter_le (fun e : Int × Int => decide (e.1 < pl x)) ((es.take j).map fun e => e.2)
          rw [List.length_map, List.length_take] at this
          omega
        refine ⟨e.1, _, rfl, SqT.of ht, rfl, _, _, rfl, _, _, rfl, rfl, rfl, _, rfl, _, rfl, _, _, rfl, rfl, _, rfl, ite2 (fun c => ?_) (fun c => ?_)⟩
        · have c : e.2.1 < pl x := of_decide_eq_true c
          refine ⟨_, rfl, _, hA, by rw [List.length_map, h16]; omega, fun b u q => by rw [upd_ne (ne_of_none q hD)]; exact s4 _ _ q, ?_⟩
          rw [upd_same, take_snoc hej, List.map_append, List.filter_append, List.map_append, List.map_append]
          congr 3
          show _ = ((([e.2] : List (Int × Int)).filter fun e => decide (e.1 < pl x)).map Prod.snd).map V.int
          rw [List.filter_cons_of_pos (by exact decide_eq_true c)]; rfl
        · have c : ¬ e.2.1 < pl x := fun z => c (decide_eq_true z)
          refine ⟨s4, ?_⟩
          rw [hA, take_snoc hej, List.map_append, List.filter_append]
          have : ([e].map fun e => e.2).filter (fun e => decide (e.1 < pl x)) = [] := by
            show ([e.2] : List (Int × Int)).filter (fun e => decide (e.1 < pl x)) = []
            rw [List.filter_cons_of_neg (by rw [decide_eq_false c]; exact fun z => by cases z)]; rfl
          rw [this, List.append_nil]
      · rintro H4 ⟨s4, hA⟩
        rw [List.length_map, List.take_length, he] at hA
        refine ⟨D, _, 0, rfl, rfl, SqL.of hA, _, _, rfl, rfl, ?_⟩
        have hE4 := hE.same s4
        have hL4 := s4 _ _ hL
        refine ⟨_, rfl, .inl ⟨rfl, _, SqL.of hE4.1⟩, _, rfl, _, rfl, by rw [h16]; show 2 ≤ 16777216; decide, fun t ht => ?_⟩
        have st := Same.new (o := .tup [.int (pl x), .int (wf x + maxI 0 (((levF pl wf (ids.take i)).filter fun e => decide (e.1 < pl x)).map Prod.snd))]) ht
        have hE5 := hE4.same st
        refine ⟨fo, _, _, rfl, rfl, hE5.1, by rw [List.length_map, h16]; omega, ?_⟩
        have hE6 := hE5.push upd_same
        have hL6 := st _ _ hL4
        have s6 := (s3.trans s4).trans st
        have hL7 : (upd (upd H4 t (.tup [.int (pl x), .int (wf x + maxI 0 (((levF pl wf (ids.take i)).filter fun e => decide (e.1 < pl x)).map Prod.snd))])) fo (.lst (es.map (fun e => V.ref e.1) ++ [.ref t]))) ld = some (.dK (pinK (tabP (topI pl wf ids) (ids.take i)))) := by rw [upd_ne nfl.symm]; exact hL6
        refine ⟨_, rfl, _, rfl, _, rfl, ld, _, rfl, DPut.k (k := (.inl x : Key)) hL7 (by rw [pin_len, tab_len, List.length_take, h16]; omega), ?_⟩
        rw [pin_put (tab_new nd hx)]
        refine ⟨es ++ [(t, pl x, wf x + maxI 0 (((levF pl wf (ids.take i)).filter fun e => decide (e.1 < pl x)).map Prod.snd))], _, _, _, rfl, fun c u q => ?_, hE6.put hL7 (fun _ z => by cases z) (fun _ z => by cases z), ?_, ?_, hil2⟩
        · rw [upd_ne (ne_of_none q hld1), upd_ne (ne_of_none q hfo)]
          exact s6 _ _ q
        · rw [List.map_append, he, take_snoc hx, lev_snoc]; rfl
        · rw [upd_same, tab_snoc hx]
          have : topI pl wf ids x = wf x + maxI 0 (((levF pl wf (ids.take i)).filter fun e => decide (e.1 < pl x)).map Prod.snd) := by
            unfold topI levS
            rw [idx_of_at nd hx]
          rw [this]
    · rintro σ H3 ⟨es, v6, v7, v8, rfl, s3, hE, he, hL, _⟩
      rw [List.length_map, List.take_length] at hL
      exact ⟨_, rfl, k ld H3 (s1.trans s3) (Same.free s1 hld1) hL⟩
end
/-! ### max(d.values(), default=d) -/
def valsO (p d : Addr) : HO := .ext fun h => h.IsValuesView p d
def rValsK : V → List V → Hp → VK → Prop := fun x xs H Q => ∃ (a : Addr) (kvs : List (Key × V)), x = .ref a ∧ xs = [] ∧ H a = some (.dK kvs) ∧ ∀ p, H p = none → Q (.ref p) (upd H p (valsO p a))
def rMaxV : List V → List V → Hp → VK → Prop := fun vs zs H Q => ∃ (p a : Addr) (kvs : List (Key × V)) (ns : List Int) (d : Int), vs = [.ref p] ∧ zs = [.int d] ∧ H p = some (valsO p a) ∧ H a = some (.dK kvs) ∧ kvs.map Prod.snd = ns.map V.int ∧ Q (.int (maxI d ns)) H
section
variable {X : Cx}
theorem mt_valsK : MtR X "dict.values" rValsK := by
  intro pins s σ H x xs v us Q I rx rxs h
  obtain ⟨a, kvs, rfl, rfl, ha, q⟩ := h
  cases rx
  cases rxs
  obtain ⟨_, hsys, vs, rel, dof⟩ := dk_of I.hok ha
  obtain ⟨ep, dat⟩ := dof.dictAt
  obtain ⟨ob, es, ho, ex, hdat, hko, hpr, hnd⟩ := dat
  refine call_meetsIn F.slot_dict_values ⟨ob, ho, ex.1⟩ F.entry_dict_values (F.args_dict_values_1 _) (meets_dict_values (mixKind X.prog X.w) a hsys) ⟨⟨vs, dof⟩, ?_⟩
  exact ⟨.ref s.heap.objs.size, upd H s.heap.objs.size (valsO s.heap.objs.size a), I.laid (t' := s.toks) (fun b u e => Heap.get?_push_of_some _ e) (Nat.le_refl _) ⟨⟨_, Heap.get?_push_size _ rfl, rfl, rfl⟩, ⟨_, Heap.get?_push_size _ rfl⟩, fun h1 h2 x k => let ⟨o, ho, r⟩ := x; ⟨o, k o ho, r⟩⟩, rfl, q _ (I.hok.fresh (Nat.le_refl _))⟩
theorem fold_max (l : List Int) : ∀ (n : Int), (∀ m, m ∈ n :: l → m ≤ l.foldl max n) ∧ l.foldl max n ∈ n :: l := by
  induction l with
  | nil => intro n; exact ⟨fun m h => by rw [List.mem_singleton.mp h]; exact Int.le_refl _, List.mem_singleton.mpr rfl⟩
  | cons y r ih =>
    intro n
    obtain ⟨i1, i2⟩ := ih (max n y)
    rw [List.foldl_cons]
    refine ⟨fun m h => ?_, ?_⟩
    · have h0 := i1 (max n y) List.mem_cons_self
      rcases List.mem_cons.mp h with e | h
      · rw [e]; omega
      · rcases List.mem_cons.mp h with e | h
        · rw [e]; omega
        · exact i1 m (List.mem_cons_of_mem _ h)
    · rcases List.mem_cons.mp i2 with e | h
      · rw [e]
        rcases Int.le_total n y with q | q
        · rw [Int.max_eq_right q]; exact List.mem_cons_of_mem _ List.mem_cons_self
        · rw [Int.max_eq_left q]; exact List.mem_cons_self
      · exact List.mem_cons_of_mem _ (List.mem_cons_of_mem _ h)
theorem maxI_is {d M : Int} {ns : List Int} (h1 : M ∈ ns) (h2 : ∀ y ∈ ns, y ≤ M) : maxI d ns = M := by
  cases ns with
  | nil => cases h1
  | cons n r =>
    obtain ⟨i1, i2⟩ := fold_max r n
    exact Int.le_antisymm (h2 _ i2) (i1 _ h1)
theorem cr_maxVals (hc : X.calm = true) : CallRK X (.builtin "max") [Str.ofString "default"] rMaxV := by
  intro pins s σ H vs zs us ws Q I r rz h
  obtain ⟨p, a, kvs, is, d, rfl, rfl, hp, ha, hv, q⟩ := h
  obtain rfl := Vals.ref1 r
  obtain ⟨w1, rfl, t, rfl⟩ := vals1 rz
  obtain ⟨_, hsys, vs, rel, dof⟩ := dk_of I.hok ha
  obtain ⟨ep, dat⟩ := dof.dictAt
  obtain ⟨hview, _, _⟩ : ObjOk X.prog X.w H s.heap p (valsO p a) := I.hok p _ hp
  have hlt : a < s.heap.objs.size := by
    obtain ⟨ob, es, ho, _⟩ := id dat
    exact Heap.lt_size ho
  have hlv : vs.length = is.length := by
    have e1 := congrArg List.length hv
    rw [List.length_map, List.length_map] at e1
    rw [← e1]
    exact (KV.length rel).symm
  have hval : ∀ (i : Nat) (v : Value), (∃ k, vs[i]? = some (k, v)) → ∃ t, v = Value.int (is.getD i 0) t := fun i v ⟨k, hk⟩ => by
    obtain ⟨x, h1, h2⟩ := KV.at' rel hk
    have e1 : (kvs.map (·.2))[i]? = some x := by rw [List.getElem?_map, h1] <;> rfl
    have hv' : kvs.map (·.2) = is.map V.int := hv
    rw [hv', List.getElem?_map] at e1
    obtain ⟨j, hj, e2⟩ := Option.map_eq_some_iff.mp e1
    subst e2
    obtain ⟨t, e3⟩ := h2
    refine ⟨t, ?_⟩
    rw [e3, List.getD_eq_getElem?_getD, hj] <;> rfl
  refine PySem.call_max_walkD (wpAny_pyIter_values (v := p) (d := a) hview dat ?_)
  have old : ∀ {s' : Shared}, Moved [s.heap.objs.size] (fun a b => b = a) { s with heap := s.heap.push { cls := .type "dict_valueiterator", data := .fields #[.ref a, .int 0 0, .int vs.length 0, .int ep 0] } } s' → ∃ h' tk, s' = { s with heap := h', toks := tk } ∧ ∀ b o, s.heap.get? b = some o → h'.get? b = some o := fun {s'} m => PySem.W.moved_old rfl rfl m
  refine ⟨_, _, _, _, _, _, _, s.heap, _, rfl, (Walks.dictValues (knd := mixKind X.prog X.w) (A := X.A.in1) (I.ok.hd hc) s.heap.objs.size a (Nat.ne_of_lt hlt) vs ep).toS, ⟨⟨_, Heap.get?_push_size _ rfl, rfl, rfl⟩, dat.keep fun b u e => Heap.get?_push_of_some _ e⟩, fun b hb => ?_, fun b o e hb => ?_, fun b o e => Heap.get?_push_of_some _ e,
    fun hn s' m => ?_, fun hn => ⟨fun i j vi vj s Q E _ hi hj hq => CmpOf.ints_gt (fun i => is.getD i 0) hval i j vi vj s Q E hi hj hq, fun v s' hP m => ?_⟩⟩
  · show b < (s.heap.push _).objs.size
    rw [Heap.size_push]
    rcases List.mem_cons.mp hb with e | hb
    · rw [e]; exact Nat.lt_succ_self _
    · rw [List.mem_singleton.mp hb]; exact Nat.lt_succ_of_lt hlt
  · exact absurd (Heap.lt_size e) ((List.mem_singleton.mp hb) ▸ Nat.lt_irrefl _)
  · obtain ⟨h', tk, rfl, hk⟩ := old m
    have e0 : is = [] := List.eq_nil_of_length_eq_zero (by omega)
    subst e0
    exact ⟨.int d, H, I.kept (t' := tk) hk, ⟨t, rfl⟩, q⟩
  · obtain ⟨h', tk, rfl, hk⟩ := old m
    obtain ⟨t2, rfl⟩ := hval _ v hP
    obtain ⟨b1, b2⟩ := argBest_gt (fun i => is.getD i 0) (vs.length - 1)
    refine ⟨.int _, H, I.kept (t' := tk) hk, ⟨t2, rfl⟩, ?_⟩
    have e : maxI d is = is.getD (argBest (fun i j => decide (is.getD i 0 > is.getD j 0)) (vs.length - 1)) 0 := by
      refine maxI_is ?_ fun y hy => ?_
      · have hl : argBest (fun i j => decide (is.getD i 0 > is.getD j 0)) (vs.length - 1) < is.length := by omega
        rw [List.getD_eq_getElem?_getD, List.getElem?_eq_getElem hl]
        exact List.getElem_mem hl
      · obtain ⟨j, hj, rfl⟩ := List.getElem_of_mem hy
        have := b2 j (by omega)
        rw [List.getD_eq_getElem?_getD, List.getElem?_eq_getElem hj] at this
        exact this
    rw [e] at q
    exact q
end
section
variable {P : Program} {w : World} {K : PySem.W.Frag} {mg : Str → Option Value} {base : Heap} {x qual : Str} {params : Arguments} {body : List Stmt} {scope : Scope} {dvs : List V} {kws : List (Str × V)} {f : Addr} {fd : FuncData}
theorem FunD.ok0 {N ps : List Str} {k : Nat} {sp : Sp} (F : FunD K x qual params body scope dvs kws f fd) (S : FnScope N ps scope) (len : ∀ vs H Q E, sp vs H Q E → vs.length = ps.length)
    (hbody : ∀ (cdv : Value) (A : Around) (outer : List Env) (s : Shared) (H : Hp) (vs : List V) (Q : VK) (E : XK), Room k (A.deeper (envOfC qual scope s.heap.objs.size f cdv)) → sp vs H Q E →
      ∃ t, PSs (cxOf CX0 P w K mg base N qual scope f cdv A outer s H E).nox body t ∧ t { nx := fun _ H' => Q .non H', rt := Q } (start N vs) H) : FnOk P w K mg base CX0 (k + 1) f fd ps sp := by
  refine L2.FunD.ok F S len fun cdv A outer s H vs Q E hr hsp => ?_
  obtain ⟨t, h, q⟩ := hbody cdv A outer s H vs Q E hr hsp
  exact ⟨t, h.nox, q⟩
end
/-! ### best_straight -/
def bestS (f wf : Int → Int) (acc : List Int × Int) (x : Int) : List Int × Int := if f x = acc.2 then (acc.1 ++ [x], acc.2 - wf x) else acc
def bestG (f wf : Int → Int) (m0 : Int) (l : List Int) : List Int × Int := l.foldl (bestS f wf) ([], m0)
theorem best_snoc (f wf : Int → Int) (m0 : Int) (l : List Int) (x : Int) : bestG f wf m0 (l ++ [x]) = bestS f wf (bestG f wf m0 l) x := by
  unfold bestG
  rw [List.foldl_append]; rfl
theorem best_sub (f wf : Int → Int) (m0 : Int) : ∀ l : List Int, ∃ m, l.length = l.length ∧ bestG f wf m0 l = ((bestG f wf m0 l).1, m) := fun l => ⟨_, rfl, rfl⟩
theorem foldr_snoc {α : Type} {p : List α → Prop} (h0 : p []) (h1 : ∀ l x, p l → p (l ++ [x])) : ∀ l, p l := by
  intro l
  have : ∀ n (l : List α), l.length = n → p l := by
    intro n
    induction n with
    | zero => intro l hl; rw [List.eq_nil_of_length_eq_zero hl]; exact h0
    | succ n ih =>
      intro l hl
      rcases List.eq_nil_or_concat l with e | ⟨l0, x, e⟩
      · rw [e] at hl; cases hl
      · rw [e, List.concat_eq_append]
        refine h1 l0 x (ih l0 ?_)
        rw [e, List.concat_eq_append, List.length_append] at hl
        exact Nat.succ.inj hl
  exact this _ l rfl
theorem best_sublist (f wf : Int → Int) (m0 : Int) (l : List Int) : (bestG f wf m0 l).1.Sublist l := by
  refine foldr_snoc (p := fun l => (bestG f wf m0 l).1.Sublist l) (List.Sublist.refl _) (fun l x ih => ?_) l
  show (bestG f wf m0 (l ++ [x])).1.Sublist (l ++ [x])
  rw [best_snoc]
  unfold bestS
  split
  · exact List.Sublist.append ih (List.Sublist.refl _)
  · exact ih.trans (List.sublist_append_left _ _)
def tallF (bs ids : List Int) (wf : Int → Int) : Int → Int := topI (ixI bs.reverse) wf ids.reverse
def bestF (bs ids : List Int) (wf : Int → Int) : List Int := (bestG (tallF bs ids wf) wf (maxI 0 (ids.reverse.map (tallF bs ids wf))) ids).1
section
variable {P : Program} {w : World} {K : PySem.W.Frag} {mg : Str → Option Value} {base : Heap}
def spBest (K : PySem.W.Frag) : Sp := fun vs H Q _ => ∃ (b g fv : Addr) (v : V) (bs ids fav : List Int) (wo : Option (List (Int × Int))), vs = [.ref b, .ref g, v, .ref fv] ∧ SqL K H b (bs.map V.int) ∧ SqL K H g (ids.map V.int) ∧ WtAt H v wo ∧ (SqL K H fv (fav.map V.int) ∨ SqT K H fv (fav.map V.int)) ∧ fav.length ≤ 4000 ∧
  bs.Nodup ∧ bs.length ≤ 300 ∧ ids.Nodup ∧ ids.length ≤ 300 ∧ (∀ x ∈ ids, x ∈ bs) ∧ (∀ x ∈ ids, (wtI wo x).natAbs < 2 ^ 300) ∧
  ∀ (q : Addr) (H' : Hp), Same H H' → H q = none → H' q = some (.lst ((bestF bs ids (worthI wo ids.length fav)).map V.int)) → Q (.ref q) H'
abbrev NB : List Str := ["base", "goal", "weights", "favoured", "worths", "levels", "missing", "best", "row_id"]
theorem scBest : FnScope NB ["base", "goal", "weights", "favoured"] (defScope sBest) := ⟨rfl, rfl, rfl, by decide +kernel, rfl, by decide +kernel, by decide +kernel⟩
theorem ok_best {f fV fT : Addr} {fd fdV fdT : FuncData} {kws : List (Str × V)} (F : FunD K "best_straight" "best_straight" (defArgs sBest) (defBody sBest) (defScope sBest) [] kws f fd) (T : TxtM mg)
    (GV : FnOk P w K mg base CX0 2 fV fdV ["goal", "weights", "favoured"] (spFavs K)) (kV : PySem.W.keepIn K (.ref fV) = true) (bV : L2.Binds K fdV ["goal", "weights", "favoured"] []) (mV : mg "favoured_worths" = some (.ref fV))
    (GT : FnOk P w K mg base CX0 2 fT fdT ["base", "goal", "worths"] (spTops K)) (kT : PySem.W.keepIn K (.ref fT) = true) (bT : L2.Binds K fdT ["base", "goal", "worths"] []) (mT : mg "top_levels" = some (.ref fT)) :
    FnOk P w K mg base CX0 3 f fd ["base", "goal", "weights", "favoured"] (spBest K) := by
  refine FunD.ok0 F scBest (fun vs H Q E h => ?_) (fun cdv A outer s H vs Q E hr h => ?_)
  · obtain ⟨b, g, fv, v, bs, ids, fav, wo, rfl, _⟩ := h
    rfl
  · obtain ⟨b, g, fv, v, bs, ids, fav, wo, rfl, hb, hg, hw, hf, hfl, nb, lb, nd, hlen, hsub, hwb, k⟩ := h
    have hu := hu_of hr
    have h64 := hu64 hr
    refine ⟨_, pss_cons (ps_set (i := 4) scBest.nd rfl (Or.inl rfl) (pe_call GV hr rfl mV kV bV .nil pass0 (pa_cons (pv 1) (pa_cons (pv 2) (pa_cons (pv 3) pa_nil)))))
      (pss_cons (ps_set (i := 5) scBest.nd rfl (Or.inl rfl) (pe_call GT hr rfl mT kT bT .nil pass0 (pa_cons (pe_revL (pv 0)) (pa_cons (pe_revL (pv 1)) (pa_cons (pv 4) pa_nil)))))
      (pss_cons (ps_set (i := 6) scBest.nd rfl (Or.inl rfl) (pe_callBK (cr_maxVals rfl) (by rfl) T.max (by decide +kernel) (pa_cons (pe_bm0 PySem.F.plainAttrs_dict PySem.F.slot_dict_values PySem.F.type_dict_values mt_valsK (pv 5)) pa_nil) (pk_cons pe_int pk_nil)))
      (pss_cons (ps_set (i := 7) scBest.nd rfl (Or.inl rfl) (pe_lst pa_nil))
      (pss_cons (ps_for PassesOwn.never rfl (pi_list (pv 1)) (pg_name (i := 8) scBest.nd rfl (Or.inl rfl))
        (pss_one (ps_if (pt_cmpR op_eq (pe_dget hu (pv 5) (pv 8) (fun _ _ => rfl)) (pv 6) (nomark _))
          (pss_cons (ps_expr (pe_bm PySem.F.plainAttrs_list PySem.F.slot_list_append PySem.F.type_list_append mt_append (pv 7) (pa_cons (pv 8) pa_nil)))
          (pss_one (ps_set (i := 6) scBest.nd rfl (Or.inl rfl) (pe_op op_sub (pv 6) (pe_dget hu (pv 4) (pv 8) (fun _ _ => rfl)))))) pss_nil)))
      (pss_one (ps_ret (pv 7))))))), ?_⟩
    have h16 : sizeLine = 16777216 := sizeLine_eq
    refine ⟨_, rfl, _, rfl, _, rfl, g, fv, v, ids, fav, wo, rfl, hg, hw, hf, hfl, nd, hlen, hwb, fun d H1 s1 hd hD => ?_⟩
    obtain ⟨wf, hwf⟩ : ∃ wf, wf = worthI wo ids.length fav := ⟨_, rfl⟩
    rw [← hwf] at hD
    have hb1 := s1.seq hb
    have hg1 := s1.seq hg
    refine ⟨_, rfl, b, _, rfl, hb1, fun p hp => ?_⟩
    have sp := Same.new (o := .lst (bs.map V.int).reverse) hp
    have hP : upd H1 p (.lst (bs.map V.int).reverse) p = some (.lst (bs.map V.int).reverse) := upd_same
    generalize upd H1 p (.lst (bs.map V.int).reverse) = H2 at sp hP ⊢
    refine ⟨_, rfl, g, _, rfl, sp.seq hg1, fun r hr2 => ?_⟩
    have sr := Same.new (o := .lst (ids.map V.int).reverse) hr2
    have hR : upd H2 r (.lst (ids.map V.int).reverse) r = some (.lst (ids.map V.int).reverse) := upd_same
    generalize upd H2 r (.lst (ids.map V.int).reverse) = H3 at sr hR ⊢
    have hP3 := sr _ _ hP
    have hD3 := sr _ _ (sp _ _ hD)
    have s3 := s1.trans (sp.trans sr)
    rw [← List.map_reverse] at hP3 hR
    refine ⟨_, rfl, p, r, d, bs.reverse, ids.reverse, _, wf, rfl, SqL.of hP3, SqL.of hR, hD3, fun x hx => tab_an (List.mem_reverse.mp hx), ((List.reverse_perm bs).nodup_iff).mpr nb, by rw [List.length_reverse]; exact lb, ((List.reverse_perm ids).nodup_iff).mpr nd, by rw [List.length_reverse]; exact hlen, fun x hx => List.mem_reverse.mpr (hsub x (List.mem_reverse.mp hx)), fun lv H4 s4 hlv hL => ?_⟩
    have ht : topI (ixI bs.reverse) wf ids.reverse = tallF bs ids wf := rfl
    rw [ht] at hL
    obtain ⟨tf, htf⟩ : ∃ tf, tf = tallF bs ids wf := ⟨_, rfl⟩
    rw [← htf] at hL
    have s14 := s3.trans s4
    have hD4 := s4 _ _ hD3
    refine ⟨_, rfl, .inr (.inr (.inl ⟨rfl, .inl ⟨_, hL⟩⟩)), lv, _, rfl, rfl, hL, fun vp hvp => ?_⟩
    have sv := Same.new (o := valsO vp lv) hvp
    have hV : upd H4 vp (valsO vp lv) vp = some (valsO vp lv) := upd_same
    generalize upd H4 vp (valsO vp lv) = H5 at sv hV ⊢
    have hL5 := sv _ _ hL
    have hD5 := sv _ _ hD4
    refine ⟨vp, lv, _, ids.reverse.map tf, 0, rfl, rfl, hV, hL5, by unfold pinK tabP; rw [List.map_map, List.map_map, List.map_map]; rfl, ?_⟩
    refine ⟨Nat.zero_le _, fun B hB => ?_⟩
    have sB := Same.new (o := .lst []) hB
    have hBn : H1 B = none := Same.free (sp.trans (sr.trans (s4.trans sv))) hB
    have s5 := s14.trans sv
    refine ⟨_, rfl, g, rfl, ⟨_, (s5.trans sB).seq hg⟩, for_list (K := K) (a := g) (xs := ids.map V.int) (fun i σ H' => ∃ (v8 : Option V), σ = [some (.ref b), some (.ref g), some v, some (.ref fv), some (.ref d), some (.ref lv), some (.int (bestG tf wf (maxI 0 (ids.reverse.map tf)) (ids.take i)).2), some (.ref B), v8] ∧ Same H5 H' ∧ H' B = some (.lst ((bestG tf wf (maxI 0 (ids.reverse.map tf)) (ids.take i)).1.map V.int)) ∧ i ≤ ids.length)
      ⟨none, by rw [List.take_zero]; rfl, sB, by rw [List.take_zero]; exact upd_same, Nat.zero_le _⟩ (fun i σ H' _ ⟨_, _, s, _⟩ => (s5.trans s).seq hg) ?_ ?_⟩
    · rintro i y σ H6 hi ⟨v8, rfl, s6, hA, hil⟩
      obtain ⟨x, hx, rfl⟩ := int_at (i := i) (by assumption)
      have hxm := List.mem_of_getElem? hx
      have hil2 : i < ids.length := (List.getElem?_eq_some_iff.mp hx).1
      obtain ⟨acc, hacc⟩ : ∃ acc, acc = bestG tf wf (maxI 0 (ids.reverse.map tf)) (ids.take i) := ⟨_, rfl⟩
      have hns : bestG tf wf (maxI 0 (ids.reverse.map tf)) (ids.take (i + 1)) = bestS tf wf acc x := by rw [take_snoc hx, best_snoc, hacc]
      have hal : acc.1.length ≤ 300 := by
        have := (best_sublist tf wf (maxI 0 (ids.reverse.map tf)) (ids.take i)).length_le
        rw [← hacc, List.length_take] at this
        omega
      rw [← hacc] at hA
      rw [hns, ← hacc]
      have dgl : DGet H6 lv (.int x) (some (.int (tf x))) := by
        have := DGet.k (k := (.inl x : Key)) (s6 _ _ hL5)
        rw [val_pin, tab_an (List.mem_reverse.mpr hxm)] at this
        exact this
      have dgw : DGet H6 d (.int x) (some (.int (wf x))) := by
        have := DGet.k (k := (.inl x : Key)) (s6 _ _ hD5)
        rw [val_pin, tab_an hxm] at this
        exact this
      refine ⟨_, rfl, _, rfl, lv, _, rfl, dgl, _, rfl, ?_⟩
      refine ⟨rfl, _, rfl, ite2 (fun c => ?_) (fun c => ?_)⟩
      · have c : tf x = acc.2 := V.int.inj (of_decide_eq_true c)
        have hst : bestS tf wf acc x = (acc.1 ++ [x], acc.2 - wf x) := if_pos c
        rw [hst]
        refine ⟨_, rfl, .inl ⟨rfl, _, SqL.of hA⟩, _, rfl, B, _, _, rfl, rfl, hA, by rw [List.length_map, h16]; omega, ?_⟩
        have hBd : d ≠ B := ne_of (s6 _ _ hD5) hA (fun z => by cases z)
        have dgw2 : DGet (upd H6 B (.lst (acc.1.map V.int ++ [.int x]))) d (.int x) (some (.int (wf x))) := by
          have := DGet.k (k := (.inl x : Key)) (show upd H6 B (.lst (acc.1.map V.int ++ [.int x])) d = some (.dK (pinK (tabP wf ids))) by rw [upd_ne hBd]; exact s6 _ _ hD5)
          rw [val_pin, tab_an hxm] at this
          exact this
        refine ⟨_, rfl, _, rfl, _, rfl, d, _, rfl, dgw2, _, _, rfl, rfl, ?_⟩
        refine ⟨_, rfl, fun q u e => ?_, ?_, hil2⟩
        · rw [upd_ne (ne_of_none e hB)]; exact s6 _ _ e
        · rw [upd_same, List.map_append]; rfl
      · have c : ¬ tf x = acc.2 := fun z => c (decide_eq_true (by rw [z]))
        have hst : bestS tf wf acc x = acc := if_neg c
        rw [hst]
        exact ⟨_, rfl, s6, hA, hil2⟩
    · rintro σ H6 ⟨v8, rfl, s6, hA, _⟩
      rw [List.length_map, List.take_length] at hA
      rw [List.length_map, List.take_length]
      exact ⟨_, rfl, k B H6 (s5.trans s6) (Same.free s1 hBn) (by rw [hA, htf, hwf]; rfl)⟩
end
/-! ### the best straight set: what the greedy walk finds -/
theorem foldl_max : ∀ (l : List Int) (a : Int), a ≤ l.foldl max a ∧ (∀ x ∈ l, x ≤ l.foldl max a) ∧ (l.foldl max a = a ∨ l.foldl max a ∈ l)
  | [], a => ⟨Int.le_refl _, (fun x h => by cases h), .inl rfl⟩
  | b :: l, a => by
    obtain ⟨h1, h2, h3⟩ := foldl_max l (max a b)
    rw [List.foldl_cons]
    refine ⟨by omega, fun x hx => ?_, ?_⟩
    · rcases List.mem_cons.mp hx with e | e
      · omega
      · exact h2 x e
    · rcases h3 with e | e
      · rcases Int.le_total a b with q | q
        · exact .inr (by rw [e, Int.max_eq_right q]; exact List.mem_cons_self)
        · exact .inl (by rw [e, Int.max_eq_left q])
      · exact .inr (List.mem_cons_of_mem _ e)
theorem maxI_ge {d : Int} : ∀ {l : List Int} {x : Int}, x ∈ l → x ≤ maxI d l
  | n :: ns, x, h => by
    obtain ⟨h1, h2, _⟩ := foldl_max ns n
    rcases List.mem_cons.mp h with e | e
    · rw [e]; exact h1
    · exact h2 x e
theorem maxI_in {d : Int} : ∀ {l : List Int}, l ≠ [] → maxI d l ∈ l
  | [], h => absurd rfl h
  | n :: ns, _ => by
    obtain ⟨_, _, h3⟩ := foldl_max ns n
    show ns.foldl max n ∈ n :: ns
    rcases h3 with e | e
    · rw [e]; exact List.mem_cons_self
    · exact List.mem_cons_of_mem _ e
theorem maxI_eq {d m : Int} {l : List Int} (h1 : m ∈ l) (h2 : ∀ x ∈ l, x ≤ m) : maxI d l = m := by
  have a := maxI_ge (d := d) h1
  have b := h2 _ (maxI_in (d := d) (l := l) (fun z => by rw [z] at h1; cases h1))
  omega
theorem maxI_set {d : Int} {l m : List Int} (h : ∀ x, x ∈ l ↔ x ∈ m) : maxI d l = maxI d m := by
  by_cases e : l = []
  · subst e
    have : m = [] := List.eq_nil_iff_forall_not_mem.mpr fun x hx => by have := (h x).mpr hx; cases this
    rw [this]
  · exact (maxI_eq ((h _).mp (maxI_in e)) fun x hx => maxI_ge ((h x).mpr hx)).symm
theorem maxI_pos {l : List Int} (h : ∀ x ∈ l, 0 < x) : 0 ≤ maxI 0 l := by
  by_cases e : l = []
  · rw [e]; exact Int.le_refl _
  · have := h _ (maxI_in (d := 0) e); omega
/-- f x: the weight of x and of what can best follow it in the list -/
def Tall (pl wf f : Int → Int) : List Int → Prop
  | [] => True
  | x :: r => f x = wf x + maxI 0 ((r.filter fun y => decide (pl y < pl x)).map f) ∧ Tall pl wf f r
def grL (f wf : Int → Int) : Int → List Int → List Int
  | _, [] => []
  | m, x :: r => if f x = m then x :: grL f wf (m - wf x) r else grL f wf m r
def mostI (pl f : Int → Int) (c : Int) (l : List Int) : Int := maxI 0 ((l.filter fun y => decide (pl y < c)).map f)
section
variable {pl wf f : Int → Int}
theorem tall_pos : ∀ {l : List Int}, Tall pl wf f l → (∀ x ∈ l, 0 < wf x) → ∀ x ∈ l, wf x ≤ f x
  | [], _, _, x, h => by cases h
  | y :: r, ht, hw, x, h => by
    have ih := tall_pos ht.2 fun z hz => hw z (List.mem_cons_of_mem _ hz)
    rcases List.mem_cons.mp h with e | e
    · subst e
      have := ht.1
      have q : 0 ≤ maxI 0 ((r.filter fun y => decide (pl y < pl x)).map f) := maxI_pos fun z hz => by
        obtain ⟨u, hu, rfl⟩ := List.mem_map.mp hz
        have hu := (List.mem_filter.mp hu).1
        have a := ih u hu
        have b := hw u (List.mem_cons_of_mem _ hu)
        omega
      omega
    · exact ih x e
theorem tall_key {x y : Int} {r : List Int} (h : Tall pl wf f (x :: r)) (hy : y ∈ r) (hp : pl y < pl x) : wf x + f y ≤ f x := by
  have := h.1
  have q : f y ≤ maxI 0 ((r.filter fun y => decide (pl y < pl x)).map f) := maxI_ge (List.mem_map.mpr ⟨y, List.mem_filter.mpr ⟨hy, decide_eq_true hp⟩, rfl⟩)
  omega
theorem most_cons_in {c x : Int} {r : List Int} (h : pl x < c) (hp : ∀ y ∈ x :: r, 0 < f y) : mostI pl f c (x :: r) = max (f x) (mostI pl f c r) := by
  unfold mostI
  rw [List.filter_cons_of_pos (by exact decide_eq_true h), List.map_cons]
  by_cases e : (r.filter fun y => decide (pl y < c)).map f = []
  · rw [e]
    show f x = max (f x) 0
    have := hp x List.mem_cons_self
    omega
  · have a := maxI_in (d := 0) e
    refine maxI_eq ?_ fun z hz => ?_
    · rcases Int.le_total (f x) (maxI 0 ((r.filter fun y => decide (pl y < c)).map f)) with q | q
      · rw [Int.max_eq_right q]; exact List.mem_cons_of_mem _ a
      · rw [Int.max_eq_left q]; exact List.mem_cons_self
    · rcases List.mem_cons.mp hz with q | q
      · omega
      · have := maxI_ge (d := 0) q
        omega
theorem most_cons_out {c x : Int} {r : List Int} (h : ¬ pl x < c) : mostI pl f c (x :: r) = mostI pl f c r := by
  unfold mostI
  rw [List.filter_cons_of_neg (by intro z; exact h (of_decide_eq_true z))]
theorem most_in {c : Int} {l : List Int} (h : mostI pl f c l ≠ 0) : ∃ y ∈ l, pl y < c ∧ f y = mostI pl f c l := by
  unfold mostI at h ⊢
  have e : (l.filter fun y => decide (pl y < c)).map f ≠ [] := fun z => h (by rw [z]; rfl)
  obtain ⟨y, hy, e2⟩ := List.mem_map.mp (maxI_in (d := 0) e)
  obtain ⟨h1, h2⟩ := List.mem_filter.mp hy
  exact ⟨y, h1, of_decide_eq_true h2, e2⟩
def StrD (pl : Int → Int) (s : List Int) : Prop := s.Pairwise fun x y => pl y < pl x
/-- the greedy walk's set: straight, of the greatest weight, and the first of those by the places nx (falling) -/
theorem greedy (nx : Int → Int) : ∀ (l : List Int) (c : Int), Tall pl wf f l → (∀ x ∈ l, 0 < wf x) → l.Pairwise (fun a b => nx b < nx a) →
    (∀ y ∈ grL f wf (mostI pl f c l) l, pl y < c) ∧ StrD pl (grL f wf (mostI pl f c l) l) ∧ ((grL f wf (mostI pl f c l) l).map wf).sum = mostI pl f c l ∧
    ∀ s : List Int, s.Sublist l → StrD pl s → (∀ y ∈ s, pl y < c) → (s.map wf).sum ≤ mostI pl f c l ∧ ((s.map wf).sum = mostI pl f c l → s = grL f wf (mostI pl f c l) l ∨ s.map nx < (grL f wf (mostI pl f c l) l).map nx)
  | [], c, _, _, _ => by
    refine ⟨(fun y hy => by cases hy), List.Pairwise.nil, rfl, fun s hs _ _ => ?_⟩
    rw [List.eq_nil_of_sublist_nil hs]
    exact ⟨Int.le_refl _, fun _ => .inl rfl⟩
  | x :: r, c, ht, hw, hn => by
    have hw' : ∀ z ∈ r, 0 < wf z := fun z hz => hw z (List.mem_cons_of_mem _ hz)
    have hn' := (List.pairwise_cons.mp hn).2
    have hnx := (List.pairwise_cons.mp hn).1
    have hfp : ∀ y ∈ x :: r, 0 < f y := fun y hy => by
      have a := tall_pos ht hw y hy
      have b := hw y hy
      omega
    have hxw := hw x List.mem_cons_self
    have hfx : f x = wf x + mostI pl f (pl x) r := ht.1
    have ihc := greedy nx r c ht.2 hw' hn'
    have ihx := greedy nx r (pl x) ht.2 hw' hn'
    -- s begins with x or not
    have spl : ∀ s : List Int, s.Sublist (x :: r) → s.Sublist r ∨ ∃ s', s = x :: s' ∧ s'.Sublist r := fun s hs => by
      cases hs with
      | cons _ h => exact .inl h
      | cons_cons _ h => exact .inr ⟨_, rfl, h⟩
    -- with x first
    have top : ∀ s' : List Int, s'.Sublist r → StrD pl (x :: s') → ((x :: s').map wf).sum ≤ f x ∧ (((x :: s').map wf).sum = f x → s' = grL f wf (mostI pl f (pl x) r) r ∨ s'.map nx < (grL f wf (mostI pl f (pl x) r) r).map nx) := fun s' h1 h2 => by
      obtain ⟨p1, p2⟩ := List.pairwise_cons.mp h2
      obtain ⟨q1, q2⟩ := ihx.2.2.2 s' h1 p2 p1
      rw [List.map_cons, List.sum_cons]
      exact ⟨by omega, fun e => q2 (by omega)⟩
    by_cases hc : pl x < c
    · rw [most_cons_in hc hfp]
      have hmr : 0 ≤ mostI pl f c r := maxI_pos fun z hz => by
        obtain ⟨u, hu, rfl⟩ := List.mem_map.mp hz
        exact hfp u (List.mem_cons_of_mem _ (List.mem_filter.mp hu).1)
      by_cases hx : f x = max (f x) (mostI pl f c r)
      · rw [← hx]
        have eg : grL f wf (f x) (x :: r) = x :: grL f wf (mostI pl f (pl x) r) r := by
          rw [grL, if_pos rfl]
          congr 2
          omega
        rw [eg]
        obtain ⟨i1, i2, i3, i4⟩ := ihx
        refine ⟨fun y hy => ?_, List.pairwise_cons.mpr ⟨i1, i2⟩, by rw [List.map_cons, List.sum_cons, i3]; omega, fun s hs hst hsc => ?_⟩
        · rcases List.mem_cons.mp hy with e | e
          · rw [e]; exact hc
          · have := i1 y e; omega
        · rcases spl s hs with h | ⟨s', rfl, h⟩
          · have a := (ihc.2.2.2 s h hst hsc).1
            refine ⟨by omega, fun e => .inr ?_⟩
            cases s with
            | nil =>
              have := hfp x List.mem_cons_self
              rw [List.map_nil, List.sum_nil] at e; omega
            | cons y s' =>
              rw [List.map_cons, List.map_cons]
              exact List.cons_lt_cons_iff.mpr (.inl (hnx y (h.subset List.mem_cons_self)))
          · obtain ⟨t1, t2⟩ := top s' h hst
            refine ⟨t1, fun e => ?_⟩
            rcases t2 e with q | q
            · exact .inl (by rw [q])
            · rw [List.map_cons, List.map_cons]
              exact .inr (List.cons_lt_cons_iff.mpr (.inr ⟨rfl, q⟩))
      · have em : max (f x) (mostI pl f c r) = mostI pl f c r := by omega
        have hlt : f x < mostI pl f c r := by omega
        rw [em]
        have eg : grL f wf (mostI pl f c r) (x :: r) = grL f wf (mostI pl f c r) r := by rw [grL, if_neg (by omega)]
        rw [eg]
        obtain ⟨i1, i2, i3, i4⟩ := ihc
        refine ⟨i1, i2, i3, fun s hs hst hsc => ?_⟩
        rcases spl s hs with h | ⟨s', rfl, h⟩
        · exact i4 s h hst hsc
        · obtain ⟨t1, _⟩ := top s' h hst
          exact ⟨by omega, fun e => by omega⟩
    · rw [most_cons_out hc]
      have hne : f x ≠ mostI pl f c r := fun e => by
        have h0 := hfp x List.mem_cons_self
        obtain ⟨y, hy, hyc, ey⟩ := most_in (pl := pl) (f := f) (c := c) (l := r) (by omega)
        have := tall_key ht hy (by omega)
        omega
      have eg : grL f wf (mostI pl f c r) (x :: r) = grL f wf (mostI pl f c r) r := by rw [grL, if_neg hne]
      rw [eg]
      obtain ⟨i1, i2, i3, i4⟩ := ihc
      refine ⟨i1, i2, i3, fun s hs hst hsc => ?_⟩
      rcases spl s hs with h | ⟨s', rfl, h⟩
      · exact i4 s h hst hsc
      · exact absurd (hsc x List.mem_cons_self) hc
end
theorem bestG_gr (f wf : Int → Int) : ∀ (l : List Int) (acc : List Int) (m : Int), (l.foldl (bestS f wf) (acc, m)).1 = acc ++ grL f wf m l
  | [], acc, m => by rw [grL, List.append_nil]; rfl
  | x :: r, acc, m => by
    rw [List.foldl_cons, grL]
    unfold bestS
    by_cases h : f x = m
    · rw [if_pos h, if_pos h]
      show (r.foldl (bestS f wf) (acc ++ [x], m - wf x)).1 = _
      rw [bestG_gr f wf r, List.append_assoc]; rfl
    · rw [if_neg h, if_neg h]
      exact bestG_gr f wf r acc m
theorem bestG_eq (f wf : Int → Int) (m : Int) (l : List Int) : (bestG f wf m l).1 = grL f wf m l := by
  unfold bestG
  rw [bestG_gr, List.nil_append]
/-! ### the levels of the reversed lists -/
theorem topI_at {pl wf : Int → Int} {a b : List Int} {x : Int} (nd : (a ++ x :: b).Nodup) : topI pl wf (a ++ x :: b) x = (levS pl wf (levF pl wf a) x).2 := by
  unfold topI
  have hx : x ∉ a := fun h => (List.nodup_append.mp nd).2.2 x h x List.mem_cons_self rfl
  have e : (a ++ x :: b).idxOf x = a.length := by
    rw [List.idxOf_append, if_neg hx, List.idxOf_cons_self, Nat.zero_add]
  rw [e, List.take_left]
theorem levF_map {pl wf : Int → Int} {l : List Int} (nd : l.Nodup) : ∀ (a b : List Int), l = a ++ b → levF pl wf a = a.map fun y => (pl y, topI pl wf l y) := by
  intro a
  refine foldr_snoc (p := fun a => ∀ b, l = a ++ b → levF pl wf a = a.map fun y => (pl y, topI pl wf l y)) (fun b _ => rfl) (fun a x ih b e => ?_) a
  show levF pl wf (a ++ [x]) = (a ++ [x]).map _
  have e2 : l = a ++ x :: b := by rw [e, List.append_assoc]; rfl
  rw [lev_snoc, ih (x :: b) e2, List.map_append]
  congr 1
  have q : topI pl wf l x = (levS pl wf (levF pl wf a) x).2 := by
    rw [e2]
    exact topI_at (by rw [← e2]; exact nd)
  rw [ih (x :: b) e2] at q
  show [levS pl wf (a.map fun y => (pl y, topI pl wf l y)) x] = [(pl x, topI pl wf l x)]
  rw [q]; rfl
/-- the level of an id by the ones ahead of it -/
theorem topI_step {pl wf : Int → Int} {l a b : List Int} {x : Int} (nd : l.Nodup) (e : l = a ++ x :: b) : topI pl wf l x = wf x + maxI 0 ((a.filter fun y => decide (pl y < pl x)).map (topI pl wf l)) := by
  have q : topI pl wf l x = (levS pl wf (levF pl wf a) x).2 := by
    have nd2 := nd
    rw [e] at nd2 ⊢
    exact topI_at nd2
  rw [q, levF_map nd a _ e]
  show wf x + maxI 0 (((a.map fun y => (pl y, topI pl wf l y)).filter fun e => decide (e.1 < pl x)).map Prod.snd) = _
  rw [List.filter_map, List.map_map]
  rfl
theorem tall_rev {pl wf : Int → Int} {ids : List Int} (nd : ids.Nodup) : Tall pl wf (topI pl wf ids.reverse) ids := by
  have nr : ids.reverse.Nodup := ((List.reverse_perm ids).nodup_iff).mpr nd
  have go : ∀ (l c : List Int), ids = c ++ l → Tall pl wf (topI pl wf ids.reverse) l := by
    intro l
    induction l with
    | nil => intro c _; exact True.intro
    | cons x r ih =>
      intro c e
      refine ⟨?_, ih (c ++ [x]) (by rw [e, List.append_assoc]; rfl)⟩
      have e2 : ids.reverse = r.reverse ++ x :: c.reverse := by
        rw [e]; simp
      rw [topI_step nr e2]
      congr 1
      refine maxI_set fun z => ?_
      simp only [List.mem_map, List.mem_filter, List.mem_reverse]
  exact go ids [] rfl
def sumW (wo : Option (List (Int × Int))) (ids : List Int) : Int := (ids.map (wtI wo)).sum
section
variable {K : PySem.W.Frag} {x qual : Str} {params : Arguments} {body : List Stmt} {scope : Scope} {kws : List (Str × V)} {f : Addr} {fd : FuncData} {ps : List Str}
/-- all keyword-only parameters are written by name, in their sequence -/
theorem FunD.kbindsA (F : FunD K x qual params body scope [] kws f fd) (n : Nat) (ks : List Str)
    (h : ∀ (kV doc pm : Value) (an : Option Addr) (cdv ct : Value) (us ws : List Value), us.length = n → ws.length = ks.length → bindArgs (PySem.W.fnOf x qual params body scope .none kV doc pm an cdv ct) ⟨us, ks.zip ws⟩ = pure (ps.zip (us ++ ws))) :
    KBn K fd ps n ks (fun us ws => us ++ ws) (fun vs zs => vs ++ zs) := by
  obtain ⟨oc, od, dV, kV, doc, pm, an, cdv, ct, osl, rfl, lk, hcd, hD, hK⟩ := F.ex
  rcases hD with ⟨_, rfl⟩ | ⟨e, _⟩
  · exact ⟨fun s us ws X l1 l2 => .of_eq (h kV doc pm an cdv ct us ws l1 l2), fun r1 r2 => r1.append r2⟩
  · exact absurd rfl e
/-- all keyword-only parameters are written by name, in the reverse sequence -/
theorem FunD.kbindsR (F : FunD K x qual params body scope [] kws f fd) (n : Nat) (ks : List Str)
    (h : ∀ (kV doc pm : Value) (an : Option Addr) (cdv ct : Value) (us ws : List Value), us.length = n → ws.length = ks.length → bindArgs (PySem.W.fnOf x qual params body scope .none kV doc pm an cdv ct) ⟨us, ks.zip ws⟩ = pure (ps.zip (us ++ ws.reverse))) :
    KBn K fd ps n ks (fun us ws => us ++ ws.reverse) (fun vs zs => vs ++ zs.reverse) := by
  obtain ⟨oc, od, dV, kV, doc, pm, an, cdv, ct, osl, rfl, lk, hcd, hD, hK⟩ := F.ex
  have rev : ∀ {zs : List V} {ws : List Value}, Vals zs ws → Vals zs.reverse ws.reverse := by
    intro zs
    induction zs with
    | nil => intro ws h; cases h; exact .nil
    | cons v r ih =>
      intro ws h
      cases h with
      | cons a t =>
        rw [List.reverse_cons, List.reverse_cons]
        exact (ih t).append (.cons a .nil)
  rcases hD with ⟨_, rfl⟩ | ⟨e, _⟩
  · exact ⟨fun s us ws X l1 l2 => .of_eq (h kV doc pm an cdv ct us ws l1 l2), fun r1 r2 => r1.append (rev r2)⟩
  · exact absurd rfl e
/-- keyword-only defaults, no others: n positional values, keywords named ks; ms: the keyword-only parameters that lack -/
theorem FunD.kbinds0 (F : FunD K x qual params body scope [] kws f fd) (n : Nat) (ks : List Str) (ms : List (Str × V)) (g : {α : Type} → List α → List α → List α → List α) (hk : kws ≠ []) (hms : ∀ q ∈ ms, q ∈ kws)
    (hrel : ∀ {vs mz zs : List V} {us mv ws : List Value}, Vals vs us → Vals mz mv → Vals zs ws → Vals (g vs mz zs) (g us mv ws))
    (h : ∀ (D : Addr) (doc pm : Value) (an : Option Addr) (cdv ct : Value) (us mv ws : List Value), us.length = n → mv.length = ms.length → ws.length = ks.length →
      KwChain D ((ms.map (·.1)).zip mv) (bindArgs (PySem.W.fnOf x qual params body scope .none (.ref D) doc pm an cdv ct) ⟨us, ks.zip ws⟩) (ps.zip (g us mv ws))) :
    ∃ mv : List Value, Vals (ms.map (·.2)) mv ∧ KBn K fd ps n ks (fun us ws => g us mv ws) (fun vs zs => g vs (ms.map (·.2)) zs) := by
  obtain ⟨oc, od, dV, kV, doc, pm, an, cdv, ct, osl, rfl, lk, hcd, hD, hK⟩ := F.ex
  rcases hD with ⟨_, rfl⟩ | ⟨e, _⟩
  · rcases hK with e | ⟨D, rfl, hq⟩
    · exact absurd e hk
    · obtain ⟨mv, hl, rk, hks⟩ := kwd_vals (ms := ms) fun q hm => hq q (hms q hm)
      refine ⟨mv, rk, ⟨fun s us ws X l1 l2 => ?_, fun r1 r2 => hrel r1 rk r2⟩⟩
      exact BindsTo.of_looks fun M => KwChain.looks X hks (h D doc pm an cdv ct us mv ws l1 hl l2)
  · exact absurd rfl e
end
/-! ### total_weight -/
section
variable {P : Program} {w : World} {K : PySem.W.Frag} {mg : Str → Option Value} {base : Heap}
def spTotal (K : PySem.W.Frag) : Sp := fun vs H Q _ => ∃ (o : Addr) (v : V) (ids : List Int) (wo : Option (List (Int × Int))), vs = [.ref o, v] ∧ SqL K H o (ids.map V.int) ∧ WtAt H v wo ∧ ids.length ≤ 300 ∧
  ∀ H' : Hp, Same H H' → Q (.int (sumW wo ids)) H'
theorem scTotal : FnScope ["ids", "weights", "given", "row_id"] ["ids", "weights"] (defScope sTotal) := ⟨rfl, rfl, rfl, by decide +kernel, rfl, by decide +kernel, by decide +kernel⟩
theorem ok_total {f : Addr} {fd : FuncData} (F : Fun K "total_weight" "total_weight" sTotal f fd) (T : mg "sum" = none) : FnOk P w K mg base CX0 1 f fd ["ids", "weights"] (spTotal K) := by
  refine F.ok scTotal (fun vs H Q E h => ?_) (fun cdv A outer s H vs Q E hr h => ?_)
  · obtain ⟨o, v, ids, wo, rfl, _⟩ := h
    rfl
  · obtain ⟨o, v, ids, wo, rfl, ho, hw, hlen, k⟩ := h
    have hu := hu_of hr
    refine ⟨_, pss_cons (ps_set (i := 2) scTotal.nd rfl (Or.inr rfl) (pe_ifExp (pt_cmpR op_isN (pv 1) pe_non (nomark _)) pe_dnewK (pv 1)))
      (pss_one (ps_ret (pe_callB (cr_sum rfl) (by rfl) T (by decide +kernel) (pa_cons (pe_lc (own := [("row_id", 3)]) (tt := tYes) (g := gName 3) rfl scTotal.nd (pi_list (pv 0)) (blkOk_by (N := ["ids", "weights", "given", "row_id"]) (sc := defScope sTotal) (by decide +kernel))
        (fun _ _ _ _ _ => pg_name (i := 3) scTotal.nd rfl (Or.inl rfl)) (fun _ _ _ _ _ => pts_nil) (fun _ _ _ _ _ => pe_dget2 hu (pv 2) (pv 3) pe_int ⟨rfl, rfl, rfl, rfl⟩)) pa_nil)))), ?_⟩
    have h16 : sizeLine = 16777216 := sizeLine_eq
    have go : ∀ (g : Addr) (ws : List (Int × Int)) (H1 : Hp), Same H H1 → H1 g = some (.dK (pinK ws)) → (∀ x, wtI wo x = (anOf ws x).getD 1) →
        (tRet (tCB (rSum K) (tCons (tLc (iList (cxOf CX0 P w K mg base ["ids", "weights", "given", "row_id"] "total_weight" (defScope sTotal) f cdv A outer s H E).K (tVar 0)) (gName 3) tYes (tDGet2 (tVar 2) (tVar 3) (tC (.int 1))) [3]) tNil))) { nx := fun _ H' => Q .non H', rt := Q } [some (.ref o), some v, some (.ref g), none] H1 := by
      intro g ws H1 s1 hg hwt
      refine ⟨_, rfl, o, rfl, ⟨_, s1.seq ho⟩, fun D hD => ?_⟩
      refine lc_list (K := K) (a := o) (xs := ids.map V.int) (fun i H' => Same H1 H' ∧ i ≤ ids.length ∧ H' D = some (.lst (((ids.take i).map (wtI wo)).map V.int))) ⟨Same.new hD, Nat.zero_le _, by rw [List.take_zero]; exact upd_same⟩ (fun i H' _ q => (s1.trans q.1).seq ho) ?_ ?_
      · rintro i y H2 hi ⟨s2, hil, hP⟩
        obtain ⟨x, hx, rfl⟩ := int_at hi
        have hil2 : i < ids.length := (List.getElem?_eq_some_iff.mp hx).1
        refine ⟨rfl, _, rfl, g, rfl, .inl ⟨_, .inl (s2 _ _ hg)⟩, _, rfl, _, DGet.k (k := (.inl x : Key)) (s2 _ _ hg), ?_⟩
        have ev : (valV (pinK ws) (.inl x : Key)).getD (.int 1) = .int (wtI wo x) := by
          rw [val_pin, hwt]
          cases anOf ws x <;> rfl
        rw [ev]
        refine ⟨_, hP, by rw [List.length_map, List.length_map, List.length_take, h16]; omega, fun b u e => by rw [upd_ne (ne_of_none e hD)]; exact s2 _ _ e, hil2, ?_⟩
        rw [upd_same, take_snoc hx, List.map_append, List.map_append]; rfl
      · rintro H2 ⟨s2, _, hP⟩
        rw [List.length_map, List.take_length] at hP
        exact ⟨D, _, rfl, SqL.of hP, k H2 (s1.trans s2)⟩
    rcases hw with ⟨rfl, rfl⟩ | ⟨d, ws, rfl, rfl, hd⟩
    · refine ⟨_, rfl, rfl, _, rfl, iteT ?_⟩
      intro p hp
      exact go p [] _ (Same.new hp) upd_same fun x => rfl
    · refine ⟨_, rfl, rfl, _, rfl, iteF ⟨_, rfl, ?_⟩⟩
      exact go d ws H (Same.refl H) hd fun x => rfl
end
/-! ### the greedy set is the best by weight, favoured ids, places -/
theorem idx_lt {l : List Int} {x : Int} (h : x ∈ l) : l.idxOf x < l.length := List.idxOf_lt_length_of_mem h
theorem at_idx {l : List Int} {x : Int} (h : x ∈ l) : l[l.idxOf x]? = some x := by
  rw [List.getElem?_eq_getElem (idx_lt h), List.getElem_idxOf]
theorem ixI_rev {bs : List Int} (nb : bs.Nodup) {x : Int} (h : x ∈ bs) : ixI bs.reverse x = (bs.length : Int) - 1 - ixI bs x := by
  have h1 := idx_lt h
  have h2 : bs.reverse[bs.length - 1 - bs.idxOf x]? = some x := by
    rw [List.getElem?_reverse (by omega)]
    have : bs.length - 1 - (bs.length - 1 - bs.idxOf x) = bs.idxOf x := by omega
    rw [this]
    exact at_idx h
  unfold ixI
  rw [idx_of_at (((List.reverse_perm bs).nodup_iff).mpr nb) h2]
  omega
theorem ixI_bound {bs : List Int} {x : Int} (h : x ∈ bs) : 0 ≤ ixI bs x ∧ ixI bs x < (bs.length : Int) := by
  have := idx_lt h
  unfold ixI
  omega
/-- ids in the sequence of both orders -/
def Strt (bs : List Int) (s : List Int) : Prop := s.Pairwise fun x y => ixI bs x < ixI bs y
theorem strD_iff {bs s : List Int} (nb : bs.Nodup) (h : ∀ x ∈ s, x ∈ bs) : StrD (ixI bs.reverse) s ↔ Strt bs s := by
  unfold StrD Strt
  constructor
  · intro q
    refine q.imp_of_mem fun {a b} ha hb z => ?_
    rw [ixI_rev nb (h a ha), ixI_rev nb (h b hb)] at z
    omega
  · intro q
    refine q.imp_of_mem fun {a b} ha hb z => ?_
    rw [ixI_rev nb (h a ha), ixI_rev nb (h b hb)]
    omega
theorem nx_pair {ids : List Int} (nd : ids.Nodup) : ids.Pairwise fun a b => (0 - ixI ids b) < (0 - ixI ids a) := by
  have h : ids.Pairwise fun a b => ixI ids a < ixI ids b := by
    refine List.pairwise_iff_getElem.mpr fun i j hi hj hij => ?_
    unfold ixI
    rw [nd.idxOf_getElem i hi, nd.idxOf_getElem j hj]
    omega
  exact h.imp fun z => by omega
theorem best_main {bs ids : List Int} {wf : Int → Int} (nb : bs.Nodup) (nd : ids.Nodup) (sub : ∀ x ∈ ids, x ∈ bs) (hw : ∀ x ∈ ids, 0 < wf x) :
    (bestF bs ids wf).Sublist ids ∧ Strt bs (bestF bs ids wf) ∧ ∀ s : List Int, s.Sublist ids → Strt bs s → (s.map wf).sum ≤ ((bestF bs ids wf).map wf).sum ∧
      ((s.map wf).sum = ((bestF bs ids wf).map wf).sum → s = bestF bs ids wf ∨ (s.map fun x => 0 - ixI ids x) < (bestF bs ids wf).map fun x => 0 - ixI ids x) := by
  have hsub := best_sublist (tallF bs ids wf) wf (maxI 0 (ids.reverse.map (tallF bs ids wf))) ids
  obtain ⟨c, hc⟩ : ∃ c : Int, c = (bs.length : Int) := ⟨_, rfl⟩
  have hlt : ∀ x ∈ ids, ixI bs.reverse x < c := fun x hx => by
    have := ixI_bound (bs := bs.reverse) (List.mem_reverse.mpr (sub x hx))
    rw [List.length_reverse] at this
    omega
  have em : maxI 0 (ids.reverse.map (tallF bs ids wf)) = mostI (ixI bs.reverse) (tallF bs ids wf) c ids := by
    refine maxI_set fun z => ?_
    simp only [List.mem_map, List.mem_filter, List.mem_reverse]
    constructor
    · rintro ⟨a, h, e⟩
      exact ⟨a, ⟨h, decide_eq_true (hlt a h)⟩, e⟩
    · rintro ⟨a, ⟨h, _⟩, e⟩
      exact ⟨a, h, e⟩
  have eb : bestF bs ids wf = grL (tallF bs ids wf) wf (mostI (ixI bs.reverse) (tallF bs ids wf) c ids) ids := by
    unfold bestF
    rw [bestG_eq, em]
  obtain ⟨g1, g2, g3, g4⟩ := greedy (pl := ixI bs.reverse) (wf := wf) (f := tallF bs ids wf) (fun x => 0 - ixI ids x) ids c (tall_rev nd) hw (nx_pair nd)
  rw [← eb] at g1 g2 g3 g4
  have hin : ∀ x ∈ bestF bs ids wf, x ∈ bs := fun x hx => sub x (hsub.subset hx)
  refine ⟨hsub, (strD_iff nb hin).mp g2, fun s hs hst => ?_⟩
  have hsin : ∀ x ∈ s, x ∈ bs := fun x hx => sub x (hs.subset hx)
  rw [g3]
  exact g4 s hs ((strD_iff nb hsin).mpr hst) fun y hy => hlt y (hs.subset hy)
/-- how many are favoured -/
def cntI (fav s : List Int) : Int := ((s.filter fun x => decide (x ∈ fav)).length : Nat)
theorem cnt_bound (fav s : List Int) : 0 ≤ cntI fav s ∧ cntI fav s ≤ (s.length : Int) := by
  unfold cntI
  have := List.length_filter_le (fun x => decide (x ∈ fav)) s
  omega
theorem worth_sum (wo : Option (List (Int × Int))) (n : Nat) (fav : List Int) : ∀ s : List Int, (s.map (worthI wo n fav)).sum = sumW wo s * ((n : Int) + 1) + cntI fav s
  | [] => by unfold sumW cntI; simp
  | x :: s => by
    have ih := worth_sum wo n fav s
    unfold sumW cntI at ih ⊢
    rw [List.map_cons, List.sum_cons, ih, List.map_cons, List.sum_cons, Int.add_mul]
    unfold worthI
    by_cases h : x ∈ fav
    · rw [if_pos h, List.filter_cons_of_pos (by exact decide_eq_true h), List.length_cons]
      omega
    · rw [if_neg h, List.filter_cons_of_neg (by intro z; exact h (of_decide_eq_true z))]
      omega
/-- the law's comparison: weight, favoured ids, places -/
def kLt (wo : Option (List (Int × Int))) (fav ids a b : List Int) : Prop := sumW wo a < sumW wo b ∨ (sumW wo a = sumW wo b ∧ (cntI fav a < cntI fav b ∨ (cntI fav a = cntI fav b ∧ (a.map fun x => 0 - ixI ids x) < b.map fun x => 0 - ixI ids x)))
instance (wo : Option (List (Int × Int))) (fav ids a b : List Int) : Decidable (kLt wo fav ids a b) := by unfold kLt; exact inferInstance
theorem kLt_asymm {wo : Option (List (Int × Int))} {fav ids a b : List Int} (h : kLt wo fav ids a b) : ¬ kLt wo fav ids b a := by
  unfold kLt at h ⊢
  intro q
  have hl : (a.map fun x => 0 - ixI ids x) < (b.map fun x => 0 - ixI ids x) → (b.map fun x => 0 - ixI ids x) < (a.map fun x => 0 - ixI ids x) → False := fun h1 h2 => List.lt_irrefl _ (List.lt_trans h1 h2)
  rcases h with h | ⟨h1, h | ⟨h2, h⟩⟩ <;> rcases q with q | ⟨q1, q | ⟨q2, q⟩⟩ <;> first | omega | exact hl h q
theorem best_kLt {bs ids fav : List Int} {wo : Option (List (Int × Int))} (nb : bs.Nodup) (nd : ids.Nodup) (sub : ∀ x ∈ ids, x ∈ bs) (hw : ∀ x ∈ ids, 1 ≤ wtI wo x) {s : List Int} (hs : s.Sublist ids) (hst : Strt bs s) :
    s = bestF bs ids (worthI wo ids.length fav) ∨ kLt wo fav ids s (bestF bs ids (worthI wo ids.length fav)) := by
  have hw0 : ∀ x ∈ ids, 0 < worthI wo ids.length fav x := fun x hx => by
    have h1 := hw x hx
    unfold worthI
    have : 0 < wtI wo x * ((ids.length : Int) + 1) := Int.mul_pos (by omega) (by omega)
    split <;> omega
  obtain ⟨b1, b2, b3⟩ := best_main nb nd sub hw0
  obtain ⟨q1, q2⟩ := b3 s hs hst
  rw [worth_sum, worth_sum] at q1 q2
  obtain ⟨g, hg⟩ : ∃ g, g = bestF bs ids (worthI wo ids.length fav) := ⟨_, rfl⟩
  rw [← hg] at q1 q2 b1 ⊢
  have c1 := cnt_bound fav s
  have c2 := cnt_bound fav g
  have l1 := hs.length_le
  have l2 := b1.length_le
  rcases Int.lt_trichotomy (sumW wo s) (sumW wo g) with h | h | h
  · exact .inr (.inl h)
  · rw [h] at q1 q2
    rcases Int.lt_trichotomy (cntI fav s) (cntI fav g) with z | z | z
    · exact .inr (.inr ⟨h, .inl z⟩)
    · rcases q2 (by omega) with e | e
      · exact .inl e
      · exact .inr (.inr ⟨h, .inr ⟨z, e⟩⟩)
    · omega
  · have m : (sumW wo g + 1) * ((ids.length : Int) + 1) ≤ sumW wo s * ((ids.length : Int) + 1) := Int.mul_le_mul_of_nonneg_right (by omega) (by omega)
    rw [Int.add_mul, Int.one_mul] at m
    omega
/-! ### a search through all sets -/
def setsL (l : List Int) : List (List Int) := l.foldl (fun acc x => acc ++ acc.map (· ++ [x])) [[]]
theorem sets_snoc (l : List Int) (x : Int) : setsL (l ++ [x]) = setsL l ++ (setsL l).map (· ++ [x]) := by
  unfold setsL
  rw [List.foldl_append]; rfl
theorem sets_len (l : List Int) : (setsL l).length = 2 ^ l.length := by
  refine foldr_snoc (p := fun l => (setsL l).length = 2 ^ l.length) rfl (fun l x ih => ?_) l
  show (setsL (l ++ [x])).length = 2 ^ (l ++ [x]).length
  rw [sets_snoc, List.length_append, List.length_map, ih, List.length_append]
  show 2 ^ l.length + 2 ^ l.length = 2 ^ (l.length + 1)
  rw [Nat.pow_succ]
  omega
theorem sets_mem (l : List Int) : ∀ s, s ∈ setsL l ↔ s.Sublist l := by
  refine foldr_snoc (p := fun l => ∀ s, s ∈ setsL l ↔ s.Sublist l) (fun s => ?_) (fun l x ih s => ?_) l
  · show s ∈ [[]] ↔ s.Sublist []
    rw [List.mem_singleton, List.sublist_nil]
  · show s ∈ setsL (l ++ [x]) ↔ s.Sublist (l ++ [x])
    rw [sets_snoc, List.mem_append, List.mem_map, ih s]
    constructor
    · rintro (h | ⟨t, h, rfl⟩)
      · exact h.trans (List.sublist_append_left _ _)
      · exact ((ih t).mp h).append (List.Sublist.refl _)
    · intro h
      obtain ⟨a, b, rfl, ha, hb⟩ := List.sublist_append_iff.mp h
      cases hb with
      | cons _ hb =>
        rw [List.sublist_nil.mp hb, List.append_nil]
        exact .inl ha
      | cons_cons _ hb =>
        rw [List.sublist_nil.mp hb]
        exact .inr ⟨a, (ih a).mpr ha, rfl⟩
def stepB (wo : Option (List (Int × Int))) (fav bs ids : List Int) (acc : Option (List Int)) (s : List Int) : Option (List Int) :=
  if (s.map (ixI bs)) = (s.map (ixI bs)).mergeSort (fun a b => decide (a ≤ b)) then match acc with
    | none => some s
    | some b => if kLt wo fav ids b s then some s else some b
  else acc
theorem sorted_iff {bs s : List Int} (hs : s.Nodup) (h : ∀ x ∈ s, x ∈ bs) : (s.map (ixI bs)) = (s.map (ixI bs)).mergeSort (fun a b => decide (a ≤ b)) ↔ Strt bs s := by
  have inj : ∀ x ∈ s, ∀ y ∈ s, ixI bs x = ixI bs y → x = y := fun x hx y hy e => by
    have a := at_idx (h x hx)
    have b := at_idx (h y hy)
    unfold ixI at e
    rw [Int.ofNat.inj e, b] at a
    exact (Option.some.inj a).symm
  have le := List.pairwise_mergeSort (le := fun a b : Int => decide (a ≤ b)) (fun a b c x y => decide_eq_true (Int.le_trans (of_decide_eq_true x) (of_decide_eq_true y))) (fun a b => by
      rcases Int.le_total a b with q | q
      · rw [decide_eq_true q]; rfl
      · rw [decide_eq_true q, Bool.or_true]) (s.map (ixI bs))
  constructor
  · intro e
    rw [← e] at le
    have le2 := List.pairwise_map.mp le
    have both := hs.and le2
    refine both.imp_of_mem fun {a b} ha hb z => ?_
    have z2 : ixI bs a ≤ ixI bs b := of_decide_eq_true z.2
    have : ixI bs a ≠ ixI bs b := fun e => z.1 (inj a ha b hb e)
    omega
  · intro st
    refine (List.mergeSort_of_pairwise (List.pairwise_map.mpr (st.imp fun z => decide_eq_true (by omega)))).symm
theorem search {wo : Option (List (Int × Int))} {fav bs ids g : List Int} (hg : (g.map (ixI bs)) = (g.map (ixI bs)).mergeSort (fun a b => decide (a ≤ b))) : ∀ (R : List (List Int)) (acc : Option (List Int)),
    (∀ s ∈ R, (s.map (ixI bs)) = (s.map (ixI bs)).mergeSort (fun a b => decide (a ≤ b)) → s = g ∨ kLt wo fav ids s g) → (g ∈ R ∨ acc = some g) → (∀ b, acc = some b → b = g ∨ kLt wo fav ids b g) → R.foldl (stepB wo fav bs ids) acc = some g
  | [], acc, _, h, _ => by
    rcases h with h | h
    · cases h
    · exact h
  | s :: R, acc, hR, h, hacc => by
    rw [List.foldl_cons]
    have hR' := fun t ht => hR t (List.mem_cons_of_mem _ ht)
    have irr : ¬ kLt wo fav ids g g := fun z => kLt_asymm z z
    -- the step keeps what is asked
    have key : (s = g → stepB wo fav bs ids acc s = some g) ∧ (acc = some g → stepB wo fav bs ids acc s = some g) ∧ (∀ b, stepB wo fav bs ids acc s = some b → b = g ∨ kLt wo fav ids b g) := by
      unfold stepB
      refine ⟨fun e => ?_, fun e => ?_, fun b => ?_⟩
      · subst e
        rw [if_pos hg]
        cases acc with
        | none => rfl
        | some b =>
          show (if kLt wo fav ids b s then some s else some b) = some s
          rcases hacc b rfl with q | q
          · rw [q]; split <;> rfl
          · rw [if_pos q]
      · subst e
        split
        · rename_i hs
          show (if kLt wo fav ids g s then some s else some g) = some g
          rcases hR s List.mem_cons_self hs with q | q
          · rw [q, if_neg irr]
          · rw [if_neg (kLt_asymm q)]
        · rfl
      · split
        · rename_i hs
          have qs := hR s List.mem_cons_self hs
          cases acc with
          | none =>
            intro e
            rw [← Option.some.inj e]; exact qs
          | some c =>
            show (if kLt wo fav ids c s then some s else some c) = some b → _
            intro e
            split at e
            · rw [← Option.some.inj e]; exact qs
            · rw [← Option.some.inj e]; exact hacc c rfl
        · exact hacc b
    obtain ⟨k1, k2, k3⟩ := key
    refine search hg R _ hR' ?_ k3
    rcases h with h | h
    · rcases List.mem_cons.mp h with e | e
      · exact .inr (k1 e.symm)
      · exact .inl e
    · exact .inr (k2 h)
/-- what the search finds is what the greedy walk finds -/
theorem search_best {bs ids fav : List Int} {wo : Option (List (Int × Int))} (nb : bs.Nodup) (nd : ids.Nodup) (sub : ∀ x ∈ ids, x ∈ bs) (hw : ∀ x ∈ ids, 1 ≤ wtI wo x) :
    (setsL ids).foldl (stepB wo fav bs ids) none = some (bestF bs ids (worthI wo ids.length fav)) := by
  have hw0 : ∀ x ∈ ids, 0 < worthI wo ids.length fav x := fun x hx => by
    have h1 := hw x hx
    unfold worthI
    have : 0 < wtI wo x * ((ids.length : Int) + 1) := Int.mul_pos (by omega) (by omega)
    split <;> omega
  obtain ⟨b1, b2, _⟩ := best_main nb nd sub hw0
  have sb : ∀ {s : List Int}, s.Sublist ids → s.Nodup ∧ ∀ x ∈ s, x ∈ bs := fun h => ⟨nd.sublist h, fun x hx => sub x (h.subset hx)⟩
  refine search ((sorted_iff (sb b1).1 (sb b1).2).mpr b2) _ _ (fun s hs e => ?_) (.inl ((sets_mem ids _).mpr b1)) (fun b z => by cases z)
  have h1 := (sets_mem ids s).mp hs
  exact best_kLt nb nd sub hw h1 ((sorted_iff (sb h1).1 (sb h1).2).mp e)
section
variable {P : Program} {w : World} {K : PySem.W.Frag} {mg : Str → Option Value} {base : Heap}
/-! ### is_whole -/
def spWhole (K : PySem.W.Frag) : Sp := fun vs H Q _ => ∃ x : V, vs = [x] ∧ TyD K H x ∧ Q (.bl (wholeV x)) H
theorem scWhole : FnScope ["value"] ["value"] (defScope sWhole) := ⟨rfl, rfl, rfl, by decide +kernel, rfl, by decide +kernel, by decide +kernel⟩
theorem ok_whole {f : Addr} {fd : FuncData} (F : Fun K "is_whole" "is_whole" sWhole f fd) (T : TxtV mg) : FnOk P w K mg base CX0 1 f fd ["value"] (spWhole K) := by
  refine F.ok scWhole (fun vs H Q E h => ?_) (fun cdv A outer s H vs Q E hr h => ?_)
  · obtain ⟨x, rfl, _⟩ := h
    rfl
  · obtain ⟨x, rfl, ⟨nm, ty, hn⟩, k⟩ := h
    refine ⟨_, pss_one (ps_ret (pe_and (pe_callB call_isi (by rfl) T.isi (by decide +kernel) (pa_cons (pv 0) (pa_cons (pe_bltn (v := .ty "int") (by rfl) T.int boot_int rfl) pa_nil)))
      (pe_one (pe_not (pe_callB call_isi (by rfl) T.isi (by decide +kernel) (pa_cons (pv 0) (pa_cons (pe_bltn (v := .ty "bool") (by rfl) T.bool boot_bool rfl) pa_nil))))))), ?_⟩
    refine ⟨_, rfl, ?_⟩
    rcases hn with ⟨rfl, rfl⟩ | ⟨rfl, b, rfl⟩ | ⟨rfl, i, rfl⟩ | ⟨rfl, z, rfl⟩ | ⟨rfl, a, rfl⟩ | ⟨rfl, a, rfl⟩ | ⟨rfl, a, rfl⟩
    · exact ⟨_, _, _, _, false, rfl, .ty _, ty, kit_ty (by decide +kernel), _, rfl, iteF k⟩
    · exact ⟨_, _, _, _, true, rfl, .ty _, ty, kit_ty (by decide +kernel), _, rfl, iteT ⟨_, rfl, _, _, _, _, true, rfl, .ty _, ty, kit_ty (by decide +kernel), _, rfl, k⟩⟩
    · exact ⟨_, _, _, _, true, rfl, .ty _, ty, kit_ty (by decide +kernel), _, rfl, iteT ⟨_, rfl, _, _, _, _, false, rfl, .ty _, ty, kit_ty (by decide +kernel), _, rfl, k⟩⟩
    · exact ⟨_, _, _, _, false, rfl, .ty _, ty, kit_ty (by decide +kernel), _, rfl, iteF k⟩
    · exact ⟨_, _, _, _, false, rfl, .ty _, ty, kit_ty (by decide +kernel), _, rfl, iteF k⟩
    · exact ⟨_, _, _, _, false, rfl, .ty _, ty, kit_ty (by decide +kernel), _, rfl, iteF k⟩
    · exact ⟨_, _, _, _, false, rfl, .ty _, ty, kit_ty (by decide +kernel), _, rfl, iteF k⟩
end
/-! ### the heap without one address -/
def er (H : Hp) (p : Addr) : Hp := fun b => if b = p then none else H b
theorem er_at {H : Hp} {p b : Addr} {o : HO} (h : H b = some o) (n : b ≠ p) : er H p b = some o := by
  unfold er
  rw [if_neg n]; exact h
theorem er_le {H : Hp} {p : Addr} : Same (er H p) H := fun b o e => by
  unfold er at e
  by_cases n : b = p
  · rw [if_pos n] at e; cases e
  · rw [if_neg n] at e; exact e
theorem er_same {H H' : Hp} {p : Addr} (s : Same H H') : Same (er H p) (er H' p) := fun b o e => by
  unfold er at e ⊢
  by_cases n : b = p
  · rw [if_pos n] at e; cases e
  · rw [if_neg n] at e ⊢; exact s b o e
theorem er_upd {H : Hp} {p : Addr} {o : HO} : er (upd H p o) p = er H p := by
  funext b
  unfold er
  by_cases n : b = p
  · rw [if_pos n, if_pos n]
  · rw [if_neg n, if_neg n, upd_ne n]
theorem er_upd_ne {H : Hp} {p q : Addr} {o : HO} (n : q ≠ p) : er (upd H q o) p = upd (er H p) q o := by
  funext b
  unfold er
  by_cases h : b = q
  · subst h
    rw [if_neg n, upd_same, upd_same]
  · rw [upd_ne h, upd_ne h]
theorem er_of {Hz H : Hp} {p : Addr} (s : Same Hz H) (hz : Hz p = none) : Same Hz (er H p) := fun b o e => er_at (s b o e) (ne_of_none e hz)
/-! ### pairs of values with the same data, dicts among them -/
structure RokP (d : PyData) : Prop where
  o : okW d = true
  dep : d.depth ≤ 40
  sz : szW d ≤ 1000000
/-- repr of any value with data -/
def rReprP (K : PySem.W.Frag) : List V → Hp → VK → Prop := fun xs H Q => ∃ (v : V) (d : PyData), xs = [v] ∧ DW K H v d ∧ RokP d ∧ Q (.str d.shown) H
theorem call_reprP {X : Cx} (hg : X.A.guards = some []) (hu : X.A.units + 64 < cLine) : CallR X (.builtin "repr") (rReprP X.K) := by
  intro pins s σ H xs us Q I r h
  obtain ⟨v, d, rfl, hd, ok, q⟩ := h
  have hok := ok.o
  have hl : d.shown.length ≤ sizeLine := by
    have := shown_leW d hok
    have := ok.sz
    rw [sizeLine_eq]
    omega
  have byRef : ∀ a : Addr, v = .ref a → wpAny (model X.prog X.w) X.A (call (.builtin "repr") us) (fun u s' => ∃ x H', L2.Inv X pins σ H' s' ∧ RelV x u ∧ Q x H') X.xe s := by
    rintro a rfl
    exact call_reprW hg hu pins s σ H [.ref a] us Q I r ⟨a, d, rfl, hd, ok.o, ok.dep, ok.sz, q⟩
  obtain ⟨u, rfl, ru⟩ : ∃ u, us = [u] ∧ RelV v u := by
    cases r with
    | cons r1 r2 => cases r2; exact ⟨_, rfl, r1⟩
  cases hd with
  | non =>
    have r' : u = Value.none := ru
    subst r'
    rw [PyData.shown] at q
    exact PySem.P.repr_of_none ⟨.str _, H, I.tok _, ⟨_, rfl⟩, q⟩
  | bl b =>
    have r' : u = Value.bool b := ru
    subst r'
    rw [PyData.shown] at q
    exact PySem.P.repr_of_bool ⟨.str _, H, I.tok _, ⟨_, rfl⟩, q⟩
  | int i =>
    obtain ⟨t, rfl⟩ := ru
    rw [okW] at hok
    have := log_of (of_decide_eq_true hok)
    rw [PyData.shown] at q
    exact PySem.P.repr_of_int (by omega) ⟨.str _, H, I.tok _, ⟨_, rfl⟩, q⟩
  | str x =>
    obtain ⟨t, rfl⟩ := ru
    rw [PyData.shown] at q hl
    exact PySem.P.repr_of_str ⟨.str _, H, I.tok _, ⟨_, rfl⟩, q⟩ hl
  | lst h t => exact byRef _ rfl
  | tup h t => exact byRef _ rfl
  | dic h t1 t2 => exact byRef _ rfl
theorem call_reprPK {X : Cx} {K : PySem.W.Frag} (h : X.K = K) (hg : X.A.guards = some []) (hu : X.A.units + 64 < cLine) : CallR X (.builtin "repr") (rReprP K) := by
  subst h
  exact call_reprP hg hu
mutual
theorem DW.same {K : PySem.W.Frag} {H H' : Hp} (s : Same H H') : ∀ {v : V} {d : PyData}, DW K H v d → DW K H' v d
  | _, _, .non => .non
  | _, _, .bl b => .bl b
  | _, _, .int i => .int i
  | _, _, .str x => .str x
  | _, _, .lst h t => .lst (Same.sq s h) (DWs.same s t)
  | _, _, .tup h t => .tup (Same.tq s h) (DWs.same s t)
  | _, _, .dic h t u => .dic (s _ _ h) (DWs.same s t) (DWs.same s u)
theorem DWs.same {K : PySem.W.Frag} {H H' : Hp} (s : Same H H') : ∀ {vs : List V} {ds : List PyData}, DWs K H vs ds → DWs K H' vs ds
  | _, _, .nil => .nil
  | _, _, .cons h t => .cons (DW.same s h) (DWs.same s t)
end
theorem er_none {H : Hp} {p : Addr} (h : H p = none) : er H p = H := by
  funext b
  unfold er
  by_cases n : b = p
  · rw [if_pos n, n, h]
  · rw [if_neg n]
/-- a pair of two values with the same data -/
def PairAtW (K : PySem.W.Frag) (H : Hp) (x : V) : Prop := ∃ (T : Addr) (v1 v2 : V) (d : PyData), x = .ref T ∧ SqT K H T [v1, v2] ∧ DW K H v1 d ∧ DW K H v2 d ∧ RokP d
theorem PairAtW.same {K : PySem.W.Frag} {H H' : Hp} {x : V} (h : PairAtW K H x) (s : Same H H') : PairAtW K H' x := by
  obtain ⟨T, v1, v2, d, e, h1, h2, h3, h4⟩ := h
  exact ⟨T, v1, v2, d, e, Same.tq s h1, h2.same s, h3.same s, h4⟩
def PairsW (K : PySem.W.Frag) (H : Hp) (p : Addr) (n : Nat) : Prop := ∃ xs : List V, H p = some (.lst xs) ∧ xs.length = n ∧ ∀ x ∈ xs, PairAtW K (er H p) x
section
variable {K : PySem.W.Frag} {H H' Hz : Hp} {p : Addr} {n : Nat}
theorem PairsW.same (R : PairsW K H p n) (s : Same H H') : PairsW K H' p n := by
  obtain ⟨xs, h1, h2, h3⟩ := R
  exact ⟨xs, s _ _ h1, h2, fun x hx => (h3 x hx).same (er_same s)⟩
theorem PairsW.ne (R : PairsW K H p n) {q : Addr} (h : H q = none) : q ≠ p := by
  obtain ⟨xs, h1, _⟩ := R
  exact (ne_of_none h1 h).symm
theorem PairsW.ne2 (R : PairsW K H p n) {q : Addr} {o : HO} (h : H q = some o) (ho : ∀ xs, o ≠ .lst xs) : q ≠ p := by
  obtain ⟨xs, h1, _⟩ := R
  exact ne_of h h1 (ho xs)
theorem PairsW.start {T : Addr} {v1 v2 : V} {d : PyData} (hT : H T = some (.tup [v1, v2])) (hp : H p = none) (h1 : DW K H v1 d) (h2 : DW K H v2 d) (ok : RokP d) : PairsW K (upd H p (.lst [.ref T])) p 1 :=
  ⟨_, upd_same, rfl, fun x hx => by
    rw [List.mem_singleton.mp hx, er_upd, er_none hp]
    exact ⟨T, v1, v2, d, rfl, SqT.of hT, h1, h2, ok⟩⟩
theorem PairsW.nil (hp : H p = none) : PairsW K (upd H p (.lst [])) p 0 := ⟨_, upd_same, rfl, fun x hx => by cases hx⟩
/-- one pair more, whose tuple has just been made at T -/
theorem PairsW.push {T : Addr} {v1 v2 : V} {d : PyData} (zpr : Hz p = none) (sz : Same Hz H) (R : PairsW K H p n) (hT : H T = none) (h1 : DW K (er H p) v1 d) (h2 : DW K (er H p) v2 d) (ok : RokP d) (hn : n < 1000) :
    ∃ (xs : List V) (H3 : Hp), H3 = upd (upd H T (.tup [v1, v2])) p (.lst (xs ++ [.ref T])) ∧ (upd H T (.tup [v1, v2])) p = some (.lst xs) ∧ xs.length < sizeLine ∧ Same Hz H3 ∧ PairsW K H3 p (n + 1) := by
  have s1 := Same.new (o := .tup [v1, v2]) hT
  have hne := R.ne hT
  obtain ⟨xs, q1, q2, q3⟩ := R.same s1
  refine ⟨xs, _, rfl, q1, by rw [q2, sizeLine_eq]; omega, fun b u e => ?_, xs ++ [.ref T], upd_same, by rw [List.length_append, q2]; rfl, fun x hx => ?_⟩
  · rw [upd_ne (ne_of_none e zpr)]
    exact s1 _ _ (sz _ _ e)
  · rw [er_upd]
    rcases List.mem_append.mp hx with hx | hx
    · exact q3 x hx
    · rw [List.mem_singleton.mp hx]
      exact ⟨T, v1, v2, d, rfl, SqT.of (er_at upd_same hne), h1.same (er_same s1), h2.same (er_same s1), ok⟩
end
theorem ix_tupKx {X : Cx} {K : PySem.W.Frag} (h : X.K = K) : IxR X (rIxT K) := by
  subst h
  exact ix_tup
/-! ### xs[lo:hi:step] -/
def placesL (lo hi st : Option Int) (n : Nat) : List Nat := sliceRange (sliceBounds lo hi st n).1 (sliceBounds lo hi st n).2.1 (sliceBounds lo hi st n).2.2
def pickL {α : Type} (xs : List α) (ps : List Nat) : List α := ps.filterMap (xs[·]?)
theorem vals_pick {vs : List V} {us : List Value} (r : Vals vs us) : ∀ ps : List Nat, Vals (pickL vs ps) (pickL us ps)
  | [] => .nil
  | i :: ps => by
    have ih := vals_pick r ps
    unfold pickL at ih ⊢
    rw [List.filterMap_cons, List.filterMap_cons]
    cases h : vs[i]? with
    | none =>
      have : us[i]? = none := by
        rw [List.getElem?_eq_none_iff] at h ⊢
        rw [← r.length]; exact h
      rw [this]; exact ih
    | some v =>
      obtain ⟨u, hu, hr⟩ : ∃ u, us[i]? = some u ∧ RelV v u := by
        clear ih
        induction r generalizing i with
        | nil => cases h
        | cons r1 r2 ih2 =>
          cases i with
          | zero => cases h; exact ⟨_, rfl, r1⟩
          | succ i => exact ih2 i h
      rw [hu]; exact .cons hr ih
theorem pickL_map {α β : Type} (f : α → β) (xs : List α) (ps : List Nat) : pickL (xs.map f) ps = (pickL xs ps).map f := by
  unfold pickL
  induction ps with
  | nil => rfl
  | cons i r ih =>
    rw [List.filterMap_cons, List.filterMap_cons, List.getElem?_map]
    cases xs[i]? with
    | none => exact ih
    | some x => show f x :: _ = f x :: _; rw [ih]
def tSl3 (K : PySem.W.Frag) (te : TE) (tl th ts : TO) : TE := fun σ H Q => te σ H fun x H1 => tl σ H1 fun l H2 => th σ H2 fun u H3 => ts σ H3 fun st H4 => ∃ a xs, x = .ref a ∧ SqL K H4 a xs ∧ st ≠ some 0 ∧ ∀ p, H4 p = none → Q (.ref p) (upd H4 p (.lst (pickL xs (placesL l u st xs.length))))
section
variable {X : Cx} {e : Expr} {te : TE} {lo hi : Option Expr} {st : Expr} {tl th ts : TO} {pos p2 : Pos}
theorem pe_slice3 (he : PE X e te) (hl : PO X lo tl) (hu : PO X hi th) (hs : PO X (some st) ts) : PE X (.Subscript e (.Slice lo hi (some st) p2) pos) (tSl3 X.K te tl th ts) := by
  refine ⟨fun pins s σ H Q I h => ?_⟩
  refine Subscript_ (thn (he.run pins s σ H _ I h) fun v s1 ⟨x, H1, I1, r1, q1⟩ => ?_)
  refine wpAny_Slice (thn (hl.run pins s1 σ H1 _ I1 q1) fun vl s2 ⟨l, H2, I2, pl, q2⟩ => thn (hu.run pins s2 σ H2 _ I2 q2) fun vu s3 ⟨u, H3, I3, pu, q3⟩ => ?_)
  refine thn (hs.run pins s3 σ H3 _ I3 q3) fun vs s4 ⟨o, H4, I4, ps, a, xs, ex, hx, h0, q⟩ => ?_
  subst ex
  cases r1
  have I5 : Inv X pins σ H4 { s4 with heap := s4.heap.push { cls := .type "slice", data := .fields #[vl, vu, vs] } } := I4.kept (t' := s4.toks) fun b ob q => Heap.get?_push_of_some _ q
  obtain ⟨its, r, ht, hz⟩ := I5.list hx
  have hlen := r.length
  show wpAny (model X.prog X.w) X.A (subscriptTail e (.Slice lo hi (some st) p2) (.ref a) (.ref s4.heap.objs.size)) (EP X pins σ Q) X.xe { s4 with heap := s4.heap.push { cls := .type "slice", data := .fields #[vl, vu, vs] } }
  refine tail_any (ops := [.ref a, .ref s4.heap.objs.size]) ht.isList.typeIs (PySem.slot_list_getitem.lookup) ?_ (by with_unfolding_all rfl)
  have hsz : (slicePick its.toArray l u o) = (pickL its (placesL l u o its.length)).toArray := by
    unfold slicePick pickL placesL
    rw [List.size_toArray]
    simp
  have hle := slicePick_size_le its.toArray l u o
  refine wpAny_getItem_list_slice ht.isList (Heap.IsSliceOf.new _ vl vu vs) pl pu ps h0 ?_ (by rw [List.size_toArray]; omega)
  have hlp : (pickL xs (placesL l u o xs.length)).length ≤ sizeLine := by
    rw [(vals_pick r _).length, hlen]
    rw [hsz, List.size_toArray, List.size_toArray] at hle
    omega
  rw [hsz, ← hlen]
  refine ⟨.ref _, _, I5.laid (t' := s4.toks) (o := .lst (pickL xs (placesL l u o xs.length))) (fun b ob q => Heap.get?_push_of_some _ q) (Nat.le_refl _) ?_, rfl, q _ (I5.hok.fresh (Nat.le_refl _))⟩
  exact ⟨hlp, _, 0, vals_pick r _, Heap.get?_push_size _ rfl⟩
end
/-! ### every second one -/
theorem twos : ∀ n < 64, (placesL (some 1) none (some 2) n ++ placesL none none (some 2) n).isPerm (List.range n) = true := by decide +kernel
theorem pick_perm {α : Type} {xs : List α} {ps qs : List Nat} (h : ps.Perm qs) : (pickL xs ps).Perm (pickL xs qs) := h.filterMap _
theorem pick_all {α : Type} (xs : List α) : pickL xs (List.range xs.length) = xs := by
  unfold pickL
  induction xs with
  | nil => rfl
  | cons x r ih =>
    rw [List.length_cons, List.range_succ_eq_map, List.filterMap_cons]
    show x :: _ = _
    rw [List.filterMap_map]
    congr 1
theorem pick_two {α : Type} {xs : List α} (h : xs.length < 64) : (pickL xs (placesL (some 1) none (some 2) xs.length) ++ pickL xs (placesL none none (some 2) xs.length)).Perm xs := by
  have e : pickL xs (placesL (some 1) none (some 2) xs.length) ++ pickL xs (placesL none none (some 2) xs.length) = pickL xs (placesL (some 1) none (some 2) xs.length ++ placesL none none (some 2) xs.length) := by
    unfold pickL; rw [List.filterMap_append]
  rw [e]
  have := pick_perm (xs := xs) (List.isPerm_iff.mp (twos xs.length h))
  rw [pick_all] at this
  exact this
/-! ### another order of the same ids -/
theorem ins_perm {α : Type} (l : List α) (k : Nat) (y : α) : (l.take k ++ [y] ++ l.drop k).Perm (y :: l) := by
  rw [List.append_assoc]
  have := List.perm_middle (a := y) (l₁ := l.take k) (l₂ := l.drop k)
  rw [List.take_append_drop] at this
  exact this
theorem but_free {d p : Addr} {H H' : Hp} (B : But d H H') (D : DeckAt H' d) (h : H' p = none) : H p = none := by
  cases e : H p with
  | none => rfl
  | some o =>
    by_cases q : p = d
    · obtain ⟨x, y, hd, _⟩ := D
      rw [← q, h] at hd; cases hd
    · rw [B p o q e] at h; cases h
structure TxtG (mg : Str → Option Value) : Prop where
  len : mg "len" = none
  list : mg "list" = none
  range : mg "range" = none
section
variable {P : Program} {w : World} {K : PySem.W.Frag} {mg : Str → Option Value} {base : Heap}
def spGoal (K : PySem.W.Frag) : Sp := fun vs H Q _ => ∃ (d t : Addr) (js : List Int), vs = [.ref d, .ref t] ∧ DeckAt H d ∧ SqL K H t (js.map V.int) ∧ js.length < 64 ∧
  ∀ (p : Addr) (ks : List Int) (H' : Hp), H p = none → But d H H' → DeckAt H' d → H' p = some (.lst (ks.map V.int)) → ks.Perm js → Q (.ref p) H'
abbrev NG : List Str := ["tape", "base", "way", "found", "turn", "row_id"]
theorem scGoal : FnScope NG ["tape", "base"] (defScope sGoal) := ⟨rfl, rfl, rfl, by decide +kernel, rfl, by decide +kernel, by decide +kernel⟩
theorem ok_goal {f fD fS : Addr} {fd fdD fdS : FuncData} (F : Fun K "_law_goal" "_law_goal" sGoal f fd) (T : TxtG mg) (FD : Fun K "_law_pick" "_law_pick" sDraw fD fdD) (bD : L2.Binds K fdD ["tape", "size"] []) (mD : mg "_law_pick" = some (.ref fD))
    (GS : FnOk P w K mg base CX0 2 fS fdS ["tape", "ids"] (spShuf K)) (kS : PySem.W.keepIn K (.ref fS) = true) (bS : L2.Binds K fdS ["tape", "ids"] []) (mS : mg "_law_shuffled" = some (.ref fS)) :
    FnOk P w K mg base CX0 3 f fd ["tape", "base"] (spGoal K) := by
  have GD : FnOk P w K mg base CX0 1 fD fdD ["tape", "size"] spDraw := ok_draw FD
  refine F.ok scGoal (fun vs H Q E h => ?_) (fun cdv A outer s H vs Q E hr h => ?_)
  · obtain ⟨d, t, js, rfl, _⟩ := h
    rfl
  · obtain ⟨d, t, js, rfl, D, hT, hj, k⟩ := h
    have h64 := hu64 hr
    have hr1 : Room 1 _ := hr.mono (by decide)
    have hS := hr
    refine ⟨_, pss_cons (ps_set (i := 2) scGoal.nd rfl (Or.inl rfl) (pe_call GD hr1 rfl mD FD.kp bD .nil pass0 (pa_cons (pv 0) (pa_cons pe_int pa_nil))))
      (pss_cons (ps_if (PW.pt (pw_or (pt_cmpR op_eq (pv 2) pe_int (nomark _)) (pw_or1 (pt_cmpR (op_eqL h64) (pv 1) (pe_lst pa_nil) (nomark _))))) (pss_one (ps_ret (pe_call GS hr rfl mS kS bS .nil pass0 (pa_cons (pv 0) (pa_cons (pv 1) pa_nil))))) pss_nil)
      (pss_cons (ps_if (pt_cmpR op_eq (pv 2) pe_int (nomark _)) (pss_one (ps_ret (pe_revL (pv 1)))) pss_nil)
      (pss_cons (ps_if (pt_cmpR op_eq (pv 2) pe_int (nomark _)) (pss_one (ps_ret (pe_op op_cat (pe_slice3 (pv 1) (po_some pe_int) po_none (po_some pe_int)) (pe_slice3 (pv 1) po_none po_none (po_some pe_int))))) pss_nil)
      (pss_cons (ps_set (i := 3) scGoal.nd rfl (Or.inl rfl) (pe_callTy call_list_of (by rfl) T.list (by decide +kernel) (pa_cons (pv 1) pa_nil)))
      (pss_cons (ps_for PassesOwn.never rfl (pi_range1 rfl T.range (pa_cons (pe_call GD hr1 rfl mD FD.kp bD .nil pass0 (pa_cons (pv 0) (pa_cons (pe_op op_add pe_int (pe_op op_fdiv (pe_callB call_len_seq (by rfl) T.len PySem.boot_len (pa_cons (pv 1) pa_nil)) pe_int)) pa_nil))) pa_nil)) (pg_name (i := 4) scGoal.nd rfl (Or.inl rfl))
        (pss_cons (ps_set (i := 5) scGoal.nd rfl (Or.inl rfl) (pe_bm PySem.F.plainAttrs_list PySem.F.slot_list_pop PySem.F.type_list_pop mt_popAt (pv 3) (pa_cons (pe_call GD hr1 rfl mD FD.kp bD .nil pass0 (pa_cons (pv 0) (pa_cons (pe_callB call_len_seq (by rfl) T.len PySem.boot_len (pa_cons (pv 3) pa_nil)) pa_nil))) pa_nil)))
        (pss_one (ps_expr (pe_bm PySem.F.plainAttrs_list PySem.F.slot_list_insert PySem.F.type_list_insert mt_insert (pv 3) (pa_cons (pe_call GD hr1 rfl mD FD.kp bD .nil pass0 (pa_cons (pv 0) (pa_cons (pe_op op_add (pe_callB call_len_seq (by rfl) T.len PySem.boot_len (pa_cons (pv 3) pa_nil)) pe_int) pa_nil))) (pa_cons (pv 5) pa_nil)))))))
      (pss_one (ps_ret (pv 3)))))))), ?_⟩
    have h16 : sizeLine = 16777216 := sizeLine_eq
    refine ⟨_, rfl, d, _, rfl, D, by decide, by decide, fun wy H1 w0 w1 D1 B1 => ?_⟩
    have hT1 := B1.seq D hT
    have shuf : ∀ {H2 : Hp} {R : VK} {v2 v3 v4 v5 : Option V}, But d H H2 → DeckAt H2 d → (∀ (p : Addr) (ks : List Int) (H' : Hp), H p = none → But d H H' → DeckAt H' d → H' p = some (.lst (ks.map V.int)) → ks.Perm js → R (.ref p) H') →
        tCall (spShuf K) [] E0 (tCons (tVar 0) (tCons (tVar 1) tNil)) [some (.ref d), some (.ref t), v2, v3, v4, v5] H2 R := fun {H2 R v2 v3 v4 v5} B2 D2 kk =>
      ⟨_, rfl, _, rfl, d, t, js, rfl, D2, B2.seq D hT, by omega, fun p ks H3 hp B3 D3 hP hq => kk p ks H3 (but_free B2 D2 hp) (B2.trans B3) D3 hP hq⟩
    refine ⟨_, rfl, rfl, _, rfl, ite2 (fun c => ?_) (fun c => ?_)⟩
    · refine iteT ?_
      exact shuf B1 D1 k
    · refine ⟨_, rfl, Nat.zero_le _, fun e he => ?_⟩
      have se := Same.new (o := .lst []) he
      have hE : upd H1 e (.lst []) e = some (.lst []) := upd_same
      generalize upd H1 e (.lst []) = H2 at se hE ⊢
      have B2 := B1.trans (But.of se)
      have D2 := D1.same se
      have hT2 := se.seq hT1
      refine ⟨t, e, js, [], rfl, rfl, hT2, SqL.of hE, _, rfl, ite2 (fun c => ?_) (fun c => ?_)⟩
      · exact shuf B2 D2 k
      · have hne : js ≠ [] := fun z => c (decide_eq_true z)
        have hpos : 0 < js.length := List.length_pos_iff.mpr hne
        refine ⟨_, rfl, rfl, _, rfl, ite2 (fun c => ?_) (fun c => ?_)⟩
        · refine ⟨_, rfl, t, _, rfl, hT2, fun p hp => ?_⟩
          have sp := Same.new (o := .lst (js.map V.int).reverse) hp
          exact k p js.reverse _ (but_free B2 D2 hp) (B2.trans (But.of sp)) (D2.same sp) (by rw [upd_same, List.map_reverse]) (List.reverse_perm js)
        · refine ⟨_, rfl, rfl, _, rfl, ite2 (fun c => ?_) (fun c => ?_)⟩
          · refine ⟨_, rfl, 1, rfl, 2, rfl, t, _, rfl, hT2, by decide, fun p hp => ?_⟩
            have sp := Same.new (o := .lst (pickL (js.map V.int) (placesL (some 1) none (some 2) (js.map V.int).length))) hp
            have hP : upd H2 p (.lst (pickL (js.map V.int) (placesL (some 1) none (some 2) (js.map V.int).length))) p = some (.lst ((pickL js (placesL (some 1) none (some 2) js.length)).map V.int)) := by rw [upd_same, pickL_map, List.length_map]
            generalize upd H2 p (.lst (pickL (js.map V.int) (placesL (some 1) none (some 2) (js.map V.int).length))) = H3 at sp hP ⊢
            refine ⟨_, rfl, 2, rfl, t, _, rfl, sp.seq hT2, by decide, fun q hq => ?_⟩
            have sq := Same.new (o := .lst (pickL (js.map V.int) (placesL none none (some 2) (js.map V.int).length))) hq
            have hQ : upd H3 q (.lst (pickL (js.map V.int) (placesL none none (some 2) (js.map V.int).length))) q = some (.lst ((pickL js (placesL none none (some 2) js.length)).map V.int)) := by rw [upd_same, pickL_map, List.length_map]
            generalize upd H3 q (.lst (pickL (js.map V.int) (placesL none none (some 2) (js.map V.int).length))) = H4 at sq hQ ⊢
            have hPerm := pick_two hj
            have hpl := hPerm.length_eq
            rw [List.length_append] at hpl
            refine ⟨p, q, _, _, rfl, rfl, sq _ _ hP, hQ, by rw [List.length_map, List.length_map, h16]; omega, fun r hr2 => ?_⟩
            have sr := Same.new (o := .lst ((pickL js (placesL (some 1) none (some 2) js.length)).map V.int ++ (pickL js (placesL none none (some 2) js.length)).map V.int)) hr2
            exact k r _ _ (but_free (B2.trans (But.of (sp.trans sq))) (D2.same (sp.trans sq)) hr2) (B2.trans (But.of (sp.trans (sq.trans sr)))) (D2.same (sp.trans (sq.trans sr))) (by rw [upd_same, ← List.map_append]) hPerm
          · refine ⟨_, rfl, t, _, rfl, .inl hT2, fun l hl => ?_⟩
            have sl := Same.new (o := .lst (js.map V.int)) hl
            have hL : upd H2 l (.lst (js.map V.int)) l = some (.lst (js.map V.int)) := upd_same
            have hl0 : H l = none := but_free B2 D2 hl
            generalize upd H2 l (.lst (js.map V.int)) = H3 at sl hL ⊢
            have B3 := B2.trans (But.of sl)
            have D3 := D2.same sl
            have hT3 := sl.seq hT2
            refine ⟨_, rfl, _, rfl, t, _, rfl, .inl hT3, _, _, rfl, rfl, ⟨by decide, by decide⟩, _, _, rfl, rfl, d, _, rfl, D3, by omega, by rw [List.length_map]; omega, fun z H4 z0 z1 D4 B4 => ?_⟩
            obtain ⟨n, rfl⟩ : ∃ m : Nat, z = (m : Int) := ⟨z.toNat, by omega⟩
            refine ⟨(n : Int), rfl, by omega, by rw [List.length_map] at z1; omega, ?_⟩
            have hL4 := B4.lst D3 hL
            have B04 := B3.trans B4
            refine for_range (lo := 0) (n := ((n : Int)).toNat) (fun i σ H' => ∃ (v4 v5 : Option V) (ls : List Int), σ = [some (.ref d), some (.ref t), some (.int wy), some (.ref l), v4, v5] ∧ But d H H' ∧ DeckAt H' d ∧ H' l = some (.lst (ls.map V.int)) ∧ ls.Perm js)
              ⟨none, none, js, rfl, B04, D4, hL4, List.Perm.refl _⟩ ?_ ?_
            · rintro i σ H5 hi ⟨v4, v5, ls, rfl, B5, D5, hL5, hp5⟩
              have hl5 := hp5.length_eq
              refine ⟨_, rfl, .inl ⟨rfl, _, SqL.of hL5⟩, _, rfl, _, rfl, l, _, rfl, .inl (SqL.of hL5), d, _, rfl, D5, by rw [List.length_map]; omega, by rw [List.length_map]; omega, fun z H6 z0 z1 D6 B6 => ?_⟩
              rw [List.length_map] at z1
              obtain ⟨i, rfl⟩ : ∃ m : Nat, z = (m : Int) := ⟨z.toNat, by omega⟩
              have hi : i < ls.length := by omega
              have hL6 := B6.lst D5 hL5
              have hy : ls[i]? = some ls[i] := List.getElem?_eq_getElem hi
              refine ⟨l, _, _, i, .int ls[i], rfl, rfl, hL6, by omega, by omega, seqIndex_nat (by rw [List.length_map]; exact hi), by rw [List.getElem?_map, hy]; rfl, ?_⟩
              rw [erase_map]
              have B06 := B5.trans B6
              have n1 : d ≠ l := by
                obtain ⟨x, y, hd, _⟩ := D6
                exact (ne_of hL6 hd (nl _ _)).symm
              have upL : ∀ {H' : Hp} {o : HO}, But d H H' → But d H (upd H' l o) := fun {H' o} B b u hb e => by rw [upd_ne (ne_of_none e hl0)]; exact B b u hb e
              have upD : ∀ {H' : Hp} {o : HO}, DeckAt H' d → DeckAt (upd H' l o) d := fun {H' o} ⟨x, y, hd, rr⟩ => ⟨x, y, by rw [upd_ne n1]; exact hd, rr⟩
              have B7 : But d H (upd H6 l (.lst ((ls.eraseIdx i).map V.int))) := upL B06
              have D7 : DeckAt (upd H6 l (.lst ((ls.eraseIdx i).map V.int))) d := upD D6
              have hL7 : upd H6 l (.lst ((ls.eraseIdx i).map V.int)) l = some (.lst ((ls.eraseIdx i).map V.int)) := upd_same
              generalize upd H6 l (.lst ((ls.eraseIdx i).map V.int)) = H7 at B7 D7 hL7 ⊢
              have hel : (ls.eraseIdx i).length + 1 = ls.length := by rw [List.length_eraseIdx_of_lt hi]; omega
              refine ⟨_, rfl, .inl ⟨rfl, _, SqL.of hL7⟩, _, rfl, _, rfl, l, _, rfl, .inl (SqL.of hL7), _, _, rfl, rfl, d, _, rfl, D7, by rw [List.length_map]; omega, by rw [List.length_map]; omega, fun z H8 z0 z1 D8 B8 => ?_⟩
              rw [List.length_map] at z1
              have hL8 := B8.lst D7 hL7
              refine ⟨_, rfl, l, _, z, .int ls[i], rfl, rfl, hL8, by rw [List.length_map, h16]; omega, z0, by omega, ?_⟩
              refine ⟨_, _, (ls.eraseIdx i).take z.toNat ++ [ls[i]] ++ (ls.eraseIdx i).drop z.toNat, rfl, upL (B7.trans B8), upD D8, ?_, ?_⟩
              · rw [upd_same, List.map_append, List.map_append, List.map_take, List.map_drop]; rfl
              · exact (ins_perm _ _ _).trans ((L2.erase_perm ls i _ hy).trans hp5)
            · rintro σ H5 ⟨v4, v5, ls, rfl, B5, D5, hL5, hp5⟩
              exact ⟨_, rfl, k l ls H5 hl0 B5 D5 hL5 hp5⟩
end
/-! ### drawn weights -/
theorem put_pin (ps : List (Int × Int)) (x a : Int) : ∃ qs, putK (pinK ps) (.inl x : Key) (.int a) = pinK qs ∧ (∀ p ∈ qs, p ∈ ps ∨ p = (x, a)) ∧ qs.length ≤ ps.length + 1 ∧ ((ps.map Prod.fst).Nodup → (qs.map Prod.fst).Nodup) := by
  by_cases h : x ∈ ps.map Prod.fst
  · refine ⟨ps.map fun p => if p.1 = x then (x, a) else p, ?_, ?_, ?_, ?_⟩
    · have hv : ((pinK ps).any fun kv => decide (kv.1 = (.inl x : Key))) = true := by
        obtain ⟨p, hp, e⟩ := List.mem_map.mp h
        refine List.any_eq_true.mpr ⟨((.inl p.1 : Key), .int p.2), ?_, decide_eq_true (by rw [e])⟩
        unfold pinK
        exact List.mem_map.mpr ⟨p, hp, rfl⟩
      unfold putK
      rw [if_pos hv]
      unfold pinK
      rw [List.map_map, List.map_map]
      refine List.map_congr_left fun p hp => ?_
      by_cases e : p.1 = x
      · show (if (.inl p.1 : Key) = .inl x then ((.inl p.1 : Key), V.int a) else _) = _
        rw [if_pos (by rw [e])]
        show _ = ((.inl (if p.1 = x then (x, a) else p).1 : Key), V.int (if p.1 = x then (x, a) else p).2)
        rw [if_pos e, e]
      · show (if (.inl p.1 : Key) = .inl x then ((.inl p.1 : Key), V.int a) else _) = _
        rw [if_neg (by intro z; cases z; exact e rfl)]
        show _ = ((.inl (if p.1 = x then (x, a) else p).1 : Key), V.int (if p.1 = x then (x, a) else p).2)
        rw [if_neg e]
    · intro p hp
      obtain ⟨q, hq, e⟩ := List.mem_map.mp hp
      by_cases z : q.1 = x
      · rw [if_pos z] at e; exact .inr e.symm
      · rw [if_neg z] at e; exact .inl (e ▸ hq)
    · rw [List.length_map]; omega
    · intro nd
      have : (ps.map fun p => if p.1 = x then (x, a) else p).map Prod.fst = ps.map Prod.fst := by
        rw [List.map_map]
        refine List.map_congr_left fun p _ => ?_
        show (if p.1 = x then (x, a) else p).1 = p.1
        by_cases e : p.1 = x
        · rw [if_pos e, e]
        · rw [if_neg e]
      rw [this]; exact nd
  · refine ⟨ps ++ [(x, a)], pin_put h, fun p hp => ?_, by rw [List.length_append]; exact Nat.le_refl _, fun nd => ?_⟩
    · rcases List.mem_append.mp hp with e | e
      · exact .inl e
      · exact .inr (List.mem_singleton.mp e)
    · rw [List.map_append]
      refine List.nodup_append.mpr ⟨nd, by simp, ?_⟩
      intro u hu v hv e
      have : v = x := by simpa using hv
      exact h (this ▸ e ▸ hu)
/-- weights that the law draws -/
def LoadsP (ks : List Int) (n : Nat) (most : Int) (ws : List (Int × Int)) : Prop := (ws.map Prod.fst).Nodup ∧ ws.length ≤ n ∧ ∀ p ∈ ws, 1 ≤ p.2 ∧ p.2 ≤ most ∧ p.1 ∈ ks
theorem LoadsP.put {ks : List Int} {n : Nat} {most x a : Int} {ps : List (Int × Int)} (h : LoadsP ks n most ps) (hx : x ∈ ks) (h1 : 1 ≤ a) (h2 : a ≤ most) : ∃ qs, putK (pinK ps) (.inl x : Key) (.int a) = pinK qs ∧ LoadsP ks (n + 1) most qs := by
  obtain ⟨qs, e, q1, q2, q3⟩ := put_pin ps x a
  refine ⟨qs, e, q3 h.1, Nat.le_trans q2 (Nat.succ_le_succ h.2.1), fun p hp => ?_⟩
  rcases q1 p hp with z | z
  · exact h.2.2 p z
  · rw [z]; exact ⟨h1, h2, hx⟩
def LoadsO (ks : List Int) (n : Nat) (most : Int) (wo : Option (List (Int × Int))) : Prop := ∀ ws, wo = some ws → LoadsP ks n most ws
theorem LoadsO.wt {ks : List Int} {n : Nat} {most : Int} {wo : Option (List (Int × Int))} (h : LoadsO ks n most wo) (hm : 1 ≤ most) (x : Int) : 1 ≤ wtI wo x ∧ wtI wo x ≤ most := by
  cases wo with
  | none => exact ⟨Int.le_refl _, hm⟩
  | some ws =>
    show 1 ≤ (anOf ws x).getD 1 ∧ (anOf ws x).getD 1 ≤ most
    cases q : anOf ws x with
    | none => exact ⟨Int.le_refl _, hm⟩
    | some b => exact ⟨((h ws rfl).2.2 _ (an_mem q)).1, ((h ws rfl).2.2 _ (an_mem q)).2.1⟩
section
variable {P : Program} {w : World} {K : PySem.W.Frag} {mg : Str → Option Value} {base : Heap}
def spLoads (K : PySem.W.Frag) : Sp := fun vs H Q _ => ∃ (d t : Addr) (js : List Int) (most : Int), vs = [.ref d, .ref t, .int most] ∧ DeckAt H d ∧ H t = some (.lst (js.map V.int)) ∧ js.length < 300 ∧ 3 ≤ most ∧ most < 1000000 ∧
  ∀ (v : V) (wo : Option (List (Int × Int))) (H' : Hp), (∀ p, v = .ref p → H p = none) → But d H H' → DeckAt H' d → WtAt H' v wo → LoadsO (js ++ [1000000]) (js.length + 1) most wo → Q v H'
abbrev NLo : List Str := ["tape", "base", "most", "way", "found", "row_id"]
theorem scLoads : FnScope NLo ["tape", "base", "most"] (defScope sLoads) := ⟨rfl, rfl, rfl, by decide +kernel, rfl, by decide +kernel, by decide +kernel⟩
theorem ok_loads {f fD fC : Addr} {fd fdD fdC : FuncData} (F : Fun K "_law_loads" "_law_loads" sLoads f fd) (FD : Fun K "_law_pick" "_law_pick" sDraw fD fdD) (bD : L2.Binds K fdD ["tape", "size"] []) (mD : mg "_law_pick" = some (.ref fD))
    (GC : FnOk P w K mg base CX0 2 fC fdC ["tape", "items"] (spChoose K)) (kC : PySem.W.keepIn K (.ref fC) = true) (bC : L2.Binds K fdC ["tape", "items"] []) (mC : mg "_law_one_of" = some (.ref fC)) :
    FnOk P w K mg base CX0 3 f fd ["tape", "base", "most"] (spLoads K) := by
  have GD : FnOk P w K mg base CX0 1 fD fdD ["tape", "size"] spDraw := ok_draw FD
  refine F.ok scLoads (fun vs H Q E h => ?_) (fun cdv A outer s H vs Q E hr h => ?_)
  · obtain ⟨d, t, js, most, rfl, _⟩ := h
    rfl
  · obtain ⟨d, t, js, most, rfl, D, hT, hj, hm3, hm6, k⟩ := h
    have hu := hu_of hr
    have hr1 : Room 1 _ := hr.mono (by decide)
    refine ⟨_, pss_cons (ps_set (i := 3) scLoads.nd rfl (Or.inl rfl) (pe_call GD hr1 rfl mD FD.kp bD .nil pass0 (pa_cons (pv 0) (pa_cons pe_int pa_nil))))
      (pss_cons (ps_if (pt_cmpR op_eq (pv 3) pe_int (nomark _)) (pss_one (ps_ret pe_non)) pss_nil)
      (pss_cons (ps_set (i := 4) scLoads.nd rfl (Or.inl rfl) pe_dnewK)
      (pss_cons (ps_for PassesOwn.never rfl (pi_list (pe_op op_cat (pv 1) (pe_lst (pa_cons (pe_op op_pow pe_int pe_int) pa_nil)))) (pg_name (i := 5) scLoads.nd rfl (Or.inl rfl))
        (pss_one (ps_if (PW.pt (pw_or (pt_cmpR op_gt (pv 3) pe_int (nomark _)) (pw_or1 (pt_cmpR op_eq (pe_call GD hr1 rfl mD FD.kp bD .nil pass0 (pa_cons (pv 0) (pa_cons pe_int pa_nil))) pe_int (nomark _)))))
          (pss_one (ps_dput hu (pv 4) (pv 5) (pe_call GC hr rfl mC kC bC .nil pass0 (pa_cons (pv 0) (pa_cons (pe_lst
            (pa_cons (pe_op op_add pe_int (pe_call GD hr1 rfl mD FD.kp bD .nil pass0 (pa_cons (pv 0) (pa_cons pe_int pa_nil))))
            (pa_cons (pe_op op_add pe_int (pe_call GD hr1 rfl mD FD.kp bD .nil pass0 (pa_cons (pv 0) (pa_cons (pv 2) pa_nil))))
            (pa_cons (pv 2) pa_nil)))) pa_nil))) rfl)) pss_nil)))
      (pss_one (ps_ret (pv 4)))))), ?_⟩
    have h16 : sizeLine = 16777216 := sizeLine_eq
    refine ⟨_, rfl, d, _, rfl, D, by decide, by decide, fun wy H1 w0 w1 D1 B1 => ?_⟩
    have hT1 := B1.lst D hT
    refine ⟨_, rfl, rfl, _, rfl, ite2 (fun c => ?_) (fun c => ?_)⟩
    · exact k .non none H1 (fun p z => by cases z) B1 D1 (.inl ⟨rfl, rfl⟩) (fun ws z => by cases z)
    · refine fun q hq => ?_
      have s1 := Same.new (o := .dK []) hq
      have hQ : upd H1 q (.dK []) q = some (.dK (pinK [])) := upd_same
      have hq0 : H q = none := but_free B1 D1 hq
      generalize upd H1 q (.dK []) = H2 at s1 hQ ⊢
      have B2 := B1.trans (But.of s1)
      have D2 := D1.same s1
      have hT2 := s1 _ _ hT1
      refine ⟨_, rfl, _, _, rfl, rfl, ⟨by decide, by decide, by decide⟩, by rw [h16]; show 1 ≤ 16777216; decide, fun c hc => ?_⟩
      show rCat (V.ref t) (V.ref c) (upd H2 c (HO.lst [V.int (10 ^ (6 : Int).toNat)])) _
      rw [pow6]
      have s2 := Same.new (o := .lst [V.int 1000000]) hc
      have hC : upd H2 c (.lst [V.int 1000000]) c = some (.lst [V.int 1000000]) := upd_same
      have hc0 : H c = none := but_free B2 D2 hc
      generalize upd H2 c (.lst [V.int 1000000]) = H3 at s2 hC ⊢
      have hT3 := s2 _ _ hT2
      have hQ3 := s2 _ _ hQ
      have B3 := B2.trans (But.of s2)
      have D3 := D2.same s2
      refine ⟨t, c, _, _, rfl, rfl, hT3, hC, by rw [List.length_map, h16]; show _ + 1 ≤ _; omega, fun cc hcc => ?_⟩
      have ecat : js.map V.int ++ [V.int 1000000] = (js ++ [1000000]).map V.int := by rw [List.map_append]; rfl
      rw [ecat]
      have s3 := Same.new (o := .lst ((js ++ [1000000]).map V.int)) hcc
      have hCC : upd H3 cc (.lst ((js ++ [1000000]).map V.int)) cc = some (.lst ((js ++ [1000000]).map V.int)) := upd_same
      have hcc0 : H cc = none := but_free B3 D3 hcc
      have ncq : q ≠ cc := ne_of_none hQ3 hcc
      generalize upd H3 cc (.lst ((js ++ [1000000]).map V.int)) = H4 at s3 hCC ⊢
      have hQ4 := s3 _ _ hQ3
      have B4 := B3.trans (But.of s3)
      have D4 := D3.same s3
      have ndq : d ≠ q := by
        obtain ⟨x, y, hd, _⟩ := D4
        exact (ne_of hQ4 hd (nP _ _)).symm
      have upL : ∀ {H' : Hp} {o : HO}, But d H H' → But d H (upd H' q o) := fun {H' o} B b u hb e => by rw [upd_ne (ne_of_none e hq0)]; exact B b u hb e
      have upD : ∀ {H' : Hp} {o : HO}, DeckAt H' d → DeckAt (upd H' q o) d := fun {H' o} ⟨x, y, hd, rr⟩ => ⟨x, y, by rw [upd_ne ndq]; exact hd, rr⟩
      refine ⟨cc, rfl, ⟨_, SqL.of hCC⟩, for_list (K := K) (a := cc) (xs := (js ++ [1000000]).map V.int) (fun i σ H' => ∃ (v5 : Option V) (ws : List (Int × Int)), σ = [some (.ref d), some (.ref t), some (.int most), some (.int wy), some (.ref q), v5] ∧ But d H H' ∧ DeckAt H' d ∧ H' q = some (.dK (pinK ws)) ∧ H' cc = some (.lst ((js ++ [1000000]).map V.int)) ∧ LoadsP (js ++ [1000000]) i most ws ∧ i ≤ js.length + 1)
        ⟨none, [], rfl, B4, D4, hQ4, hCC, ⟨List.nodup_nil, Nat.le_refl _, fun p hp => by cases hp⟩, Nat.zero_le _⟩ (fun i σ H' _ ⟨_, _, _, _, _, _, h, _⟩ => SqL.of h) ?_ ?_⟩
      · rintro i y σ H5 hi ⟨v5, ws, rfl, B5, D5, hQ5, hC5, L5, hil⟩
        obtain ⟨x, hx, rfl⟩ := int_at (i := i) (by assumption)
        have hil2 : i < js.length + 1 := by
          have := (List.getElem?_eq_some_iff.mp hx).1
          rw [List.length_append] at this; exact this
        have hwl := L5.2.1
        -- the new weight
        have put : ∀ (Dn : Ends) (H6 : Hp), But d H H6 → DeckAt H6 d → H6 q = some (.dK (pinK ws)) → H6 cc = some (.lst ((js ++ [1000000]).map V.int)) →
            (∀ (H7 : Hp) (qs : List (Int × Int)), But d H H7 → DeckAt H7 d → H7 q = some (.dK (pinK qs)) → H7 cc = some (.lst ((js ++ [1000000]).map V.int)) → LoadsP (js ++ [1000000]) (i + 1) most qs → Dn.nx [some (.ref d), some (.ref t), some (.int most), some (.int wy), some (.ref q), some (.int x)] H7) →
            sDPut (tVar 4) (tVar 5) (tCall (spChoose K) [] E0 (tCons (tVar 0) (tCons (tLst (tCons (tOp (rI0 fun i j => V.int (i + j)) (tC (V.int 1)) (tCall spDraw [] E0 (tCons (tVar 0) (tCons (tC (V.int 3)) tNil)))) (tCons (tOp (rI0 fun i j => V.int (i + j)) (tC (V.int 1)) (tCall spDraw [] E0 (tCons (tVar 0) (tCons (tVar 2) tNil)))) (tCons (tVar 2) tNil)))) tNil))) Dn [some (.ref d), some (.ref t), some (.int most), some (.int wy), some (.ref q), some (.int x)] H6 := by
          intro Dn H6 B6 D6 hQ6 hC6 kk
          refine ⟨_, rfl, _, rfl, d, _, rfl, D6, by decide, by decide, fun r1 H7 r10 r11 D7 B7 => ⟨_, _, rfl, rfl, ?_⟩⟩
          refine ⟨_, rfl, _, rfl, d, _, rfl, D7, by omega, by omega, fun r2 H8 r20 r21 D8 B8 => ⟨_, _, rfl, rfl, ?_⟩⟩
          have hQ8 := B8 _ _ ndq.symm (B7 _ _ ndq.symm hQ6)
          have hC8 := B8.lst D7 (B7.lst D6 hC6)
          have B08 := (B6.trans B7).trans B8
          refine ⟨_, rfl, by rw [h16]; show 3 ≤ 16777216; decide, fun u hu2 => ?_⟩
          have su := Same.new (o := .lst [V.int (1 + r1), V.int (1 + r2), V.int most]) hu2
          have hU : upd H8 u (.lst [V.int (1 + r1), V.int (1 + r2), V.int most]) u = some (.lst [V.int (1 + r1), V.int (1 + r2), V.int most]) := upd_same
          show spChoose K [V.ref d, V.ref u] (upd H8 u (.lst [V.int (1 + r1), V.int (1 + r2), V.int most])) _ E0
          generalize upd H8 u (.lst [V.int (1 + r1), V.int (1 + r2), V.int most]) = H9 at su hU ⊢
          refine ⟨d, u, _, rfl, D8.same su, SqL.of hU, (fun z => by cases z), (by show 3 < 1000000; decide), fun v H10 hv D10 B10 => ?_⟩
          obtain ⟨a, rfl, a1, a2⟩ : ∃ a : Int, v = .int a ∧ 1 ≤ a ∧ a ≤ most := by
            rcases List.mem_cons.mp hv with e | hv
            · exact ⟨_, e, by omega, by omega⟩
            rcases List.mem_cons.mp hv with e | hv
            · exact ⟨_, e, by omega, by omega⟩
            rcases List.mem_cons.mp hv with e | hv
            · exact ⟨_, e, by omega, by omega⟩
            · cases hv
          have D9 := D8.same su
          have hQ10 := B10 _ _ ndq.symm (su _ _ hQ8)
          have hC10 := B10.lst D9 (su _ _ hC8)
          obtain ⟨qs, e, L6⟩ := L5.put (x := x) (List.mem_of_getElem? hx) a1 a2
          refine ⟨_, rfl, _, rfl, q, _, rfl, DPut.k (k := (.inl x : Key)) hQ10 (by rw [pin_len, h16]; omega), ?_⟩
          rw [e]
          exact kk _ qs (upL ((B08.trans (But.of su)).trans B10)) (upD D10) upd_same (by rw [upd_ne ncq.symm]; exact hC10) L6
        have L5' : LoadsP (js ++ [1000000]) (i + 1) most ws := ⟨L5.1, by omega, L5.2.2⟩
        refine ⟨_, rfl, _, _, rfl, rfl, _, rfl, ite2 (fun c => ?_) (fun c => ?_)⟩
        · refine iteT ?_
          exact put _ H5 B5 D5 hQ5 hC5 fun H7 qs B7 D7 hQ7 hC7 L7 => ⟨_, qs, rfl, B7, D7, hQ7, hC7, L7, hil2⟩
        · refine ⟨_, rfl, d, _, rfl, D5, by decide, by decide, fun r1 H6 r10 r11 D6 B6 => ?_⟩
          have hQ6 := B6 _ _ ndq.symm hQ5
          have hC6 := B6.lst D5 hC5
          refine ⟨rfl, _, rfl, ite2 (fun c => ?_) (fun c => ?_)⟩
          · exact put _ H6 (B5.trans B6) D6 hQ6 hC6 fun H7 qs B7 D7 hQ7 hC7 L7 => ⟨_, qs, rfl, B7, D7, hQ7, hC7, L7, hil2⟩
          · exact ⟨_, ws, rfl, B5.trans B6, D6, hQ6, hC6, L5', hil2⟩
      · rintro σ H5 ⟨v5, ws, rfl, B5, D5, hQ5, hC5, L5, _⟩
        rw [List.length_map, List.length_append] at L5
        exact ⟨_, rfl, k (.ref q) (some ws) H5 (fun p z => by cases z; exact hq0) B5 D5 (.inr ⟨q, ws, rfl, rfl, hQ5⟩) (fun us z => by cases z; exact L5)⟩
end
/-! ### favoured ids, a weight -/
structure TxtK (mg : Str → Option Value) : Prop where
  len : mg "len" = none
  tuple : mg "tuple" = none
section
variable {P : Program} {w : World} {K : PySem.W.Frag} {mg : Str → Option Value} {base : Heap}
def FavAt (K : PySem.W.Frag) (H : Hp) (p : Addr) (fav : List Int) : Prop := SqL K H p (fav.map V.int) ∨ SqT K H p (fav.map V.int)
def spLiked (K : PySem.W.Frag) : Sp := fun vs H Q _ => ∃ (d t : Addr) (js : List Int), vs = [.ref d, .ref t] ∧ DeckAt H d ∧ SqL K H t (js.map V.int) ∧ js.length < 300 ∧
  ∀ (p : Addr) (fav : List Int) (H' : Hp), H p = none → But d H H' → DeckAt H' d → (H' p = some (.lst (fav.map V.int)) ∨ H' p = some (.tup (fav.map V.int))) → fav.length ≤ js.length + 1 → (∀ x ∈ fav, x ∈ js ∨ x = 1000000) → Q (.ref p) H'
abbrev NLi : List Str := ["tape", "base", "found", "row_id"]
theorem scLiked : FnScope NLi ["tape", "base"] (defScope sLiked) := ⟨rfl, rfl, rfl, by decide +kernel, rfl, by decide +kernel, by decide +kernel⟩
theorem ok_liked {f fD fC : Addr} {fd fdD fdC : FuncData} (F : Fun K "_law_liked" "_law_liked" sLiked f fd) (T : TxtK mg) (FD : Fun K "_law_pick" "_law_pick" sDraw fD fdD) (bD : L2.Binds K fdD ["tape", "size"] []) (mD : mg "_law_pick" = some (.ref fD))
    (GC : FnOk P w K mg base CX0 2 fC fdC ["tape", "items"] (spChoose K)) (kC : PySem.W.keepIn K (.ref fC) = true) (bC : L2.Binds K fdC ["tape", "items"] []) (mC : mg "_law_one_of" = some (.ref fC)) :
    FnOk P w K mg base CX0 3 f fd ["tape", "base"] (spLiked K) := by
  have GD : FnOk P w K mg base CX0 1 fD fdD ["tape", "size"] spDraw := ok_draw FD
  refine F.ok scLiked (fun vs H Q E h => ?_) (fun cdv A outer s H vs Q E hr h => ?_)
  · obtain ⟨d, t, js, rfl, _⟩ := h
    rfl
  · obtain ⟨d, t, js, rfl, D, hT, hj, k⟩ := h
    have hr1 : Room 1 _ := hr.mono (by decide)
    refine ⟨_, pss_cons (ps_setLc (i := 2) (own := [("row_id", 3)]) (g := gName 3) rfl scLiked.nd rfl rfl rfl (pi_list (pv 1)) (blkOk_by (N := NLi) (sc := defScope sLiked) (by decide +kernel)) (fun _ _ _ _ _ => pg_name (i := 3) scLiked.nd rfl (Or.inl rfl))
        (fun _ _ _ _ _ => pts_one (pt_cmpR op_eq (pe_call GD hr1 rfl mD FD.kp bD .nil pass0 (pa_cons (pv 0) (pa_cons pe_int pa_nil))) pe_int (nomark _))) (fun _ _ _ _ _ => pv 3))
      (pss_cons (ps_expr (pe_bm PySem.F.plainAttrs_list PySem.F.slot_list_insert PySem.F.type_list_insert mt_insert (pv 2) (pa_cons (pe_call GD hr1 rfl mD FD.kp bD .nil pass0 (pa_cons (pv 0) (pa_cons (pe_op op_add (pe_callB call_len_seq (by rfl) T.len PySem.boot_len (pa_cons (pv 2) pa_nil)) pe_int) pa_nil))) (pa_cons (pe_op op_pow pe_int pe_int) pa_nil))))
      (pss_one (ps_ret (pe_call GC hr rfl mC kC bC .nil pass0 (pa_cons (pv 0) (pa_cons (pe_lst (pa_cons (pe_tup pa_nil) (pa_cons (pv 2) (pa_cons (pe_callTy call_tuple_of (by rfl) T.tuple (by decide +kernel) (pa_cons (pv 2) pa_nil)) pa_nil)))) pa_nil)))))), ?_⟩
    have h16 : sizeLine = 16777216 := sizeLine_eq
    refine ⟨_, rfl, t, rfl, ⟨_, hT⟩, fun r hr2 => ?_⟩
    have hr0 : H r = none := hr2
    have s0 := Same.new (o := .lst []) hr2
    have ndr : d ≠ r := by
      obtain ⟨x, y, hd, _⟩ := D
      exact ne_of_none hd hr2
    have upL : ∀ {H' : Hp} {o : HO}, But d H H' → But d H (upd H' r o) := fun {H' o} B b u hb e => by rw [upd_ne (ne_of_none e hr0)]; exact B b u hb e
    have upD : ∀ {H' : Hp} {o : HO}, DeckAt H' d → DeckAt (upd H' r o) d := fun {H' o} ⟨x, y, hd, rr⟩ => ⟨x, y, by rw [upd_ne ndr]; exact hd, rr⟩
    refine lc_list (K := K) (a := t) (xs := js.map V.int) (fun i H' => ∃ ls : List Int, But d H H' ∧ DeckAt H' d ∧ H' r = some (.lst (ls.map V.int)) ∧ ls.length ≤ i ∧ (∀ x ∈ ls, x ∈ js) ∧ i ≤ js.length) ⟨[], But.of s0, D.same s0, upd_same, Nat.le_refl _, (fun x hx => by cases hx), Nat.zero_le _⟩ (fun i H' _ ⟨_, B, _⟩ => B.seq D hT) ?_ ?_
    · rintro i y H1 hi ⟨ls, B1, D1, hR1, hll, hls, hil⟩
      obtain ⟨x, hx, rfl⟩ := int_at hi
      have hxm := List.mem_of_getElem? hx
      have hil2 : i < js.length := (List.getElem?_eq_some_iff.mp hx).1
      refine ⟨rfl, _, rfl, d, _, rfl, D1, by decide, by decide, fun z H2 z0 z1 D2 B2 => ?_⟩
      have hR2 := B2.lst D1 hR1
      refine ⟨rfl, _, rfl, ite2 (fun c => ?_) (fun c => ?_)⟩
      · refine ⟨_, rfl, _, hR2, by rw [List.length_map, h16]; omega, ls ++ [x], upL (B1.trans B2), upD D2, by rw [upd_same, List.map_append]; rfl, by rw [List.length_append]; show _ + 1 ≤ _; omega, fun u hu => ?_, hil2⟩
        rcases List.mem_append.mp hu with q | q
        · exact hls u q
        · rw [List.mem_singleton.mp q]; exact hxm
      · exact ⟨ls, B1.trans B2, D2, hR2, by omega, hls, hil2⟩
    · rintro H1 ⟨ls, B1, D1, hR1, hll, hls, _⟩
      rw [List.length_map] at hll
      have n1000 : 1000000 = (10 : Int) ^ (6 : Int).toNat := pow6.symm
      refine ⟨_, rfl, .inl ⟨rfl, _, SqL.of hR1⟩, _, rfl, _, rfl, r, _, rfl, .inl (SqL.of hR1), _, _, rfl, rfl, d, _, rfl, D1, by rw [List.length_map]; omega, by rw [List.length_map]; omega, fun z H2 z0 z1 D2 B2 => ?_⟩
      rw [List.length_map] at z1
      have hR2 := B2.lst D1 hR1
      refine ⟨_, _, rfl, rfl, ⟨by decide, by decide, by decide⟩, r, _, z, .int 1000000, rfl, (by show [V.int z, V.int (10 ^ (6 : Int).toNat)] = _; rw [pow6]), hR2, by rw [List.length_map, h16]; omega, z0, by omega, ?_⟩
      obtain ⟨fs, hfs⟩ : ∃ fs : List Int, fs = ls.take z.toNat ++ [1000000] ++ ls.drop z.toNat := ⟨_, rfl⟩
      have efs : (ls.map V.int).take z.toNat ++ [V.int 1000000] ++ (ls.map V.int).drop z.toNat = fs.map V.int := by rw [hfs, List.map_append, List.map_append, List.map_take, List.map_drop]; rfl
      rw [efs]
      have hper : fs.Perm (1000000 :: ls) := by rw [hfs]; exact ins_perm _ _ _
      have hfl : fs.length ≤ js.length + 1 := by rw [hper.length_eq, List.length_cons]; omega
      have hfm : ∀ x ∈ fs, x ∈ js ∨ x = 1000000 := fun x hx => by
        rcases List.mem_cons.mp (hper.mem_iff.mp hx) with e | e
        · exact .inr e
        · exact .inl (hls x e)
      have B3 : But d H (upd H2 r (.lst (fs.map V.int))) := upL (B1.trans B2)
      have D3 : DeckAt (upd H2 r (.lst (fs.map V.int))) d := upD D2
      have hR3 : upd H2 r (.lst (fs.map V.int)) r = some (.lst (fs.map V.int)) := upd_same
      generalize upd H2 r (.lst (fs.map V.int)) = H3 at B3 D3 hR3 ⊢
      refine ⟨_, rfl, Nat.zero_le _, fun e he => ?_⟩
      have he0 : H e = none := but_free B3 D3 he
      have s4 := Same.new (o := .tup []) he
      have hE : upd H3 e (.tup []) e = some (.tup []) := upd_same
      generalize upd H3 e (.tup []) = H4 at s4 hE ⊢
      have D4 := D3.same s4
      have hR4 := s4 _ _ hR3
      refine ⟨_, rfl, _, rfl, r, _, rfl, .inl ⟨SqL.of hR4, fun u hu => ?_⟩⟩
      have hu0 : H u = none := but_free (B3.trans (But.of s4)) D4 hu
      have s5 := Same.new (o := .tup (fs.map V.int)) hu
      have hU : upd H4 u (.tup (fs.map V.int)) u = some (.tup (fs.map V.int)) := upd_same
      generalize upd H4 u (.tup (fs.map V.int)) = H5 at s5 hU ⊢
      have D5 := D4.same s5
      refine ⟨by rw [h16]; show 3 ≤ 16777216; decide, fun l hl => ?_⟩
      have s6 := Same.new (o := .lst [V.ref e, V.ref r, V.ref u]) hl
      have hL : upd H5 l (.lst [V.ref e, V.ref r, V.ref u]) l = some (.lst [V.ref e, V.ref r, V.ref u]) := upd_same
      show spChoose K [V.ref d, V.ref l] (upd H5 l (.lst [V.ref e, V.ref r, V.ref u])) _ E0
      generalize upd H5 l (.lst [V.ref e, V.ref r, V.ref u]) = H6 at s6 hL ⊢
      have D6 := D5.same s6
      have s46 := s5.trans s6
      have B6 := B3.trans (But.of (s4.trans s46))
      refine ⟨d, l, _, rfl, D6, SqL.of hL, (fun z => by cases z), (by show 3 < 1000000; decide), fun v H7 hv D7 B7 => ?_⟩
      have B07 := B6.trans B7
      rcases List.mem_cons.mp hv with q | hv
      · subst q
        exact k e [] H7 he0 B07 D7 (.inr (B7.tup D6 (s46 _ _ hE))) (Nat.zero_le _) (fun x hx => by cases hx)
      rcases List.mem_cons.mp hv with q | hv
      · subst q
        exact k r fs H7 hr0 B07 D7 (.inl (B7.lst D6 (s46 _ _ hR4))) hfl hfm
      rcases List.mem_cons.mp hv with q | hv
      · subst q
        exact k u fs H7 hu0 B07 D7 (.inr (B7.tup D6 (s6 _ _ hU))) hfl hfm
      · cases hv
end
/-! ### for x in d.items(): the pair as a whole -/
def ItRec (h : Heap) (it d : Addr) (i n ep : Nat) (f0 f1 ok ov : Value) : Prop :=
  h.get? it = some { cls := .type "dict_itemiterator", dict := none, data := .fields #[f0, f1, .ref d, .int i 0, .int n 0, .int ep 0, ok, ov], slots := #[] }
def ItAt (h : Heap) (it d : Addr) (i n ep : Nat) : Prop := ∃ f0 f1 ok ov, (f0 = .none ∨ ∃ a : Addr, f0 = rawInt a) ∧ ItRec h it d i n ep f0 f1 ok ov
section
variable {prog : Program} {w : World} {Ky : Type} [DecidableEq Ky] {knd : KeyKind prog w Ky} {A : Around} {E : Value → Shared → Prop} {s : Shared}
theorem next_itemN {it d : Addr} {i ep : Nat} {kvs : List (Ky × Value)} {k : Ky} {v : Value} {Q : Option Value → Shared → Prop} (hit : ItAt s.heap it d i kvs.length ep) (hm : s.heap.DictAt knd d kvs ep) (hx : kvs[i]? = some (k, v))
    (hQ : ∀ key h', knd.is k key = true → ItAt h' it d (i + 1) kvs.length ep → h'.get? s.heap.objs.size = some { cls := .type "tuple", data := .seq #[key, v] } → (∀ b o, b ≠ it → s.heap.get? b = some o → h'.get? b = some o) → Q (some (.ref s.heap.objs.size)) { s with heap := h' }) :
    wpAny (model prog w) A (pyNext (.ref it)) Q E s := by
  obtain ⟨hp, g, dr, tk, os⟩ := s
  obtain ⟨f0, f1, ok, ov, hf0, hit⟩ := hit
  have hit : hp.get? it = some { cls := .type "dict_itemiterator", dict := none, data := .fields #[f0, f1, .ref d, .int i 0, .int kvs.length 0, .int ep 0, ok, ov], slots := #[] } := hit
  obtain ⟨od, es, hod, hcd, hdd, hk, hpr, hn⟩ := id hm
  have hT : Shared.TypeIs ⟨hp, g, dr, tk, os⟩ (.ref it) "dict_itemiterator" := ⟨_, hit, rfl⟩
  unfold pyNext
  refine wpAny_bind (wpAny_attempt ?_)
  refine wpAny_callSpecial?_slot (name := Str.ofString "__next__") hT F.slot_dict_itemiterator_next ?_
  refine wpAny_call_entry F.slot_dict_itemiterator_next hT F.entry_dict_itemiterator_next ?_ (F.args_dict_itemiterator_next_1 _)
  refine wpAny_bind (wpAny_pure ?_)
  refine wpAny_bind ?_
  refine wpAny_bind ?_
  first | refine wpAny_bind (wpAny_typeNameOfWhole_itemiter hT (wpAny_pure ?_)) | refine wpAny_bind (wpAny_typeNameOf_itemiter hT (wpAny_pure ?_))
  refine wpAny_bind (wpAny_fieldsOf hit rfl ?_)
  have own1 : Builtin.Dict_items.ownsTuple "dict_itemiterator" = true := by decide
  simp only [own1, if_true]
  show wpAny _ _ (if (Value.ref d == Value.none) = true then _ else _) _ _ _
  rw [if_neg (show ¬ ((Value.ref d == Value.none) = true) from Bool.false_ne_true)]
  refine wpAny_bind (wpAny_pure ?_)
  refine wpAny_bind (wpAny_dictEntries hod hdd ?_)
  have hsz : es.size = kvs.length := by rw [← hpr.length]; simp
  rw [if_neg (by rw [hsz]; simp)]
  refine wpAny_bind (wpAny_pure ?_)
  refine wpAny_bind (wpAny_dictEpoch hod hdd ?_)
  rw [if_neg (by simp)]
  refine wpAny_pure ?_
  have hlt : i < kvs.length := by
    rcases Nat.lt_or_ge i kvs.length with h | h
    · exact h
    · simp [List.getElem?_eq_none h] at hx
  have hlt' : i < es.size := by rw [hsz]; exact hlt
  obtain ⟨hkey, hval⟩ := hpr.get? (e := es[i]) (by simp [hlt']) hx
  simp only [show ¬ ((i : Int) < 0) from by omega, if_false, Int.toNat_natCast, Array.getElem?_eq_getElem hlt']
  refine wpAny_bind ?_
  first | refine wpAny_bind (wpAny_typeNameOfWhole_itemiter hT (wpAny_pure ?_)) | refine wpAny_bind (wpAny_typeNameOf_itemiter hT (wpAny_pure ?_))
  refine wpAny_bind (wpAny_isOneOf_itemiter hT ?_)
  show wpAny _ _ (setField (.ref it) 3 (rawInt ((i : Int) + 1)) >>= _) _ _ ⟨hp, g, dr, tk, os⟩
  refine wpAny_bind (wpAny_setField_rec hit (by simp) fun h1 he1 hs1 => ?_)
  have hs1 : Heap.SameBut it hp h1 := hs1
  have he1 : ItRec h1 it d (i + 1) kvs.length ep f0 f1 ok ov := by
    have e : ((i + 1 : Nat) : Int) = (i : Int) + 1 := by omega
    unfold ItRec; rw [e]; simpa [rawInt] using he1
  have hT1 : Shared.TypeIs ⟨h1, g, dr, tk, os⟩ (.ref it) "dict_itemiterator" := ⟨_, he1, rfl⟩
  refine wpAny_bind (wpAny_holding ?_)
  refine wpAny_bind (wpAny_isOneOf_itemiter hT1 ?_)
  refine wpAny_bind (wpAny_isOneOf_itemiter hT1 ?_)
  show wpAny _ _ (Builtin.Dict_items.pairFromOwner (.ref it) 6 es[i].key es[i].val) _ _ ⟨h1, g, dr, tk, os⟩
  unfold Builtin.Dict_items.pairFromOwner
  refine wpAny_bind (wpAny_newTuple ?_)
  have he2 : ItRec (h1.push { cls := .type "tuple", data := .seq #[es[i].key, es[i].val] }) it d (i + 1) kvs.length ep f0 f1 ok ov := Heap.get?_push_of_some _ he1
  generalize hh2 : h1.push { cls := .type "tuple", data := .seq #[es[i].key, es[i].val] } = h2 at he2
  have hz1 : h1.objs.size = hp.objs.size := hs1.1
  have hil : it < hp.objs.size := Heap.lt_size hit
  have ht2 : h2.get? hp.objs.size = some { cls := .type "tuple", data := .seq #[es[i].key, es[i].val] } := by rw [← hh2, ← hz1]; exact Heap.get?_push_size _ rfl
  have hk2 : ∀ b o, b ≠ it → hp.get? b = some o → h2.get? b = some o := fun b o hb e => by rw [← hh2]; exact Heap.get?_push_of_some _ (hs1.extBut b o hb e)
  show wpAny _ _ (Builtin.Dict_items.ownedTupleIsFree (.ref it) >>= _) _ _ ⟨h2, g, dr, tk, os⟩
  rw [hz1]
  clear hh2 he1 hs1 hT1 hz1
  -- the pair is the caller's: kept by the iterator, or not
  have fill : ∀ (h2 : Heap) (f0 f1 ok ov : Value), ItRec h2 it d (i + 1) kvs.length ep f0 f1 ok ov → h2.get? hp.objs.size = some { cls := .type "tuple", data := .seq #[es[i].key, es[i].val] } → (∀ b o, b ≠ it → hp.get? b = some o → h2.get? b = some o) →
      ∀ E', wpAny (model prog w) A.in1 (do
        let old := [← field (.ref it) 6, ← field (.ref it) (6 + 1)]
        setField (.ref it) 6 es[i].key; setField (.ref it) (6 + 1) es[i].val
        setField (.ref it) 0 (rawInt hp.objs.size); setField (.ref it) 1 (.bool false)
        letGo old [Value.ref hp.objs.size]) (fun _ s' => ∃ h', s' = ⟨h', g, dr, tk, os⟩ ∧ ItAt h' it d (i + 1) kvs.length ep ∧ h'.get? hp.objs.size = some { cls := .type "tuple", data := .seq #[es[i].key, es[i].val] } ∧ ∀ b o, b ≠ it → hp.get? b = some o → h'.get? b = some o) E' ⟨h2, g, dr, tk, os⟩ := by
    intro h2 f0 f1 ok ov he2 ht2 hk2 E'
    refine wpAny_bind (wpAny_field (show h2.get? it = _ from he2) rfl (x := ok) rfl ?_)
    refine wpAny_bind (wpAny_field (show h2.get? it = _ from he2) rfl (x := ov) rfl ?_)
    refine wpAny_bind (wpAny_setField_rec he2 (by simp) fun h3 he3 hs3 => ?_)
    have hs3 : Heap.SameBut it h2 h3 := hs3
    have he3 : ItRec h3 it d (i + 1) kvs.length ep f0 f1 es[i].key ov := he3
    refine wpAny_bind (wpAny_setField_rec he3 (by simp) fun h4 he4 hs4 => ?_)
    have hs4 : Heap.SameBut it h3 h4 := hs4
    have he4 : ItRec h4 it d (i + 1) kvs.length ep f0 f1 es[i].key es[i].val := he4
    refine wpAny_bind (wpAny_setField_rec he4 (by simp) fun h5 he5 hs5 => ?_)
    have hs5 : Heap.SameBut it h4 h5 := hs5
    have he5 : ItRec h5 it d (i + 1) kvs.length ep (rawInt hp.objs.size) f1 es[i].key es[i].val := he5
    refine wpAny_bind (wpAny_setField_rec he5 (by simp) fun h6 he6 hs6 => ?_)
    have hs6 : Heap.SameBut it h5 h6 := hs6
    have he6 : ItRec h6 it d (i + 1) kvs.length ep (rawInt hp.objs.size) (.bool false) es[i].key es[i].val := he6
    refine wpAny_letGo ⟨h6, rfl, ⟨_, _, _, _, .inr ⟨_, rfl⟩, he6⟩, ?_, fun b o hb e => hs6.extBut b o hb (hs5.extBut b o hb (hs4.extBut b o hb (hs3.extBut b o hb (hk2 b o hb e))))⟩
    exact hs6.extBut _ _ (Nat.ne_of_gt hil) (hs5.extBut _ _ (Nat.ne_of_gt hil) (hs4.extBut _ _ (Nat.ne_of_gt hil) (hs3.extBut _ _ (Nat.ne_of_gt hil) ht2)))
  have isfree : ∀ (Q' : Bool → Shared → Prop) (E' : Value → Shared → Prop), (∀ (b : Bool) (h3 : Heap) (g0 g1 : Value), (g0 = .none ∨ ∃ a : Addr, g0 = rawInt a) → ItRec h3 it d (i + 1) kvs.length ep g0 g1 ok ov → h3.get? hp.objs.size = some { cls := .type "tuple", data := .seq #[es[i].key, es[i].val] } → (∀ b o, b ≠ it → hp.get? b = some o → h3.get? b = some o) →
      Q' b ⟨h3, g, dr, tk, os⟩) → wpAny (model prog w) A.in1 (Builtin.Dict_items.ownedTupleIsFree (.ref it)) Q' E' ⟨h2, g, dr, tk, os⟩ := by
    intro Q' E' hq
    unfold Builtin.Dict_items.ownedTupleIsFree
    refine wpAny_bind (wpAny_field (show h2.get? it = _ from he2) rfl (x := f0) rfl ?_)
    rcases hf0 with rfl | ⟨a, rfl⟩
    · exact wpAny_pure (hq true h2 _ _ (.inl rfl) he2 ht2 hk2)
    · show wpAny _ _ (loadIfAlive ((a : Int).toNat) >>= _) _ _ _
      refine wpAny_bind (fun Γ p _ => ?_)
      unfold loadIfAlive
      rw [Sem.wp_loadIfAlive, Sem.wp_pure]
      cases hal : (h2.get? ((a : Int).toNat)) with
      | none => exact wpAny_pure (hq true h2 _ _ (.inr ⟨a, rfl⟩) he2 ht2 hk2)
      | some ob =>
        refine wpAny_bind (wpAny_field (show h2.get? it = _ from he2) rfl (x := f1) rfl ?_)
        by_cases hb : (f1 != Value.bool true) = true
        · rw [if_pos hb]
          refine wpAny_bind (wpAny_setField_rec he2 (by simp) fun h3 he3 hs3 => ?_)
          have hs3 : Heap.SameBut it h2 h3 := hs3
          have he3 : ItRec h3 it d (i + 1) kvs.length ep (rawInt a) (.bool true) ok ov := he3
          exact wpAny_pure (hq false h3 _ _ (.inr ⟨a, rfl⟩) he3 (hs3.extBut _ _ (Nat.ne_of_gt hil) ht2) fun b o hb e => hs3.extBut b o hb (hk2 b o hb e))
        · rw [if_neg hb]
          exact wpAny_pure (hq false h2 _ _ (.inr ⟨a, rfl⟩) he2 ht2 hk2)
  have out : ∀ h', ItAt h' it d (i + 1) kvs.length ep → h'.get? hp.objs.size = some { cls := .type "tuple", data := .seq #[es[i].key, es[i].val] } → (∀ b o, b ≠ it → hp.get? b = some o → h'.get? b = some o) → Q (some (.ref hp.objs.size)) ⟨h', g, dr, tk, os⟩ := fun h' h1 h2 h3 =>
    hQ es[i].key h' hkey h1 (by rw [← hval]; exact h2) h3
  refine wpAny_bind (isfree _ _ fun b h3 g0 g1 hg0 he3 ht3 hk3 => ?_)
  cases b with
  | false =>
    rw [if_neg Bool.false_ne_true]
    exact wpAny_pure (wpAny_pure ⟨_, rfl, wpAny_pure (out h3 ⟨_, _, _, _, hg0, he3⟩ ht3 hk3)⟩)
  | true =>
    rw [if_pos rfl]
    refine wpAny_bind (wpAny_field (show h3.get? it = _ from he3) rfl (x := ok) rfl ?_)
    refine wpAny_bind (wpAny_field (show h3.get? it = _ from he3) rfl (x := ov) rfl ?_)
    refine wpAny_bind (wpAny_setField_rec he3 (by simp) fun h4 he4 hs4 => ?_)
    have hs4 : Heap.SameBut it h3 h4 := hs4
    have he4 : ItRec h4 it d (i + 1) kvs.length ep g0 g1 es[i].key ov := he4
    refine wpAny_bind (wpAny_setField_rec he4 (by simp) fun h5 he5 hs5 => ?_)
    have hs5 : Heap.SameBut it h4 h5 := hs5
    have he5 : ItRec h5 it d (i + 1) kvs.length ep g0 g1 es[i].key es[i].val := he5
    refine wpAny_bind (wpAny_setField_rec he5 (by simp) fun h6 he6 hs6 => ?_)
    have hs6 : Heap.SameBut it h5 h6 := hs6
    have he6 : ItRec h6 it d (i + 1) kvs.length ep (rawInt hp.objs.size) g1 es[i].key es[i].val := he6
    refine wpAny_bind (wpAny_setField_rec he6 (by simp) fun h7 he7 hs7 => ?_)
    have hs7 : Heap.SameBut it h6 h7 := hs7
    have he7 : ItRec h7 it d (i + 1) kvs.length ep (rawInt hp.objs.size) (.bool false) es[i].key es[i].val := he7
    refine wpAny_bind (wpAny_letGo (wpAny_pure (wpAny_pure ⟨_, rfl, wpAny_pure (out h7 ⟨_, _, _, _, .inr ⟨_, rfl⟩, he7⟩ ?_ ?_)⟩)))
    · exact hs7.extBut _ _ (Nat.ne_of_gt hil) (hs6.extBut _ _ (Nat.ne_of_gt hil) (hs5.extBut _ _ (Nat.ne_of_gt hil) (hs4.extBut _ _ (Nat.ne_of_gt hil) ht3)))
    · exact fun b o hb e => hs7.extBut b o hb (hs6.extBut b o hb (hs5.extBut b o hb (hs4.extBut b o hb (hk3 b o hb e))))
theorem next_endN {it d : Addr} {i ep : Nat} {kvs : List (Ky × Value)} {Q : Option Value → Shared → Prop} (hh : A.handled = none) (hit : ItAt s.heap it d i kvs.length ep) (hm : s.heap.DictAt knd d kvs ep) (hx : kvs[i]? = none)
    (hQ : ∀ h', Heap.ExtBut it s.heap h' → Q none { s with heap := h' }) : wpAny (model prog w) A (pyNext (.ref it)) Q E s := by
  obtain ⟨f0, f1, ok, ov, hf0, hit⟩ := hit
  have hit : s.heap.get? it = some { cls := .type "dict_itemiterator", dict := none, data := .fields #[f0, f1, .ref d, .int i 0, .int kvs.length 0, .int ep 0, ok, ov], slots := #[] } := hit
  obtain ⟨od, es, hod, hcd, hdd, hk, hpr, hn⟩ := id hm
  have hT : s.TypeIs (.ref it) "dict_itemiterator" := ⟨_, hit, rfl⟩
  unfold pyNext
  refine wpAny_bind (wpAny_attempt ?_)
  refine wpAny_callSpecial?_slot (name := Str.ofString "__next__") hT F.slot_dict_itemiterator_next ?_
  refine wpAny_call_entry F.slot_dict_itemiterator_next hT F.entry_dict_itemiterator_next ?_ (F.args_dict_itemiterator_next_1 _)
  refine wpAny_bind (wpAny_pure ?_)
  refine wpAny_bind ?_
  refine wpAny_bind ?_
  first | refine wpAny_bind (wpAny_typeNameOfWhole_itemiter hT (wpAny_pure ?_)) | refine wpAny_bind (wpAny_typeNameOf_itemiter hT (wpAny_pure ?_))
  refine wpAny_bind (wpAny_fieldsOf hit rfl ?_)
  have own1 : Builtin.Dict_items.ownsTuple "dict_itemiterator" = true := by decide
  simp only [own1, if_true]
  show wpAny _ _ (if (Value.ref d == Value.none) = true then _ else _) _ _ s
  rw [if_neg (show ¬ ((Value.ref d == Value.none) = true) from Bool.false_ne_true)]
  refine wpAny_bind (wpAny_pure ?_)
  refine wpAny_bind (wpAny_dictEntries hod hdd ?_)
  have hsz : es.size = kvs.length := by rw [← hpr.length]; simp
  rw [if_neg (by rw [hsz]; simp)]
  refine wpAny_bind (wpAny_pure ?_)
  refine wpAny_bind (wpAny_dictEpoch hod hdd ?_)
  rw [if_neg (by simp)]
  refine wpAny_pure ?_
  have hge : es.size ≤ i := by rw [hsz]; simpa using hx
  simp only [show ¬ ((i : Int) < 0) from by omega, if_false, Int.toNat_natCast, Array.getElem?_eq_none hge]
  refine wpAny_bind ?_
  first | refine wpAny_bind (wpAny_typeNameOfWhole_itemiter hT (wpAny_pure ?_)) | refine wpAny_bind (wpAny_typeNameOf_itemiter hT (wpAny_pure ?_))
  show wpAny _ _ (setField (.ref it) 2 .none >>= _) _ _ s
  refine wpAny_bind (wpAny_setField hit rfl (by simp) ?_)
  show wpAny _ _ (newExc (.type "StopIteration") [] >>= _) _ _ _
  refine wpAny_bind ?_
  simp only [newExc, newTuple]
  refine wpAny_bind (wpAny_newObj_type ?_ (by size_fits))
  refine wpAny_bind (m := firstArgMember _ _) (wpAny_of_eq (a := Value.none) (by first | rfl | (simp only [firstArgMember]; rfl)) ?_)
  refine wpAny_newObj_type ?_ (by size_fits)
  simp only [raiseNew]
  refine wpAny_bind (wpAny_handled ?_)
  rw [show A.in1.handled = none from hh]
  refine wpAny_bind (wpAny_pure (wpAny_throw ?_))
  refine wpAny_bind (wpAny_isInstance (T := "StopIteration") (b := true) ⟨_, Heap.get?_push_size _ rfl, rfl⟩ isSubtype_stop ?_)
  exact wpAny_pure (hQ _ (((Heap.SameBut.update ..).extBut.push _).push _))
end
section
variable {P : Program} {w : World} {K : PySem.W.Frag} {d : Addr} {o : Obj} {es : Array DictEntry} {ep : Nat}
theorem turn_itemsN {kvs : List (Key × V)} {x : Str} {px : Pos} (it : Addr) (hod : o.data = .dict es ep) : Turn P w K (.Name x px) (Iti d o kvs) [it] it (fun i h => ItAt h it d i kvs.length ep) where
  mem := List.mem_singleton.mpr rfl
  obj := fun i h st b hb => by
    have e := List.mem_singleton.mp hb
    subst e
    obtain ⟨f0, f1, ok, ov, _, e⟩ := st
    exact ⟨_, e, fun v z => nomatch z⟩
  keep := fun i h h' st k => let ⟨f0, f1, ok, ov, hf, e⟩ := st; ⟨f0, f1, ok, ov, hf, k it (List.mem_singleton.mpr rfl) _ e⟩
  item := by
    intro X hP hw hK hc i pins s σ H E I hf st hg
    subst hP hw hK
    obtain ⟨hd, hi⟩ := hg
    obtain ⟨hs, hgd, hx, es', ep', vs, hdt, hsz, kv, hm⟩ := I.frzK hd
    obtain ⟨rfl, rfl⟩ := dict_ep hod hdt
    obtain ⟨⟨k, v⟩, hkv⟩ : ∃ p, kvs[i]? = some p := ⟨kvs[i], List.getElem?_eq_getElem hi⟩
    obtain ⟨u, hu, ru⟩ := kv_get kv hkv
    have hl : kvs.length = vs.length := Paired.length kv
    rw [hl] at st
    have hlt : it < s.heap.objs.size := by
      obtain ⟨f0, f1, ok, ov, _, e⟩ := st
      exact Heap.lt_size e
    refine next_itemN st hm hu fun key h' hkey ho hT hk => ?_
    have new : L2.ObjOk X.prog X.w (upd H s.heap.objs.size (.tup [kV k, v])) h' s.heap.objs.size (.tup [kV k, v]) :=
      ⟨by show 2 ≤ sizeLine; decide, [key, u], .cons (relV_key (show keyIs k key = true from hkey)) (.cons ru .nil), ⟨_, hT, rfl, _, rfl⟩⟩
    have I1 : L2.Inv X pins σ (upd H s.heap.objs.size (.tup [kV k, v])) { s with heap := h' } :=
      I.turnedNew (t' := s.toks) (ch := [it]) (fun b ob hb e => hk b ob (fun z => hb (List.mem_singleton.mpr z)) e) hf (Nat.le_refl _) new
    refine ⟨_, rfl, wpAny_pure ⟨.ref s.heap.objs.size, _, I1, rfl, ⟨_, k, v, hkv, rfl, I.hok.fresh (Nat.le_refl _), rfl⟩, by rw [hl]; exact ho, fun b hb => ?_⟩⟩
    have e := List.mem_singleton.mp hb
    rw [e, upd_ne (Nat.ne_of_lt hlt)]
    exact (hf it (List.mem_singleton.mpr rfl)).1
  done := by
    intro X hP hw hK hc i pins s σ H E I hf st hg
    subst hP hw hK
    obtain ⟨hd, hi⟩ := hg
    obtain ⟨f0, f1, f2, f3, f4, f5⟩ := hf it (List.mem_singleton.mpr rfl)
    obtain ⟨hs, hgd, hx, es', ep', vs, hdt, hsz, kv, hm⟩ := I.frzK hd
    obtain ⟨rfl, rfl⟩ := dict_ep hod hdt
    have hl : kvs.length = vs.length := Paired.length kv
    rw [hl] at st
    exact next_endN (I.ok.hd hc) st hm (List.getElem?_eq_none (by omega)) fun h' eb => ⟨rfl, I.turned (t' := s.toks) (fun b ob hb e => eb b ob hb e) f0 f1 f3 f4 f5⟩
  self := fun A i s Q E st h => by
    obtain ⟨f0, f1, ok, ov, _, e⟩ := st
    have hT : s.TypeIs (.ref it) "dict_itemiterator" := ⟨_, e, rfl⟩
    refine wpAny_pyIter_slot hT PySem.F.slot_dict_itemiterator_iter (wpAny_call_entry PySem.F.slot_dict_itemiterator_iter hT PySem.W.kcp_entry ?_ (PySem.F.args_dict_itemiterator_iter_1 _))
    show wpAny _ _ (ret (.ref it)) _ _ s
    exact wpAny_pure ⟨_, rfl, "dict_itemiterator", _, hT, PySem.F.slot_dict_itemiterator_next.lookup, h⟩
end
section
variable {X : Cx} {e : Expr} {td : TE} {apos cpos : Pos} {x : Str} {px : Pos}
theorem pi_itemsN (he : PE X e td) (hbase : attributeBase e "items" X.env (eval e X.env) = eval e X.env := by rfl) (hline : (apos.endLine == cpos.line) = true := by rfl) :
    PI X (.Name x px) (.Call (.Attribute e "items" apos) [] [] cpos) (iItems td) := by
  refine ⟨fun pins s σ H R I h => ?_⟩
  refine wpAny_Call_method (T := "dict") (id := "dict.items") hbase rfl hline F.plainAttrs_dict F.slot_dict_items F.type_dict_items (thn (he.run pins s σ H _ I h) fun u s1 ⟨y, H1, I1, rx, d, o, kvs, ex, hd, q⟩ => ?_)
  subst ex
  obtain rfl : u = Value.ref d := rx
  obtain ⟨hs, hgd, hx, es, ep, vs, hdt, hsz, kv, hm⟩ := I1.frzK hd
  have hl : kvs.length = vs.length := Paired.length kv
  refine ⟨hm.dictOf.typeIs, hm.dictOf.mapOf.noDict, ?_⟩
  have I2 : L2.Inv X pins σ H1 { s1 with heap := s1.heap.push { cls := .type "dict_items", data := .fields #[.ref d] } } := I1.kept (t' := s1.toks) fun b ob q => Heap.get?_push_of_some _ q
  have fin : wpAny (model X.prog X.w) X.A (pyIter (.ref s1.heap.objs.size)) (PIE X pins σ (.Name x px) R) X.xe { s1 with heap := s1.heap.push { cls := .type "dict_items", data := .fields #[.ref d] } } := by
    refine wpAny_pyIter_items (d := d) (knd := mixKind X.prog X.w) ⟨_, Heap.get?_push_size _ rfl, rfl, rfl⟩ (hm.push _) (pi_one (tk := s1.toks) I2 _ (turn_itemsN _ hdt) ⟨.none, .bool false, .none, .none, .inl rfl, ?_⟩ q)
    rw [hl]
    exact Heap.get?_push_size _ rfl
  show wpAny _ _ (callWith cpos (.builtin "dict.items") [.ref d] [] []) _ X.xe s1
  exact method_meetsIn F.slot_dict_items F.entry_dict_items rfl (PySem.evalArgs_none ⟨rfl, hm.dictOf.typeIs, F.args_dict_items_1 _, _, meets_dict_items (mixKind X.prog X.w) d hs, ⟨vs, hm.dictOf⟩, fin⟩)
end
/-! ### for x in zip(a, b): the pair as a whole; the pair given out before may still be there, or may be gone -/
abbrev ZRec (h : Heap) (z TI TO : Addr) (f0 : Value) (f : Bool) : Prop := h.get? z = some { cls := .type "zip", dict := none, data := .fields #[f0, .bool f, .bool false, .ref TI, .ref TO], slots := #[] }
def ZAt (h : Heap) (z TI TO : Addr) : Prop := ∃ f0 f, (f0 = .none ∨ ∃ T : Addr, f0 = rawInt T) ∧ ZRec h z TI TO f0 f
section
variable {prog : Program} {w : World} {A : Around} {E : Value → Shared → Prop} {s : Shared} {z TI TO : Addr}
theorem zip_asked {f0 : Value} {f : Bool} {Q : Bool → Shared → Prop} (hf : f0 = .none ∨ ∃ T : Addr, f0 = rawInt T) (hz : ZRec s.heap z TI TO f0 f)
    (yes : Q true s) (no : ∀ h', ZAt h' z TI TO → Heap.SameBut z s.heap h' → Q false { s with heap := h' }) : wpAny (model prog w) A (Builtin.SmallTypes.ownedTupleIsFree (.ref z)) Q E s := by
  unfold Builtin.SmallTypes.ownedTupleIsFree
  rcases hf with rfl | ⟨T, rfl⟩
  · exact wpAny_bind (wpAny_field hz rfl (x := .none) rfl (wpAny_pure yes))
  · refine wpAny_bind (wpAny_field hz rfl (x := rawInt T) rfl ?_)
    show wpAny _ _ (loadIfAlive ((T : Int).toNat) >>= _) _ _ _
    refine wpAny_bind (fun Γ p _ => ?_)
    unfold loadIfAlive
    rw [Sem.wp_loadIfAlive, Sem.wp_pure]
    cases hal : (s.heap.get? ((T : Int).toNat)) with
    | none => exact wpAny_pure yes
    | some ob =>
      refine wpAny_bind (wpAny_field hz rfl (x := .bool f) rfl ?_)
      cases f with
      | true =>
        rw [if_neg (show ¬ ((Value.bool true != Value.bool true) = true) from Bool.false_ne_true)]
        exact wpAny_pure (no s.heap ⟨_, _, .inr ⟨T, rfl⟩, hz⟩ (Heap.SameBut.refl _ _))
      | false =>
        rw [if_pos (show (Value.bool false != Value.bool true) = true from rfl)]
        exact wpAny_bind (wpAny_setField_rec hz (by simp) fun h₁ hz₁ hs₁ => wpAny_pure (no h₁ ⟨_, _, .inr ⟨T, rfl⟩, hz₁⟩ hs₁))
variable {i1 i2 l1 l2 : Addr} {k1 k2 : Nat} {xs ys : Array Value}
theorem zipN_item {x y a b : Value} {Q : Option Value → Shared → Prop} (D : ZipApart z TI TO i1 i2 l1 l2) (hz : ZAt s.heap z TI TO) (hTI : IsPair s.heap TI (.ref i1) (.ref i2)) (hTO : IsPair s.heap TO a b)
    (h1 : s.heap.IsListIter i1 l1 k1) (h2 : s.heap.IsListIter i2 l2 k2) (hl1 : s.heap.IsList l1 xs) (hl2 : s.heap.IsList l2 ys) (hx : xs[k1]? = some x) (hy : ys[k2]? = some y)
    (hQ : ∀ h' a' b', ZAt h' z TI TO → IsPair h' TO a' b' → h'.IsListIter i1 l1 (k1 + 1) → h'.IsListIter i2 l2 (k2 + 1) → IsPair h' s.heap.objs.size x y →
      (∀ c o, c ≠ z → c ≠ TO → c ≠ i1 → c ≠ i2 → s.heap.get? c = some o → h'.get? c = some o) → Q (some (.ref s.heap.objs.size)) { s with heap := h' }) :
    wpAny (model prog w) A (pyNext (.ref z)) Q E s := by
  obtain ⟨f0, f, hf, hz⟩ := hz
  have hT : s.TypeIs (.ref z) "zip" := ⟨_, hz, rfl⟩
  unfold pyNext
  refine wpAny_bind (wpAny_attempt (wpAny_callSpecial?_slot (name := Str.ofString "__next__") hT F.slot_zip_next (wpAny_call_entry F.slot_zip_next hT F.entry_zip_next ?_ (F.args_zip_next_1 _))))
  show wpAny _ _ (field (.ref z) 2 >>= _) _ _ _
  refine wpAny_bind (wpAny_field hz rfl (x := .bool false) rfl ?_)
  show wpAny _ _ (field (.ref z) 3 >>= _) _ _ _
  refine wpAny_bind (wpAny_field hz rfl (x := .ref TI) rfl ?_)
  refine wpAny_bind (wpAny_seqItems hTI rfl ?_)
  show wpAny _ _ (Builtin.SmallTypes.ownedTupleIsFree (.ref z) >>= _) _ _ _
  refine wpAny_bind (zip_asked hf hz ?_ fun u hzu hu => ?_)
  · -- no pair is out: the iterator's own pair is filled, a new one is handed out
    simp only [if_true]
    refine wpAny_bind (wpAny_rule ?_)
    refine wpAny_bind (wpAny_field hz rfl (x := .ref TO) rfl ?_)
    refine wpAny_bind (wpAny_setField_rec hz (by simp) fun u1 z1 s1 => ?_)
    replace z1 : ZRec u1 z TI TO .ellipsis f := z1
    refine wpAny_bind ?_
    simp only [List.zipIdx_cons, List.zipIdx_nil, List.forIn_cons, List.forIn_nil]
    refine wpAny_bind (wpAny_bind (wpAny_onRaise ?_))
    show wpAny _ _ (Builtin.SmallTypes.nextOf (.ref i1) >>= _) _ _ _
    refine wpAny_bind (wpAny_nextOf_list_item (h1.extBut s1.extBut D.i1z) (hl1.extBut s1.extBut D.l1z) hx fun u2 it1 s2 => wpAny_pure ?_)
    have o2 : IsPair u2 TO a b := s2.extBut _ _ D.TOi1 (s1.extBut _ _ D.TOz hTO)
    refine wpAny_bind (wpAny_seqItems o2 rfl ?_)
    refine wpAny_bind (wpAny_updateSeq_pair o2 fun u3 o3 s3 => ?_)
    replace o3 : IsPair u3 TO x b := o3
    refine wpAny_bind (wpAny_letGo (wpAny_pure ?_))
    refine wpAny_bind (wpAny_bind (wpAny_onRaise ?_))
    show wpAny _ _ (Builtin.SmallTypes.nextOf (.ref i2) >>= _) _ _ _
    refine wpAny_bind (wpAny_nextOf_list_item (((h2.extBut s1.extBut D.i2z).extBut s2.extBut D.i12.symm).extBut s3.extBut D.TOi2.symm)
      (((hl2.extBut s1.extBut D.l2z).extBut s2.extBut D.l2i1).extBut s3.extBut D.l2TO) hy fun u4 it2 s4 => wpAny_pure ?_)
    have o4 : IsPair u4 TO x b := s4.extBut _ _ D.TOi2 o3
    refine wpAny_bind (wpAny_seqItems o4 rfl ?_)
    refine wpAny_bind (wpAny_updateSeq_pair o4 fun u5 o5 s5 => ?_)
    replace o5 : IsPair u5 TO x y := o5
    refine wpAny_bind (wpAny_letGo (wpAny_pure (wpAny_pure ?_)))
    refine wpAny_bind (wpAny_seqItems o5 rfl ?_)
    refine wpAny_bind (wpAny_newTuple ?_)
    have hsz : u5.objs.size = s.heap.objs.size := by rw [s5.1, s4.1, s3.1, s2.1, s1.1]
    have z5 : ZRec u5 z TI TO .ellipsis f := s5.extBut _ _ D.TOz.symm (s4.extBut _ _ D.i2z.symm (s3.extBut _ _ D.TOz.symm (s2.extBut _ _ D.i1z.symm z1)))
    have k5 : ∀ c o, c ≠ z → c ≠ TO → c ≠ i1 → c ≠ i2 → s.heap.get? c = some o → u5.get? c = some o := fun c o c1 c2 c3 c4 e => s5.extBut _ _ c2 (s4.extBut _ _ c4 (s3.extBut _ _ c2 (s2.extBut _ _ c3 (s1.extBut _ _ c1 e))))
    have a5 : u5.IsListIter i1 l1 (k1 + 1) := ((it1.extBut s3.extBut D.TOi1.symm).extBut s4.extBut D.i12).extBut s5.extBut D.TOi1.symm
    have b5 : u5.IsListIter i2 l2 (k2 + 1) := it2.extBut s5.extBut D.TOi2.symm
    have zlt : z < u5.objs.size := Heap.lt_size z5
    show wpAny _ _ (Builtin.SmallTypes.ownedTupleHandOut (.ref z) (.ref u5.objs.size) >>= _) _ _ _
    refine wpAny_bind ?_
    unfold Builtin.SmallTypes.ownedTupleHandOut
    have z6 : ZRec (u5.push { cls := .type "tuple", data := .seq #[x, y] }) z TI TO .ellipsis f := Heap.get?_push_of_some _ z5
    refine wpAny_bind (wpAny_setField_rec z6 (by simp) fun u7 z7 s7 => ?_)
    replace z7 : ZRec u7 z TI TO (rawInt u5.objs.size) f := z7
    refine wpAny_setField_rec z7 (by simp) fun u8 z8 s8 => ?_
    replace z8 : ZRec u8 z TI TO (rawInt u5.objs.size) false := z8
    have up : ∀ c o, c ≠ z → u5.get? c = some o → u8.get? c = some o := fun c o c1 e => s8.extBut _ _ c1 (s7.extBut _ _ c1 (Heap.get?_push_of_some _ e))
    have t8 : IsPair u8 u5.objs.size x y := s8.extBut _ _ (Nat.ne_of_gt zlt) (s7.extBut _ _ (Nat.ne_of_gt zlt) (Heap.get?_push_size _ rfl))
    rw [hsz] at z8 t8
    refine wpAny_pure ⟨_, rfl, ?_⟩
    show wpAny _ _ _ _ _ _
    rw [hsz]
    exact wpAny_pure (hQ u8 _ _ ⟨_, _, .inr ⟨_, rfl⟩, z8⟩ (up _ _ D.TOz o5) (a5.at fun o e => up _ o D.i1z e) (b5.at fun o e => up _ o D.i2z e) t8 fun c o c1 c2 c3 c4 e => up c o c1 (k5 c o c1 c2 c3 c4 e))
  · -- one is out: a new pair
    simp only [Bool.false_eq_true, if_false]
    refine wpAny_bind ?_
    rw [← Array.forIn_toList]
    simp only [List.forIn_cons, List.forIn_nil]
    refine wpAny_bind (wpAny_bind (wpAny_holding ?_))
    show wpAny _ _ (Builtin.SmallTypes.nextOf (.ref i1) >>= _) _ _ _
    refine wpAny_bind (wpAny_nextOf_list_item (s := { s with heap := u }) (h1.extBut hu.extBut D.i1z) (hl1.extBut hu.extBut D.l1z) hx fun u2 it1 s2 => wpAny_pure ?_)
    refine wpAny_pure ?_
    refine wpAny_bind (wpAny_bind (wpAny_holding ?_))
    show wpAny _ _ (Builtin.SmallTypes.nextOf (.ref i2) >>= _) _ _ _
    refine wpAny_bind (wpAny_nextOf_list_item (s := { s with heap := u2 }) ((h2.extBut hu.extBut D.i2z).extBut s2.extBut D.i12.symm) ((hl2.extBut hu.extBut D.l2z).extBut s2.extBut D.l2i1) hy fun u3 it2 s3 => wpAny_pure ?_)
    refine wpAny_pure (wpAny_pure ?_)
    show wpAny _ _ (newTuple [x, y] >>= _) _ _ _
    refine wpAny_bind (wpAny_newTuple ?_)
    have hsz : u3.objs.size = s.heap.objs.size := by rw [s3.1, s2.1, hu.1]
    have z3 : ZAt u3 z TI TO := let ⟨g0, g, hg, e⟩ := hzu; ⟨g0, g, hg, s3.extBut _ _ D.i2z.symm (s2.extBut _ _ D.i1z.symm e)⟩
    have k3 : ∀ c o, c ≠ z → c ≠ i1 → c ≠ i2 → s.heap.get? c = some o → u3.get? c = some o := fun c o c1 c2 c3 e => s3.extBut _ _ c3 (s2.extBut _ _ c2 (hu.extBut _ _ c1 e))
    have a3 : u3.IsListIter i1 l1 (k1 + 1) := it1.extBut s3.extBut D.i12
    refine wpAny_pure ⟨_, rfl, ?_⟩
    have tp : IsPair (u3.push { cls := .type "tuple", data := .seq #[x, y] }) u3.objs.size x y := Heap.get?_push_size _ rfl
    show wpAny _ _ _ _ _ _
    rw [hsz] at tp ⊢
    exact wpAny_pure (hQ _ a b (let ⟨g0, g, hg, e⟩ := z3; ⟨g0, g, hg, Heap.get?_push_of_some _ e⟩) (Heap.get?_push_of_some _ (k3 _ _ D.TOz D.TOi1 D.TOi2 hTO)) (a3.at fun o e => Heap.get?_push_of_some _ e) (it2.at fun o e => Heap.get?_push_of_some _ e) tp fun c o c1 c2 c3 c4 e => Heap.get?_push_of_some _ (k3 c o c1 c3 c4 e))
theorem zipN_end {a b : Value} {Q : Option Value → Shared → Prop} (hh : A.handled = none) (D : ZipApart z TI TO i1 i2 l1 l2) (hz : ZAt s.heap z TI TO) (hTI : IsPair s.heap TI (.ref i1) (.ref i2)) (hTO : IsPair s.heap TO a b)
    (h1 : s.heap.IsListIter i1 l1 k1) (h2 : s.heap.IsListIter i2 l2 k2) (hl1 : s.heap.IsList l1 xs) (hl2 : s.heap.IsList l2 ys) (hend : xs[k1]? = none ∨ ys[k2]? = none)
    (hQ : ∀ h', (∀ c o, c ≠ z → c ≠ TO → c ≠ i1 → c ≠ i2 → s.heap.get? c = some o → h'.get? c = some o) → Q none { s with heap := h' }) : wpAny (model prog w) A (pyNext (.ref z)) Q E s := by
  obtain ⟨f0, f, hf, hz⟩ := hz
  have hT : s.TypeIs (.ref z) "zip" := ⟨_, hz, rfl⟩
  have stop : ∀ (s' : Shared) (e : Addr), (∃ o, s'.heap.get? e = some o ∧ o.cls = .type "StopIteration") → (∀ c o, c ≠ z → c ≠ TO → c ≠ i1 → c ≠ i2 → s.heap.get? c = some o → s'.heap.get? c = some o) → s' = { s with heap := s'.heap } →
      wpAny (model prog w) A (do if ← isInstance (.ref e) (.type "StopIteration") then pure none else throw (.ref e)) Q E s' := by
    intro s' e he hk hs
    obtain ⟨o, ho, hc⟩ := he
    refine wpAny_bind (wpAny_isInstance (T := "StopIteration") (b := true) ⟨o, ho, hc⟩ isSubtype_stop ?_)
    rw [hs]
    exact wpAny_pure (hQ _ hk)
  unfold pyNext
  refine wpAny_bind (wpAny_attempt (wpAny_callSpecial?_slot (name := Str.ofString "__next__") hT F.slot_zip_next (wpAny_call_entry F.slot_zip_next hT F.entry_zip_next ?_ (F.args_zip_next_1 _))))
  show wpAny _ _ (field (.ref z) 2 >>= _) _ _ _
  refine wpAny_bind (wpAny_field hz rfl (x := .bool false) rfl ?_)
  show wpAny _ _ (field (.ref z) 3 >>= _) _ _ _
  refine wpAny_bind (wpAny_field hz rfl (x := .ref TI) rfl ?_)
  refine wpAny_bind (wpAny_seqItems hTI rfl ?_)
  show wpAny _ _ (Builtin.SmallTypes.ownedTupleIsFree (.ref z) >>= _) _ _ _
  refine wpAny_bind (zip_asked hf hz ?_ fun u hzu hu => ?_)
  · simp only [if_true]
    refine wpAny_bind (wpAny_rule ?_)
    refine wpAny_bind (wpAny_field hz rfl (x := .ref TO) rfl ?_)
    refine wpAny_bind (wpAny_setField_rec hz (by simp) fun u1 z1 s1 => ?_)
    replace z1 : ZRec u1 z TI TO .ellipsis f := z1
    refine wpAny_bind ?_
    simp only [List.zipIdx_cons, List.zipIdx_nil, List.forIn_cons, List.forIn_nil]
    refine wpAny_bind (wpAny_bind (wpAny_onRaise ?_))
    show wpAny _ _ (Builtin.SmallTypes.nextOf (.ref i1) >>= _) _ _ _
    cases hx : xs[k1]? with
    | none =>
      refine wpAny_bind (wpAny_nextOf_list_end hh (h1.extBut s1.extBut D.i1z) (hl1.extBut s1.extBut D.l1z) hx fun u2 e s2 he => ?_)
      obtain ⟨oe, hoe, hce⟩ := he
      have z2 : ZRec u2 z TI TO .ellipsis f := s2 _ _ D.i1z.symm z1
      have hez : e ≠ z := fun q => by subst q; rw [z2] at hoe; cases hoe; simp at hce
      refine wpAny_setField_rec z2 (by simp) fun u3 _ s3 => ?_
      exact stop { s with heap := u3 } e ⟨oe, s3.extBut _ _ hez hoe, hce⟩ (fun c o c1 _ c3 _ q => s3.extBut _ _ c1 (s2 _ _ c3 (s1.extBut _ _ c1 q))) rfl
    | some x =>
      have hy : ys[k2]? = none := by
        rcases hend with q | q
        · rw [hx] at q; cases q
        · exact q
      refine wpAny_bind (wpAny_nextOf_list_item (h1.extBut s1.extBut D.i1z) (hl1.extBut s1.extBut D.l1z) hx fun u2 it1 s2 => wpAny_pure ?_)
      have o2 : IsPair u2 TO a b := s2.extBut _ _ D.TOi1 (s1.extBut _ _ D.TOz hTO)
      refine wpAny_bind (wpAny_seqItems o2 rfl ?_)
      refine wpAny_bind (wpAny_updateSeq_pair o2 fun u3 o3 s3 => ?_)
      refine wpAny_bind (wpAny_letGo (wpAny_pure ?_))
      refine wpAny_bind (wpAny_bind (wpAny_onRaise ?_))
      show wpAny _ _ (Builtin.SmallTypes.nextOf (.ref i2) >>= _) _ _ _
      refine wpAny_bind (wpAny_nextOf_list_end hh (((h2.extBut s1.extBut D.i2z).extBut s2.extBut D.i12.symm).extBut s3.extBut D.TOi2.symm)
        (((hl2.extBut s1.extBut D.l2z).extBut s2.extBut D.l2i1).extBut s3.extBut D.l2TO) hy fun u4 e s4 he => ?_)
      obtain ⟨oe, hoe, hce⟩ := he
      have z4 : ZRec u4 z TI TO .ellipsis f := s4 _ _ D.i2z.symm (s3.extBut _ _ D.TOz.symm (s2.extBut _ _ D.i1z.symm z1))
      have hez : e ≠ z := fun q => by subst q; rw [z4] at hoe; cases hoe; simp at hce
      refine wpAny_setField_rec z4 (by simp) fun u5 _ s5 => ?_
      exact stop { s with heap := u5 } e ⟨oe, s5.extBut _ _ hez hoe, hce⟩ (fun c o c1 c2 c3 c4 q => s5.extBut _ _ c1 (s4 _ _ c4 (s3.extBut _ _ c2 (s2.extBut _ _ c3 (s1.extBut _ _ c1 q))))) rfl
  · simp only [Bool.false_eq_true, if_false]
    refine wpAny_bind ?_
    rw [← Array.forIn_toList]
    simp only [List.forIn_cons, List.forIn_nil]
    refine wpAny_bind (wpAny_bind (wpAny_holding ?_))
    show wpAny _ _ (Builtin.SmallTypes.nextOf (.ref i1) >>= _) _ _ _
    cases hx : xs[k1]? with
    | none =>
      refine wpAny_bind (wpAny_nextOf_list_end (s := { s with heap := u }) hh (h1.extBut hu.extBut D.i1z) (hl1.extBut hu.extBut D.l1z) hx fun u2 e s2 he => ?_)
      exact stop { s with heap := u2 } e he (fun c o c1 _ c3 _ q => s2 _ _ c3 (hu.extBut _ _ c1 q)) rfl
    | some x =>
      have hy : ys[k2]? = none := by
        rcases hend with q | q
        · rw [hx] at q; cases q
        · exact q
      refine wpAny_bind (wpAny_nextOf_list_item (s := { s with heap := u }) (h1.extBut hu.extBut D.i1z) (hl1.extBut hu.extBut D.l1z) hx fun u2 it1 s2 => wpAny_pure ?_)
      refine wpAny_pure ?_
      refine wpAny_bind (wpAny_bind (wpAny_holding ?_))
      show wpAny _ _ (Builtin.SmallTypes.nextOf (.ref i2) >>= _) _ _ _
      refine wpAny_bind (wpAny_nextOf_list_end (s := { s with heap := u2 }) hh ((h2.extBut hu.extBut D.i2z).extBut s2.extBut D.i12.symm) ((hl2.extBut hu.extBut D.l2z).extBut s2.extBut D.l2i1) hy fun u3 e s3 he => ?_)
      exact stop { s with heap := u3 } e he (fun c o c1 _ c3 c4 q => s3 _ _ c4 (s2.extBut _ _ c3 (hu.extBut _ _ c1 q))) rfl
end
theorem turn_zipN {P : Program} {w : World} {K : PySem.W.Frag} {nm : Str} {px : Pos} {a b z TI TO i1 i2 : Addr} (D : ZipApart z TI TO i1 i2 a b) :
    Turn P w K (.Name nm px) (Itz K a b) [z, TI, TO, i1, i2] z (fun i h => ZAt h z TI TO ∧ IsPair h TI (.ref i1) (.ref i2) ∧ (∃ x y, IsPair h TO x y) ∧ h.IsListIter i1 a i ∧ h.IsListIter i2 b i) where
  mem := by simp
  obj := fun i h st c hc => by
    obtain ⟨⟨f0, f, _, hz⟩, hTI, ⟨x, y, hTO⟩, ⟨o1, e1, _, d1⟩, ⟨o2, e2, _, d2⟩⟩ := st
    have e' : c = z ∨ c = TI ∨ c = TO ∨ c = i1 ∨ c = i2 := by simpa using hc
    rcases e' with q | q | q | q | q
    · rw [q]; exact ⟨_, hz, fun v q => nomatch q⟩
    · rw [q]; exact ⟨_, hTI, fun v q => nomatch q⟩
    · rw [q]; exact ⟨_, hTO, fun v q => nomatch q⟩
    · rw [q]; exact ⟨o1, e1, fun v q => by rw [d1] at q; cases q⟩
    · rw [q]; exact ⟨o2, e2, fun v q => by rw [d2] at q; cases q⟩
  keep := fun i h h' st k => by
    obtain ⟨⟨f0, f, hf, hz⟩, hTI, ⟨x, y, hTO⟩, h1, h2⟩ := st
    exact ⟨⟨f0, f, hf, k z (by simp) _ hz⟩, k TI (by simp) _ hTI, ⟨x, y, k TO (by simp) _ hTO⟩, h1.at fun o q => k i1 (by simp) o q, h2.at fun o q => k i2 (by simp) o q⟩
  item := by
    intro X hP hw hK hc i pins s σ H E I hf st hg
    subst hP hw hK
    obtain ⟨hz, hTI, ⟨x0, y0, hTO⟩, h1, h2⟩ := st
    obtain ⟨xs, ys, x, y, hqx, hqy, hx, hy⟩ := hg
    obtain ⟨its, rv, p, _⟩ := I.list hqx
    obtain ⟨its2, rv2, p2, _⟩ := I.list hqy
    obtain ⟨u, hu, ru⟩ := rv.get hx
    obtain ⟨u2, hu2, ru2⟩ := rv2.get hy
    have hzl : z < s.heap.objs.size := by obtain ⟨_, _, _, e⟩ := hz; exact Heap.lt_size e
    refine zipN_item D hz hTI hTO h1 h2 p.isList p2.isList (x := u) (y := u2) (by simpa using hu) (by simpa using hu2) fun h' a' b' z' TO' h1' h2' hT hk => ?_
    have new : L2.ObjOk X.prog X.w (upd H s.heap.objs.size (.tup [x, y])) h' s.heap.objs.size (.tup [x, y]) :=
      ⟨by show 2 ≤ sizeLine; decide, [u, u2], .cons ru (.cons ru2 .nil), ⟨_, hT, rfl, _, rfl⟩⟩
    have I1 : L2.Inv X pins σ (upd H s.heap.objs.size (.tup [x, y])) { s with heap := h' } :=
      I.turnedNew (t' := s.toks) (ch := [z, TI, TO, i1, i2]) (fun c o hb q => hk c o (fun q' => hb (by simp [q'])) (fun q' => hb (by simp [q'])) (fun q' => hb (by simp [q'])) (fun q' => hb (by simp [q'])) q) hf (Nat.le_refl _) new
    refine ⟨_, rfl, wpAny_pure ⟨.ref s.heap.objs.size, _, I1, rfl, ⟨_, x, y, rfl, I.hok.fresh (Nat.le_refl _), rfl, fun l hl => by rw [I.list_inj hl hqx]; exact hx, fun l hl => by rw [I.list_inj hl hqy]; exact hy⟩, ⟨z', hk _ _ D.TIz D.TITO D.TIi1 D.TIi2 hTI, ⟨a', b', TO'⟩, h1', h2'⟩, fun c hcm => ?_⟩⟩
    have hlt : c < s.heap.objs.size := by
      have e' : c = z ∨ c = TI ∨ c = TO ∨ c = i1 ∨ c = i2 := by simpa using hcm
      rcases e' with q | q | q | q | q
      · rw [q]; exact hzl
      · rw [q]; exact Heap.lt_size hTI
      · rw [q]; exact Heap.lt_size hTO
      · rw [q]; obtain ⟨_, e1, _⟩ := h1; exact Heap.lt_size e1
      · rw [q]; obtain ⟨_, e2, _⟩ := h2; exact Heap.lt_size e2
    rw [upd_ne (Nat.ne_of_lt hlt)]
    exact (hf c hcm).1
  done := by
    intro X hP hw hK hc i pins s σ H E I hf st hg
    subst hP hw hK
    obtain ⟨hz, hTI, ⟨x0, y0, hTO⟩, h1, h2⟩ := st
    obtain ⟨xs, ys, hqx, hqy, hend⟩ := hg
    obtain ⟨its, rv, p, _⟩ := I.list hqx
    obtain ⟨its2, rv2, p2, _⟩ := I.list hqy
    have l1 := rv.length
    have l2 := rv2.length
    have he : its.toArray[i]? = none ∨ its2.toArray[i]? = none := by
      rcases hend with q | q
      · exact .inl (by simp; omega)
      · exact .inr (by simp; omega)
    exact zipN_end (I.ok.hd hc) D hz hTI hTO h1 h2 p.isList p2.isList he fun h' hk => ⟨rfl, I.turnedL (t' := s.toks) (ch := [z, TI, TO, i1, i2]) (fun c o hb q =>
      hk c o (fun q' => hb (by simp [q'])) (fun q' => hb (by simp [q'])) (fun q' => hb (by simp [q'])) (fun q' => hb (by simp [q'])) q) hf⟩
  self := fun A i s Q E st h => by
    obtain ⟨⟨f0, f, _, e⟩, _⟩ := st
    have hT : s.TypeIs (.ref z) "zip" := ⟨_, e, rfl⟩
    refine wpAny_pyIter_slot hT F.slot_zip_iter (wpAny_call_entry F.slot_zip_iter hT F.entry_zip_iter ?_ (F.args_zip_iter_1 _))
    show wpAny _ _ (ret (.ref z)) _ _ s
    exact wpAny_pure ⟨_, rfl, "zip", _, hT, F.slot_zip_next.lookup, h⟩
theorem pi_zipN {X : Cx} {e e2 : Expr} {ta : TA} {p pos px : Pos} {nm : Str} (hg : Gl X "zip") (hm : X.mg "zip" = none) (ha : PA X [e, e2] ta)
    (hs : starEach [e, e2] X.env = (false, eval e X.env) :: starEach [e2] X.env := by rfl) (hpl : (backTo pos (starEach [e2] X.env)).any (·.1) = false := by rfl) :
    PI X (.Name nm px) (.Call (.Name "zip" p) [e, e2] [] pos) (iZip X.K ta) := by
  refine ⟨fun pins s σ H R I h => ?_⟩
  refine Call_ (ld_blt I hg hm PyProof.Rows.boot_zip (PyProof.Rows.callWith_type1 (thn (ha.run pos pins s σ H _ I h) fun us s1 ⟨vs, H1, I1, r1, q1⟩ => ?_) hs hpl))
  obtain ⟨a, b, xs, ys, ex, hqx, hqy, q⟩ := q1
  subst ex
  cases r1 with
  | cons r rr =>
    cases rr with
    | cons r' rr =>
      cases rr
      cases r
      cases r'
      obtain ⟨its, rv, p1, _⟩ := I1.list hqx
      obtain ⟨its2, rv2, p2, _⟩ := I1.list hqy
      refine call_zip_2 p1.isList p2.isList fun h' hz hTI hTO h1 h2 hsz hk => wpAny_pyIter_zip hz ?_
      have I2 : L2.Inv X pins σ H1 { s1 with heap := h' } := I1.kept (t' := s1.toks) hk
      refine ⟨s1.heap.objs.size + 4, [s1.heap.objs.size + 4, s1.heap.objs.size + 2, s1.heap.objs.size + 3, s1.heap.objs.size, s1.heap.objs.size + 1], _, _, H1, rfl, I2, turn_zipN (PySem.W.ktu_apart s1.heap.objs.size a b p1.lt p2.lt), ⟨⟨_, _, .inl rfl, hz⟩, hTI, ⟨_, _, hTO⟩, h1, h2⟩, fun c hcm => ?_, q⟩
      have e' : c = s1.heap.objs.size + 4 ∨ c = s1.heap.objs.size + 2 ∨ c = s1.heap.objs.size + 3 ∨ c = s1.heap.objs.size ∨ c = s1.heap.objs.size + 1 := by simpa using hcm
      have hle : s1.heap.objs.size ≤ c := by
        rcases e' with z | z | z | z | z
        · rw [z]; exact Nat.le_add_right _ _
        · rw [z]; exact Nat.le_add_right _ _
        · rw [z]; exact Nat.le_add_right _ _
        · rw [z]; exact Nat.le_refl _
        · rw [z]; exact Nat.le_add_right _ _
      exact I1.fpOk hle (I1.hok.fresh hle)
/-! ### sorted(d.items()) -/
def rItemsK : V → List V → Hp → VK → Prop := fun x xs H Q => ∃ (a : Addr) (kvs : List (Key × V)), x = .ref a ∧ xs = [] ∧ H a = some (.dK kvs) ∧ ∀ p, H p = none → Q (.ref p) (upd H p (DX.itemsO p a))
/-- a pair of numbers, and where it stands -/
def encI (b : Addr × Int × Int) : PyData := .tuple [.int b.2.1, .int b.2.2]
def rSortItems : List V → Hp → VK → Prop := fun vs H Q => ∃ (r a : Addr) (ps : List (Int × Int)), vs = [.ref r] ∧ H r = some (DX.itemsO r a) ∧ H a = some (.dK (pinK ps)) ∧
  ∀ (H' : Hp) (p : Addr) (ts : List Addr), Same H H' → H p = none → (∀ t ∈ ts, H t = none) → ts.length = ps.length → (∀ b ∈ ts.zip ps, H' b.1 = some (.tup [.int b.2.1, .int b.2.2])) → H' p = some (.lst (((ts.zip ps).mergeSort (PySem.W.dataLe false encI)).map fun b => .ref b.1)) → Q (.ref p) H'
theorem alike_encI (b b' : Addr × Int × Int) : PySem.W.alike (encI b) (encI b') = true := by
  unfold encI
  simp [PySem.W.alike, PySem.W.alikeAll]
theorem depth_encI (b : Addr × Int × Int) : (encI b).depth ≤ 3 := by
  unfold encI
  simp [PyData.depth, PyData.depthAll]
section
variable {X : Cx}
theorem mt_itemsK : MtR X "dict.items" rItemsK := by
  intro pins s σ H x xs v us Q I rx rxs h
  obtain ⟨a, kvs, rfl, rfl, ha, q⟩ := h
  cases rx
  cases rxs
  obtain ⟨_, hsys, vs, rel, dof⟩ := dk_of I.hok ha
  obtain ⟨ep, dat⟩ := dof.dictAt
  obtain ⟨ob, es, ho, ex, hdat, hko, hpr, hnd⟩ := dat
  refine call_meetsIn F.slot_dict_items ⟨ob, ho, ex.1⟩ F.entry_dict_items (F.args_dict_items_1 _) (meets_dict_items (mixKind X.prog X.w) a hsys) ⟨⟨vs, dof⟩, ?_⟩
  exact ⟨.ref s.heap.objs.size, upd H s.heap.objs.size (DX.itemsO s.heap.objs.size a), I.laid (t' := s.toks) (fun b u e => Heap.get?_push_of_some _ e) (Nat.le_refl _) (DX.itemsO_ok (Heap.get?_push_size _ rfl)), rfl, q _ (I.hok.fresh (Nat.le_refl _))⟩
theorem tups_laid {pins : List (Addr × Obj)} {σ : L2.St} {H : Hp} {s : Shared} {h' : Heap} {tk : Nat} {kvs : List (Key × V)} {vs : List (Key × Value)} {as : List Addr} (I : L2.Inv X pins σ H s) (kv : KV kvs vs)
    (hk : ∀ b o, s.heap.get? b = some o → h'.get? b = some o) (hl : as.length = vs.length) (hG : PySem.W.KdxG (mixKind X.prog X.w) vs s.heap.objs.size h' as) :
    ∃ H' : Hp, Same H H' ∧ (∀ t ∈ as, H t = none) ∧ (∀ b, b ∉ as → H' b = H b) ∧ Paired (fun (t : Addr) (q : Key × V) => H' t = some (.tup [kV q.1, q.2])) as kvs ∧ L2.Inv X pins σ H' { s with heap := h', toks := tk } := by
  have lk : kvs.length = vs.length := Paired.length kv
  have nd : as.Nodup := List.Pairwise.imp (fun {a b} (h : a < b) => Nat.ne_of_lt h) hG.rise
  have new : ∀ t ∈ as, H t = none := fun t ht => I.hok.fresh (Nat.le_of_lt (hG.above t ht))
  have atP := LiI.putT_at as kvs H (by omega) nd
  have off : ∀ b, b ∉ as → LiI.putT H as kvs b = H b := fun b h1 => LiI.putT_off as kvs _ h1
  have low : ∀ b o, s.heap.get? b = some o → b ∉ as := fun b o e z => absurd (Heap.lt_size e) (Nat.not_lt.mpr (Nat.le_of_lt (hG.above b z)))
  have kp : ∀ b u, H b = some u → LiI.putT H as kvs b = some u := fun b u e => by
    rw [off b (fun z => by rw [new b z] at e; cases e)]
    exact e
  refine ⟨LiI.putT H as kvs, kp, new, off, atP, ?_⟩
  refine I.call' (ch := []) rfl ⟨fun b o q _ _ _ => hk b o q, fun b o q _ _ _ => ⟨o.slots, hk b o q⟩, fun b o q n _ => ?_, fun b o q _ => ⟨o, hk b o q⟩, fun b xs q => kp b _ q, fun b o u q => kp b _ q, fun b ps q => ⟨#[], by rw [kp b _ q]; simp⟩⟩ (fun b u q => ?_) I.bare fun b z => by simp at z
  · rw [off b (low b o q)]
    exact n
  · by_cases hb : b ∈ as
    · obtain ⟨j, pk, e1, e2, e3⟩ := LiI.paired_ix atP hb
      rw [e3] at q
      cases q
      obtain ⟨key, k, x, f1, f2, f3⟩ := hG.pairs j b e1
      obtain ⟨qv, g1, g2, g3⟩ := LiI.paired_get kv e2
      rw [f1] at g1
      cases g1
      have rk : RelV (kV pk.1) key := by
        rw [g2]
        exact relV_key (show keyIs k key = true from f2)
      exact ⟨by show 2 ≤ sizeLine; decide, [key, x], .cons rk (.cons g3 .nil), ⟨_, f3, rfl, _, rfl⟩⟩
    · rw [off b hb] at q
      exact (I.hok b u q).stay (fun d v _ y => hk d v y) (fun d y => kp d _ y) fun d xs y => kp d _ y
theorem tup_reads {pins : List (Addr × Obj)} {σ : L2.St} {H : Hp} {s : Shared} {t : Addr} {i j : Int} (I : L2.Inv X pins σ H s) (h : H t = some (.tup [.int i, .int j])) : Reads s.heap (.ref t) (.tuple [.int i, .int j]) [] := by
  obtain ⟨_, us, r, o, ho, hc, n, hd⟩ := I.hok t _ h
  obtain ⟨u1, u2, rfl, r1, r2⟩ := Vals.two r
  obtain ⟨t1, rfl⟩ := r1
  obtain ⟨t2, rfl⟩ := r2
  exact .tuple ho hc hd (.cons (.int i t1) (.cons (.int j t2) .nil))
theorem cr_sortItems (hc : X.calm = true) (hu : X.A.units + 64 < cLine) : CallR X (.builtin "sorted") rSortItems := by
  intro pins s σ H vs us Q I r h
  obtain ⟨p, a, ps, rfl, hp, ha, q⟩ := h
  obtain rfl := Vals.ref1 r
  obtain ⟨hz, hsys, ws, rel, dof⟩ := dk_of I.hok ha
  obtain ⟨ep, dat⟩ := dof.dictAt
  obtain ⟨hview, _, _⟩ : L2.ObjOk X.prog X.w H s.heap p (DX.itemsO p a) := I.hok p _ hp
  have lk : (pinK ps).length = ws.length := Paired.length rel
  refine PyProof.Rows.call_function_entry_kw kind_sorted plain_sorted entry_sorted (args_sorted1 _) ?_
  unfold Builtin.«sorted»
  refine wpAny_bind (m := checkCount "sorted" 1 1 _) (wpAny_pure ?_)
  refine wpAny_bind (PySem.W.kdx_collect (knd := mixKind X.prog X.w) (kvs := ws) (ep := ep) (A := X.A.in1) (I.ok.hd hc) hview dat (by omega) fun h' tk as hk hl hG => ?_)
  obtain ⟨H', kS, kn, off, hP, I2⟩ := tups_laid (tk := tk) I rel hk hl hG
  have hlen : as.length = ps.length := by rw [hl, ← lk, pin_len]
  have nS : ∀ b, s.heap.objs.size ≤ b → H b = none := fun b hb => I.hok.fresh hb
  refine wpAny_bind (wpAny_newList ?_ (by rw [List.length_map]; omega))
  have ho : (h'.push (seqObj "list" (as.map Value.ref).toArray 0)).get? h'.objs.size = some (seqObj "list" (as.map Value.ref).toArray 0) := Heap.get?_push_size _ rfl
  refine wpAny_bind (wpAny_holding ?_)
  have hL0 : H' h'.objs.size = none := I2.hok.fresh (Nat.le_refl _)
  have hL1 : H h'.objs.size = none := by
    cases e : H h'.objs.size with
    | none => rfl
    | some o => rw [kS _ _ e] at hL0; cases hL0
  have hbs : (as.zip ps).map (fun b => b.1) = as := List.map_fst_zip (by omega)
  have tup : ∀ b ∈ as.zip ps, H' b.1 = some (.tup [.int b.2.1, .int b.2.2]) := by
    intro b hb
    obtain ⟨i, hi⟩ := List.mem_iff_getElem?.mp hb
    rw [List.getElem?_zip_eq_some] at hi
    obtain ⟨kv, e1, e2⟩ := LiI.paired_get hP hi.1
    have e3 : (pinK ps)[i]? = some ((.inl b.2.1 : Key), V.int b.2.2) := by unfold pinK; rw [List.getElem?_map, hi.2]; rfl
    rw [e3] at e1
    cases e1
    exact e2
  have each : ∀ (bs : List (Addr × Int × Int)), PySem.W.EachIs (fun u b => RelV (V.ref b.1) u) ((bs.map fun b => b.1).map Value.ref) bs := by
    intro bs
    induction bs with
    | nil => exact .nil
    | cons b r ih => exact .cons rfl ih
  have each2 : ∀ (bs : List (Addr × Int × Int)), (∀ b ∈ bs, H' b.1 = some (.tup [.int b.2.1, .int b.2.2])) → PySem.W.EachIs (fun u b => ∃ xs, Reads (h'.push (seqObj "list" (as.map Value.ref).toArray 0)) u (encI b) xs ∧ h'.objs.size ∉ xs) ((bs.map fun b => b.1).map Value.ref) bs := by
    intro bs
    induction bs with
    | nil => intro _; exact .nil
    | cons b r ih =>
      intro hb
      exact .cons ⟨[], Reads.keeps (fun _ _ q => Heap.get?_push_of_some _ q) (tup_reads I2 (hb b List.mem_cons_self)), fun z => by cases z⟩ (ih fun c hc => hb c (List.mem_cons_of_mem _ hc))
  have ea := each (as.zip ps)
  have eb := each2 (as.zip ps) tup
  rw [hbs] at ea eb
  refine PySem.W.list_sort_data (A := X.A.in1) (s := { s with heap := h'.push (seqObj "list" (as.map Value.ref).toArray 0), toks := tk }) (enc := encI) ho ea eb ?_ ?_ (by rw [List.length_zip]; omega) (fun b _ => ?_) fun out hol hout => ?_
  · exact PySem.W.AllAlike.of alike_encI
  · exact PySem.W.Sortable.tuples fun b => ⟨_, _, rfl⟩
  · have := depth_encI b
    show X.A.units + 1 + 1 + (encI b).depth < cLine
    omega
  · obtain ⟨n, hn⟩ := PyProof.Rows.sortedHeap_at (out := out.toArray) ho
    have k : ∀ b u, h'.get? b = some u → (sortedHeap (h'.push (seqObj "list" (as.map Value.ref).toArray 0)) h'.objs.size (as.map Value.ref) out.toArray).get? b = some u := fun b u e => by
      have hb := Heap.lt_size e
      rw [sortedHeap_old (Nat.ne_of_lt hb) (by rw [size_push']; exact Nat.lt_succ_of_lt hb)]
      exact Heap.get?_push_of_some _ e
    refine wpAny_pure ⟨_, rfl, ?_⟩
    have hvals := vals_each (val := fun b : Addr × Int × Int => V.ref b.1) hout
    refine ⟨.ref h'.objs.size, upd H' h'.objs.size (.lst (((as.zip ps).mergeSort (PySem.W.dataLe false encI)).map fun b => V.ref b.1)), I2.laid (t' := tk) k (Nat.le_refl _) ⟨?_, out, n, hvals, hn⟩, rfl, ?_⟩
    · rw [List.length_map, List.length_mergeSort, List.length_zip]
      omega
    · refine q _ _ as (fun b u e => ?_) hL1 kn hlen (fun b hb => ?_) upd_same
      · rw [upd_ne (ne_of_none (kS _ _ e) hL0)]
        exact kS _ _ e
      · rw [upd_ne (ne_of_none (tup b hb) hL0)]
        exact tup b hb
end
/-! ### numbers sorted -/
theorem sJ1 (js : List Int) : PySem.W.AllAlike (js.map fun z => PyData.int z) := PySem.W.AllAlike.of fun b b' => alike_int b b'
theorem sJ2 (js : List Int) : PySem.W.Sortable (js.map fun z => PyData.int z) := PySem.W.Sortable.others (enc := fun z : Int => PyData.int z) (fun b => ⟨fun z => (by cases z), fun xs z => (by cases z)⟩)
theorem sJ3 (z : Int) : (PyData.int z).depth ≤ 40 := by rw [PyData.depth]; decide
def leJ (a b : Int) : Bool := decide (a ≤ b)
theorem sJ4 (js : List Int) : js.mergeSort (PySem.W.dataLe false fun z => PyData.int z) = js.mergeSort leJ := by rw [PySem.W.dataLe_int]; rfl
theorem sortJ {a b : List Int} (h : a.Perm b) : a.mergeSort leJ = b.mergeSort leJ := by
  have up : ∀ l : List Int, (l.mergeSort leJ).Pairwise (fun x y => x ≤ y) := fun l => by
    have := List.pairwise_mergeSort (le := leJ) (fun a b c x y => decide_eq_true (Int.le_trans (of_decide_eq_true x) (of_decide_eq_true y))) (fun a b => by
      unfold leJ
      rcases Int.le_total a b with q | q
      · rw [decide_eq_true q]; rfl
      · rw [decide_eq_true q, Bool.or_true]) l
    exact this.imp fun z => of_decide_eq_true z
  exact List.Perm.eq_of_pairwise (le := fun x y => x ≤ y) (fun x y _ _ h1 h2 => Int.le_antisymm h1 h2) (up a) (up b) (((List.mergeSort_perm _ _).trans h).trans (List.mergeSort_perm _ _).symm)
/-! ### sorted(a list or a tuple of ints) -/
def rSortQ (K : PySem.W.Frag) : List V → Hp → VK → Prop := fun xs H Q => ∃ (a : Addr) (ns : List Int), xs = [.ref a] ∧ (SqL K H a (ns.map V.int) ∨ SqT K H a (ns.map V.int)) ∧
  ∀ p, H p = none → Q (.ref p) (upd H p (.lst ((ns.mergeSort leJ).map V.int)))
section
variable {X : Cx}
theorem call_sortQ (hc : X.calm = true) (hu : X.A.units + 64 < cLine) : CallR X (.builtin "sorted") (rSortQ X.K) := by
  intro pins s σ H xs us Q I r h
  obtain ⟨a, ns, rfl, hS, q⟩ := h
  obtain ⟨u, rfl, ru⟩ := vals1 r
  obtain rfl : u = Value.ref a := ru
  obtain ⟨T, its, o, n, hT, rv, ho, hcl, hdt, hz⟩ : ∃ (T : String) (its : List Value) (o : Obj) (n : Nat), (T = "list" ∨ T = "tuple") ∧ Vals (ns.map V.int) its ∧ s.heap.get? a = some o ∧ o.cls = .type T ∧ o.data = .seq its.toArray n ∧ its.length ≤ sizeLine := by
    rcases hS with hS | hS
    · obtain ⟨its, rv, ⟨o, n, ho, hcl, _, hdt⟩, hz⟩ := I.list hS
      exact ⟨"list", its, o, n, .inl rfl, rv, ho, hcl, hdt, by rw [← rv.length]; exact hz⟩
    · obtain ⟨its, rv, ⟨o, ho, hcl, n, hdt⟩, hz⟩ := I.tuple hS
      exact ⟨"tuple", its, o, n, .inr rfl, rv, ho, hcl, hdt, by rw [← rv.length]; exact hz⟩
  refine PyProof.Rows.call_function_entry_kw kind_sorted plain_sorted entry_sorted (args_sorted1 _) ?_
  unfold Builtin.«sorted»
  refine wpAny_bind (m := checkCount "sorted" 1 1 _) (wpAny_pure ?_)
  refine wpAny_bind (wpAny_collect_seq a hT ho hcl hdt (fun h' hk => ?_) (by rw [List.size_toArray]; exact hz))
  have I2 : L2.Inv X pins σ H { s with heap := h' } := I.kept (t' := s.toks) fun b ob e => hk b ob e
  have ei : its.toArray.toList = its := by simp
  rw [ei]
  have hlen := rv.length
  rw [List.length_map] at hlen
  refine wpAny_bind (wpAny_newList ?_ hz)
  have ho2 : (h'.push (seqObj "list" its.toArray 0)).get? h'.objs.size = some (seqObj "list" its.toArray 0) := Heap.get?_push_size _ rfl
  refine wpAny_bind (wpAny_holding ?_)
  have e := each_vals (val := V.int) rv
  have e2 : ∀ {us : List Value} {bs : List Int}, PySem.W.EachIs (fun u b => RelV (V.int b) u) us bs → PySem.W.EachIs (fun u b => ∃ as, Reads (h'.push (seqObj "list" its.toArray 0)) u (PyData.int b) as ∧ h'.objs.size ∉ as) us bs := by
    intro us bs z
    induction z with
    | nil => exact .nil
    | cons r _ ih =>
      obtain ⟨t, rfl⟩ := r
      exact .cons ⟨[], .int _ t, fun z => by cases z⟩ ih
  refine PySem.W.list_sort_data (A := X.A.in1) (s := { s with heap := h'.push (seqObj "list" its.toArray 0) }) (enc := fun z : Int => PyData.int z) ho2 e (e2 e) (sJ1 ns) (sJ2 ns) (by omega) (fun b _ => ?_) fun out hol hout => ?_
  · have := sJ3 b
    show X.A.units + 1 + 1 + (PyData.int b).depth < cLine
    omega
  · obtain ⟨m, hm⟩ := PyProof.Rows.sortedHeap_at (out := out.toArray) ho2
    have k : ∀ b u, h'.get? b = some u → (sortedHeap (h'.push (seqObj "list" its.toArray 0)) h'.objs.size its out.toArray).get? b = some u := fun b u e => by
      have hb := Heap.lt_size e
      rw [sortedHeap_old (Nat.ne_of_lt hb) (by rw [size_push']; exact Nat.lt_succ_of_lt hb)]
      exact Heap.get?_push_of_some _ e
    refine wpAny_pure ⟨_, rfl, ?_⟩
    have hvals := vals_each (val := V.int) hout
    have hq := q h'.objs.size (I2.hok.fresh (Nat.le_refl _))
    rw [sJ4] at hvals
    refine ⟨.ref h'.objs.size, upd H h'.objs.size (.lst ((ns.mergeSort leJ).map V.int)), I2.laid (t' := s.toks) k (Nat.le_refl _) ⟨?_, out, m, hvals, hm⟩, rfl, hq⟩
    rw [List.length_map, List.length_mergeSort]
    omega
end
section
variable {X : Cx} {K : PySem.W.Frag} {T id : String} {name : Str} {r : V → List V → Hp → VK → Prop} {o e : Expr} {es : List Expr} {to : TE} {t : TA} {apos cpos : Pos}
/-- a method call, the context's K told apart -/
theorem pe_bmK (hK : X.K = K) (pa : PlainAttrs T) (slot : Slot T name id) (hty : typeOf (.builtin id) = pure (.type "method_descriptor")) (hm : MtR X id r) (ho : PE X o to) (ha : PA X (e :: es) t)
    (q1 : attributeBase o name X.env (eval o X.env) = eval o X.env := by rfl)
    (q2 : ((backTo cpos (starEach (e :: es) X.env)).all (fun x => !x.1) && (backToKw cpos (keywordEach [] X.env)).all (fun x => x.1.isSome) && decide ((e :: es).length + ([] : List Keyword).length + (if ([] : List Keyword).isEmpty then 0 else 1) < 30)) = true := by rfl)
    (q3 : (apos.endLine == cpos.line) = true := by rfl) (q4 : starEach (e :: es) X.env = (false, eval e X.env) :: starEach es X.env := by rfl) (q5 : (backTo cpos (starEach es X.env)).any (·.1) = false := by rfl) :
    PE X (.Call (.Attribute o name apos) (e :: es) [] cpos) (tBM K T r to t) := by
  subst hK
  exact pe_bm pa slot hty hm ho ha q1 q2 q3 q4 q5
end
/-! ### a weight -/
section
variable {P : Program} {w : World} {K : PySem.W.Frag} {mg : Str → Option Value} {base : Heap}
def spLoad : Sp := fun vs H Q _ => ∃ (v : V) (x : Int) (wo : Option (List (Int × Int))), vs = [v, .int x] ∧ WtAt H v wo ∧ Q (.int (wtI wo x)) H
theorem scLoad : FnScope ["loads", "row_id"] ["loads", "row_id"] (defScope sLoad) := ⟨rfl, rfl, rfl, by decide +kernel, rfl, by decide +kernel, by decide +kernel⟩
theorem ok_load {f : Addr} {fd : FuncData} (F : Fun K "_law_load" "_law_load" sLoad f fd) : FnOk P w K mg base CX0 1 f fd ["loads", "row_id"] spLoad := by
  refine F.ok scLoad (fun vs H Q E h => ?_) (fun cdv A outer s H vs Q E hr h => ?_)
  · obtain ⟨v, x, wo, rfl, _⟩ := h
    rfl
  · obtain ⟨v, x, wo, rfl, hw, k⟩ := h
    have hu := hu_of hr
    refine ⟨_, pss_one (ps_ret (pe_ifExp (pt_cmpR op_isN (pv 0) pe_non (nomark _)) pe_int (pe_dget2 hu (pv 0) (pv 1) pe_int ⟨rfl, rfl, rfl, rfl⟩))), ?_⟩
    rcases hw with ⟨rfl, rfl⟩ | ⟨d, ws, rfl, rfl, hd⟩
    · exact ⟨_, rfl, rfl, _, rfl, iteT k⟩
    · refine ⟨_, rfl, rfl, _, rfl, iteF ?_⟩
      refine ⟨_, rfl, d, rfl, .inl ⟨_, .inl hd⟩, _, rfl, _, DGet.k (k := (.inl x : Key)) hd, ?_⟩
      have ev : (valV (pinK ws) (.inl x : Key)).getD (.int 1) = .int (wtI (some ws) x) := by
        rw [val_pin]
        show _ = V.int ((anOf ws x).getD 1)
        cases anOf ws x <;> rfl
      rw [ev]
      exact k
end
/-! ### defs by their promises -/
structure Fn (K : PySem.W.Frag) (mg : Str → Option Value) (x : Str) (st : Stmt) (ps : List Str) (f : Addr) (fd : FuncData) : Prop where
  F : Fun K x x st f fd
  b : L2.Binds K fd ps []
  m : mg x = some (.ref f)
def rv (sp : Sp) : Sp := fun vs => sp vs.reverse
/-- a def with keyword-only parameters that all have defaults: called without them, or with all of them -/
structure FnD (P : Program) (w : World) (K : PySem.W.Frag) (mg : Str → Option Value) (base : Heap) (k n : Nat) (x : Str) (ps ks : List Str) (dvs : List V) (sp : Sp) (f : Addr) (fd : FuncData) : Prop where
  G : FnOk P w K mg base CX0 k f fd ps sp
  kp : PySem.W.keepIn K (.ref f) = true
  m : mg x = some (.ref f)
  d : ∃ ds, Vals dvs ds ∧ L2.Binds K fd ps ds
  b : KBn K fd ps n ks (fun us ws => us ++ ws) (fun vs zs => vs ++ zs)
/-! ### orders, weights and favoured ids as data -/
theorem WtAt.but {d : Addr} {H H' : Hp} {v : V} {wo : Option (List (Int × Int))} (D : DeckAt H d) (B : But d H H') (h : WtAt H v wo) : WtAt H' v wo := by
  rcases h with h | ⟨p, ws, h1, h2, h3⟩
  · exact .inl h
  · obtain ⟨x, y, hd, _⟩ := D
    exact .inr ⟨p, ws, h1, h2, B _ _ (ne_of h3 hd (nP _ _)) h3⟩
structure RokL (d : PyData) : Prop where
  o : okW d = true
  dep : d.depth ≤ 5
  sz : szW d ≤ 200000
theorem rokL_list {ids : List Int} (hI : ∀ z ∈ ids, 0 ≤ z ∧ z ≤ 1000000) (hl : ids.length ≤ 300) : RokL (.list (ids.map .int)) := by
  obtain ⟨o1, o2⟩ := ints_okW ids hI
  refine ⟨by rw [okW]; exact o1, by rw [PyData.depth, PySem.W.depth_ints]; decide, by rw [szW, o2]; omega⟩
theorem rokL_tup {ids : List Int} (hI : ∀ z ∈ ids, 0 ≤ z ∧ z ≤ 1000000) (hl : ids.length ≤ 300) : RokL (.tuple (ids.map .int)) := by
  obtain ⟨o1, o2⟩ := ints_okW ids hI
  refine ⟨by rw [okW]; exact o1, by rw [PyData.depth, PySem.W.depth_ints]; decide, by rw [szW, o2]; omega⟩
/-- orders, weights and favoured ids as data -/
theorem four_dw {K : PySem.W.Frag} {H : Hp} {l g fv : Addr} {v : V} {wo : Option (List (Int × Int))} {js ids fav ks : List Int} {n : Nat} {most : Int} (hl : H l = some (.lst (js.map V.int))) (hg : H g = some (.lst (ids.map V.int))) (hw : WtAt H v wo)
    (hf : H fv = some (.lst (fav.map V.int)) ∨ H fv = some (.tup (fav.map V.int))) (bj : ∀ z ∈ js, 0 ≤ z ∧ z ≤ 1000000) (bi : ∀ z ∈ ids, 0 ≤ z ∧ z ≤ 1000000) (bf : ∀ z ∈ fav, 0 ≤ z ∧ z ≤ 1000000) (nj : js.length ≤ 300) (ni : ids.length ≤ 300) (nf : fav.length ≤ 300)
    (hL : LoadsO ks n most wo) (bk : ∀ z ∈ ks, 0 ≤ z ∧ z ≤ 1000000) (hn : n ≤ 300) (hm : most ≤ 1000000) :
    ∃ d : PyData, (okW d = true ∧ d.depth ≤ 40 ∧ szW d ≤ 1000000) ∧ ∀ (H' : Hp) (T : Addr), Same H H' → H' T = some (.tup [.ref l, .ref g, v, .ref fv]) → DW K H' (.ref T) d := by
  obtain ⟨wd, w1, w2⟩ : ∃ wd : PyData, RokL wd ∧ ∀ H', Same H H' → DW K H' v wd := by
    rcases hw with ⟨rfl, _⟩ | ⟨p, ws, rfl, rfl, hp⟩
    · exact ⟨.none, ⟨by rw [okW], by rw [PyData.depth]; decide, by rw [szW]; decide⟩, fun H' _ => .non⟩
    · have L := hL ws rfl
      obtain ⟨p1, p2, p3⟩ := pins_okW ws fun e he => ⟨bk _ (L.2.2 e he).2.2, by have := (L.2.2 e he).1; omega, by have := (L.2.2 e he).2.1; omega⟩
      have := L.2.1
      exact ⟨.dict (pinD ws), ⟨by rw [okW]; exact p1, by rw [PyData.depth, p3]; decide, by rw [szW, p2]; omega⟩, fun H' s => pin_dw (s _ _ hp)⟩
  obtain ⟨fd, f1, f2⟩ : ∃ fd : PyData, RokL fd ∧ ∀ H', Same H H' → DW K H' (.ref fv) fd := by
    rcases hf with hf | hf
    · exact ⟨_, rokL_list bf nf, fun H' s => .lst (SqL.of (s _ _ hf)) (DWs.ints _)⟩
    · exact ⟨_, rokL_tup bf nf, fun H' s => .tup (SqT.of (s _ _ hf)) (DWs.ints _)⟩
  have r1 := rokL_list bj nj
  have r2 := rokL_list bi ni
  refine ⟨.tuple [.list (js.map .int), .list (ids.map .int), wd, fd], ⟨?_, ?_, ?_⟩, fun H' T s hT => .tup (SqT.of hT) (.cons (.lst (SqL.of (s _ _ hl)) (DWs.ints _)) (.cons (.lst (SqL.of (s _ _ hg)) (DWs.ints _)) (.cons (w2 _ s) (.cons (f2 _ s) .nil))))⟩
  · rw [okW, okWs, okWs, okWs, okWs, okWs, r1.o, r2.o, w1.o, f1.o]; rfl
  · have a := r1.dep
    have b := r2.dep
    have c := w1.dep
    have e := f1.dep
    rw [PyData.depth, PyData.depthAll, PyData.depthAll, PyData.depthAll, PyData.depthAll, PyData.depthAll]
    omega
  · have a := r1.sz
    have b := r2.sz
    have c := w1.sz
    have e := f1.sz
    rw [szW, szWs, szWs, szWs, szWs, szWs]
    omega
/-- the same, the favoured ids in a list anywhere -/
theorem four_dwS {K : PySem.W.Frag} {H : Hp} {l g : Addr} {v : V} {wo : Option (List (Int × Int))} {js ids fav ks : List Int} {n : Nat} {most : Int} (hl : H l = some (.lst (js.map V.int))) (hg : H g = some (.lst (ids.map V.int))) (hw : WtAt H v wo)
    (bj : ∀ z ∈ js, 0 ≤ z ∧ z ≤ 1000000) (bi : ∀ z ∈ ids, 0 ≤ z ∧ z ≤ 1000000) (bf : ∀ z ∈ fav, 0 ≤ z ∧ z ≤ 1000000) (nj : js.length ≤ 300) (ni : ids.length ≤ 300) (nf : fav.length ≤ 300)
    (hL : LoadsO ks n most wo) (bk : ∀ z ∈ ks, 0 ≤ z ∧ z ≤ 1000000) (hn : n ≤ 300) (hm : most ≤ 1000000) :
    ∃ d : PyData, (okW d = true ∧ d.depth ≤ 40 ∧ szW d ≤ 1000000) ∧ ∀ (H' : Hp) (T fv : Addr), Same H H' → H' fv = some (.lst (fav.map V.int)) → H' T = some (.tup [.ref l, .ref g, v, .ref fv]) → DW K H' (.ref T) d := by
  obtain ⟨wd, w1, w2⟩ : ∃ wd : PyData, RokL wd ∧ ∀ H', Same H H' → DW K H' v wd := by
    rcases hw with ⟨rfl, _⟩ | ⟨p, ws, rfl, rfl, hp⟩
    · exact ⟨.none, ⟨by rw [okW], by rw [PyData.depth]; decide, by rw [szW]; decide⟩, fun H' _ => .non⟩
    · have L := hL ws rfl
      obtain ⟨p1, p2, p3⟩ := pins_okW ws fun e he => ⟨bk _ (L.2.2 e he).2.2, by have := (L.2.2 e he).1; omega, by have := (L.2.2 e he).2.1; omega⟩
      have := L.2.1
      exact ⟨.dict (pinD ws), ⟨by rw [okW]; exact p1, by rw [PyData.depth, p3]; decide, by rw [szW, p2]; omega⟩, fun H' s => pin_dw (s _ _ hp)⟩
  have f1 := rokL_list bf nf
  have r1 := rokL_list bj nj
  have r2 := rokL_list bi ni
  refine ⟨.tuple [.list (js.map .int), .list (ids.map .int), wd, .list (fav.map .int)], ⟨?_, ?_, ?_⟩, fun H' T fv s hF hT => .tup (SqT.of hT) (.cons (.lst (SqL.of (s _ _ hl)) (DWs.ints _)) (.cons (.lst (SqL.of (s _ _ hg)) (DWs.ints _)) (.cons (w2 _ s) (.cons (.lst (SqL.of hF) (DWs.ints _)) .nil))))⟩
  · rw [okW, okWs, okWs, okWs, okWs, okWs, r1.o, r2.o, w1.o, f1.o]; rfl
  · have a := r1.dep
    have b := r2.dep
    have c := w1.dep
    have e := f1.dep
    rw [PyData.depth, PyData.depthAll, PyData.depthAll, PyData.depthAll, PyData.depthAll, PyData.depthAll]
    omega
  · have a := r1.sz
    have b := r2.sz
    have c := w1.sz
    have e := f1.sz
    rw [szW, szWs, szWs, szWs, szWs, szWs]
    omega
/-! ### list(d.values()), sorted(set) -/
def rListVals : List V → Hp → VK → Prop := fun vs H Q => ∃ (p a : Addr) (kvs : List (Key × V)), vs = [.ref p] ∧ H p = some (valsO p a) ∧ H a = some (.dK kvs) ∧ ∀ q, H q = none → Q (.ref q) (upd H q (.lst (kvs.map Prod.snd)))
def rSortSet : List V → Hp → VK → Prop := fun vs H Q => ∃ (a : Addr) (S : Int → Bool) (n : Nat), vs = [.ref a] ∧ H a = some (.set S n) ∧ n < 64 ∧
  ∀ (p : Addr) (ns : List Int), H p = none → ns.Pairwise (· < ·) → (∀ k, k ∈ ns ↔ S k = true) → ns.length = n → Q (.ref p) (upd H p (.lst (ns.map V.int)))
section
variable {X : Cx}
theorem cr_listVals (hc : X.calm = true) : CallR X (.type "list") rListVals := by
  intro pins s σ H vs us Q I r h
  obtain ⟨p, a, kvs, rfl, hp, ha, q⟩ := h
  obtain rfl := Vals.ref1 r
  obtain ⟨hz, hsys, ws, rel, dof⟩ := dk_of I.hok ha
  obtain ⟨ep, dat⟩ := dof.dictAt
  obtain ⟨hview, _, _⟩ : L2.ObjOk X.prog X.w H s.heap p (valsO p a) := I.hok p _ hp
  have hl : kvs.length = ws.length := Paired.length rel
  refine PySem.W.kdl_call (PySem.W.kdl_values (knd := mixKind X.prog X.w) (kvs := ws) (ep := ep)) (I.ok.hd hc) ⟨hview, dat⟩ (by rw [← hl]; exact hz) fun h' tk acc' c' hkeep hS hacc => ?_
  refine ⟨.ref s.heap.objs.size, upd H s.heap.objs.size (.lst (kvs.map Prod.snd)), I.laid (t' := tk) hkeep (Nat.le_refl _) (show L2.ObjOk X.prog X.w _ _ _ (.lst (kvs.map Prod.snd)) from ⟨?_, acc'.toList, c', ?_, ?_⟩), rfl, q _ (I.hok.fresh (Nat.le_refl _))⟩
  · rw [List.length_map]; exact hz
  · have el : acc'.toList.length = acc'.size := by simp
    refine vals_of_at (by rw [List.length_map, el, hacc.1, hl]) fun j x u h1 h2 => ?_
    obtain ⟨k, hky⟩ := hacc.2 j u (by rw [← Array.getElem?_toList]; exact h2)
    obtain ⟨y, e1, e2⟩ := KV.at' rel hky
    have e3 : (kvs.map Prod.snd)[j]? = some y := by rw [List.getElem?_map, e1]; rfl
    rw [e3] at h1
    cases h1
    exact e2
  · rw [Array.toArray_toList]; exact hS
end
/-! ### set(list of ints), as a set that can be sorted -/
section
variable {P : Program} {w : World} {A : Around} {E : Value → Shared → Prop} {s : Shared}
/-- the set that has just been laid -/
abbrev setOb (w : World) : Obj := { cls := .type "set", dict := none, data := .set #[] 0 (.fresh 0 0 (!w.params.followText "set-order")) }
theorem call_setL {l : Addr} {items : Array Value} (ns : List Int) {Q : Value → Shared → Prop} (hh : A.handled = none) (hl : s.heap.IsList l items) (hit : IntsAre items.toList ns) (hb : ns.length + 1 < scanBound)
    (h : ∀ (h' : Heap) (tk c : Nat), SetR w h' s.heap.objs.size (fun j => decide (j ∈ ns)) c → c ≤ ns.length → (∀ b o, s.heap.get? b = some o → h'.get? b = some o) → Q (.ref s.heap.objs.size) { s with heap := h', toks := tk }) :
    wpAny (model P w) A (call (.type "set") [.ref l]) Q E s := by
  have hisz : items.size = ns.length := by
    have q := IntsAre.length hit
    rw [Array.length_toList] at q
    exact q
  obtain ⟨c, tl, hmro⟩ := F.called_set.mro
  have hmade := F.called_set.made
  have hsub := F.called_set.sub
  refine wpAny_call (codeAny_of_tree ?_)
  show wpAny _ _ (callAny (.type "set") _) _ _ _
  refine wpAny_pure ⟨Code.quiet_builtin _ (by decide +kernel), codeAny_builtin F.entry_type_call ?_⟩
  rw [Around.under_plain (weight_type_call_type "set" [.ref l] []) rfl]
  have h1 := F.called_set.notType
  have h2 := F.called_set.canCreate
  have hct := F.typeCall_set_1 (.ref l)
  repeat (any_goals (first | assumption | wp_step))
  refine codeAny_mono (code_set_led1 (.ref l) (E := E) (Q₁ := fun obj s₁ => obj = .ref s.heap.objs.size ∧ s₁ = { s with heap := s.heap.push (setOb w) }) ⟨rfl, rfl⟩) fun r s₁ hr => ?_
  cases r with
  | error e => exact hr
  | ok fl =>
    cases fl with
    | ret obj =>
      obtain ⟨rfl, rfl⟩ := hr
      have hS : (s.heap.push (setOb w)).get? s.heap.objs.size = some (setOb w) := Heap.get?_push_size _ rfl
      have hT : Shared.TypeIs { s with heap := s.heap.push (setOb w) } (.ref s.heap.objs.size) "set" := ⟨_, hS, rfl⟩
      have hli := F.called_set.init.lookup
      have hbi := F.called_set.init.bind (.ref s.heap.objs.size)
      repeat (any_goals (first | assumption | wp_step))
      refine codeAny_mono (codeAny_call_builtin (R := wants (fun r s₂ => r = .none ∧ ∃ h' tk c, s₂ = { s with heap := h', toks := tk } ∧ SetR w h' s.heap.objs.size (fun j => decide (j ∈ ns)) c ∧ c ≤ ns.length ∧
          (∀ b o, s.heap.get? b = some o → h'.get? b = some o)) E) F.called_set.init.plain F.entry_set_init (check_set_init_1 hT ?_)) fun r₂ s₂ hr₂ => ?_
      · obtain ⟨ol, hol, hcl, nl, hdl⟩ := hl
        obtain ⟨ocls, odict, odata, oslots⟩ := ol
        simp only at hcl hdl
        subst hcl; subst hdl
        have hol' : (s.heap.push (setOb w)).get? l = some { cls := .type "list", dict := odict, data := .seq items nl, slots := oslots } := Heap.get?_push_of_some _ hol
        have hsls := F.sub_list_set
        have hslf := F.sub_list_frozenset
        have hne : (Value.type "list" == Value.type "dict") = false := by decide
        have hl1 : (s.heap.push (setOb w)).IsList l items := ⟨_, hol', rfl, nl, rfl⟩
        unfold Builtin.«set.__init__» noKeywords Builtin.Frozenset.updateFrom
        generalize hPI : pyIter = PI
        wp_walk
        subst hPI
        refine wpAny_pyIter_list hl1 ?_
        refine wpAny_bind (wpAny_runValue ?_)
        have hlS : l < s.heap.objs.size := Heap.lt_size hol
        have hh3 : A.in1.in1.in1.handled = none := by simp [hh]
        have hz1 : (s.heap.push (setOb w)).objs.size = s.heap.objs.size + 1 := Heap.size_push ..
        have hneI : l ≠ (s.heap.push (setOb w)).objs.size := by rw [hz1]; exact Nat.ne_of_lt (Nat.lt_succ_of_lt hlS)
        have hSf : s.heap.objs.size ∉ [(s.heap.push (setOb w)).objs.size, l] := by
          rw [hz1]
          simp only [List.mem_cons, List.not_mem_nil, or_false, not_or]
          exact ⟨Nat.ne_of_lt (Nat.lt_succ_self _), Nat.ne_of_gt hlS⟩
        have hval : ∀ (i : Nat) (v : Value), items[i]? = some v → ∃ k t, ns[i]? = some k ∧ v = .int k t := fun i v hv => by
          have hi : i < ns.length := by rw [← hisz]; exact (Array.getElem?_eq_some_iff.mp hv).1
          obtain ⟨t, e⟩ := PyProof.Rows.IntsAre.int_at hit i v (by rw [Array.getElem?_toList]; exact hv)
          refine ⟨ns[i], t, List.getElem?_eq_getElem hi, ?_⟩
          rw [e, List.getD_eq_getElem?_getD, List.getElem?_eq_getElem hi] <;> rfl
        refine set_update_ints ((Walks.list hh3 _ l hneI items).toS) s.heap.objs.size hSf ns hisz hb hval (items.size - 0) 0 _ (by omega) (Nat.zero_le _) ⟨⟨_, Heap.get?_push_size _ rfl, rfl, rfl⟩, (hl1.push _)⟩ ?hS0 ?hR
        case hS0 => exact ⟨0, Nat.le_refl 0, setR_new_at (Heap.get?_push_of_some _ hS)⟩
        case hR =>
          intro s' c' hm hc' hS'
          obtain ⟨h', g2, d', tk', os'⟩ := s'
          have eg : g2 = s.gens := hm.gens
          have ed : d' = s.drawn := hm.drawn
          have eo : os' = s.os := hm.os
          subst eg; subst ed; subst eo
          show wpAny _ _ _ _ _ _
          refine wpAny_pure ?_
          show wpAny _ _ (ret Value.none) _ _ _
          rw [hisz] at hc'
          refine wpAny_pure ⟨rfl, h', tk', c', rfl, hS', hc', fun b o e => ?_⟩
          have hb0 : b < s.heap.objs.size := Heap.lt_size e
          have hb2 : b ≠ (s.heap.push (setOb w)).objs.size := by rw [hz1]; exact Nat.ne_of_lt (Nat.lt_succ_of_lt hb0)
          exact hm.heap b o (by simp only [List.mem_cons, List.not_mem_nil, or_false, not_or]; exact ⟨Nat.ne_of_lt hb0, hb2⟩) (Heap.get?_push_of_some _ (Heap.get?_push_of_some _ e))
      · cases r₂ with
        | error e => exact hr₂
        | ok fl₂ =>
          cases fl₂ with
          | ret r =>
            obtain ⟨rfl, h', tk, c', rfl, hS', hc', hk'⟩ := hr₂
            repeat (any_goals (first | assumption | wp_step))
            exact h _ _ _ hS' hc' hk'
          | _ => exact hr₂.elim
    | _ => exact hr.elim
end
section
variable {X : Cx}
def rSetL (K : PySem.W.Frag) (w : World) : List V → Hp → VK → Prop := fun xs H Q => ∃ (p : Addr) (ns : List Int), xs = [.ref p] ∧ SqL K H p (ns.map V.int) ∧ ns.length ≤ 4000 ∧
  ∀ (q : Addr) (n : Nat), H q = none → n ≤ ns.length → Q (.ref q) (upd H q (SetO w q (fun j => decide (j ∈ ns)) n))
theorem cr_setL (hc : X.calm = true) : CallR X (.type "set") (rSetL X.K X.w) := by
  intro pins s σ H xs us Q I r h
  obtain ⟨p, ns, rfl, hq, hlen, k⟩ := h
  rw [Vals.ref1 r]
  have hs : scanBound = 4096 := rfl
  obtain ⟨its, rv, pl, hz⟩ := I.list hq
  refine call_setL ns (I.ok.hd hc) pl.isList (Vals.ints rv) (by rw [hs]; omega) fun h' tk c R hle kk => ?_
  have I' := I.laid (a := s.heap.objs.size) (o := SetO X.w s.heap.objs.size (fun j => decide (j ∈ ns)) c) (h' := h') (t' := tk) (fun b u e => kk b u e) (Nat.le_refl _) (setO_new R)
  exact ⟨.ref _, _, I', rfl, k _ _ (I.hok.fresh (Nat.le_refl _)) hle⟩
end
/-! ### sorted(a set of ints), of any size -/
def rSortS (w : World) : List V → Hp → VK → Prop := fun vs H Q => ∃ (a : Addr) (S : Int → Bool) (n : Nat), vs = [V.ref a] ∧ H a = some (SetO w a S n) ∧ n < 4096 ∧
  ∀ (ns : List Int) (p : Addr), ns.Pairwise (· < ·) → (∀ k : Int, k ∈ ns ↔ S k = true) → ns.length = n → H p = none → Q (.ref p) (upd H p (.lst (ns.map V.int)))
theorem each_ints : ∀ {vs : List Value} {ns : List Int}, IntsAre vs ns → PySem.W.EachIs (fun u b => RelV (V.int b) u) vs ns := by
  intro vs ns h
  induction h with
  | nil => exact .nil
  | cons _ _ _ ih => exact .cons ⟨_, rfl⟩ ih
theorem cr_sortS {X : Cx} (hc : X.calm = true) (hu : X.A.units + 64 < cLine) : CallR X (.builtin "sorted") (rSortS X.w) := by
  intro pins s σ H vs us Q I r h
  obtain ⟨a, S, n, rfl, ha, h64, q⟩ := h
  obtain ⟨o, es, ep, t, ho, hex, hd, g, nd, hm, hb, hf, hn, hr, hl⟩ := setO_get I ha
  rw [Vals.ref1 r]
  refine PyProof.Rows.call_function_entry_kw kind_sorted plain_sorted entry_sorted (args_sorted1 _) ?_
  unfold Builtin.«sorted»
  refine wpAny_bind (m := checkCount "sorted" 1 1 _) (wpAny_pure ?_)
  refine wpAny_bind (collect_set (A := X.A.in1) (I.ok.hd hc) ⟨o, ho, hex.1, hd⟩ hf hb hr hl fun s1 vs k1 hz g1 o1 pm => ?_)
  have hvl : vs.length = n := by rw [pm.length_eq, List.length_map, Array.length_toList]; exact hn
  have hI : IntsAre vs (vs.map Builtin.Re.reRawOf) := ints_of vs fun v hv => by
    obtain ⟨e, he, q⟩ := List.mem_map.mp (pm.mem_iff.mp hv)
    obtain ⟨k, tk, h1, _⟩ := g e he
    exact ⟨k, tk, by rw [← q]; exact h1⟩
  have pk : (vs.map Builtin.Re.reRawOf).Perm (es.toList.map keyOf) := by
    have q := pm.map Builtin.Re.reRawOf
    rw [List.map_map] at q
    exact q
  have h16 : sizeLine = 16777216 := sizeLine_eq
  refine wpAny_bind (wpAny_newList ?_ (by rw [hvl]; omega))
  have ho2 : (s1.heap.push (seqObj "list" vs.toArray 0)).get? s1.heap.objs.size = some (seqObj "list" vs.toArray 0) := Heap.get?_push_size _ rfl
  refine wpAny_bind (wpAny_holding ?_)
  obtain ⟨ms, hms⟩ : ∃ ms, ms = vs.map Builtin.Re.reRawOf := ⟨_, rfl⟩
  rw [← hms] at hI pk
  have hml : ms.length = n := by rw [hms, List.length_map]; exact hvl
  have e := each_ints hI
  have e2 : ∀ {us : List Value} {bs : List Int}, PySem.W.EachIs (fun u b => RelV (V.int b) u) us bs → PySem.W.EachIs (fun u b => ∃ as, Reads (s1.heap.push (seqObj "list" vs.toArray 0)) u (PyData.int b) as ∧ s1.heap.objs.size ∉ as) us bs := by
    intro us bs z
    induction z with
    | nil => exact .nil
    | cons r _ ih =>
      obtain ⟨t, rfl⟩ := r
      exact .cons ⟨[], .int _ t, fun z => by cases z⟩ ih
  refine PySem.W.list_sort_data (A := X.A.in1) (s := { s1 with heap := s1.heap.push (seqObj "list" vs.toArray 0) }) (enc := fun z : Int => PyData.int z) ho2 e (e2 e) (sJ1 ms) (sJ2 ms) (by omega) (fun b _ => ?_) fun out hol hout => ?_
  · have := sJ3 b
    show X.A.units + 1 + 1 + (PyData.int b).depth < cLine
    omega
  · obtain ⟨c, hc2⟩ := PyProof.Rows.sortedHeap_at (out := out.toArray) ho2
    have k : ∀ b u, s.heap.get? b = some u → (sortedHeap (s1.heap.push (seqObj "list" vs.toArray 0)) s1.heap.objs.size vs out.toArray).get? b = some u := fun b u e => by
      have q := k1 b u e
      have hb := Heap.lt_size q
      rw [sortedHeap_old (Nat.ne_of_lt hb) (by rw [size_push']; exact Nat.lt_succ_of_lt hb)]
      exact Heap.get?_push_of_some _ q
    refine wpAny_pure ⟨_, rfl, ?_⟩
    have hvals := vals_each (val := V.int) hout
    rw [sJ4] at hvals
    obtain ⟨ns, hns⟩ : ∃ ns, ns = ms.mergeSort leJ := ⟨_, rfl⟩
    rw [← hns] at hvals
    have pn : ns.Perm (es.toList.map keyOf) := by rw [hns]; exact (List.mergeSort_perm _ _).trans pk
    have hnl : ns.length = n := by rw [hns, List.length_mergeSort]; exact hml
    have le : ns.Pairwise (fun x y => x ≤ y) := by
      rw [hns]
      have := List.pairwise_mergeSort (le := leJ) (fun a b c x y => decide_eq_true (Int.le_trans (of_decide_eq_true x) (of_decide_eq_true y))) (fun a b => by
        unfold leJ
        rcases Int.le_total a b with q | q
        · rw [decide_eq_true q]; rfl
        · rw [decide_eq_true q, Bool.or_true]) ms
      exact this.imp fun z => of_decide_eq_true z
    have lt : ns.Pairwise (· < ·) := lt_of_le_nodup ns le (pn.nodup_iff.mpr nd)
    have hlen : (ns.map V.int).length ≤ sizeLine := by rw [List.length_map, hnl]; omega
    have hpn : H s1.heap.objs.size = none := I.hok.fresh hz
    have J : L2.Inv X pins σ (upd H s1.heap.objs.size (.lst (ns.map V.int))) { s with heap := sortedHeap (s1.heap.push (seqObj "list" vs.toArray 0)) s1.heap.objs.size vs out.toArray, gens := s1.gens, drawn := s1.drawn, toks := s1.toks } :=
      I.call (ch := []) (Un.laid k hz hpn) (I.hok.laid k hz ⟨hlen, out, c, hvals, hc2⟩) (by show AllBare s1.gens; rw [g1]; exact I.bare) (fun _ z => nomatch z)
    have es : ({ s1 with heap := sortedHeap (s1.heap.push (seqObj "list" vs.toArray 0)) s1.heap.objs.size vs out.toArray } : Shared) = { s with heap := sortedHeap (s1.heap.push (seqObj "list" vs.toArray 0)) s1.heap.objs.size vs out.toArray, gens := s1.gens, drawn := s1.drawn, toks := s1.toks } := by
      cases s1
      cases s
      cases o1
      rfl
    rw [es]
    exact ⟨.ref s1.heap.objs.size, _, J, rfl, q ns s1.heap.objs.size lt (fun k => by rw [pn.mem_iff, ← hm k]) hnl hpn⟩
/-! ### the level cover -/
def insU (x : Int) : List Int → List Int
  | [] => [x]
  | y :: r => if x < y then x :: y :: r else if x = y then y :: r else y :: insU x r
theorem insU_mem (x : Int) : ∀ (l : List Int) (z : Int), z ∈ insU x l ↔ z = x ∨ z ∈ l
  | [], z => by unfold insU; simp
  | y :: r, z => by
    unfold insU
    split
    · simp
    · split
      · rename_i h
        subst h
        simp
      · rw [List.mem_cons, insU_mem x r z, List.mem_cons]
        constructor
        · rintro (h | h | h)
          · exact .inr (.inl h)
          · exact .inl h
          · exact .inr (.inr h)
        · rintro (h | h | h)
          · exact .inr (.inl h)
          · exact .inl h
          · exact .inr (.inr h)
theorem insU_up (x : Int) : ∀ {l : List Int}, l.Pairwise (· < ·) → (insU x l).Pairwise (· < ·)
  | [], _ => List.pairwise_singleton _ _
  | y :: r, h => by
    obtain ⟨h1, h2⟩ := List.pairwise_cons.mp h
    unfold insU
    split
    · rename_i q
      refine List.pairwise_cons.mpr ⟨fun z hz => ?_, h⟩
      rcases List.mem_cons.mp hz with e | e
      · rw [e]; exact q
      · exact Int.lt_trans q (h1 z e)
    · split
      · exact h
      · refine List.pairwise_cons.mpr ⟨fun z hz => ?_, insU_up x h2⟩
        rcases (insU_mem x r z).mp hz with e | e
        · rw [e]; omega
        · exact h1 z e
/-- the different numbers of a list, ascending -/
def boundsI (l : List Int) : List Int := l.foldr insU []
theorem bounds_mem : ∀ (l : List Int) (z : Int), z ∈ boundsI l ↔ z ∈ l
  | [], z => Iff.rfl
  | x :: r, z => by
    show z ∈ insU x (boundsI r) ↔ _
    rw [insU_mem, bounds_mem r z, List.mem_cons]
theorem bounds_up : ∀ l : List Int, (boundsI l).Pairwise (· < ·)
  | [] => List.Pairwise.nil
  | x :: r => insU_up x (bounds_up r)
theorem up_nodup {l : List Int} (h : l.Pairwise (· < ·)) : l.Nodup := h.imp fun {a b} z e => by omega
theorem up_eq {a b : List Int} (ha : a.Pairwise (· < ·)) (hb : b.Pairwise (· < ·)) (h : ∀ z, z ∈ a ↔ z ∈ b) : a = b :=
  List.Perm.eq_of_pairwise (le := fun x y : Int => x < y) (fun x y _ _ h1 h2 => by omega) ha hb ((List.perm_ext_iff_of_nodup (up_nodup ha) (up_nodup hb)).mpr fun z => h z)
theorem insU_len (x : Int) : ∀ l : List Int, (insU x l).length ≤ l.length + 1
  | [] => Nat.le_refl _
  | y :: r => by
    have := insU_len x r
    unfold insU
    split
    · exact Nat.le_refl _
    · split
      · exact Nat.le_succ _
      · rw [List.length_cons, List.length_cons]; omega
theorem bounds_len : ∀ l : List Int, (boundsI l).length ≤ l.length
  | [] => Nat.le_refl _
  | x :: r => by
    have a := insU_len x (boundsI r)
    have b := bounds_len r
    show (insU x (boundsI r)).length ≤ _
    rw [List.length_cons]; omega
/-- the runs between bounds that follow each other -/
def runsOf (ids : List Int) (tp fl : Int → Int) (b : List Int) : List (Int × List Int) := (b.zip (b.drop 1)).map fun e => (e.2 - e.1, ids.filter fun x => decide (fl x ≤ e.1) && decide (e.2 ≤ tp x))
def covF (ids : List Int) (tp fl : Int → Int) : List (Int × List Int) := runsOf ids tp fl (boundsI (ids.map fl ++ ids.map tp))
theorem cov_len (ids : List Int) (tp fl : Int → Int) : (covF ids tp fl).length ≤ 2 * ids.length := by
  unfold covF runsOf
  have := bounds_len (ids.map fl ++ ids.map tp)
  rw [List.length_append, List.length_map, List.length_map] at this
  rw [List.length_map, List.length_zip]
  omega
theorem cov_sub {ids : List Int} {tp fl : Int → Int} {r : Int × List Int} (h : r ∈ covF ids tp fl) : r.2.Sublist ids := by
  unfold covF runsOf at h
  obtain ⟨e, _, rfl⟩ := List.mem_map.mp h
  exact List.filter_sublist
/-! ### runs in the heap -/
def RunAt (H : Hp) (v : V) (r : Int × List Int) : Prop := ∃ t u, v = .ref t ∧ H t = some (.tup [.int r.1, .ref u]) ∧ H u = some (.tup (r.2.map V.int))
theorem RunAt.same {H H' : Hp} {v : V} {r : Int × List Int} (s : Same H H') (h : RunAt H v r) : RunAt H' v r := by
  obtain ⟨t, u, e, h1, h2⟩ := h
  exact ⟨t, u, e, s _ _ h1, s _ _ h2⟩
theorem RunAt.put {H : Hp} {v : V} {r : Int × List Int} {q : Addr} {xs : List V} {o : HO} (hq : H q = some (.lst xs)) (h : RunAt H v r) : RunAt (upd H q o) v r := by
  obtain ⟨t, u, e, h1, h2⟩ := h
  exact ⟨t, u, e, by rw [upd_ne (ne_of h1 hq (fun z => by cases z))]; exact h1, by rw [upd_ne (ne_of h2 hq (fun z => by cases z))]; exact h2⟩
def RunsAt (H : Hp) (q : Addr) (rs : List (Int × List Int)) : Prop := ∃ vs : List V, H q = some (.lst vs) ∧ vs.length = rs.length ∧ ∀ (i : Nat) (v : V) (r : Int × List Int), vs[i]? = some v → rs[i]? = some r → RunAt H v r
theorem RunsAt.nil {H : Hp} {q : Addr} (h : H q = some (.lst [])) : RunsAt H q [] := ⟨[], h, rfl, fun i v r e => by simp at e⟩
theorem RunsAt.same {H H' : Hp} {q : Addr} {rs : List (Int × List Int)} (s : Same H H') (h : RunsAt H q rs) : RunsAt H' q rs := by
  obtain ⟨vs, h1, h2, h3⟩ := h
  exact ⟨vs, s _ _ h1, h2, fun i v r e1 e2 => (h3 i v r e1 e2).same s⟩
theorem RunsAt.push {H : Hp} {q : Addr} {rs : List (Int × List Int)} {v : V} {r : Int × List Int} (h : RunsAt H q rs) (hv : RunAt H v r) : ∃ vs, H q = some (.lst vs) ∧ vs.length = rs.length ∧ RunsAt (upd H q (.lst (vs ++ [v]))) q (rs ++ [r]) := by
  obtain ⟨vs, h1, h2, h3⟩ := h
  refine ⟨vs, h1, h2, vs ++ [v], upd_same, by rw [List.length_append, List.length_append, h2]; rfl, fun i w t e1 e2 => ?_⟩
  by_cases hi : i < vs.length
  · rw [List.getElem?_append_left hi] at e1
    rw [List.getElem?_append_left (by omega)] at e2
    exact (h3 i w t e1 e2).put h1
  · rw [List.getElem?_append_right (by omega)] at e1
    rw [List.getElem?_append_right (by omega)] at e2
    have hj : i - vs.length = 0 := by
      cases z : i - vs.length with
      | zero => rfl
      | succ m => rw [z] at e1; simp at e1
    rw [hj] at e1
    rw [show i - rs.length = 0 by omega] at e2
    simp at e1 e2
    subst e1; subst e2
    exact hv.put h1
/-! ### level_cover -/
structure TxtC (mg : Str → Option Value) : Prop where
  list : mg "list" = none
  set : mg "set" = none
  sorted : mg "sorted" = none
  zip : mg "zip" = none
  tuple : mg "tuple" = none
section
variable {P : Program} {w : World} {K : PySem.W.Frag} {mg : Str → Option Value} {base : Heap}
abbrev NC : List Str := ["base", "goal", "weights", "full", "tops", "floors", "bounds", "cover", "low", "high", "ids", "row_id"]
theorem scCover : FnScope NC ["base", "goal", "weights"] (defScope sCover) := ⟨rfl, rfl, rfl, by decide +kernel, rfl, by decide +kernel, by decide +kernel⟩
def spCover (K : PySem.W.Frag) : Sp := fun vs H Q _ => ∃ (b g : Addr) (v : V) (bs ids : List Int) (wo : Option (List (Int × Int))), vs = [.ref b, .ref g, v] ∧ SqL K H b (bs.map V.int) ∧ SqL K H g (ids.map V.int) ∧ WtAt H v wo ∧
  bs.Nodup ∧ bs.length ≤ 300 ∧ ids.Nodup ∧ ids.length ≤ 300 ∧ (∀ x ∈ ids, x ∈ bs) ∧
  ∀ (q : Addr) (H' : Hp), Same H H' → H q = none → RunsAt H' q (covF ids (topI (ixI bs) (wtI wo) ids) fun x => topI (ixI bs) (wtI wo) ids x - wtI wo x) → Q (.ref q) H'
theorem pin_vals (f : Int → Int) (l : List Int) : (pinK (tabP f l)).map Prod.snd = (l.map f).map V.int := by
  unfold pinK tabP
  rw [List.map_map, List.map_map, List.map_map]; rfl
theorem ok_cover {f fU fT : Addr} {fd fdU fdT : FuncData} {kws : List (Str × V)} (F : FunD K "level_cover" "level_cover" (defArgs sCover) (defBody sCover) (defScope sCover) [] kws f fd) (T : TxtC mg)
    (GU : FnOk P w K mg base CX0 1 fU fdU ["ids", "weights"] (spFull K)) (kU : PySem.W.keepIn K (.ref fU) = true) (bU : L2.Binds K fdU ["ids", "weights"] []) (mU : mg "full_weights" = some (.ref fU))
    (GT : FnOk P w K mg base CX0 2 fT fdT ["base", "goal", "worths"] (spTops K)) (kT : PySem.W.keepIn K (.ref fT) = true) (bT : L2.Binds K fdT ["base", "goal", "worths"] []) (mT : mg "top_levels" = some (.ref fT)) :
    FnOk P w K mg base CX0 3 f fd ["base", "goal", "weights"] (spCover K) := by
  refine FunD.ok0 F scCover (fun vs H Q E h => ?_) (fun cdv A outer s H vs Q E hr h => ?_)
  · obtain ⟨b, g, v, bs, ids, wo, rfl, _⟩ := h
    rfl
  · obtain ⟨b, g, v, bs, ids, wo, rfl, hb, hg, hw, nb, lb, nd, hlen, hsub, k⟩ := h
    have hu := hu_of hr
    have h64 := hu64 hr
    have hr1 : Room 1 _ := hr.mono (by decide)
    refine ⟨_, pss_cons (ps_set (i := 3) scCover.nd rfl (Or.inr rfl) (pe_call GU hr1 rfl mU kU bU .nil pass0 (pa_cons (pv 1) (pa_cons (pv 2) pa_nil))))
    (pss_cons (ps_set (i := 4) scCover.nd rfl (Or.inr rfl) (pe_call GT hr rfl mT kT bT .nil pass0 (pa_cons (pv 0) (pa_cons (pv 1) (pa_cons (pv 3) pa_nil)))))
    (pss_cons (ps_set (i := 5) scCover.nd rfl (Or.inr rfl) (pe_dc (own := [("row_id", 11)]) (tt := tYes) (g := gName 11) rfl scCover.nd (pi_list (pv 1)) (blkOk_by (N := NC) (sc := defScope sCover) (by decide +kernel))
        (fun _ _ _ _ _ => pg_name (i := 11) scCover.nd rfl (Or.inl rfl)) (fun _ _ _ _ _ => pts_nil) (fun _ _ _ _ _ => pv 11) (fun _ _ _ _ _ => pe_op op_sub (pe_dget hu (pv 4) (pv 11) (fun _ _ => rfl)) (pe_dget hu (pv 3) (pv 11) (fun _ _ => rfl)))))
    (pss_cons (ps_set (i := 6) scCover.nd rfl (Or.inl rfl) (pe_callB (cr_sortS rfl h64) (by rfl) T.sorted (by decide +kernel) (pa_cons (pe_callTy (cr_setL rfl) (by rfl) T.set (by decide +kernel) (pa_cons (pe_op op_cat
        (pe_callTy (cr_listVals rfl) (by rfl) T.list (by decide +kernel) (pa_cons (pe_bm0 PySem.F.plainAttrs_dict PySem.F.slot_dict_values PySem.F.type_dict_values mt_valsK (pv 5)) pa_nil))
        (pe_callTy (cr_listVals rfl) (by rfl) T.list (by decide +kernel) (pa_cons (pe_bm0 PySem.F.plainAttrs_dict PySem.F.slot_dict_values PySem.F.type_dict_values mt_valsK (pv 4)) pa_nil))) pa_nil)) pa_nil)))
    (pss_cons (ps_set (i := 7) scCover.nd rfl (Or.inl rfl) (pe_lst pa_nil))
    (pss_cons (ps_for PassesOwn.never rfl (pi_zip (by rfl) T.zip (pa_cons (pv 6) (pa_cons (pe_slice sl_list (pv 6) (po_some pe_int) po_none) pa_nil))) (pg_tup rfl (pgs_cons (pg_name (i := 8) scCover.nd rfl (Or.inr rfl)) (pgs_cons (pg_name (i := 9) scCover.nd rfl (Or.inr rfl)) pgs_nil)))
      (pss_cons (ps_setLc (i := 10) (own := [("row_id", 11)]) (g := gName 11) rfl scCover.nd rfl rfl rfl (pi_list (pv 1)) (blkOk_by (N := NC) (sc := defScope sCover) (by decide +kernel)) (fun _ _ _ _ _ => pg_name (i := 11) scCover.nd rfl (Or.inl rfl))
        (fun _ _ _ _ _ => pts_one (PW.pt (pw_and (pt_cmpR op_le (pe_dget hu (pv 5) (pv 11) (fun _ _ => rfl)) (pv 8) (nomark _)) (pw_and1 (pt_cmpR op_le (pv 9) (pe_dget hu (pv 4) (pv 11) (fun _ _ => rfl)) (nomark _)))))) (fun _ _ _ _ _ => pv 11))
      (pss_one (ps_expr (pe_bm PySem.F.plainAttrs_list PySem.F.slot_list_append PySem.F.type_list_append mt_append (pv 7) (pa_cons (pe_tup (pa_cons (pe_op op_sub (pv 9) (pv 8)) (pa_cons (pe_callTy call_tuple_of (by rfl) T.tuple (by decide +kernel) (pa_cons (pv 10) pa_nil)) pa_nil))) pa_nil))))))
    (pss_one (ps_ret (pv 7)))))))), ?_⟩
    have h16 : sizeLine = 16777216 := sizeLine_eq
    refine ⟨_, rfl, _, rfl, g, v, ids, wo, rfl, hg, hw, nd, hlen, fun fu H1 s1 hfu hFU => ?_⟩
    refine ⟨_, rfl, _, rfl, _, rfl, b, g, fu, bs, ids, _, wtI wo, rfl, s1.seq hb, s1.seq hg, hFU, fun x hx => tab_an hx, nb, lb, nd, hlen, hsub, fun tq H2 s2 htq hTP => ?_⟩
    obtain ⟨tp, htp⟩ : ∃ tp, tp = topI (ixI bs) (wtI wo) ids := ⟨_, rfl⟩
    rw [← htp] at hTP k
    have s12 := s1.trans s2
    have hFU2 := s2 _ _ hFU
    -- floors
    refine ⟨_, rfl, g, rfl, ⟨_, s12.seq hg⟩, fun D hD => ?_⟩
    obtain ⟨fl, hfl⟩ : ∃ fl : Int → Int, fl = fun x => tp x - wtI wo x := ⟨_, rfl⟩
    rw [← hfl] at k
    refine dc_it (walk_list (K := K) (a := g) (xs := ids.map V.int)) (fun i H' => Same H2 H' ∧ i ≤ ids.length ∧ H' D = some (.dK (pinK (tabP fl (ids.take i))))) ⟨Same.new hD, Nat.zero_le _, by rw [List.take_zero]; exact upd_same⟩ (fun i H' _ q => (s12.trans q.1).seq hg) ?_ ?_
    · rintro i y H3 H4 hi ⟨s3, hil, hP⟩ ⟨rfl, e2⟩
      rw [List.length_map] at hi
      obtain ⟨x, hx, rfl⟩ := int_at e2
      have hxm := List.mem_of_getElem? hx
      have dgt : DGet H4 tq (.int x) (some (.int (tp x))) := by
        have := DGet.k (k := (.inl x : Key)) (s3 _ _ hTP)
        rw [val_pin, tab_an hxm] at this
        exact this
      have dgf : DGet H4 fu (.int x) (some (.int (wtI wo x))) := by
        have := DGet.k (k := (.inl x : Key)) (s3 _ _ hFU2)
        rw [val_pin, tab_an hxm] at this
        exact this
      refine ⟨rfl, _, rfl, _, rfl, _, rfl, tq, _, rfl, dgt, _, rfl, _, rfl, fu, _, rfl, dgf, _, _, rfl, rfl, ?_⟩
      refine ⟨pinK (tabP fl (ids.take i)), .inl x, rfl, hP, by rw [pin_len, tab_len, List.length_take, h16]; omega, fun b u e => by rw [upd_ne (ne_of_none e hD)]; exact s3 _ _ e, hi, ?_⟩
      rw [upd_same, pin_put (tab_new nd hx), tab_snoc hx, hfl]
    · rintro H3 ⟨s3, _, hFLD⟩
      rw [List.length_map, List.take_length] at hFLD
      have s13 := s12.trans s3
      have hTP3 := s3 _ _ hTP
      -- bounds
      refine ⟨_, rfl, .inr (.inr (.inl ⟨rfl, .inl ⟨_, hFLD⟩⟩)), D, _, rfl, rfl, hFLD, fun v1 hv1 => ?_⟩
      have sv1 := Same.new (o := valsO v1 D) hv1
      have hV1 : upd H3 v1 (valsO v1 D) v1 = some (valsO v1 D) := upd_same
      generalize (upd H3 v1 (valsO v1 D) : Hp) = H4 at sv1 hV1 ⊢
      refine ⟨v1, D, _, rfl, hV1, sv1 _ _ hFLD, fun l1 hl1 => ?_⟩
      rw [pin_vals]
      have sl1 := Same.new (o := .lst ((ids.map fl).map V.int)) hl1
      have hL1 : upd H4 l1 (.lst ((ids.map fl).map V.int)) l1 = some (.lst ((ids.map fl).map V.int)) := upd_same
      generalize (upd H4 l1 (.lst ((ids.map fl).map V.int)) : Hp) = H5 at sl1 hL1 ⊢
      have s35 := sv1.trans sl1
      refine ⟨_, rfl, .inr (.inr (.inl ⟨rfl, .inl ⟨_, s35 _ _ hTP3⟩⟩)), tq, _, rfl, rfl, s35 _ _ hTP3, fun v2 hv2 => ?_⟩
      have sv2 := Same.new (o := valsO v2 tq) hv2
      have hV2 : upd H5 v2 (valsO v2 tq) v2 = some (valsO v2 tq) := upd_same
      generalize (upd H5 v2 (valsO v2 tq) : Hp) = H6 at sv2 hV2 ⊢
      refine ⟨v2, tq, _, rfl, hV2, sv2 _ _ (s35 _ _ hTP3), fun l2 hl2 => ?_⟩
      rw [pin_vals]
      have sl2 := Same.new (o := .lst ((ids.map tp).map V.int)) hl2
      have hL2 : upd H6 l2 (.lst ((ids.map tp).map V.int)) l2 = some (.lst ((ids.map tp).map V.int)) := upd_same
      generalize (upd H6 l2 (.lst ((ids.map tp).map V.int)) : Hp) = H7 at sl2 hL2 ⊢
      have hL17 := sl2 _ _ (sv2 _ _ hL1)
      refine ⟨l1, l2, _, _, rfl, rfl, hL17, hL2, by rw [List.length_map, List.length_map, List.length_map, List.length_map, h16]; omega, fun l3 hl3 => ?_⟩
      rw [← List.map_append]
      have sl3 := Same.new (o := .lst ((ids.map fl ++ ids.map tp).map V.int)) hl3
      have hL3 : upd H7 l3 (.lst ((ids.map fl ++ ids.map tp).map V.int)) l3 = some (.lst ((ids.map fl ++ ids.map tp).map V.int)) := upd_same
      generalize (upd H7 l3 (.lst ((ids.map fl ++ ids.map tp).map V.int)) : Hp) = H8 at sl3 hL3 ⊢
      have s38 := s35.trans (sv2.trans (sl2.trans sl3))
      refine ⟨l3, _, rfl, SqL.of hL3, by rw [List.length_append, List.length_map, List.length_map]; omega, fun sq n hsq hn => ?_⟩
      rw [List.length_append, List.length_map, List.length_map] at hn
      have ssq := Same.new (o := SetO w sq (fun j => decide (j ∈ ids.map fl ++ ids.map tp)) n) hsq
      refine ⟨sq, _, n, rfl, upd_same, by omega, fun bd bp hup hmem hbl hbp => ?_⟩
      have ebd : bd = boundsI (ids.map fl ++ ids.map tp) := up_eq hup (bounds_up _) fun z => by
        rw [hmem z, bounds_mem]
        exact ⟨of_decide_eq_true, fun h => decide_eq_true h⟩
      have ek : covF ids tp fl = runsOf ids tp fl bd := by rw [ebd]; rfl
      rw [ek] at k
      generalize hG9 : upd (upd H8 sq (SetO _ sq _ n)) bp (.lst (bd.map V.int)) = H9
      have hBD : H9 bp = some (.lst (bd.map V.int)) := by rw [← hG9]; exact upd_same
      have s39 : Same H3 H9 := by rw [← hG9]; exact s38.trans ((Same.new hsq).trans (Same.new hbp))
      have hbl600 : bd.length ≤ 600 := by omega
      -- cover
      refine ⟨Nat.zero_le _, fun cq hcq => ?_⟩
      have scq := Same.new (o := .lst []) hcq
      have hC0 : RunsAt (upd H9 cq (.lst [])) cq [] := RunsAt.nil upd_same
      have hcH : H cq = none := Same.free (s13.trans s39) hcq
      refine ⟨_, rfl, _, rfl, _, rfl, bp, _, rfl, SqL.of (scq _ _ hBD), fun b2 hb2 => ?_⟩
      have ecut : cutV (bd.map V.int) (some (1 : Int)) none = (bd.drop 1).map V.int := by
        rw [show (1 : Int) = ((1 : Nat) : Int) from rfl, cut_from, List.map_drop]
      rw [ecut]
      have sb2 := Same.new (o := .lst ((bd.drop 1).map V.int)) hb2
      have hB2 : upd (upd H9 cq (.lst [])) b2 (.lst ((bd.drop 1).map V.int)) b2 = some (.lst ((bd.drop 1).map V.int)) := upd_same
      have hC1 := hC0.same sb2
      have hBD1 := sb2 _ _ (scq _ _ hBD)
      have s910 := scq.trans sb2
      generalize (upd (upd H9 cq (.lst [])) b2 (.lst ((bd.drop 1).map V.int)) : Hp) = H10 at hB2 hC1 hBD1 s910 ⊢
      have hb2c : b2 ≠ cq := by
        obtain ⟨xs, q, _⟩ := hC0
        exact (ne_of_none q hb2).symm
      have rl : (runsOf ids tp fl bd).length = (bd.drop 1).length := by
        unfold runsOf
        rw [List.length_map, List.length_zip, List.length_drop]
        omega
      have gH : ∀ {H' : Hp}, Same H9 H' → SqL K H' g (ids.map V.int) := fun s => (s13.trans (s39.trans s)).seq hg
      refine ⟨bp, b2, _, _, rfl, SqL.of hBD1, SqL.of hB2, for_it (walk_zip (K := K) (a := bp) (b := b2) (xs := bd.map V.int) (ys := (bd.drop 1).map V.int) (n := (bd.drop 1).length) (by rw [List.length_map, List.length_map, List.length_drop]; omega))
        (fun i σ H' => ∃ v8 v9 v10 : Option V, σ = [some (.ref b), some (.ref g), some v, some (.ref fu), some (.ref tq), some (.ref D), some (.ref bp), some (.ref cq), v8, v9, v10, none] ∧ Same H9 H' ∧ H' b2 = some (.lst ((bd.drop 1).map V.int)) ∧ RunsAt H' cq ((runsOf ids tp fl bd).take i) ∧ i ≤ (bd.drop 1).length)
        ⟨none, none, none, rfl, s910, hB2, by rw [List.take_zero]; exact hC1, Nat.zero_le _⟩ (fun i σ H' _ ⟨_, _, _, _, s, h2, _⟩ => ⟨SqL.of (s _ _ hBD), SqL.of h2⟩) ?_ ?_⟩
      · rintro i y σ H11 H12 hi ⟨v8, v9, v10, rfl, s11, hB11, hC11, hil⟩ ⟨T0, x', y', rfl, hT0, rfl, e1, e2⟩
        obtain ⟨lo, hlo, rfl⟩ := int_at (show (bd.map V.int)[i]? = some x' from e1)
        obtain ⟨hi', hhi, rfl⟩ := int_at (show ((bd.drop 1).map V.int)[i]? = some y' from e2)
        have hrun : (runsOf ids tp fl bd)[i]? = some (hi' - lo, ids.filter fun x => decide (fl x ≤ lo) && decide (hi' ≤ tp x)) := by
          unfold runsOf
          rw [List.getElem?_map, (List.getElem?_zip_eq_some (z := (lo, hi'))).mpr ⟨hlo, hhi⟩]; rfl
        have sT0 := Same.new (o := .tup [V.int lo, V.int hi']) hT0
        have hT : upd H11 T0 (.tup [V.int lo, V.int hi']) T0 = some (.tup [V.int lo, V.int hi']) := upd_same
        have hB12 := sT0 _ _ hB11
        have hC12 := hC11.same sT0
        have s12' := s11.trans sT0
        generalize (upd H11 T0 (.tup [V.int lo, V.int hi']) : Hp) = H12 at sT0 hT hB12 hC12 s12' ⊢
        refine ⟨T0, _, rfl, SqT.of hT, rfl, _, _, rfl, _, _, rfl, rfl, ?_⟩
        -- the ids between
        refine ⟨_, rfl, g, rfl, ⟨_, gH s12'⟩, fun E1 hE1 => ?_⟩
        refine lc_list (K := K) (a := g) (xs := ids.map V.int) (fun j H' => Same H12 H' ∧ H' E1 = some (.lst (((ids.take j).filter fun x => decide (fl x ≤ lo) && decide (hi' ≤ tp x)).map V.int)) ∧ j ≤ ids.length) ⟨Same.new hE1, by rw [List.take_zero]; exact upd_same, Nat.zero_le _⟩ (fun j H' _ z => gH (s12'.trans z.1)) ?_ ?_
        · rintro j y H13 hj ⟨s13', hA, hjl⟩
          obtain ⟨x, hx, rfl⟩ := int_at hj
          have hjl2 : j < ids.length := (List.getElem?_eq_some_iff.mp hx).1
          have hxm := List.mem_of_getElem? hx
          have z3 : Same H3 H13 := s39.trans (s12'.trans s13')
          have dgl : DGet H13 D (.int x) (some (.int (fl x))) := by
            have := DGet.k (k := (.inl x : Key)) (z3 _ _ hFLD)
            rw [val_pin, tab_an hxm] at this
            exact this
          have dgt : DGet H13 tq (.int x) (some (.int (tp x))) := by
            have := DGet.k (k := (.inl x : Key)) (z3 _ _ hTP3)
            rw [val_pin, tab_an hxm] at this
            exact this
          have hfl2 := List.length_filter_le (fun x => decide (fl x ≤ lo) && decide (hi' ≤ tp x)) (ids.take j)
          rw [List.length_take] at hfl2
          have no : (decide (fl x ≤ lo) && decide (hi' ≤ tp x)) = false → (Same H12 H13 ∧ H13 E1 = some (.lst (((ids.take (j + 1)).filter fun x => decide (fl x ≤ lo) && decide (hi' ≤ tp x)).map V.int)) ∧ j + 1 ≤ ids.length) := fun e => by
            refine ⟨s13', ?_, hjl2⟩
            rw [hA, take_snoc hx, List.filter_append, List.filter_cons_of_neg (by rw [e]; exact fun z => by cases z), List.filter_nil, List.append_nil]
          refine ⟨rfl, _, rfl, _, rfl, D, _, rfl, dgl, _, rfl, _, _, rfl, rfl, _, rfl, ite2 (fun c1 => ?_) (fun c1 => ?_)⟩
          · refine ⟨_, rfl, _, rfl, _, rfl, tq, _, rfl, dgt, _, _, rfl, rfl, _, rfl, ite2 (fun c2 => ?_) (fun c2 => ?_)⟩
            · refine ⟨_, rfl, _, hA, by rw [List.length_map, h16]; omega, fun b u q => by rw [upd_ne (ne_of_none q hE1)]; exact s13' _ _ q, ?_, hjl2⟩
              rw [upd_same, take_snoc hx, List.filter_append, List.filter_cons_of_pos (by rw [c1, c2]; rfl), List.map_append]; rfl
            · exact no (by rw [Bool.not_eq_true _ |>.mp c2, Bool.and_false])
          · exact no (by rw [Bool.not_eq_true _ |>.mp c1, Bool.false_and])
        · rintro H13 ⟨s13', hA, _⟩
          rw [List.length_map, List.take_length] at hA
          have hC13 := hC12.same s13'
          obtain ⟨ys, hys, _⟩ := id hC13
          refine ⟨_, rfl, .inl ⟨rfl, _, SqL.of hys⟩, _, rfl, _, rfl, _, _, rfl, rfl, _, rfl, E1, _, rfl, .inl ⟨SqL.of hA, fun u hu' => ?_⟩⟩
          have su := Same.new (o := .tup ((ids.filter fun x => decide (fl x ≤ lo) && decide (hi' ≤ tp x)).map V.int)) hu'
          have hU : upd H13 u (.tup ((ids.filter fun x => decide (fl x ≤ lo) && decide (hi' ≤ tp x)).map V.int)) u = some (.tup ((ids.filter fun x => decide (fl x ≤ lo) && decide (hi' ≤ tp x)).map V.int)) := upd_same
          generalize (upd H13 u (.tup ((ids.filter fun x => decide (fl x ≤ lo) && decide (hi' ≤ tp x)).map V.int)) : Hp) = H14 at su hU ⊢
          refine ⟨by show 2 ≤ sizeLine; decide, fun t ht => ?_⟩
          have st := Same.new (o := .tup [V.int (hi' - lo), V.ref u]) ht
          have hRun : RunAt (upd H14 t (.tup [V.int (hi' - lo), V.ref u])) (.ref t) (hi' - lo, ids.filter fun x => decide (fl x ≤ lo) && decide (hi' ≤ tp x)) := ⟨t, u, rfl, upd_same, st _ _ hU⟩
          have s1215 := s13'.trans (su.trans st)
          have hC15 := hC12.same s1215
          have hB15 := s1215 _ _ hB12
          have s915 := s12'.trans s1215
          generalize (upd H14 t (.tup [V.int (hi' - lo), V.ref u]) : Hp) = H15 at hRun hC15 hB15 s915 ⊢
          obtain ⟨xs, q1, q2, q3⟩ := hC15.push hRun
          have hi6 : i < 600 := by
            have := hi
            rw [List.length_drop] at this
            omega
          refine ⟨cq, _, _, rfl, rfl, q1, by rw [q2, List.length_take, h16]; omega, _, _, _, rfl, fun b u e => ?_, ?_, ?_, hi⟩
          · rw [upd_ne (ne_of_none e hcq)]; exact s915 _ _ e
          · rw [upd_ne hb2c]; exact hB15
          · rw [take_snoc hrun]; exact q3
      · rintro σ H11 ⟨v8, v9, v10, rfl, s11, hB11, hC11, _⟩
        rw [← rl, List.take_length] at hC11
        exact ⟨_, rfl, k cq H11 (s13.trans (s39.trans s11)) hcH hC11⟩
end
/-! ### a walk over a list or a tuple -/
def SqS (K : PySem.W.Frag) (H : Hp) (a : Addr) (xs : List V) : Prop := SqL K H a xs ∨ SqT K H a xs
theorem SqS.same {K : PySem.W.Frag} {H H' : Hp} {a : Addr} {xs : List V} (s : Same H H') (h : SqS K H a xs) : SqS K H' a xs := h.imp (fun q => s.seq q) (fun q => Same.tq s q)
def iSeq (K : PySem.W.Frag) (tl : TE) : TI := fun σ H R => tl σ H fun x H1 => ∃ a xs, x = .ref a ∧ ((SqL K H1 a xs ∧ R (Itl K a) H1) ∨ (SqT K H1 a xs ∧ R (Itt K a) H1))
theorem pi_seq {X : Cx} {tg l : Expr} {tl : TE} (hl : PE X l tl) : PI X tg l (iSeq X.K tl) := by
  refine ⟨fun pins s σ H R I h => ?_⟩
  refine thn (hl.run pins s σ H _ I h) fun v s1 ⟨x, H1, I1, r1, q1⟩ => ?_
  obtain ⟨a, xs, e, q1⟩ := q1
  subst e
  cases r1
  rcases q1 with ⟨hq, q⟩ | ⟨hq, q⟩
  · obtain ⟨its, rv, p, hz⟩ := I1.list hq
    refine wpAny_pyIter_list p.isList ?_
    refine ⟨s1.heap.objs.size, [s1.heap.objs.size], _, _, H1, rfl, I1.kept (t' := s1.toks) fun b o e => Heap.get?_push_of_some _ e, turn_list a _, ⟨_, Heap.get?_push_size _ rfl, rfl, rfl⟩, fun b hb => ?_, q⟩
    have e : b = s1.heap.objs.size := by simpa using hb
    subst e
    exact I1.fpOk (Nat.le_refl _) (I1.hok.fresh (Nat.le_refl _))
  · obtain ⟨its, rv, p, hz⟩ := I1.tuple hq
    refine wpAny_pyIter_tuple (show s1.heap.IsTuple a its.toArray from p) ?_
    refine ⟨s1.heap.objs.size, [s1.heap.objs.size], _, _, H1, rfl, I1.kept (t' := s1.toks) fun b o e => Heap.get?_push_of_some _ e, turn_tuple a _, ⟨_, Heap.get?_push_size _ rfl, rfl, rfl⟩, fun b hb => ?_, q⟩
    have e : b = s1.heap.objs.size := by simpa using hb
    subst e
    exact I1.fpOk (Nat.le_refl _) (I1.hok.fresh (Nat.le_refl _))
/-- a comprehension over a list or a tuple -/
theorem lc_seq {K : PySem.W.Frag} {a : Addr} {xs : List V} {g : TG} {tt : TT} {te : TE} {vs : List Nat} {σ : L2.St} {H1 : Hp} {Rd : Addr → Hp → Prop} (hS : SqS K H1 a xs) (Pv : Addr → Nat → Hp → Prop) (h0 : ∀ D, H1 D = none → Pv D 0 (upd H1 D (.lst []))) (hl : ∀ D i H, i ≤ xs.length → Pv D i H → Same H1 H)
    (hs : ∀ D i x H, H1 D = none → xs[i]? = some x → Pv D i H → g x (wipe σ vs) H fun σ2 H2 => wipe σ2 vs = wipe σ vs ∧ tt σ2 H2 fun b H3 =>
      if b = true then te σ2 H3 fun y H4 => ∃ acc, H4 D = some (.lst acc) ∧ acc.length < sizeLine ∧ Pv D (i + 1) (upd H4 D (.lst (acc ++ [y]))) else Pv D (i + 1) H3) (hd : ∀ D H, H1 D = none → Pv D xs.length H → Rd D H) :
    (SqL K H1 a xs ∧ ∀ D, H1 D = none → ∃ W : Nat → Nat → Hp → Prop, (∃ m, W 0 m (upd H1 D (.lst []))) ∧ ∀ i m H, W i m H →
      ((Itl K a).stop i H ∧ Rd D H) ∨ ((Itl K a).go i H ∧ ∃ Nx : Hp → Prop, (∀ H', Nx H' → ∃ m', m' < m ∧ W (i + 1) m' H') ∧ ∀ x H', (Itl K a).yld i H x H' → g x (wipe σ vs) H' fun σ2 H2 => wipe σ2 vs = wipe σ vs ∧ tt σ2 H2 fun b H3 =>
        if b = true then te σ2 H3 fun y H4 => ∃ acc, H4 D = some (.lst acc) ∧ acc.length < sizeLine ∧ Nx (upd H4 D (.lst (acc ++ [y]))) else Nx H3)) ∨
    (SqT K H1 a xs ∧ ∀ D, H1 D = none → ∃ W : Nat → Nat → Hp → Prop, (∃ m, W 0 m (upd H1 D (.lst []))) ∧ ∀ i m H, W i m H →
      ((Itt K a).stop i H ∧ Rd D H) ∨ ((Itt K a).go i H ∧ ∃ Nx : Hp → Prop, (∀ H', Nx H' → ∃ m', m' < m ∧ W (i + 1) m' H') ∧ ∀ x H', (Itt K a).yld i H x H' → g x (wipe σ vs) H' fun σ2 H2 => wipe σ2 vs = wipe σ vs ∧ tt σ2 H2 fun b H3 =>
        if b = true then te σ2 H3 fun y H4 => ∃ acc, H4 D = some (.lst acc) ∧ acc.length < sizeLine ∧ Nx (upd H4 D (.lst (acc ++ [y]))) else Nx H3)) := by
  rcases hS with hS | hS
  · refine .inl ⟨hS, fun D hD => lc_it (walk_list (K := K) (a := a) (xs := xs)) (Pv D) (h0 D hD) (fun i H hi p => (hl D i H hi p).seq hS) ?_ fun H p => hd D H hD p⟩
    rintro i x H H' hi p ⟨rfl, hx⟩
    exact hs D i x H' hD hx p
  · refine .inr ⟨hS, fun D hD => lc_it (walk_tup (K := K) (a := a) (xs := xs)) (Pv D) (h0 D hD) (fun i H hi p => Same.tq (hl D i H hi p) hS) ?_ fun H p => hd D H hD p⟩
    rintro i x H H' hi p ⟨rfl, hx⟩
    exact hs D i x H' hD hx p
/-! ### is_chain -/
def adjB (f : List Int) : Bool := (f.zip (f.drop 1)).all fun e => decide (e.1 < e.2)
def isChainI (l js : List Int) : Bool := js.all (fun x => decide (x ∈ l)) && adjB (js.map (ixI l))
def isChainB (l : List Int) (ds : List PyData) : Bool := ds.all wholeD && isChainI l (ds.map intOf)
theorem tab_none {f : Int → Int} {l : List Int} {x : Int} (h : x ∉ l) : anOf (tabP f l) x = none := by
  induction l with
  | nil => rfl
  | cons y r ih =>
    have e : y ≠ x := fun e => h (by rw [e]; exact List.mem_cons_self)
    unfold anOf tabP
    rw [List.map_cons, List.find?_cons_of_neg (by intro z; exact e (of_decide_eq_true z))]
    exact ih fun z => h (List.mem_cons_of_mem _ z)
theorem tab_some (f : Int → Int) (l : List Int) (x : Int) : ((anOf (tabP f l) x).map V.int).isSome = decide (x ∈ l) := by
  by_cases h : x ∈ l
  · rw [tab_an h, decide_eq_true h]; rfl
  · rw [tab_none h, decide_eq_false h]; rfl
theorem all_id_map {α : Type} (f : α → Bool) (l : List α) : (l.map f).all id = l.all f := by rw [List.all_map]; rfl
section
variable {P : Program} {w : World} {K : PySem.W.Frag} {mg : Str → Option Value} {base : Heap}
def spChain (K : PySem.W.Frag) : Sp := fun vs H Q _ => ∃ (pd q : Addr) (l : List Int) (us : List V) (ds : List PyData), vs = [.ref pd, .ref q] ∧ H pd = some (.dK (pinK (tabP (ixI l) l))) ∧ SqS K H q us ∧ DVs K H us ds ∧ ds.length ≤ 4000 ∧ ∀ H' : Hp, Same H H' → Q (.bl (isChainB l ds)) H'
abbrev NCh : List Str := ["places", "ids", "found", "row_id", "before", "after"]
theorem scChain : FnScope NCh ["places", "ids"] (defScope sIsChain) := ⟨rfl, rfl, rfl, by decide +kernel, rfl, by decide +kernel, by decide +kernel⟩
theorem ok_chain {f fW : Addr} {fd fdW : FuncData} (F : Fun K "is_chain" "is_chain" sIsChain f fd) (T : TxtV mg) (nzip : mg "zip" = none) (FW : Fun K "is_whole" "is_whole" sWhole fW fdW) (bW : L2.Binds K fdW ["value"] []) (mW : mg "is_whole" = some (.ref fW)) :
    FnOk P w K mg base CX0 2 f fd ["places", "ids"] (spChain K) := by
  have GW : FnOk P w K mg base CX0 1 fW fdW ["value"] (spWhole K) := ok_whole FW T
  refine F.ok scChain (fun vs H Q E h => ?_) (fun cdv A outer s H vs Q E hr h => ?_)
  · obtain ⟨pd, q, l, us, ds, rfl, _⟩ := h
    rfl
  · obtain ⟨pd, q, l, us, ds, rfl, hpd, hq, hdv, hl, k⟩ := h
    have hu := hu_of hr
    refine ⟨_, pss_cons (ps_if (pt_not (pt_val (pe_callB (cr_all rfl) (by rfl) T.all (by decide +kernel) (pa_cons (pe_lc (own := [("row_id", 3)]) (tt := tYes) (g := gName 3) rfl scChain.nd (pi_seq (pv 1)) (blkOk_by (N := NCh) (sc := defScope sIsChain) (by decide +kernel))
          (fun _ _ _ _ _ => pg_name (i := 3) scChain.nd rfl (Or.inl rfl)) (fun _ _ _ _ _ => pts_nil) (fun _ _ _ _ _ => pe_call GW hr rfl mW FW.kp bW .nil pass0 (pa_cons (pv 3) pa_nil))) pa_nil)))) (pss_one (ps_ret pe_bl)) pss_nil)
      (pss_cons (ps_if (pt_not (pt_val (pe_callB (cr_all rfl) (by rfl) T.all (by decide +kernel) (pa_cons (pe_lc (own := [("row_id", 3)]) (tt := tYes) (g := gName 3) rfl scChain.nd (pi_seq (pv 1)) (blkOk_by (N := NCh) (sc := defScope sIsChain) (by decide +kernel))
          (fun _ _ _ _ _ => pg_name (i := 3) scChain.nd rfl (Or.inl rfl)) (fun _ _ _ _ _ => pts_nil) (fun _ _ _ _ _ => pe_cmp (pc_din hu (pv 3) (pv 0)))) pa_nil)))) (pss_one (ps_ret pe_bl)) pss_nil)
      (pss_cons (ps_setLc (i := 2) (own := [("row_id", 3)]) (tt := tYes) (g := gName 3) rfl scChain.nd rfl rfl rfl (pi_seq (pv 1)) (blkOk_by (N := NCh) (sc := defScope sIsChain) (by decide +kernel))
          (fun _ _ _ _ _ => pg_name (i := 3) scChain.nd rfl (Or.inl rfl)) (fun _ _ _ _ _ => pts_nil) (fun _ _ _ _ _ => pe_dget hu (pv 0) (pv 3) (fun _ _ => rfl)))
      (pss_one (ps_ret (pe_callB (cr_all rfl) (by rfl) T.all (by decide +kernel) (pa_cons (pe_lc (own := [("before", 4), ("after", 5)]) (tt := tYes) (g := gTup K 2 (gCons (gName 4) (gCons (gName 5) gNil))) rfl scChain.nd (pi_zip (by rfl) nzip (pa_cons (pv 2) (pa_cons (pe_slice sl_list (pv 2) (po_some pe_int) po_none) pa_nil))) (blkOk_by (N := NCh) (sc := defScope sIsChain) (by decide +kernel))
          (fun _ _ _ _ _ => pg_tup rfl (pgs_cons (pg_name (i := 4) scChain.nd rfl (Or.inl rfl)) (pgs_cons (pg_name (i := 5) scChain.nd rfl (Or.inl rfl)) pgs_nil))) (fun _ _ _ _ _ => pts_nil) (fun _ _ _ _ _ => pe_cmpR op_lt (pv 4) (pv 5) (by rfl))) pa_nil)))))), ?_⟩
    have h16 : sizeLine = 16777216 := sizeLine_eq
    have hlen := hdv.length
    -- all whole
    refine ⟨_, rfl, q, us, rfl, lc_seq hq (fun D j H' => Same H H' ∧ H' D = some (.lst (((ds.take j).map wholeD).map V.bl)) ∧ j ≤ us.length) (fun D hD => ⟨Same.new hD, by rw [List.take_zero]; exact upd_same, Nat.zero_le _⟩) (fun D j H' _ z => z.1) ?_ ?_⟩
    · rintro D j y H' hD hy ⟨s1, hA, hjl⟩
      obtain ⟨d, hd, ew, ty⟩ := (hdv.same s1).wholes hy
      refine ⟨rfl, _, rfl, y, rfl, ty, ?_⟩
      refine ⟨_, hA, by rw [List.length_map, List.length_map, List.length_take, h16]; omega, fun b u z => by rw [upd_ne (ne_of_none z hD)]; exact s1 _ _ z, ?_, (List.getElem?_eq_some_iff.mp hy).1⟩
      rw [upd_same, take_snoc hd, List.map_append, List.map_append, ew]; rfl
    rintro D H1 hD ⟨s1, hA, _⟩
    rw [hlen, List.take_length] at hA
    refine ⟨D, _, rfl, SqL.of hA, _, rfl, ?_⟩
    rw [all_id_map]
    cases hw : ds.all wholeD with
    | false =>
      refine iteT ?_
      have := k H1 s1
      unfold isChainB at this
      rw [hw] at this
      exact this
    | true =>
      refine iteF ?_
      have eus := whole_all hdv hw
      obtain ⟨js, hjs⟩ : ∃ js, js = ds.map intOf := ⟨_, rfl⟩
      have hjl : js.length ≤ 4000 := by rw [hjs, List.length_map]; exact hl
      have kk : ∀ H', Same H H' → Q (.bl (isChainI l js)) H' := fun H' s => by
        have := k H' s
        unfold isChainB at this
        rw [hw, ← hjs] at this
        exact this
      rw [← hjs] at eus
      subst eus
      have hq1 := hq.same s1
      have hpd1 := s1 _ _ hpd
      -- all in
      refine ⟨_, rfl, q, _, rfl, lc_seq hq1 (fun D j H' => Same H1 H' ∧ H' D = some (.lst (((js.take j).map fun x => decide (x ∈ l)).map V.bl)) ∧ j ≤ js.length) (fun D hD => ⟨Same.new hD, by rw [List.take_zero]; exact upd_same, Nat.zero_le _⟩) (fun D j H' _ z => z.1) ?_ ?_⟩
      · rintro D2 j y H' hD2 hy ⟨s2, hA2, hjl2⟩
        obtain ⟨x, hx, rfl⟩ := int_at hy
        have dg := DGet.k (k := (.inl x : Key)) (s2 _ _ hpd1)
        rw [val_pin] at dg
        refine ⟨rfl, _, rfl, _, rfl, pd, _, rfl, dg, ?_⟩
        rw [tab_some]
        refine ⟨_, hA2, by rw [List.length_map, List.length_map, List.length_take, h16]; omega, fun b u z => by rw [upd_ne (ne_of_none z hD2)]; exact s2 _ _ z, ?_, (List.getElem?_eq_some_iff.mp hx).1⟩
        rw [upd_same, take_snoc hx, List.map_append, List.map_append]; rfl
      rintro D2 H2 hD2 ⟨s2, hA2, _⟩
      rw [List.length_map, List.take_length] at hA2
      have s12 := s1.trans s2
      refine ⟨D2, _, rfl, SqL.of hA2, _, rfl, ?_⟩
      rw [all_id_map]
      cases hin : js.all (fun x => decide (x ∈ l)) with
      | false =>
        refine iteT ?_
        have := kk H2 s12
        unfold isChainI at this
        rw [hin] at this
        exact this
      | true =>
        refine iteF ?_
        have kk2 : ∀ H', Same H H' → Q (.bl (adjB (js.map (ixI l)))) H' := fun H' s => by
          have := kk H' s
          unfold isChainI at this
          rw [hin] at this
          exact this
        have hmem : ∀ x ∈ js, x ∈ l := fun x hx => of_decide_eq_true (List.all_eq_true.mp hin x hx)
        have hq2 := hq1.same s2
        have hpd2 := s2 _ _ hpd1
        refine ⟨_, rfl, q, _, rfl, lc_seq hq2 (fun D j H' => Same H2 H' ∧ H' D = some (.lst (((js.take j).map (ixI l)).map V.int)) ∧ j ≤ js.length) (fun D hD => ⟨Same.new hD, by rw [List.take_zero]; exact upd_same, Nat.zero_le _⟩) (fun D j H' _ z => z.1) ?_ ?_⟩
        · rintro D3 j y H' hD3 hy ⟨s3, hA3, hjl3⟩
          obtain ⟨x, hx, rfl⟩ := int_at hy
          have dg := DGet.k (k := (.inl x : Key)) (s3 _ _ hpd2)
          rw [val_pin, tab_an (hmem x (List.mem_of_getElem? hx))] at dg
          refine ⟨rfl, _, rfl, _, rfl, pd, _, rfl, dg, ?_⟩
          refine ⟨_, hA3, by rw [List.length_map, List.length_map, List.length_take, h16]; omega, fun b u z => by rw [upd_ne (ne_of_none z hD3)]; exact s3 _ _ z, ?_, (List.getElem?_eq_some_iff.mp hx).1⟩
          rw [upd_same, take_snoc hx, List.map_append, List.map_append]; rfl
        rintro D3 H3 hD3 ⟨s3, hA3, _⟩
        rw [List.length_map, List.take_length] at hA3
        obtain ⟨fs, hfs⟩ : ∃ fs, fs = js.map (ixI l) := ⟨_, rfl⟩
        rw [← hfs] at hA3 kk2
        have hfl : fs.length ≤ 4000 := by rw [hfs, List.length_map]; exact hjl
        have s13 := s12.trans s3
        refine ⟨_, rfl, _, rfl, _, rfl, D3, _, rfl, SqL.of hA3, fun b2 hb2 => ?_⟩
        have ecut : cutV (fs.map V.int) (some (1 : Int)) none = (fs.drop 1).map V.int := by
          rw [show (1 : Int) = ((1 : Nat) : Int) from rfl, cut_from, List.map_drop]
        rw [ecut]
        have sb2 := Same.new (o := .lst ((fs.drop 1).map V.int)) hb2
        have hB2 : upd H3 b2 (.lst ((fs.drop 1).map V.int)) b2 = some (.lst ((fs.drop 1).map V.int)) := upd_same
        generalize (upd H3 b2 (.lst ((fs.drop 1).map V.int)) : Hp) = H4 at sb2 hB2 ⊢
        have hA4 := sb2 _ _ hA3
        refine ⟨D3, b2, _, _, rfl, SqL.of hA4, SqL.of hB2, fun D4 hD4 => ?_⟩
        refine lc_it (walk_zip (K := K) (a := D3) (b := b2) (xs := fs.map V.int) (ys := (fs.drop 1).map V.int) (n := (fs.drop 1).length) (by rw [List.length_map, List.length_map, List.length_drop]; omega))
          (fun j H' => Same H4 H' ∧ H' D4 = some (.lst ((((fs.zip (fs.drop 1)).take j).map fun e => decide (e.1 < e.2)).map V.bl)) ∧ j ≤ (fs.drop 1).length) ⟨Same.new hD4, by rw [List.take_zero]; exact upd_same, Nat.zero_le _⟩ (fun j H' _ z => ⟨SqL.of (z.1 _ _ hA4), SqL.of (z.1 _ _ hB2)⟩) ?_ ?_
        · rintro j y H5 H6 hj ⟨s5, hA5, hjl5⟩ ⟨T0, x', y', rfl, hT0, rfl, e1, e2⟩
          obtain ⟨lo, hlo, rfl⟩ := int_at (show (fs.map V.int)[j]? = some x' from e1)
          obtain ⟨hi', hhi, rfl⟩ := int_at (show ((fs.drop 1).map V.int)[j]? = some y' from e2)
          have sT0 := Same.new (o := .tup [V.int lo, V.int hi']) hT0
          have hT : upd H5 T0 (.tup [V.int lo, V.int hi']) T0 = some (.tup [V.int lo, V.int hi']) := upd_same
          have hA6 := sT0 _ _ hA5
          have s6 := s5.trans sT0
          generalize (upd H5 T0 (.tup [V.int lo, V.int hi']) : Hp) = H6 at sT0 hT hA6 s6 ⊢
          have hz : (fs.zip (fs.drop 1))[j]? = some (lo, hi') := (List.getElem?_zip_eq_some (z := (lo, hi'))).mpr ⟨hlo, hhi⟩
          refine ⟨T0, _, rfl, SqT.of hT, rfl, _, _, rfl, _, _, rfl, rfl, rfl, ?_⟩
          refine ⟨_, rfl, _, rfl, _, _, rfl, rfl, ?_⟩
          refine ⟨_, hA6, by rw [List.length_map, List.length_map, List.length_take, List.length_zip, List.length_drop, h16]; omega, fun b u z => by rw [upd_ne (ne_of_none z hD4)]; exact s6 _ _ z, ?_, hj⟩
          rw [upd_same, take_snoc hz, List.map_append, List.map_append]; rfl
        · rintro H5 ⟨s5, hA5, _⟩
          have el : (fs.zip (fs.drop 1)).take (fs.drop 1).length = fs.zip (fs.drop 1) := List.take_of_length_le (by rw [List.length_zip]; omega)
          rw [el] at hA5
          refine ⟨D4, _, rfl, SqL.of hA5, ?_⟩
          rw [all_id_map]
          exact kk2 H5 (s13.trans (sb2.trans s5))
end
/-! ### is_run, times_of, cover_size -/
def isRunB (l m : List Int) : PyData → Bool
  | .tuple [.int n, .tuple es] => decide (1 ≤ n) && (!es.isEmpty && (isChainB l es && isChainB m es))
  | _ => false
def runOfD : PyData → Int × List Int
  | .tuple [.int n, .tuple es] => (n, es.map intOf)
  | _ => (0, [])
def smallR (d : PyData) : Prop := ∀ t es, d = .tuple [t, .tuple es] → es.length ≤ 4000
/-- a run: a tuple of times and a tuple of ids -/
def RunQ (K : PySem.W.Frag) (H : Hp) (v : V) (r : Int × List Int) : Prop := ∃ t u, v = .ref t ∧ SqT K H t [.int r.1, .ref u] ∧ SqT K H u (r.2.map V.int)
theorem RunQ.same {K : PySem.W.Frag} {H H' : Hp} {v : V} {r : Int × List Int} (s : Same H H') (h : RunQ K H v r) : RunQ K H' v r := by
  obtain ⟨t, u, e, h1, h2⟩ := h
  exact ⟨t, u, e, Same.tq s h1, Same.tq s h2⟩
def RunsQ (K : PySem.W.Frag) (H : Hp) (vs : List V) (rs : List (Int × List Int)) : Prop := vs.length = rs.length ∧ ∀ (i : Nat) (v : V) (r : Int × List Int), vs[i]? = some v → rs[i]? = some r → RunQ K H v r
theorem RunsQ.same {K : PySem.W.Frag} {H H' : Hp} {vs : List V} {rs : List (Int × List Int)} (s : Same H H') (h : RunsQ K H vs rs) : RunsQ K H' vs rs := ⟨h.1, fun i v r e1 e2 => (h.2 i v r e1 e2).same s⟩
theorem RunsQ.at {K : PySem.W.Frag} {H : Hp} {vs : List V} {rs : List (Int × List Int)} (h : RunsQ K H vs rs) {i : Nat} {v : V} (e : vs[i]? = some v) : ∃ r, rs[i]? = some r ∧ RunQ K H v r := by
  have hi := (List.getElem?_eq_some_iff.mp e).1
  have e2 : rs[i]? = some (rs[i]'(by rw [← h.1]; exact hi)) := List.getElem?_eq_getElem _
  exact ⟨_, e2, h.2 i v _ e e2⟩
theorem isRunB_inv {l m : List Int} {d : PyData} (h : isRunB l m d = true) : ∃ n es, d = .tuple [.int n, .tuple es] ∧ 1 ≤ n ∧ es.isEmpty = false ∧ isChainB l es = true ∧ isChainB m es = true := by
  unfold isRunB at h
  split at h
  · rename_i n es
    rw [Bool.and_eq_true, Bool.and_eq_true, Bool.and_eq_true] at h
    refine ⟨n, es, rfl, of_decide_eq_true h.1, ?_, h.2.2.1, h.2.2.2⟩
    have := h.2.1
    cases q : es.isEmpty with
    | false => rfl
    | true => rw [q] at this; cases this
  · cases h
/-- data that is a run -/
theorem run_of {K : PySem.W.Frag} {H : Hp} {l m : List Int} {v : V} {d : PyData} (h : DV K H v d) (hr : isRunB l m d = true) : RunQ K H v (runOfD d) := by
  obtain ⟨n, es, rfl, _, _, hc, _⟩ := isRunB_inv hr
  cases h with
  | tup hT hs =>
    cases hs with
    | cons hn t =>
      cases t with
      | cons he t2 =>
        cases t2
        cases hn
        cases he with
        | tup hU hu =>
          unfold isChainB at hc
          rw [Bool.and_eq_true] at hc
          rw [whole_all hu hc.1] at hU
          exact ⟨_, _, rfl, hT, hU⟩
theorem runs_of {K : PySem.W.Frag} {H : Hp} {l m : List Int} {vs : List V} {ds : List PyData} (h : DVs K H vs ds) (hr : ds.all (isRunB l m) = true) : RunsQ K H vs (ds.map runOfD) := by
  refine ⟨by rw [List.length_map]; exact h.length, fun i v r e1 e2 => ?_⟩
  obtain ⟨d, hd, hv⟩ := h.at e1
  rw [List.getElem?_map, hd] at e2
  obtain rfl : runOfD d = r := Option.some.inj e2
  exact run_of hv (List.all_eq_true.mp hr d (List.mem_of_getElem? hd))
/-- the sum of the times of the runs with x -/
def timesI (rs : List (Int × List Int)) (x : Int) : Int := (rs.map fun r => r.1 * ((r.2.count x : Nat) : Int)).sum
def sumT (rs : List (Int × List Int)) : Int := (rs.map Prod.fst).sum
theorem times_snoc (rs : List (Int × List Int)) (r : Int × List Int) (x : Int) : timesI (rs ++ [r]) x = timesI rs x + r.1 * ((r.2.count x : Nat) : Int) := by
  unfold timesI
  rw [List.map_append, List.sum_append]
  simp
theorem isRunB_len {l m : List Int} {ds : List PyData} (h : ds.length ≠ 2) : isRunB l m (.tuple ds) = false := by
  unfold isRunB
  split
  · rename_i heq
    cases heq
    exact absurd rfl h
  · rfl
theorem isRunB_ni {l m : List Int} {d e : PyData} (h : ∀ n, d ≠ .int n) : isRunB l m (.tuple [d, e]) = false := by
  unfold isRunB
  split
  · rename_i heq
    cases heq
    exact absurd rfl (h _)
  · rfl
theorem isRunB_low {l m : List Int} {n : Int} {e : PyData} (h : n < 1) : isRunB l m (.tuple [.int n, e]) = false := by
  unfold isRunB
  split
  · rename_i heq
    cases heq
    rw [decide_eq_false (show ¬ (1 : Int) ≤ n by omega)]; rfl
  · rfl
section
variable {P : Program} {w : World} {K : PySem.W.Frag} {mg : Str → Option Value} {base : Heap}
def spRun (K : PySem.W.Frag) : Sp := fun vs H Q _ => ∃ (pa pb : Addr) (l m : List Int) (v : V) (d : PyData), vs = [.ref pa, .ref pb, v] ∧ H pa = some (.dK (pinK (tabP (ixI l) l))) ∧ H pb = some (.dK (pinK (tabP (ixI m) m))) ∧ DV K H v d ∧ smallR d ∧ ∀ H' : Hp, Same H H' → Q (.bl (isRunB l m d)) H'
abbrev NRu : List Str := ["ahead", "back", "value", "times", "ids"]
theorem scRun : FnScope NRu ["ahead", "back", "value"] (defScope sIsRun) := ⟨rfl, rfl, rfl, by decide +kernel, rfl, by decide +kernel, by decide +kernel⟩
theorem ok_run {f fW fC : Addr} {fd fdW fdC : FuncData} (F : Fun K "is_run" "is_run" sIsRun f fd) (T : TxtV mg) (FW : Fun K "is_whole" "is_whole" sWhole fW fdW) (bW : L2.Binds K fdW ["value"] []) (mW : mg "is_whole" = some (.ref fW))
    (GC : FnOk P w K mg base CX0 2 fC fdC ["places", "ids"] (spChain K)) (kC : PySem.W.keepIn K (.ref fC) = true) (bC : L2.Binds K fdC ["places", "ids"] []) (mC : mg "is_chain" = some (.ref fC)) :
    FnOk P w K mg base CX0 3 f fd ["ahead", "back", "value"] (spRun K) := by
  have GW : FnOk P w K mg base CX0 1 fW fdW ["value"] (spWhole K) := ok_whole FW T
  refine F.ok scRun (fun vs H Q E h => ?_) (fun cdv A outer s H vs Q E hr h => ?_)
  · obtain ⟨pa, pb, l, m, v, d, rfl, _⟩ := h
    rfl
  · obtain ⟨pa, pb, l, m, v, d, rfl, hpa, hpb, hd, hsm, k⟩ := h
    have hr1 : Room 1 _ := hr.mono (by decide)
    refine ⟨_, pss_cons (ps_if (PW.pt (pw_or (pt_not (pt_val (pe_callB call_isi (by rfl) T.isi (by decide +kernel) (pa_cons (pv 2) (pa_cons (pe_bltn (v := .ty "tuple") (by rfl) T.tuple boot_tuple rfl) pa_nil)))))
          (pw_or1 (pt_cmpR op_ne (pe_callB call_len_seq (by rfl) T.len PySem.boot_len (pa_cons (pv 2) pa_nil)) pe_int (nomark _))))) (pss_one (ps_ret pe_bl)) pss_nil)
      (pss_cons (ps_asg (pv 2) (pg_tup (by rfl) (pgs_cons (pg_name (i := 3) scRun.nd rfl (Or.inl rfl)) (pgs_cons (pg_name (i := 4) scRun.nd rfl (Or.inl rfl)) pgs_nil))))
      (pss_cons (ps_if (PW.pt (pw_or (pt_not (pt_val (pe_call GW hr1 rfl mW FW.kp bW .nil pass0 (pa_cons (pv 3) pa_nil)))) (pw_or1 (pt_cmpR op_lt (pv 3) pe_int (nomark _))))) (pss_one (ps_ret pe_bl)) pss_nil)
      (pss_cons (ps_if (PW.pt (pw_or (pt_not (pt_val (pe_callB call_isi (by rfl) T.isi (by decide +kernel) (pa_cons (pv 4) (pa_cons (pe_bltn (v := .ty "tuple") (by rfl) T.tuple boot_tuple rfl) pa_nil)))))
          (pw_or1 (pt_cmpR op_eq (pe_callB call_len_seq (by rfl) T.len PySem.boot_len (pa_cons (pv 4) pa_nil)) pe_int (nomark _))))) (pss_one (ps_ret pe_bl)) pss_nil)
      (pss_one (ps_ret (pe_and (pe_call GC hr rfl mC kC bC .nil pass0 (pa_cons (pv 0) (pa_cons (pv 4) pa_nil))) (pe_one (pe_call GC hr rfl mC kC bC .nil pass0 (pa_cons (pv 1) (pa_cons (pv 4) pa_nil)))))))))), ?_⟩
    have no : isRunB l m d = false → ∀ H', Same H H' → Q (.bl false) H' := fun e H' s => by
      have := k H' s
      rw [e] at this
      exact this
    obtain ⟨nm, ty, k1, k2⟩ := hd.kit
    refine ⟨_, rfl, _, _, _, _, _, rfl, .ty _, ty, k1, _, rfl, ?_⟩
    cases hd with
    | tup hT hs =>
      rename_i a us ds
      have hl := hs.length
      refine iteF ⟨_, rfl, a, _, rfl, .inr hT, rfl, _, rfl, ?_⟩
      by_cases h2 : ds.length = 2
      · obtain ⟨dt, di, rfl⟩ : ∃ di db, ds = [di, db] := match ds, h2 with | [x, y], _ => ⟨x, y, rfl⟩
        cases hs with
        | cons pt t =>
         cases t with
         | cons pi t2 =>
          cases t2
          rename_i vt vi
          have hz : (!decide (V.int (([vt, vi].length : Nat) : Int) = V.int 2)) = false := rfl
          rw [hz]
          refine iteF ⟨_, rfl, a, _, rfl, hT, rfl, vt, [vi], rfl, vi, [], rfl, rfl, ?_⟩
          refine ⟨_, rfl, vt, rfl, pt.ty, _, rfl, ?_⟩
          cases pt with
          | int n =>
            refine iteF ⟨_, rfl, _, _, rfl, rfl, _, rfl, ?_⟩
            by_cases hn : n < 1
            · rw [decide_eq_true hn]
              exact iteT (no (isRunB_low hn) H (Same.refl H))
            · rw [decide_eq_false hn]
              have hn1 : (1 : Int) ≤ n := by omega
              refine iteF ?_
              obtain ⟨nm2, ty2, k3, k4⟩ := pi.kit
              refine ⟨_, rfl, _, _, _, _, _, rfl, .ty _, ty2, k3, _, rfl, ?_⟩
              cases pi with
              | tup hU hu =>
                rename_i u ws es
                have hul := hu.length
                refine iteF ⟨_, rfl, u, _, rfl, .inr hU, rfl, _, rfl, ?_⟩
                have hes : es.length ≤ 4000 := hsm _ _ rfl
                by_cases h0 : es = []
                · subst h0
                  have hw0 : ws = [] := List.eq_nil_of_length_eq_zero (by rw [hul]; rfl)
                  subst hw0
                  have hz : (decide (V.int ((([] : List V).length : Nat) : Int) = V.int 0)) = true := rfl
                  rw [hz]
                  refine iteT (no ?_ H (Same.refl H))
                  show (decide (1 ≤ n) && _) = false
                  rw [decide_eq_true hn1]; rfl
                · have hwl : ws.length ≠ 0 := fun z => h0 (List.eq_nil_of_length_eq_zero (by rw [← hul]; exact z))
                  have hz : (decide (V.int ((ws.length : Nat) : Int) = V.int 0)) = false := by
                    refine decide_eq_false fun z => hwl ?_
                    have := V.int.inj z
                    omega
                  rw [hz]
                  refine iteF ?_
                  have he : es.isEmpty = false := by cases es with
                    | nil => exact absurd rfl h0
                    | cons _ _ => rfl
                  have kk : ∀ H', Same H H' → Q (.bl (isChainB l es && isChainB m es)) H' := fun H' s => by
                    have := k H' s
                    have e2 : isRunB l m (.tuple [.int n, .tuple es]) = (isChainB l es && isChainB m es) := by
                      show (decide (1 ≤ n) && (!es.isEmpty && (isChainB l es && isChainB m es))) = _
                      rw [decide_eq_true hn1, he]; rfl
                    rw [e2] at this
                    exact this
                  refine ⟨_, rfl, _, rfl, pa, u, l, ws, es, rfl, hpa, .inr hU, hu, hes, fun H1 s1 => ?_⟩
                  refine ⟨_, rfl, ?_⟩
                  cases hb : isChainB l es with
                  | false =>
                    refine iteF ?_
                    have := kk H1 s1
                    rw [hb] at this
                    exact this
                  | true =>
                    refine iteT ⟨_, rfl, _, rfl, pb, u, m, ws, es, rfl, s1 _ _ hpb, .inr (Same.tq s1 hU), hu.same s1, hes, fun H2 s2 => ?_⟩
                    have := kk H2 (s1.trans s2)
                    rw [hb] at this
                    exact this
              | _ => exact iteT (no rfl H (Same.refl H))
          | _ => exact iteT (no (isRunB_ni (fun n z => by cases z)) H (Same.refl H))
      · have hz : (!decide (V.int ((us.length : Nat) : Int) = V.int 2)) = true := by
          have : ¬ (((us.length : Nat) : Int) = 2) := by omega
          rw [Bool.not_eq_true', decide_eq_false_iff_not]
          exact fun z => this (V.int.inj z)
        rw [hz]
        exact iteT (no (isRunB_len h2) H (Same.refl H))
    | _ => exact iteT (no rfl H (Same.refl H))
end
/-! ### times_of, cover_size, is_cover -/
def TimesAt (H : Hp) (q : Addr) (n : Nat) (f : Int → Int) : Prop := ∃ kvs : List (Key × V), H q = some (.dK kvs) ∧ kvs.length ≤ n ∧ ∀ x : Int, (valV kvs (.inl x : Key)).getD (.int 0) = .int (f x)
theorem TimesAt.same {H H' : Hp} {q : Addr} {n : Nat} {f : Int → Int} (s : Same H H') (h : TimesAt H q n f) : TimesAt H' q n f := by
  obtain ⟨kvs, h1, h2, h3⟩ := h
  exact ⟨kvs, s _ _ h1, h2, h3⟩
theorem count_snoc (l : List Int) (y x : Int) : (((l ++ [y]).count x : Nat) : Int) = ((l.count x : Nat) : Int) + (if x = y then 1 else 0) := by
  rw [List.count_append, List.count_singleton]
  by_cases h : x = y
  · subst h
    simp
  · rw [if_neg h]
    have : (y == x) = false := by rw [beq_eq_false_iff_ne]; exact fun e => h e.symm
    rw [this]
    simp
section
variable {P : Program} {w : World} {K : PySem.W.Frag} {mg : Str → Option Value} {base : Heap}
def spTimes (K : PySem.W.Frag) : Sp := fun vs H Q _ => ∃ (c : Addr) (us : List V) (rs : List (Int × List Int)), vs = [.ref c] ∧ SqL K H c us ∧ RunsQ K H us rs ∧ rs.length ≤ 4000 ∧ (∀ r ∈ rs, r.2.length ≤ 4000) ∧
  ∀ (q : Addr) (n : Nat) (H' : Hp), Same H H' → H q = none → TimesAt H' q n (timesI rs) → Q (.ref q) H'
abbrev NTi : List Str := ["cover", "covered", "times", "ids", "row_id"]
theorem scTimes : FnScope NTi ["cover"] (defScope sTimes) := ⟨rfl, rfl, rfl, by decide +kernel, rfl, by decide +kernel, by decide +kernel⟩
theorem ok_times {f : Addr} {fd : FuncData} (F : Fun K "times_of" "times_of" sTimes f fd) : FnOk P w K mg base CX0 1 f fd ["cover"] (spTimes K) := by
  refine F.ok scTimes (fun vs H Q E h => ?_) (fun cdv A outer s H vs Q E hr h => ?_)
  · obtain ⟨c, us, rs, rfl, _⟩ := h
    rfl
  · obtain ⟨c, us, rs, rfl, hc, hR, hl, hll, k⟩ := h
    have hu := hu_of hr
    refine ⟨_, pss_cons (ps_set (i := 1) scTimes.nd rfl (Or.inl rfl) pe_dnewK)
      (pss_cons (ps_for PassesOwn.never rfl (pi_list (pv 0)) (pg_tup rfl (pgs_cons (pg_name (i := 2) scTimes.nd rfl (Or.inl rfl)) (pgs_cons (pg_name (i := 3) scTimes.nd rfl (Or.inl rfl)) pgs_nil)))
        (pss_one (ps_for PassesOwn.never rfl (pi_tup (pv 3)) (pg_name (i := 4) scTimes.nd rfl (Or.inl rfl))
          (pss_one (ps_dput hu (pv 1) (pv 4) (pe_op op_add (pe_dget2 hu (pv 1) (pv 4) pe_int ⟨rfl, rfl, rfl, rfl⟩) (pv 2)) rfl)))))
      (pss_one (ps_ret (pv 1)))), ?_⟩
    have h16 : sizeLine = 16777216 := sizeLine_eq
    intro q hq
    have s0 := Same.new (o := .dK []) hq
    have T0 : TimesAt (upd H q (.dK [])) q 0 (timesI []) := ⟨[], upd_same, Nat.le_refl _, fun x => rfl⟩
    refine ⟨_, rfl, c, rfl, ⟨_, s0.seq hc⟩, for_list (K := K) (a := c) (xs := us) (fun i σ H' => ∃ v2 v3 v4 : Option V, σ = [some (.ref c), some (.ref q), v2, v3, v4] ∧ Same H H' ∧ TimesAt H' q (4000 * i) (timesI (rs.take i)) ∧ i ≤ rs.length)
      ⟨none, none, none, rfl, s0, by rw [List.take_zero]; exact T0, Nat.zero_le _⟩ (fun i σ H' _ ⟨_, _, _, _, s, _⟩ => s.seq hc) ?_ ?_⟩
    · rintro i y σ H1 hi ⟨v2, v3, v4, rfl, s1, T1, hil⟩
      obtain ⟨r, hr', hq1⟩ := hR.at hi
      obtain ⟨t, u, rfl, ht, hu'⟩ := hq1.same s1
      have hrl := hll r (List.mem_of_getElem? hr')
      have hil2 : i < rs.length := (List.getElem?_eq_some_iff.mp hr').1
      refine ⟨t, _, rfl, ht, rfl, _, _, rfl, _, _, rfl, rfl, ?_⟩
      have hu0 := (hR.at hi).choose_spec
      refine ⟨_, rfl, u, rfl, ⟨_, hu'⟩, for_tup (K := K) (a := u) (xs := r.2.map V.int) (fun j σ H' => ∃ v4 : Option V, σ = [some (.ref c), some (.ref q), some (.int r.1), some (.ref u), v4] ∧ But q H1 H' ∧ TimesAt H' q (4000 * i + j) (fun x => timesI (rs.take i) x + r.1 * (((r.2.take j).count x : Nat) : Int)) ∧ j ≤ r.2.length)
        ⟨_, rfl, But.refl _ _, by
          obtain ⟨kvs, h1, h2, h3⟩ := T1
          refine ⟨kvs, h1, by omega, fun x => ?_⟩
          rw [h3 x, List.take_zero]
          show V.int (timesI (rs.take i) x) = V.int (timesI (rs.take i) x + r.1 * ((([] : List Int).count x : Nat) : Int))
          rw [List.count_nil]
          simp, Nat.zero_le _⟩ (fun j σ H' _ ⟨_, _, B, _⟩ => ?_) ?_ ?_⟩
      · obtain ⟨kvs, h1, _⟩ := T1
        rcases hu' with (z | ⟨o', z⟩) | z
        · exact .inl (.inl (B _ _ (ne_of z h1 (fun e => by cases e)) z))
        · exact .inl (.inr ⟨o', B _ _ (ne_of z h1 (fun e => by cases e)) z⟩)
        · exact .inr z
      · rintro j y σ H2 hj ⟨v4, rfl, B2, T2, hjl⟩
        obtain ⟨x, hx, rfl⟩ := int_at hj
        have hjl2 : j < r.2.length := (List.getElem?_eq_some_iff.mp hx).1
        obtain ⟨kvs, h1, h2, h3⟩ := T2
        refine ⟨_, rfl, q, rfl, .inl ⟨_, .inl h1⟩, _, rfl, _, DGet.k (k := (.inl x : Key)) h1, ?_⟩
        rw [h3 x]
        refine ⟨_, rfl, _, _, rfl, rfl, ?_⟩
        refine ⟨_, rfl, _, rfl, q, _, rfl, DPut.k (k := (.inl x : Key)) h1 (by rw [h16]; omega), ⟨_, rfl, fun b o n e => by rw [upd_ne n]; exact B2 b o n e, ⟨_, upd_same, Nat.le_trans (length_putK _ _ _) (by omega), fun z => ?_⟩, hjl2⟩⟩
        show (valV (putK kvs (.inl x : Key) (.int (timesI (rs.take i) x + r.1 * (((r.2.take j).count x : Nat) : Int) + r.1))) (.inl z : Key)).getD (.int 0) = V.int (timesI (rs.take i) z + r.1 * (((r.2.take (j + 1)).count z : Nat) : Int))
        rw [valV_put, take_snoc hx, count_snoc]
        by_cases e : z = x
        · subst e
          rw [if_pos rfl, if_pos rfl]
          show V.int _ = _
          congr 1
          rw [Int.mul_add, Int.mul_one, Int.add_assoc]
        · rw [if_neg (fun h => e (Sum.inl.inj h)), if_neg e, h3 z, Int.add_zero]
      · rintro σ H2 ⟨v4, rfl, B2, T2, _⟩
        rw [List.length_map, List.take_length] at T2
        refine ⟨_, _, _, rfl, fun b o e => B2 b o (ne_of_none e hq) (s1 b o e), ?_, hil2⟩
        obtain ⟨kvs, h1, h2, h3⟩ := T2
        refine ⟨kvs, h1, by omega, fun x => ?_⟩
        rw [h3 x, take_snoc hr', times_snoc]
    · rintro σ H1 ⟨v2, v3, v4, rfl, s1, T1, _⟩
      rw [hR.1, List.take_length] at T1
      exact ⟨_, rfl, k q _ H1 s1 hq T1⟩
/-! ### is_cover -/
def isCoverB (bs ids : List Int) (ds : List PyData) (wo : Option (List (Int × Int))) : Bool := ds.all (isRunB ids bs.reverse) && ids.all (fun x => decide (wtI wo x ≤ timesI (ds.map runOfD) x))
structure CovD (ds : List PyData) : Prop where
  len : ds.length ≤ 4000
  run : ∀ d ∈ ds, smallR d
def spIsCover (K : PySem.W.Frag) : Sp := fun vs H Q _ => ∃ (b g c : Addr) (v : V) (bs ids : List Int) (us : List V) (ds : List PyData) (wo : Option (List (Int × Int))), vs = [.ref b, .ref g, .ref c, v] ∧ SqL K H b (bs.map V.int) ∧ SqL K H g (ids.map V.int) ∧ SqL K H c us ∧ DVs K H us ds ∧ CovD ds ∧ WtAt H v wo ∧
  bs.Nodup ∧ bs.length ≤ 300 ∧ ids.Nodup ∧ ids.length ≤ 300 ∧ ∀ H' : Hp, Same H H' → Q (.bl (isCoverB bs ids ds wo)) H'
abbrev NIc : List Str := ["base", "goal", "cover", "weights", "ahead", "back", "covered", "full", "run", "row_id"]
theorem scIsCover : FnScope NIc ["base", "goal", "cover", "weights"] (defScope sIsCover) := ⟨rfl, rfl, rfl, by decide +kernel, rfl, by decide +kernel, by decide +kernel⟩
theorem ok_isCover {f fP fR fT fU : Addr} {fd fdP fdR fdT fdU : FuncData} {kws : List (Str × V)} (F : FunD K "is_cover" "is_cover" (defArgs sIsCover) (defBody sIsCover) (defScope sIsCover) [] kws f fd) (T : mg "all" = none)
    (GP : FnOk P w K mg base CX0 1 fP fdP ["order"] (spPlaces K)) (kP : PySem.W.keepIn K (.ref fP) = true) (bP : L2.Binds K fdP ["order"] []) (mP : mg "places_of" = some (.ref fP))
    (GR : FnOk P w K mg base CX0 3 fR fdR ["ahead", "back", "value"] (spRun K)) (kR : PySem.W.keepIn K (.ref fR) = true) (bR : L2.Binds K fdR ["ahead", "back", "value"] []) (mR : mg "is_run" = some (.ref fR))
    (GT : FnOk P w K mg base CX0 1 fT fdT ["cover"] (spTimes K)) (kT : PySem.W.keepIn K (.ref fT) = true) (bT : L2.Binds K fdT ["cover"] []) (mT : mg "times_of" = some (.ref fT))
    (GU : FnOk P w K mg base CX0 1 fU fdU ["ids", "weights"] (spFull K)) (kU : PySem.W.keepIn K (.ref fU) = true) (bU : L2.Binds K fdU ["ids", "weights"] []) (mU : mg "full_weights" = some (.ref fU)) :
    FnOk P w K mg base CX0 4 f fd ["base", "goal", "cover", "weights"] (spIsCover K) := by
  refine FunD.ok0 F scIsCover (fun vs H Q E h => ?_) (fun cdv A outer s H vs Q E hr h => ?_)
  · obtain ⟨b, g, c, v, bs, ids, us, ds, wo, rfl, _⟩ := h
    rfl
  · obtain ⟨b, g, c, v, bs, ids, us, ds, wo, rfl, hb, hg, hc, hdv, hD, hw, nb, lb, nd, hlen, k⟩ := h
    have hu := hu_of hr
    have hr1 : Room 1 _ := hr.mono (by decide)
    refine ⟨_, pss_cons (ps_set (i := 4) scIsCover.nd rfl (Or.inr rfl) (pe_call GP hr1 rfl mP kP bP .nil pass0 (pa_cons (pv 1) pa_nil)))
      (pss_cons (ps_set (i := 5) scIsCover.nd rfl (Or.inr rfl) (pe_call GP hr1 rfl mP kP bP .nil pass0 (pa_cons (pe_revL (pv 0)) pa_nil)))
      (pss_cons (ps_if (pt_not (pt_val (pe_callB (cr_all rfl) (by rfl) T (by decide +kernel) (pa_cons (pe_lc (own := [("run", 8)]) (tt := tYes) (g := gName 8) rfl scIsCover.nd (pi_list (pv 2)) (blkOk_by (N := NIc) (sc := defScope sIsCover) (by decide +kernel))
          (fun _ _ _ _ _ => pg_name (i := 8) scIsCover.nd rfl (Or.inl rfl)) (fun _ _ _ _ _ => pts_nil) (fun _ _ _ _ _ => pe_call GR hr rfl mR kR bR .nil pass0 (pa_cons (pv 4) (pa_cons (pv 5) (pa_cons (pv 8) pa_nil))))) pa_nil)))) (pss_one (ps_ret pe_bl)) pss_nil)
      (pss_cons (ps_set (i := 6) scIsCover.nd rfl (Or.inr rfl) (pe_call GT hr1 rfl mT kT bT .nil pass0 (pa_cons (pv 2) pa_nil)))
      (pss_cons (ps_set (i := 7) scIsCover.nd rfl (Or.inr rfl) (pe_call GU hr1 rfl mU kU bU .nil pass0 (pa_cons (pv 1) (pa_cons (pv 3) pa_nil))))
      (pss_one (ps_ret (pe_callB (cr_all rfl) (by rfl) T (by decide +kernel) (pa_cons (pe_lc (own := [("row_id", 9)]) (tt := tYes) (g := gName 9) rfl scIsCover.nd (pi_list (pv 1)) (blkOk_by (N := NIc) (sc := defScope sIsCover) (by decide +kernel))
          (fun _ _ _ _ _ => pg_name (i := 9) scIsCover.nd rfl (Or.inl rfl)) (fun _ _ _ _ _ => pts_nil) (fun _ _ _ _ _ => pe_cmpR op_ge (pe_dget2 hu (pv 6) (pv 9) pe_int ⟨rfl, rfl, rfl, rfl⟩) (pe_dget hu (pv 7) (pv 9) (fun _ _ => rfl)) (by rfl))) pa_nil)))))))), ?_⟩
    have h16 : sizeLine = 16777216 := sizeLine_eq
    have hul := hdv.length
    have hdl := hD.len
    refine ⟨_, rfl, g, ids, rfl, hg, nd, hlen, fun pa H1 s1 hpa hPA => ?_⟩
    refine ⟨_, rfl, b, _, rfl, s1.seq hb, fun rb hrb => ?_⟩
    have srb := Same.new (o := .lst (bs.map V.int).reverse) hrb
    have hRB : upd H1 rb (.lst (bs.map V.int).reverse) rb = some (.lst (bs.reverse.map V.int)) := by rw [upd_same, List.map_reverse]
    generalize (upd H1 rb (.lst (bs.map V.int).reverse) : Hp) = H2 at srb hRB ⊢
    refine ⟨rb, bs.reverse, rfl, SqL.of hRB, ((List.reverse_perm bs).nodup_iff).mpr nb, by rw [List.length_reverse]; exact lb, fun pb H3 s3 hpb hPB => ?_⟩
    have s13 := s1.trans (srb.trans s3)
    have hPA3 := s3 _ _ (srb _ _ hPA)
    -- all runs
    refine ⟨_, rfl, c, rfl, ⟨_, s13.seq hc⟩, fun D hD1 => ?_⟩
    refine lc_list (K := K) (a := c) (xs := us) (fun j H' => Same H3 H' ∧ H' D = some (.lst (((ds.take j).map (isRunB ids bs.reverse)).map V.bl)) ∧ j ≤ us.length) ⟨Same.new hD1, by rw [List.take_zero]; exact upd_same, Nat.zero_le _⟩ (fun j H' _ z => (s13.trans z.1).seq hc) ?_ ?_
    · rintro j y H4 hj ⟨s4, hA, hjl⟩
      obtain ⟨d, hd, hv⟩ := (hdv.same (s13.trans s4)).at hj
      refine ⟨rfl, _, rfl, _, rfl, _, rfl, pa, pb, ids, bs.reverse, y, d, rfl, s4 _ _ hPA3, s4 _ _ hPB, hv, hD.run d (List.mem_of_getElem? hd), fun H5 s5 => ?_⟩
      have s45 := s4.trans s5
      refine ⟨_, s5 _ _ hA, by rw [List.length_map, List.length_map, List.length_take, h16]; omega, fun b u z => by rw [upd_ne (ne_of_none z hD1)]; exact s45 _ _ z, ?_, (List.getElem?_eq_some_iff.mp hj).1⟩
      rw [upd_same, take_snoc hd, List.map_append, List.map_append]; rfl
    rintro H4 ⟨s4, hA, _⟩
    rw [hul, List.take_length] at hA
    refine ⟨D, _, rfl, SqL.of hA, _, rfl, ?_⟩
    rw [all_id_map]
    have s14 := s13.trans s4
    cases hall : ds.all (isRunB ids bs.reverse) with
    | false =>
      refine iteT ?_
      have := k H4 s14
      unfold isCoverB at this
      rw [hall] at this
      exact this
    | true =>
      refine iteF ?_
      have kk : ∀ H', Same H H' → Q (.bl (ids.all (fun x => decide (wtI wo x ≤ timesI (ds.map runOfD) x)))) H' := fun H' s => by
        have := k H' s
        unfold isCoverB at this
        rw [hall] at this
        exact this
      have hRn := runs_of (hdv.same s14) hall
      have hrl : ∀ r ∈ ds.map runOfD, r.2.length ≤ 4000 := fun r hr => by
        obtain ⟨d, hd, rfl⟩ := List.mem_map.mp hr
        obtain ⟨n, es, rfl, _⟩ := isRunB_inv (List.all_eq_true.mp hall d hd)
        show (es.map intOf).length ≤ 4000
        rw [List.length_map]
        exact hD.run _ hd _ _ rfl
      refine ⟨_, rfl, c, us, _, rfl, s14.seq hc, hRn, by rw [List.length_map]; exact hdl, hrl, fun q n H5 s5 hq hT => ?_⟩
      have s15 := s14.trans s5
      refine ⟨_, rfl, _, rfl, g, v, ids, wo, rfl, s15.seq hg, hw.same s15, nd, hlen, fun fu H6 s6 hfu hFU => ?_⟩
      have s16 := s15.trans s6
      have hT6 := hT.same s6
      refine ⟨_, rfl, g, rfl, ⟨_, s16.seq hg⟩, fun D2 hD2 => ?_⟩
      refine lc_list (K := K) (a := g) (xs := ids.map V.int) (fun j H' => Same H6 H' ∧ H' D2 = some (.lst (((ids.take j).map fun x => decide (wtI wo x ≤ timesI (ds.map runOfD) x)).map V.bl)) ∧ j ≤ ids.length) ⟨Same.new hD2, by rw [List.take_zero]; exact upd_same, Nat.zero_le _⟩ (fun j H' _ z => (s16.trans z.1).seq hg) ?_ ?_
      · rintro j y H7 hj ⟨s7, hA7, hjl⟩
        obtain ⟨x, hx, rfl⟩ := int_at hj
        obtain ⟨kvs, h1, h2, h3⟩ := hT6.same s7
        have dg : DGet H7 fu (.int x) (some (.int (wtI wo x))) := by
          have := DGet.k (k := (.inl x : Key)) (s7 _ _ hFU)
          rw [val_pin, tab_an (List.mem_of_getElem? hx)] at this
          exact this
        refine ⟨rfl, _, rfl, q, rfl, .inl ⟨_, .inl h1⟩, _, rfl, _, DGet.k (k := (.inl x : Key)) h1, ?_⟩
        rw [h3 x]
        refine ⟨_, rfl, _, rfl, fu, _, rfl, dg, _, _, rfl, rfl, ?_⟩
        refine ⟨_, hA7, by rw [List.length_map, List.length_map, List.length_take, h16]; omega, fun b u z => by rw [upd_ne (ne_of_none z hD2)]; exact s7 _ _ z, ?_, (List.getElem?_eq_some_iff.mp hx).1⟩
        rw [upd_same, take_snoc hx, List.map_append, List.map_append]; rfl
      · rintro H7 ⟨s7, hA7, _⟩
        rw [List.length_map, List.take_length] at hA7
        refine ⟨D2, _, rfl, SqL.of hA7, ?_⟩
        rw [all_id_map]
        exact kk H7 (s16.trans s7)
end
/-! ### covers as data -/
def encR (r : Int × List Int) : PyData := .tuple [.int r.1, .tuple (r.2.map .int)]
theorem DVs.intsC {K : PySem.W.Frag} {H : Hp} : ∀ ks : List Int, DVs K H (ks.map V.int) (ks.map PyData.int)
  | [] => .nil
  | k :: r => .cons (.int k) (DVs.intsC r)
theorem RunAt.dv {K : PySem.W.Frag} {H : Hp} {v : V} {r : Int × List Int} (h : RunAt H v r) : DV K H v (encR r) := by
  obtain ⟨t, u, rfl, h1, h2⟩ := h
  exact .tup (SqT.of h1) (.cons (.int _) (.cons (.tup (SqT.of h2) (DVs.intsC _)) .nil))
theorem RunAt.dw {K : PySem.W.Frag} {H : Hp} {v : V} {r : Int × List Int} (h : RunAt H v r) : DW K H v (encR r) := by
  obtain ⟨t, u, rfl, h1, h2⟩ := h
  exact .tup (SqT.of h1) (.cons (.int _) (.cons (.tup (SqT.of h2) (DWs.ints _)) .nil))
theorem dvs_of {K : PySem.W.Frag} {H : Hp} : ∀ {vs : List V} {rs : List (Int × List Int)}, vs.length = rs.length → (∀ (i : Nat) (v : V) (r : Int × List Int), vs[i]? = some v → rs[i]? = some r → RunAt H v r) → DVs K H vs (rs.map encR) ∧ DWs K H vs (rs.map encR)
  | [], [], _, _ => ⟨.nil, .nil⟩
  | [], _ :: _, h, _ => by cases h
  | _ :: _, [], h, _ => by cases h
  | v :: vs, r :: rs, hl, h => by
    obtain ⟨a, b⟩ := dvs_of (K := K) (Nat.succ.inj hl) fun i q t h1 h2 => h (i + 1) q t h1 h2
    have h0 := h 0 v r rfl rfl
    exact ⟨.cons h0.dv a, .cons h0.dw b⟩
theorem RunsAt.dvs {K : PySem.W.Frag} {H : Hp} {q : Addr} {rs : List (Int × List Int)} (h : RunsAt H q rs) : ∃ us, H q = some (.lst us) ∧ DVs K H us (rs.map encR) := by
  obtain ⟨vs, h1, h2, h3⟩ := h
  exact ⟨vs, h1, (dvs_of h2 h3).1⟩
theorem RunsAt.dw {K : PySem.W.Frag} {H : Hp} {q : Addr} {rs : List (Int × List Int)} (h : RunsAt H q rs) : DW K H (.ref q) (.list (rs.map encR)) := by
  obtain ⟨vs, h1, h2, h3⟩ := h
  exact .lst (SqL.of h1) (dvs_of h2 h3).2
theorem RunsAt.er {H : Hp} {q p : Addr} {rs : List (Int × List Int)} {xs : List V} (h : RunsAt H q rs) (hp : H p = some (.lst xs)) (hne : q ≠ p) : RunsAt (er H p) q rs := by
  obtain ⟨vs, h1, h2, h3⟩ := h
  refine ⟨vs, er_at h1 hne, h2, fun i v r e1 e2 => ?_⟩
  obtain ⟨t, u, e, g1, g2⟩ := h3 i v r e1 e2
  exact ⟨t, u, e, er_at g1 (ne_of g1 hp (fun z => by cases z)), er_at g2 (ne_of g2 hp (fun z => by cases z))⟩
theorem covD_runs {rs : List (Int × List Int)} (hl : rs.length ≤ 4000) (h : ∀ r ∈ rs, r.2.length ≤ 4000) : CovD (rs.map encR) := by
  refine ⟨by rw [List.length_map]; exact hl, fun d hd t es e => ?_⟩
  obtain ⟨r, hr, rfl⟩ := List.mem_map.mp hd
  unfold encR at e
  cases e
  rw [List.length_map]
  exact h r hr
theorem runs_dec (rs : List (Int × List Int)) : (rs.map encR).map runOfD = rs := by
  rw [List.map_map]
  have : ∀ r : Int × List Int, (runOfD ∘ encR) r = r := fun r => by
    show (r.1, (r.2.map PyData.int).map intOf) = r
    rw [List.map_map]
    have : (intOf ∘ PyData.int) = id := rfl
    rw [this, List.map_id]
  rw [show (runOfD ∘ encR) = id from funext this, List.map_id]
theorem runs_okW {L : Nat} : ∀ rs : List (Int × List Int), (∀ r ∈ rs, r.1.natAbs < 2 ^ 300 ∧ r.2.length ≤ L ∧ ∀ z ∈ r.2, 0 ≤ z ∧ z ≤ 1000000) → okWs (rs.map encR) = true ∧ szWs (rs.map encR) ≤ rs.length * (L * 305 + 320) ∧ PyData.depthAll (rs.map encR) ≤ 5
  | [], _ => ⟨by rw [List.map_nil, okWs], by rw [List.map_nil, szWs]; omega, by rw [List.map_nil, PyData.depthAll]; omega⟩
  | r :: rs, h => by
    obtain ⟨i1, i2, i3⟩ := runs_okW rs fun z hz => h z (List.mem_cons_of_mem _ hz)
    obtain ⟨h1, h2, h3⟩ := h r List.mem_cons_self
    obtain ⟨o1, o2⟩ := ints_okW r.2 h3
    refine ⟨?_, ?_, ?_⟩
    · rw [List.map_cons, okWs, encR, okW, okWs, okW, okWs, okW, okWs, o1, i1, decide_eq_true h1]; rfl
    · rw [List.map_cons, szWs, encR, szW, szWs, szW, szWs, szW, szWs, o2, List.length_cons, Nat.add_mul]
      have : r.2.length * 305 ≤ L * 305 := Nat.mul_le_mul_right _ h2
      omega
    · rw [List.map_cons, PyData.depthAll, encR]
      have : (PyData.tuple [.int r.1, .tuple (r.2.map .int)]).depth ≤ 5 := by
        rw [PyData.depth, PyData.depthAll, PyData.depthAll, PyData.depthAll, PyData.depth, PyData.depth, PySem.W.depth_ints]
        decide
      omega
theorem rokP_runs {L : Nat} {rs : List (Int × List Int)} (h : ∀ r ∈ rs, r.1.natAbs < 2 ^ 300 ∧ r.2.length ≤ L ∧ ∀ z ∈ r.2, 0 ≤ z ∧ z ≤ 1000000) (hl : rs.length * (L * 305 + 320) ≤ 999000) : RokP (.list (rs.map encR)) := by
  obtain ⟨a, b, c⟩ := runs_okW rs h
  exact ⟨by rw [okW]; exact a, by rw [PyData.depth]; omega, by rw [szW]; omega⟩
/-! ### bounds of levels -/
theorem top_bound {pl wf : Int → Int} {l : List Int} {M : Int} (nd : l.Nodup) (hw : ∀ x ∈ l, 0 ≤ wf x ∧ wf x ≤ M) : ∀ (n : Nat) (a b : List Int) (x : Int), a.length ≤ n → l = a ++ x :: b → 0 ≤ topI pl wf l x ∧ topI pl wf l x ≤ M * ((a.length : Int) + 1) ∧ 0 ≤ topI pl wf l x - wf x
  | n, a, b, x, hn, e => by
    have hx : x ∈ l := by rw [e]; exact List.mem_append_right _ List.mem_cons_self
    obtain ⟨w0, w1⟩ := hw x hx
    rw [topI_step nd e]
    have key : 0 ≤ maxI 0 ((a.filter fun y => decide (pl y < pl x)).map (topI pl wf l)) ∧ maxI 0 ((a.filter fun y => decide (pl y < pl x)).map (topI pl wf l)) ≤ M * (a.length : Int) := by
      by_cases h0 : (a.filter fun y => decide (pl y < pl x)).map (topI pl wf l) = []
      · rw [h0]
        exact ⟨Int.le_refl _, Int.mul_nonneg (by omega) (by omega)⟩
      · obtain ⟨y, hy, ey⟩ := List.mem_map.mp (maxI_in (d := 0) h0)
        rw [← ey]
        have hya := (List.mem_filter.mp hy).1
        obtain ⟨a1, a2, ea⟩ := List.append_of_mem hya
        have hlen : a.length = a1.length + (a2.length + 1) := by rw [ea, List.length_append, List.length_cons]
        cases n with
        | zero => omega
        | succ m =>
          obtain ⟨q1, q2, _⟩ := top_bound nd hw m a1 (a2 ++ x :: b) y (by omega) (by rw [e, ea, List.append_assoc]; rfl)
          refine ⟨q1, Int.le_trans q2 ?_⟩
          refine Int.mul_le_mul_of_nonneg_left ?_ (by omega)
          omega
    refine ⟨by omega, ?_, by omega⟩
    rw [Int.mul_add, Int.mul_one]
    omega
theorem cov_small {pl wf : Int → Int} {ids : List Int} {M : Int} (nd : ids.Nodup) (hw : ∀ x ∈ ids, 0 ≤ wf x ∧ wf x ≤ M) {r : Int × List Int} (hr : r ∈ covF ids (topI pl wf ids) (fun x => topI pl wf ids x - wf x)) : r.1.natAbs ≤ (M * (ids.length : Int)).toNat := by
  unfold covF runsOf at hr
  obtain ⟨e, he, rfl⟩ := List.mem_map.mp hr
  have tb : ∀ x ∈ ids, (0 ≤ topI pl wf ids x ∧ topI pl wf ids x ≤ M * (ids.length : Int)) ∧ 0 ≤ topI pl wf ids x - wf x ∧ topI pl wf ids x - wf x ≤ M * (ids.length : Int) := fun x hx => by
    obtain ⟨a, b, ea⟩ := List.append_of_mem hx
    obtain ⟨q1, q2, q3⟩ := top_bound (pl := pl) nd hw a.length a b x (Nat.le_refl _) ea
    have hw0 := hw x hx
    have : M * ((a.length : Int) + 1) ≤ M * (ids.length : Int) := by
      refine Int.mul_le_mul_of_nonneg_left ?_ (by omega)
      have := congrArg List.length ea
      rw [List.length_append, List.length_cons] at this
      omega
    exact ⟨⟨q1, by omega⟩, q3, by omega⟩
  have bm : ∀ z ∈ boundsI (ids.map (fun x => topI pl wf ids x - wf x) ++ ids.map (topI pl wf ids)), 0 ≤ z ∧ z ≤ M * (ids.length : Int) := fun z hz => by
    rcases List.mem_append.mp ((bounds_mem _ z).mp hz) with h | h
    · obtain ⟨x, hx, rfl⟩ := List.mem_map.mp h
      exact (tb x hx).2
    · obtain ⟨x, hx, rfl⟩ := List.mem_map.mp h
      exact (tb x hx).1
  obtain ⟨i, hi⟩ := List.mem_iff_getElem?.mp he
  obtain ⟨z1, z2⟩ := List.getElem?_zip_eq_some.mp hi
  have b1 := bm e.1 (List.mem_of_getElem? z1)
  have b2 := bm e.2 (List.mem_of_mem_drop (List.mem_of_getElem? z2))
  show (e.2 - e.1).natAbs ≤ _
  omega
/-! ### level covers and straight sets: the pure part -/
theorem pair_split {x y : Int} : ∀ {l : List Int}, [x, y].Sublist l → ∃ a b, l = a ++ y :: b ∧ x ∈ a := by
  intro l
  induction l with
  | nil => intro h; cases h
  | cons z r ih =>
    intro h
    cases h with
    | cons _ h =>
      obtain ⟨a, b, e, hx⟩ := ih h
      exact ⟨z :: a, b, by rw [e]; rfl, List.mem_cons_of_mem _ hx⟩
    | cons_cons _ h =>
      obtain ⟨a, b, e⟩ := List.append_of_mem (h.subset List.mem_cons_self)
      exact ⟨x :: a, b, by rw [e]; rfl, List.mem_cons_self⟩
/-! neighbours in an ascending list -/
theorem adj_facts : ∀ {b : List Int}, b.Pairwise (· < ·) → ∀ e ∈ b.zip (b.drop 1), e.1 < e.2 ∧ e.1 ∈ b ∧ e.2 ∈ b ∧ ∀ z ∈ b, z ≤ e.1 ∨ e.2 ≤ z := by
  intro b
  induction b with
  | nil => intro _ e h; simp at h
  | cons x r ih =>
    intro hp e h
    obtain ⟨p1, p2⟩ := List.pairwise_cons.mp hp
    cases r with
    | nil => simp at h
    | cons y r =>
      have h' : e ∈ (x, y) :: (y :: r).zip ((y :: r).drop 1) := h
      rcases List.mem_cons.mp h' with q | q
      · subst q
        refine ⟨p1 y List.mem_cons_self, List.mem_cons_self, List.mem_cons_of_mem _ List.mem_cons_self, fun z hz => ?_⟩
        rcases List.mem_cons.mp hz with q | q
        · left; show z ≤ x; omega
        · right
          rcases List.mem_cons.mp q with q2 | q2
          · show y ≤ z; omega
          · have := (List.pairwise_cons.mp p2).1 z q2
            show y ≤ z; omega
      · obtain ⟨i1, i2, i3, i4⟩ := ih p2 e q
        refine ⟨i1, List.mem_cons_of_mem _ i2, List.mem_cons_of_mem _ i3, fun z hz => ?_⟩
        rcases List.mem_cons.mp hz with q | q
        · left; have := p1 _ i2; omega
        · exact i4 z q
def lastI : Int → List Int → Int
  | x, [] => x
  | _, y :: r => lastI y r
theorem last_mem : ∀ (r : List Int) (x : Int), lastI x r ∈ x :: r
  | [], x => List.mem_cons_self
  | y :: r, x => List.mem_cons_of_mem _ (last_mem r y)
theorem last_top : ∀ (r : List Int) (x : Int), (x :: r).Pairwise (· < ·) → ∀ z ∈ x :: r, x ≤ z ∧ z ≤ lastI x r
  | [], x, _, z, h => by
    rcases List.mem_cons.mp h with e | e
    · subst e; exact ⟨Int.le_refl _, Int.le_refl _⟩
    · cases e
  | y :: r, x, hp, z, h => by
    obtain ⟨p1, p2⟩ := List.pairwise_cons.mp hp
    have a := p1 y List.mem_cons_self
    have b := (last_top r y p2 y List.mem_cons_self).2
    show x ≤ z ∧ z ≤ lastI y r
    rcases List.mem_cons.mp h with e | e
    · subst e; exact ⟨Int.le_refl _, by omega⟩
    · have := last_top r y p2 z e
      exact ⟨by omega, this.2⟩
theorem tele (c : Int → Int) : ∀ (r : List Int) (x : Int), (((x :: r).zip r).map fun e => c e.2 - c e.1).sum = c (lastI x r) - c x
  | [], x => by show (0 : Int) = c x - c x; omega
  | y :: r, x => by
    show (c y - c x) + (((y :: r).zip r).map fun e => c e.2 - c e.1).sum = c (lastI y r) - c x
    rw [tele c r y]; omega
theorem adj_sum {b : List Int} (hb : b.Pairwise (· < ·)) {lo hi : Int} (h1 : lo ∈ b) (h2 : hi ∈ b) (h : lo ≤ hi) :
    ((b.zip (b.drop 1)).map fun e => if lo ≤ e.1 ∧ e.2 ≤ hi then e.2 - e.1 else 0).sum = hi - lo := by
  cases b with
  | nil => cases h1
  | cons x r =>
    have e : (((x :: r).zip ((x :: r).drop 1)).map fun e => if lo ≤ e.1 ∧ e.2 ≤ hi then e.2 - e.1 else 0) = ((x :: r).zip r).map fun e => (max lo (min hi e.2)) - (max lo (min hi e.1)) := by
      refine List.map_congr_left fun e he => ?_
      obtain ⟨a1, a2, a3, a4⟩ := adj_facts hb e he
      have b1 := a4 lo h1
      have b2 := a4 hi h2
      by_cases q : lo ≤ e.1 ∧ e.2 ≤ hi
      · rw [if_pos q]; omega
      · rw [if_neg q]; omega
    rw [e, tele (fun z => max lo (min hi z)) r x]
    have l1 := (last_top r x hb lo h1).1
    have l2 := (last_top r x hb hi h2).2
    show max lo (min hi (lastI x r)) - max lo (min hi x) = _
    omega
theorem adj_all {b : List Int} : ((b.zip (b.drop 1)).map fun e => e.2 - e.1).sum = match b with | [] => 0 | x :: r => lastI x r - x := by
  cases b with
  | nil => rfl
  | cons x r => exact tele (fun z => z) r x
/-! the tops -/
section
variable {pl wf : Int → Int} {ids : List Int}
theorem top_dis (nd : ids.Nodup) {x y : Int} (h : [x, y].Sublist ids) (hp : pl x < pl y) : topI pl wf ids x ≤ topI pl wf ids y - wf y := by
  obtain ⟨a, b, e, hx⟩ := pair_split h
  have st := topI_step (pl := pl) (wf := wf) nd e
  have m : topI pl wf ids x ≤ maxI 0 ((a.filter fun z => decide (pl z < pl y)).map (topI pl wf ids)) := maxI_ge (List.mem_map.mpr ⟨x, List.mem_filter.mpr ⟨hx, decide_eq_true hp⟩, rfl⟩)
  omega
theorem floor_at (nd : ids.Nodup) {x : Int} (hx : x ∈ ids) : topI pl wf ids x - wf x = 0 ∨ ∃ u ∈ ids, [u, x].Sublist ids ∧ pl u < pl x ∧ topI pl wf ids x - wf x = topI pl wf ids u := by
  obtain ⟨a, b, e⟩ := List.append_of_mem hx
  have st := topI_step (pl := pl) (wf := wf) nd e
  by_cases h0 : (a.filter fun z => decide (pl z < pl x)).map (topI pl wf ids) = []
  · rw [h0] at st
    left
    have : maxI 0 ([] : List Int) = 0 := rfl
    omega
  · right
    obtain ⟨u, hu, eu⟩ := List.mem_map.mp (maxI_in (d := 0) h0)
    obtain ⟨h1, h2⟩ := List.mem_filter.mp hu
    refine ⟨u, by rw [e]; exact List.mem_append_left _ h1, ?_, of_decide_eq_true h2, by omega⟩
    rw [e]
    exact List.Sublist.append (List.singleton_sublist.mpr h1) (List.singleton_sublist.mpr List.mem_cons_self)
theorem floor_pos (nd : ids.Nodup) (hw : ∀ x ∈ ids, 0 < wf x) {x : Int} (hx : x ∈ ids) : 0 ≤ topI pl wf ids x - wf x := by
  obtain ⟨a, b, e⟩ := List.append_of_mem hx
  exact (top_bound nd (M := maxI 0 (ids.map wf)) (fun z hz => ⟨by have := hw z hz; omega, maxI_ge (List.mem_map.mpr ⟨z, hz, rfl⟩)⟩) a.length a b x (Nat.le_refl _) e).2.2
abbrev lvl (pl wf : Int → Int) (ids : List Int) : List (Int × List Int) := covF ids (topI pl wf ids) (fun x => topI pl wf ids x - wf x)
abbrev bnd (pl wf : Int → Int) (ids : List Int) : List Int := boundsI (ids.map (fun x => topI pl wf ids x - wf x) ++ ids.map (topI pl wf ids))
theorem bnd_fl {x : Int} (hx : x ∈ ids) : topI pl wf ids x - wf x ∈ bnd pl wf ids := (bounds_mem _ _).mpr (List.mem_append_left _ (List.mem_map.mpr ⟨x, hx, rfl⟩))
theorem bnd_tp {x : Int} (hx : x ∈ ids) : topI pl wf ids x ∈ bnd pl wf ids := (bounds_mem _ _).mpr (List.mem_append_right _ (List.mem_map.mpr ⟨x, hx, rfl⟩))
theorem bnd_in {z : Int} (h : z ∈ bnd pl wf ids) : ∃ x ∈ ids, z = topI pl wf ids x - wf x ∨ z = topI pl wf ids x := by
  rcases List.mem_append.mp ((bounds_mem _ _).mp h) with q | q
  · obtain ⟨x, hx, e⟩ := List.mem_map.mp q; exact ⟨x, hx, .inl e.symm⟩
  · obtain ⟨x, hx, e⟩ := List.mem_map.mp q; exact ⟨x, hx, .inr e.symm⟩
theorem lvl_run {r : Int × List Int} (h : r ∈ lvl pl wf ids) : ∃ e ∈ (bnd pl wf ids).zip ((bnd pl wf ids).drop 1), r = (e.2 - e.1, ids.filter fun x => decide (topI pl wf ids x - wf x ≤ e.1) && decide (e.2 ≤ topI pl wf ids x)) := by
  obtain ⟨e, he, q⟩ := List.mem_map.mp (show r ∈ ((bnd pl wf ids).zip ((bnd pl wf ids).drop 1)).map _ from h)
  exact ⟨e, he, q.symm⟩
theorem lvl_in {r : Int × List Int} {e : Int × Int} (h : r = (e.2 - e.1, ids.filter fun x => decide (topI pl wf ids x - wf x ≤ e.1) && decide (e.2 ≤ topI pl wf ids x))) (x : Int) : x ∈ r.2 ↔ x ∈ ids ∧ topI pl wf ids x - wf x ≤ e.1 ∧ e.2 ≤ topI pl wf ids x := by
  rw [h]
  show x ∈ ids.filter _ ↔ _
  rw [List.mem_filter, Bool.and_eq_true, decide_eq_true_iff, decide_eq_true_iff]
/-- two ids of a run stand in the reverse sequence -/
theorem lvl_apart (nd : ids.Nodup) {r : Int × List Int} (h : r ∈ lvl pl wf ids) {x y : Int} (hs : [x, y].Sublist ids) (hx : x ∈ r.2) (hy : y ∈ r.2) : ¬ pl x < pl y := by
  obtain ⟨e, he, q⟩ := lvl_run h
  have a := (adj_facts (bounds_up _) e he).1
  have b := ((lvl_in q x).mp hx).2
  have c := ((lvl_in q y).mp hy).2
  intro hp
  have := top_dis (wf := wf) nd hs hp
  omega
theorem lvl_pos {r : Int × List Int} (h : r ∈ lvl pl wf ids) : 1 ≤ r.1 := by
  obtain ⟨e, he, q⟩ := lvl_run h
  have a := (adj_facts (bounds_up _) e he).1
  rw [q]
  show 1 ≤ e.2 - e.1
  omega
theorem lvl_some (nd : ids.Nodup) (hw : ∀ x ∈ ids, 0 < wf x) {r : Int × List Int} (h : r ∈ lvl pl wf ids) : r.2 ≠ [] := by
  obtain ⟨e, he, q⟩ := lvl_run h
  obtain ⟨a1, a2, a3, a4⟩ := adj_facts (bounds_up _) e he
  have key : ∃ u ∈ ids, topI pl wf ids u = e.2 := by
    obtain ⟨x, hx, h1 | h1⟩ := bnd_in a3
    · rcases floor_at (pl := pl) (wf := wf) nd hx with z | ⟨u, hu, _, _, z⟩
      · obtain ⟨y, hy, h2⟩ := bnd_in a2
        have p := floor_pos (pl := pl) nd hw hy
        have p2 := hw y hy
        rcases h2 with h2 | h2 <;> omega
      · exact ⟨u, hu, by omega⟩
    · exact ⟨x, hx, h1.symm⟩
  obtain ⟨u, hu, eu⟩ := key
  have b := a4 _ (bnd_fl (pl := pl) (wf := wf) hu)
  have p2 := hw u hu
  intro hn
  have := (lvl_in q u).mpr ⟨hu, by omega, by omega⟩
  rw [hn] at this
  cases this
theorem count_one {l : List Int} (nd : l.Nodup) (x : Int) : l.count x = if x ∈ l then 1 else 0 := by
  by_cases h : x ∈ l
  · rw [if_pos h]
    have a := List.nodup_iff_count.mp nd x
    have b := List.count_pos_iff.mpr h
    omega
  · rw [if_neg h]; exact List.count_eq_zero.mpr h
/-- each id is in as many runs as it weighs -/
theorem lvl_times (nd : ids.Nodup) (hw : ∀ x ∈ ids, 0 < wf x) {x : Int} (hx : x ∈ ids) : timesI (lvl pl wf ids) x = wf x := by
  unfold timesI
  show ((((bnd pl wf ids).zip ((bnd pl wf ids).drop 1)).map fun e => (e.2 - e.1, ids.filter fun x => decide (topI pl wf ids x - wf x ≤ e.1) && decide (e.2 ≤ topI pl wf ids x))).map fun r => r.1 * ((r.2.count x : Nat) : Int)).sum = _
  rw [List.map_map]
  have hlt := hw x hx
  have s := adj_sum (bounds_up (ids.map (fun x => topI pl wf ids x - wf x) ++ ids.map (topI pl wf ids))) (bnd_fl (pl := pl) (wf := wf) hx) (bnd_tp (pl := pl) (wf := wf) hx) (by omega)
  have e2 : wf x = topI pl wf ids x - (topI pl wf ids x - wf x) := by omega
  rw [e2, ← s]
  congr 1
  refine List.map_congr_left fun e he => ?_
  show (e.2 - e.1) * (((ids.filter fun x => decide (topI pl wf ids x - wf x ≤ e.1) && decide (e.2 ≤ topI pl wf ids x)).count x : Nat) : Int) = _
  rw [count_one (nd.sublist List.filter_sublist)]
  have i := lvl_in (pl := pl) (wf := wf) (ids := ids) (e := e) rfl x
  by_cases q : topI pl wf ids x - wf x ≤ e.1 ∧ e.2 ≤ topI pl wf ids x
  · rw [if_pos (i.mpr ⟨hx, q⟩), if_pos q]
    show (e.2 - e.1) * 1 = _
    omega
  · rw [if_neg (fun z => q (i.mp z).2), if_neg q]
    show (e.2 - e.1) * 0 = _
    omega
/-- the times of a level cover together -/
theorem lvl_sum (nd : ids.Nodup) (hw : ∀ x ∈ ids, 0 < wf x) : sumT (lvl pl wf ids) = maxI 0 (ids.map (topI pl wf ids)) := by
  have e1 : sumT (lvl pl wf ids) = (((bnd pl wf ids).zip ((bnd pl wf ids).drop 1)).map fun e => e.2 - e.1).sum := by
    unfold sumT
    show ((((bnd pl wf ids).zip ((bnd pl wf ids).drop 1)).map fun e => (e.2 - e.1, ids.filter fun x => decide (topI pl wf ids x - wf x ≤ e.1) && decide (e.2 ≤ topI pl wf ids x))).map Prod.fst).sum = _
    rw [List.map_map]; rfl
  rw [e1, adj_all]
  have up : (bnd pl wf ids).Pairwise (· < ·) := bounds_up _
  have hm : ∀ z, z ∈ bnd pl wf ids → ∃ x ∈ ids, z = topI pl wf ids x - wf x ∨ z = topI pl wf ids x := fun z h => bnd_in h
  have hf : ∀ x ∈ ids, topI pl wf ids x - wf x ∈ bnd pl wf ids := fun x hx => bnd_fl hx
  have ht : ∀ x ∈ ids, topI pl wf ids x ∈ bnd pl wf ids := fun x hx => bnd_tp hx
  cases hids : ids with
  | nil => rfl
  | cons x0 r0 =>
    have hx0 : x0 ∈ ids := by rw [hids]; exact List.mem_cons_self
    rw [← hids]
    generalize bnd pl wf ids = B at up hm hf ht ⊢
    cases B with
    | nil => have := ht x0 hx0; cases this
    | cons z r =>
      show lastI z r - z = _
      have st := topI_step (pl := pl) (wf := wf) nd (a := []) hids
      have m0 : maxI 0 ((([] : List Int).filter fun y => decide (pl y < pl x0)).map (topI pl wf ids)) = 0 := rfl
      have f0 := (last_top r z up _ (hf x0 hx0)).1
      have z0 : z = 0 := by
        obtain ⟨y, hy, h2⟩ := hm z List.mem_cons_self
        have p := floor_pos (pl := pl) nd hw hy
        have p2 := hw y hy
        rcases h2 with h2 | h2 <;> omega
      have hne : ids.map (topI pl wf ids) ≠ [] := by rw [hids]; intro h; cases h
      obtain ⟨u, hu, eu⟩ := List.mem_map.mp (maxI_in (d := 0) hne)
      have l1 := (last_top r z up _ (ht u hu)).2
      obtain ⟨y, hy, h2⟩ := hm _ (last_mem r z)
      have l2 := maxI_ge (d := 0) (List.mem_map.mpr ⟨y, hy, rfl⟩ : topI pl wf ids y ∈ ids.map (topI pl wf ids))
      have p2 := hw y hy
      rcases h2 with h2 | h2 <;> omega
/-! straight sets -/
def StrP (pl : Int → Int) (s : List Int) : Prop := s.Pairwise fun x y => pl x < pl y
def meetI (s r : List Int) : Int := (s.map fun x => ((r.count x : Nat) : Int)).sum
theorem meet_zero {s r : List Int} (h : ∀ x ∈ s, x ∉ r) : meetI s r = 0 := by
  induction s with
  | nil => rfl
  | cons x s ih =>
    show ((r.count x : Nat) : Int) + meetI s r = 0
    rw [ih fun z hz => h z (List.mem_cons_of_mem _ hz), List.count_eq_zero.mpr (h x List.mem_cons_self)]
    rfl
theorem meet_one {s r : List Int} (nr : r.Nodup) (h : s.Pairwise fun x y => ¬ (x ∈ r ∧ y ∈ r)) : meetI s r = 0 ∨ meetI s r = 1 := by
  induction s with
  | nil => exact .inl rfl
  | cons x s ih =>
    obtain ⟨h1, h2⟩ := List.pairwise_cons.mp h
    have e : meetI (x :: s) r = ((r.count x : Nat) : Int) + meetI s r := rfl
    rw [e, count_one nr]
    by_cases q : x ∈ r
    · rw [if_pos q, meet_zero fun z hz => fun hr => h1 z hz ⟨q, hr⟩]
      exact .inr rfl
    · rw [if_neg q]
      rcases ih h2 with i | i
      · rw [i]; exact .inl rfl
      · rw [i]; exact .inr rfl
theorem lvl_meet (nd : ids.Nodup) {s : List Int} (hs : s.Sublist ids) (hst : StrP pl s) {r : Int × List Int} (h : r ∈ lvl pl wf ids) : meetI s r.2 = 0 ∨ meetI s r.2 = 1 := by
  refine meet_one (nd.sublist (cov_sub h)) ?_
  refine List.pairwise_iff_forall_sublist.mpr fun {x y} hxy => ?_
  rintro ⟨hx, hy⟩
  exact lvl_apart nd h (hxy.trans hs) hx hy (List.pairwise_iff_forall_sublist.mp hst hxy)
theorem times_swap (s : List Int) : ∀ rs : List (Int × List Int), (s.map (timesI rs)).sum = (rs.map fun r => r.1 * meetI s r.2).sum
  | [] => by
    show (s.map fun _ => (0 : Int)).sum = 0
    induction s with
    | nil => rfl
    | cons x s ih => rw [List.map_cons, List.sum_cons, ih]; rfl
  | r :: rs => by
    rw [List.map_cons, List.sum_cons, ← times_swap s rs]
    clear times_swap
    induction s with
    | nil => show (0 : Int) = r.1 * 0 + 0; omega
    | cons x s ih =>
      rw [List.map_cons, List.sum_cons, ih, List.map_cons, List.sum_cons]
      have e1 : timesI (r :: rs) x = r.1 * ((r.2.count x : Nat) : Int) + timesI rs x := rfl
      have e2 : meetI (x :: s) r.2 = ((r.2.count x : Nat) : Int) + meetI s r.2 := rfl
      rw [e1, e2, Int.mul_add]
      omega
theorem lvl_swap (nd : ids.Nodup) (hw : ∀ x ∈ ids, 0 < wf x) {s : List Int} (hs : s.Sublist ids) : (s.map wf).sum = ((lvl pl wf ids).map fun r => r.1 * meetI s r.2).sum := by
  rw [← times_swap]
  congr 1
  exact List.map_congr_left fun x hx => (lvl_times nd hw (hs.subset hx)).symm
theorem sum_le : ∀ {rs : List (Int × List Int)} {s : List Int}, (∀ r ∈ rs, 1 ≤ r.1) → (∀ r ∈ rs, meetI s r.2 = 0 ∨ meetI s r.2 = 1) → (rs.map fun r => r.1 * meetI s r.2).sum ≤ sumT rs ∧ ((rs.map fun r => r.1 * meetI s r.2).sum = sumT rs → ∀ r ∈ rs, meetI s r.2 = 1)
  | [], s, _, _ => ⟨Int.le_refl _, fun _ r h => by cases h⟩
  | r :: rs, s, h1, h2 => by
    obtain ⟨i1, i2⟩ := sum_le (rs := rs) (s := s) (fun z hz => h1 z (List.mem_cons_of_mem _ hz)) (fun z hz => h2 z (List.mem_cons_of_mem _ hz))
    have p := h1 r List.mem_cons_self
    rw [List.map_cons, List.sum_cons, show sumT (r :: rs) = r.1 + sumT rs from rfl]
    rcases h2 r List.mem_cons_self with q | q
    · rw [q, Int.mul_zero]
      exact ⟨by omega, fun e => by omega⟩
    · rw [q, Int.mul_one]
      refine ⟨by omega, fun e z hz => ?_⟩
      rcases List.mem_cons.mp hz with w | w
      · rw [w]; exact q
      · exact i2 (by omega) z w
/-- no straight set weighs more than a level cover's size; one that weighs as much meets each run -/
theorem lvl_dual (nd : ids.Nodup) (hw : ∀ x ∈ ids, 0 < wf x) {s : List Int} (hs : s.Sublist ids) (hst : StrP pl s) :
    (s.map wf).sum ≤ sumT (lvl pl wf ids) ∧ ((s.map wf).sum = sumT (lvl pl wf ids) → ∀ r ∈ lvl pl wf ids, meetI s r.2 = 1) := by
  rw [lvl_swap (pl := pl) nd hw hs]
  exact sum_le (fun r hr => lvl_pos hr) fun r hr => lvl_meet nd hs hst hr
/-- a straight set up to an id that weighs as much as its top -/
theorem top_chain (nd : ids.Nodup) : ∀ (n : Nat) (a b : List Int) (x : Int), a.length ≤ n → ids = a ++ x :: b → ∃ s : List Int, s.Sublist a ∧ StrP pl (s ++ [x]) ∧ ((s ++ [x]).map wf).sum = topI pl wf ids x
  | n, a, b, x, hn, e => by
    have st := topI_step (pl := pl) (wf := wf) nd e
    by_cases h0 : (a.filter fun z => decide (pl z < pl x)).map (topI pl wf ids) = []
    · rw [h0] at st
      refine ⟨[], List.nil_sublist _, List.pairwise_singleton _ _, ?_⟩
      rw [st]
      show wf x + 0 = wf x + 0
      rfl
    · obtain ⟨u, hu, eu⟩ := List.mem_map.mp (maxI_in (d := 0) h0)
      obtain ⟨h1, h2⟩ := List.mem_filter.mp hu
      have h2 := of_decide_eq_true h2
      obtain ⟨a1, a2, ea⟩ := List.append_of_mem h1
      have hlen : a.length = a1.length + (a2.length + 1) := by rw [ea, List.length_append, List.length_cons]
      cases n with
      | zero => omega
      | succ m =>
        obtain ⟨s, s1, s2, s3⟩ := top_chain nd m a1 (a2 ++ x :: b) u (by omega) (by rw [e, ea, List.append_assoc]; rfl)
        refine ⟨s ++ [u], ?_, ?_, ?_⟩
        · rw [ea]
          exact s1.append (List.singleton_sublist.mpr List.mem_cons_self)
        · refine List.pairwise_append.mpr ⟨s2, List.pairwise_singleton _ _, fun z hz y hy => ?_⟩
          obtain rfl := List.mem_singleton.mp hy
          rcases List.mem_append.mp hz with q | q
          · have := (List.pairwise_append.mp s2).2.2 z q u List.mem_cons_self
            omega
          · rw [List.mem_singleton.mp q]; exact h2
        · rw [List.map_append, List.sum_append, s3, st, ← eu]
          show _ + (wf x + 0) = _
          omega
end
/-- the best straight set weighs as much as the level cover -/
theorem best_size {bs ids : List Int} {wf : Int → Int} (nb : bs.Nodup) (nd : ids.Nodup) (sub : ∀ x ∈ ids, x ∈ bs) (hw : ∀ x ∈ ids, 0 < wf x) :
    ((bestF bs ids wf).map wf).sum = sumT (lvl (ixI bs) wf ids) ∧ ∀ r ∈ lvl (ixI bs) wf ids, meetI (bestF bs ids wf) r.2 = 1 := by
  obtain ⟨b1, b2, b3⟩ := best_main nb nd sub hw
  obtain ⟨d1, d2⟩ := lvl_dual (pl := ixI bs) nd hw b1 b2
  have ge : sumT (lvl (ixI bs) wf ids) ≤ ((bestF bs ids wf).map wf).sum := by
    rw [lvl_sum nd hw]
    by_cases h0 : ids.map (topI (ixI bs) wf ids) = []
    · rw [h0]
      have := (b3 [] (List.nil_sublist _) List.Pairwise.nil).1
      exact this
    · obtain ⟨u, hu, eu⟩ := List.mem_map.mp (maxI_in (d := 0) h0)
      obtain ⟨a, b, e⟩ := List.append_of_mem hu
      obtain ⟨s, s1, s2, s3⟩ := top_chain (pl := ixI bs) (wf := wf) nd a.length a b u (Nat.le_refl _) e
      have := (b3 (s ++ [u]) (by rw [e]; exact s1.append (List.singleton_sublist.mpr List.mem_cons_self)) s2).1
      rw [s3] at this
      omega
  have eq : ((bestF bs ids wf).map wf).sum = sumT (lvl (ixI bs) wf ids) := by omega
  exact ⟨eq, d2 eq⟩
theorem mt_indexK {X : Cx} {K : PySem.W.Frag} (h : X.K = K) : MtR X "list.index" (rIndex K) := by
  subst h
  exact mt_index
/-! ### the level cover is a complete cover -/
theorem adj_of {f : List Int} (h : f.Pairwise (· < ·)) : adjB f = true := by
  unfold adjB
  exact List.all_eq_true.mpr fun e he => decide_eq_true (adj_facts h e he).1
theorem chain_ints {l s : List Int} (hin : ∀ x ∈ s, x ∈ l) (hp : (s.map (ixI l)).Pairwise (· < ·)) : isChainB l (s.map PyData.int) = true := by
  unfold isChainB isChainI
  have e : (s.map PyData.int).map intOf = s := by
    rw [List.map_map]
    exact List.map_id'' (fun x => rfl) s
  rw [e, adj_of hp, Bool.and_true, Bool.and_eq_true]
  refine ⟨?_, List.all_eq_true.mpr fun x hx => decide_eq_true (hin x hx)⟩
  rw [List.all_map]
  exact List.all_eq_true.mpr fun x _ => rfl
theorem ix_up {l : List Int} (nd : l.Nodup) : l.Pairwise fun x y => ixI l x < ixI l y := (nx_pair nd).imp fun z => by omega
theorem ix_inj {l : List Int} {x y : Int} (hx : x ∈ l) (hy : y ∈ l) (h : ixI l x = ixI l y) : x = y := by
  have a := at_idx hx
  have b := at_idx hy
  have e : l.idxOf x = l.idxOf y := by unfold ixI at h; omega
  rw [e, b] at a
  exact (Option.some.inj a).symm
section
variable {bs ids : List Int} {wf : Int → Int}
/-- the ids of a run fall in base -/
theorem lvl_fall (nb : bs.Nodup) (nd : ids.Nodup) (sub : ∀ x ∈ ids, x ∈ bs) {r : Int × List Int} (h : r ∈ lvl (ixI bs) wf ids) : r.2.Pairwise fun x y => ixI bs y < ixI bs x := by
  have hs : r.2.Sublist ids := cov_sub h
  refine List.pairwise_iff_forall_sublist.mpr fun {x y} hxy => ?_
  have hx : x ∈ r.2 := hxy.subset List.mem_cons_self
  have hy : y ∈ r.2 := hxy.subset (List.mem_cons_of_mem _ List.mem_cons_self)
  have a := lvl_apart nd h (hxy.trans hs) hx hy
  have b : x ≠ y := by
    have := (nd.sublist (hxy.trans hs))
    intro e
    rw [e] at this
    exact (List.nodup_cons.mp this).1 List.mem_cons_self
  have c : ixI bs x ≠ ixI bs y := fun e => b (ix_inj (sub x (hs.subset hx)) (sub y (hs.subset hy)) e)
  omega
theorem lvl_isRun (nb : bs.Nodup) (nd : ids.Nodup) (sub : ∀ x ∈ ids, x ∈ bs) (hw : ∀ x ∈ ids, 0 < wf x) {r : Int × List Int} (h : r ∈ lvl (ixI bs) wf ids) : isRunB ids bs.reverse (encR r) = true := by
  have hs : r.2.Sublist ids := cov_sub h
  have h1 := lvl_pos h
  have h2 := lvl_some nd hw h
  have c1 : isChainB ids (r.2.map PyData.int) = true := chain_ints (fun x hx => hs.subset hx) (List.pairwise_map.mpr ((ix_up nd).sublist hs))
  have c2 : isChainB bs.reverse (r.2.map PyData.int) = true := chain_ints (fun x hx => List.mem_reverse.mpr (sub x (hs.subset hx))) (List.pairwise_map.mpr ((lvl_fall nb nd sub h).imp_of_mem fun {x y} hx hy z => by
    rw [ixI_rev nb (sub x (hs.subset hx)), ixI_rev nb (sub y (hs.subset hy))]
    omega))
  have e3 : (r.2.map PyData.int).isEmpty = false := by
    cases q : r.2 with
    | nil => exact absurd q h2
    | cons x l => rfl
  show (decide (1 ≤ r.1) && (!(r.2.map PyData.int).isEmpty && (isChainB ids (r.2.map PyData.int) && isChainB bs.reverse (r.2.map PyData.int)))) = true
  rw [c1, c2, e3, decide_eq_true h1]
  rfl
theorem lvl_isCover {wo : Option (List (Int × Int))} (nb : bs.Nodup) (nd : ids.Nodup) (sub : ∀ x ∈ ids, x ∈ bs) (hw : ∀ x ∈ ids, 0 < wtI wo x) : isCoverB bs ids ((lvl (ixI bs) (wtI wo) ids).map encR) wo = true := by
  unfold isCoverB
  rw [runs_dec, Bool.and_eq_true, List.all_map]
  refine ⟨List.all_eq_true.mpr fun r hr => lvl_isRun nb nd sub hw hr, List.all_eq_true.mpr fun x hx => decide_eq_true ?_⟩
  rw [lvl_times nd hw hx]
  exact Int.le_refl _
/-- the places of a run's ids are sorted, the last first -/
theorem lvl_sorted (nb : bs.Nodup) (nd : ids.Nodup) (sub : ∀ x ∈ ids, x ∈ bs) {r : Int × List Int} (h : r ∈ lvl (ixI bs) wf ids) : r.2.map (ixI bs) = ((r.2.map (ixI bs)).mergeSort leJ).reverse := by
  have hf : (r.2.map (ixI bs)).Pairwise (fun a b => b < a) := List.pairwise_map.mpr (lvl_fall nb nd sub h)
  have hr : ((r.2.map (ixI bs)).reverse).Pairwise (· < ·) := List.pairwise_reverse.mpr hf
  have hm : ((r.2.map (ixI bs)).mergeSort leJ).Pairwise (fun a b => leJ a b = true) := List.pairwise_mergeSort (fun a b c h1 h2 => by
    unfold leJ at *
    have := of_decide_eq_true h1
    have := of_decide_eq_true h2
    exact decide_eq_true (by omega)) (fun a b => by
    unfold leJ
    rw [Bool.or_eq_true, decide_eq_true_iff, decide_eq_true_iff]
    omega) _
  have e : (r.2.map (ixI bs)).mergeSort leJ = (r.2.map (ixI bs)).reverse :=
    List.Perm.eq_of_pairwise (le := fun a b : Int => a ≤ b) (fun x y _ _ h1 h2 => by omega) (hm.imp fun z => by unfold leJ at z; exact of_decide_eq_true z) (hr.imp fun z => by omega) ((List.mergeSort_perm _ _).trans (List.reverse_perm _).symm)
  rw [e, List.reverse_reverse]
/-- the best straight set without favoured ids weighs as much as the level cover, and meets each run once -/
theorem best_sizeW {wo : Option (List (Int × Int))} (n : Nat) (nb : bs.Nodup) (nd : ids.Nodup) (sub : ∀ x ∈ ids, x ∈ bs) (hw : ∀ x ∈ ids, 1 ≤ wtI wo x) :
    sumW wo (bestF bs ids (worthI wo n [])) = sumT (lvl (ixI bs) (wtI wo) ids) ∧ ∀ r ∈ lvl (ixI bs) (wtI wo) ids, meetI (bestF bs ids (worthI wo n [])) r.2 = 1 := by
  have hw0 : ∀ x ∈ ids, 0 < wtI wo x := fun x hx => by have := hw x hx; omega
  have ew : ∀ x, worthI wo n [] x = wtI wo x * ((n : Int) + 1) := fun x => by
    unfold worthI
    rw [if_neg (fun h => by cases h), Int.add_zero]
  have hw1 : ∀ x ∈ ids, 0 < worthI wo n [] x := fun x hx => by
    rw [ew]
    exact Int.mul_pos (hw0 x hx) (by omega)
  obtain ⟨b1, b2, b3⟩ := best_main nb nd sub hw1
  obtain ⟨c1, c2, c3⟩ := best_main nb nd sub hw0
  obtain ⟨e1, _⟩ := best_size nb nd sub hw0
  obtain ⟨d1, d2⟩ := lvl_dual (pl := ixI bs) nd hw0 b1 b2
  have f1 := (b3 _ c1 c2).1
  have z : ∀ s : List Int, cntI [] s = 0 := fun s => by
    unfold cntI
    rw [List.filter_eq_nil_iff.mpr (fun x _ h => by have := of_decide_eq_true h; cases this)]
    rfl
  rw [worth_sum, worth_sum, z, z, Int.add_zero, Int.add_zero] at f1
  have f2 : sumW wo (bestF bs ids (wtI wo)) ≤ sumW wo (bestF bs ids (worthI wo n [])) := Int.le_of_mul_le_mul_right f1 (by omega)
  have f3 : sumW wo (bestF bs ids (wtI wo)) = sumT (lvl (ixI bs) (wtI wo) ids) := e1
  have f4 : sumW wo (bestF bs ids (worthI wo n [])) ≤ sumT (lvl (ixI bs) (wtI wo) ids) := d1
  have f5 : sumW wo (bestF bs ids (worthI wo n [])) = sumT (lvl (ixI bs) (wtI wo) ids) := by omega
  exact ⟨f5, d2 f5⟩
theorem rep_one : ∀ n : Nat, (List.replicate n [V.int 1]).flatten = (List.replicate n (1 : Int)).map V.int
  | 0 => rfl
  | n + 1 => by
    rw [List.replicate_succ, List.flatten_cons, rep_one n, List.replicate_succ, List.map_cons]; rfl
theorem RunsAt.but {d c : Addr} {H H' : Hp} {rs : List (Int × List Int)} (D : DeckAt H d) (B : But d H H') (h : RunsAt H c rs) : RunsAt H' c rs := by
  obtain ⟨vs, h1, h2, h3⟩ := h
  refine ⟨vs, B.lst D h1, h2, fun i v r e1 e2 => ?_⟩
  obtain ⟨t, u, e, h4, h5⟩ := h3 i v r e1 e2
  exact ⟨t, u, e, B.tup D h4, B.tup D h5⟩
end
/-! ### exact_weights -/
def exactI (wo : Option (List (Int × Int))) (fav ids : List Int) (x : Int) : Int := worthI wo ids.length fav x * 2 ^ ids.length + 2 ^ (ids.length - 1 - ids.idxOf x)
section
variable {P : Program} {w : World} {K : PySem.W.Frag} {mg : Str → Option Value} {base : Heap}
def spExact (K : PySem.W.Frag) : Sp := fun vs H Q _ => ∃ (g fv : Addr) (v : V) (ids fav : List Int) (wo : Option (List (Int × Int))), vs = [.ref g, v, .ref fv] ∧ SqL K H g (ids.map V.int) ∧ WtAt H v wo ∧ (SqL K H fv (fav.map V.int) ∨ SqT K H fv (fav.map V.int)) ∧ fav.length ≤ 4000 ∧ ids.Nodup ∧ ids.length ≤ 300 ∧ (∀ x ∈ ids, (wtI wo x).natAbs < 2 ^ 300) ∧
  ∀ (q : Addr) (H' : Hp), Same H H' → H q = none → H' q = some (.dK (pinK (tabP (exactI wo fav ids) ids))) → Q (.ref q) H'
abbrev NEx : List Str := ["goal", "weights", "favoured", "worths", "many", "row_id", "place"]
theorem scExact : FnScope NEx ["goal", "weights", "favoured"] (defScope sExact) := ⟨rfl, rfl, rfl, by decide +kernel, rfl, by decide +kernel, by decide +kernel⟩
theorem worth_bits {wo : Option (List (Int × Int))} {fav : List Int} {n : Nat} {x : Int} (hn : n ≤ 300) (h : (wtI wo x).natAbs < 2 ^ 300) : (worthI wo n fav x).natAbs < 2 ^ 320 := by
  unfold worthI
  have a : (wtI wo x * ((n : Int) + 1)).natAbs < 2 ^ 300 * 301 := by
    rw [Int.natAbs_mul]
    have : ((n : Int) + 1).natAbs ≤ 301 := by omega
    exact Nat.lt_of_le_of_lt (Nat.mul_le_mul_left _ this) (Nat.mul_lt_mul_of_pos_right h (by decide))
  have b : (2 : Nat) ^ 320 = 2 ^ 300 * 1048576 := by rw [show (320 : Nat) = 300 + 20 from rfl, Nat.pow_add]
  rw [b]
  generalize (2 : Nat) ^ 300 = B at *
  generalize wtI wo x * ((n : Int) + 1) = t at *
  split <;> omega
theorem ok_exact {f fV : Addr} {fd fdV : FuncData} {kws : List (Str × V)} (F : FunD K "exact_weights" "exact_weights" (defArgs sExact) (defBody sExact) (defScope sExact) [] kws f fd) (nlen : mg "len" = none) (nen : mg "enumerate" = none)
    (GV : FnOk P w K mg base CX0 2 fV fdV ["goal", "weights", "favoured"] (spFavs K)) (kV : PySem.W.keepIn K (.ref fV) = true) (bV : L2.Binds K fdV ["goal", "weights", "favoured"] []) (mV : mg "favoured_worths" = some (.ref fV)) :
    FnOk P w K mg base CX0 3 f fd ["goal", "weights", "favoured"] (spExact K) := by
  refine FunD.ok0 F scExact (fun vs H Q E h => ?_) (fun cdv A outer s H vs Q E hr h => ?_)
  · obtain ⟨g, fv, v, ids, fav, wo, rfl, _⟩ := h
    rfl
  · obtain ⟨g, fv, v, ids, fav, wo, rfl, hg, hw, hf, hfl, nd, hlen, hwb, k⟩ := h
    have hu := hu_of hr
    refine ⟨_, pss_cons (ps_set (i := 3) scExact.nd rfl (Or.inr rfl) (pe_call GV hr rfl mV kV bV .nil pass0 (pa_cons (pv 0) (pa_cons (pv 1) (pa_cons (pv 2) pa_nil)))))
      (pss_cons (ps_set (i := 4) scExact.nd rfl (Or.inr rfl) (pe_callB call_len_seq (by rfl) nlen PySem.boot_len (pa_cons (pv 0) pa_nil)))
      (pss_one (ps_ret (pe_dc (own := [("place", 6), ("row_id", 5)]) (tt := tYes) (g := gTup K 2 (gCons (gName 6) (gCons (gName 5) gNil))) rfl scExact.nd (pi_enum (by rfl) nen (pa_cons (pv 0) pa_nil)) (blkOk_by (N := NEx) (sc := defScope sExact) (by decide +kernel))
        (fun _ _ _ _ _ => pg_tup rfl (pgs_cons (pg_name (i := 6) scExact.nd rfl (Or.inl rfl)) (pgs_cons (pg_name (i := 5) scExact.nd rfl (Or.inl rfl)) pgs_nil))) (fun _ _ _ _ _ => pts_nil) (fun _ _ _ _ _ => pv 5)
        (fun _ _ _ _ _ => pe_op op_add (pe_op op_shlW (pe_dget hu (pv 3) (pv 5) (fun _ _ => rfl)) (pv 4)) (pe_op op_shlW pe_int (pe_op op_sub (pe_op op_sub (pv 4) pe_int) (pv 6)))))))), ?_⟩
    have h16 : sizeLine = 16777216 := sizeLine_eq
    refine ⟨_, rfl, _, rfl, _, rfl, g, fv, v, ids, fav, wo, rfl, hg, hw, hf, hfl, nd, hlen, hwb, fun d H1 s1 hd hD => ?_⟩
    refine ⟨_, rfl, g, _, rfl, .inl (s1.seq hg), ?_⟩
    refine ⟨_, rfl, g, _, rfl, s1.seq hg, fun D hDn => ?_⟩
    refine dc_it (walk_enum (K := K) (a := g) (xs := ids.map V.int)) (fun i H' => Same H1 H' ∧ i ≤ ids.length ∧ H' D = some (.dK (pinK (tabP (exactI wo fav ids) (ids.take i))))) ⟨Same.new hDn, Nat.zero_le _, by rw [List.take_zero]; exact upd_same⟩ (fun i H' _ q => (s1.trans q.1).seq hg) ?_ ?_
    · rintro i y H2 H3 hi ⟨s2, hil, hP⟩ ⟨T0, x', y', rfl, hT, rfl, e1, e2⟩
      rw [List.length_map] at hi
      obtain rfl := Option.some.inj e1
      obtain ⟨x, hx, rfl⟩ := int_at e2
      have hxm := List.mem_of_getElem? hx
      have s3 := Same.new (o := .tup [V.int (i : Int), V.int x]) hT
      have dg : DGet (upd H2 T0 (.tup [V.int (i : Int), V.int x])) d (.int x) (some (.int (worthI wo ids.length fav x))) := by
        have := DGet.k (k := (.inl x : Key)) (s3 _ _ (s2 _ _ hD))
        rw [val_pin, tab_an hxm] at this
        exact this
      refine ⟨T0, _, rfl, SqT.of upd_same, rfl, _, _, rfl, _, _, rfl, rfl, rfl, ?_⟩
      have ei : ids.idxOf x = i := idx_of_at nd hx
      have ej : (((ids.map V.int).length : Nat) : Int) - 1 - (i : Int) = ((ids.length - 1 - i : Nat) : Int) := by rw [List.length_map]; omega
      have hb := worth_bits (fav := fav) hlen (hwb x hxm)
      refine ⟨_, rfl, _, rfl, _, rfl, d, _, rfl, dg, _, rfl, _, _, rfl, rfl, ?_, ?_⟩
      · have := bits_le hb
        have e27 : (2 : Int) ^ 27 = 134217728 := by decide
        refine ⟨by omega, ?_⟩
        rw [List.length_map, e27]
        omega
      refine ⟨_, rfl, _, _, rfl, rfl, _, rfl, _, _, rfl, rfl, _, _, rfl, rfl, ?_, ?_⟩
      · have : Builtin.Int.intBits 1 ≤ 1 := bits_le (by decide)
        have e27 : (2 : Int) ^ 27 = 134217728 := by decide
        rw [ej]
        refine ⟨by omega, ?_⟩
        rw [e27]
        omega
      refine ⟨_, _, rfl, rfl, ?_⟩
      refine ⟨pinK (tabP (exactI wo fav ids) (ids.take i)), .inl x, rfl, s3 _ _ hP, by rw [pin_len, tab_len, List.length_take, h16]; omega, fun b u e => by rw [upd_ne (ne_of_none e hDn)]; exact s3 _ _ (s2 _ _ e), hi, ?_⟩
      have ev : worthI wo ids.length fav x * 2 ^ ((((ids.map V.int).length : Nat) : Int)).toNat + 1 * 2 ^ ((((ids.map V.int).length : Nat) : Int) - 1 - (i : Int)).toNat = exactI wo fav ids x := by
        unfold exactI
        rw [ej, ei, Int.toNat_natCast, Int.toNat_natCast, List.length_map, Int.one_mul]
      rw [upd_same, tab_snoc hx, ← ev]
      exact congrArg some (congrArg HO.dK (pin_put (tab_new nd hx)))
    · rintro H2 ⟨s2, _, hP⟩
      rw [List.length_map, List.take_length] at hP
      exact k D H2 (s1.trans s2) (Same.free s1 hDn) hP
end
section
variable {P : Program} {w : World} {K : PySem.W.Frag} {mg : Str → Option Value} {base : Heap}
/-! ### cover_size -/
def spSize (K : PySem.W.Frag) : Sp := fun vs H Q _ => ∃ (c : Addr) (us : List V) (rs : List (Int × List Int)), vs = [.ref c] ∧ SqL K H c us ∧ RunsQ K H us rs ∧ rs.length ≤ 4000 ∧ ∀ H' : Hp, Same H H' → Q (.int (sumT rs)) H'
theorem scSize : FnScope ["cover", "times", "_"] ["cover"] (defScope sCovSize) := ⟨rfl, rfl, rfl, by decide +kernel, rfl, by decide +kernel, by decide +kernel⟩
theorem ok_size {f : Addr} {fd : FuncData} (F : Fun K "cover_size" "cover_size" sCovSize f fd) (T : mg "sum" = none) : FnOk P w K mg base CX0 1 f fd ["cover"] (spSize K) := by
  refine F.ok scSize (fun vs H Q E h => ?_) (fun cdv A outer s H vs Q E hr h => ?_)
  · obtain ⟨c, us, rs, rfl, _⟩ := h
    rfl
  · obtain ⟨c, us, rs, rfl, hc, hR, hl, k⟩ := h
    refine ⟨_, pss_one (ps_ret (pe_callB (cr_sum rfl) (by rfl) T (by decide +kernel) (pa_cons (pe_lc (own := [("times", 1), ("_", 2)]) (tt := tYes) (g := gTup K 2 (gCons (gName 1) (gCons (gName 2) gNil))) rfl scSize.nd (pi_list (pv 0)) (blkOk_by (N := ["cover", "times", "_"]) (sc := defScope sCovSize) (by decide +kernel))
        (fun _ _ _ _ _ => pg_tup rfl (pgs_cons (pg_name (i := 1) scSize.nd rfl (Or.inl rfl)) (pgs_cons (pg_name (i := 2) scSize.nd rfl (Or.inl rfl)) pgs_nil))) (fun _ _ _ _ _ => pts_nil) (fun _ _ _ _ _ => pv 1)) pa_nil))), ?_⟩
    have h16 : sizeLine = 16777216 := sizeLine_eq
    refine ⟨_, rfl, c, rfl, ⟨_, hc⟩, fun D hD => ?_⟩
    refine lc_list (K := K) (a := c) (xs := us) (fun j H' => Same H H' ∧ H' D = some (.lst (((rs.take j).map Prod.fst).map V.int)) ∧ j ≤ rs.length) ⟨Same.new hD, by rw [List.take_zero]; exact upd_same, Nat.zero_le _⟩ (fun j H' _ z => z.1.seq hc) ?_ ?_
    · rintro j y H2 hj ⟨s2, hA, hjl⟩
      obtain ⟨r, hr', hq1⟩ := hR.at hj
      obtain ⟨t, u, rfl, ht, hu'⟩ := hq1.same s2
      refine ⟨t, _, rfl, ht, rfl, _, _, rfl, _, _, rfl, rfl, rfl, _, rfl, ?_⟩
      refine ⟨_, hA, by rw [List.length_map, List.length_map, List.length_take, h16]; omega, fun b u z => by rw [upd_ne (ne_of_none z hD)]; exact s2 _ _ z, ?_, (List.getElem?_eq_some_iff.mp hr').1⟩
      rw [upd_same, take_snoc hr', List.map_append, List.map_append]; rfl
    · rintro H2 ⟨s2, hA, _⟩
      rw [hR.1, List.take_length] at hA
      exact ⟨D, _, rfl, SqL.of hA, k H2 s2⟩
end
/-! ### is_best -/
def isBestB (bs ids : List Int) (dq ds : List PyData) (wo : Option (List (Int × Int))) (fav : List Int) : Bool :=
  isChainB ids dq && (isChainB bs dq && (isCoverB bs ids ds (some (tabP (exactI wo fav ids) ids)) && decide (sumT (ds.map runOfD) = sumW (some (tabP (exactI wo fav ids) ids)) (dq.map intOf))))
section
variable {P : Program} {w : World} {K : PySem.W.Frag} {mg : Str → Option Value} {base : Heap}
def spIsBest (K : PySem.W.Frag) : Sp := fun vs H Q _ => ∃ (b g q c fv : Addr) (v : V) (bs ids fav : List Int) (uq us : List V) (dq ds : List PyData) (wo : Option (List (Int × Int))), vs = [.ref b, .ref g, .ref q, .ref c, v, .ref fv] ∧ SqL K H b (bs.map V.int) ∧ SqL K H g (ids.map V.int) ∧ SqL K H q uq ∧ DVs K H uq dq ∧ dq.length ≤ 300 ∧ SqL K H c us ∧ DVs K H us ds ∧ CovD ds ∧ WtAt H v wo ∧
  (SqL K H fv (fav.map V.int) ∨ SqT K H fv (fav.map V.int)) ∧ fav.length ≤ 4000 ∧ bs.Nodup ∧ bs.length ≤ 300 ∧ ids.Nodup ∧ ids.length ≤ 300 ∧ (∀ x ∈ ids, (wtI wo x).natAbs < 2 ^ 300) ∧ ∀ H' : Hp, Same H H' → Q (.bl (isBestB bs ids dq ds wo fav)) H'
abbrev NIb : List Str := ["base", "goal", "ids", "cover", "weights", "favoured", "exact"]
theorem scIsBest : FnScope NIb ["base", "goal", "ids", "cover", "weights", "favoured"] (defScope sIsBest) := ⟨rfl, rfl, rfl, by decide +kernel, rfl, by decide +kernel, by decide +kernel⟩
theorem ok_isBest {f fP fH fE fC fS fT : Addr} {fd fdP fdH fdE fdC fdS fdT : FuncData} {kws : List (Str × V)} (F : FunD K "is_best" "is_best" (defArgs sIsBest) (defBody sIsBest) (defScope sIsBest) [] kws f fd)
    (GP : FnOk P w K mg base CX0 1 fP fdP ["order"] (spPlaces K)) (kP : PySem.W.keepIn K (.ref fP) = true) (bP : L2.Binds K fdP ["order"] []) (mP : mg "places_of" = some (.ref fP))
    (GH : FnOk P w K mg base CX0 2 fH fdH ["places", "ids"] (spChain K)) (kH : PySem.W.keepIn K (.ref fH) = true) (bH : L2.Binds K fdH ["places", "ids"] []) (mH : mg "is_chain" = some (.ref fH))
    (GE : FnOk P w K mg base CX0 3 fE fdE ["goal", "weights", "favoured"] (spExact K)) (kE : PySem.W.keepIn K (.ref fE) = true) (bE : KBn K fdE ["goal", "weights", "favoured"] 1 ["weights", "favoured"] (fun us ws => us ++ ws) (fun vs zs => vs ++ zs)) (mE : mg "exact_weights" = some (.ref fE))
    (GC : FnOk P w K mg base CX0 4 fC fdC ["base", "goal", "cover", "weights"] (spIsCover K)) (kC : PySem.W.keepIn K (.ref fC) = true) (bC : KBn K fdC ["base", "goal", "cover", "weights"] 3 ["weights"] (fun us ws => us ++ ws) (fun vs zs => vs ++ zs)) (mC : mg "is_cover" = some (.ref fC))
    (GS : FnOk P w K mg base CX0 1 fS fdS ["cover"] (spSize K)) (kS : PySem.W.keepIn K (.ref fS) = true) (bS : L2.Binds K fdS ["cover"] []) (mS : mg "cover_size" = some (.ref fS))
    (GT : FnOk P w K mg base CX0 1 fT fdT ["ids", "weights"] (spTotal K)) (kT : PySem.W.keepIn K (.ref fT) = true) (bT : L2.Binds K fdT ["ids", "weights"] []) (mT : mg "total_weight" = some (.ref fT)) :
    FnOk P w K mg base CX0 5 f fd ["base", "goal", "ids", "cover", "weights", "favoured"] (spIsBest K) := by
  refine FunD.ok0 F scIsBest (fun vs H Q E h => ?_) (fun cdv A outer s H vs Q E hr h => ?_)
  · obtain ⟨b, g, q, c, fv, v, bs, ids, fav, uq, us, dq, ds, wo, rfl, _⟩ := h
    rfl
  · obtain ⟨b, g, q, c, fv, v, bs, ids, fav, uq, us, dq, ds, wo, rfl, hb, hg, hq, hdq, hql, hc, hdv, hD, hw, hf, hfl, nb, lb, nd, hlen, hwb, k⟩ := h
    have hr1 : Room 1 _ := hr.mono (by decide)
    have hr2 : Room 2 _ := hr.mono (by decide)
    have hr3 : Room 3 _ := hr.mono (by decide)
    refine ⟨_, pss_cons (ps_if (PW.pt (pw_or (pt_not (pt_val (pe_call GH hr2 rfl mH kH bH .nil pass0 (pa_cons (pe_call GP hr1 rfl mP kP bP .nil pass0 (pa_cons (pv 1) pa_nil)) (pa_cons (pv 2) pa_nil)))))
        (pw_or1 (pt_not (pt_val (pe_call GH hr2 rfl mH kH bH .nil pass0 (pa_cons (pe_call GP hr1 rfl mP kP bP .nil pass0 (pa_cons (pv 0) pa_nil)) (pa_cons (pv 2) pa_nil)))))))) (pss_one (ps_ret pe_bl)) pss_nil)
      (pss_cons (ps_set (i := 6) scIsBest.nd rfl (Or.inl rfl) (pe_callN GE hr3 rfl mE kE bE pass0 (pa_cons (pv 1) pa_nil) (pk_cons (pv 4) (pk_cons (pv 5) pk_nil))))
      (pss_one (ps_ret (pe_and (pe_callN GC hr rfl mC kC bC pass0 (pa_cons (pv 0) (pa_cons (pv 1) (pa_cons (pv 3) pa_nil))) (pk_cons (pv 6) pk_nil))
        (pe_one (pe_cmpR op_eq (pe_call GS hr1 rfl mS kS bS .nil pass0 (pa_cons (pv 3) pa_nil)) (pe_call GT hr1 rfl mT kT bT .nil pass0 (pa_cons (pv 2) (pa_cons (pv 6) pa_nil))) (nomark _))))))), ?_⟩
    refine ⟨_, rfl, g, ids, rfl, hg, nd, hlen, fun pa H1 s1 hpa hPA => ?_⟩
    refine ⟨_, rfl, pa, q, ids, uq, dq, rfl, hPA, .inl (s1.seq hq), hdq.same s1, by omega, fun H2 s2 => ?_⟩
    have s12 := s1.trans s2
    refine ⟨_, rfl, ?_⟩
    cases h1 : isChainB ids dq with
    | false =>
      refine iteT (iteT ?_)
      have := k H2 s12
      unfold isBestB at this
      rw [h1] at this
      exact this
    | true =>
      refine iteF ?_
      refine ⟨_, rfl, b, bs, rfl, s12.seq hb, nb, lb, fun pb H3 s3 hpb hPB => ?_⟩
      have s13 := s12.trans s3
      refine ⟨_, rfl, pb, q, bs, uq, dq, rfl, hPB, .inl (s13.seq hq), hdq.same s13, by omega, fun H4 s4 => ?_⟩
      have s14 := s13.trans s4
      refine ⟨_, rfl, ?_⟩
      cases h2 : isChainB bs dq with
      | false =>
        refine iteT ?_
        have := k H4 s14
        unfold isBestB at this
        rw [h1, h2] at this
        exact this
      | true =>
        refine iteF ?_
        obtain ⟨ex, hex⟩ : ∃ ex, ex = tabP (exactI wo fav ids) ids := ⟨_, rfl⟩
        have kk : ∀ H', Same H H' → Q (.bl (isCoverB bs ids ds (some ex) && decide (sumT (ds.map runOfD) = sumW (some ex) (dq.map intOf)))) H' := fun H' s => by
          have := k H' s
          unfold isBestB at this
          rw [h1, h2, ← hex] at this
          exact this
        refine ⟨_, rfl, _, rfl, _, rfl, rfl, rfl, g, fv, v, ids, fav, wo, rfl, s14.seq hg, hw.same s14, hf.imp (fun z => s14.seq z) (fun z => Same.tq s14 z), hfl, nd, hlen, hwb, fun e H5 s5 he hE => ?_⟩
        rw [← hex] at hE
        have s15 := s14.trans s5
        refine ⟨_, rfl, _, rfl, _, rfl, _, rfl, rfl, rfl, b, g, c, .ref e, bs, ids, us, ds, some ex, rfl, s15.seq hb, s15.seq hg, s15.seq hc, hdv.same s15, hD, .inr ⟨e, ex, rfl, rfl, hE⟩, nb, lb, nd, hlen, fun H6 s6 => ?_⟩
        have s16 := s15.trans s6
        refine ⟨_, rfl, ?_⟩
        cases hcv : isCoverB bs ids ds (some ex) with
        | false =>
          refine iteF ?_
          have := kk H6 s16
          rw [hcv] at this
          exact this
        | true =>
          have hall : ds.all (isRunB ids bs.reverse) = true := by
            unfold isCoverB at hcv
            rw [Bool.and_eq_true] at hcv
            exact hcv.1
          have hRn := runs_of (hdv.same s16) hall
          have hwd : dq.all wholeD = true := by
            unfold isChainB at h1
            rw [Bool.and_eq_true] at h1
            exact h1.1
          have euq := whole_all hdq hwd
          subst euq
          refine iteT ⟨_, rfl, c, us, _, rfl, s16.seq hc, hRn, by rw [List.length_map]; exact hD.len, fun H7 s7 => ?_⟩
          have s17 := s16.trans s7
          refine ⟨_, rfl, _, rfl, q, .ref e, dq.map intOf, some ex, rfl, s17.seq hq, .inr ⟨e, ex, rfl, rfl, s7 _ _ (s6 _ _ hE)⟩, by rw [List.length_map]; exact hql, fun H8 s8 => ?_⟩
          refine ⟨rfl, ?_⟩
          have := kk H8 (s17.trans s8)
          rw [hcv] at this
          have e2 : decide (V.int (sumT (ds.map runOfD)) = V.int (sumW (some ex) (dq.map intOf))) = decide (sumT (ds.map runOfD) = sumW (some ex) (dq.map intOf)) := by
            by_cases z : sumT (ds.map runOfD) = sumW (some ex) (dq.map intOf)
            · rw [decide_eq_true z, decide_eq_true (by rw [z])]
            · rw [decide_eq_false z, decide_eq_false (fun h => z (V.int.inj h))]
          show Q (.bl (decide (V.int (sumT (ds.map runOfD)) = V.int (sumW (some ex) (dq.map intOf))))) H8
          rw [e2]
          exact this
end
/-! ### of all straight sets the best one alone has the greatest exact weight -/
def bitI (ids : List Int) (x : Int) : Int := 2 ^ (ids.length - 1 - ids.idxOf x)
theorem bit_tail {x y : Int} {r : List Int} (hy : y ∈ r) (h : x ≠ y) : bitI (x :: r) y = bitI r y := by
  unfold bitI
  rw [List.idxOf_cons, show (x == y) = false from beq_eq_false_iff_ne.mpr h, List.length_cons]
  show (2 : Int) ^ (r.length + 1 - 1 - (List.idxOf y r + 1)) = _
  have := List.idxOf_lt_length_of_mem hy
  congr 1
  omega
theorem bit_head (x : Int) (r : List Int) : bitI (x :: r) x = 2 ^ r.length := by
  unfold bitI
  rw [List.idxOf_cons_self, List.length_cons]
  congr 1
theorem bits_tail {x : Int} {r s : List Int} (hx : x ∉ r) (hs : s.Sublist r) : s.map (bitI (x :: r)) = s.map (bitI r) :=
  List.map_congr_left fun y hy => bit_tail (hs.subset hy) fun e => hx (e ▸ hs.subset hy)
theorem pow_pos2 (n : Nat) : (1 : Int) ≤ 2 ^ n := by
  have : (0 : Int) < 2 ^ n := Int.pow_pos (by decide)
  omega
theorem pow_two2 (n : Nat) : (2 : Int) ^ (n + 1) = 2 ^ n + 2 ^ n := by rw [Int.pow_succ]; omega
theorem bits_bound : ∀ (ids s : List Int), ids.Nodup → s.Sublist ids → 0 ≤ (s.map (bitI ids)).sum ∧ (s.map (bitI ids)).sum + 1 ≤ 2 ^ ids.length
  | [], s, _, hs => by
    rw [List.sublist_nil.mp hs]
    exact ⟨Int.le_refl _, by decide⟩
  | x :: r, s, nd, hs => by
    obtain ⟨hx, ndr⟩ := List.nodup_cons.mp nd
    have p := pow_two2 r.length
    have p1 := pow_pos2 r.length
    rw [List.length_cons, p]
    cases hs with
    | cons _ h =>
      rw [bits_tail hx h]
      obtain ⟨a, b⟩ := bits_bound r s ndr h
      omega
    | cons_cons _ h =>
      rename_i s'
      rw [List.map_cons, List.sum_cons, bit_head, bits_tail hx h]
      obtain ⟨a, b⟩ := bits_bound r s' ndr h
      omega
theorem bits_lex (f : Int → Int) : ∀ (ids s t : List Int), ids.Nodup → ids.Pairwise (fun a b => f b < f a) → s.Sublist ids → t.Sublist ids → s.map f < t.map f → (s.map (bitI ids)).sum < (t.map (bitI ids)).sum
  | [], s, t, _, _, hs, ht, h => by
    rw [List.sublist_nil.mp hs, List.sublist_nil.mp ht] at h
    exact absurd h (List.lt_irrefl _)
  | x :: r, s, t, nd, hp, hs, ht, h => by
    obtain ⟨hx, ndr⟩ := List.nodup_cons.mp nd
    obtain ⟨hxr, hpr⟩ := List.pairwise_cons.mp hp
    cases hs with
    | cons _ h1 =>
      cases ht with
      | cons _ h2 =>
        rw [bits_tail hx h1, bits_tail hx h2]
        exact bits_lex f r s t ndr hpr h1 h2 h
      | cons_cons _ h2 =>
        rename_i t'
        rw [bits_tail hx h1, List.map_cons, List.sum_cons, bit_head, bits_tail hx h2]
        have a := bits_bound r s ndr h1
        have b := bits_bound r t' ndr h2
        omega
    | cons_cons _ h1 =>
      rename_i s'
      cases ht with
      | cons _ h2 =>
        cases t with
        | nil => exact absurd h (List.not_lt_nil _)
        | cons y t' =>
          rw [List.map_cons, List.map_cons, List.cons_lt_cons_iff] at h
          have := hxr y (h2.subset List.mem_cons_self)
          rcases h with h | ⟨h, _⟩ <;> omega
      | cons_cons _ h2 =>
        rename_i t'
        rw [List.map_cons, List.map_cons, List.cons_lt_cons_iff] at h
        have h' : s'.map f < t'.map f := by
          rcases h with h | ⟨_, h⟩
          · omega
          · exact h
        rw [List.map_cons, List.sum_cons, List.map_cons, List.sum_cons, bits_tail hx h1, bits_tail hx h2]
        have := bits_lex f r s' t' ndr hpr h1 h2 h'
        omega
theorem exact_sum (wo : Option (List (Int × Int))) (fav ids : List Int) : ∀ s : List Int, (s.map (exactI wo fav ids)).sum = (s.map (worthI wo ids.length fav)).sum * 2 ^ ids.length + (s.map (bitI ids)).sum
  | [] => by simp
  | x :: s => by
    rw [List.map_cons, List.sum_cons, List.map_cons, List.sum_cons, List.map_cons, List.sum_cons, exact_sum wo fav ids s, Int.add_mul]
    have : exactI wo fav ids x = worthI wo ids.length fav x * 2 ^ ids.length + bitI ids x := rfl
    rw [this]
    omega
theorem worth_pos {wo : Option (List (Int × Int))} {n : Nat} {fav : List Int} {x : Int} (h : 1 ≤ wtI wo x) : 0 < worthI wo n fav x := by
  unfold worthI
  have : 0 < wtI wo x * ((n : Int) + 1) := Int.mul_pos (by omega) (by omega)
  split <;> omega
theorem exact_pos {wo : Option (List (Int × Int))} {fav ids : List Int} {x : Int} (h : 1 ≤ wtI wo x) : 0 < exactI wo fav ids x := by
  have a : 0 < worthI wo ids.length fav x * 2 ^ ids.length := Int.mul_pos (worth_pos h) (by have := pow_pos2 ids.length; omega)
  have b := pow_pos2 (ids.length - 1 - ids.idxOf x)
  unfold exactI
  omega
theorem exact_alone {bs ids fav : List Int} {wo : Option (List (Int × Int))} (nb : bs.Nodup) (nd : ids.Nodup) (sub : ∀ x ∈ ids, x ∈ bs) (hw : ∀ x ∈ ids, 1 ≤ wtI wo x) {s : List Int} (hs : s.Sublist ids) (hst : Strt bs s) :
    s = bestF bs ids (worthI wo ids.length fav) ∨ (s.map (exactI wo fav ids)).sum < ((bestF bs ids (worthI wo ids.length fav)).map (exactI wo fav ids)).sum := by
  obtain ⟨b1, b2, b3⟩ := best_main (wf := worthI wo ids.length fav) nb nd sub fun x hx => worth_pos (hw x hx)
  obtain ⟨q1, q2⟩ := b3 s hs hst
  obtain ⟨g, hg⟩ : ∃ g, g = bestF bs ids (worthI wo ids.length fav) := ⟨_, rfl⟩
  rw [← hg] at q1 q2 b1 ⊢
  rw [exact_sum, exact_sum]
  have c1 := bits_bound ids s nd hs
  have c2 := bits_bound ids g nd b1
  rcases Int.lt_or_eq_of_le q1 with h | h
  · right
    have m : ((s.map (worthI wo ids.length fav)).sum + 1) * 2 ^ ids.length ≤ (g.map (worthI wo ids.length fav)).sum * 2 ^ ids.length := Int.mul_le_mul_of_nonneg_right (by omega) (by have := pow_pos2 ids.length; omega)
    rw [Int.add_mul, Int.one_mul] at m
    omega
  · rcases q2 h with e | e
    · exact .inl e
    · right
      rw [h]
      have := bits_lex (fun x => 0 - ixI ids x) ids s g nd (nx_pair nd) hs b1 e
      omega
/-- the best set with exact weights is the best set -/
theorem exact_best {bs ids fav : List Int} {wo : Option (List (Int × Int))} (nb : bs.Nodup) (nd : ids.Nodup) (sub : ∀ x ∈ ids, x ∈ bs) (hw : ∀ x ∈ ids, 1 ≤ wtI wo x) :
    bestF bs ids (exactI wo fav ids) = bestF bs ids (worthI wo ids.length fav) := by
  obtain ⟨b1, b2, b3⟩ := best_main (wf := exactI wo fav ids) nb nd sub fun x hx => exact_pos (hw x hx)
  obtain ⟨c1, c2, _⟩ := best_main (wf := worthI wo ids.length fav) nb nd sub fun x hx => worth_pos (hw x hx)
  rcases exact_alone (fav := fav) nb nd sub hw b1 b2 with h | h
  · exact h
  · have := (b3 _ c1 c2).1
    omega
theorem exact_size {bs ids fav : List Int} {wo : Option (List (Int × Int))} (nb : bs.Nodup) (nd : ids.Nodup) (sub : ∀ x ∈ ids, x ∈ bs) (hw : ∀ x ∈ ids, 1 ≤ wtI wo x) :
    ((bestF bs ids (worthI wo ids.length fav)).map (exactI wo fav ids)).sum = sumT (lvl (ixI bs) (exactI wo fav ids) ids) := by
  have h := (best_size (wf := exactI wo fav ids) nb nd sub fun x hx => exact_pos (hw x hx)).1
  rw [exact_best nb nd sub hw] at h
  exact h
/-! ### _law_exact -/
theorem idx_at {ids : List Int} {i : Nat} {x : Int} (nd : ids.Nodup) (h : ids[i]? = some x) : ids.idxOf x = i := by
  obtain ⟨h1, h2⟩ := List.getElem?_eq_some_iff.mp h
  rw [← h2]
  exact nd.idxOf_getElem i h1
theorem exact_bits {wo : Option (List (Int × Int))} {fav ids : List Int} {x : Int} (hl : ids.length ≤ 40) (h0 : 1 ≤ wtI wo x) (h1 : wtI wo x < 10 ^ 60) : 0 < exactI wo fav ids x ∧ (exactI wo fav ids x).natAbs < 2 ^ 300 := by
  have a1 : 1 ≤ worthI wo ids.length fav x := by
    unfold worthI
    have : 1 * 1 ≤ wtI wo x * ((ids.length : Int) + 1) := Int.mul_le_mul h0 (by omega) (by decide) (by omega)
    split <;> omega
  have a2 : worthI wo ids.length fav x ≤ 10 ^ 60 * 42 := by
    unfold worthI
    have : wtI wo x * ((ids.length : Int) + 1) ≤ 10 ^ 60 * 41 := Int.mul_le_mul (by omega) (by omega) (by omega) (by decide)
    split <;> omega
  have p1 : (1 : Int) ≤ 2 ^ ids.length := by
    have : (0 : Int) < 2 ^ ids.length := Int.pow_pos (by decide)
    omega
  have p2 : (2 : Int) ^ ids.length ≤ 2 ^ 40 := by
    have : (2 : Nat) ^ ids.length ≤ 2 ^ 40 := Nat.pow_le_pow_right (by decide) hl
    exact_mod_cast this
  have q1 : (0 : Int) < 2 ^ (ids.length - 1 - ids.idxOf x) := Int.pow_pos (by decide)
  have q2 : (2 : Int) ^ (ids.length - 1 - ids.idxOf x) ≤ 2 ^ 40 := by
    have : (2 : Nat) ^ (ids.length - 1 - ids.idxOf x) ≤ 2 ^ 40 := Nat.pow_le_pow_right (by decide) (by omega)
    exact_mod_cast this
  have m1 : 1 * 1 ≤ worthI wo ids.length fav x * 2 ^ ids.length := Int.mul_le_mul a1 p1 (by decide) (by omega)
  have m2 : worthI wo ids.length fav x * 2 ^ ids.length ≤ 10 ^ 60 * 42 * 2 ^ 40 := Int.mul_le_mul a2 p2 (by omega) (by decide)
  have big : (10 : Int) ^ 60 * 42 * 2 ^ 40 + 2 ^ 40 < 2 ^ 300 := by decide
  have e3 : ((2 : Nat) ^ 300 : Nat) = ((2 : Int) ^ 300).toNat := by decide
  unfold exactI
  rw [e3]
  omega
section
variable {P : Program} {w : World} {K : PySem.W.Frag} {mg : Str → Option Value} {base : Heap}
def spExL (K : PySem.W.Frag) : Sp := fun vs H Q _ => ∃ (g fv : Addr) (v : V) (ids fav : List Int) (wo : Option (List (Int × Int))), vs = [.ref g, v, .ref fv] ∧ SqL K H g (ids.map V.int) ∧ WtAt H v wo ∧ (SqL K H fv (fav.map V.int) ∨ SqT K H fv (fav.map V.int)) ∧ ids.Nodup ∧ ids.length ≤ 40 ∧ (∀ x, 1 ≤ wtI wo x ∧ wtI wo x < 10 ^ 60) ∧
  ∀ (q : Addr) (H' : Hp), Same H H' → H q = none → H' q = some (.dK (pinK (tabP (exactI wo fav ids) ids))) → Q (.ref q) H'
abbrev NXl : List Str := ["goal", "loads", "liked", "power", "row_id", "found", "half", "rank"]
theorem scExL : FnScope NXl ["goal", "loads", "liked"] (defScope sLawExact) := ⟨rfl, rfl, rfl, by decide +kernel, rfl, by decide +kernel, by decide +kernel⟩
theorem ok_exL {f fLd : Addr} {fd fdLd : FuncData} (F : Fun K "_law_exact" "_law_exact" sLawExact f fd) (nlen : mg "len" = none) (nint : mg "int" = none)
    (GLd : FnOk P w K mg base CX0 1 fLd fdLd ["loads", "row_id"] spLoad) (kLd : PySem.W.keepIn K (.ref fLd) = true) (bLd : L2.Binds K fdLd ["loads", "row_id"] []) (mLd : mg "_law_load" = some (.ref fLd)) :
    FnOk P w K mg base CX0 2 f fd ["goal", "loads", "liked"] (spExL K) := by
  refine F.ok scExL (fun vs H Q E h => ?_) (fun cdv A outer s H vs Q E hr h => ?_)
  · obtain ⟨g, fv, v, ids, fav, wo, rfl, _⟩ := h
    rfl
  · obtain ⟨g, fv, v, ids, fav, wo, rfl, hg, hw, hf, nd, hlen, hwt, k⟩ := h
    have hr1 : Room 1 _ := hr.mono (by decide)
    have hu := hu_of hr
    refine ⟨_, pss_cons (ps_set (i := 3) scExL.nd rfl (Or.inl rfl) pe_int)
      (pss_cons (ps_for PassesOwn.never rfl (pi_list (pv 0)) (pg_name (i := 4) scExL.nd rfl (Or.inl rfl))
        (pss_one (ps_set (i := 3) scExL.nd rfl (Or.inl rfl) (pe_op op_mul (pv 3) pe_int))))
      (pss_cons (ps_par (i := 5) (j := 6) (by rfl) scExL.nd rfl rfl (by decide) rfl rfl (pa_cons pe_dnewK (pa_cons (pv 3) pa_nil)) (by rfl))
      (pss_cons (ps_for PassesOwn.never rfl (pi_list (pv 0)) (pg_name (i := 4) scExL.nd rfl (Or.inl rfl))
        (pss_cons (ps_set (i := 6) scExL.nd rfl (Or.inl rfl) (pe_op op_fdiv (pv 6) pe_int))
        (pss_cons (ps_set (i := 7) scExL.nd rfl (Or.inl rfl) (pe_op op_add (pe_op op_mulG (pe_call GLd hr1 rfl mLd kLd bLd .nil pass0 (pa_cons (pv 1) (pa_cons (pv 4) pa_nil))) (pe_op op_add (pe_callB call_len_seq (by rfl) nlen PySem.boot_len (pa_cons (pv 0) pa_nil)) pe_int))
            (pe_callTy call_int1 (by rfl) nint (by decide +kernel) (pa_cons (pe_cmpR op_in_seq (pv 4) (pv 2) (by rfl)) pa_nil))))
        (pss_one (ps_dput hu (pv 5) (pv 4) (pe_op op_add (pe_op op_mulG (pv 7) (pv 3)) (pv 6)) rfl)))))
      (pss_one (ps_ret (pv 5)))))), ?_⟩
    have h16 : sizeLine = 16777216 := sizeLine_eq
    have e40 : (2 : Int) ^ 40 = 1099511627776 := by decide
    have pw : ∀ i : Nat, i ≤ 40 → (0 : Int) < 2 ^ i ∧ (2 : Int) ^ i ≤ 2 ^ 40 := fun i hi => by
      refine ⟨Int.pow_pos (by decide), ?_⟩
      have : (2 : Nat) ^ i ≤ 2 ^ 40 := Nat.pow_le_pow_right (by decide) hi
      have h2 := Int.ofNat_le.mpr this
      rw [Int.natCast_pow, Int.natCast_pow] at h2
      exact h2
    refine ⟨_, rfl, g, rfl, ⟨_, hg⟩, for_list (K := K) (a := g) (xs := ids.map V.int) (fun i σ H' => (∃ v4 : Option V, σ = [some (.ref g), some v, some (.ref fv), some (.int (2 ^ i)), v4, none, none, none]) ∧ H' = H ∧ i ≤ ids.length)
      ⟨⟨none, rfl⟩, rfl, Nat.zero_le _⟩ (fun i σ H' _ ⟨_, e, _⟩ => by rw [e]; exact hg) ?_ ?_⟩
    · rintro i y σ H1 hi ⟨⟨v4, rfl⟩, rfl, hil⟩
      have hi2 : i < ids.length := by
        have := (List.getElem?_eq_some_iff.mp hi).1
        rw [List.length_map] at this
        exact this
      have := pw i (by omega)
      refine ⟨_, rfl, _, _, rfl, rfl, .inl ⟨by omega, by omega⟩, ?_⟩
      exact ⟨⟨_, by rw [Int.pow_succ]; rfl⟩, rfl, hi2⟩
    rintro σ H1 ⟨⟨v4, rfl⟩, rfl, _⟩
    rw [List.length_map]
    intro q hq
    refine ⟨_, rfl, _, _, rfl, ?_⟩
    have sq := Same.new (o := .dK []) hq
    have hQ : upd H1 q (.dK []) q = some (.dK []) := upd_same
    generalize (upd H1 q (.dK []) : Hp) = H0 at sq hQ ⊢
    refine ⟨_, rfl, g, rfl, ⟨_, sq.seq hg⟩, for_list (K := K) (a := g) (xs := ids.map V.int) (fun i σ H' => (∃ v4 v7 : Option V, σ = [some (.ref g), some v, some (.ref fv), some (.int (2 ^ ids.length)), v4, some (.ref q), some (.int (2 ^ (ids.length - i))), v7]) ∧ Same H1 H' ∧ H' q = some (.dK (pinK (tabP (exactI wo fav ids) (ids.take i)))) ∧ i ≤ ids.length)
      ⟨⟨_, _, rfl⟩, sq, by rw [List.take_zero]; exact hQ, Nat.zero_le _⟩ (fun i σ H' _ ⟨_, s, _⟩ => s.seq hg) ?_ ?_⟩
    · rintro i y σ H2 hi ⟨⟨v4', v7, rfl⟩, s2, hP, hil⟩
      obtain ⟨x, hx, rfl⟩ := int_at hi
      have hi2 : i < ids.length := (List.getElem?_eq_some_iff.mp hx).1
      obtain ⟨w1, w2⟩ := hwt x
      have hwb : (wtI wo x).natAbs < 2 ^ 200 := by
        have h300 : (10 : Int) ^ 60 < 2 ^ 200 := by decide
        have e3 : ((2 : Nat) ^ 200 : Nat) = ((2 : Int) ^ 200).toNat := by decide
        rw [e3]
        omega
      have ei := idx_at nd hx
      have ehalf : (2 : Int) ^ (ids.length - i) / 2 = 2 ^ (ids.length - 1 - i) := by
        have e : ids.length - i = (ids.length - 1 - i) + 1 := by omega
        rw [e, Int.pow_succ]
        exact Int.mul_ediv_cancel _ (by decide)
      refine ⟨_, rfl, _, _, rfl, rfl, ⟨by decide, by decide⟩, ?_⟩
      show gName 6 (V.int (2 ^ (ids.length - i) / 2)) _ H2 _
      rw [ehalf]
      refine ⟨_, rfl, _, rfl, v, x, wo, rfl, hw.same s2, ?_⟩
      refine ⟨_, rfl, g, _, rfl, .inl (s2.seq hg), ?_⟩
      rw [List.length_map]
      have e20 : (2 : Nat) ^ 20 = 1048576 := by decide
      have hmul : IntMulOk (wtI wo x) ((ids.length : Int) + 1) := mulOk_bits (a := 200) (b := 20) (bits_le hwb) (bits_le (by omega)) (by decide)
      refine ⟨_, _, rfl, rfl, _, _, rfl, rfl, hmul, ?_⟩
      refine ⟨_, rfl, _, rfl, fv, fav.map V.int, rfl, hf.imp s2.seq (fun q => Same.tq s2 q), rfl, all_flat fav, .inr ⟨_, rfl, ?_⟩⟩
      have ein : (if false = true then !inV (V.int x) (fav.map V.int) else inV (V.int x) (fav.map V.int)) = decide (x ∈ fav) := inV_int _ _
      rw [ein]
      refine ⟨_, _, rfl, rfl, ?_⟩
      have ew : wtI wo x * ((ids.length : Int) + 1) + (if decide (x ∈ fav) = true then 1 else 0) = worthI wo ids.length fav x := by
        unfold worthI
        by_cases c : x ∈ fav
        · rw [decide_eq_true c, if_pos rfl, if_pos c]
        · rw [decide_eq_false c, if_neg (by decide), if_neg c]
      show gName 7 (V.int (wtI wo x * ((ids.length : Int) + 1) + (if decide (x ∈ fav) = true then 1 else 0))) _ H2 _
      rw [ew]
      have hb := worth_bits (wo := wo) (fav := fav) (n := ids.length) (x := x) (by omega) (Nat.lt_trans hwb (by decide))
      obtain ⟨p0, p1⟩ := pw ids.length hlen
      have hpb : ((2 : Int) ^ ids.length).natAbs < 2 ^ 50 := by
        have e50 : (2 : Nat) ^ 50 = 1125899906842624 := by decide
        omega
      refine ⟨_, rfl, _, rfl, _, _, rfl, rfl, mulOk_bits (a := 320) (b := 50) (bits_le hb) (bits_le hpb) (by decide), ?_⟩
      refine ⟨_, rfl, _, _, rfl, rfl, ?_⟩
      refine ⟨_, rfl, _, rfl, q, _, rfl, DPut.k (k := (.inl x : Key)) (v := .int _) hP (by rw [pin_len, tab_len, List.length_take, h16]; omega), ?_⟩
      rw [pin_put (tab_new nd hx)]
      have ex : worthI wo ids.length fav x * 2 ^ ids.length + 2 ^ (ids.length - 1 - i) = exactI wo fav ids x := by
        unfold exactI
        rw [ei]
      have ets : tabP (exactI wo fav ids) (ids.take i) ++ [(x, worthI wo ids.length fav x * 2 ^ ids.length + 2 ^ (ids.length - 1 - i))] = tabP (exactI wo fav ids) (ids.take (i + 1)) := by
        rw [tab_snoc hx, ex]
      rw [ets]
      refine ⟨⟨some (.int x), some (.int (worthI wo ids.length fav x)), ?_⟩, fun b u e => by rw [upd_ne (ne_of_none e hq)]; exact s2 _ _ e, upd_same, hi2⟩
      rw [show ids.length - (i + 1) = ids.length - 1 - i by omega]
      rfl
    · rintro σ H2 ⟨⟨v4', v7, rfl⟩, s2, hP, _⟩
      rw [List.length_map, List.take_length] at hP
      exact ⟨_, rfl, k q H2 s2 hq hP⟩
end
/-! ### tuples of any data: ==, +, slices -/
def rEqT0 (K : PySem.W.Frag) : R2 := fun x y H Q => ∃ a b xs, x = .ref a ∧ y = .ref b ∧ SqT K H a xs ∧ SqT K H b [] ∧ Q (.bl xs.isEmpty) H
def rCatU (K : PySem.W.Frag) : R2 := fun x y H Q => ∃ a b xs ys, x = .ref a ∧ y = .ref b ∧ SqT K H a xs ∧ SqT K H b ys ∧ xs.length + ys.length ≤ sizeLine ∧ ∀ p H', Same H H' → SqT K H' p (xs ++ ys) → Q (.ref p) H'
def rSlU (K : PySem.W.Frag) : V → Option Int → Option Int → Hp → VK → Prop := fun x lo hi H Q => ∃ a xs, x = .ref a ∧ SqT K H a xs ∧ ∀ p H', Same H H' → SqT K H' p (cutV xs lo hi) → Q (.ref p) H'
section
variable {X : Cx}
theorem op_eqT0 (hu : X.A.units < cLine) : OpR X (compareOp .Eq) (rEqT0 X.K) := by
  intro pins s σ H x y v u Q I rx ry h
  obtain ⟨a, b, xs, rfl, rfl, ha, hb, q⟩ := h
  cases rx
  cases ry
  obtain ⟨its, r1, p1, _⟩ := I.tuple ha
  obtain ⟨its2, r2, p2, _⟩ := I.tuple hb
  cases r2
  refine SeqAt.eq_tupleAt (e := fun _ => true) p1 p2 hu (fun j h1 h2 => absurd h2 (Nat.not_lt_zero j)) ⟨.bl xs.isEmpty, H, I, ?_, q⟩
  have hl := r1.length
  show Value.bool _ = Value.bool _
  congr 1
  have e : min its.toArray.size ([] : List Value).toArray.size = 0 := Nat.min_zero _
  rw [e]
  cases xs with
  | nil => cases r1; rfl
  | cons y l => cases r1; rfl
theorem op_catU : OpR X (binaryOp .Add) (rCatU X.K) := by
  intro pins s σ H x y v u Q I rx ry h
  obtain ⟨a, b, xs, ys, rfl, rfl, ha, hb, hz, q⟩ := h
  refine op_catA pins s σ H _ _ v u Q I rx ry ⟨a, b, xs, ys, rfl, rfl, ha, hb, hz, fun e => ?_, fun _ e => ?_, fun _ _ p hp => ?_⟩
  · subst e
    exact q b H (Same.refl H) hb
  · subst e
    exact q a H (Same.refl H) (by rw [List.append_nil]; exact ha)
  · exact q p _ (Same.new hp) (SqT.of upd_same)
theorem sl_tupU : SlR X (rSlU X.K) := by
  intro pins s σ H x v vl vu lo hi sl Q I rx hs pl pu h
  obtain ⟨a, xs, rfl, hx, q⟩ := h
  refine sl_tupA pins s σ H _ v vl vu lo hi sl Q I rx hs pl pu ⟨a, xs, rfl, hx, fun e => ?_, fun _ p hp => ?_⟩
  · refine q a H (Same.refl H) ?_
    unfold cutV
    rw [e.1, e.2, List.drop_zero, Nat.sub_zero, List.take_length]
    exact hx
  · exact q p _ (Same.new hp) (SqT.of upd_same)
end
/-! ### parts of data -/
theorem DVs.take {K : PySem.W.Frag} {H : Hp} : ∀ {vs : List V} {ds : List PyData} (n : Nat), DVs K H vs ds → DVs K H (vs.take n) (ds.take n)
  | _, _, 0, _ => .nil
  | _, _, _ + 1, .nil => .nil
  | _, _, n + 1, .cons p t => .cons p (DVs.take n t)
theorem DVs.drop {K : PySem.W.Frag} {H : Hp} : ∀ {vs : List V} {ds : List PyData} (n : Nat), DVs K H vs ds → DVs K H (vs.drop n) (ds.drop n)
  | _, _, 0, h => h
  | _, _, _ + 1, .nil => .nil
  | _, _, n + 1, .cons p t => DVs.drop n t
theorem DVs.append {K : PySem.W.Frag} {H : Hp} : ∀ {vs ws : List V} {ds es : List PyData}, DVs K H vs ds → DVs K H ws es → DVs K H (vs ++ ws) (ds ++ es)
  | _, _, _, _, .nil, h => h
  | _, _, _, _, .cons p t, h => .cons p (DVs.append t h)
theorem okAll_append : ∀ A B : List PyData, okAll (A ++ B) = (okAll A && okAll B)
  | [], B => by rw [List.nil_append, okAll, Bool.true_and]
  | x :: A, B => by rw [List.cons_append, okAll, okAll_append A B, okAll, Bool.and_assoc]
theorem szAll_append : ∀ A B : List PyData, szAll (A ++ B) = szAll A + szAll B
  | [], B => by rw [List.nil_append, szAll, Nat.zero_add]
  | x :: A, B => by rw [List.cons_append, szAll, szAll_append A B, szAll]; omega
theorem depthAll_append : ∀ A B : List PyData, PyData.depthAll (A ++ B) = max (PyData.depthAll A) (PyData.depthAll B)
  | [], B => by rw [List.nil_append, PyData.depthAll]; omega
  | x :: A, B => by rw [List.cons_append, PyData.depthAll, depthAll_append A B, PyData.depthAll]; omega
theorem parted {ds : List PyData} {k : Nat} {x : PyData} (h : ds[k]? = some x) : ds = ds.take k ++ x :: ds.drop (k + 1) := by
  have hk := lt_of_some h
  have e : ds[k] = x := by rw [List.getElem?_eq_getElem hk] at h; exact Option.some.inj h
  have := List.take_append_drop k ds
  rw [List.drop_eq_getElem_cons hk, e] at this
  exact this.symm
theorem szAll_len : ∀ ds : List PyData, ds.length ≤ szAll ds
  | [] => Nat.zero_le _
  | x :: r => by
    have := szAll_len r
    rw [szAll, List.length_cons]
    omega
/-! ### a list of any values != [] -/
def rNeL0 (K : PySem.W.Frag) : R2 := fun x y H Q => ∃ a b xs, x = .ref a ∧ y = .ref b ∧ SqL K H a xs ∧ SqL K H b [] ∧ Q (.bl (!xs.isEmpty)) H
theorem op_neL0 {X : Cx} (hu : X.A.units < cLine) : OpR X (compareOp .NotEq) (rNeL0 X.K) := by
  intro pins s σ H x y v u Q I rx ry h
  obtain ⟨a, b, xs, rfl, rfl, ha, hb, q⟩ := h
  cases rx
  cases ry
  obtain ⟨its, r1, ⟨o1, n1, h1, c1, _, d1⟩, _⟩ := I.list ha
  obtain ⟨its2, r2, ⟨o2, n2, h2, c2, _, d2⟩, _⟩ := I.list hb
  cases r2
  have p1 : s.heap.IsList a its.toArray := ⟨o1, h1, c1, n1, d1⟩
  have p2 : s.heap.IsList b ([] : List Value).toArray := ⟨o2, h2, c2, n2, d2⟩
  cases xs with
  | nil =>
    cases r1
    exact SeqAt.RcNeAt.lists (e := fun _ => true) p1 p2 rfl hu (fun j h1 h2 => absurd h2 (Nat.not_lt_zero j)) X.prog X.w X.xe _ ⟨.bl false, H, I, rfl, q⟩
  | cons y l =>
    cases r1
    exact SeqAt.RcNeAt.lists_lengths p1 p2 rfl hu X.prog X.w X.xe _ ⟨.bl true, H, I, rfl, q⟩
def rEqL0 (K : PySem.W.Frag) : R2 := fun x y H Q => ∃ a b xs, x = .ref a ∧ y = .ref b ∧ SqL K H a xs ∧ SqL K H b [] ∧ Q (.bl xs.isEmpty) H
theorem op_eqL0 {X : Cx} (hu : X.A.units < cLine) : OpR X (compareOp .Eq) (rEqL0 X.K) := by
  intro pins s σ H x y v u Q I rx ry h
  obtain ⟨a, b, xs, rfl, rfl, ha, hb, q⟩ := h
  cases rx
  cases ry
  obtain ⟨its, r1, ⟨o1, n1, h1, c1, _, d1⟩, _⟩ := I.list ha
  obtain ⟨its2, r2, ⟨o2, n2, h2, c2, _, d2⟩, _⟩ := I.list hb
  cases r2
  have p1 : s.heap.IsList a its.toArray := ⟨o1, h1, c1, n1, d1⟩
  have p2 : s.heap.IsList b ([] : List Value).toArray := ⟨o2, h2, c2, n2, d2⟩
  cases xs with
  | nil =>
    cases r1
    exact SeqAt.eq_listAt (e := fun _ => true) p1 p2 rfl hu (fun j h1 h2 => absurd h2 (Nat.not_lt_zero j)) ⟨.bl true, H, I, rfl, q⟩
  | cons y l =>
    cases r1
    exact SeqAt.eq_list_lengthsAt p1 p2 rfl hu ⟨.bl false, H, I, rfl, q⟩
section
variable {P : Program} {w : World} {K : PySem.W.Frag} {mg : Str → Option Value} {base : Heap}
/-! ### _law_is_number -/
def numV (k : Int) : V → Bool
  | .int i => decide (k ≤ i)
  | _ => false
def numD (k : Int) : PyData → Bool
  | .int i => decide (k ≤ i)
  | _ => false
theorem DV.num {H : Hp} {v : V} {d : PyData} (k : Int) (h : DV K H v d) : numV k v = numD k d := by cases h <;> rfl
def spIsNum (K : PySem.W.Frag) : Sp := fun vs H Q _ => ∃ (x : V) (k : Int), vs = [x, .int k] ∧ TyD K H x ∧ Q (.bl (numV k x)) H
theorem scIsNum : FnScope ["value", "least"] ["value", "least"] (defScope sIsNum) := ⟨rfl, rfl, rfl, by decide +kernel, rfl, by decide +kernel, by decide +kernel⟩
theorem ok_isNum {f : Addr} {fd : FuncData} (F : Fun K "_law_is_number" "_law_is_number" sIsNum f fd) (T : TxtV mg) : FnOk P w K mg base CX0 1 f fd ["value", "least"] (spIsNum K) := by
  refine F.ok scIsNum (fun vs H Q E h => ?_) (fun cdv A outer s H vs Q E hr h => ?_)
  · obtain ⟨x, k0, rfl, _⟩ := h
    rfl
  · obtain ⟨x, k0, rfl, ⟨nm, ty, hn⟩, k⟩ := h
    refine ⟨_, pss_one (ps_ret (pe_and (pe_callB call_isi (by rfl) T.isi (by decide +kernel) (pa_cons (pv 0) (pa_cons (pe_bltn (v := .ty "int") (by rfl) T.int boot_int rfl) pa_nil)))
      (pe_and (pe_not (pe_callB call_isi (by rfl) T.isi (by decide +kernel) (pa_cons (pv 0) (pa_cons (pe_bltn (v := .ty "bool") (by rfl) T.bool boot_bool rfl) pa_nil))))
      (pe_one (pe_cmpR op_ge (pv 0) (pv 1) (nomark _)))))), ?_⟩
    refine ⟨_, rfl, ?_⟩
    rcases hn with ⟨rfl, rfl⟩ | ⟨rfl, b, rfl⟩ | ⟨rfl, i, rfl⟩ | ⟨rfl, z, rfl⟩ | ⟨rfl, a, rfl⟩ | ⟨rfl, a, rfl⟩ | ⟨rfl, a, rfl⟩
    · exact ⟨_, _, _, _, false, rfl, .ty _, ty, kit_ty (by decide +kernel), _, rfl, iteF k⟩
    · exact ⟨_, _, _, _, true, rfl, .ty _, ty, kit_ty (by decide +kernel), _, rfl, iteT ⟨_, rfl, _, _, _, _, true, rfl, .ty _, ty, kit_ty (by decide +kernel), _, rfl, _, rfl, iteF k⟩⟩
    · refine ⟨_, _, _, _, true, rfl, .ty _, ty, kit_ty (by decide +kernel), _, rfl, iteT ⟨_, rfl, _, _, _, _, false, rfl, .ty _, ty, kit_ty (by decide +kernel), _, rfl, _, rfl, iteT ?_⟩⟩
      exact ⟨_, rfl, _, rfl, _, _, rfl, rfl, k⟩
    · exact ⟨_, _, _, _, false, rfl, .ty _, ty, kit_ty (by decide +kernel), _, rfl, iteF k⟩
    · exact ⟨_, _, _, _, false, rfl, .ty _, ty, kit_ty (by decide +kernel), _, rfl, iteF k⟩
    · exact ⟨_, _, _, _, false, rfl, .ty _, ty, kit_ty (by decide +kernel), _, rfl, iteF k⟩
    · exact ⟨_, _, _, _, false, rfl, .ty _, ty, kit_ty (by decide +kernel), _, rfl, iteF k⟩
end
/-! ### the law's reading of a run -/
theorem idx_ltR {l : List Int} {x : Int} (h : x ∈ l) : l.idxOf x < l.length := List.idxOf_lt_length_of_mem h
theorem at_idxR {l : List Int} {x : Int} (h : x ∈ l) : l[l.idxOf x]? = some x := by
  rw [List.getElem?_eq_getElem (idx_ltR h), List.getElem_idxOf]
theorem ixI_revR {bs : List Int} (nb : bs.Nodup) {x : Int} (h : x ∈ bs) : ixI bs.reverse x = (bs.length : Int) - 1 - ixI bs x := by
  have h1 := idx_ltR h
  have h2 : bs.reverse[bs.length - 1 - bs.idxOf x]? = some x := by
    rw [List.getElem?_reverse (by omega)]
    have : bs.length - 1 - (bs.length - 1 - bs.idxOf x) = bs.idxOf x := by omega
    rw [this]
    exact at_idxR h
  unfold ixI
  rw [idx_of_at (((List.reverse_perm bs).nodup_iff).mpr nb) h2]
  omega
theorem ixI_boundR {bs : List Int} {x : Int} (h : x ∈ bs) : 0 ≤ ixI bs x ∧ ixI bs x < (bs.length : Int) := by
  have := idx_ltR h
  unfold ixI
  omega
/-- ids in the sequence of both orders -/

theorem ix_injR {l : List Int} {x y : Int} (hx : x ∈ l) (hy : y ∈ l) (h : ixI l x = ixI l y) : x = y := by
  unfold ixI at h
  have h : l.idxOf x = l.idxOf y := by omega
  have a := at_idxR hx
  have b := at_idxR hy
  rw [h] at a
  exact Option.some.inj (a.symm.trans b)
theorem adj_pw : ∀ f : List Int, adjB f = true → f.Pairwise (· < ·)
  | [], _ => List.Pairwise.nil
  | [x], _ => List.pairwise_singleton _ _
  | x :: y :: r, h => by
    have e : adjB (x :: y :: r) = (decide (x < y) && adjB (y :: r)) := rfl
    rw [e, Bool.and_eq_true] at h
    have ih := adj_pw (y :: r) h.2
    have hxy := of_decide_eq_true h.1
    refine List.pairwise_cons.mpr ⟨fun z hz => ?_, ih⟩
    rcases List.mem_cons.mp hz with rfl | hz
    · exact hxy
    · have := (List.pairwise_cons.mp ih).1 z hz
      omega
theorem pw_adj : ∀ f : List Int, f.Pairwise (· < ·) → adjB f = true
  | [], _ => rfl
  | [x], _ => rfl
  | x :: y :: r, h => by
    have e : adjB (x :: y :: r) = (decide (x < y) && adjB (y :: r)) := rfl
    obtain ⟨h1, h2⟩ := List.pairwise_cons.mp h
    rw [e, pw_adj (y :: r) h2, decide_eq_true (h1 y List.mem_cons_self)]; rfl
theorem fall_iff {O : List Int} (nd : O.Nodup) : O = (O.mergeSort leJ).reverse ↔ O.Pairwise fun a b => b < a := by
  have hm : (O.mergeSort leJ).Pairwise fun a b => a ≤ b := (List.pairwise_mergeSort (le := leJ) (fun a b c x y => by unfold leJ at *; exact decide_eq_true (by have := of_decide_eq_true x; have := of_decide_eq_true y; omega)) (fun a b => by unfold leJ; rcases Int.le_total a b with h | h <;> simp [h]) O).imp fun z => by unfold leJ at z; exact of_decide_eq_true z
  have hp : (O.mergeSort leJ).Perm O := List.mergeSort_perm _ _
  constructor
  · intro h
    have h1 : O.Pairwise fun a b => b ≤ a := by
      rw [h]
      exact List.pairwise_reverse.mpr hm
    exact List.Pairwise.imp₂ (fun a b (p : b ≤ a) (q : a ≠ b) => by omega) h1 nd
  · intro h
    have h2 : O.reverse.Pairwise fun a b => a ≤ b := List.pairwise_reverse.mpr (h.imp fun z => by omega)
    have e : O.mergeSort leJ = O.reverse := List.Perm.eq_of_pairwise (le := fun a b : Int => a ≤ b) (fun x y _ _ a b => by omega) hm h2 (hp.trans (List.reverse_perm O).symm)
    rw [e, List.reverse_reverse]
theorem run_law {bs ids js bd : List Int} (nb : bs.Nodup) (hi : ∀ x ∈ js, x ∈ ids) (hb : ∀ x ∈ js, x ∈ bs) (up : bd.Pairwise (· < ·)) (hm : ∀ k, k ∈ bd ↔ k ∈ js.map (ixI ids)) :
    (decide (js.map (ixI ids) = bd) && decide (js.map (ixI bs) = ((js.map (ixI bs)).mergeSort leJ).reverse)) = (adjB (js.map (ixI ids)) && adjB (js.map (ixI bs.reverse))) := by
  by_cases h : (js.map (ixI ids)).Pairwise (· < ·)
  · have e1 : js.map (ixI ids) = bd := up_eq h up fun z => (hm z).symm
    rw [decide_eq_true e1, pw_adj _ h, Bool.true_and, Bool.true_and]
    have ndj : js.Nodup := (List.pairwise_map.mp h).imp fun {a b} z e => by rw [e] at z; omega
    have ndO : (js.map (ixI bs)).Nodup := List.pairwise_map.mpr (ndj.imp_of_mem fun {a b} ha hb2 z e => z (ix_injR (hb a ha) (hb b hb2) e))
    by_cases q : (js.map (ixI bs)).Pairwise fun a b => b < a
    · rw [decide_eq_true ((fall_iff ndO).mpr q), pw_adj]
      refine List.pairwise_map.mpr ((List.pairwise_map.mp q).imp_of_mem fun {a b} ha hb2 z => ?_)
      rw [ixI_revR nb (hb a ha), ixI_revR nb (hb b hb2)]
      omega
    · rw [decide_eq_false fun z => q ((fall_iff ndO).mp z)]
      cases c : adjB (js.map (ixI bs.reverse)) with
      | false => rfl
      | true =>
        refine absurd (List.pairwise_map.mpr ((List.pairwise_map.mp (adj_pw _ c)).imp_of_mem fun {a b} ha hb2 z => ?_)) q
        rw [ixI_revR nb (hb a ha), ixI_revR nb (hb b hb2)] at z
        omega
  · have e1 : ¬ js.map (ixI ids) = bd := fun e => h (by rw [e]; exact up)
    rw [decide_eq_false e1, Bool.false_and]
    cases c : adjB (js.map (ixI ids)) with
    | false => rfl
    | true => exact absurd (adj_pw _ c) h
/-! ### _law_is_run -/
theorem op_notIn_Kr {X : Cx} {K : PySem.W.Frag} (h : X.K = K) : OpR X (compareOp .NotIn) (rIn K true) := by
  subst h
  exact op_notIn_seq
def goodL (ids : List Int) : PyData → Bool
  | .int x => decide (1 ≤ x) && decide (x ∈ ids)
  | _ => false
theorem good_iff {ids : List Int} (h1 : ∀ x ∈ ids, 1 ≤ x) (es : List PyData) : es.all (goodL ids) = (es.all wholeD && (es.map intOf).all (fun x => decide (x ∈ ids))) := by
  induction es with
  | nil => rfl
  | cons d es ih =>
    rw [List.all_cons, ih, List.all_cons, List.map_cons, List.all_cons]
    cases d with
    | int x =>
      show ((decide (1 ≤ x) && decide (x ∈ ids)) && _) = ((true && _) && (decide (x ∈ ids) && _))
      by_cases c : x ∈ ids
      · rw [decide_eq_true c, decide_eq_true (h1 x c), Bool.true_and, Bool.true_and, Bool.true_and, Bool.true_and]
      · rw [decide_eq_false c, Bool.and_false, Bool.false_and, Bool.false_and, Bool.and_false]
    | _ => rfl
theorem chain_bad {l : List Int} {es : List PyData} (h : (es.all wholeD && (es.map intOf).all (fun x => decide (x ∈ l))) = false) : isChainB l es = false := by
  unfold isChainB isChainI
  rw [← Bool.and_assoc, h, Bool.false_and]
theorem chain_good {l : List Int} {es : List PyData} (h : (es.all wholeD && (es.map intOf).all (fun x => decide (x ∈ l))) = true) : isChainB l es = adjB ((es.map intOf).map (ixI l)) := by
  unfold isChainB isChainI
  rw [← Bool.and_assoc, h, Bool.true_and]
theorem isRunB_num {l m : List Int} {d e : PyData} (h : numD 1 d = false) : isRunB l m (.tuple [d, e]) = false := by
  cases d with
  | int n =>
    have : ¬ 1 ≤ n := of_decide_eq_false h
    exact isRunB_low (by omega)
  | _ => exact isRunB_ni fun n z => by cases z
theorem isRunB_nt {l m : List Int} {n : Int} {e : PyData} (h : isTup e = false) : isRunB l m (.tuple [.int n, e]) = false := by
  cases e with
  | tuple es => cases h
  | _ => rfl
section
variable {P : Program} {w : World} {K : PySem.W.Frag} {mg : Str → Option Value} {base : Heap}
def spLawRun (K : PySem.W.Frag) : Sp := fun vs H Q _ => ∃ (b g : Addr) (v : V) (bs ids : List Int) (d : PyData), vs = [.ref b, .ref g, v] ∧ SqL K H b (bs.map V.int) ∧ SqL K H g (ids.map V.int) ∧ DV K H v d ∧ smallR d ∧ bs.Nodup ∧ bs.length ≤ 300 ∧ ids.length ≤ 300 ∧ (∀ x ∈ ids, x ∈ bs) ∧ (∀ x ∈ ids, 1 ≤ x) ∧
  ∀ H' : Hp, Same H H' → Q (.bl (isRunB ids bs.reverse d)) H'
abbrev NLr : List Str := ["base", "goal", "run", "ids", "places", "others", "row_id"]
theorem scLawRun : FnScope NLr ["base", "goal", "run"] (defScope sLawIsRun) := ⟨rfl, rfl, rfl, by decide +kernel, rfl, by decide +kernel, by decide +kernel⟩
theorem ok_lawRun {f fN : Addr} {fd fdN : FuncData} (F : Fun K "_law_is_run" "_law_is_run" sLawIsRun f fd) (T : TxtV mg) (nsorted : mg "sorted" = none)
    (GN : FnOk P w K mg base CX0 1 fN fdN ["value", "least"] (spIsNum K)) (kN : PySem.W.keepIn K (.ref fN) = true) (bN : L2.Binds K fdN ["value", "least"] []) (mN : mg "_law_is_number" = some (.ref fN)) :
    FnOk P w K mg base CX0 2 f fd ["base", "goal", "run"] (spLawRun K) := by
  refine F.ok scLawRun (fun vs H Q E h => ?_) (fun cdv A outer s H vs Q E hr h => ?_)
  · obtain ⟨b, g, v, bs, ids, d, rfl, _⟩ := h
    rfl
  · obtain ⟨b, g, v, bs, ids, d, rfl, hb, hg, hd, hsm, nb, lb, hlen, hin, h1, k⟩ := h
    have hr1 : Room 1 _ := hr.mono (by decide)
    have h64 := hu64 hr
    have hu0 := Nat.lt_of_le_of_lt (Nat.le_add_right _ 64) h64
    refine ⟨_, pss_cons (ps_if (PW.pt (pw_or (pt_not (pt_val (pe_callB call_isi (by rfl) T.isi (by decide +kernel) (pa_cons (pv 2) (pa_cons (pe_bltn (v := .ty "tuple") (by rfl) T.tuple boot_tuple rfl) pa_nil)))))
          (pw_or (pt_cmpR op_ne (pe_callB call_len_seq (by rfl) T.len PySem.boot_len (pa_cons (pv 2) pa_nil)) pe_int (nomark _))
          (pw_or1 (pt_not (pt_val (pe_call GN hr1 rfl mN kN bN .nil pass0 (pa_cons (pe_ix ix_tup (pv 2) pe_int (fun _ _ => rfl)) (pa_cons pe_int pa_nil))))))))) (pss_one (ps_ret pe_bl)) pss_nil)
      (pss_cons (ps_set (i := 3) scLawRun.nd rfl (Or.inl rfl) (pe_ix ix_tup (pv 2) pe_int (fun _ _ => rfl)))
      (pss_cons (ps_if (PW.pt (pw_or (pt_not (pt_val (pe_callB call_isi (by rfl) T.isi (by decide +kernel) (pa_cons (pv 3) (pa_cons (pe_bltn (v := .ty "tuple") (by rfl) T.tuple boot_tuple rfl) pa_nil)))))
          (pw_or1 (pt_cmpR (op_eqT0 hu0) (pv 3) (pe_tup pa_nil) (nomark _))))) (pss_one (ps_ret pe_bl)) pss_nil)
      (pss_cons (ps_if (pt_cmpR (op_neL0 hu0) (pe_lc (own := [("row_id", 6)]) (g := gName 6) rfl scLawRun.nd (pi_tup (pv 3)) (blkOk_by (N := NLr) (sc := defScope sLawIsRun) (by decide +kernel))
          (fun _ _ _ _ _ => pg_name (i := 6) scLawRun.nd rfl (Or.inl rfl)) (fun _ _ _ _ _ => pts_one (PW.pt (pw_or (pt_not (pt_val (pe_call GN hr1 rfl mN kN bN .nil pass0 (pa_cons (pv 6) (pa_cons pe_int pa_nil))))) (pw_or1 (pt_cmpR (op_notIn_Kr (K := K) rfl) (pv 6) (pv 1) (by rfl)))))) (fun _ _ _ _ _ => pv 6)) (pe_lst pa_nil) (nomark _)) (pss_one (ps_ret pe_bl)) pss_nil)
      (pss_cons (ps_par (i := 4) (j := 5) (by rfl) scLawRun.nd rfl rfl (by decide) rfl rfl
          (pa_cons (pe_lc (own := [("row_id", 6)]) (tt := tYes) (g := gName 6) rfl scLawRun.nd (pi_tup (pv 3)) (blkOk_by (N := NLr) (sc := defScope sLawIsRun) (by decide +kernel))
              (fun _ _ _ _ _ => pg_name (i := 6) scLawRun.nd rfl (Or.inl rfl)) (fun _ _ _ _ _ => pts_nil) (fun _ _ _ _ _ => pe_bmK (K := K) rfl PySem.F.plainAttrs_list PySem.F.slot_list_index PySem.F.type_list_index (mt_indexK (K := K) rfl) (pv 1) (pa_cons (pv 6) pa_nil)))
          (pa_cons (pe_lc (own := [("row_id", 6)]) (tt := tYes) (g := gName 6) rfl scLawRun.nd (pi_tup (pv 3)) (blkOk_by (N := NLr) (sc := defScope sLawIsRun) (by decide +kernel))
              (fun _ _ _ _ _ => pg_name (i := 6) scLawRun.nd rfl (Or.inl rfl)) (fun _ _ _ _ _ => pts_nil) (fun _ _ _ _ _ => pe_bmK (K := K) rfl PySem.F.plainAttrs_list PySem.F.slot_list_index PySem.F.type_list_index (mt_indexK (K := K) rfl) (pv 0) (pa_cons (pv 6) pa_nil))) pa_nil)) (by rfl))
      (pss_one (ps_ret (pe_and (pe_cmpR (op_eqL h64) (pv 4) (pe_callB (cr_sortS rfl h64) (by rfl) nsorted (by decide +kernel) (pa_cons (pe_callTy (cr_setL rfl) (by rfl) T.set (by decide +kernel) (pa_cons (pv 4) pa_nil)) pa_nil)) (nomark _))
        (pe_one (pe_cmpR (op_eqL h64) (pv 5) (pe_revL (pe_callB (call_sortQ rfl h64) (by rfl) nsorted (by decide +kernel) (pa_cons (pv 5) pa_nil))) (nomark _)))))))))), ?_⟩
    have h16 : sizeLine = 16777216 := sizeLine_eq
    have no : isRunB ids bs.reverse d = false → ∀ H', Same H H' → Q (.bl false) H' := fun e H' s => by
      have := k H' s
      rw [e] at this
      exact this
    obtain ⟨nm, ty, k1, k2⟩ := hd.kit
    refine ⟨_, rfl, _, _, _, _, _, rfl, .ty _, ty, k1, _, rfl, ?_⟩
    cases hd with
    | tup hT hs =>
      rename_i a us ds
      have hl := hs.length
      refine iteF ⟨_, rfl, a, _, rfl, .inr hT, rfl, _, rfl, ?_⟩
      by_cases h2 : ds.length = 2
      · obtain ⟨dt, di, rfl⟩ : ∃ di db, ds = [di, db] := match ds, h2 with | [x, y], _ => ⟨x, y, rfl⟩
        cases hs with
        | cons pt t =>
         cases t with
         | cons pi t2 =>
          cases t2
          rename_i vt vi
          have hz : (!decide (V.int (([vt, vi].length : Nat) : Int) = V.int 2)) = false := rfl
          rw [hz]
          refine iteF ?_
          refine ⟨_, rfl, a, [vt, vi], 0, vt, rfl, rfl, hT, rfl, ?_⟩
          refine ⟨vt, 1, rfl, pt.ty, _, rfl, ?_⟩
          rw [pt.num 1]
          cases hn : numD 1 dt with
          | false => exact iteT (no (isRunB_num hn) H (Same.refl H))
          | true =>
            refine iteF ?_
            obtain ⟨n, rfl⟩ : ∃ n, dt = .int n := by
              cases dt with
              | int n => exact ⟨n, rfl⟩
              | _ => cases hn
            have hn1 : (1 : Int) ≤ n := of_decide_eq_true hn
            refine ⟨_, rfl, a, [vt, vi], 1, vi, rfl, rfl, hT, rfl, ?_⟩
            obtain ⟨nm2, ty2, k3, k4⟩ := pi.kit
            refine ⟨_, rfl, _, _, _, _, _, rfl, .ty _, ty2, k3, _, rfl, ?_⟩
            cases pi with
            | tup hU hes =>
              rename_i u ws es
              have hel := hes.length
              have hes4 : es.length ≤ 4000 := hsm _ _ rfl
              refine iteF ⟨_, rfl, Nat.zero_le _, fun p0 h0 => ?_⟩
              have s1 := Same.new (o := .tup []) h0
              refine ⟨u, p0, ws, rfl, rfl, Same.tq s1 hU, SqT.of upd_same, _, rfl, ?_⟩
              generalize (upd H p0 (.tup []) : Hp) = H1 at s1 ⊢
              by_cases hv : ws = []
              · have he : ws.isEmpty = true := by rw [hv]; rfl
                rw [he]
                refine iteT ?_
                refine no ?_ H1 s1
                have : es = [] := List.eq_nil_of_length_eq_zero (by rw [← hel, hv]; rfl)
                rw [this]
                show (decide (1 ≤ n) && (!([] : List PyData).isEmpty && _)) = false
                rw [show (([] : List PyData).isEmpty) = true from rfl, Bool.not_true, Bool.false_and, Bool.and_false]
              have he : ws.isEmpty = false := by
                cases ws with
                | nil => exact absurd rfl hv
                | cons _ _ => rfl
              rw [he]
              refine iteF ?_
              have hne : es.isEmpty = false := by
                cases es with
                | nil => exact absurd (List.eq_nil_of_length_eq_zero hel) hv
                | cons _ _ => rfl
              have erun : isRunB ids bs.reverse (.tuple [.int n, .tuple es]) = (isChainB ids es && isChainB bs.reverse es) := by
                show (decide (1 ≤ n) && (!es.isEmpty && (isChainB ids es && isChainB bs.reverse es))) = _
                rw [decide_eq_true hn1, hne]
                rfl
              have hU1 := Same.tq s1 hU
              have hes1 := DVs.same s1 hes
              -- other things
              refine ⟨_, rfl, u, rfl, ⟨_, hU1⟩, fun D hD => ?_⟩
              refine lc_tup (K := K) (a := u) (xs := ws) (fun j H' => Same H1 H' ∧ (∃ acc, H' D = some (.lst acc) ∧ acc.length ≤ j ∧ acc.isEmpty = (es.take j).all (goodL ids)) ∧ j ≤ es.length) ⟨Same.new hD, ⟨[], upd_same, Nat.le_refl _, by rw [List.take_zero]; rfl⟩, Nat.zero_le _⟩ (fun j H' _ z => Same.tq z.1 hU1) ?_ ?_
              · rintro j y H2 hj ⟨s2, ⟨acc, hA, hal, hae⟩, hjl⟩
                have hes2 := DVs.same s2 hes1
                obtain ⟨e, hej, hv2⟩ := hes2.at hj
                have hjl2 : j < es.length := (List.getElem?_eq_some_iff.mp hej).1
                have etk : (es.take (j + 1)).all (goodL ids) = ((es.take j).all (goodL ids) && goodL ids e) := by
                  rw [take_snoc hej, List.all_append, List.all_cons, List.all_nil, Bool.and_true]
                have bad : goodL ids e = false → ∃ acc', H2 D = some (.lst acc') ∧ acc'.length < sizeLine ∧ Same H1 (upd H2 D (.lst (acc' ++ [y]))) ∧ (∃ acc, upd H2 D (.lst (acc' ++ [y])) D = some (.lst acc) ∧ acc.length ≤ j + 1 ∧ acc.isEmpty = (es.take (j + 1)).all (goodL ids)) ∧ j + 1 ≤ es.length := fun hb2 => by
                  refine ⟨acc, hA, by rw [h16]; omega, fun b o z => by rw [upd_ne (ne_of_none z hD)]; exact s2 _ _ z, ⟨_, upd_same, by rw [List.length_append]; show _ + 1 ≤ _; omega, ?_⟩, hjl2⟩
                  rw [etk, hb2, Bool.and_false]
                  cases acc <;> rfl
                refine ⟨rfl, _, rfl, y, 1, rfl, hv2.ty, _, rfl, ?_⟩
                rw [hv2.num 1]
                cases hc : numD 1 e with
                | false =>
                  have hg0 : goodL ids e = false := by
                    cases e with
                    | int x => show (decide (1 ≤ x) && _) = false; rw [show decide (1 ≤ x) = false from hc, Bool.false_and]
                    | _ => rfl
                  exact iteT (iteT ⟨_, rfl, bad hg0⟩)
                | true =>
                  obtain ⟨x, rfl⟩ : ∃ x, e = .int x := by
                    cases e with
                    | int x => exact ⟨x, rfl⟩
                    | _ => cases hc
                  cases hv2
                  refine iteF ?_
                  refine ⟨_, rfl, _, rfl, g, ids.map V.int, rfl, .inl ((s1.trans s2).seq hg), rfl, all_flat ids, _, rfl, ?_⟩
                  have ein : (if true = true then !inV (V.int x) (ids.map V.int) else inV (V.int x) (ids.map V.int)) = !decide (x ∈ ids) := by rw [if_pos rfl, inV_int]
                  rw [ein]
                  by_cases c : x ∈ ids
                  · rw [decide_eq_true c]
                    refine iteF ?_
                    refine ⟨s2, ⟨acc, hA, by omega, ?_⟩, hjl2⟩
                    rw [etk, hae]
                    show _ = (_ && (decide (1 ≤ x) && decide (x ∈ ids)))
                    rw [show decide (1 ≤ x) = true from hc, decide_eq_true c, Bool.and_true, Bool.and_true]
                  · rw [decide_eq_false c]
                    refine iteT ⟨_, rfl, bad ?_⟩
                    show (decide (1 ≤ x) && decide (x ∈ ids)) = false
                    rw [decide_eq_false c, Bool.and_false]
              · rintro H2 ⟨s2, ⟨acc, hA, hal, hae⟩, _⟩
                rw [hel, List.take_length] at hae
                have s12 := s1.trans s2
                refine ⟨Nat.zero_le _, fun q0 hq0 => ?_⟩
                have sq0 := Same.new (o := .lst []) hq0
                refine ⟨D, q0, acc, rfl, rfl, SqL.of (sq0 _ _ hA), SqL.of upd_same, _, rfl, ?_⟩
                rw [hae]
                have s13 := s12.trans sq0
                generalize (upd H2 q0 (.lst []) : Hp) = H3 at sq0 s13 ⊢
                cases hall : es.all (goodL ids) with
                | false =>
                  refine iteT (no ?_ H3 s13)
                  rw [erun, chain_bad (by rw [← good_iff h1]; exact hall), Bool.false_and]
                | true =>
                  refine iteF ?_
                  have hg2 := hall
                  rw [good_iff h1] at hg2
                  obtain ⟨w1, w2⟩ := Bool.and_eq_true_iff.mp hg2
                  obtain ⟨js, hjs⟩ : ∃ js, js = es.map intOf := ⟨_, rfl⟩
                  have ews : ws = js.map V.int := by rw [hjs]; exact whole_all hes w1
                  rw [← hjs] at w2
                  have hji : ∀ x ∈ js, x ∈ ids := fun x hx => of_decide_eq_true (List.all_eq_true.mp w2 x hx)
                  have hjb : ∀ x ∈ js, x ∈ bs := fun x hx => hin x (hji x hx)
                  have hjl4 : js.length ≤ 4000 := by rw [hjs, List.length_map]; exact hes4
                  subst ews
                  have hU3 := Same.tq (s2.trans sq0) hU1
                  have hg3 := s13.seq hg
                  have hb3 := s13.seq hb
                  -- places
                  refine ⟨_, rfl, u, rfl, ⟨_, hU3⟩, fun Dp hDp => ?_⟩
                  refine lc_tup (K := K) (a := u) (xs := js.map V.int) (fun j H' => Same H3 H' ∧ H' Dp = some (.lst (((js.take j).map (ixI ids)).map V.int)) ∧ j ≤ js.length) ⟨Same.new hDp, by rw [List.take_zero]; exact upd_same, Nat.zero_le _⟩ (fun j H' _ z => Same.tq z.1 hU3) ?_ ?_
                  · rintro j y H4 hj ⟨s4, hA4, hjl⟩
                    obtain ⟨x, hx, rfl⟩ := int_at hj
                    have hjl2 : j < js.length := (List.getElem?_eq_some_iff.mp hx).1
                    have hxb := hji x (List.mem_of_getElem? hx)
                    refine ⟨rfl, ?_⟩
                    refine ⟨_, rfl, .inl ⟨rfl, _, s4.seq hg3⟩, _, rfl, g, _, .int x, ids.idxOf x, .int x, rfl, rfl, s4.seq hg3, rfl, all_flat ids, ix1 hxb, ix2 x, ix3, ?_⟩
                    refine ⟨_, hA4, by rw [List.length_map, List.length_map, List.length_take, h16]; omega, fun c u z => by rw [upd_ne (ne_of_none z hDp)]; exact s4 _ _ z, ?_, hjl2⟩
                    rw [upd_same, take_snoc hx, List.map_append, List.map_append]; rfl
                  · rintro H4 ⟨s4, hA4, _⟩
                    rw [List.length_map, List.take_length] at hA4
                    have hU4 := Same.tq s4 hU3
                    have hb4 := s4.seq hb3
                    -- others
                    refine ⟨_, rfl, u, rfl, ⟨_, hU4⟩, fun Do hDo => ?_⟩
                    refine lc_tup (K := K) (a := u) (xs := js.map V.int) (fun j H' => Same H4 H' ∧ H' Do = some (.lst (((js.take j).map (ixI bs)).map V.int)) ∧ j ≤ js.length) ⟨Same.new hDo, by rw [List.take_zero]; exact upd_same, Nat.zero_le _⟩ (fun j H' _ z => Same.tq z.1 hU4) ?_ ?_
                    · rintro j y H5 hj ⟨s5, hA5, hjl⟩
                      obtain ⟨x, hx, rfl⟩ := int_at hj
                      have hjl2 : j < js.length := (List.getElem?_eq_some_iff.mp hx).1
                      have hxb := hjb x (List.mem_of_getElem? hx)
                      refine ⟨rfl, ?_⟩
                      refine ⟨_, rfl, .inl ⟨rfl, _, s5.seq hb4⟩, _, rfl, b, _, .int x, bs.idxOf x, .int x, rfl, rfl, s5.seq hb4, rfl, all_flat bs, ix1 hxb, ix2 x, ix3, ?_⟩
                      refine ⟨_, hA5, by rw [List.length_map, List.length_map, List.length_take, h16]; omega, fun c u z => by rw [upd_ne (ne_of_none z hDo)]; exact s5 _ _ z, ?_, hjl2⟩
                      rw [upd_same, take_snoc hx, List.map_append, List.map_append]; rfl
                    · rintro H5 ⟨s5, hA5, _⟩
                      rw [List.length_map, List.take_length] at hA5
                      have hA45 := s5 _ _ hA4
                      refine ⟨_, _, rfl, ?_⟩
                      refine ⟨_, rfl, _, rfl, Dp, js.map (ixI ids), rfl, SqL.of hA45, by rw [List.length_map]; omega, fun sq n2 hsq hn2 => ?_⟩
                      have ssq := Same.new (o := SetO w sq (fun j => decide (j ∈ js.map (ixI ids))) n2) hsq
                      rw [List.length_map] at hn2
                      refine ⟨sq, _, n2, rfl, upd_same, by omega, fun bd bp hup hmem hbl hbp => ?_⟩
                      have sbp := Same.new (o := .lst (bd.map V.int)) hbp
                      have hmem2 : ∀ z, z ∈ bd ↔ z ∈ js.map (ixI ids) := fun z => by
                        rw [hmem z]
                        exact ⟨of_decide_eq_true, fun h => decide_eq_true h⟩
                      have elaw := run_law (bs := bs) (ids := ids) (js := js) (bd := bd) nb hji hjb hup hmem2
                      have ebool : isRunB ids bs.reverse (.tuple [.int n, .tuple es]) = (decide (js.map (ixI ids) = bd) && decide (js.map (ixI bs) = ((js.map (ixI bs)).mergeSort leJ).reverse)) := by
                        have hgr : (es.all wholeD && (es.map intOf).all (fun x => decide (x ∈ bs.reverse))) = true := by
                          rw [w1, Bool.true_and, ← hjs]
                          exact List.all_eq_true.mpr fun x hx => decide_eq_true (List.mem_reverse.mpr (hjb x hx))
                        rw [erun, chain_good hg2, chain_good hgr, ← hjs, elaw]
                      rw [ebool] at k
                      have s15 := s13.trans (s4.trans (s5.trans ssq))
                      have s16 := s15.trans sbp
                      refine ⟨Dp, bp, _, _, rfl, rfl, SqL.of (sbp _ _ (ssq _ _ hA45)), SqL.of upd_same, ?_⟩
                      refine ⟨_, rfl, ?_⟩
                      cases hd1 : decide (js.map (ixI ids) = bd) with
                      | false =>
                        refine iteF ?_
                        have := k _ s16
                        rw [hd1, Bool.false_and] at this
                        exact this
                      | true =>
                        refine iteT ?_
                        refine ⟨_, rfl, _, rfl, Do, js.map (ixI bs), rfl, .inl (SqL.of (sbp _ _ (ssq _ _ hA5))), fun p hp => ?_⟩
                        have sp := Same.new (o := .lst (((js.map (ixI bs)).mergeSort leJ).map V.int)) hp
                        refine ⟨p, _, rfl, SqL.of upd_same, fun p2 hp2 => ?_⟩
                        rw [← List.map_reverse]
                        have sp2 := Same.new (o := .lst (((js.map (ixI bs)).mergeSort leJ).reverse.map V.int)) hp2
                        refine ⟨Do, p2, _, _, rfl, rfl, SqL.of (sp2 _ _ (sp _ _ (sbp _ _ (ssq _ _ hA5)))), SqL.of upd_same, ?_⟩
                        have := k _ (s16.trans (sp.trans sp2))
                        rw [hd1, Bool.true_and] at this
                        exact this
            | _ => exact iteT (no (isRunB_nt rfl) H (Same.refl H))
      · have hz : (!decide (V.int ((us.length : Nat) : Int) = V.int 2)) = true := by
          have : ¬ (((us.length : Nat) : Int) = 2) := by omega
          rw [Bool.not_eq_true', decide_eq_false_iff_not]
          exact fun z => this (V.int.inj z)
        rw [hz]
        exact iteT (no (isRunB_len h2) H (Same.refl H))
    | _ => exact iteT (no rfl H (Same.refl H))
end
/-! ### _law_covers -/
theorem op_in_Kc {X : Cx} {K : PySem.W.Frag} (h : X.K = K) : OpR X (compareOp .In) (rIn K false) := by
  subst h
  exact op_in_seq
theorem run_nodup {l m : List Int} {d : PyData} (h : isRunB l m d = true) : (runOfD d).2.Nodup := by
  obtain ⟨n, es, rfl, _, _, hc, _⟩ := isRunB_inv h
  unfold isChainB isChainI at hc
  rw [Bool.and_eq_true, Bool.and_eq_true] at hc
  exact (List.pairwise_map.mp (adj_pw _ hc.2.2)).imp fun {a b} z e => by rw [e] at z; omega
theorem times_filter {x : Int} : ∀ {rs : List (Int × List Int)}, (∀ r ∈ rs, r.2.Nodup) → ((rs.filter fun r => decide (x ∈ r.2)).map Prod.fst).sum = timesI rs x
  | [], _ => rfl
  | r :: rs, h => by
    have ih := times_filter (x := x) fun q hq => h q (List.mem_cons_of_mem _ hq)
    have e : timesI (r :: rs) x = r.1 * ((r.2.count x : Nat) : Int) + timesI rs x := by
      unfold timesI
      rw [List.map_cons, List.sum_cons]
    rw [e, ← ih]
    by_cases c : x ∈ r.2
    · have e1 : r.2.count x = 1 := by
        have := List.nodup_iff_count.mp (h r List.mem_cons_self) x
        have := List.count_pos_iff.mpr c
        omega
      rw [List.filter_cons_of_pos (by exact decide_eq_true c), e1, List.map_cons, List.sum_cons]
      omega
    · rw [List.filter_cons_of_neg (by exact fun z => c (of_decide_eq_true z)), List.count_eq_zero.mpr c]
      omega
section
variable {P : Program} {w : World} {K : PySem.W.Frag} {mg : Str → Option Value} {base : Heap}
def spLawCov (K : PySem.W.Frag) : Sp := fun vs H Q _ => ∃ (b g c : Addr) (v : V) (bs ids : List Int) (us : List V) (ds : List PyData) (wo : Option (List (Int × Int))), vs = [.ref b, .ref g, .ref c, v] ∧ SqL K H b (bs.map V.int) ∧ SqL K H g (ids.map V.int) ∧ SqL K H c us ∧ DVs K H us ds ∧ CovD ds ∧ WtAt H v wo ∧
  bs.Nodup ∧ bs.length ≤ 300 ∧ ids.length ≤ 300 ∧ (∀ x ∈ ids, x ∈ bs) ∧ (∀ x ∈ ids, 1 ≤ x) ∧ ∀ H' : Hp, Same H H' → Q (.bl (isCoverB bs ids ds wo)) H'
abbrev NLc : List Str := ["base", "goal", "cover", "loads", "row_id", "run"]
theorem scLawCov : FnScope NLc ["base", "goal", "cover", "loads"] (defScope sLawCovers) := ⟨rfl, rfl, rfl, by decide +kernel, rfl, by decide +kernel, by decide +kernel⟩
theorem ok_lawCov {f fR fLd : Addr} {fd fdR fdLd : FuncData} (F : Fun K "_law_covers" "_law_covers" sLawCovers f fd) (nsum : mg "sum" = none)
    (GR : FnOk P w K mg base CX0 2 fR fdR ["base", "goal", "run"] (spLawRun K)) (kR : PySem.W.keepIn K (.ref fR) = true) (bR : L2.Binds K fdR ["base", "goal", "run"] []) (mR : mg "_law_is_run" = some (.ref fR))
    (GLd : FnOk P w K mg base CX0 1 fLd fdLd ["loads", "row_id"] spLoad) (kLd : PySem.W.keepIn K (.ref fLd) = true) (bLd : L2.Binds K fdLd ["loads", "row_id"] []) (mLd : mg "_law_load" = some (.ref fLd)) :
    FnOk P w K mg base CX0 3 f fd ["base", "goal", "cover", "loads"] (spLawCov K) := by
  refine F.ok scLawCov (fun vs H Q E h => ?_) (fun cdv A outer s H vs Q E hr h => ?_)
  · obtain ⟨b, g, c, v, bs, ids, us, ds, wo, rfl, _⟩ := h
    rfl
  · obtain ⟨b, g, c, v, bs, ids, us, ds, wo, rfl, hb, hg, hc, hdv, hCov, hw, nb, lb, hlen, hin, h1, k⟩ := h
    have hr1 : Room 1 _ := hr.mono (by decide)
    have hr2 : Room 2 _ := hr.mono (by decide)
    have h64 := hu64 hr
    have hu0 := Nat.lt_of_le_of_lt (Nat.le_add_right _ 64) h64
    refine ⟨_, pss_cons (ps_if (pt_cmpR (op_neL0 hu0) (pe_lc (own := [("run", 5)]) (g := gName 5) rfl scLawCov.nd (pi_list (pv 2)) (blkOk_by (N := NLc) (sc := defScope sLawCovers) (by decide +kernel))
          (fun _ _ _ _ _ => pg_name (i := 5) scLawCov.nd rfl (Or.inl rfl)) (fun _ _ _ _ _ => pts_one (pt_not (pt_val (pe_call GR hr2 rfl mR kR bR .nil pass0 (pa_cons (pv 0) (pa_cons (pv 1) (pa_cons (pv 5) pa_nil))))))) (fun _ _ _ _ _ => pv 5)) (pe_lst pa_nil) (nomark _)) (pss_one (ps_ret pe_bl)) pss_nil)
      (pss_cons (ps_for PassesOwn.never rfl (pi_list (pv 1)) (pg_name (i := 4) scLawCov.nd rfl (Or.inr rfl))
        (pss_one (ps_if (pt_cmpR op_lt (pe_callB (cr_sum rfl) (by rfl) nsum (by decide +kernel) (pa_cons (pe_lc (own := [("run", 5)]) (g := gName 5) rfl scLawCov.nd (pi_list (pv 2)) (blkOk_by (N := NLc) (sc := defScope sLawCovers) (by decide +kernel))
            (fun _ _ _ _ _ => pg_name (i := 5) scLawCov.nd rfl (Or.inl rfl)) (fun _ _ _ _ _ => pts_one (pt_cmpR (op_in_Kc (K := K) rfl) (pv 4) (pe_ix (ix_tupKx (K := K) rfl) (pv 5) pe_int (fun _ _ => rfl)) (by rfl))) (fun _ _ _ _ _ => pe_ix (ix_tupKx (K := K) rfl) (pv 5) pe_int (fun _ _ => rfl))) pa_nil))
          (pe_call GLd hr1 rfl mLd kLd bLd .nil pass0 (pa_cons (pv 3) (pa_cons (pv 4) pa_nil))) (nomark _)) (pss_one (ps_ret pe_bl)) pss_nil)))
      (pss_one (ps_ret pe_bl))), ?_⟩
    have h16 : sizeLine = 16777216 := sizeLine_eq
    have hul := hdv.length
    have hdl := hCov.len
    refine ⟨_, rfl, c, rfl, ⟨_, hc⟩, fun D hD => ?_⟩
    refine lc_list (K := K) (a := c) (xs := us) (fun j H' => Same H H' ∧ (∃ acc, H' D = some (.lst acc) ∧ acc.length ≤ j ∧ acc.isEmpty = (ds.take j).all (isRunB ids bs.reverse)) ∧ j ≤ ds.length) ⟨Same.new hD, ⟨[], upd_same, Nat.le_refl _, by rw [List.take_zero]; rfl⟩, Nat.zero_le _⟩ (fun j H' _ z => z.1.seq hc) ?_ ?_
    · rintro j y H2 hj ⟨s2, ⟨acc, hA, hal, hae⟩, hjl⟩
      obtain ⟨e, hej, hv2⟩ := (DVs.same s2 hdv).at hj
      have hjl2 : j < ds.length := (List.getElem?_eq_some_iff.mp hej).1
      have etk : (ds.take (j + 1)).all (isRunB ids bs.reverse) = ((ds.take j).all (isRunB ids bs.reverse) && isRunB ids bs.reverse e) := by
        rw [take_snoc hej, List.all_append, List.all_cons, List.all_nil, Bool.and_true]
      refine ⟨rfl, _, rfl, _, rfl, _, rfl, b, g, y, bs, ids, e, rfl, s2.seq hb, s2.seq hg, hv2, hCov.run e (List.mem_of_getElem? hej), nb, lb, hlen, hin, h1, fun H3 s3 => ?_⟩
      have s23 := s2.trans s3
      have hA3 := s3 _ _ hA
      refine ⟨_, rfl, ?_⟩
      cases hc2 : isRunB ids bs.reverse e with
      | false =>
        refine iteT ⟨_, rfl, acc, hA3, by rw [h16]; omega, fun b o z => by rw [upd_ne (ne_of_none z hD)]; exact s23 _ _ z, ⟨_, upd_same, by rw [List.length_append]; show _ + 1 ≤ _; omega, ?_⟩, hjl2⟩
        rw [etk, hc2, Bool.and_false]
        cases acc <;> rfl
      | true =>
        refine iteF ⟨s23, ⟨acc, hA3, by omega, ?_⟩, hjl2⟩
        rw [etk, hae, hc2, Bool.and_true]
    · rintro H2 ⟨s2, ⟨acc, hA, hal, hae⟩, _⟩
      rw [hul, List.take_length] at hae
      rw [hul] at hal
      refine ⟨Nat.zero_le _, fun q0 hq0 => ?_⟩
      have sq0 := Same.new (o := .lst []) hq0
      refine ⟨D, q0, acc, rfl, rfl, SqL.of (sq0 _ _ hA), SqL.of upd_same, _, rfl, ?_⟩
      rw [hae]
      have s13 := s2.trans sq0
      generalize (upd H2 q0 (.lst []) : Hp) = H3 at sq0 s13 ⊢
      cases hall : ds.all (isRunB ids bs.reverse) with
      | false =>
        refine iteT ?_
        have := k H3 s13
        unfold isCoverB at this
        rw [hall, Bool.false_and] at this
        exact this
      | true =>
        refine iteF ?_
        obtain ⟨rs, hrs⟩ : ∃ rs, rs = ds.map runOfD := ⟨_, rfl⟩
        have hRQ : RunsQ K H us rs := by rw [hrs]; exact runs_of hdv hall
        have hrn : ∀ r ∈ rs, r.2.Nodup := fun r hr => by
          rw [hrs] at hr
          obtain ⟨d, hd, rfl⟩ := List.mem_map.mp hr
          exact run_nodup (List.all_eq_true.mp hall d hd)
        have hrl : rs.length = us.length := hRQ.1.symm
        have hcov : isCoverB bs ids ds wo = ids.all (fun x => decide (wtI wo x ≤ timesI rs x)) := by
          unfold isCoverB
          rw [hall, Bool.true_and, hrs]
        rw [hcov] at k
        have hg3 := s13.seq hg
        refine ⟨_, rfl, g, rfl, ⟨_, hg3⟩, for_list (K := K) (a := g) (xs := ids.map V.int) (fun i σ H' => (∃ v4 : Option V, σ = [some (.ref b), some (.ref g), some (.ref c), some v, v4, none]) ∧ Same H3 H' ∧ (∀ x ∈ ids.take i, wtI wo x ≤ timesI rs x) ∧ i ≤ ids.length)
          ⟨⟨none, rfl⟩, Same.refl _, (fun (x : Int) (hx : x ∈ ids.take 0) => by rw [List.take_zero] at hx; cases hx), Nat.zero_le _⟩ (fun i σ H' _ ⟨_, s, _⟩ => s.seq hg3) ?_ ?_⟩
        · rintro i y σ H4 hi ⟨⟨v4, rfl⟩, s4, hpre, hil⟩
          obtain ⟨x, hx, rfl⟩ := int_at hi
          have hi2 : i < ids.length := (List.getElem?_eq_some_iff.mp hx).1
          have s14 := s13.trans s4
          have hc4 := s14.seq hc
          refine ⟨_, rfl, c, rfl, ⟨_, hc4⟩, fun E2 hE => ?_⟩
          refine lc_list (K := K) (a := c) (xs := us) (fun j H' => Same H4 H' ∧ H' E2 = some (.lst ((((rs.take j).filter fun r => decide (x ∈ r.2)).map Prod.fst).map V.int)) ∧ j ≤ rs.length) ⟨Same.new hE, by rw [List.take_zero]; exact upd_same, Nat.zero_le _⟩ (fun j H' _ z => z.1.seq hc4) ?_ ?_
          · rintro j y H5 hj ⟨s5, hA5, hjl⟩
            obtain ⟨r, hr', hq1⟩ := hRQ.at hj
            have hjl2 : j < rs.length := (List.getElem?_eq_some_iff.mp hr').1
            obtain ⟨t, u, rfl, ht, hu'⟩ := hq1.same (s14.trans s5)
            have hfl := List.length_filter_le (fun r : Int × List Int => decide (x ∈ r.2)) (rs.take j)
            rw [List.length_take] at hfl
            refine ⟨rfl, _, rfl, _, rfl, t, _, 1, .ref u, rfl, rfl, ht, rfl, u, r.2.map V.int, rfl, .inr hu', rfl, all_flat r.2, ?_⟩
            have ein : (if false = true then !inV (V.int x) (r.2.map V.int) else inV (V.int x) (r.2.map V.int)) = decide (x ∈ r.2) := inV_int _ _
            rw [ein]
            refine ⟨_, rfl, ite2 (fun cc => ?_) (fun cc => ?_)⟩
            · refine ⟨_, rfl, t, _, 0, .int r.1, rfl, rfl, ht, rfl, ?_⟩
              refine ⟨_, hA5, by rw [List.length_map, List.length_map, h16]; omega, fun b u z => by rw [upd_ne (ne_of_none z hE)]; exact s5 _ _ z, ?_, hjl2⟩
              rw [upd_same, take_snoc hr', List.filter_append, List.filter_cons_of_pos (p := fun r : Int × List Int => decide (x ∈ r.2)) cc, List.map_append, List.map_append]; rfl
            · refine ⟨s5, ?_, hjl2⟩
              rw [hA5, take_snoc hr', List.filter_append, List.filter_cons_of_neg (p := fun r : Int × List Int => decide (x ∈ r.2)) cc, List.filter_nil, List.append_nil]
          · rintro H5 ⟨s5, hA5, _⟩
            rw [← hrl, List.take_length] at hA5
            refine ⟨E2, _, rfl, SqL.of hA5, ?_⟩
            rw [times_filter hrn]
            have s15 := s14.trans s5
            refine ⟨_, rfl, _, rfl, v, x, wo, rfl, hw.same s15, ?_⟩
            refine ⟨_, _, rfl, rfl, _, rfl, ite2 (fun cc => ?_) (fun cc => ?_)⟩
            · have hlt : timesI rs x < wtI wo x := of_decide_eq_true cc
              have hf : ids.all (fun x => decide (wtI wo x ≤ timesI rs x)) = false := by
                cases q : ids.all (fun x => decide (wtI wo x ≤ timesI rs x)) with
                | false => rfl
                | true =>
                  have := of_decide_eq_true (List.all_eq_true.mp q x (List.mem_of_getElem? hx))
                  omega
              have := k H5 s15
              rw [hf] at this
              exact this
            · refine ⟨⟨_, rfl⟩, s4.trans s5, fun z hz => ?_, hi2⟩
              rw [take_snoc hx] at hz
              rcases List.mem_append.mp hz with h | h
              · exact hpre z h
              · rw [List.mem_singleton.mp h]
                have : ¬ timesI rs x < wtI wo x := fun q => cc (decide_eq_true q)
                omega
        · rintro σ H4 ⟨⟨v4, rfl⟩, s4, hpre, _⟩
          rw [List.length_map, List.take_length] at hpre
          have ht : ids.all (fun x => decide (wtI wo x ≤ timesI rs x)) = true := List.all_eq_true.mpr fun x hx => decide_eq_true (hpre x hx)
          have := k H4 (s13.trans s4)
          rw [ht] at this
          exact this
end
/-! ### t[::-1] of a tuple; numbers and bools -/
section
variable {prog : Program} {w : World} {A : Around} {E : Value → Shared → Prop} {s : Shared}
theorem sliceApplied_rev {sl : Addr} {n : Nat} {u : Tok} {Q : Int × Int × Nat → Shared → Prop} (hs : s.heap.IsSliceOf sl .none .none (.int (-1) u)) (h : Q ((n : Int) - 1, -1, n) s) :
    wpAny (model prog w) A (Builtin.Slice.sliceApplied (.ref sl) (pure (n : Int))) Q E s := by
  obtain ⟨os, hos, hcs, hds⟩ := id hs
  unfold Builtin.Slice.sliceApplied Builtin.Slice.sliceFields
  refine wpAny_bind (wpAny_bind (wpAny_field hos hds (x := .none) rfl (wpAny_bind (wpAny_field hos hds (x := .none) rfl (wpAny_bind (wpAny_field hos hds (x := .int (-1) u) rfl (wpAny_pure ?_)))))))
  refine wpAny_bind (slicePart_int ?_)
  show wpAny _ _ (if ((-1 : Int) == 0) = true then _ else _) _ _ s
  rw [if_neg (by decide)]
  refine wpAny_bind (slicePart_none (wpAny_bind (slicePart_none (wpAny_bind (wpAny_pure ?_)))))
  show wpAny _ _ (match Builtin.Slice.sliceAdjust none none (-1) (n : Int) with | (lo, hi) => pure (lo, (-1 : Int), Builtin.Slice.slicePlaces lo hi (-1))) _ _ s
  have e1 : Builtin.Slice.sliceAdjust none none (-1) (n : Int) = ((n : Int) - 1, -1) := by
    unfold Builtin.Slice.sliceAdjust
    simp
  rw [e1]
  show wpAny _ _ (pure ((n : Int) - 1, (-1 : Int), Builtin.Slice.slicePlaces ((n : Int) - 1) (-1) (-1))) _ _ s
  have e2 : Builtin.Slice.slicePlaces ((n : Int) - 1) (-1) (-1) = n := by
    unfold Builtin.Slice.slicePlaces
    rw [if_neg (by decide)]
    by_cases h0 : (n : Int) - 1 > -1
    · rw [if_pos h0]
      have : -(-1 : Int) = 1 := by decide
      rw [this, Int.ediv_one]
      omega
    · rw [if_neg h0]
      show (0 : Nat) = n
      omega
  rw [e2]
  exact wpAny_pure h
theorem fm_congr {α β : Type} {f g : α → Option β} : ∀ {l : List α}, (∀ x ∈ l, f x = g x) → l.filterMap f = l.filterMap g
  | [], _ => rfl
  | x :: l, h => by
    rw [List.filterMap_cons, List.filterMap_cons, h x List.mem_cons_self, fm_congr fun y hy => h y (List.mem_cons_of_mem _ hy)]
theorem pick_rev (xs : Array Value) : ((List.range xs.size).filterMap fun (k : Nat) => xs[(((xs.size : Int) - 1) + (k : Int) * (-1)).toNat]?).toArray = xs.toList.reverse.toArray := by
  congr 1
  have key : ∀ l : List Value, ((List.range l.length).filterMap fun (k : Nat) => l[l.length - 1 - k]?) = l.reverse := fun l => by
    have e : (List.range l.length).filterMap (fun (k : Nat) => l[l.length - 1 - k]?) = (List.range l.length).filterMap (fun k => l.reverse[k]?) := by
      refine fm_congr fun k hk => ?_
      have hk := List.mem_range.mp hk
      rw [List.getElem?_reverse hk]
    rw [e]
    have := pick_all l.reverse
    unfold pickL at this
    rw [List.length_reverse] at this
    exact this
  have e2 : (fun (k : Nat) => xs[(((xs.size : Int) - 1) + (k : Int) * (-1)).toNat]?) = fun (k : Nat) => xs.toList[(((xs.size : Int) - 1) + (k : Int) * (-1)).toNat]? := by
    funext k
    exact (Array.getElem?_toList).symm
  have := key xs.toList
  rw [Array.length_toList] at this
  rw [e2, ← this]
  refine fm_congr fun k hk => ?_
  have hk := List.mem_range.mp hk
  congr 1
  omega
theorem getItem_tuple_rev {t sl : Addr} {items : Array Value} {u : Tok} {Q : Value → Shared → Prop} (ht : IsTup s.heap t items) (hs : s.heap.IsSliceOf sl .none .none (.int (-1) u))
    (h : Q (.ref s.heap.objs.size) { s with heap := s.heap.push { cls := .type "tuple", data := .seq items.toList.reverse.toArray } })
    (hsz : items.size ≤ sizeLine) : wpAny (model prog w) A (getItem (.ref t) (.ref sl)) Q E s := by
  have hdrop : sizeOk (.seq items.toList.reverse.toArray) := by
    show items.toList.reverse.toArray.size ≤ sizeLine
    rw [List.size_toArray, List.length_reverse, Array.length_toList]
    exact hsz
  obtain ⟨os, hos, hcs, hds⟩ := id hs
  have hTs : s.TypeIs (.ref sl) "slice" := ⟨os, hos, hcs⟩
  unfold getItem
  try with_reducible refine wpAny_holding ?_
  first | refine wpAny_bind (wpAny_pure ?_) | skip
  refine wpAny_bind (wpAny_sequenceKey ht.typeIs (by decide) ?_)
  refine wpAny_bind (wpAny_callSpecial?_slot (name := Str.ofString "__getitem__") ht.typeIs slot_tuple_getitem
    (wpAny_call_entry slot_tuple_getitem ht.typeIs entry_tuple_getitem ?_ (args_tuple_getitem _ _)))
  show wpAny _ _ (Builtin.Tuple.tupleItemsOf (.ref t) >>= _) _ _ s
  refine wpAny_bind (tupleItemsOf_ ht ?_)
  refine wpAny_bind (wpAny_typeOf hTs ?_)
  rw [if_pos (by decide)]
  refine wpAny_bind (sliceApplied_rev (n := items.size) hs ?_)
  have hno : ¬ ((((items.size : Int) - 1) == 0 && (-1 : Int) == 1 && items.size == items.size) = true) := by
    have : ((-1 : Int) == 1) = false := by decide
    rw [this]; simp
  show wpAny _ _ (if (((items.size : Int) - 1) == 0 && (-1 : Int) == 1 && items.size == items.size) = true then _ else _) _ _ s
  rw [if_neg hno, pick_rev items]
  first
    | exact wpAny_bind (m := Builtin.Tuple.tupleExact _) (wpAny_newObj_type (wpAny_pure ⟨_, rfl, wpAny_pure h⟩) hdrop)
    | exact wpAny_bind (m := Builtin.Tuple.tupleExact _) (wpAny_newObj_type (wpAny_bind (wpAny_pure (wpAny_pure ⟨_, rfl, wpAny_pure h⟩))) hdrop)
    | exact wpAny_bind (wpAny_bind (m := Builtin.Tuple.tupleExact _) (wpAny_newObj_type (wpAny_pure (wpAny_pure ⟨_, rfl, wpAny_pure h⟩)) hdrop))
    | exact wpAny_bind (wpAny_bind (m := Builtin.Tuple.tupleExact _) (wpAny_newObj_type (wpAny_pure ⟨_, rfl, wpAny_pure h⟩) hdrop))
end
theorem vals_app {a b : List V} {c d : List Value} (h1 : Vals a c) (h2 : Vals b d) : Vals (a ++ b) (c ++ d) := by
  induction h1 with
  | nil => exact h2
  | cons p _ ih => exact .cons p ih
theorem vals_rev {a : List V} {c : List Value} (h : Vals a c) : Vals a.reverse c.reverse := by
  induction h with
  | nil => exact .nil
  | cons p _ ih =>
    rw [List.reverse_cons, List.reverse_cons]
    exact vals_app ih (.cons p .nil)
def tSlR (K : PySem.W.Frag) (te : TE) (tl th ts : TO) : TE := fun σ H Q => te σ H fun x H1 => tl σ H1 fun l H2 => th σ H2 fun u H3 => ts σ H3 fun st H4 => ∃ a xs, x = .ref a ∧ SqT K H4 a xs ∧ l = none ∧ u = none ∧ st = some (-1) ∧ ∀ p H', Same H4 H' → SqT K H' p xs.reverse → Q (.ref p) H'
section
variable {X : Cx} {e : Expr} {te : TE} {lo hi : Option Expr} {st : Expr} {tl th ts : TO} {pos p2 : Pos}
theorem pe_revT (he : PE X e te) (hl : PO X lo tl) (hu : PO X hi th) (hs : PO X (some st) ts) : PE X (.Subscript e (.Slice lo hi (some st) p2) pos) (tSlR X.K te tl th ts) := by
  refine ⟨fun pins s σ H Q I h => ?_⟩
  refine Subscript_ (thn (he.run pins s σ H _ I h) fun v s1 ⟨x, H1, I1, r1, q1⟩ => ?_)
  refine wpAny_Slice (thn (hl.run pins s1 σ H1 _ I1 q1) fun vl s2 ⟨l, H2, I2, pl, q2⟩ => thn (hu.run pins s2 σ H2 _ I2 q2) fun vu s3 ⟨u, H3, I3, pu, q3⟩ => ?_)
  refine thn (hs.run pins s3 σ H3 _ I3 q3) fun vs s4 ⟨o, H4, I4, ps, a, xs, ex, hx, el, eu, eo, q⟩ => ?_
  subst ex el eu eo
  cases r1
  have I5 : Inv X pins σ H4 { s4 with heap := s4.heap.push { cls := .type "slice", data := .fields #[vl, vu, vs] } } := I4.kept (t' := s4.toks) fun b ob q => Heap.get?_push_of_some _ q
  obtain ⟨its, r, ht, hz⟩ := I5.tuple hx
  have hlen := r.length
  show wpAny (model X.prog X.w) X.A (subscriptTail e (.Slice lo hi (some st) p2) (.ref a) (.ref s4.heap.objs.size)) (EP X pins σ Q) X.xe { s4 with heap := s4.heap.push { cls := .type "slice", data := .fields #[vl, vu, vs] } }
  refine tail_any (ops := [.ref a, .ref s4.heap.objs.size]) (PyProof.Rows.IsTup.typeIs ht) (PyProof.Rows.slot_tuple_getitem.lookup) ?_ (by with_unfolding_all rfl)
  cases pl
  cases pu
  cases ps
  refine getItem_tuple_rev ht (Heap.IsSliceOf.new _ _ _ _) ?_ (by rw [List.size_toArray]; omega)
  have sn := Same.new (H := H4) (o := .tup xs.reverse) (I5.hok.fresh (Nat.le_refl _))
  refine ⟨.ref _, _, I5.laid (t' := s4.toks) (o := .tup xs.reverse) (fun b ob q => Heap.get?_push_of_some _ q) (Nat.le_refl _) ?_, rfl, q _ _ sn (SqT.of upd_same)⟩
  exact ⟨by rw [List.length_reverse]; exact hz, _, vals_rev r, ⟨_, Heap.get?_push_size _ rfl, rfl, _, rfl⟩⟩
end
/-! numbers and bools -/
def rAddB (f : Int → Int → Int) : R2 := fun x y H Q => ∃ j : Int, y = .int j ∧ ((∃ i, x = .int i ∧ Q (.int (f i j)) H) ∨ ∃ b : Bool, x = .bl b ∧ Q (.int (f (if b = true then 1 else 0) j)) H)
theorem op_subX {X : Cx} : OpR X (binaryOp .Sub) (rAddB fun i j => i - j) := by
  intro pins s σ H x y v u Q I rx ry h
  obtain ⟨j, rfl, ⟨i, rfl, q⟩ | ⟨b, rfl, q⟩⟩ := h
  · exact op_sub pins s σ H _ _ v u Q I rx ry ⟨_, _, rfl, rfl, q⟩
  · have e1 : v = Value.bool b := rx
    obtain ⟨t, e2⟩ := ry
    subst e1; subst e2
    exact PySem.IntBool.sub_bool_int ⟨.int _, H, I.tok _, ⟨_, rfl⟩, q⟩
theorem op_addX {X : Cx} : OpR X (binaryOp .Add) (rAddB fun i j => i + j) := by
  intro pins s σ H x y v u Q I rx ry h
  obtain ⟨j, rfl, ⟨i, rfl, q⟩ | ⟨b, rfl, q⟩⟩ := h
  · exact op_add pins s σ H _ _ v u Q I rx ry ⟨_, _, rfl, rfl, q⟩
  · have e1 : v = Value.bool b := rx
    obtain ⟨t, e2⟩ := ry
    subst e1; subst e2
    exact PySem.IntBool.add_bool_int ⟨.int _, H, I.tok _, ⟨_, rfl⟩, q⟩
theorem But.tq {d a : Addr} {H H' : Hp} {K : PySem.W.Frag} {xs : List V} (D : DeckAt H d) (s : But d H H') (h : SqT K H a xs) : SqT K H' a xs := by
  obtain ⟨x, y, hd, _⟩ := D
  rcases h with (h | ⟨o, h⟩) | h
  · exact .inl (.inl (s _ _ (ne_of h hd (by intro z; cases z)) h))
  · exact .inl (.inr ⟨o, s _ _ (ne_of h hd (by intro z; cases z)) h⟩)
  · exact .inr h
mutual
/-- data is no deck -/
theorem DV.but {K : PySem.W.Frag} {d : Addr} {H H' : Hp} (D : DeckAt H d) (e : But d H H') : ∀ {x : PyData} {v : V}, DV K H v x → DV K H' v x
  | _, _, .non => .non
  | _, _, .bl b => .bl b
  | _, _, .int i => .int i
  | _, _, .str x => .str x
  | _, _, .lst h t => .lst (e.seq D h) (DVs.but D e t)
  | _, _, .tup h t => .tup (e.tq D h) (DVs.but D e t)
  | _, _, .dk0 h => .dk0 (e _ _ (by
      obtain ⟨x, y, hd, _⟩ := D
      exact ne_of h hd (by intro z; cases z)) h)
theorem DVs.but {K : PySem.W.Frag} {d : Addr} {H H' : Hp} (D : DeckAt H d) (e : But d H H') : ∀ {ds : List PyData} {vs : List V}, DVs K H vs ds → DVs K H' vs ds
  | _, _, .nil => .nil
  | _, _, .cons p t => .cons (DV.but D e p) (DVs.but D e t)
end
/-! ### _law_bent_run -/
theorem okWs_app : ∀ A B : List PyData, okWs (A ++ B) = (okWs A && okWs B)
  | [], B => by rw [List.nil_append, okWs, Bool.true_and]
  | x :: A, B => by rw [List.cons_append, okWs, okWs_app A B, okWs, Bool.and_assoc]
theorem szWs_app : ∀ A B : List PyData, szWs (A ++ B) = szWs A + szWs B
  | [], B => by rw [List.nil_append, szWs, Nat.zero_add]
  | x :: A, B => by rw [List.cons_append, szWs, szWs_app A B, szWs]; omega
theorem okWs_rev : ∀ A : List PyData, okWs A.reverse = okWs A
  | [] => rfl
  | x :: A => by rw [List.reverse_cons, okWs_app, okWs_rev A, okWs, okWs, okWs, Bool.and_true, Bool.and_comm]
theorem szWs_rev : ∀ A : List PyData, szWs A.reverse = szWs A
  | [] => rfl
  | x :: A => by rw [List.reverse_cons, szWs_app, szWs_rev A, szWs, szWs, szWs]; omega
theorem depA_rev : ∀ A : List PyData, PyData.depthAll A.reverse = PyData.depthAll A
  | [] => rfl
  | x :: A => by rw [List.reverse_cons, depthAll_append, depA_rev A, PyData.depthAll, PyData.depthAll, PyData.depthAll]; omega
theorem DVs.rev {K : PySem.W.Frag} {H : Hp} : ∀ {vs : List V} {ds : List PyData}, DVs K H vs ds → DVs K H vs.reverse ds.reverse
  | _, _, .nil => .nil
  | _, _, .cons p t => by
    rw [List.reverse_cons, List.reverse_cons]
    exact DVs.append (DVs.rev t) (.cons p .nil)
theorem er_tq {K : PySem.W.Frag} {H : Hp} {fo p : Addr} {xs ys : List V} (hf : H fo = some (.lst ys)) (h : SqT K H p xs) : SqT K (er H fo) p xs := by
  rcases h with (h | ⟨o, h⟩) | h
  · exact .inl (.inl (er_at h (ne_of h hf (fun z => by cases z))))
  · exact .inl (.inr ⟨o, er_at h (ne_of h hf (fun z => by cases z))⟩)
  · exact .inr h
theorem er_but {d fo : Addr} {H H' : Hp} (B : But d H H') : But d (er H fo) (er H' fo) := fun b o n h => by
  have nf : b ≠ fo := fun e => by
    unfold er at h
    rw [if_pos e] at h
    cases h
  exact er_at (B b o n (er_le _ _ h)) nf
theorem er_deck {d fo : Addr} {H : Hp} {ys : List V} (hf : H fo = some (.lst ys)) (D : DeckAt H d) : DeckAt (er H fo) d := by
  obtain ⟨x, y, hd, r⟩ := D
  exact ⟨x, y, er_at hd (ne_of hd hf (fun z => by cases z)), r⟩
def timesOk (M : Nat) (t : PyData) : Prop := (∃ n : Int, t = .int n ∧ n.natAbs ≤ M) ∨ ∃ b, t = .bool b
structure EltD (S L M : Nat) (d : PyData) : Prop where
  ok : okW d = true
  sz : szW d ≤ S
  dep : d.depth ≤ 6
  run : ∀ t es, d = .tuple [t, .tuple es] → es.length ≤ L ∧ timesOk M t
theorem EltD.mono {S L M S' L' M' : Nat} {d : PyData} (h : EltD S L M d) (hS : S ≤ S') (hL : L ≤ L') (hM : M ≤ M') : EltD S' L' M' d :=
  ⟨h.ok, Nat.le_trans h.sz hS, h.dep, fun t es e => by
    obtain ⟨a, b⟩ := h.run t es e
    refine ⟨Nat.le_trans a hL, ?_⟩
    rcases b with ⟨n, e, q⟩ | b
    · exact .inl ⟨n, e, Nat.le_trans q hM⟩
    · exact .inr b⟩
theorem times_facts {M : Nat} {t : PyData} (hM : M < 2 ^ 300) (h : timesOk M t) : okW t = true ∧ szW t = 303 ∧ t.depth = 0 ∧ (∀ es, t ≠ .tuple es) := by
  rcases h with ⟨n, rfl, hn⟩ | ⟨b, rfl⟩
  · exact ⟨by rw [okW]; exact decide_eq_true (Nat.lt_of_le_of_lt hn hM), by rw [szW], by rw [PyData.depth], fun es z => by cases z⟩
  · exact ⟨by rw [okW], by rw [szW], by rw [PyData.depth], fun es z => by cases z⟩
theorem elt_parts {S L M : Nat} {t : PyData} {es : List PyData} (h : EltD S L M (.tuple [t, .tuple es])) : okWs es = true ∧ szWs es + 313 ≤ S + 303 - szW t ∧ PyData.depthAll es ≤ 4 ∧ es.length ≤ L ∧ timesOk M t := by
  obtain ⟨a, b⟩ := h.run t es rfl
  have o := h.ok
  have z := h.sz
  have d := h.dep
  rw [okW, okWs, okWs, okWs, okW, Bool.and_eq_true, Bool.and_eq_true] at o
  rw [szW, szWs, szWs, szWs, szW] at z
  rw [PyData.depth, PyData.depthAll, PyData.depthAll, PyData.depthAll, PyData.depth] at d
  exact ⟨o.2.1, by omega, by omega, a, b⟩
theorem elt_two {S L M : Nat} {t a : PyData} (hM : M < 2 ^ 300) (ht : timesOk M t) (oa : okW a = true) (za : szW a + 400 ≤ S) (da : a.depth ≤ 5) (hr : ∀ es, a = .tuple es → es.length ≤ L) : EltD S L M (.tuple [t, a]) := by
  obtain ⟨t1, t2, t3, _⟩ := times_facts hM ht
  refine ⟨?_, ?_, ?_, fun t' es e => ?_⟩
  · rw [okW, okWs, okWs, okWs, t1, oa]; rfl
  · rw [szW, szWs, szWs, szWs]; omega
  · rw [PyData.depth, PyData.depthAll, PyData.depthAll, PyData.depthAll]; omega
  · cases e
    exact ⟨hr es rfl, ht⟩
section
variable {P : Program} {w : World} {K : PySem.W.Frag} {mg : Str → Option Value} {base : Heap}
def spBentRun (K : PySem.W.Frag) : Sp := fun vs H Q _ => ∃ (d b fo : Addr) (xf : List V) (v : V) (bs : List Int) (t : PyData) (es : List PyData) (S L M : Nat), vs = [.ref d, .ref b, v] ∧ DeckAt H d ∧ H fo = some (.lst xf) ∧ SqL K H b (bs.map V.int) ∧ bs ≠ [] ∧ bs.length ≤ 300 ∧ (∀ x ∈ bs, 0 ≤ x ∧ x ≤ 1000000) ∧
  DV K (er H fo) v (.tuple [t, .tuple es]) ∧ es ≠ [] ∧ EltD S L M (.tuple [t, .tuple es]) ∧ 1 ≤ M ∧ M + 1 < 2 ^ 300 ∧ L ≤ 4000 ∧
  ∀ (v' : V) (d' : PyData) (H' : Hp), DV K (er H' fo) v' d' → EltD (2 * S + 3000) (L + 1) (M + 1) d' → DeckAt H' d → But d H H' → Q v' H'
abbrev NBr : List Str := ["tape", "base", "run", "times", "ids", "at", "way", "other", "odd"]
theorem scBentRun : FnScope NBr ["tape", "base", "run"] (defScope sBentRun) := ⟨rfl, rfl, rfl, by decide +kernel, rfl, by decide +kernel, by decide +kernel⟩
theorem ok_bentRun {f fD fC : Addr} {fd fdD fdC : FuncData} (F : Fun K "_law_bent_run" "_law_bent_run" sBentRun f fd) (nlen : mg "len" = none) (nlist : mg "list" = none)
    (GD : FnOk P w K mg base CX0 1 fD fdD ["tape", "size"] spDraw) (kD : PySem.W.keepIn K (.ref fD) = true) (bD : L2.Binds K fdD ["tape", "size"] []) (mD : mg "_law_pick" = some (.ref fD))
    (GC : FnOk P w K mg base CX0 2 fC fdC ["tape", "items"] (spChoose K)) (kC : PySem.W.keepIn K (.ref fC) = true) (bC : L2.Binds K fdC ["tape", "items"] []) (mC : mg "_law_one_of" = some (.ref fC)) :
    FnOk P w K mg base CX0 3 f fd ["tape", "base", "run"] (spBentRun K) := by
  refine F.ok scBentRun (fun vs H Q E h => ?_) (fun cdv A outer s H vs Q E hr h => ?_)
  · obtain ⟨d, b, fo, xf, v, bs, t, es, S, L, M, rfl, _⟩ := h
    rfl
  · obtain ⟨d, b, fo, xf, v, bs, t, es, S, L, M, rfl, D, hfo, hb, hbne, lb, hbb, hd, hne, hE, hM1, hM, hL4, k⟩ := h
    have hr1 : Room 1 _ := hr.mono (by decide)
    have hr2 : Room 2 _ := hr.mono (by decide)
    refine ⟨_, pss_cons (ps_asg (pv 2) (pg_tup (by rfl) (pgs_cons (pg_name (i := 3) scBentRun.nd rfl (Or.inl rfl)) (pgs_cons (pg_name (i := 4) scBentRun.nd rfl (Or.inl rfl)) pgs_nil))))
      (pss_cons (ps_par (i := 5) (j := 6) (by rfl) scBentRun.nd rfl rfl (by decide) rfl rfl (pa_cons (pe_call GD hr1 rfl mD kD bD .nil pass0 (pa_cons (pv 0) (pa_cons (pe_callB call_len_seq (by rfl) nlen PySem.boot_len (pa_cons (pv 4) pa_nil)) pa_nil)))
          (pa_cons (pe_call GD hr1 rfl mD kD bD .nil pass0 (pa_cons (pv 0) (pa_cons pe_int pa_nil))) pa_nil)) (by rfl))
      (pss_cons (ps_if (pt_cmpR op_eq (pv 6) pe_int (nomark _)) (pss_one (ps_ret (pe_tup (pa_cons (pe_op op_subX (pv 3) pe_int) (pa_cons (pv 4) pa_nil))))) pss_nil)
      (pss_cons (ps_if (pt_cmpR op_eq (pv 6) pe_int (nomark _)) (pss_one (ps_ret (pe_tup (pa_cons (pv 3) (pa_cons (pe_op op_catU (pe_slice sl_tupU (pv 4) po_none (po_some (pv 5))) (pe_slice sl_tupU (pv 4) (po_some (pe_op op_add (pv 5) pe_int)) po_none)) pa_nil))))) pss_nil)
      (pss_cons (ps_if (pt_cmpR op_eq (pv 6) pe_int (nomark _)) (pss_one (ps_ret (pe_tup (pa_cons (pv 3) (pa_cons (pe_op op_catU (pe_op op_catU (pe_slice sl_tupU (pv 4) po_none (po_some (pv 5))) (pe_tup (pa_cons (pe_call GC hr2 rfl mC kC bC .nil pass0 (pa_cons (pv 0) (pa_cons (pv 1) pa_nil))) pa_nil))) (pe_slice sl_tupU (pv 4) (po_some (pv 5)) po_none)) pa_nil))))) pss_nil)
      (pss_cons (ps_if (pt_cmpR op_eq (pv 6) pe_int (nomark _)) (pss_one (ps_ret (pe_tup (pa_cons (pv 3) (pa_cons (pe_revT (pv 4) po_none po_none (po_some (pe_un un_neg pe_int))) pa_nil))))) pss_nil)
      (pss_cons (ps_if (pt_cmpR op_eq (pv 6) pe_int (nomark _)) (pss_one (ps_ret (pe_tup (pa_cons (pv 3) (pa_cons (pe_op op_catU (pe_slice sl_tupU (pv 4) po_none (po_some (pe_op op_add (pv 5) pe_int))) (pe_slice sl_tupU (pv 4) (po_some (pv 5)) po_none)) pa_nil))))) pss_nil)
      (pss_cons (ps_if (pt_cmpR op_eq (pv 6) pe_int (nomark _))
        (pss_cons (ps_set (i := 7) scBentRun.nd rfl (Or.inl rfl) (pe_call GC hr2 rfl mC kC bC .nil pass0 (pa_cons (pv 0) (pa_cons (pe_lst (pa_cons pe_int (pa_cons pe_bl (pa_cons pe_non (pa_cons pe_str (pa_cons (pe_tup (pa_cons pe_int pa_nil)) (pa_cons (pe_op op_pow pe_int pe_int) (pa_cons (pe_lst (pa_cons pe_int pa_nil)) (pa_cons pe_dnewK pa_nil))))))))) pa_nil))))
        (pss_one (ps_ret (pe_tup (pa_cons (pv 3) (pa_cons (pe_op op_catU (pe_op op_catU (pe_slice sl_tupU (pv 4) po_none (po_some (pv 5))) (pe_tup (pa_cons (pv 7) pa_nil))) (pe_slice sl_tupU (pv 4) (po_some (pe_op op_add (pv 5) pe_int)) po_none)) pa_nil)))))) pss_nil)
      (pss_cons (ps_if (pt_cmpR op_eq (pv 6) pe_int (nomark _))
        (pss_cons (ps_set (i := 8) scBentRun.nd rfl (Or.inl rfl) (pe_lst (pa_cons (pe_tup (pa_cons pe_bl (pa_cons (pv 4) pa_nil))) (pa_cons (pe_tup (pa_cons (pv 3) (pa_cons (pe_callTy call_list_of (by rfl) nlist (by decide +kernel) (pa_cons (pv 4) pa_nil)) pa_nil)))
            (pa_cons (pe_lst (pa_cons (pv 3) (pa_cons (pv 4) pa_nil))) (pa_cons (pe_tup (pa_cons (pv 3) (pa_cons (pv 4) (pa_cons pe_int pa_nil)))) (pa_cons pe_non (pa_cons (pe_tup (pa_cons (pv 4) (pa_cons (pv 3) pa_nil))) pa_nil))))))))
        (pss_one (ps_ret (pe_call GC hr2 rfl mC kC bC .nil pass0 (pa_cons (pv 0) (pa_cons (pv 8) pa_nil)))))) pss_nil)
      (pss_cons (ps_if (pt_cmpR op_eq (pv 6) pe_int (nomark _)) (pss_one (ps_ret (pe_tup (pa_cons (pe_op op_addX (pv 3) pe_int) (pa_cons (pv 4) pa_nil))))) pss_nil)
      (pss_one (ps_ret (pe_call GC hr2 rfl mC kC bC .nil pass0 (pa_cons (pv 0) (pa_cons (pe_lst (pa_cons (pe_tup (pa_cons pe_int (pa_cons (pe_tup (pa_cons (pe_call GC hr2 rfl mC kC bC .nil pass0 (pa_cons (pv 0) (pa_cons (pv 1) pa_nil))) pa_nil)) pa_nil))) (pa_cons (pv 2) pa_nil))) pa_nil)))))))))))))), ?_⟩
    have h16 : sizeLine = 16777216 := sizeLine_eq
    obtain ⟨oes, zes, des, les, htm⟩ := elt_parts hE
    have hM0 : M < 2 ^ 300 := by omega
    obtain ⟨t1, t2, t3, t4⟩ := times_facts hM0 htm
    rw [t2] at zes
    cases hd with
    | tup hT hs =>
      rename_i a us
      cases hs with
      | cons pt q =>
        cases q with
        | cons pi q2 =>
          cases q2
          rename_i vt vi
          cases pi with
          | tup hU hes =>
            rename_i u ws
            have hl := hes.length
            have hd : DV K (er H fo) (.ref a) (.tuple [t, .tuple es]) := .tup hT (.cons pt (.cons (.tup hU hes) .nil))
            have nfd : fo ≠ d := by
              obtain ⟨x, y, hd2, _⟩ := D
              exact ne_of hfo hd2 (fun z => by cases z)
            have De : DeckAt (er H fo) d := er_deck hfo D
            have fo' : ∀ {H' : Hp}, But d H H' → H' fo = some (.lst xf) := fun B => B _ _ nfd hfo
            have eT : ∀ {H' : Hp} {p : Addr} {xs : List V}, But d H H' → SqT K H' p xs → SqT K (er H' fo) p xs := fun B h => er_tq (fo' B) h
            have eD : ∀ {H' : Hp}, But d H H' → DeckAt H' d → DeckAt (er H' fo) d := fun B D => er_deck (fo' B) D
            have hT' : SqT K H a [vt, .ref u] := Same.tq er_le hT
            have hU' : SqT K H u ws := Same.tq er_le hU
            refine ⟨_, rfl, a, _, rfl, hT', rfl, vt, [.ref u], rfl, .ref u, [], rfl, rfl, ?_⟩
            have hpos : 0 < es.length := List.length_pos_iff.mpr hne
            refine ⟨_, rfl, _, rfl, u, ws, rfl, .inr hU', d, ws.length, rfl, D, by omega, by omega, fun z H3 z0 z1 D3 B3 => ?_⟩
            obtain ⟨i, rfl⟩ : ∃ m : Nat, z = (m : Int) := ⟨z.toNat, by omega⟩
            refine ⟨_, rfl, d, 11, rfl, D3, by decide, by decide, fun wy H4 w0 w1 D4 B4 => ⟨_, _, rfl, ?_⟩⟩
            have B4' : But d H H4 := B3.trans B4
            have hU4 : SqT K H4 u ws := B4'.tq D hU'
            have hs4 : DVs K (er H4 fo) ws es := DVs.but De (er_but B4') hes
            have pt4 : DV K (er H4 fo) vt t := pt.but De (er_but B4')
            have hi : i < es.length := by omega
            obtain ⟨x, hx⟩ : ∃ x, es[i]? = some x := ⟨_, List.getElem?_eq_getElem hi⟩
            have hpart := parted hx
            obtain ⟨A, hA⟩ : ∃ A, A = es.take i := ⟨_, rfl⟩
            obtain ⟨B, hB⟩ : ∃ B, B = es.drop (i + 1) := ⟨_, rfl⟩
            rw [← hA, ← hB] at hpart
            have tk1 : es.take (i + 1) = A ++ [x] := by rw [hA]; exact take_snoc hx
            have dr0 : es.drop i = x :: B := by
              rw [hB, List.drop_eq_getElem_cons hi]
              rw [List.getElem?_eq_getElem hi] at hx
              rw [Option.some.inj hx]
            have hok2 := oes
            have hsz2 : szWs es = szWs A + (szW x + 2 + szWs B) := by rw [hpart, szWs_app, szWs]
            have hdp2 : PyData.depthAll es = max (PyData.depthAll A) (max x.depth (PyData.depthAll B)) := by rw [hpart, depthAll_append, PyData.depthAll]
            have hln2 : es.length = A.length + (B.length + 1) := by rw [hpart, List.length_append, List.length_cons]
            rw [hpart, okWs_app, okWs, Bool.and_eq_true, Bool.and_eq_true] at hok2
            obtain ⟨oA, ox, oB⟩ := hok2
            have c1 : ∀ (m : Nat), cutV ws none (some (m : Int)) = ws.take m := cut_to ws
            have c2 : ∀ (m : Nat), cutV ws (some (m : Int)) none = ws.drop m := cut_from ws
            have e1 : ((i : Int) + 1) = ((i + 1 : Nat) : Int) := by omega
            have lt : ∀ m : Nat, (ws.take m).length ≤ ws.length := fun m => by rw [List.length_take]; omega
            have ld : ∀ m : Nat, (ws.drop m).length ≤ ws.length := fun m => by rw [List.length_drop]; omega
            have i1 := lt i
            have i2 := lt (i + 1)
            have i3 := ld i
            have i4 := ld (i + 1)
            have hwl : ws.length ≤ 4000 := by omega
            have tM : timesOk (M + 1) t := by
              rcases htm with ⟨n, e, q⟩ | q
              · exact .inl ⟨n, e, by omega⟩
              · exact .inr q
            -- a run made
            have fin : ∀ (vt' : V) (t' : PyData) (p : Addr) (ws' : List V) (es' : List PyData) (H7 : Hp), DV K (er H7 fo) vt' t' → timesOk (M + 1) t' → SqT K H7 p ws' → DVs K (er H7 fo) ws' es' → okWs es' = true → szWs es' ≤ 2 * szWs es + 2000 → PyData.depthAll es' ≤ max (PyData.depthAll es) 3 → es'.length ≤ es.length + 1 →
                But d H H7 → DeckAt H7 d → ∀ q : Addr, H7 q = none → Q (.ref q) (upd H7 q (.tup [vt', .ref p])) := fun vt' t' p ws' es' H7 a1 a2 a3 a4 a5 a6 a7 a8 a9 a10 q hq => by
              have sq := Same.new (o := .tup [vt', V.ref p]) hq
              have B8 := a9.trans (But.of sq)
              refine k (.ref q) (.tuple [t', .tuple es']) _ (.tup (eT B8 (SqT.of upd_same)) (.cons (a1.same (er_same sq)) (.cons (.tup (eT B8 (Same.tq sq a3)) (DVs.same (er_same sq) a4)) .nil))) (elt_two hM a2 (by rw [okW]; exact a5) (by rw [szW]; omega) (by rw [PyData.depth]; omega) (fun es2 e => by cases e; omega)) (a10.same sq) (a9.trans (But.of sq))
            have oth : ∀ (v' : V) (d' : PyData) (H7 : Hp), DV K (er H7 fo) v' d' → EltD (2 * S + 3000) (L + 1) (M + 1) d' → DeckAt H7 d → But d H H7 → Q v' H7 := k
            -- way == 0
            refine ⟨_, rfl, rfl, _, rfl, ?_⟩
            refine ite2 (fun _ => ?_) (fun _ => ?_)
            · refine ⟨_, rfl, 1, rfl, ?_⟩
              rcases htm with ⟨n, rfl, hn⟩ | ⟨bb, rfl⟩
              · cases pt4
                exact .inl ⟨n, rfl, _, rfl, by show 2 ≤ sizeLine; decide, fun q hq => fin _ (.int (n - 1)) u ws es H4 (.int _) (.inl ⟨_, rfl, by omega⟩) hU4 hs4 oes (by omega) (by omega) (by omega) B4' D4 q hq⟩
              · cases pt4
                exact .inr ⟨bb, rfl, _, rfl, by show 2 ≤ sizeLine; decide, fun q hq => fin _ (.int ((if bb = true then 1 else 0) - 1)) u ws es H4 (.int _) (.inl ⟨_, rfl, by split <;> omega⟩) hU4 hs4 oes (by omega) (by omega) (by omega) B4' D4 q hq⟩
            -- way == 1
            refine ⟨_, rfl, rfl, _, rfl, ?_⟩
            refine ite2 (fun _ => ?_) (fun _ => ?_)
            · refine ⟨_, rfl, _, rfl, _, rfl, _, rfl, u, ws, rfl, hU4, fun p5 H5 s5 hp5 => ?_⟩
              refine ⟨_, rfl, ⟨_, rfl, _, _, rfl, rfl, _, rfl, ⟨u, ws, rfl, Same.tq s5 hU4, fun p6 H6 s6 hp6 => ?_⟩⟩⟩
              rw [c1] at hp5
              rw [e1, c2] at hp6
              refine ⟨p5, p6, _, _, rfl, rfl, Same.tq s6 hp5, hp6, by omega, fun p7 H7 s7 hp7 => ?_⟩
              have st := (s5.trans s6).trans s7
              refine ⟨by show 2 ≤ sizeLine; decide, fun q hq => fin vt t p7 _ (A ++ B) H7 (pt4.same (er_same st)) tM hp7 ?_ ?_ ?_ ?_ ?_ (B4'.trans (But.of st)) (D4.same st) q hq⟩
              · rw [hA, hB]
                exact DVs.append ((DVs.same (er_same st) hs4).take i) ((DVs.same (er_same st) hs4).drop (i + 1))
              · rw [okWs_app, oA, oB]; rfl
              · rw [szWs_app]; omega
              · rw [depthAll_append]; omega
              · rw [List.length_append]; omega
            -- way == 2
            refine ⟨_, rfl, rfl, _, rfl, ?_⟩
            refine ite2 (fun _ => ?_) (fun _ => ?_)
            · refine ⟨_, rfl, _, rfl, _, rfl, _, rfl, u, ws, rfl, hU4, fun p5 H5 s5 hp5 => ?_⟩
              rw [c1] at hp5
              have D5 := D4.same s5
              have B5 := B4'.trans (But.of s5)
              refine ⟨_, rfl, _, rfl, d, b, bs.map V.int, rfl, D5, B5.seq D hb, (fun z => hbne (List.map_eq_nil_iff.mp z)), (by rw [List.length_map]; omega), fun y H6 hy D6 B6 => ?_⟩
              obtain ⟨y0, hy0, rfl⟩ := List.mem_map.mp hy
              have hyb := hbb y0 hy0
              refine ⟨by show 1 ≤ sizeLine; omega, fun t0 ht0 => ?_⟩
              have s7 := Same.new (o := .tup [V.int y0]) ht0
              have hp5' := Same.tq s7 (B6.tq D5 hp5)
              refine ⟨p5, t0, _, _, rfl, rfl, hp5', SqT.of upd_same, by show _ + 1 ≤ _; omega, fun p8 H8 s8 hp8 => ?_⟩
              have B8 : But d H4 H8 := ((But.of s5).trans B6).trans (But.of (s7.trans s8))
              refine ⟨_, rfl, ⟨_, rfl, _, rfl, ⟨u, ws, rfl, B8.tq D4 hU4, fun p9 H9 s9 hp9 => ?_⟩⟩⟩
              rw [c2] at hp9
              refine ⟨p8, p9, _, _, rfl, rfl, Same.tq s9 hp8, hp9, by rw [List.length_append]; show _ + 1 + _ ≤ _; omega, fun p10 H10 s10 hp10 => ?_⟩
              have st := s9.trans s10
              have B10 : But d H4 H10 := B8.trans (But.of st)
              have hs10 := DVs.but (eD B4' D4) (er_but B10) hs4
              have oy : okW (.int y0) = true := by rw [okW]; exact decide_eq_true (small_abs (by omega) (by omega))
              refine ⟨by show 2 ≤ sizeLine; decide, fun q hq => fin vt t p10 _ (A ++ [.int y0] ++ x :: B) H10 (pt4.but (eD B4' D4) (er_but B10)) tM hp10 ?_ ?_ ?_ ?_ ?_ (B4'.trans B10) (D6.same (s7.trans (s8.trans st))) q hq⟩
              · rw [hA, ← dr0]
                exact DVs.append (DVs.append (hs10.take i) (.cons (.int _) .nil)) (hs10.drop i)
              · rw [okWs_app, okWs_app, okWs, okWs, okWs, oA, ox, oB, oy]; rfl
              · rw [szWs_app, szWs_app, szWs, szWs, szWs, szW]; omega
              · rw [depthAll_append, depthAll_append, PyData.depthAll, PyData.depthAll, PyData.depthAll, show (PyData.int y0).depth = 0 by rw [PyData.depth]]; omega
              · simp only [List.length_append, List.length_cons, List.length_nil]; omega
            -- way == 3
            refine ⟨_, rfl, rfl, _, rfl, ?_⟩
            refine ite2 (fun _ => ?_) (fun _ => ?_)
            · refine ⟨_, rfl, _, rfl, _, rfl, _, rfl, u, ws, rfl, hU4, rfl, rfl, rfl, fun p5 H5 s5 hp5 => ?_⟩
              refine ⟨by show 2 ≤ sizeLine; decide, fun q hq => fin vt t p5 _ es.reverse H5 (pt4.same (er_same s5)) tM hp5 (DVs.rev (DVs.same (er_same s5) hs4)) (by rw [okWs_rev]; exact oes) (by rw [szWs_rev]; omega) (by rw [depA_rev]; omega) (by rw [List.length_reverse]; omega) (B4'.trans (But.of s5)) (D4.same s5) q hq⟩
            -- way == 4
            refine ⟨_, rfl, rfl, _, rfl, ?_⟩
            refine ite2 (fun _ => ?_) (fun _ => ?_)
            · refine ⟨_, rfl, _, rfl, _, rfl, _, _, rfl, rfl, _, rfl, u, ws, rfl, hU4, fun p5 H5 s5 hp5 => ?_⟩
              refine ⟨_, rfl, ⟨_, rfl, _, rfl, ⟨u, ws, rfl, Same.tq s5 hU4, fun p6 H6 s6 hp6 => ?_⟩⟩⟩
              rw [e1, c1] at hp5
              rw [c2] at hp6
              refine ⟨p5, p6, _, _, rfl, rfl, Same.tq s6 hp5, hp6, by omega, fun p7 H7 s7 hp7 => ?_⟩
              have st := (s5.trans s6).trans s7
              refine ⟨by show 2 ≤ sizeLine; decide, fun q hq => fin vt t p7 _ (A ++ [x] ++ x :: B) H7 (pt4.same (er_same st)) tM hp7 ?_ ?_ ?_ ?_ ?_ (B4'.trans (But.of st)) (D4.same st) q hq⟩
              · rw [← tk1, ← dr0]
                exact DVs.append ((DVs.same (er_same st) hs4).take (i + 1)) ((DVs.same (er_same st) hs4).drop i)
              · rw [okWs_app, okWs_app, okWs, okWs, okWs, oA, ox, oB]; rfl
              · rw [szWs_app, szWs_app, szWs, szWs, szWs]; omega
              · rw [depthAll_append, depthAll_append, PyData.depthAll, PyData.depthAll, PyData.depthAll]; omega
              · simp only [List.length_append, List.length_cons, List.length_nil]; omega
            -- way == 5
            refine ⟨_, rfl, rfl, _, rfl, ?_⟩
            refine ite2 (fun _ => ?_) (fun _ => ?_)
            · have cp6 : CPow 10 6 := ⟨by decide, by decide, by decide⟩
              refine ⟨_, rfl, by show 1 ≤ sizeLine; decide, fun q1 h1 => ?_⟩
              refine ⟨_, _, rfl, rfl, cp6, by show 1 ≤ sizeLine; decide, fun q2 h2 => ?_⟩
              intro q3 h3
              refine ⟨by show 8 ≤ sizeLine; decide, fun q4 h4 => ?_⟩
              have u1 := Same.new (o := .tup [V.int 1]) h1
              have u2 := Same.new (o := .lst [V.int 5]) h2
              have u3 := Same.new (o := .dK []) h3
              have u4 := Same.new (o := .lst [V.int 0, .bl true, .non, .str "1", .ref q1, .int (10 ^ (6 : Int).toNat), .ref q2, .ref q3]) h4
              have w4 := u4
              have w3 := u3.trans w4
              have w2 := u2.trans w3
              have w1 := u1.trans w2
              have a1 := w2 _ _ (upd_same (H := H4) (a := q1) (o := .tup [V.int 1]))
              have D4' := D4.same (u1.trans w2)
              refine ⟨d, q4, _, rfl, D4', SqL.of upd_same, (fun z => by cases z), (by show 8 < 1000000; decide), fun y H6 hy D6 B6 => ?_⟩
              -- other
              obtain ⟨dy, hyd, yo, yz, yd⟩ : ∃ dy, DV K (er H6 fo) y dy ∧ okW dy = true ∧ szW dy ≤ 700 ∧ dy.depth ≤ 2 := by
                have B66 : But d H H6 := B4'.trans ((But.of (u1.trans w2)).trans B6)
                have g1 : SqT K (er H6 fo) q1 [V.int 1] := eT B66 (B6.tq D4' (SqT.of (w2 _ _ upd_same)))
                have f4 : H4 fo = some (.lst xf) := fo' B4'
                have g2 : er H6 fo q2 = some (.lst [V.int 5]) := er_at (B6.lst D4' (w3 _ _ upd_same)) (ne_of_none (u1 _ _ f4) h2).symm
                have n3 : q3 ≠ d := fun e => by
                  obtain ⟨x, y, hd3, _⟩ := D4.same (u1.trans u2)
                  rw [← e, h3] at hd3
                  cases hd3
                have g3 : er H6 fo q3 = some (.dK []) := er_at (B6 _ _ n3 (w4 _ _ upd_same)) (ne_of_none (u2 _ _ (u1 _ _ f4)) h3).symm
                have z6 : (10 ^ (6 : Int).toNat : Int) = 1000000 := by decide
                rcases List.mem_cons.mp hy with rfl | hy
                · exact ⟨.int 0, .int _, by decide, by decide, by decide⟩
                rcases List.mem_cons.mp hy with rfl | hy
                · exact ⟨.bool true, .bl _, by decide, by decide, by decide⟩
                rcases List.mem_cons.mp hy with rfl | hy
                · exact ⟨.none, .non, by decide, by decide, by decide⟩
                rcases List.mem_cons.mp hy with rfl | hy
                · exact ⟨.str "1", .str _, by decide, by decide +kernel, by decide⟩
                rcases List.mem_cons.mp hy with rfl | hy
                · exact ⟨.tuple [.int 1], .tup g1 (.cons (.int _) .nil), by decide, by decide, by decide⟩
                rcases List.mem_cons.mp hy with rfl | hy
                · show ∃ dy, DV K (er H6 fo) (V.int (10 ^ (6 : Int).toNat)) dy ∧ _
                  rw [z6]; exact ⟨.int 1000000, .int _, by decide, by decide, by decide⟩
                rcases List.mem_cons.mp hy with rfl | hy
                · exact ⟨.list [.int 5], .lst (SqL.of g2) (.cons (.int _) .nil), by decide, by decide, by decide⟩
                rcases List.mem_cons.mp hy with rfl | hy
                · exact ⟨.dict [], .dk0 g3, by decide, by decide, by decide⟩
                · cases hy
              have B46 : But d H4 H6 := (But.of (u1.trans w2)).trans B6
              have B6' := B4'.trans B46
              refine ⟨_, rfl, _, rfl, _, rfl, _, rfl, u, ws, rfl, B46.tq D4 hU4, fun p5 H7 s7 hp5 => ?_⟩
              rw [c1] at hp5
              refine ⟨_, rfl, by show 1 ≤ sizeLine; omega, fun t0 ht0 => ?_⟩
              have s8 := Same.new (o := .tup [y]) ht0
              refine ⟨p5, t0, _, _, rfl, rfl, Same.tq s8 hp5, SqT.of upd_same, by show _ + 1 ≤ _; omega, fun p8 H8 s9 hp8 => ?_⟩
              have s68 := s7.trans (s8.trans s9)
              have B8 : But d H4 H8 := B46.trans (But.of s68)
              refine ⟨_, rfl, ⟨_, rfl, _, _, rfl, rfl, _, rfl, ⟨u, ws, rfl, B8.tq D4 hU4, fun p9 H9 s10 hp9 => ?_⟩⟩⟩
              rw [e1, c2] at hp9
              refine ⟨p8, p9, _, _, rfl, rfl, Same.tq s10 hp8, hp9, by rw [List.length_append]; show _ + 1 + _ ≤ _; omega, fun p10 H10 s11 hp10 => ?_⟩
              have st := s10.trans s11
              have B10 : But d H4 H10 := B8.trans (But.of st)
              have hs10 := DVs.but (eD B4' D4) (er_but B10) hs4
              refine ⟨by show 2 ≤ sizeLine; decide, fun q hq => fin vt t p10 _ (A ++ [dy] ++ B) H10 (pt4.but (eD B4' D4) (er_but B10)) tM hp10 ?_ ?_ ?_ ?_ ?_ (B4'.trans B10) (D6.same (s68.trans st)) q hq⟩
              · rw [hA, hB]
                exact DVs.append (DVs.append (hs10.take i) (.cons (hyd.same (er_same (s68.trans st))) .nil)) (hs10.drop (i + 1))
              · rw [okWs_app, okWs_app, okWs, okWs, oA, oB, yo]; rfl
              · rw [szWs_app, szWs_app, szWs, szWs]; omega
              · rw [depthAll_append, depthAll_append, PyData.depthAll, PyData.depthAll]; omega
              · simp only [List.length_append, List.length_cons, List.length_nil]; omega
            -- way == 6
            refine ⟨_, rfl, rfl, _, rfl, ?_⟩
            refine ite2 (fun _ => ?_) (fun _ => ?_)
            · refine ⟨_, rfl, by show 2 ≤ sizeLine; decide, fun q1 h1 => ?_⟩
              have u1 := Same.new (o := .tup [V.bl true, V.ref u]) h1
              have g1 : upd H4 q1 (.tup [V.bl true, V.ref u]) q1 = some (.tup [V.bl true, V.ref u]) := upd_same
              generalize (upd H4 q1 (.tup [V.bl true, V.ref u]) : Hp) = Ha at u1 g1 ⊢
              refine ⟨_, rfl, _, rfl, u, ws, rfl, .inr (Same.tq u1 hU4), fun q2 h2 => ?_⟩
              have u2 := Same.new (o := .lst ws) h2
              have g2 : upd Ha q2 (.lst ws) q2 = some (.lst ws) := upd_same
              generalize (upd Ha q2 (.lst ws) : Hp) = Hb at u2 g2 ⊢
              refine ⟨by show 2 ≤ sizeLine; decide, fun q3 h3 => ?_⟩
              have u3 := Same.new (o := .tup [vt, V.ref q2]) h3
              have g3 : upd Hb q3 (.tup [vt, V.ref q2]) q3 = some (.tup [vt, V.ref q2]) := upd_same
              generalize (upd Hb q3 (.tup [vt, V.ref q2]) : Hp) = Hc at u3 g3 ⊢
              refine ⟨_, rfl, _, rfl, by show 2 ≤ sizeLine; decide, fun q4 h4 => ?_⟩
              have u4 := Same.new (o := .lst [vt, V.ref u]) h4
              have g4 : upd Hc q4 (.lst [vt, V.ref u]) q4 = some (.lst [vt, V.ref u]) := upd_same
              generalize (upd Hc q4 (.lst [vt, V.ref u]) : Hp) = Hd at u4 g4 ⊢
              refine ⟨_, rfl, _, rfl, by show 3 ≤ sizeLine; decide, fun q5 h5 => ?_⟩
              have u5 := Same.new (o := .tup [vt, V.ref u, V.int 1]) h5
              have g5 : upd Hd q5 (.tup [vt, V.ref u, V.int 1]) q5 = some (.tup [vt, V.ref u, V.int 1]) := upd_same
              generalize (upd Hd q5 (.tup [vt, V.ref u, V.int 1]) : Hp) = He at u5 g5 ⊢
              refine ⟨_, rfl, _, rfl, by show 2 ≤ sizeLine; decide, fun q6 h6 => ?_⟩
              have u6 := Same.new (o := .tup [V.ref u, vt]) h6
              have g6 : upd He q6 (.tup [V.ref u, vt]) q6 = some (.tup [V.ref u, vt]) := upd_same
              generalize (upd He q6 (.tup [V.ref u, vt]) : Hp) = Hf at u6 g6 ⊢
              refine ⟨by show 6 ≤ sizeLine; decide, fun q7 h7 => ?_⟩
              have u7 := Same.new (o := .lst [V.ref q1, .ref q3, .ref q4, .ref q5, .non, .ref q6]) h7
              have g7 : upd Hf q7 (.lst [V.ref q1, .ref q3, .ref q4, .ref q5, .non, .ref q6]) q7 = some (.lst [V.ref q1, .ref q3, .ref q4, .ref q5, .non, .ref q6]) := upd_same
              generalize (upd Hf q7 (.lst [V.ref q1, .ref q3, .ref q4, .ref q5, .non, .ref q6]) : Hp) = Hg at u7 g7 ⊢
              have s6 := u7
              have s5' := u6.trans s6
              have s4' := u5.trans s5'
              have s3' := u4.trans s4'
              have s2' := u3.trans s3'
              have s1' := u2.trans s2'
              have s0' := u1.trans s1'
              have Dg := D4.same s0'
              have Bg := B4'.trans (But.of s0')
              refine ⟨_, rfl, _, rfl, d, q7, _, rfl, Dg, SqL.of g7, (fun z => by cases z), (by show 6 < 1000000; decide), fun y Hh hy Dh Bh => ?_⟩
              have Bz : But d H4 Hh := (But.of s0').trans Bh
              have hUh : SqT K Hh u ws := Bz.tq D4 hU4
              have hsh : DVs K (er Hh fo) ws es := DVs.but (eD B4' D4) (er_but Bz) hs4
              have pth : DV K (er Hh fo) vt t := pt4.but (eD B4' D4) (er_but Bz)
              have Bhh : But d H Hh := Bg.trans Bh
              have hUe : SqT K (er Hh fo) u ws := eT Bhh hUh
              have f4 : H4 fo = some (.lst xf) := fo' B4'
              have n2 : q2 ≠ fo := (ne_of_none (u1 _ _ f4) h2).symm
              have n4 : q4 ≠ fo := (ne_of_none (u3 _ _ (u2 _ _ (u1 _ _ f4))) h4).symm
              have big : EltD S L M (.tuple [t, .tuple es]) := hE
              obtain ⟨dy, hyd, hyE⟩ : ∃ dy, DV K (er Hh fo) y dy ∧ EltD (2 * S + 3000) (L + 1) (M + 1) dy := by
                rcases List.mem_cons.mp hy with rfl | hy
                · exact ⟨.tuple [.bool true, .tuple es], .tup (eT Bhh (Bh.tq Dg (SqT.of (s1' _ _ g1)))) (.cons (.bl _) (.cons (.tup hUe hsh) .nil)), elt_two hM (.inr ⟨_, rfl⟩) (by rw [okW]; exact oes) (by rw [szW]; omega) (by rw [PyData.depth]; omega) (fun es2 e => by cases e; omega)⟩
                rcases List.mem_cons.mp hy with rfl | hy
                · exact ⟨.tuple [t, .list es], .tup (eT Bhh (Bh.tq Dg (SqT.of (s3' _ _ g3)))) (.cons pth (.cons (.lst (SqL.of (er_at (Bh.lst Dg (s2' _ _ g2)) n2)) hsh) .nil)), elt_two hM tM (by rw [okW]; exact oes) (by rw [szW]; omega) (by rw [PyData.depth]; omega) (fun es2 e => by cases e)⟩
                rcases List.mem_cons.mp hy with rfl | hy
                · refine ⟨.list [t, .tuple es], .lst (SqL.of (er_at (Bh.lst Dg (s4' _ _ g4)) n4)) (.cons pth (.cons (.tup hUe hsh) .nil)), ?_, ?_, ?_, fun _ _ e => by cases e⟩
                  · rw [okW, okWs, okWs, okWs, okW, t1, oes]; rfl
                  · rw [szW, szWs, szWs, szWs, szW]; omega
                  · rw [PyData.depth, PyData.depthAll, PyData.depthAll, PyData.depthAll, t3, show (PyData.tuple es).depth = PyData.depthAll es + 1 by rw [PyData.depth]]; omega
                rcases List.mem_cons.mp hy with rfl | hy
                · refine ⟨.tuple [t, .tuple es, .int 1], .tup (eT Bhh (Bh.tq Dg (SqT.of (s5' _ _ g5)))) (.cons pth (.cons (.tup hUe hsh) (.cons (.int _) .nil))), ?_, ?_, ?_, fun _ _ e => by cases e⟩
                  · rw [okW, okWs, okWs, okWs, okWs, okW, okW, t1, oes]; rfl
                  · rw [szW, szWs, szWs, szWs, szWs, szW, szW]; omega
                  · rw [PyData.depth, PyData.depthAll, PyData.depthAll, PyData.depthAll, PyData.depthAll, t3, show (PyData.tuple es).depth = PyData.depthAll es + 1 by rw [PyData.depth], show (PyData.int 1).depth = 0 by rw [PyData.depth]]; omega
                rcases List.mem_cons.mp hy with rfl | hy
                · exact ⟨.none, .non, by decide, by rw [szW]; omega, by decide, fun _ _ e => by cases e⟩
                rcases List.mem_cons.mp hy with rfl | hy
                · refine ⟨.tuple [.tuple es, t], .tup (eT Bhh (Bh.tq Dg (SqT.of (s6 _ _ g6)))) (.cons (.tup hUe hsh) (.cons pth .nil)), ?_, ?_, ?_, fun t' es' e => ?_⟩
                  · rw [okW, okWs, okWs, okWs, okW, t1, oes]; rfl
                  · rw [szW, szWs, szWs, szWs, szW]; omega
                  · rw [PyData.depth, PyData.depthAll, PyData.depthAll, PyData.depthAll, t3, show (PyData.tuple es).depth = PyData.depthAll es + 1 by rw [PyData.depth]]; omega
                  · injection e with e
                    injection e with _ e
                    injection e with e _
                    exact absurd e (t4 es')
                · cases hy
              exact k y dy Hh hyd hyE Dh (Bg.trans Bh)
            -- way == 7
            refine ⟨_, rfl, rfl, _, rfl, ?_⟩
            refine ite2 (fun _ => ?_) (fun _ => ?_)
            · refine ⟨_, rfl, 1, rfl, ?_⟩
              rcases htm with ⟨n, rfl, hn⟩ | ⟨bb, rfl⟩
              · cases pt4
                exact .inl ⟨n, rfl, _, rfl, by show 2 ≤ sizeLine; decide, fun q hq => fin _ (.int (n + 1)) u ws es H4 (.int _) (.inl ⟨_, rfl, by omega⟩) hU4 hs4 oes (by omega) (by omega) (by omega) B4' D4 q hq⟩
              · cases pt4
                exact .inr ⟨bb, rfl, _, rfl, by show 2 ≤ sizeLine; decide, fun q hq => fin _ (.int ((if bb = true then 1 else 0) + 1)) u ws es H4 (.int _) (.inl ⟨_, rfl, by split <;> omega⟩) hU4 hs4 oes (by omega) (by omega) (by omega) B4' D4 q hq⟩
            -- or a run of one id, or the run
            · have hb4 := B4'.seq D hb
              refine ⟨_, rfl, _, rfl, _, rfl, d, b, bs.map V.int, rfl, D4, hb4, (fun z => hbne (List.map_eq_nil_iff.mp z)), (by rw [List.length_map]; omega), fun y H6 hy D6 B6 => ?_⟩
              obtain ⟨y0, hy0, rfl⟩ := List.mem_map.mp hy
              have hyb := hbb y0 hy0
              refine ⟨by show 1 ≤ sizeLine; decide, fun q1 h1 => ?_⟩
              have u1 := Same.new (o := .tup [V.int y0]) h1
              have g1 : upd H6 q1 (.tup [V.int y0]) q1 = some (.tup [V.int y0]) := upd_same
              generalize (upd H6 q1 (.tup [V.int y0]) : Hp) = Ha at u1 g1 ⊢
              refine ⟨by show 2 ≤ sizeLine; decide, fun q2 h2 => ?_⟩
              have u2 := Same.new (o := .tup [V.int 1, V.ref q1]) h2
              have g2 : upd Ha q2 (.tup [V.int 1, V.ref q1]) q2 = some (.tup [V.int 1, V.ref q1]) := upd_same
              generalize (upd Ha q2 (.tup [V.int 1, V.ref q1]) : Hp) = Hb at u2 g2 ⊢
              refine ⟨_, rfl, by show 2 ≤ sizeLine; decide, fun q3 h3 => ?_⟩
              have u3 := Same.new (o := .lst [V.ref q2, .ref a]) h3
              have g3 : upd Hb q3 (.lst [V.ref q2, .ref a]) q3 = some (.lst [V.ref q2, .ref a]) := upd_same
              generalize (upd Hb q3 (.lst [V.ref q2, .ref a]) : Hp) = Hc at u3 g3 ⊢
              have s13 := u1.trans (u2.trans u3)
              have Dc := D6.same s13
              have Bc := (B4'.trans B6).trans (But.of s13)
              refine ⟨d, q3, _, rfl, Dc, SqL.of g3, (fun z => by cases z), (by show 2 < 1000000; decide), fun y Hh hy Dh Bh => ?_⟩
              have Bz := Bc.trans Bh
              rcases List.mem_cons.mp hy with rfl | hy
              · refine k _ (.tuple [.int 1, .tuple [.int y0]]) Hh (.tup (eT Bz (Bh.tq Dc (SqT.of (u3 _ _ g2)))) (.cons (.int _) (.cons (.tup (eT Bz (Bh.tq Dc (SqT.of (u3 _ _ (u2 _ _ g1))))) (.cons (.int _) .nil)) .nil))) (elt_two hM (.inl ⟨1, rfl, by show (1 : Int).natAbs ≤ M + 1; have : (1 : Int).natAbs = 1 := rfl; omega⟩) ?_ ?_ (by rw [PyData.depth, PyData.depthAll, PyData.depthAll, PyData.depth]; omega) (fun es2 e => by cases e; show 1 ≤ L + 1; omega)) Dh Bz
                · rw [okW, okWs, okWs, okW, decide_eq_true (small_abs (z := y0) (by omega) (by omega))]; rfl
                · rw [szW, szWs, szWs, szW]; omega
              rcases List.mem_cons.mp hy with rfl | hy
              · exact k _ _ Hh (hd.but De (er_but Bz)) (hE.mono (by omega) (by omega) (by omega)) Dh Bz
              · cases hy
end
/-! ### _law_bent_cover -/
theorem seqIndex_natC {k n : Nat} (h : k < n) : seqIndex? (k : Int) n = some k := by
  unfold seqIndex?
  have h1 : ¬ ((k : Int) < 0) := by omega
  simp only [h1, if_false]
  have h2 : (decide (0 ≤ (k : Int)) && decide ((k : Int) < (n : Int))) = true := by
    rw [Bool.and_eq_true]
    exact ⟨decide_eq_true (by omega), decide_eq_true (by omega)⟩
  rw [if_pos h2]
  simp
def gS (S : Nat) : Nat → Nat
  | 0 => S
  | n + 1 => 2 * gS S n + 3000
theorem gS_up (S n : Nat) : S ≤ gS S n := by
  induction n with
  | zero => exact Nat.le_refl _
  | succ n ih => show S ≤ 2 * gS S n + 3000; omega
section
variable {P : Program} {w : World} {K : PySem.W.Frag} {mg : Str → Option Value} {base : Heap}
def spBentCov (K : PySem.W.Frag) : Sp := fun vs H Q _ => ∃ (d b c : Addr) (bs : List Int) (us : List V) (ds : List PyData) (S L M : Nat), vs = [.ref d, .ref b, .ref c] ∧ DeckAt H d ∧ SqL K H b (bs.map V.int) ∧ bs ≠ [] ∧ bs.length ≤ 300 ∧ (∀ x ∈ bs, 0 ≤ x ∧ x ≤ 1000000) ∧
  SqL K H c us ∧ DVs K H us ds ∧ (∀ e ∈ ds, EltD S L M e) ∧ ds.length ≤ 4000 ∧ 3 ≤ M ∧ M + 2 < 2 ^ 300 ∧ 1 ≤ L ∧ L + 2 ≤ 4000 ∧
  ∀ (q : Addr) (us' : List V) (ds' : List PyData) (H' : Hp), H q = none → But d H H' → DeckAt H' d → H' q = some (.lst us') → DVs K H' us' ds' → (∀ e ∈ ds', EltD (gS S 2) (L + 2) (M + 2) e) → ds'.length ≤ ds.length + 2 → Q (.ref q) H'
abbrev NBc : List Str := ["tape", "base", "cover", "found", "turn", "at", "way", "run"]
theorem scBentCov : FnScope NBc ["tape", "base", "cover"] (defScope sBentCov) := ⟨rfl, rfl, rfl, by decide +kernel, rfl, by decide +kernel, by decide +kernel⟩
theorem ok_bentCov {f fD fC fR : Addr} {fd fdD fdC fdR : FuncData} (F : Fun K "_law_bent_cover" "_law_bent_cover" sBentCov f fd) (T : TxtV mg) (nrange : mg "range" = none)
    (GD : FnOk P w K mg base CX0 1 fD fdD ["tape", "size"] spDraw) (kD : PySem.W.keepIn K (.ref fD) = true) (bD : L2.Binds K fdD ["tape", "size"] []) (mD : mg "_law_pick" = some (.ref fD))
    (GC : FnOk P w K mg base CX0 2 fC fdC ["tape", "items"] (spChoose K)) (kC : PySem.W.keepIn K (.ref fC) = true) (bC : L2.Binds K fdC ["tape", "items"] []) (mC : mg "_law_one_of" = some (.ref fC))
    (GR : FnOk P w K mg base CX0 3 fR fdR ["tape", "base", "run"] (spBentRun K)) (kR : PySem.W.keepIn K (.ref fR) = true) (bR : L2.Binds K fdR ["tape", "base", "run"] []) (mR : mg "_law_bent_run" = some (.ref fR)) :
    FnOk P w K mg base CX0 4 f fd ["tape", "base", "cover"] (spBentCov K) := by
  refine F.ok scBentCov (fun vs H Q E h => ?_) (fun cdv A outer s H vs Q E hr h => ?_)
  · obtain ⟨d, b, c, bs, us, ds, S, L, M, rfl, _⟩ := h
    rfl
  · obtain ⟨d, b, c, bs, us, ds, S, L, M, rfl, D, hb, hbne, lb, hbb, hc, hdv, hE, hdl, hM3, hM, hL1, hL4, k⟩ := h
    have hr1 : Room 1 _ := hr.mono (by decide)
    have hr2 : Room 2 _ := hr.mono (by decide)
    have hr3 : Room 3 _ := hr.mono (by decide)
    have h64 := hu64 hr
    have hu0 := Nat.lt_of_le_of_lt (Nat.le_add_right _ 64) h64
    refine ⟨_, pss_cons (ps_set (i := 3) scBentCov.nd rfl (Or.inl rfl) (pe_callTy call_list_of (by rfl) T.list (by decide +kernel) (pa_cons (pv 2) pa_nil)))
      (pss_cons (ps_for PassesOwn.never rfl (pi_range1 rfl nrange (pa_cons (pe_op op_add pe_int (pe_call GD hr1 rfl mD kD bD .nil pass0 (pa_cons (pv 0) (pa_cons pe_int pa_nil)))) pa_nil)) (pg_name (i := 4) scBentCov.nd rfl (Or.inl rfl))
        (pss_cons (ps_par (i := 5) (j := 6) (by rfl) scBentCov.nd rfl rfl (by decide) rfl rfl (pa_cons (pe_call GD hr1 rfl mD kD bD .nil pass0 (pa_cons (pv 0) (pa_cons (pe_op op_add (pe_callB call_len_seq (by rfl) T.len PySem.boot_len (pa_cons (pv 3) pa_nil)) pe_int) pa_nil)))
            (pa_cons (pe_call GD hr1 rfl mD kD bD .nil pass0 (pa_cons (pv 0) (pa_cons pe_int pa_nil))) pa_nil)) (by rfl))
        (pss_one (ps_if (PW.pt (pw_or (pt_cmpR (op_eqL0 hu0) (pv 3) (pe_lst pa_nil) (nomark _)) (pw_or1 (pt_cmpR op_eq (pv 6) pe_int (nomark _)))))
          (pss_one (ps_expr (pe_bm PySem.F.plainAttrs_list PySem.F.slot_list_insert PySem.F.type_list_insert mt_insert (pv 3) (pa_cons (pv 5) (pa_cons (pe_tup (pa_cons (pe_op op_add pe_int (pe_call GD hr1 rfl mD kD bD .nil pass0 (pa_cons (pv 0) (pa_cons pe_int pa_nil))))
              (pa_cons (pe_tup (pa_cons (pe_call GC hr2 rfl mC kC bC .nil pass0 (pa_cons (pv 0) (pa_cons (pv 1) pa_nil))) pa_nil)) pa_nil))) pa_nil)))))
          (pss_one (ps_if (pt_cmpR op_eq (pv 6) pe_int (nomark _))
            (pss_one (ps_expr (pe_bm PySem.F.plainAttrs_list PySem.F.slot_list_pop PySem.F.type_list_pop mt_popAt (pv 3) (pa_cons (pe_op op_mod (pv 5) (pe_callB call_len_seq (by rfl) T.len PySem.boot_len (pa_cons (pv 3) pa_nil))) pa_nil))))
            (pss_one (ps_if (pt_cmpR op_eq (pv 6) pe_int (nomark _))
              (pss_one (ps_expr (pe_bm PySem.F.plainAttrs_list PySem.F.slot_list_insert PySem.F.type_list_insert mt_insert (pv 3) (pa_cons (pv 5) (pa_cons (pe_ix ix_list (pv 3) (pe_op op_mod (pv 5) (pe_callB call_len_seq (by rfl) T.len PySem.boot_len (pa_cons (pv 3) pa_nil))) (fun _ _ => rfl)) pa_nil)))))
              (pss_cons (ps_set (i := 7) scBentCov.nd rfl (Or.inl rfl) (pe_bm PySem.F.plainAttrs_list PySem.F.slot_list_pop PySem.F.type_list_pop mt_popAt (pv 3) (pa_cons (pe_op op_mod (pv 5) (pe_callB call_len_seq (by rfl) T.len PySem.boot_len (pa_cons (pv 3) pa_nil))) pa_nil)))
              (pss_cons (ps_if (PW.pt (pw_or (pt_not (pt_val (pe_callB call_isi (by rfl) T.isi (by decide +kernel) (pa_cons (pv 7) (pa_cons (pe_bltn (v := .ty "tuple") (by rfl) T.tuple boot_tuple rfl) pa_nil)))))
                  (pw_or1 (pt_cmpR op_ne (pe_callB call_len_seq (by rfl) T.len PySem.boot_len (pa_cons (pv 7) pa_nil)) pe_int (nomark _))))) (pss_one ps_continue) pss_nil)
              (pss_cons (ps_if (PW.pt (pw_or (pt_not (pt_val (pe_callB call_isi (by rfl) T.isi (by decide +kernel) (pa_cons (pe_ix ix_tup (pv 7) pe_int (fun _ _ => rfl)) (pa_cons (pe_bltn (v := .ty "tuple") (by rfl) T.tuple boot_tuple rfl) pa_nil)))))
                  (pw_or1 (pt_cmpR (op_eqT0 hu0) (pe_ix ix_tup (pv 7) pe_int (fun _ _ => rfl)) (pe_tup pa_nil) (nomark _))))) (pss_one ps_continue) pss_nil)
              (pss_one (ps_expr (pe_bm PySem.F.plainAttrs_list PySem.F.slot_list_insert PySem.F.type_list_insert mt_insert (pv 3) (pa_cons (pv 5) (pa_cons (pe_call GR hr3 rfl mR kR bR .nil pass0 (pa_cons (pv 0) (pa_cons (pv 1) (pa_cons (pv 7) pa_nil)))) pa_nil))))))))))))))))
      (pss_one (ps_ret (pv 3)))), ?_⟩
    have h16 : sizeLine = 16777216 := sizeLine_eq
    refine ⟨_, rfl, c, us, rfl, .inl hc, fun fo hfo => ?_⟩
    have s0 := Same.new (o := .lst us) hfo
    have hF0 : upd H fo (.lst us) fo = some (.lst us) := upd_same
    have D0 := D.same s0
    have hdv0 : DVs K (er (upd H fo (.lst us)) fo) us ds := DVs.same (er_of s0 hfo) hdv
    generalize (upd H fo (.lst us) : Hp) = H0 at s0 hF0 D0 hdv0 ⊢
    have nfd : fo ≠ d := fun e => by
      obtain ⟨x, y, hd2, _⟩ := D
      rw [← e, hfo] at hd2
      cases hd2
    obtain ⟨St, hSt⟩ : ∃ St : Nat → Hp → Prop, St = fun i H' => But d H H' ∧ DeckAt H' d ∧ ∃ us' ds', H' fo = some (.lst us') ∧ DVs K (er H' fo) us' ds' ∧ (∀ e ∈ ds', EltD (gS S i) (L + i) (M + i) e) ∧ ds'.length ≤ ds.length + i := ⟨_, rfl⟩
    have put : ∀ (i : Nat) (H1 : Hp) (us1 us2 : List V) (ds2 : List PyData), But d H H1 → DeckAt H1 d → H1 fo = some (.lst us1) → DVs K (er H1 fo) us2 ds2 → (∀ e ∈ ds2, EltD (gS S (i + 1)) (L + (i + 1)) (M + (i + 1)) e) → ds2.length ≤ ds.length + (i + 1) → St (i + 1) (upd H1 fo (.lst us2)) := fun i H1 us1 us2 ds2 B1 D1 h1 dv he hl => by
      rw [hSt]
      refine ⟨fun u o hb2 z => by rw [upd_ne (ne_of_none z hfo)]; exact B1 u o hb2 z, ?_, us2, ds2, upd_same, by rw [er_upd]; exact dv, he, hl⟩
      obtain ⟨x, y, hd, r⟩ := D1
      exact ⟨x, y, by rw [upd_ne nfd.symm]; exact hd, r⟩
    have st0 : St 0 H0 := by
      rw [hSt]
      exact ⟨But.of s0, D0, us, ds, hF0, hdv0, hE, by omega⟩
    -- how many turns
    refine ⟨_, rfl, d, 2, rfl, D0, by decide, by decide, fun r1 H1 r10 r11 D1 B1 => ?_⟩
    have st1 : St 0 H1 := by
      rw [hSt]
      exact ⟨(But.of s0).trans B1, D1, us, ds, B1.lst D0 hF0, DVs.but (er_deck hF0 D0) (er_but B1) hdv0, hE, by omega⟩
    obtain ⟨m1, rfl⟩ : ∃ m : Nat, r1 = (m : Int) := ⟨r1.toNat, by omega⟩
    refine ⟨_, _, rfl, rfl, 1 + (m1 : Int), rfl, by omega, by omega, ?_⟩
    refine for_range (lo := 0) (n := 1 + m1) (fun i σ H' => (∃ v4 v5 v6 v7 : Option V, σ = [some (.ref d), some (.ref b), some (.ref c), some (.ref fo), v4, v5, v6, v7]) ∧ St i H') ⟨⟨none, none, none, none, rfl⟩, st1⟩ ?_ ?_
    · rintro i σ H2 hi ⟨⟨v4, v5, v6, v7, rfl⟩, hs2⟩
      rw [hSt] at hs2
      obtain ⟨B2, D2, us2, ds2, hF2, dv2, he2, hl2⟩ := hs2
      have hul : us2.length = ds2.length := dv2.length
      have hup : ∀ e ∈ ds2, EltD (gS S (i + 1)) (L + (i + 1)) (M + (i + 1)) e := fun e hm => (he2 e hm).mono (by show gS S i ≤ 2 * gS S i + 3000; omega) (by omega) (by omega)
      -- at, way
      refine ⟨_, rfl, _, rfl, fo, us2, rfl, .inl (SqL.of hF2), _, _, rfl, rfl, d, us2.length + 1, rfl, D2, by omega, by omega, fun z H3 z0 z1 D3 B3 => ?_⟩
      obtain ⟨a, rfl⟩ : ∃ m : Nat, z = (m : Int) := ⟨z.toNat, by omega⟩
      refine ⟨_, rfl, d, 6, rfl, D3, by decide, by decide, fun wy H4 w0 w1 D4 B4 => ⟨_, _, rfl, ?_⟩⟩
      have B34 := B3.trans B4
      have hF4 : H4 fo = some (.lst us2) := B34.lst D2 hF2
      have dv4 : DVs K (er H4 fo) us2 ds2 := DVs.but (er_deck hF2 D2) (er_but B34) dv2
      have BH4 := B2.trans B34
      have hb4 := BH4.seq D hb
      have ins : ∀ (us1 : List V) (ds1 : List PyData) (H7 : Hp) (y : V) (e : PyData), DVs K (er H7 fo) us1 ds1 → DV K (er H7 fo) y e → (∀ e ∈ ds1, EltD (gS S (i + 1)) (L + (i + 1)) (M + (i + 1)) e) → EltD (gS S (i + 1)) (L + (i + 1)) (M + (i + 1)) e → ds1.length ≤ ds.length + i → But d H H7 → DeckAt H7 d → H7 fo = some (.lst us1) → St (i + 1) (upd H7 fo (.lst (us1.take ((a : Int)).toNat ++ [y] ++ us1.drop ((a : Int)).toNat))) := fun us1 ds1 H7 y e d1 d2 g1 g2 g3 g4 g5 g6 => by
        refine put i H7 us1 _ (ds1.take a ++ [e] ++ ds1.drop a) g4 g5 g6 ?_ (fun z hz => ?_) ?_
        · rw [Int.toNat_natCast]
          exact DVs.append (DVs.append (d1.take a) (.cons d2 .nil)) (d1.drop a)
        · rcases List.mem_append.mp hz with q | q
          · rcases List.mem_append.mp q with q | q
            · exact g1 z (List.mem_of_mem_take q)
            · rw [List.mem_singleton.mp q]; exact g2
          · exact g1 z (List.mem_of_mem_drop q)
        · simp only [List.length_append, List.length_take, List.length_drop, List.length_cons, List.length_nil]; omega
      -- a new run of one id
      refine ⟨_, rfl, Nat.zero_le _, fun q0 hq0 => ?_⟩
      have sq0 := Same.new (o := .lst []) hq0
      refine ⟨fo, q0, us2, rfl, rfl, SqL.of (sq0 _ _ hF4), SqL.of upd_same, _, rfl, ?_⟩
      have D5 := D4.same sq0
      have B5 := BH4.trans (But.of sq0)
      have hF5 := sq0 _ _ hF4
      have dv5 : DVs K (er (upd H4 q0 (.lst [])) fo) us2 ds2 := DVs.same (er_same sq0) dv4
      have hb5 := sq0.seq hb4
      generalize (upd H4 q0 (.lst []) : Hp) = H5 at sq0 D5 B5 hF5 dv5 hb5 ⊢
      have hlen4 : us2.length ≤ 5000 := by omega
      by_cases hnil : us2 = []
      · have he : us2.isEmpty = true := by rw [hnil]; rfl
        rw [he]
        refine iteT ?_
        refine ⟨_, rfl, .inl ⟨rfl, _, SqL.of hF5⟩, _, rfl, _, rfl, d, 3, rfl, D5, by decide, by decide, fun r6 H6 r60 r61 D6 B6 => ?_⟩
        refine ⟨_, _, rfl, rfl, ?_⟩
        refine ⟨_, rfl, _, rfl, d, b, bs.map V.int, rfl, D6, B6.seq D5 hb5, (fun z => hbne (List.map_eq_nil_iff.mp z)), (by rw [List.length_map]; omega), fun y H7 hy D7 B7 => ?_⟩
        obtain ⟨y0, hy0, rfl⟩ := List.mem_map.mp hy
        have hyb := hbb y0 hy0
        refine ⟨by show 1 ≤ sizeLine; decide, fun q1 h1 => ?_⟩
        have u1 := Same.new (o := .tup [V.int y0]) h1
        have g1 : upd H7 q1 (.tup [V.int y0]) q1 = some (.tup [V.int y0]) := upd_same
        generalize (upd H7 q1 (.tup [V.int y0]) : Hp) = Ha at u1 g1 ⊢
        refine ⟨by show 2 ≤ sizeLine; decide, fun q2 h2 => ?_⟩
        have u2 := Same.new (o := .tup [V.int (1 + r6), V.ref q1]) h2
        have g2 : upd Ha q2 (.tup [V.int (1 + r6), V.ref q1]) q2 = some (.tup [V.int (1 + r6), V.ref q1]) := upd_same
        have u12 := u1.trans u2
        have g1' := u2 _ _ g1
        generalize (upd Ha q2 (.tup [V.int (1 + r6), V.ref q1]) : Hp) = Hb at u2 g2 u12 g1' ⊢
        have D8 := D7.same u12
        have B58 : But d H5 Hb := (B6.trans B7).trans (But.of u12)
        have B8 := B5.trans B58
        have hF8 : Hb fo = some (.lst us2) := B58.lst D5 hF5
        have dv8 : DVs K (er Hb fo) us2 ds2 := DVs.but (er_deck hF5 D5) (er_but B58) dv5
        refine ⟨fo, us2, (a : Int), .ref q2, rfl, rfl, hF8, by omega, by omega, by omega, ?_⟩
        exact ⟨⟨_, _, _, _, rfl⟩, ins us2 ds2 Hb (.ref q2) (.tuple [.int (1 + r6), .tuple [.int y0]]) dv8 (.tup (er_tq hF8 (SqT.of g2)) (.cons (.int _) (.cons (.tup (er_tq hF8 (SqT.of g1')) (.cons (.int _) .nil)) .nil))) hup (elt_two (by omega) (.inl ⟨_, rfl, by omega⟩)
          (by rw [okW, okWs, okWs, okW, decide_eq_true (small_abs (z := y0) (by omega) (by omega))]; rfl) (by rw [szW, szWs, szWs, szW]; show _ ≤ 2 * gS S i + 3000; omega) (by rw [PyData.depth, PyData.depthAll, PyData.depthAll, PyData.depth]; omega) (fun es2 e => by cases e; show 1 ≤ L + (i + 1); omega)) hl2 B8 D8 hF8⟩
      have he : us2.isEmpty = false := by
        cases us2 with
        | nil => exact absurd rfl hnil
        | cons _ _ => rfl
      rw [he]
      refine iteF ?_
      have hpos : 0 < us2.length := List.length_pos_iff.mpr hnil
      refine ⟨_, rfl, rfl, _, rfl, ite2 (fun _ => ?_) (fun _ => ?_)⟩
      · refine ⟨_, rfl, .inl ⟨rfl, _, SqL.of hF5⟩, _, rfl, _, rfl, d, 3, rfl, D5, by decide, by decide, fun r6 H6 r60 r61 D6 B6 => ?_⟩
        refine ⟨_, _, rfl, rfl, ?_⟩
        refine ⟨_, rfl, _, rfl, d, b, bs.map V.int, rfl, D6, B6.seq D5 hb5, (fun z => hbne (List.map_eq_nil_iff.mp z)), (by rw [List.length_map]; omega), fun y H7 hy D7 B7 => ?_⟩
        obtain ⟨y0, hy0, rfl⟩ := List.mem_map.mp hy
        have hyb := hbb y0 hy0
        refine ⟨by show 1 ≤ sizeLine; decide, fun q1 h1 => ?_⟩
        have u1 := Same.new (o := .tup [V.int y0]) h1
        have g1 : upd H7 q1 (.tup [V.int y0]) q1 = some (.tup [V.int y0]) := upd_same
        generalize (upd H7 q1 (.tup [V.int y0]) : Hp) = Ha at u1 g1 ⊢
        refine ⟨by show 2 ≤ sizeLine; decide, fun q2 h2 => ?_⟩
        have u2 := Same.new (o := .tup [V.int (1 + r6), V.ref q1]) h2
        have g2 : upd Ha q2 (.tup [V.int (1 + r6), V.ref q1]) q2 = some (.tup [V.int (1 + r6), V.ref q1]) := upd_same
        have u12 := u1.trans u2
        have g1' := u2 _ _ g1
        generalize (upd Ha q2 (.tup [V.int (1 + r6), V.ref q1]) : Hp) = Hb at u2 g2 u12 g1' ⊢
        have D8 := D7.same u12
        have B58 : But d H5 Hb := (B6.trans B7).trans (But.of u12)
        have B8 := B5.trans B58
        have hF8 : Hb fo = some (.lst us2) := B58.lst D5 hF5
        have dv8 : DVs K (er Hb fo) us2 ds2 := DVs.but (er_deck hF5 D5) (er_but B58) dv5
        refine ⟨fo, us2, (a : Int), .ref q2, rfl, rfl, hF8, by omega, by omega, by omega, ?_⟩
        exact ⟨⟨_, _, _, _, rfl⟩, ins us2 ds2 Hb (.ref q2) (.tuple [.int (1 + r6), .tuple [.int y0]]) dv8 (.tup (er_tq hF8 (SqT.of g2)) (.cons (.int _) (.cons (.tup (er_tq hF8 (SqT.of g1')) (.cons (.int _) .nil)) .nil))) hup (elt_two (by omega) (.inl ⟨_, rfl, by omega⟩)
          (by rw [okW, okWs, okWs, okW, decide_eq_true (small_abs (z := y0) (by omega) (by omega))]; rfl) (by rw [szW, szWs, szWs, szW]; show _ ≤ 2 * gS S i + 3000; omega) (by rw [PyData.depth, PyData.depthAll, PyData.depthAll, PyData.depth]; omega) (fun es2 e => by cases e; show 1 ≤ L + (i + 1); omega)) hl2 B8 D8 hF8⟩
      obtain ⟨n, hn⟩ : ∃ n, n = a % us2.length := ⟨_, rfl⟩
      have hnl : n < us2.length := by rw [hn]; exact Nat.mod_lt _ hpos
      have ek : (a : Int) % ((us2.length : Nat) : Int) = (n : Int) := by rw [hn]; exact (Int.natCast_emod a us2.length).symm
      obtain ⟨y, hy⟩ : ∃ y, us2[n]? = some y := ⟨_, List.getElem?_eq_getElem hnl⟩
      obtain ⟨e, hey, hye⟩ := dv5.at hy
      have hem := List.mem_of_getElem? hey
      have eer : us2.eraseIdx n = us2.take n ++ us2.drop (n + 1) := List.eraseIdx_eq_take_drop_succ us2 n
      have dve : DVs K (er H5 fo) (us2.eraseIdx n) (ds2.take n ++ ds2.drop (n + 1)) := by
        rw [eer]
        exact DVs.append (dv5.take n) (dv5.drop (n + 1))
      have hee : ∀ z ∈ ds2.take n ++ ds2.drop (n + 1), EltD (gS S (i + 1)) (L + (i + 1)) (M + (i + 1)) z := fun z hz => by
        rcases List.mem_append.mp hz with q | q
        · exact hup z (List.mem_of_mem_take q)
        · exact hup z (List.mem_of_mem_drop q)
      have hle : (ds2.take n ++ ds2.drop (n + 1)).length ≤ ds.length + i := by
        simp only [List.length_append, List.length_take, List.length_drop]; omega
      have gone : St (i + 1) (upd H5 fo (.lst (us2.eraseIdx n))) := put i H5 us2 _ _ B5 D5 hF5 dve hee (by omega)
      -- a run less
      refine ⟨_, rfl, rfl, _, rfl, ite2 (fun _ => ?_) (fun _ => ?_)⟩
      · refine ⟨_, rfl, .inl ⟨rfl, _, SqL.of hF5⟩, _, rfl, _, rfl, fo, us2, rfl, .inl (SqL.of hF5), _, _, rfl, rfl, by show (0 : Int) < _; omega, ?_⟩
        refine ⟨fo, us2, _, n, y, rfl, rfl, hF5, by rw [ek]; omega, by rw [ek]; omega, by rw [ek]; exact seqIndex_natC hnl, hy, ?_⟩
        exact ⟨⟨_, _, _, _, rfl⟩, gone⟩
      -- a run twice
      refine ⟨_, rfl, rfl, _, rfl, ite2 (fun _ => ?_) (fun _ => ?_)⟩
      · refine ⟨_, rfl, .inl ⟨rfl, _, SqL.of hF5⟩, _, rfl, _, rfl, _, rfl, _, rfl, fo, us2, rfl, .inl (SqL.of hF5), _, _, rfl, rfl, by show (0 : Int) < _; omega, ?_⟩
        refine ⟨fo, us2, _, y, rfl, rfl, SqL.of hF5, by rw [ek]; exact atI_nat hy, ?_⟩
        refine ⟨fo, us2, (a : Int), y, rfl, rfl, hF5, by omega, by omega, by omega, ?_⟩
        exact ⟨⟨_, _, _, _, rfl⟩, ins us2 ds2 H5 y e dv5 hye hup (hup e hem) hl2 B5 D5 hF5⟩
      -- a run bent
      refine ⟨_, rfl, .inl ⟨rfl, _, SqL.of hF5⟩, _, rfl, _, rfl, fo, us2, rfl, .inl (SqL.of hF5), _, _, rfl, rfl, by show (0 : Int) < _; omega, ?_⟩
      refine ⟨fo, us2, _, n, y, rfl, rfl, hF5, by rw [ek]; omega, by rw [ek]; omega, by rw [ek]; exact seqIndex_natC hnl, hy, ?_⟩
      have hF6 : upd H5 fo (.lst (us2.eraseIdx n)) fo = some (.lst (us2.eraseIdx n)) := upd_same
      have hg2 := gone
      rw [hSt] at hg2
      obtain ⟨B6, D6, _⟩ := hg2
      have er6 : er (upd H5 fo (.lst (us2.eraseIdx n))) fo = er H5 fo := er_upd
      have hye6 : DV K (er (upd H5 fo (.lst (us2.eraseIdx n))) fo) y e := by rw [er6]; exact hye
      have dve6 : DVs K (er (upd H5 fo (.lst (us2.eraseIdx n))) fo) (us2.eraseIdx n) (ds2.take n ++ ds2.drop (n + 1)) := by rw [er6]; exact dve
      generalize (upd H5 fo (.lst (us2.eraseIdx n)) : Hp) = H6 at gone hF6 B6 D6 er6 hye6 dve6 ⊢
      have hb6 := B6.seq D hb
      have hy6 : DV K H6 y e := hye6.same er_le
      obtain ⟨nm, ty, k1, k2⟩ := hy6.kit
      refine ⟨_, rfl, _, _, _, _, _, rfl, .ty _, ty, k1, _, rfl, ?_⟩
      cases hye6 with
      | tup hT hs =>
        rename_i ta tus tds
        have hl := hs.length
        have hT6 : SqT K H6 ta tus := Same.tq er_le hT
        refine iteF ⟨_, rfl, ta, _, rfl, .inr hT6, rfl, _, rfl, ?_⟩
        by_cases h2 : tds.length = 2
        · obtain ⟨dt, di, rfl⟩ : ∃ di db, tds = [di, db] := match tds, h2 with | [x, y], _ => ⟨x, y, rfl⟩
          cases hs with
          | cons pt t =>
           cases t with
           | cons pi t2 =>
            cases t2
            rename_i vt vi
            have hz : (!decide (V.int (([vt, vi].length : Nat) : Int) = V.int 2)) = false := rfl
            rw [hz]
            refine iteF ?_
            refine ⟨_, rfl, ta, [vt, vi], 1, vi, rfl, rfl, hT6, rfl, ?_⟩
            have pi6 : DV K H6 vi di := pi.same er_le
            obtain ⟨nm2, ty2, k3, k4⟩ := pi6.kit
            refine ⟨_, _, _, _, _, rfl, .ty _, ty2, k3, _, rfl, ?_⟩
            cases pi with
            | tup hU hes =>
              rename_i u ws es
              have hU6 : SqT K H6 u ws := Same.tq er_le hU
              refine iteF ?_
              refine ⟨_, rfl, ta, [vt, .ref u], 1, .ref u, rfl, rfl, hT6, rfl, ?_⟩
              refine ⟨Nat.zero_le _, fun p0 h0 => ?_⟩
              have s1 := Same.new (o := .tup []) h0
              refine ⟨u, p0, ws, rfl, rfl, Same.tq s1 hU6, SqT.of upd_same, _, rfl, ?_⟩
              have hF7 := s1 _ _ hF6
              have D7 := D6.same s1
              have B7 := B6.trans (But.of s1)
              have hb7 := s1.seq hb6
              have dv7 : DVs K (er (upd H6 p0 (.tup [])) fo) (us2.eraseIdx n) (ds2.take n ++ ds2.drop (n + 1)) := DVs.same (er_same s1) dve6
              have dy7 : DV K (er (upd H6 p0 (.tup [])) fo) (.ref ta) (.tuple [dt, .tuple es]) := (DV.tup hT (.cons pt (.cons (.tup hU hes) .nil))).same (er_same s1)
              generalize (upd H6 p0 (.tup []) : Hp) = H7 at s1 hF7 D7 B7 hb7 dv7 dy7 ⊢
              have gone7 : St (i + 1) H7 := by
                rw [hSt]
                exact ⟨B7, D7, _, _, hF7, dv7, hee, by omega⟩
              by_cases hv : ws = []
              · have he : ws.isEmpty = true := by rw [hv]; rfl
                rw [he]
                refine iteT ?_
                exact ⟨⟨_, _, _, _, rfl⟩, gone7⟩
              have he : ws.isEmpty = false := by
                cases ws with
                | nil => exact absurd rfl hv
                | cons _ _ => rfl
              rw [he]
              refine iteF ?_
              have hne : es ≠ [] := fun z => hv (List.eq_nil_of_length_eq_zero (by rw [hes.length, z]; rfl))
              refine ⟨_, rfl, .inl ⟨rfl, _, SqL.of hF7⟩, _, rfl, _, rfl, _, rfl, _, rfl, d, b, fo, us2.eraseIdx n, _, bs, dt, es, gS S i, L + i, M + i, rfl, D7, hF7, hb7, hbne, lb, hbb, dy7, hne, he2 _ hem, by omega, by omega, by omega, fun v' d' H8 hv' hE' D8 B8 => ?_⟩
              have hF8 : H8 fo = some (.lst (us2.eraseIdx n)) := B8.lst D7 hF7
              refine ⟨fo, _, (a : Int), v', rfl, rfl, hF8, by rw [List.length_eraseIdx, if_pos hnl]; omega, by omega, by omega, ?_⟩
              exact ⟨⟨_, _, _, _, rfl⟩, ins _ _ H8 v' d' (DVs.but (er_deck hF7 D7) (er_but B8) dv7) hv' hee hE' hle (B7.trans B8) D8 hF8⟩
            | _ => exact iteT ⟨⟨_, _, _, _, rfl⟩, gone⟩
        · have hz : (!decide (V.int ((tus.length : Nat) : Int) = V.int 2)) = true := by
            have : ¬ (((tus.length : Nat) : Int) = 2) := by omega
            rw [Bool.not_eq_true', decide_eq_false_iff_not]
            exact fun z => this (V.int.inj z)
          rw [hz]
          exact iteT ⟨⟨_, _, _, _, rfl⟩, gone⟩
      | _ => exact iteT ⟨⟨_, _, _, _, rfl⟩, gone⟩
    · rintro σ H2 ⟨⟨v4, v5, v6, v7, rfl⟩, hs2⟩
      rw [hSt] at hs2
      obtain ⟨B2, D2, us2, ds2, hF2, dv2, he2, hl2⟩ := hs2
      refine ⟨_, rfl, k fo us2 ds2 H2 hfo B2 D2 hF2 (DVs.same er_le dv2) (fun e hm => (he2 e hm).mono ?_ (by omega) (by omega)) (by omega)⟩
      have g1 : gS S 1 ≤ gS S 2 := by show _ ≤ 2 * gS S 1 + 3000; omega
      have hm : 1 + m1 = 1 ∨ 1 + m1 = 2 := by omega
      rcases hm with e | e
      · rw [e]; exact g1
      · rw [e]; exact Nat.le_refl _
end
/-! ### data without dicts but empty ones, shown -/
mutual
theorem DV.toDw {K : PySem.W.Frag} {H : Hp} : ∀ {d : PyData} {v : V}, DV K H v d → DW K H v d
  | _, _, .non => .non
  | _, _, .bl b => .bl b
  | _, _, .int i => .int i
  | _, _, .str x => .str x
  | _, _, .lst h t => .lst h (DVs.toDw t)
  | _, _, .tup h t => .tup h (DVs.toDw t)
  | _, _, .dk0 h => .dic h .nil .nil
theorem DVs.toDw {K : PySem.W.Frag} {H : Hp} : ∀ {ds : List PyData} {vs : List V}, DVs K H vs ds → DWs K H vs ds
  | _, _, .nil => .nil
  | _, _, .cons p t => .cons (DV.toDw p) (DVs.toDw t)
end
theorem elts_facts {S L M : Nat} : ∀ {ds : List PyData}, (∀ e ∈ ds, EltD S L M e) → okWs ds = true ∧ szWs ds ≤ ds.length * (S + 2) ∧ PyData.depthAll ds ≤ 6
  | [], _ => ⟨by rw [okWs], by rw [szWs]; omega, by rw [PyData.depthAll]; omega⟩
  | d :: ds, h => by
    obtain ⟨a, b, c⟩ := elts_facts fun e he => h e (List.mem_cons_of_mem _ he)
    have hd := h d List.mem_cons_self
    have h1 := hd.sz
    have h2 := hd.dep
    refine ⟨by rw [okWs, hd.ok, a]; rfl, ?_, by rw [PyData.depthAll]; omega⟩
    rw [szWs, List.length_cons, Nat.add_mul]
    omega
theorem elts_cov {S L M : Nat} {ds : List PyData} (h : ∀ e ∈ ds, EltD S L M e) (hl : ds.length ≤ 4000) (hL : L ≤ 4000) : CovD ds :=
  ⟨hl, fun d hd t es e => Nat.le_trans ((h d hd).run t es e).1 hL⟩
theorem runs_elt {L M : Nat} {rs : List (Int × List Int)} (hM : M < 2 ^ 300) (h : ∀ r ∈ rs, r.1.natAbs ≤ M ∧ r.2.length ≤ L ∧ ∀ z ∈ r.2, 0 ≤ z ∧ z ≤ 1000000) : ∀ e ∈ rs.map encR, EltD (L * 305 + 720) L M e := fun e he => by
  obtain ⟨r, hr, rfl⟩ := List.mem_map.mp he
  obtain ⟨h1, h2, h3⟩ := h r hr
  obtain ⟨o1, o2⟩ := ints_okW r.2 h3
  refine elt_two hM (.inl ⟨_, rfl, h1⟩) (by rw [okW]; exact o1) ?_ (by rw [PyData.depth, PySem.W.depth_ints]; decide) (fun es e => by cases e; rw [List.length_map]; exact h2)
  rw [szW, o2]
  have : r.2.length * 305 ≤ L * 305 := Nat.mul_le_mul_right _ h2
  omega
theorem wt_dw9 {K : PySem.W.Frag} {H : Hp} {v : V} {wo : Option (List (Int × Int))} {ks : List Int} {n : Nat} {most : Int} (hw : WtAt H v wo) (hL : LoadsO ks n most wo) (bk : ∀ z ∈ ks, 0 ≤ z ∧ z ≤ 1000000) (hn : n ≤ 300) (hm : most ≤ 1000000) :
    ∃ wd : PyData, RokL wd ∧ ∀ H', Same H H' → DW K H' v wd := by
  rcases hw with ⟨rfl, _⟩ | ⟨p, ws, rfl, rfl, hp⟩
  · exact ⟨.none, ⟨by rw [okW], by rw [PyData.depth]; decide, by rw [szW]; decide⟩, fun H' _ => .non⟩
  · have L := hL ws rfl
    obtain ⟨p1, p2, p3⟩ := pins_okW ws fun e he => ⟨bk _ (L.2.2 e he).2.2, by have := (L.2.2 e he).1; omega, by have := (L.2.2 e he).2.1; omega⟩
    have := L.2.1
    exact ⟨.dict (pinD ws), ⟨by rw [okW]; exact p1, by rw [PyData.depth, p3]; decide, by rw [szW, p2]; omega⟩, fun H' s => pin_dw (s _ _ hp)⟩
/-- two orders, a list of such things, and weights -/
theorem rok_four {js ids : List Int} {ds : List PyData} {wd : PyData} {S L M : Nat} (bj : ∀ z ∈ js, 0 ≤ z ∧ z ≤ 1000000) (bi : ∀ z ∈ ids, 0 ≤ z ∧ z ≤ 1000000) (nj : js.length ≤ 40) (ni : ids.length ≤ 40) (hE : ∀ e ∈ ds, EltD S L M e) (hs : ds.length * (S + 2) ≤ 700000) (w : RokL wd) :
    RokP (.tuple [.list (js.map .int), .list (ids.map .int), .list ds, wd]) := by
  obtain ⟨a, b, c⟩ := elts_facts hE
  obtain ⟨o1, o2⟩ := ints_okW js bj
  obtain ⟨p1, p2⟩ := ints_okW ids bi
  have wo := w.o
  have wdp := w.dep
  have wsz := w.sz
  refine ⟨?_, ?_, ?_⟩
  · rw [okW, okWs, okWs, okWs, okWs, okWs, okW, okW, okW, o1, p1, a, wo]; rfl
  · rw [PyData.depth, PyData.depthAll, PyData.depthAll, PyData.depthAll, PyData.depthAll, PyData.depthAll, PyData.depth, PyData.depth, PyData.depth, PySem.W.depth_ints, PySem.W.depth_ints]
    omega
  · rw [szW, szWs, szWs, szWs, szWs, szWs, szW, szW, szW, o2, p2]
    omega
/-! ### _law_is_right -/
theorem pi_listKr {X : Cx} {K : PySem.W.Frag} {tg l : Expr} {tl : TE} (h : X.K = K) (hl : PE X l tl) : PI X tg l (iList K tl) := by
  subst h
  exact pi_list hl
theorem decI (a b : Int) : decide (V.int a = V.int b) = decide (a = b) := by
  by_cases c : a = b
  · rw [decide_eq_true c, decide_eq_true (by rw [c])]
  · rw [decide_eq_false c, decide_eq_false (fun z => c (V.int.inj z))]
theorem up_law {l js bd : List Int} (up : bd.Pairwise (· < ·)) (hm : ∀ k, k ∈ bd ↔ k ∈ js.map (ixI l)) : decide (js.map (ixI l) = bd) = adjB (js.map (ixI l)) := by
  by_cases h : (js.map (ixI l)).Pairwise (· < ·)
  · have e1 : js.map (ixI l) = bd := up_eq h up fun z => (hm z).symm
    rw [decide_eq_true e1, pw_adj _ h]
  · have e1 : ¬ js.map (ixI l) = bd := fun e => h (by rw [e]; exact up)
    rw [decide_eq_false e1]
    cases c : adjB (js.map (ixI l)) with
    | false => rfl
    | true => exact absurd (adj_pw _ c) h
theorem sumW_tab {f : Int → Int} {ids js : List Int} (h : ∀ x ∈ js, x ∈ ids) : sumW (some (tabP f ids)) js = (js.map f).sum := by
  unfold sumW
  congr 1
  refine List.map_congr_left fun x hx => ?_
  show (anOf (tabP f ids) x).getD 1 = f x
  rw [tab_an (h x hx)]; rfl
section
variable {P : Program} {w : World} {K : PySem.W.Frag} {mg : Str → Option Value} {base : Heap}
def spRight (K : PySem.W.Frag) : Sp := fun vs H Q _ => ∃ (b g q c e : Addr) (bs ids : List Int) (uq us : List V) (dq ds : List PyData) (f : Int → Int), vs = [.ref b, .ref g, .ref q, .ref c, .ref e] ∧ SqL K H b (bs.map V.int) ∧ SqL K H g (ids.map V.int) ∧ SqL K H q uq ∧ DVs K H uq dq ∧ dq.length ≤ 300 ∧ SqL K H c us ∧ DVs K H us ds ∧ CovD ds ∧
  H e = some (.dK (pinK (tabP f ids))) ∧ bs.Nodup ∧ bs.length ≤ 300 ∧ ids.length ≤ 300 ∧ (∀ x ∈ ids, x ∈ bs) ∧ (∀ x ∈ ids, 1 ≤ x) ∧
  ∀ H' : Hp, Same H H' → Q (.bl (isChainB ids dq && (isChainB bs dq && (isCoverB bs ids ds (some (tabP f ids)) && decide (sumT (ds.map runOfD) = sumW (some (tabP f ids)) (dq.map intOf)))))) H'
abbrev NRi : List Str := ["base", "goal", "ids", "cover", "exact", "order", "places", "row_id", "run"]
theorem scRight : FnScope NRi ["base", "goal", "ids", "cover", "exact"] (defScope sIsRight) := ⟨rfl, rfl, rfl, by decide +kernel, rfl, by decide +kernel, by decide +kernel⟩
theorem ok_right {f0 fN fC : Addr} {fd fdN fdC : FuncData} (F : Fun K "_law_is_right" "_law_is_right" sIsRight f0 fd) (nsorted : mg "sorted" = none) (nset : mg "set" = none) (nsum : mg "sum" = none)
    (GN : FnOk P w K mg base CX0 1 fN fdN ["value", "least"] (spIsNum K)) (kN : PySem.W.keepIn K (.ref fN) = true) (bN : L2.Binds K fdN ["value", "least"] []) (mN : mg "_law_is_number" = some (.ref fN))
    (GC : FnOk P w K mg base CX0 3 fC fdC ["base", "goal", "cover", "loads"] (spLawCov K)) (kC : PySem.W.keepIn K (.ref fC) = true) (bC : L2.Binds K fdC ["base", "goal", "cover", "loads"] []) (mC : mg "_law_covers" = some (.ref fC)) :
    FnOk P w K mg base CX0 4 f0 fd ["base", "goal", "ids", "cover", "exact"] (spRight K) := by
  refine F.ok scRight (fun vs H Q E h => ?_) (fun cdv A outer s H vs Q E hr h => ?_)
  · obtain ⟨b, g, q, c, e, bs, ids, uq, us, dq, ds, f, rfl, _⟩ := h
    rfl
  · obtain ⟨b, g, q, c, e, bs, ids, uq, us, dq, ds, f, rfl, hb, hg, hq, hdq, hql, hc, hdv, hCov, he, nb, lb, hlen, hin, h1, k⟩ := h
    have hr1 : Room 1 _ := hr.mono (by decide)
    have hr3 : Room 3 _ := hr.mono (by decide)
    have h64 := hu64 hr
    have hu := hu_of hr
    have hu0 := Nat.lt_of_le_of_lt (Nat.le_add_right _ 64) h64
    refine ⟨_, pss_cons (ps_if (pt_cmpR (op_neL0 hu0) (pe_lc (own := [("row_id", 7)]) (g := gName 7) rfl scRight.nd (pi_list (pv 2)) (blkOk_by (N := NRi) (sc := defScope sIsRight) (by decide +kernel))
          (fun _ _ _ _ _ => pg_name (i := 7) scRight.nd rfl (Or.inl rfl)) (fun _ _ _ _ _ => pts_one (PW.pt (pw_or (pt_not (pt_val (pe_call GN hr1 rfl mN kN bN .nil pass0 (pa_cons (pv 7) (pa_cons pe_int pa_nil))))) (pw_or1 (pt_cmpR (op_notIn_Kr (K := K) rfl) (pv 7) (pv 1) (by rfl)))))) (fun _ _ _ _ _ => pv 7)) (pe_lst pa_nil) (nomark _)) (pss_one (ps_ret pe_bl)) pss_nil)
      (pss_cons (ps_for PassesOwn.never rfl (pi_list (pe_lst (pa_cons (pv 0) (pa_cons (pv 1) pa_nil)))) (pg_name (i := 5) scRight.nd rfl (Or.inr rfl))
        (pss_cons (ps_setLc (i := 6) (own := [("row_id", 7)]) (tt := tYes) (g := gName 7) rfl scRight.nd rfl rfl rfl (pi_list (pv 2)) (blkOk_by (N := NRi) (sc := defScope sIsRight) (by decide +kernel))
              (fun _ _ _ _ _ => pg_name (i := 7) scRight.nd rfl (Or.inl rfl)) (fun _ _ _ _ _ => pts_nil) (fun _ _ _ _ _ => pe_bmK (K := K) rfl PySem.F.plainAttrs_list PySem.F.slot_list_index PySem.F.type_list_index (mt_indexK (K := K) rfl) (pv 5) (pa_cons (pv 7) pa_nil)))
        (pss_one (ps_if (pt_cmpR (op_neL h64) (pv 6) (pe_callB (cr_sortS rfl h64) (by rfl) nsorted (by decide +kernel) (pa_cons (pe_callTy (cr_setL rfl) (by rfl) nset (by decide +kernel) (pa_cons (pv 6) pa_nil)) pa_nil)) (nomark _)) (pss_one (ps_ret pe_bl)) pss_nil))))
      (pss_cons (ps_if (pt_not (pt_val (pe_call GC hr3 rfl mC kC bC .nil pass0 (pa_cons (pv 0) (pa_cons (pv 1) (pa_cons (pv 3) (pa_cons (pv 4) pa_nil))))))) (pss_one (ps_ret pe_bl)) pss_nil)
      (pss_one (ps_ret (pe_cmpR op_eq (pe_callB (cr_sum rfl) (by rfl) nsum (by decide +kernel) (pa_cons (pe_lc (own := [("run", 8)]) (tt := tYes) (g := gName 8) rfl scRight.nd (pi_list (pv 3)) (blkOk_by (N := NRi) (sc := defScope sIsRight) (by decide +kernel))
            (fun _ _ _ _ _ => pg_name (i := 8) scRight.nd rfl (Or.inl rfl)) (fun _ _ _ _ _ => pts_nil) (fun _ _ _ _ _ => pe_ix (ix_tupKx (K := K) rfl) (pv 8) pe_int (fun _ _ => rfl))) pa_nil))
          (pe_callB (cr_sum rfl) (by rfl) nsum (by decide +kernel) (pa_cons (pe_lc (own := [("row_id", 7)]) (tt := tYes) (g := gName 7) rfl scRight.nd (pi_list (pv 2)) (blkOk_by (N := NRi) (sc := defScope sIsRight) (by decide +kernel))
            (fun _ _ _ _ _ => pg_name (i := 7) scRight.nd rfl (Or.inl rfl)) (fun _ _ _ _ _ => pts_nil) (fun _ _ _ _ _ => pe_dget hu (pv 4) (pv 7) (fun _ _ => rfl))) pa_nil)) (nomark _)))))), ?_⟩
    have h16 : sizeLine = 16777216 := sizeLine_eq
    have hdql := hdq.length
    have no : (isChainB ids dq = false ∨ isChainB bs dq = false ∨ isCoverB bs ids ds (some (tabP f ids)) = false) → ∀ H', Same H H' → Q (.bl false) H' := fun hh H' s => by
      have := k H' s
      rcases hh with h | h | h
      · rw [h, Bool.false_and] at this; exact this
      · rw [h, Bool.false_and, Bool.and_false] at this; exact this
      · rw [h, Bool.false_and, Bool.and_false, Bool.and_false] at this; exact this
    -- other things
    refine ⟨_, rfl, q, rfl, ⟨_, hq⟩, fun D hD => ?_⟩
    refine lc_list (K := K) (a := q) (xs := uq) (fun j H' => Same H H' ∧ (∃ acc, H' D = some (.lst acc) ∧ acc.length ≤ j ∧ acc.isEmpty = (dq.take j).all (goodL ids)) ∧ j ≤ dq.length) ⟨Same.new hD, ⟨[], upd_same, Nat.le_refl _, by rw [List.take_zero]; rfl⟩, Nat.zero_le _⟩ (fun j H' _ z => z.1.seq hq) ?_ ?_
    · rintro j y H2 hj ⟨s2, ⟨acc, hA, hal, hae⟩, hjl⟩
      have hes2 := DVs.same s2 hdq
      obtain ⟨e0, hej, hv2⟩ := hes2.at hj
      have hjl2 : j < dq.length := (List.getElem?_eq_some_iff.mp hej).1
      have etk : (dq.take (j + 1)).all (goodL ids) = ((dq.take j).all (goodL ids) && goodL ids e0) := by
        rw [take_snoc hej, List.all_append, List.all_cons, List.all_nil, Bool.and_true]
      have bad : goodL ids e0 = false → ∃ acc', H2 D = some (.lst acc') ∧ acc'.length < sizeLine ∧ Same H (upd H2 D (.lst (acc' ++ [y]))) ∧ (∃ acc, upd H2 D (.lst (acc' ++ [y])) D = some (.lst acc) ∧ acc.length ≤ j + 1 ∧ acc.isEmpty = (dq.take (j + 1)).all (goodL ids)) ∧ j + 1 ≤ dq.length := fun hb2 => by
        refine ⟨acc, hA, by rw [h16]; omega, fun b o z => by rw [upd_ne (ne_of_none z hD)]; exact s2 _ _ z, ⟨_, upd_same, by rw [List.length_append]; show _ + 1 ≤ _; omega, ?_⟩, hjl2⟩
        rw [etk, hb2, Bool.and_false]
        cases acc <;> rfl
      refine ⟨rfl, _, rfl, y, 1, rfl, hv2.ty, _, rfl, ?_⟩
      rw [hv2.num 1]
      cases hc2 : numD 1 e0 with
      | false =>
        have hg0 : goodL ids e0 = false := by
          cases e0 with
          | int x => show (decide (1 ≤ x) && _) = false; rw [show decide (1 ≤ x) = false from hc2, Bool.false_and]
          | _ => rfl
        exact iteT (iteT ⟨_, rfl, bad hg0⟩)
      | true =>
        obtain ⟨x, rfl⟩ : ∃ x, e0 = .int x := by
          cases e0 with
          | int x => exact ⟨x, rfl⟩
          | _ => cases hc2
        cases hv2
        refine iteF ?_
        refine ⟨_, rfl, _, rfl, g, ids.map V.int, rfl, .inl (s2.seq hg), rfl, all_flat ids, _, rfl, ?_⟩
        have ein : (if true = true then !inV (V.int x) (ids.map V.int) else inV (V.int x) (ids.map V.int)) = !decide (x ∈ ids) := by rw [if_pos rfl, inV_int]
        rw [ein]
        by_cases c2 : x ∈ ids
        · rw [decide_eq_true c2]
          refine iteF ?_
          refine ⟨s2, ⟨acc, hA, by omega, ?_⟩, hjl2⟩
          rw [etk, hae]
          show _ = (_ && (decide (1 ≤ x) && decide (x ∈ ids)))
          rw [show decide (1 ≤ x) = true from hc2, decide_eq_true c2, Bool.and_true, Bool.and_true]
        · rw [decide_eq_false c2]
          refine iteT ⟨_, rfl, bad ?_⟩
          show (decide (1 ≤ x) && decide (x ∈ ids)) = false
          rw [decide_eq_false c2, Bool.and_false]
    · rintro H2 ⟨s2, ⟨acc, hA, hal, hae⟩, _⟩
      rw [hdql, List.take_length] at hae
      refine ⟨Nat.zero_le _, fun q0 hq0 => ?_⟩
      have sq0 := Same.new (o := .lst []) hq0
      refine ⟨D, q0, acc, rfl, rfl, SqL.of (sq0 _ _ hA), SqL.of upd_same, _, rfl, ?_⟩
      rw [hae]
      have s3 := s2.trans sq0
      generalize (upd H2 q0 (.lst []) : Hp) = H3 at sq0 s3 ⊢
      cases hall : dq.all (goodL ids) with
      | false =>
        exact iteT (no (.inl (chain_bad (by rw [← good_iff h1]; exact hall))) H3 s3)
      | true =>
        refine iteF ?_
        have hg2 := hall
        rw [good_iff h1] at hg2
        obtain ⟨w1, w2⟩ := Bool.and_eq_true_iff.mp hg2
        obtain ⟨js, hjs⟩ : ∃ js, js = dq.map intOf := ⟨_, rfl⟩
        have euq : uq = js.map V.int := by rw [hjs]; exact whole_all hdq w1
        rw [← hjs] at w2
        have hji : ∀ x ∈ js, x ∈ ids := fun x hx => of_decide_eq_true (List.all_eq_true.mp w2 x hx)
        have hjb : ∀ x ∈ js, x ∈ bs := fun x hx => hin x (hji x hx)
        have hjl3 : js.length ≤ 300 := by rw [hjs, List.length_map]; exact hql
        have eci : isChainB ids dq = adjB (js.map (ixI ids)) := by rw [chain_good hg2, ← hjs]
        have ecb : isChainB bs dq = adjB (js.map (ixI bs)) := by
          have hgr : (dq.all wholeD && (dq.map intOf).all (fun x => decide (x ∈ bs))) = true := by
            rw [w1, Bool.true_and, ← hjs]
            exact List.all_eq_true.mpr fun x hx => decide_eq_true (hjb x hx)
          rw [chain_good hgr, ← hjs]
        subst euq
        -- both orders
        refine ⟨_, rfl, _, rfl, by show 2 ≤ sizeLine; decide, fun p0 hp0 => ?_⟩
        have sp0 := Same.new (o := .lst [V.ref b, V.ref g]) hp0
        have hP0 : upd H3 p0 (.lst [V.ref b, V.ref g]) p0 = some (.lst [V.ref b, V.ref g]) := upd_same
        have s4 := s3.trans sp0
        generalize (upd H3 p0 (.lst [V.ref b, V.ref g]) : Hp) = H4 at sp0 hP0 s4 ⊢
        obtain ⟨ords, hords⟩ : ∃ ords : List V, ords = [V.ref b, V.ref g] := ⟨_, rfl⟩
        rw [← hords] at hP0
        refine ⟨p0, rfl, ⟨_, SqL.of hP0⟩, for_list (K := K) (a := p0) (xs := ords) (fun i σ H' => (∃ v5 v6 : Option V, σ = [some (.ref b), some (.ref g), some (.ref q), some (.ref c), some (.ref e), v5, v6, none, none]) ∧ Same H4 H' ∧ (1 ≤ i → adjB (js.map (ixI bs)) = true) ∧ (2 ≤ i → adjB (js.map (ixI ids)) = true))
          ⟨⟨none, none, rfl⟩, Same.refl _, fun z => absurd z (by decide), fun z => absurd z (by decide)⟩ (fun i σ H' _ ⟨_, s, _⟩ => SqL.of (s _ _ hP0)) ?_ ?_⟩
        · rintro i y σ H5 hi ⟨⟨v5, v6, rfl⟩, s5, hx1, hx2⟩
          have s15 := s4.trans s5
          obtain ⟨o, l, rfl, hol, hjl, hio⟩ : ∃ (o : Addr) (l : List Int), y = .ref o ∧ SqL K H5 o (l.map V.int) ∧ (∀ x ∈ js, x ∈ l) ∧ ((i = 0 ∧ l = bs) ∨ (i = 1 ∧ l = ids)) := by
            rw [hords] at hi
            match i, hi with
            | 0, hi => exact ⟨b, bs, (Option.some.inj hi).symm, s15.seq hb, hjb, .inl ⟨rfl, rfl⟩⟩
            | 1, hi => exact ⟨g, ids, (Option.some.inj hi).symm, s15.seq hg, hji, .inr ⟨rfl, rfl⟩⟩
            | n + 2, hi => simp at hi
          have hq5 := s15.seq hq
          refine ⟨_, rfl, q, rfl, ⟨_, hq5⟩, fun Dp hDp => ?_⟩
          refine lc_list (K := K) (a := q) (xs := js.map V.int) (fun j H' => Same H5 H' ∧ H' Dp = some (.lst (((js.take j).map (ixI l)).map V.int)) ∧ j ≤ js.length) ⟨Same.new hDp, by rw [List.take_zero]; exact upd_same, Nat.zero_le _⟩ (fun j H' _ z => z.1.seq hq5) ?_ ?_
          · rintro j y H6 hj ⟨s6, hA6, hjl6⟩
            obtain ⟨x, hx, rfl⟩ := int_at hj
            have hjl2 : j < js.length := (List.getElem?_eq_some_iff.mp hx).1
            have hxb := hjl x (List.mem_of_getElem? hx)
            refine ⟨rfl, ?_⟩
            refine ⟨_, rfl, .inl ⟨rfl, _, s6.seq hol⟩, _, rfl, o, _, .int x, l.idxOf x, .int x, rfl, rfl, s6.seq hol, rfl, all_flat l, ix1 hxb, ix2 x, ix3, ?_⟩
            refine ⟨_, hA6, by rw [List.length_map, List.length_map, List.length_take, h16]; omega, fun c u z => by rw [upd_ne (ne_of_none z hDp)]; exact s6 _ _ z, ?_, hjl2⟩
            rw [upd_same, take_snoc hx, List.map_append, List.map_append]; rfl
          · rintro H6 ⟨s6, hA6, _⟩
            rw [List.length_map, List.take_length] at hA6
            refine ⟨_, rfl, _, rfl, Dp, js.map (ixI l), rfl, SqL.of hA6, by rw [List.length_map]; omega, fun sq n2 hsq hn2 => ?_⟩
            have ssq := Same.new (o := SetO w sq (fun j => decide (j ∈ js.map (ixI l))) n2) hsq
            rw [List.length_map] at hn2
            refine ⟨sq, _, n2, rfl, upd_same, by omega, fun bd bp hup hmem hbl hbp => ?_⟩
            have sbp := Same.new (o := .lst (bd.map V.int)) hbp
            have hmem2 : ∀ z, z ∈ bd ↔ z ∈ js.map (ixI l) := fun z => by
              rw [hmem z]
              exact ⟨of_decide_eq_true, fun h => decide_eq_true h⟩
            have elaw := up_law (l := l) (js := js) hup hmem2
            refine ⟨Dp, bp, _, _, rfl, rfl, SqL.of (sbp _ _ (ssq _ _ hA6)), SqL.of upd_same, _, rfl, ?_⟩
            rw [elaw]
            have s56 := s6.trans (ssq.trans sbp)
            cases hd1 : adjB (js.map (ixI l)) with
            | false =>
              refine iteT (no ?_ _ (s15.trans s56))
              rcases hio with ⟨_, rfl⟩ | ⟨_, rfl⟩
              · exact .inr (.inl (by rw [ecb]; exact hd1))
              · exact .inl (by rw [eci]; exact hd1)
            | true =>
              refine iteF ⟨⟨_, _, rfl⟩, s5.trans s56, fun _ => ?_, fun z => ?_⟩
              · rcases hio with ⟨_, rfl⟩ | ⟨rfl, _⟩
                · exact hd1
                · exact hx1 (by decide)
              · rcases hio with ⟨rfl, _⟩ | ⟨_, rfl⟩
                · omega
                · exact hd1
        · rintro σ H5 ⟨⟨v5, v6, rfl⟩, s5, hx1, hx2⟩
          rw [hords] at hx1 hx2
          have ab := hx1 (by show 1 ≤ 2; decide)
          have ai := hx2 (by show 2 ≤ 2; decide)
          have s15 := s4.trans s5
          rw [eci, ecb, ab, ai, Bool.true_and, Bool.true_and] at k
          -- the cover
          refine ⟨_, rfl, _, rfl, _, rfl, _, rfl, b, g, c, .ref e, bs, ids, us, ds, some (tabP f ids), rfl, s15.seq hb, s15.seq hg, s15.seq hc, DVs.same s15 hdv, hCov, .inr ⟨e, _, rfl, rfl, s15 _ _ he⟩, nb, lb, hlen, hin, h1, fun H6 s6 => ?_⟩
          refine ⟨_, rfl, ?_⟩
          have s16 := s15.trans s6
          cases hcv : isCoverB bs ids ds (some (tabP f ids)) with
          | false =>
            refine iteT ?_
            have := k H6 s16
            rw [hcv, Bool.false_and] at this
            exact this
          | true =>
            refine iteF ?_
            rw [hcv, Bool.true_and] at k
            have hall2 : ds.all (isRunB ids bs.reverse) = true := by
              unfold isCoverB at hcv
              exact (Bool.and_eq_true_iff.mp hcv).1
            obtain ⟨rs, hrs⟩ : ∃ rs, rs = ds.map runOfD := ⟨_, rfl⟩
            have hRQ : RunsQ K H us rs := by rw [hrs]; exact runs_of hdv hall2
            have hrl : rs.length = us.length := hRQ.1.symm
            have hdl := hCov.len
            have hul := hdv.length
            have hc6 := s16.seq hc
            refine ⟨_, rfl, c, rfl, ⟨_, hc6⟩, fun E2 hE => ?_⟩
            refine lc_list (K := K) (a := c) (xs := us) (fun j H' => Same H6 H' ∧ H' E2 = some (.lst (((rs.take j).map Prod.fst).map V.int)) ∧ j ≤ rs.length) ⟨Same.new hE, by rw [List.take_zero]; exact upd_same, Nat.zero_le _⟩ (fun j H' _ z => z.1.seq hc6) ?_ ?_
            · rintro j y H7 hj ⟨s7, hA7, hjl⟩
              obtain ⟨r, hr', hq1⟩ := hRQ.at hj
              have hjl2 : j < rs.length := (List.getElem?_eq_some_iff.mp hr').1
              obtain ⟨t, u, rfl, ht, hu'⟩ := hq1.same (s16.trans s7)
              refine ⟨rfl, _, rfl, t, _, 0, .int r.1, rfl, rfl, ht, rfl, ?_⟩
              refine ⟨_, hA7, by rw [List.length_map, List.length_map, List.length_take, h16]; omega, fun b u z => by rw [upd_ne (ne_of_none z hE)]; exact s7 _ _ z, ?_, hjl2⟩
              rw [upd_same, take_snoc hr', List.map_append, List.map_append]; rfl
            · rintro H7 ⟨s7, hA7, _⟩
              rw [← hrl, List.take_length] at hA7
              refine ⟨E2, _, rfl, SqL.of hA7, ?_⟩
              have s17 := s16.trans s7
              have hq7 := s17.seq hq
              have he7 := s17 _ _ he
              refine ⟨_, rfl, q, rfl, ⟨_, hq7⟩, fun E3 hE3 => ?_⟩
              refine lc_list (K := K) (a := q) (xs := js.map V.int) (fun j H' => Same H7 H' ∧ H' E3 = some (.lst (((js.take j).map f).map V.int)) ∧ j ≤ js.length) ⟨Same.new hE3, by rw [List.take_zero]; exact upd_same, Nat.zero_le _⟩ (fun j H' _ z => z.1.seq hq7) ?_ ?_
              · rintro j y H8 hj ⟨s8, hA8, hjl8⟩
                obtain ⟨x, hx, rfl⟩ := int_at hj
                have hjl2 : j < js.length := (List.getElem?_eq_some_iff.mp hx).1
                have hxi := hji x (List.mem_of_getElem? hx)
                have dg : DGet H8 e (.int x) (some (.int (f x))) := by
                  have := DGet.k (k := (.inl x : Key)) (s8 _ _ he7)
                  rw [val_pin, tab_an hxi] at this
                  exact this
                refine ⟨rfl, _, rfl, _, rfl, e, _, rfl, dg, ?_⟩
                refine ⟨_, hA8, by rw [List.length_map, List.length_map, List.length_take, h16]; omega, fun c u z => by rw [upd_ne (ne_of_none z hE3)]; exact s8 _ _ z, ?_, hjl2⟩
                rw [upd_same, take_snoc hx, List.map_append, List.map_append]; rfl
              · rintro H8 ⟨s8, hA8, _⟩
                rw [List.length_map, List.take_length] at hA8
                refine ⟨E3, _, rfl, SqL.of hA8, ?_⟩
                refine ⟨rfl, ?_⟩
                have := k H8 (s17.trans s8)
                rw [← hjs, sumW_tab hji, ← hrs] at this
                have e9 : decide (V.int (rs.map Prod.fst).sum = V.int (js.map f).sum) = decide (sumT rs = (js.map f).sum) := decI _ _
                rw [e9]
                exact this
end
/-! ### _law_bent_ids -/
structure FineI (e : PyData) : Prop where
  ok : okW e = true
  sz : szW e ≤ 700
  dep : e.depth ≤ 3
theorem fine_int {z : Int} (h : 0 ≤ z ∧ z ≤ 1000000) : FineI (.int z) := ⟨by rw [okW]; exact decide_eq_true (small_abs (by omega) (by omega)), by rw [szW]; decide, by rw [PyData.depth]; decide⟩
section
variable {P : Program} {w : World} {K : PySem.W.Frag} {mg : Str → Option Value} {base : Heap}
def spBentIds (K : PySem.W.Frag) : Sp := fun vs H Q _ => ∃ (d b q : Addr) (bs : List Int) (us : List V) (ds : List PyData), vs = [.ref d, .ref b, .ref q] ∧ DeckAt H d ∧ H b = some (.lst (bs.map V.int)) ∧ bs.length ≤ 300 ∧ (∀ x ∈ bs, 0 ≤ x ∧ x ≤ 1000000) ∧
  SqL K H q us ∧ DVs K H us ds ∧ (∀ e ∈ ds, FineI e) ∧ ds.length ≤ 300 ∧
  ∀ (p : Addr) (us' : List V) (ds' : List PyData) (H' : Hp), H p = none → But d H H' → DeckAt H' d → H' p = some (.lst us') → DVs K H' us' ds' → (∀ e ∈ ds', FineI e) → ds'.length ≤ ds.length + 2 → Q (.ref p) H'
abbrev NBi : List Str := ["tape", "base", "ids", "found", "turn", "at", "way"]
theorem scBentIds : FnScope NBi ["tape", "base", "ids"] (defScope sBentIds) := ⟨rfl, rfl, rfl, by decide +kernel, rfl, by decide +kernel, by decide +kernel⟩
theorem ok_bentIds {f fD fC : Addr} {fd fdD fdC : FuncData} (F : Fun K "_law_bent_ids" "_law_bent_ids" sBentIds f fd) (nlen : mg "len" = none) (nlist : mg "list" = none) (nrange : mg "range" = none)
    (GD : FnOk P w K mg base CX0 1 fD fdD ["tape", "size"] spDraw) (kD : PySem.W.keepIn K (.ref fD) = true) (bD : L2.Binds K fdD ["tape", "size"] []) (mD : mg "_law_pick" = some (.ref fD))
    (GC : FnOk P w K mg base CX0 2 fC fdC ["tape", "items"] (spChoose K)) (kC : PySem.W.keepIn K (.ref fC) = true) (bC : L2.Binds K fdC ["tape", "items"] []) (mC : mg "_law_one_of" = some (.ref fC)) :
    FnOk P w K mg base CX0 3 f fd ["tape", "base", "ids"] (spBentIds K) := by
  refine F.ok scBentIds (fun vs H Q E h => ?_) (fun cdv A outer s H vs Q E hr h => ?_)
  · obtain ⟨d, b, q, bs, us, ds, rfl, _⟩ := h
    rfl
  · obtain ⟨d, b, q, bs, us, ds, rfl, D, hb, lb, hbb, hq, hdv, hE, hdl, k⟩ := h
    have hr1 : Room 1 _ := hr.mono (by decide)
    have hr2 : Room 2 _ := hr.mono (by decide)
    have h64 := hu64 hr
    have hu0 := Nat.lt_of_le_of_lt (Nat.le_add_right _ 64) h64
    refine ⟨_, pss_cons (ps_set (i := 3) scBentIds.nd rfl (Or.inl rfl) (pe_callTy call_list_of (by rfl) nlist (by decide +kernel) (pa_cons (pv 2) pa_nil)))
      (pss_cons (ps_for PassesOwn.never rfl (pi_range1 rfl nrange (pa_cons (pe_op op_add pe_int (pe_call GD hr1 rfl mD kD bD .nil pass0 (pa_cons (pv 0) (pa_cons pe_int pa_nil)))) pa_nil)) (pg_name (i := 4) scBentIds.nd rfl (Or.inl rfl))
        (pss_cons (ps_par (i := 5) (j := 6) (by rfl) scBentIds.nd rfl rfl (by decide) rfl rfl (pa_cons (pe_call GD hr1 rfl mD kD bD .nil pass0 (pa_cons (pv 0) (pa_cons (pe_op op_add (pe_callB call_len_seq (by rfl) nlen PySem.boot_len (pa_cons (pv 3) pa_nil)) pe_int) pa_nil)))
            (pa_cons (pe_call GD hr1 rfl mD kD bD .nil pass0 (pa_cons (pv 0) (pa_cons pe_int pa_nil))) pa_nil)) (by rfl))
        (pss_one (ps_if (PW.pt (pw_or (pt_cmpR op_eq (pv 6) pe_int (nomark _)) (pw_or1 (pt_cmpR (op_eqL0 hu0) (pv 3) (pe_lst pa_nil) (nomark _)))))
          (pss_one (ps_expr (pe_bm PySem.F.plainAttrs_list PySem.F.slot_list_insert PySem.F.type_list_insert mt_insert (pv 3) (pa_cons (pv 5) (pa_cons (pe_call GC hr2 rfl mC kC bC .nil pass0 (pa_cons (pv 0) (pa_cons (pe_op op_cat (pv 1) (pe_lst (pa_cons pe_bl (pa_cons pe_non (pa_cons pe_str (pa_cons pe_int (pa_cons (pe_op op_pow pe_int pe_int) (pa_cons (pe_lst (pa_cons pe_int pa_nil)) (pa_cons pe_dnewK pa_nil))))))))) pa_nil))) pa_nil)))))
          (pss_one (ps_if (pt_cmpR op_eq (pv 6) pe_int (nomark _))
            (pss_one (ps_expr (pe_bm PySem.F.plainAttrs_list PySem.F.slot_list_pop PySem.F.type_list_pop mt_popAt (pv 3) (pa_cons (pe_op op_mod (pv 5) (pe_callB call_len_seq (by rfl) nlen PySem.boot_len (pa_cons (pv 3) pa_nil))) pa_nil))))
            (pss_one (ps_if (pt_cmpR op_eq (pv 6) pe_int (nomark _))
              (pss_one (ps_expr (pe_bm0 PySem.F.plainAttrs_list PySem.F.slot_list_reverse PySem.F.type_list_reverse mt_reverse (pv 3))))
              (pss_one (ps_expr (pe_bm PySem.F.plainAttrs_list PySem.F.slot_list_insert PySem.F.type_list_insert mt_insert (pv 3) (pa_cons (pv 5) (pa_cons (pe_bm PySem.F.plainAttrs_list PySem.F.slot_list_pop PySem.F.type_list_pop mt_popAt (pv 3) (pa_cons (pe_op op_mod (pv 5) (pe_callB call_len_seq (by rfl) nlen PySem.boot_len (pa_cons (pv 3) pa_nil))) pa_nil)) pa_nil)))))))))))))
      (pss_one (ps_ret (pv 3)))), ?_⟩
    have h16 : sizeLine = 16777216 := sizeLine_eq
    refine ⟨_, rfl, q, us, rfl, .inl hq, fun fo hfo => ?_⟩
    have s0 := Same.new (o := .lst us) hfo
    have hF0 : upd H fo (.lst us) fo = some (.lst us) := upd_same
    have D0 := D.same s0
    have hdv0 : DVs K (er (upd H fo (.lst us)) fo) us ds := DVs.same (er_of s0 hfo) hdv
    generalize (upd H fo (.lst us) : Hp) = H0 at s0 hF0 D0 hdv0 ⊢
    have nfd : fo ≠ d := fun e => by
      obtain ⟨x, y, hd2, _⟩ := D
      rw [← e, hfo] at hd2
      cases hd2
    obtain ⟨St, hSt⟩ : ∃ St : Nat → Hp → Prop, St = fun i H' => But d H H' ∧ DeckAt H' d ∧ ∃ us' ds', H' fo = some (.lst us') ∧ DVs K (er H' fo) us' ds' ∧ (∀ e ∈ ds', FineI e) ∧ ds'.length ≤ ds.length + i := ⟨_, rfl⟩
    have put : ∀ (i : Nat) (H1 : Hp) (us1 us2 : List V) (ds2 : List PyData), But d H H1 → DeckAt H1 d → H1 fo = some (.lst us1) → DVs K (er H1 fo) us2 ds2 → (∀ e ∈ ds2, FineI e) → ds2.length ≤ ds.length + (i + 1) → St (i + 1) (upd H1 fo (.lst us2)) := fun i H1 us1 us2 ds2 B1 D1 h1 dv he hl => by
      rw [hSt]
      refine ⟨fun u o hb2 z => by rw [upd_ne (ne_of_none z hfo)]; exact B1 u o hb2 z, ?_, us2, ds2, upd_same, by rw [er_upd]; exact dv, he, hl⟩
      obtain ⟨x, y, hd, r⟩ := D1
      exact ⟨x, y, by rw [upd_ne nfd.symm]; exact hd, r⟩
    refine ⟨_, rfl, d, 2, rfl, D0, by decide, by decide, fun r1 H1 r10 r11 D1 B1 => ?_⟩
    have st1 : St 0 H1 := by
      rw [hSt]
      exact ⟨(But.of s0).trans B1, D1, us, ds, B1.lst D0 hF0, DVs.but (er_deck hF0 D0) (er_but B1) hdv0, hE, by omega⟩
    obtain ⟨m1, rfl⟩ : ∃ m : Nat, r1 = (m : Int) := ⟨r1.toNat, by omega⟩
    refine ⟨_, _, rfl, rfl, 1 + (m1 : Int), rfl, by omega, by omega, ?_⟩
    refine for_range (lo := 0) (n := 1 + m1) (fun i σ H' => (∃ v4 v5 v6 : Option V, σ = [some (.ref d), some (.ref b), some (.ref q), some (.ref fo), v4, v5, v6]) ∧ St i H') ⟨⟨none, none, none, rfl⟩, st1⟩ ?_ ?_
    · rintro i σ H2 hi ⟨⟨v4, v5, v6, rfl⟩, hs2⟩
      rw [hSt] at hs2
      obtain ⟨B2, D2, us2, ds2, hF2, dv2, he2, hl2⟩ := hs2
      have hul : us2.length = ds2.length := dv2.length
      refine ⟨_, rfl, _, rfl, fo, us2, rfl, .inl (SqL.of hF2), _, _, rfl, rfl, d, us2.length + 1, rfl, D2, by omega, by omega, fun z H3 z0 z1 D3 B3 => ?_⟩
      obtain ⟨a, rfl⟩ : ∃ m : Nat, z = (m : Int) := ⟨z.toNat, by omega⟩
      refine ⟨_, rfl, d, 5, rfl, D3, by decide, by decide, fun wy H4 w0 w1 D4 B4 => ⟨_, _, rfl, ?_⟩⟩
      have B34 := B3.trans B4
      have hF4 : H4 fo = some (.lst us2) := B34.lst D2 hF2
      have dv4 : DVs K (er H4 fo) us2 ds2 := DVs.but (er_deck hF2 D2) (er_but B34) dv2
      have BH4 := B2.trans B34
      have ins : ∀ (us1 : List V) (ds1 : List PyData) (H7 : Hp) (y : V) (e : PyData), DVs K (er H7 fo) us1 ds1 → DV K (er H7 fo) y e → (∀ e ∈ ds1, FineI e) → FineI e → ds1.length ≤ ds.length + i → But d H H7 → DeckAt H7 d → H7 fo = some (.lst us1) → St (i + 1) (upd H7 fo (.lst (us1.take ((a : Int)).toNat ++ [y] ++ us1.drop ((a : Int)).toNat))) := fun us1 ds1 H7 y e d1 d2 g1 g2 g3 g4 g5 g6 => by
        refine put i H7 us1 _ (ds1.take a ++ [e] ++ ds1.drop a) g4 g5 g6 ?_ (fun z hz => ?_) ?_
        · rw [Int.toNat_natCast]
          exact DVs.append (DVs.append (d1.take a) (.cons d2 .nil)) (d1.drop a)
        · rcases List.mem_append.mp hz with q | q
          · rcases List.mem_append.mp q with q | q
            · exact g1 z (List.mem_of_mem_take q)
            · rw [List.mem_singleton.mp q]; exact g2
          · exact g1 z (List.mem_of_mem_drop q)
        · simp only [List.length_append, List.length_take, List.length_drop, List.length_cons, List.length_nil]; omega
      have hlen4 : us2.length ≤ 400 := by omega
      refine ⟨_, rfl, rfl, _, rfl, ite2 (fun _ => ?_) (fun _ => ?_)⟩
      · have cp6 : CPow 10 6 := ⟨by decide, by decide, by decide⟩
        have hbX : H4 b = some (.lst (bs.map V.int)) := BH4.lst D hb
        refine ⟨_, rfl, .inl ⟨rfl, _, SqL.of hF4⟩, _, rfl, _, rfl, _, rfl, _, _, rfl, rfl, cp6, by show 1 ≤ sizeLine; decide, fun q2 h2 => ?_⟩
        have u2 := Same.new (o := .lst [V.int 5]) h2
        have g2 : upd H4 q2 (.lst [V.int 5]) q2 = some (.lst [V.int 5]) := upd_same
        generalize (upd H4 q2 (.lst [V.int 5]) : Hp) = Ha at u2 g2 ⊢
        intro q3 h3
        have u3 := Same.new (o := .dK []) h3
        have g3 : upd Ha q3 (.dK []) q3 = some (.dK []) := upd_same
        generalize (upd Ha q3 (.dK []) : Hp) = Hb at u3 g3 ⊢
        have z6 : (10 ^ (6 : Int).toNat : Int) = 1000000 := by decide
        refine ⟨by show 7 ≤ sizeLine; decide, fun q4 h4 => ?_⟩
        have u4 := Same.new (o := .lst [.bl true, .non, .str "1", V.int 0, .int (10 ^ (6 : Int).toNat), .ref q2, .ref q3]) h4
        have g4 : upd Hb q4 (.lst [.bl true, .non, .str "1", V.int 0, .int (10 ^ (6 : Int).toNat), .ref q2, .ref q3]) q4 = some (.lst [.bl true, .non, .str "1", V.int 0, .int (10 ^ (6 : Int).toNat), .ref q2, .ref q3]) := upd_same
        generalize (upd Hb q4 (.lst [.bl true, .non, .str "1", V.int 0, .int (10 ^ (6 : Int).toNat), .ref q2, .ref q3]) : Hp) = Hc at u4 g4 ⊢
        refine ⟨b, q4, _, _, rfl, rfl, u4 _ _ (u3 _ _ (u2 _ _ hbX)), g4, by rw [List.length_map, h16]; show _ + 7 ≤ _; omega, fun q5 h5 => ?_⟩
        have u5 := Same.new (o := .lst (bs.map V.int ++ [.bl true, .non, .str "1", V.int 0, .int (10 ^ (6 : Int).toNat), .ref q2, .ref q3])) h5
        have g5 : upd Hc q5 (.lst (bs.map V.int ++ [.bl true, .non, .str "1", V.int 0, .int (10 ^ (6 : Int).toNat), .ref q2, .ref q3])) q5 = some (.lst (bs.map V.int ++ [.bl true, .non, .str "1", V.int 0, .int (10 ^ (6 : Int).toNat), .ref q2, .ref q3])) := upd_same
        generalize (upd Hc q5 (.lst (bs.map V.int ++ [.bl true, .non, .str "1", V.int 0, .int (10 ^ (6 : Int).toNat), .ref q2, .ref q3])) : Hp) = Hd at u5 g5 ⊢
        have uX := u2.trans (u3.trans (u4.trans u5))
        have Dd := D4.same uX
        have Bd := BH4.trans (But.of uX)
        refine ⟨d, q5, _, rfl, Dd, SqL.of g5, (fun z => by simp at z), (by rw [List.length_append, List.length_map]; show _ + 7 < 1000000; omega), fun y He hy De Be => ?_⟩
        have Bz := Bd.trans Be
        have hFe : He fo = some (.lst us2) := (Be.lst Dd (uX _ _ hF4))
        have dve : DVs K (er He fo) us2 ds2 := DVs.but (er_deck hF4 D4) (er_but ((But.of uX).trans Be)) dv4
        obtain ⟨dy, hyd, hyf⟩ : ∃ dy, DV K (er He fo) y dy ∧ FineI dy := by
          have n2 : q2 ≠ fo := (ne_of_none hF4 h2).symm
          have n3 : q3 ≠ fo := (ne_of_none (u2 _ _ hF4) h3).symm
          have n3d : q3 ≠ d := fun e => by
            obtain ⟨x, y, hd3, _⟩ := D4.same u2
            rw [← e, h3] at hd3
            cases hd3
          have g2e : er He fo q2 = some (.lst [V.int 5]) := er_at (Be.lst Dd (u5 _ _ (u4 _ _ (u3 _ _ g2)))) n2
          have g3e : er He fo q3 = some (.dK []) := er_at (Be _ _ n3d (u5 _ _ (u4 _ _ g3))) n3
          rcases List.mem_append.mp hy with hy | hy
          · obtain ⟨x, hx, rfl⟩ := List.mem_map.mp hy
            exact ⟨.int x, .int _, fine_int (hbb x hx)⟩
          rcases List.mem_cons.mp hy with rfl | hy
          · exact ⟨.bool true, .bl _, by decide, by decide, by decide⟩
          rcases List.mem_cons.mp hy with rfl | hy
          · exact ⟨.none, .non, by decide, by decide, by decide⟩
          rcases List.mem_cons.mp hy with rfl | hy
          · exact ⟨.str "1", .str _, by decide, by decide +kernel, by decide⟩
          rcases List.mem_cons.mp hy with rfl | hy
          · exact ⟨.int 0, .int _, by decide, by decide, by decide⟩
          rcases List.mem_cons.mp hy with rfl | hy
          · rw [z6]; exact ⟨.int 1000000, .int _, by decide, by decide, by decide⟩
          rcases List.mem_cons.mp hy with rfl | hy
          · exact ⟨.list [.int 5], .lst (SqL.of g2e) (.cons (.int _) .nil), by decide, by decide, by decide⟩
          rcases List.mem_cons.mp hy with rfl | hy
          · exact ⟨.dict [], .dk0 g3e, by decide, by decide, by decide⟩
          · cases hy
        refine ⟨fo, us2, (a : Int), y, rfl, rfl, hFe, by omega, by omega, by omega, ?_⟩
        exact ⟨⟨_, _, _, rfl⟩, ins us2 ds2 He y dy dve hyd he2 hyf hl2 Bz De hFe⟩
      refine ⟨_, rfl, Nat.zero_le _, fun q0 hq0 => ?_⟩
      have sq0 := Same.new (o := .lst []) hq0
      refine ⟨fo, q0, us2, rfl, rfl, SqL.of (sq0 _ _ hF4), SqL.of upd_same, _, rfl, ?_⟩
      have D5 := D4.same sq0
      have B5 := BH4.trans (But.of sq0)
      have hF5 := sq0 _ _ hF4
      have dv5 : DVs K (er (upd H4 q0 (.lst [])) fo) us2 ds2 := DVs.same (er_same sq0) dv4
      generalize (upd H4 q0 (.lst []) : Hp) = H5 at sq0 D5 B5 hF5 dv5 ⊢
      by_cases hnil : us2 = []
      · have he : us2.isEmpty = true := by rw [hnil]; rfl
        rw [he]
        refine iteT ?_
        have cp6 : CPow 10 6 := ⟨by decide, by decide, by decide⟩
        have hbX : H5 b = some (.lst (bs.map V.int)) := B5.lst D hb
        refine ⟨_, rfl, .inl ⟨rfl, _, SqL.of hF5⟩, _, rfl, _, rfl, _, rfl, _, _, rfl, rfl, cp6, by show 1 ≤ sizeLine; decide, fun q2 h2 => ?_⟩
        have u2 := Same.new (o := .lst [V.int 5]) h2
        have g2 : upd H5 q2 (.lst [V.int 5]) q2 = some (.lst [V.int 5]) := upd_same
        generalize (upd H5 q2 (.lst [V.int 5]) : Hp) = Ha at u2 g2 ⊢
        intro q3 h3
        have u3 := Same.new (o := .dK []) h3
        have g3 : upd Ha q3 (.dK []) q3 = some (.dK []) := upd_same
        generalize (upd Ha q3 (.dK []) : Hp) = Hb at u3 g3 ⊢
        have z6 : (10 ^ (6 : Int).toNat : Int) = 1000000 := by decide
        refine ⟨by show 7 ≤ sizeLine; decide, fun q4 h4 => ?_⟩
        have u4 := Same.new (o := .lst [.bl true, .non, .str "1", V.int 0, .int (10 ^ (6 : Int).toNat), .ref q2, .ref q3]) h4
        have g4 : upd Hb q4 (.lst [.bl true, .non, .str "1", V.int 0, .int (10 ^ (6 : Int).toNat), .ref q2, .ref q3]) q4 = some (.lst [.bl true, .non, .str "1", V.int 0, .int (10 ^ (6 : Int).toNat), .ref q2, .ref q3]) := upd_same
        generalize (upd Hb q4 (.lst [.bl true, .non, .str "1", V.int 0, .int (10 ^ (6 : Int).toNat), .ref q2, .ref q3]) : Hp) = Hc at u4 g4 ⊢
        refine ⟨b, q4, _, _, rfl, rfl, u4 _ _ (u3 _ _ (u2 _ _ hbX)), g4, by rw [List.length_map, h16]; show _ + 7 ≤ _; omega, fun q5 h5 => ?_⟩
        have u5 := Same.new (o := .lst (bs.map V.int ++ [.bl true, .non, .str "1", V.int 0, .int (10 ^ (6 : Int).toNat), .ref q2, .ref q3])) h5
        have g5 : upd Hc q5 (.lst (bs.map V.int ++ [.bl true, .non, .str "1", V.int 0, .int (10 ^ (6 : Int).toNat), .ref q2, .ref q3])) q5 = some (.lst (bs.map V.int ++ [.bl true, .non, .str "1", V.int 0, .int (10 ^ (6 : Int).toNat), .ref q2, .ref q3])) := upd_same
        generalize (upd Hc q5 (.lst (bs.map V.int ++ [.bl true, .non, .str "1", V.int 0, .int (10 ^ (6 : Int).toNat), .ref q2, .ref q3])) : Hp) = Hd at u5 g5 ⊢
        have uX := u2.trans (u3.trans (u4.trans u5))
        have Dd := D5.same uX
        have Bd := B5.trans (But.of uX)
        refine ⟨d, q5, _, rfl, Dd, SqL.of g5, (fun z => by simp at z), (by rw [List.length_append, List.length_map]; show _ + 7 < 1000000; omega), fun y He hy De Be => ?_⟩
        have Bz := Bd.trans Be
        have hFe : He fo = some (.lst us2) := (Be.lst Dd (uX _ _ hF5))
        have dve : DVs K (er He fo) us2 ds2 := DVs.but (er_deck hF5 D5) (er_but ((But.of uX).trans Be)) dv5
        obtain ⟨dy, hyd, hyf⟩ : ∃ dy, DV K (er He fo) y dy ∧ FineI dy := by
          have n2 : q2 ≠ fo := (ne_of_none hF5 h2).symm
          have n3 : q3 ≠ fo := (ne_of_none (u2 _ _ hF5) h3).symm
          have n3d : q3 ≠ d := fun e => by
            obtain ⟨x, y, hd3, _⟩ := D5.same u2
            rw [← e, h3] at hd3
            cases hd3
          have g2e : er He fo q2 = some (.lst [V.int 5]) := er_at (Be.lst Dd (u5 _ _ (u4 _ _ (u3 _ _ g2)))) n2
          have g3e : er He fo q3 = some (.dK []) := er_at (Be _ _ n3d (u5 _ _ (u4 _ _ g3))) n3
          rcases List.mem_append.mp hy with hy | hy
          · obtain ⟨x, hx, rfl⟩ := List.mem_map.mp hy
            exact ⟨.int x, .int _, fine_int (hbb x hx)⟩
          rcases List.mem_cons.mp hy with rfl | hy
          · exact ⟨.bool true, .bl _, by decide, by decide, by decide⟩
          rcases List.mem_cons.mp hy with rfl | hy
          · exact ⟨.none, .non, by decide, by decide, by decide⟩
          rcases List.mem_cons.mp hy with rfl | hy
          · exact ⟨.str "1", .str _, by decide, by decide +kernel, by decide⟩
          rcases List.mem_cons.mp hy with rfl | hy
          · exact ⟨.int 0, .int _, by decide, by decide, by decide⟩
          rcases List.mem_cons.mp hy with rfl | hy
          · rw [z6]; exact ⟨.int 1000000, .int _, by decide, by decide, by decide⟩
          rcases List.mem_cons.mp hy with rfl | hy
          · exact ⟨.list [.int 5], .lst (SqL.of g2e) (.cons (.int _) .nil), by decide, by decide, by decide⟩
          rcases List.mem_cons.mp hy with rfl | hy
          · exact ⟨.dict [], .dk0 g3e, by decide, by decide, by decide⟩
          · cases hy
        refine ⟨fo, us2, (a : Int), y, rfl, rfl, hFe, by omega, by omega, by omega, ?_⟩
        exact ⟨⟨_, _, _, rfl⟩, ins us2 ds2 He y dy dve hyd he2 hyf hl2 Bz De hFe⟩
      have he : us2.isEmpty = false := by
        cases us2 with
        | nil => exact absurd rfl hnil
        | cons _ _ => rfl
      rw [he]
      refine iteF ?_
      have hpos : 0 < us2.length := List.length_pos_iff.mpr hnil
      obtain ⟨n, hn⟩ : ∃ n, n = a % us2.length := ⟨_, rfl⟩
      have hnl : n < us2.length := by rw [hn]; exact Nat.mod_lt _ hpos
      have ek : (a : Int) % ((us2.length : Nat) : Int) = (n : Int) := by rw [hn]; exact (Int.natCast_emod a us2.length).symm
      obtain ⟨y, hy⟩ : ∃ y, us2[n]? = some y := ⟨_, List.getElem?_eq_getElem hnl⟩
      obtain ⟨e, hey, hye⟩ := dv5.at hy
      have hem := List.mem_of_getElem? hey
      have eer : us2.eraseIdx n = us2.take n ++ us2.drop (n + 1) := List.eraseIdx_eq_take_drop_succ us2 n
      have dve : DVs K (er H5 fo) (us2.eraseIdx n) (ds2.take n ++ ds2.drop (n + 1)) := by
        rw [eer]
        exact DVs.append (dv5.take n) (dv5.drop (n + 1))
      have hee : ∀ z ∈ ds2.take n ++ ds2.drop (n + 1), FineI z := fun z hz => by
        rcases List.mem_append.mp hz with q | q
        · exact he2 z (List.mem_of_mem_take q)
        · exact he2 z (List.mem_of_mem_drop q)
      have hle : (ds2.take n ++ ds2.drop (n + 1)).length ≤ ds.length + i := by
        simp only [List.length_append, List.length_take, List.length_drop]; omega
      have gone : St (i + 1) (upd H5 fo (.lst (us2.eraseIdx n))) := put i H5 us2 _ _ B5 D5 hF5 dve hee (by omega)
      -- one less
      refine ⟨_, rfl, rfl, _, rfl, ite2 (fun _ => ?_) (fun _ => ?_)⟩
      · refine ⟨_, rfl, .inl ⟨rfl, _, SqL.of hF5⟩, _, rfl, _, rfl, fo, us2, rfl, .inl (SqL.of hF5), _, _, rfl, rfl, by show (0 : Int) < _; omega, ?_⟩
        refine ⟨fo, us2, _, n, y, rfl, rfl, hF5, by rw [ek]; omega, by rw [ek]; omega, by rw [ek]; exact seqIndex_natC hnl, hy, ?_⟩
        exact ⟨⟨_, _, _, rfl⟩, gone⟩
      -- reversed
      refine ⟨_, rfl, rfl, _, rfl, ite2 (fun _ => ?_) (fun _ => ?_)⟩
      · refine ⟨_, rfl, .inl ⟨rfl, _, SqL.of hF5⟩, fo, us2, rfl, rfl, hF5, ?_⟩
        exact ⟨⟨_, _, _, rfl⟩, put i H5 us2 _ ds2.reverse B5 D5 hF5 (DVs.rev dv5) (fun z hz => he2 z (List.mem_reverse.mp hz)) (by rw [List.length_reverse]; omega)⟩
      -- one moved
      refine ⟨_, rfl, .inl ⟨rfl, _, SqL.of hF5⟩, _, rfl, _, rfl, .inl ⟨rfl, _, SqL.of hF5⟩, _, rfl, _, rfl, fo, us2, rfl, .inl (SqL.of hF5), _, _, rfl, rfl, by show (0 : Int) < _; omega, ?_⟩
      refine ⟨fo, us2, _, n, y, rfl, rfl, hF5, by rw [ek]; omega, by rw [ek]; omega, by rw [ek]; exact seqIndex_natC hnl, hy, ?_⟩
      have hF6 : upd H5 fo (.lst (us2.eraseIdx n)) fo = some (.lst (us2.eraseIdx n)) := upd_same
      have hg2 := gone
      rw [hSt] at hg2
      obtain ⟨B6, D6, _⟩ := hg2
      have er6 : er (upd H5 fo (.lst (us2.eraseIdx n))) fo = er H5 fo := er_upd
      refine ⟨fo, us2.eraseIdx n, (a : Int), y, rfl, rfl, hF6, by rw [List.length_eraseIdx, if_pos hnl]; omega, by omega, by omega, ?_⟩
      exact ⟨⟨_, _, _, rfl⟩, ins _ _ _ y e (by rw [er6]; exact dve) (by rw [er6]; exact hye) hee (he2 e hem) hle B6 D6 hF6⟩
    · rintro σ H2 ⟨⟨v4, v5, v6, rfl⟩, hs2⟩
      rw [hSt] at hs2
      obtain ⟨B2, D2, us2, ds2, hF2, dv2, he2, hl2⟩ := hs2
      exact ⟨_, rfl, k fo us2 ds2 H2 hfo B2 D2 hF2 (DVs.same er_le dv2) he2 (by omega)⟩
end
/-! ### is_best of the best set and the level cover for the exact weights -/
theorem wt_tab {f : Int → Int} {ids : List Int} {x : Int} (h : x ∈ ids) : wtI (some (tabP f ids)) x = f x := by
  show (anOf (tabP f ids) x).getD 1 = f x
  rw [tab_an h]; rfl
theorem sum_tab {f : Int → Int} {ids s : List Int} (h : ∀ x ∈ s, x ∈ ids) : (s.map (wtI (some (tabP f ids)))).sum = (s.map f).sum := by
  congr 1
  exact List.map_congr_left fun x hx => wt_tab (h x hx)
theorem best_is_best {bs ids fav : List Int} {wo : Option (List (Int × Int))} (nb : bs.Nodup) (nd : ids.Nodup) (sub : ∀ x ∈ ids, x ∈ bs) (hw : ∀ x ∈ ids, 1 ≤ wtI wo x) :
    isBestB bs ids ((bestF bs ids (worthI wo ids.length fav)).map .int) ((lvl (ixI bs) (wtI (some (tabP (exactI wo fav ids) ids))) ids).map encR) wo fav = true := by
  obtain ⟨we, hwe⟩ : ∃ we, we = wtI (some (tabP (exactI wo fav ids) ids)) := ⟨_, rfl⟩
  have hwp : ∀ x ∈ ids, 0 < we x := fun x hx => by rw [hwe, wt_tab hx]; exact exact_pos (hw x hx)
  obtain ⟨c1, c2, _⟩ := best_main (wf := worthI wo ids.length fav) nb nd sub fun x hx => worth_pos (hw x hx)
  obtain ⟨b1, b2, b3⟩ := best_main (wf := we) nb nd sub hwp
  have eb : bestF bs ids we = bestF bs ids (worthI wo ids.length fav) := by
    rcases exact_alone (fav := fav) nb nd sub hw b1 b2 with h | h
    · exact h
    · have := (b3 _ c1 c2).1
      rw [hwe, sum_tab (fun x hx => c1.subset hx), sum_tab (fun x hx => by rw [← hwe] at hx; exact b1.subset hx), ← hwe] at this
      omega
  have es := (best_size (wf := we) nb nd sub hwp).1
  rw [eb] at es
  unfold isBestB
  have ch1 : isChainB ids ((bestF bs ids (worthI wo ids.length fav)).map .int) = true := chain_ints (fun z hz => c1.subset hz) (List.pairwise_map.mpr ((ix_up nd).sublist c1))
  have ch2 : isChainB bs ((bestF bs ids (worthI wo ids.length fav)).map .int) = true := chain_ints (fun z hz => sub z (c1.subset hz)) (List.pairwise_map.mpr c2)
  rw [ch1, ch2, lvl_isCover nb nd sub (fun x hx => by rw [← hwe]; exact hwp x hx), runs_dec]
  have ei : ((bestF bs ids (worthI wo ids.length fav)).map PyData.int).map intOf = bestF bs ids (worthI wo ids.length fav) := by
    rw [List.map_map]
    exact List.map_id _
  rw [ei, ← hwe, Bool.true_and, Bool.true_and, Bool.true_and]
  refine decide_eq_true ?_
  unfold sumW
  rw [← hwe]
  exact es.symm
theorem exact_small {wo : Option (List (Int × Int))} {fav ids : List Int} {x : Int} (hl : ids.length ≤ 8) (h0 : 1 ≤ wtI wo x) (h1 : wtI wo x ≤ 9) : 0 ≤ exactI wo fav ids x ∧ exactI wo fav ids x ≤ 22000 := by
  have a1 : 1 ≤ worthI wo ids.length fav x := by
    have := worth_pos (n := ids.length) (fav := fav) h0
    omega
  have a2 : worthI wo ids.length fav x ≤ 82 := by
    unfold worthI
    have : wtI wo x * ((ids.length : Int) + 1) ≤ 9 * 9 := Int.mul_le_mul h1 (by omega) (by omega) (by decide)
    split <;> omega
  have p2 : (2 : Int) ^ ids.length ≤ 256 := by
    have : (2 : Nat) ^ ids.length ≤ 2 ^ 8 := Nat.pow_le_pow_right (by decide) hl
    have h2 := Int.ofNat_le.mpr this
    rw [Int.natCast_pow] at h2
    exact h2
  have p1 := pow_pos2 ids.length
  have q2 : (2 : Int) ^ (ids.length - 1 - ids.idxOf x) ≤ 256 := by
    have : (2 : Nat) ^ (ids.length - 1 - ids.idxOf x) ≤ 2 ^ 8 := Nat.pow_le_pow_right (by decide) (by omega)
    have h2 := Int.ofNat_le.mpr this
    rw [Int.natCast_pow] at h2
    exact h2
  have q1 := pow_pos2 (ids.length - 1 - ids.idxOf x)
  have m2 : worthI wo ids.length fav x * 2 ^ ids.length ≤ 82 * 256 := Int.mul_le_mul a2 p2 (by omega) (by decide)
  have m1 : 1 * 1 ≤ worthI wo ids.length fav x * 2 ^ ids.length := Int.mul_le_mul a1 p1 (by decide) (by omega)
  unfold exactI
  omega
theorem fines_facts : ∀ {ds : List PyData}, (∀ e ∈ ds, FineI e) → okWs ds = true ∧ szWs ds ≤ ds.length * 702 ∧ PyData.depthAll ds ≤ 3
  | [], _ => ⟨by rw [okWs], by rw [szWs]; omega, by rw [PyData.depthAll]; omega⟩
  | d :: ds, h => by
    obtain ⟨a, b, c⟩ := fines_facts fun e he => h e (List.mem_cons_of_mem _ he)
    have hd := h d List.mem_cons_self
    have h1 := hd.sz
    have h2 := hd.dep
    refine ⟨by rw [okWs, hd.ok, a]; rfl, ?_, by rw [PyData.depthAll]; omega⟩
    rw [szWs, List.length_cons, Nat.add_mul]
    omega
theorem rok_six {js ids : List Int} {dq ds : List PyData} {wd fd : PyData} {S L M : Nat} (bj : ∀ z ∈ js, 0 ≤ z ∧ z ≤ 1000000) (bi : ∀ z ∈ ids, 0 ≤ z ∧ z ≤ 1000000) (nj : js.length ≤ 40) (ni : ids.length ≤ 40) (hF : ∀ e ∈ dq, FineI e) (nq : dq.length ≤ 20) (hE : ∀ e ∈ ds, EltD S L M e) (hs : ds.length * (S + 2) ≤ 500000) (w : RokL wd) (v : RokL fd) :
    RokP (.tuple [.list (js.map .int), .list (ids.map .int), .list dq, .list ds, wd, fd]) := by
  obtain ⟨a, b, c⟩ := elts_facts hE
  obtain ⟨a', b', c'⟩ := fines_facts hF
  obtain ⟨o1, o2⟩ := ints_okW js bj
  obtain ⟨p1, p2⟩ := ints_okW ids bi
  have wo := w.o
  have wdp := w.dep
  have wsz := w.sz
  have vo := v.o
  have vdp := v.dep
  have vsz := v.sz
  refine ⟨?_, ?_, ?_⟩
  · rw [okW, okWs, okWs, okWs, okWs, okWs, okWs, okWs, okW, okW, okW, okW, o1, p1, a, a', wo, vo]; rfl
  · rw [PyData.depth, PyData.depthAll, PyData.depthAll, PyData.depthAll, PyData.depthAll, PyData.depthAll, PyData.depthAll, PyData.depthAll, PyData.depth, PyData.depth, PyData.depth, PyData.depth, PySem.W.depth_ints, PySem.W.depth_ints]
    omega
  · rw [szW, szWs, szWs, szWs, szWs, szWs, szWs, szWs, szW, szW, szW, szW, o2, p2]
    omega
structure TxtL (mg : Str → Option Value) : Prop where
  range : mg "range" = none
  max : mg "max" = none
  min : mg "min" = none
  repr : mg "repr" = none
  isi : mg "isinstance" = none
  bool : mg "bool" = none
section
variable {P : Program} {w : World} {K : PySem.W.Frag} {mg : Str → Option Value} {base : Heap}
def spLaw (K : PySem.W.Frag) : Sp := fun vs H Q _ => ∃ (a : Addr) (ns : List Int), vs = [.ref a] ∧ SqL K H a (ns.map V.int) ∧ ns.length ≤ 63 ∧ (∀ z ∈ ns, Builtin.Int.intBits z ≤ 1048576) ∧ ∀ H', Q (.bl true) H'
abbrev NL : List Str := ["script", "start", "tape", "turn", "base", "goal", "loads", "liked", "exact", "best", "cover", "look", "ids", "some", "held", "kept", "told", "right"]
theorem scLaw : FnScope NL ["script"] (defScope sLaw) := ⟨rfl, rfl, rfl, by decide +kernel, rfl, by decide +kernel, by decide +kernel⟩
abbrev Wq : List Str := ["base", "goal", "weights", "favoured"]
abbrev Wi : List Str := ["base", "goal", "ids", "cover", "weights", "favoured"]
theorem ok_law {f fDe fDr fI fG fLo fLi fB fV fM fX fBi fBc fR eT eI : Addr} {fd fdDe fdDr fdI fdG fdLo fdLi fdB fdV fdM fdX fdBi fdBc fdR : FuncData} (F : Fun K "law" "law" sLaw f fd) (TD : TxtD mg) (TL : TxtL mg)
    (De : Fn K mg "_law_tape" sDeck ["script", "start"] fDe fdDe) (Dr : Fn K mg "_law_pick" sDraw ["tape", "size"] fDr fdDr) (Id : Fn K mg "_law_ids" sIds ["tape", "size"] fI fdI) (GI : FnOk P w K mg base CX0 3 fI fdI ["tape", "size"] spIds)
    (Go : Fn K mg "_law_goal" sGoal ["tape", "base"] fG fdG) (GG : FnOk P w K mg base CX0 3 fG fdG ["tape", "base"] (spGoal K))
    (Lo : Fn K mg "_law_loads" sLoads ["tape", "base", "most"] fLo fdLo) (GLo : FnOk P w K mg base CX0 3 fLo fdLo ["tape", "base", "most"] (spLoads K))
    (Li : Fn K mg "_law_liked" sLiked ["tape", "base"] fLi fdLi) (GLi : FnOk P w K mg base CX0 3 fLi fdLi ["tape", "base"] (spLiked K))
    (Be : FnD P w K mg base 3 2 "best_straight" Wq ["weights", "favoured"] [.non, .ref eT] (spBest K) fB fdB)
    (Cv : FnD P w K mg base 3 2 "level_cover" ["base", "goal", "weights"] ["weights"] [.non] (spCover K) fV fdV)
    (Ib : FnD P w K mg base 5 4 "is_best" Wi ["weights", "favoured"] [.non, .ref eI] (spIsBest K) fM fdM) (hE0 : ∀ H : Hp, SqT K H eI [])
    (Xl : Fn K mg "_law_exact" sLawExact ["goal", "loads", "liked"] fX fdX) (GX : FnOk P w K mg base CX0 2 fX fdX ["goal", "loads", "liked"] (spExL K))
    (Bi : Fn K mg "_law_bent_ids" sBentIds ["tape", "base", "ids"] fBi fdBi) (GBi : FnOk P w K mg base CX0 3 fBi fdBi ["tape", "base", "ids"] (spBentIds K))
    (Bc : Fn K mg "_law_bent_cover" sBentCov ["tape", "base", "cover"] fBc fdBc) (GBc : FnOk P w K mg base CX0 4 fBc fdBc ["tape", "base", "cover"] (spBentCov K))
    (Ri : Fn K mg "_law_is_right" sIsRight ["base", "goal", "ids", "cover", "exact"] fR fdR) (GR : FnOk P w K mg base CX0 4 fR fdR ["base", "goal", "ids", "cover", "exact"] (spRight K)) : FnG P w K mg base 6 f fd ["script"] (spLaw K) := by
  have GDe : FnOk P w K mg base CX0 1 fDe fdDe ["script", "start"] (spDeck K) := ok_deck De.F TD
  have GDr : FnOk P w K mg base CX0 1 fDr fdDr ["tape", "size"] spDraw := ok_draw Dr.F
  obtain ⟨dsI, vI, bI⟩ := Ib.d
  refine FnG.mk' F scLaw (fun vs H Q E h => ?_) (fun cdv A outer s H vs Q E hg hr h => ?_)
  · obtain ⟨a, ns, rfl, _⟩ := h
    rfl
  · obtain ⟨a, ns, rfl, hS, hlen, hbits, k⟩ := h
    have hr1 : Room 1 _ := hr.mono (by decide)
    have hr2 : Room 2 _ := hr.mono (by decide)
    have hr3 : Room 3 _ := hr.mono (by decide)
    have hr4 : Room 4 _ := hr.mono (by decide)
    have hr5 : Room 5 _ := hr.mono (by decide)
    have h64 := hu64 hr
    have hu := hu_of hr
    refine ⟨_, pss_cons (ps_for PassesOwn.never rfl (pi_range1 rfl TL.range (pa_cons (pe_callB (call_max2 rfl) (by rfl) TL.max (by decide +kernel) (pa_cons pe_int (pa_cons (pe_callB (call_min2 rfl) (by rfl) TL.min (by decide +kernel)
          (pa_cons pe_int (pa_cons (pe_callB call_len_seq (by rfl) TD.len PySem.boot_len (pa_cons (pv 0) pa_nil)) pa_nil))) pa_nil))) pa_nil)) (pg_name (i := 1) scLaw.nd rfl (Or.inl rfl))
        (pss_cons (ps_set (i := 2) scLaw.nd rfl (Or.inl rfl) (pe_call GDe hr1 rfl De.m De.F.kp De.b .nil pass0 (pa_cons (pv 0) (pa_cons (pv 1) pa_nil))))
        (pss_one (ps_for PassesOwn.never rfl (pi_range1 rfl TL.range (pa_cons pe_int pa_nil)) (pg_name (i := 3) scLaw.nd rfl (Or.inl rfl))
          (pss_cons (ps_set (i := 4) scLaw.nd rfl (Or.inl rfl) (pe_call GI hr3 rfl Id.m Id.F.kp Id.b .nil pass0 (pa_cons (pv 2) (pa_cons (pe_op op_add pe_int (pe_call GDr hr1 rfl Dr.m Dr.F.kp Dr.b .nil pass0 (pa_cons (pv 2) (pa_cons pe_int pa_nil)))) pa_nil))))
          (pss_cons (ps_par3 (i := 5) (j := 6) (l := 7) (by rfl) scLaw.nd rfl rfl rfl (by decide) (by decide) (by decide) rfl rfl rfl (pa_cons (pe_call GG hr3 rfl Go.m Go.F.kp Go.b .nil pass0 (pa_cons (pv 2) (pa_cons (pv 4) pa_nil))) (pa_cons (pe_call GLo hr3 rfl Lo.m Lo.F.kp Lo.b .nil pass0 (pa_cons (pv 2) (pa_cons (pv 4) (pa_cons pe_int pa_nil)))) (pa_cons (pe_call GLi hr3 rfl Li.m Li.F.kp Li.b .nil pass0 (pa_cons (pv 2) (pa_cons (pv 4) pa_nil))) pa_nil))) (by rfl))
          (pss_cons (ps_set (i := 8) scLaw.nd rfl (Or.inl rfl) (pe_call GX hr2 rfl Xl.m Xl.F.kp Xl.b .nil pass0 (pa_cons (pv 5) (pa_cons (pv 6) (pa_cons (pv 7) pa_nil)))))
          (pss_cons (ps_set (i := 9) scLaw.nd rfl (Or.inl rfl) (pe_callN Be.G hr3 rfl Be.m Be.kp Be.b pass0 (pa_cons (pv 4) (pa_cons (pv 5) pa_nil)) (pk_cons (pv 6) (pk_cons (pv 7) pk_nil))))
          (pss_cons (ps_set (i := 10) scLaw.nd rfl (Or.inl rfl) (pe_callN Cv.G hr3 rfl Cv.m Cv.kp Cv.b pass0 (pa_cons (pv 4) (pa_cons (pv 5) pa_nil)) (pk_cons (pv 8) pk_nil)))
          (pss_cons (ps_if (pt_cmpR op_notBl (pe_callN Ib.G hr5 rfl Ib.m Ib.kp Ib.b pass0 (pa_cons (pv 4) (pa_cons (pv 5) (pa_cons (pv 9) (pa_cons (pv 10) pa_nil)))) (pk_cons (pv 6) (pk_cons (pv 7) pk_nil))) pe_bl (nomark _)) (pss_one (ps_ret pe_bl)) pss_nil)
          (pss_one (ps_for PassesOwn.never rfl (pi_range1 rfl TL.range (pa_cons pe_int pa_nil)) (pg_name (i := 11) scLaw.nd rfl (Or.inl rfl))
            (pss_cons (ps_par (i := 12) (j := 13) (by rfl) scLaw.nd rfl rfl (by decide) rfl rfl (pa_cons (pv 9) (pa_cons (pv 10) pa_nil)) (by rfl))
            (pss_cons (ps_if (pt_cmpR op_eq (pe_op op_mod (pv 11) pe_int) pe_int (nomark _)) (pss_one (ps_set (i := 12) scLaw.nd rfl (Or.inl rfl) (pe_call GBi hr3 rfl Bi.m Bi.F.kp Bi.b .nil pass0 (pa_cons (pv 2) (pa_cons (pv 4) (pa_cons (pv 9) pa_nil)))))) pss_nil)
            (pss_cons (ps_if (pt_cmpR op_gt (pv 11) pe_int (nomark _)) (pss_one (ps_set (i := 13) scLaw.nd rfl (Or.inl rfl) (pe_call GBc hr4 rfl Bc.m Bc.F.kp Bc.b .nil pass0 (pa_cons (pv 2) (pa_cons (pv 4) (pa_cons (pv 10) pa_nil)))))) pss_nil)
            (pss_cons (ps_if (pt_cmpR op_eq (pv 11) pe_int (nomark _)) (pss_one (ps_set (i := 13) scLaw.nd rfl (Or.inl rfl) (pe_callN Cv.G hr3 rfl Cv.m Cv.kp Cv.b pass0 (pa_cons (pv 4) (pa_cons (pv 5) pa_nil)) (pk_cons (pv 6) pk_nil)))) pss_nil)
            (pss_cons (ps_set (i := 14) scLaw.nd rfl (Or.inl rfl) (pe_tup (pa_cons (pv 4) (pa_cons (pv 5) (pa_cons (pv 12) (pa_cons (pv 13) (pa_cons (pv 6) (pa_cons (pv 7) pa_nil))))))))
            (pss_cons (ps_set (i := 15) scLaw.nd rfl (Or.inl rfl) (pe_callB (call_reprP hg h64) (by rfl) TL.repr (by decide +kernel) (pa_cons (pv 14) pa_nil)))
            (pss_cons (ps_set (i := 16) scLaw.nd rfl (Or.inl rfl) (pe_callN Ib.G hr5 rfl Ib.m Ib.kp Ib.b pass0 (pa_cons (pv 4) (pa_cons (pv 5) (pa_cons (pv 12) (pa_cons (pv 13) pa_nil)))) (pk_cons (pv 6) (pk_cons (pv 7) pk_nil))))
            (pss_cons (ps_set (i := 17) scLaw.nd rfl (Or.inl rfl) (pe_call GR hr4 rfl Ri.m Ri.F.kp Ri.b .nil pass0 (pa_cons (pv 4) (pa_cons (pv 5) (pa_cons (pv 12) (pa_cons (pv 13) (pa_cons (pv 8) pa_nil)))))))
            (pss_one (ps_if (PW.pt (pw_or (pt_not (pt_val (pe_callB call_isi (by rfl) TL.isi (by decide +kernel) (pa_cons (pv 16) (pa_cons (pe_bltn (v := .ty "bool") (by rfl) TL.bool boot_bool rfl) pa_nil)))))
                (pw_or (pt_cmpR op_ne (pv 16) (pv 17) (nomark _))
                (pw_or1 (pt_cmpR op_ne (pe_callB (call_reprP hg h64) (by rfl) TL.repr (by decide +kernel) (pa_cons (pv 14) pa_nil)) (pv 15) (nomark _)))))) (pss_one (ps_ret pe_bl)) pss_nil))))))))))))))))))))))
      (pss_one (ps_ret (pe_cmpR op_isBl (pe_call Ib.G hr5 rfl Ib.m Ib.kp bI vI pass0 (pa_cons (pe_lst pa_nil) (pa_cons (pe_lst pa_nil) (pa_cons (pe_lst pa_nil) (pa_cons (pe_lst pa_nil) pa_nil))))) pe_bl (nomark _)))), ?_⟩
    have h16 : sizeLine = 16777216 := sizeLine_eq
    obtain ⟨J, hJ, hJ0, hJ6⟩ : ∃ J : Int, J = (if (if (((ns.map V.int).length : Nat) : Int) < 4 then (((ns.map V.int).length : Nat) : Int) else 4) > 2 then (if (((ns.map V.int).length : Nat) : Int) < 4 then (((ns.map V.int).length : Nat) : Int) else 4) else 2) ∧ 0 ≤ J ∧ J ≤ 4 := by
      refine ⟨_, rfl, ?_, ?_⟩
      · split <;> split <;> omega
      · split <;> split <;> omega
    refine ⟨_, rfl, a, _, rfl, .inl hS, _, _, rfl, _, _, rfl, J, by rw [hJ], by omega, by omega, ?_⟩
    refine for_range (lo := 0) (n := J.toNat) (fun i σ H' => (∃ v1 v2 v3 v4 v5 v6 v7 v8 v9 v10 v11 v12 v13 v14 v15 v16 v17 : Option V, σ = [some (.ref a), v1, v2, v3, v4, v5, v6, v7, v8, v9, v10, v11, v12, v13, v14, v15, v16, v17]) ∧ Same H H')
      ⟨⟨none, none, none, none, none, none, none, none, none, none, none, none, none, none, none, none, none, rfl⟩, Same.refl H⟩ ?_ ?_
    · rintro st σ H0 hst ⟨⟨v1, v2, v3, v4, v5, v6, v7, v8, v9, v10, v11, v12, v13, v14, v15, v16, v17, rfl⟩, s0⟩
      refine ⟨_, rfl, _, rfl, a, ns, _, rfl, Same.sq s0 hS, hlen, hbits, by omega, by omega, fun d Hd hd sd D => ?_⟩
      have hHd : H d = none := Same.free s0 hd
      have sd0 : Same H Hd := s0.trans sd
      refine ⟨3, rfl, by decide, by decide, ?_⟩
      refine for_range (lo := 0) (n := 3) (fun i σ H' => (∃ v3 v4 v5 v6 v7 v8 v9 v10 v11 v12 v13 v14 v15 v16 v17 : Option V, σ = [some (.ref a), some (.int (0 + (st : Int))), some (.ref d), v3, v4, v5, v6, v7, v8, v9, v10, v11, v12, v13, v14, v15, v16, v17]) ∧ Fs d Hd [] H')
        ⟨⟨_, _, _, _, _, _, _, _, _, _, _, _, _, _, _, rfl⟩, Fs.start D⟩ ?_ ?_
      · rintro tu σ H1 htu ⟨⟨v3, v4, v5, v6, v7, v8, v9, v10, v11, v12, v13, v14, v15, v16, v17, rfl⟩, F1⟩
        -- base
        refine ⟨_, rfl, _, rfl, d, 8, rfl, F1.deck, by decide, by decide, fun r1 H2 r10 r11 D2 B2 => ?_⟩
        obtain ⟨m1, rfl⟩ : ∃ m : Nat, r1 = (m : Int) := ⟨r1.toNat, by omega⟩
        refine ⟨_, _, rfl, rfl, d, 1 + m1, by congr 2, D2, by omega, fun l js H3 hl B3 D3 hL hjl hI => ?_⟩
        have F3 : Fs d Hd [(l, .lst (js.map V.int))] H3 := ((F1.step D2 B2).step D3 B3).add hL nl
        have hj8 : js.length ≤ 8 := by omega
        have hj1 : 1 ≤ js.length := by omega
        -- goal, loads, liked
        refine ⟨_, rfl, _, rfl, d, l, js, rfl, F3.deck, SqL.of F3.g0, by omega, fun g ids H4 hg0 B4 D4 hG hper => ?_⟩
        have F4 := (F3.step D4 B4).add hG nl
        refine ⟨_, rfl, _, rfl, d, l, js, 9, rfl, F4.deck, F4.g1, by omega, by decide, by decide, fun v wo H5 hv0 B5 D5 hW hLo => ?_⟩
        have F5 := F4.step D5 B5
        refine ⟨_, rfl, _, rfl, d, l, js, rfl, F5.deck, SqL.of F5.g1, by omega, fun fv fav H6 hfv0 B6 D6 hFv hfl hfm => ?_⟩
        have F6 := F5.step D6 B6
        have hW6 : WtAt H6 v wo := hW.but D5 B6
        refine ⟨_, _, _, rfl, ?_⟩
        have hFs6 : SqL K H6 fv (fav.map V.int) ∨ SqT K H6 fv (fav.map V.int) := hFv.imp (fun q => SqL.of q) (fun q => SqT.of q)
        have hil : ids.length = js.length := hper.length_eq
        have hIn : ∀ x ∈ ids, x ∈ js := fun x hx => hper.mem_iff.mp hx
        have ndJ : js.Nodup := hI.1
        have ndI : ids.Nodup := hper.nodup_iff.mpr hI.1
        have hne : js ≠ [] := fun e => by rw [e] at hj1; exact absurd hj1 (by decide)
        have hI1 : ∀ x ∈ ids, 1 ≤ x := fun x hx => (hI.2 x (hIn x hx)).1
        have hjb : ∀ x ∈ js, 0 ≤ x ∧ x ≤ 1000000 := fun x hx => by have := hI.2 x hx; omega
        have hib : ∀ x ∈ ids, 0 ≤ x ∧ x ≤ 1000000 := fun x hx => hjb x (hIn x hx)
        have hfb : ∀ z ∈ fav, 0 ≤ z ∧ z ≤ 1000000 := fun z hz => by
          rcases hfm z hz with q | q
          · exact hjb z q
          · omega
        have hwt := fun x => hLo.wt (by omega) x
        have hw1 : ∀ x ∈ ids, 1 ≤ wtI wo x := fun x _ => (hwt x).1
        have hw60 : ∀ x, 1 ≤ wtI wo x ∧ wtI wo x < 10 ^ 60 := fun x => ⟨(hwt x).1, Int.lt_of_le_of_lt (hwt x).2 (by decide)⟩
        have hwb : ∀ x ∈ ids, (wtI wo x).natAbs < 2 ^ 300 := fun x _ => by
          have := hwt x
          have h9 : (wtI wo x).natAbs ≤ 9 := by omega
          exact Nat.lt_of_le_of_lt h9 (by decide)
        have hbk : ∀ z ∈ js ++ [1000000], 0 ≤ z ∧ z ≤ 1000000 := fun z hz => by
          rcases List.mem_append.mp hz with q | q
          · exact hjb z q
          · rw [List.mem_singleton.mp q]; omega
        -- exact
        refine ⟨_, rfl, _, rfl, _, rfl, g, fv, v, ids, fav, wo, rfl, SqL.of F6.g0, hW6, hFs6, ndI, by omega, hw60, fun eq H7 s7 heq hEQ => ?_⟩
        have F7 := F6.same s7
        have fvs : ∀ {H' : Hp}, Same H6 H' → SqL K H' fv (fav.map V.int) ∨ SqT K H' fv (fav.map V.int) := fun s => hFs6.imp s.seq (fun q => Same.tq s q)
        -- best
        obtain ⟨best, hbest⟩ : ∃ best, best = bestF js ids (worthI wo ids.length fav) := ⟨_, rfl⟩
        have hbs : best.Sublist ids := by rw [hbest]; exact best_sublist _ _ _ _
        have hbl : best.length ≤ 8 := by have := hbs.length_le; omega
        refine ⟨_, rfl, _, rfl, _, rfl, _, rfl, rfl, rfl, l, g, fv, v, js, ids, fav, wo, rfl, SqL.of F7.g1, SqL.of F7.g0, hW6.same s7, fvs s7, by omega, ndJ, by omega, ndI, by omega, hIn, hwb, fun bq H8 s8 hbq hBQ => ?_⟩
        rw [← hbest] at hBQ
        have F8 := F7.same s8
        have hEQ8 := s8 _ _ hEQ
        -- cover
        obtain ⟨xo, hxo⟩ : ∃ xo, xo = some (tabP (exactI wo fav ids) ids) := ⟨_, rfl⟩
        obtain ⟨rs, hrs⟩ : ∃ rs, rs = lvl (ixI js) (wtI xo) ids := ⟨_, rfl⟩
        have hX8 : WtAt H8 (.ref eq) xo := .inr ⟨eq, _, rfl, hxo, hEQ8⟩
        refine ⟨_, rfl, _, rfl, _, rfl, rfl, rfl, l, g, .ref eq, js, ids, xo, rfl, SqL.of F8.g1, SqL.of F8.g0, hX8, ndJ, by omega, ndI, by omega, hIn, fun cq H9 s9 hcq hRC => ?_⟩
        have hRC : RunsAt H9 cq rs := by rw [hrs]; exact hRC
        have F9 := F8.same s9
        have s69 := s7.trans (s8.trans s9)
        have hW9 := hW6.same s69
        have hFv9 : H9 fv = some (.lst (fav.map V.int)) ∨ H9 fv = some (.tup (fav.map V.int)) := hFv.imp (s69 _ _) (s69 _ _)
        have hEQ9 := s9 _ _ hEQ8
        have hBQ9 := s9 _ _ hBQ
        have hrl : rs.length ≤ 2 * ids.length := by rw [hrs]; exact cov_len _ _ _
        have hxw : ∀ x ∈ ids, 0 ≤ wtI xo x ∧ wtI xo x ≤ 22000 := fun x hx => by
          rw [hxo, wt_tab hx]
          have := hwt x
          exact exact_small (by omega) this.1 this.2
        have hrb : ∀ r ∈ rs, r.1.natAbs ≤ 200000 ∧ r.2.length ≤ 9 ∧ ∀ z ∈ r.2, 0 ≤ z ∧ z ≤ 1000000 := fun r hr => by
          rw [hrs] at hr
          have hsub := cov_sub hr
          refine ⟨?_, by have := hsub.length_le; omega, fun z hz => hib z (hsub.subset hz)⟩
          have := cov_small (pl := ixI js) (wf := wtI xo) (M := 22000) ndI hxw hr
          have e9 : (22000 * (ids.length : Int)).toNat ≤ 200000 := by omega
          omega
        have hE := runs_elt (L := 9) (M := 200000) (by decide) hrb
        obtain ⟨us, hus, hdv⟩ := hRC.dvs (K := K)
        have hrd : (rs.map encR).length ≤ 16 := by rw [List.length_map]; omega
        have hisb := best_is_best (fav := fav) ndJ ndI hIn hw1
        rw [← hbest, ← hxo, ← hrs] at hisb
        have hdb : DVs K H9 (best.map V.int) (best.map PyData.int) := DVs.intsC best
        refine ⟨_, rfl, _, rfl, _, rfl, _, rfl, _, rfl, _, rfl, rfl, rfl, l, g, bq, cq, fv, v, js, ids, fav, _, us, _, _, wo, rfl, SqL.of F9.g1, SqL.of F9.g0, SqL.of hBQ9, hdb, by rw [List.length_map]; omega, SqL.of hus, hdv, elts_cov hE (by omega) (by decide), hW9, fvs s69, by omega, ndJ, by omega, ndI, by omega, hwb, fun H10 s10 => ?_⟩
        rw [hisb]
        refine ⟨_, _, rfl, rfl, _, rfl, iteF ?_⟩
        have F10 := F9.same s10
        have D10 := F10.deck
        have hW10 := hW9.same s10
        have hFv10 : H10 fv = some (.lst (fav.map V.int)) ∨ H10 fv = some (.tup (fav.map V.int)) := hFv9.imp (s10 _ _) (s10 _ _)
        have hEQ10 := s10 _ _ hEQ9
        have hBQ10 := s10 _ _ hBQ9
        have hus10 := s10 _ _ hus
        have hdv10 := DVs.same s10 hdv
        have eg : gS 3465 2 = 22860 := rfl
        have hnE : eq ≠ d := fun e => by
          obtain ⟨x, y, hd2, _⟩ := D10
          exact ne_of hEQ10 hd2 (nP _ _) e
        have hnF : fv ≠ d := fun e => by
          obtain ⟨x, y, hd2, _⟩ := D10
          rcases hFv10 with q | q <;> rw [e, hd2] at q <;> cases q
        refine ⟨7, rfl, by decide, by decide, ?_⟩
        refine for_range (lo := 0) (n := 7) (fun i σ H' => (∃ v11 v12 v13 v14 v15 v16 v17 : Option V, σ = [some (.ref a), some (.int (0 + (st : Int))), some (.ref d), some (.int (0 + (tu : Int))), some (.ref l), some (.ref g), some v, some (.ref fv), some (.ref eq), some (.ref bq), some (.ref cq), v11, v12, v13, v14, v15, v16, v17]) ∧ But d H10 H' ∧ DeckAt H' d)
          ⟨⟨_, _, _, _, _, _, _, rfl⟩, But.refl _ _, D10⟩ ?_ ?_
        · rintro lk σ H11 hlk ⟨⟨v11', v12', v13', v14', v15', v16', v17', rfl⟩, B11, D11⟩
          have hBQ11 := B11.lst D10 hBQ10
          have hL11 : H11 l = some (.lst (js.map V.int)) := B11.lst D10 F10.g1
          refine ⟨_, rfl, _, rfl, _, _, rfl, ?_⟩
          refine ⟨_, rfl, _, _, rfl, rfl, (by show (0 : Int) < 2; decide), rfl, _, rfl, ite2 (fun c => ?_) (fun c => ?_)⟩
          focus
            refine ⟨_, rfl, _, rfl, _, rfl, d, l, bq, js, best.map V.int, best.map PyData.int, rfl, D11, hL11, by omega, hjb, SqL.of hBQ11, DVs.intsC best, (fun e he => by
              obtain ⟨x, hx, rfl⟩ := List.mem_map.mp he
              exact fine_int (hib x (hbs.subset hx))), by rw [List.length_map]; omega, fun iq uqi dqi H12 hiq B12 D12 hIQ hDQ hFQ hlq => ?_⟩
            have hlq : dqi.length ≤ 10 := by rw [List.length_map] at hlq; omega
          rotate_left
          focus
            obtain ⟨iq, uqi, dqi, H12, B12, D12, hIQ, hDQ, hFQ, hlq, e1, e2⟩ : ∃ (iq : Addr) (uqi : List V) (dqi : List PyData) (H12 : Hp), But d H11 H12 ∧ DeckAt H12 d ∧ H12 iq = some (.lst uqi) ∧ DVs K H12 uqi dqi ∧ (∀ e ∈ dqi, FineI e) ∧ dqi.length ≤ 10 ∧ iq = bq ∧ H12 = H11 :=
              ⟨bq, best.map V.int, best.map PyData.int, H11, But.refl _ _, D11, hBQ11, DVs.intsC best, (fun e he => by
                obtain ⟨x, hx, rfl⟩ := List.mem_map.mp he
                exact fine_int (hib x (hbs.subset hx))), by rw [List.length_map]; omega, rfl, rfl⟩
            rw [← e1, ← e2]
          all_goals
            have B112 := B11.trans B12
            have hus12 := B112.lst D10 hus10
            have hdv12 := DVs.but D10 B112 hdv10
            have hL12 : H12 l = some (.lst (js.map V.int)) := B112.lst D10 F10.g1
            refine ⟨_, rfl, _, _, rfl, rfl, _, rfl, ite2 (fun c2 => ?_) (fun c2 => ?_)⟩
            focus
              refine ⟨_, rfl, _, rfl, _, rfl, d, l, cq, js, us, rs.map encR, 3465, 9, 200000, rfl, D12, SqL.of hL12, hne, by omega, hjb, SqL.of hus12, hdv12, hE, by omega, by decide, by decide, by decide, by decide, fun so us9 ds9 H13 hso B13 D13 hSO hDV hEE hl9 => ?_⟩
              have hl9 : ds9.length ≤ 18 := by omega
            rotate_left
            focus
              obtain ⟨so, us9, ds9, H13, B13, D13, hSO, hDV, hEE, hl9, e3, e4⟩ : ∃ (so : Addr) (us9 : List V) (ds9 : List PyData) (H13 : Hp), But d H12 H13 ∧ DeckAt H13 d ∧ H13 so = some (.lst us9) ∧ DVs K H13 us9 ds9 ∧ (∀ e ∈ ds9, EltD (gS 3465 2) (9 + 2) (200000 + 2) e) ∧ ds9.length ≤ 18 ∧ so = cq ∧ H13 = H12 :=
                ⟨cq, us, _, H12, But.refl _ _, D12, hus12, hdv12, fun e he => (hE e he).mono (by rw [eg]; decide) (by decide) (by decide), by omega, rfl, rfl⟩
              rw [← e3, ← e4]
            all_goals
              have B113 := B112.trans B13
              have hL13 : H13 l = some (.lst (js.map V.int)) := B113.lst D10 F10.g1
              have hG13 : H13 g = some (.lst (ids.map V.int)) := B113.lst D10 F10.g0
              have hW13 := hW10.but D10 B113
              refine ⟨_, rfl, rfl, _, rfl, ite2 (fun c3 => ?_) (fun c3 => ?_)⟩
              focus
                refine ⟨_, rfl, _, rfl, _, rfl, rfl, rfl, l, g, v, js, ids, wo, rfl, SqL.of hL13, SqL.of hG13, hW13, ndJ, by omega, ndI, by omega, hIn, fun sp H14 s14 hsp hRP => ?_⟩
                obtain ⟨rp, hrp⟩ : ∃ rp, rp = covF ids (topI (ixI js) (wtI wo) ids) fun x => topI (ixI js) (wtI wo) ids x - wtI wo x := ⟨_, rfl⟩
                rw [← hrp] at hRP
                have hrpl : rp.length ≤ 2 * ids.length := by rw [hrp]; exact cov_len _ _ _
                have hrpb : ∀ r ∈ rp, r.1.natAbs ≤ 200000 ∧ r.2.length ≤ 9 ∧ ∀ z ∈ r.2, 0 ≤ z ∧ z ≤ 1000000 := fun r hr => by
                  rw [hrp] at hr
                  have hsub := cov_sub hr
                  refine ⟨?_, by have := hsub.length_le; omega, fun z hz => hib z (hsub.subset hz)⟩
                  have := cov_small (pl := ixI js) (wf := wtI wo) (M := 9) ndI (fun x _ => by have := hwt x; omega) hr
                  have e9 : (9 * (ids.length : Int)).toNat ≤ 200000 := by omega
                  omega
                have hEP := runs_elt (L := 9) (M := 200000) (by decide) hrpb
                obtain ⟨us2, hSO2, hDV2⟩ := hRP.dvs (K := K)
                obtain ⟨so2, hso2⟩ : ∃ so2, so2 = sp := ⟨_, rfl⟩
                obtain ⟨ds2, hds2⟩ : ∃ ds2, ds2 = rp.map encR := ⟨_, rfl⟩
                rw [← hds2] at hDV2 hEP
                rw [← hso2] at hSO2
                rw [← hso2]
                have hE2 : ∀ e ∈ ds2, EltD (gS 3465 2) (9 + 2) (200000 + 2) e := fun e he => (hEP e he).mono (by rw [eg]; decide) (by decide) (by decide)
                have hl2 : ds2.length ≤ 18 := by rw [hds2, List.length_map]; omega
                have B14 : But d H13 H14 := But.of s14
                have D14 := D13.same s14
              rotate_left
              focus
                obtain ⟨so2, us2, ds2, H14, B14, D14, hSO2, hDV2, hE2, hl2, e5, e6⟩ : ∃ (so2 : Addr) (us2 : List V) (ds2 : List PyData) (H14 : Hp), But d H13 H14 ∧ DeckAt H14 d ∧ H14 so2 = some (.lst us2) ∧ DVs K H14 us2 ds2 ∧ (∀ e ∈ ds2, EltD (gS 3465 2) (9 + 2) (200000 + 2) e) ∧ ds2.length ≤ 18 ∧ so2 = so ∧ H14 = H13 :=
                  ⟨so, us9, ds9, H13, But.refl _ _, D13, hSO, hDV, hEE, hl9, rfl, rfl⟩
                rw [← e5, ← e6]
              all_goals
                have B24 := B13.trans B14
                have BB := B112.trans B24
                have hIQ14 := B24.lst D12 hIQ
                have hDQ14 := DVs.but D12 B24 hDQ
                have hL14 : H14 l = some (.lst (js.map V.int)) := BB.lst D10 F10.g1
                have hG14 : H14 g = some (.lst (ids.map V.int)) := BB.lst D10 F10.g0
                have hW14 := hW10.but D10 BB
                have hFv14 : H14 fv = some (.lst (fav.map V.int)) ∨ H14 fv = some (.tup (fav.map V.int)) := hFv10.imp (BB _ _ hnF) (BB _ _ hnF)
                have hEQ14 := BB _ _ hnE hEQ10
                have hCV : CovD ds2 := elts_cov hE2 (by omega) (by decide)
                obtain ⟨wd, w1, w2⟩ := wt_dw9 (K := K) hW14 hLo hbk (by omega) (by decide)
                obtain ⟨fd, f1, f2⟩ : ∃ fd : PyData, RokL fd ∧ ∀ H', Same H14 H' → DW K H' (.ref fv) fd := by
                  rcases hFv14 with hf | hf
                  · exact ⟨_, rokL_list hfb (by omega), fun H' s => .lst (SqL.of (s _ _ hf)) (DWs.ints _)⟩
                  · exact ⟨_, rokL_tup hfb (by omega), fun H' s => .tup (SqT.of (s _ _ hf)) (DWs.ints _)⟩
                have okF : RokP (.tuple [.list (js.map .int), .list (ids.map .int), .list dqi, .list ds2, wd, fd]) := rok_six hjb hib (by omega) (by omega) hFQ (by omega) hE2 (by rw [eg]; omega) w1 f1
                refine ⟨_, rfl, _, rfl, _, rfl, _, rfl, _, rfl, _, rfl, by show 6 ≤ sizeLine; decide, fun T hT => ?_⟩
                have sT := Same.new (o := .tup [V.ref l, V.ref g, V.ref iq, V.ref so2, v, V.ref fv]) hT
                have hT1 : upd H14 T (.tup [V.ref l, V.ref g, V.ref iq, V.ref so2, v, V.ref fv]) T = some (.tup [V.ref l, V.ref g, V.ref iq, V.ref so2, v, V.ref fv]) := upd_same
                generalize (upd H14 T (.tup [V.ref l, V.ref g, V.ref iq, V.ref so2, v, V.ref fv]) : Hp) = H15 at sT hT1 ⊢
                have six : ∀ H' : Hp, Same H15 H' → DW K H' (.ref T) (.tuple [.list (js.map .int), .list (ids.map .int), .list dqi, .list ds2, wd, fd]) := fun H' s => by
                  have s' := sT.trans s
                  exact .tup (SqT.of (s _ _ hT1)) (.cons (.lst (SqL.of (s' _ _ hL14)) (DWs.ints _)) (.cons (.lst (SqL.of (s' _ _ hG14)) (DWs.ints _)) (.cons (.lst (SqL.of (s' _ _ hIQ14)) (DVs.toDw (DVs.same s' hDQ14))) (.cons (.lst (SqL.of (s' _ _ hSO2)) (DVs.toDw (DVs.same s' hDV2))) (.cons (w2 _ s') (.cons (f2 _ s') .nil))))))
                have fvs15 : SqL K H15 fv (fav.map V.int) ∨ SqT K H15 fv (fav.map V.int) := hFv14.imp (fun q => SqL.of (sT _ _ q)) (fun q => SqT.of (sT _ _ q))
                refine ⟨_, rfl, _, _, rfl, six _ (Same.refl _), okF, ?_⟩
                refine ⟨_, rfl, _, rfl, _, rfl, _, rfl, _, rfl, _, rfl, rfl, rfl, l, g, iq, so2, fv, v, js, ids, fav, uqi, us2, dqi, ds2, wo, rfl, SqL.of (sT _ _ hL14), SqL.of (sT _ _ hG14), SqL.of (sT _ _ hIQ14), DVs.same sT hDQ14, by omega, SqL.of (sT _ _ hSO2), DVs.same sT hDV2, hCV, hW14.same sT, fvs15, by omega, ndJ, by omega, ndI, by omega, hwb, fun H16 s16 => ?_⟩
                have s1416 := sT.trans s16
                refine ⟨_, rfl, _, rfl, _, rfl, _, rfl, _, rfl, l, g, iq, so2, eq, js, ids, uqi, us2, dqi, ds2, exactI wo fav ids, rfl, SqL.of (s1416 _ _ hL14), SqL.of (s1416 _ _ hG14), SqL.of (s1416 _ _ hIQ14), DVs.same s1416 hDQ14, by omega, SqL.of (s1416 _ _ hSO2), DVs.same s1416 hDV2, hCV, s1416 _ _ hEQ14, ndJ, by omega, by omega, hIn, hI1, fun H17 s17 => ?_⟩
                have s1417 := s1416.trans s17
                refine ⟨_, rfl, _, _, _, _, true, rfl, .ty _, .base (.bl _), kit_ty (by decide +kernel), _, rfl, iteF ?_⟩
                refine ⟨_, rfl, _, rfl, rfl, _, rfl, ?_⟩
                rw [decide_eq_true (p := V.bl (isBestB js ids dqi ds2 wo fav) = V.bl (isChainB ids dqi && (isChainB js dqi && (isCoverB js ids ds2 (some (tabP (exactI wo fav ids) ids)) && decide (sumT (ds2.map runOfD) = sumW (some (tabP (exactI wo fav ids) ids)) (dqi.map intOf)))))) rfl]
                refine iteF ?_
                refine ⟨_, rfl, _, _, rfl, six _ (s16.trans s17), okF, ?_⟩
                refine ⟨_, rfl, rfl, _, rfl, ?_⟩
                rw [decide_eq_true rfl]
                refine iteF ?_
                exact ⟨⟨_, _, _, _, _, _, _, rfl⟩, BB.trans (But.of s1417), D14.same s1417⟩
        · rintro σ H11 ⟨⟨v11', v12', v13', v14', v15', v16', v17', rfl⟩, B11, D11⟩
          exact ⟨⟨_, _, _, _, _, _, _, _, _, _, _, _, _, _, _, rfl⟩, (F10.step D11 B11).tail.tail⟩
      · rintro σ H1 ⟨⟨v3, v4, v5, v6, v7, v8, v9, v10, v11, v12, v13, v14, v15, v16, v17, rfl⟩, F1⟩
        exact ⟨⟨_, _, _, _, _, _, _, _, _, _, _, _, _, _, _, _, _, rfl⟩, F1.old hHd sd0⟩
    · rintro σ H1 ⟨⟨v1, v2, v3, v4, v5, v6, v7, v8, v9, v10, v11, v12, v13, v14, v15, v16, v17, rfl⟩, s1⟩
      refine ⟨Nat.zero_le _, fun p1 h1 => ⟨Nat.zero_le _, fun p2 h2 => ⟨Nat.zero_le _, fun p3 h3 => ⟨Nat.zero_le _, fun p4 h4 => ?_⟩⟩⟩⟩
      have e2 := Same.new (o := .lst []) h2
      have e3 := Same.new (o := .lst []) h3
      have e4 := Same.new (o := .lst []) h4
      refine ⟨p1, p2, p3, p4, eI, .non, [], [], [], [], [], [], [], none, rfl, SqL.of (e4 _ _ (e3 _ _ (e2 _ _ upd_same))), SqL.of (e4 _ _ (e3 _ _ upd_same)), SqL.of (e4 _ _ upd_same), .nil, by decide, SqL.of upd_same, .nil, ⟨by decide, fun d hd => by cases hd⟩, .inl ⟨rfl, rfl⟩, .inr (hE0 _), by decide, List.nodup_nil, by decide, List.nodup_nil, by decide, (fun (x : Int) (hx : x ∈ ([] : List Int)) => by cases hx), fun H2 s2 => ?_⟩
      refine ⟨_, _, rfl, rfl, ?_⟩
      rw [decide_eq_true (show isBestB [] [] [] [] none [] = true from by decide)]
      exact k H2
end
/-! ### what the top has written, the head -/
theorem all_mk {l : PySem.W.OpenLaw} {w : World} {K : PySem.W.Frag} {h : Heap} {mg : Str → Option Value} {fa : Addr} (X : K.In h) (G : h.Ns mainGlobals mg) (hfa : mg "law" = some (.ref fa))
    {f1 : Addr} {od1 an1 : Option Addr} {sl1 : Array (Option Value)} {oc1 kV1 dc1 pm1 cd1 ct1 : Value}
    {f2 : Addr} {od2 an2 : Option Addr} {sl2 : Array (Option Value)} {oc2 kV2 dc2 pm2 cd2 ct2 : Value}
    {f3 : Addr} {od3 an3 : Option Addr} {sl3 : Array (Option Value)} {oc3 kV3 dc3 pm3 cd3 ct3 : Value}
    {f4 : Addr} {od4 an4 : Option Addr} {sl4 : Array (Option Value)} {oc4 kV4 dc4 pm4 cd4 ct4 : Value}
    {f5 : Addr} {od5 an5 : Option Addr} {sl5 : Array (Option Value)} {oc5 kV5 dc5 pm5 cd5 ct5 : Value}
    {f6 : Addr} {od6 an6 : Option Addr} {sl6 : Array (Option Value)} {oc6 kV6 dc6 pm6 cd6 ct6 : Value}
    {f7 : Addr} {od7 an7 : Option Addr} {sl7 : Array (Option Value)} {oc7 dc7 pm7 cd7 ct7 : Value} {D7 : Addr} {E7 : Addr} {dE7 : Option Addr} {nE7 : Nat} {sE7 : Array (Option Value)}
    {f8 : Addr} {od8 an8 : Option Addr} {sl8 : Array (Option Value)} {oc8 dc8 pm8 cd8 ct8 : Value} {D8 : Addr} {E8 : Addr} {dE8 : Option Addr} {nE8 : Nat} {sE8 : Array (Option Value)}
    {f9 : Addr} {od9 an9 : Option Addr} {sl9 : Array (Option Value)} {oc9 dc9 pm9 cd9 ct9 : Value} {D9 : Addr}
    {f10 : Addr} {od10 an10 : Option Addr} {sl10 : Array (Option Value)} {oc10 kV10 dc10 pm10 cd10 ct10 : Value}
    {f11 : Addr} {od11 an11 : Option Addr} {sl11 : Array (Option Value)} {oc11 kV11 dc11 pm11 cd11 ct11 : Value}
    {f12 : Addr} {od12 an12 : Option Addr} {sl12 : Array (Option Value)} {oc12 kV12 dc12 pm12 cd12 ct12 : Value}
    {f13 : Addr} {od13 an13 : Option Addr} {sl13 : Array (Option Value)} {oc13 kV13 dc13 pm13 cd13 ct13 : Value}
    {f14 : Addr} {od14 an14 : Option Addr} {sl14 : Array (Option Value)} {oc14 dc14 pm14 cd14 ct14 : Value} {D14 : Addr}
    {f15 : Addr} {od15 an15 : Option Addr} {sl15 : Array (Option Value)} {oc15 dc15 pm15 cd15 ct15 : Value} {D15 : Addr} {E15 : Addr} {dE15 : Option Addr} {nE15 : Nat} {sE15 : Array (Option Value)}
    {f16 : Addr} {od16 an16 : Option Addr} {sl16 : Array (Option Value)} {oc16 kV16 dc16 pm16 cd16 ct16 : Value}
    {f17 : Addr} {od17 an17 : Option Addr} {sl17 : Array (Option Value)} {oc17 kV17 dc17 pm17 cd17 ct17 : Value}
    {f18 : Addr} {od18 an18 : Option Addr} {sl18 : Array (Option Value)} {oc18 kV18 dc18 pm18 cd18 ct18 : Value}
    {f19 : Addr} {od19 an19 : Option Addr} {sl19 : Array (Option Value)} {oc19 kV19 dc19 pm19 cd19 ct19 : Value}
    {f20 : Addr} {od20 an20 : Option Addr} {sl20 : Array (Option Value)} {oc20 kV20 dc20 pm20 cd20 ct20 : Value}
    {f21 : Addr} {od21 an21 : Option Addr} {sl21 : Array (Option Value)} {oc21 kV21 dc21 pm21 cd21 ct21 : Value}
    {f22 : Addr} {od22 an22 : Option Addr} {sl22 : Array (Option Value)} {oc22 kV22 dc22 pm22 cd22 ct22 : Value}
    {f23 : Addr} {od23 an23 : Option Addr} {sl23 : Array (Option Value)} {oc23 kV23 dc23 pm23 cd23 ct23 : Value}
    {f24 : Addr} {od24 an24 : Option Addr} {sl24 : Array (Option Value)} {oc24 kV24 dc24 pm24 cd24 ct24 : Value}
    {f25 : Addr} {od25 an25 : Option Addr} {sl25 : Array (Option Value)} {oc25 kV25 dc25 pm25 cd25 ct25 : Value}
    {f26 : Addr} {od26 an26 : Option Addr} {sl26 : Array (Option Value)} {oc26 kV26 dc26 pm26 cd26 ct26 : Value}
    {f27 : Addr} {od27 an27 : Option Addr} {sl27 : Array (Option Value)} {oc27 kV27 dc27 pm27 cd27 ct27 : Value}
    {f28 : Addr} {od28 an28 : Option Addr} {sl28 : Array (Option Value)} {oc28 kV28 dc28 pm28 cd28 ct28 : Value}
    {f29 : Addr} {od29 an29 : Option Addr} {sl29 : Array (Option Value)} {oc29 kV29 dc29 pm29 cd29 ct29 : Value}
    {f30 : Addr} {od30 an30 : Option Addr} {sl30 : Array (Option Value)} {oc30 kV30 dc30 pm30 cd30 ct30 : Value}
    {f31 : Addr} {od31 an31 : Option Addr} {sl31 : Array (Option Value)} {oc31 kV31 dc31 pm31 cd31 ct31 : Value}
    {f32 : Addr} {od32 an32 : Option Addr} {sl32 : Array (Option Value)} {oc32 kV32 dc32 pm32 cd32 ct32 : Value}
    {f33 : Addr} {od33 an33 : Option Addr} {sl33 : Array (Option Value)} {oc33 kV33 dc33 pm33 cd33 ct33 : Value}
    (a1 : PySem.W.nsIn K mainGlobals "is_whole" = some (some (.ref f1))) (l1 : K.lookup f1 = some ⟨oc1, od1, .func (PySem.W.fnOf "is_whole" "is_whole" (defArgs sWhole) (defBody sWhole) (defScope sWhole) .none kV1 dc1 pm1 an1 cd1 ct1), sl1⟩) (c1 : PySem.W.codeIn K cd1 "is_whole" = true) (k1 : PySem.W.keepIn K (.ref f1) = true)
    (a2 : PySem.W.nsIn K mainGlobals "places_of" = some (some (.ref f2))) (l2 : K.lookup f2 = some ⟨oc2, od2, .func (PySem.W.fnOf "places_of" "places_of" (defArgs sPlaces) (defBody sPlaces) (defScope sPlaces) .none kV2 dc2 pm2 an2 cd2 ct2), sl2⟩) (c2 : PySem.W.codeIn K cd2 "places_of" = true) (k2 : PySem.W.keepIn K (.ref f2) = true)
    (a3 : PySem.W.nsIn K mainGlobals "full_weights" = some (some (.ref f3))) (l3 : K.lookup f3 = some ⟨oc3, od3, .func (PySem.W.fnOf "full_weights" "full_weights" (defArgs sFull) (defBody sFull) (defScope sFull) .none kV3 dc3 pm3 an3 cd3 ct3), sl3⟩) (c3 : PySem.W.codeIn K cd3 "full_weights" = true) (k3 : PySem.W.keepIn K (.ref f3) = true)
    (a4 : PySem.W.nsIn K mainGlobals "total_weight" = some (some (.ref f4))) (l4 : K.lookup f4 = some ⟨oc4, od4, .func (PySem.W.fnOf "total_weight" "total_weight" (defArgs sTotal) (defBody sTotal) (defScope sTotal) .none kV4 dc4 pm4 an4 cd4 ct4), sl4⟩) (c4 : PySem.W.codeIn K cd4 "total_weight" = true) (k4 : PySem.W.keepIn K (.ref f4) = true)
    (a5 : PySem.W.nsIn K mainGlobals "top_levels" = some (some (.ref f5))) (l5 : K.lookup f5 = some ⟨oc5, od5, .func (PySem.W.fnOf "top_levels" "top_levels" (defArgs sTops) (defBody sTops) (defScope sTops) .none kV5 dc5 pm5 an5 cd5 ct5), sl5⟩) (c5 : PySem.W.codeIn K cd5 "top_levels" = true) (k5 : PySem.W.keepIn K (.ref f5) = true)
    (a6 : PySem.W.nsIn K mainGlobals "favoured_worths" = some (some (.ref f6))) (l6 : K.lookup f6 = some ⟨oc6, od6, .func (PySem.W.fnOf "favoured_worths" "favoured_worths" (defArgs sFavs) (defBody sFavs) (defScope sFavs) .none kV6 dc6 pm6 an6 cd6 ct6), sl6⟩) (c6 : PySem.W.codeIn K cd6 "favoured_worths" = true) (k6 : PySem.W.keepIn K (.ref f6) = true)
    (a7 : PySem.W.nsIn K mainGlobals "best_straight" = some (some (.ref f7))) (l7 : K.lookup f7 = some ⟨oc7, od7, .func (PySem.W.fnOf "best_straight" "best_straight" (defArgs sBest) (defBody sBest) (defScope sBest) .none (.ref D7) dc7 pm7 an7 cd7 ct7), sl7⟩) (c7 : PySem.W.codeIn K cd7 "best_straight" = true) (k7 : PySem.W.keepIn K (.ref f7) = true)
    (w7_0 : PySem.W.nsIn K D7 "weights" = some (some .none))
    (w7_1 : PySem.W.nsIn K D7 "favoured" = some (some (.ref E7)))
    (v7 : K.lookup E7 = some ⟨.type "tuple", dE7, .seq #[] nE7, sE7⟩)
    (a8 : PySem.W.nsIn K mainGlobals "exact_weights" = some (some (.ref f8))) (l8 : K.lookup f8 = some ⟨oc8, od8, .func (PySem.W.fnOf "exact_weights" "exact_weights" (defArgs sExact) (defBody sExact) (defScope sExact) .none (.ref D8) dc8 pm8 an8 cd8 ct8), sl8⟩) (c8 : PySem.W.codeIn K cd8 "exact_weights" = true) (k8 : PySem.W.keepIn K (.ref f8) = true)
    (w8_0 : PySem.W.nsIn K D8 "weights" = some (some .none))
    (w8_1 : PySem.W.nsIn K D8 "favoured" = some (some (.ref E8)))
    (v8 : K.lookup E8 = some ⟨.type "tuple", dE8, .seq #[] nE8, sE8⟩)
    (a9 : PySem.W.nsIn K mainGlobals "level_cover" = some (some (.ref f9))) (l9 : K.lookup f9 = some ⟨oc9, od9, .func (PySem.W.fnOf "level_cover" "level_cover" (defArgs sCover) (defBody sCover) (defScope sCover) .none (.ref D9) dc9 pm9 an9 cd9 ct9), sl9⟩) (c9 : PySem.W.codeIn K cd9 "level_cover" = true) (k9 : PySem.W.keepIn K (.ref f9) = true)
    (w9_0 : PySem.W.nsIn K D9 "weights" = some (some .none))
    (a10 : PySem.W.nsIn K mainGlobals "is_chain" = some (some (.ref f10))) (l10 : K.lookup f10 = some ⟨oc10, od10, .func (PySem.W.fnOf "is_chain" "is_chain" (defArgs sIsChain) (defBody sIsChain) (defScope sIsChain) .none kV10 dc10 pm10 an10 cd10 ct10), sl10⟩) (c10 : PySem.W.codeIn K cd10 "is_chain" = true) (k10 : PySem.W.keepIn K (.ref f10) = true)
    (a11 : PySem.W.nsIn K mainGlobals "is_run" = some (some (.ref f11))) (l11 : K.lookup f11 = some ⟨oc11, od11, .func (PySem.W.fnOf "is_run" "is_run" (defArgs sIsRun) (defBody sIsRun) (defScope sIsRun) .none kV11 dc11 pm11 an11 cd11 ct11), sl11⟩) (c11 : PySem.W.codeIn K cd11 "is_run" = true) (k11 : PySem.W.keepIn K (.ref f11) = true)
    (a12 : PySem.W.nsIn K mainGlobals "times_of" = some (some (.ref f12))) (l12 : K.lookup f12 = some ⟨oc12, od12, .func (PySem.W.fnOf "times_of" "times_of" (defArgs sTimes) (defBody sTimes) (defScope sTimes) .none kV12 dc12 pm12 an12 cd12 ct12), sl12⟩) (c12 : PySem.W.codeIn K cd12 "times_of" = true) (k12 : PySem.W.keepIn K (.ref f12) = true)
    (a13 : PySem.W.nsIn K mainGlobals "cover_size" = some (some (.ref f13))) (l13 : K.lookup f13 = some ⟨oc13, od13, .func (PySem.W.fnOf "cover_size" "cover_size" (defArgs sCovSize) (defBody sCovSize) (defScope sCovSize) .none kV13 dc13 pm13 an13 cd13 ct13), sl13⟩) (c13 : PySem.W.codeIn K cd13 "cover_size" = true) (k13 : PySem.W.keepIn K (.ref f13) = true)
    (a14 : PySem.W.nsIn K mainGlobals "is_cover" = some (some (.ref f14))) (l14 : K.lookup f14 = some ⟨oc14, od14, .func (PySem.W.fnOf "is_cover" "is_cover" (defArgs sIsCover) (defBody sIsCover) (defScope sIsCover) .none (.ref D14) dc14 pm14 an14 cd14 ct14), sl14⟩) (c14 : PySem.W.codeIn K cd14 "is_cover" = true) (k14 : PySem.W.keepIn K (.ref f14) = true)
    (w14_0 : PySem.W.nsIn K D14 "weights" = some (some .none))
    (a15 : PySem.W.nsIn K mainGlobals "is_best" = some (some (.ref f15))) (l15 : K.lookup f15 = some ⟨oc15, od15, .func (PySem.W.fnOf "is_best" "is_best" (defArgs sIsBest) (defBody sIsBest) (defScope sIsBest) .none (.ref D15) dc15 pm15 an15 cd15 ct15), sl15⟩) (c15 : PySem.W.codeIn K cd15 "is_best" = true) (k15 : PySem.W.keepIn K (.ref f15) = true)
    (w15_0 : PySem.W.nsIn K D15 "weights" = some (some .none))
    (w15_1 : PySem.W.nsIn K D15 "favoured" = some (some (.ref E15)))
    (v15 : K.lookup E15 = some ⟨.type "tuple", dE15, .seq #[] nE15, sE15⟩)
    (a16 : PySem.W.nsIn K mainGlobals "_law_tape" = some (some (.ref f16))) (l16 : K.lookup f16 = some ⟨oc16, od16, .func (PySem.W.fnOf "_law_tape" "_law_tape" (defArgs sDeck) (defBody sDeck) (defScope sDeck) .none kV16 dc16 pm16 an16 cd16 ct16), sl16⟩) (c16 : PySem.W.codeIn K cd16 "_law_tape" = true) (k16 : PySem.W.keepIn K (.ref f16) = true)
    (a17 : PySem.W.nsIn K mainGlobals "_law_pick" = some (some (.ref f17))) (l17 : K.lookup f17 = some ⟨oc17, od17, .func (PySem.W.fnOf "_law_pick" "_law_pick" (defArgs sDraw) (defBody sDraw) (defScope sDraw) .none kV17 dc17 pm17 an17 cd17 ct17), sl17⟩) (c17 : PySem.W.codeIn K cd17 "_law_pick" = true) (k17 : PySem.W.keepIn K (.ref f17) = true)
    (a18 : PySem.W.nsIn K mainGlobals "_law_one_of" = some (some (.ref f18))) (l18 : K.lookup f18 = some ⟨oc18, od18, .func (PySem.W.fnOf "_law_one_of" "_law_one_of" (defArgs sChoose) (defBody sChoose) (defScope sChoose) .none kV18 dc18 pm18 an18 cd18 ct18), sl18⟩) (c18 : PySem.W.codeIn K cd18 "_law_one_of" = true) (k18 : PySem.W.keepIn K (.ref f18) = true)
    (a19 : PySem.W.nsIn K mainGlobals "_law_shuffled" = some (some (.ref f19))) (l19 : K.lookup f19 = some ⟨oc19, od19, .func (PySem.W.fnOf "_law_shuffled" "_law_shuffled" (defArgs sShuf) (defBody sShuf) (defScope sShuf) .none kV19 dc19 pm19 an19 cd19 ct19), sl19⟩) (c19 : PySem.W.codeIn K cd19 "_law_shuffled" = true) (k19 : PySem.W.keepIn K (.ref f19) = true)
    (a20 : PySem.W.nsIn K mainGlobals "_law_ids" = some (some (.ref f20))) (l20 : K.lookup f20 = some ⟨oc20, od20, .func (PySem.W.fnOf "_law_ids" "_law_ids" (defArgs sIds) (defBody sIds) (defScope sIds) .none kV20 dc20 pm20 an20 cd20 ct20), sl20⟩) (c20 : PySem.W.codeIn K cd20 "_law_ids" = true) (k20 : PySem.W.keepIn K (.ref f20) = true)
    (a21 : PySem.W.nsIn K mainGlobals "_law_goal" = some (some (.ref f21))) (l21 : K.lookup f21 = some ⟨oc21, od21, .func (PySem.W.fnOf "_law_goal" "_law_goal" (defArgs sGoal) (defBody sGoal) (defScope sGoal) .none kV21 dc21 pm21 an21 cd21 ct21), sl21⟩) (c21 : PySem.W.codeIn K cd21 "_law_goal" = true) (k21 : PySem.W.keepIn K (.ref f21) = true)
    (a22 : PySem.W.nsIn K mainGlobals "_law_loads" = some (some (.ref f22))) (l22 : K.lookup f22 = some ⟨oc22, od22, .func (PySem.W.fnOf "_law_loads" "_law_loads" (defArgs sLoads) (defBody sLoads) (defScope sLoads) .none kV22 dc22 pm22 an22 cd22 ct22), sl22⟩) (c22 : PySem.W.codeIn K cd22 "_law_loads" = true) (k22 : PySem.W.keepIn K (.ref f22) = true)
    (a23 : PySem.W.nsIn K mainGlobals "_law_load" = some (some (.ref f23))) (l23 : K.lookup f23 = some ⟨oc23, od23, .func (PySem.W.fnOf "_law_load" "_law_load" (defArgs sLoad) (defBody sLoad) (defScope sLoad) .none kV23 dc23 pm23 an23 cd23 ct23), sl23⟩) (c23 : PySem.W.codeIn K cd23 "_law_load" = true) (k23 : PySem.W.keepIn K (.ref f23) = true)
    (a24 : PySem.W.nsIn K mainGlobals "_law_liked" = some (some (.ref f24))) (l24 : K.lookup f24 = some ⟨oc24, od24, .func (PySem.W.fnOf "_law_liked" "_law_liked" (defArgs sLiked) (defBody sLiked) (defScope sLiked) .none kV24 dc24 pm24 an24 cd24 ct24), sl24⟩) (c24 : PySem.W.codeIn K cd24 "_law_liked" = true) (k24 : PySem.W.keepIn K (.ref f24) = true)
    (a25 : PySem.W.nsIn K mainGlobals "_law_exact" = some (some (.ref f25))) (l25 : K.lookup f25 = some ⟨oc25, od25, .func (PySem.W.fnOf "_law_exact" "_law_exact" (defArgs sLawExact) (defBody sLawExact) (defScope sLawExact) .none kV25 dc25 pm25 an25 cd25 ct25), sl25⟩) (c25 : PySem.W.codeIn K cd25 "_law_exact" = true) (k25 : PySem.W.keepIn K (.ref f25) = true)
    (a26 : PySem.W.nsIn K mainGlobals "_law_is_number" = some (some (.ref f26))) (l26 : K.lookup f26 = some ⟨oc26, od26, .func (PySem.W.fnOf "_law_is_number" "_law_is_number" (defArgs sIsNum) (defBody sIsNum) (defScope sIsNum) .none kV26 dc26 pm26 an26 cd26 ct26), sl26⟩) (c26 : PySem.W.codeIn K cd26 "_law_is_number" = true) (k26 : PySem.W.keepIn K (.ref f26) = true)
    (a27 : PySem.W.nsIn K mainGlobals "_law_is_run" = some (some (.ref f27))) (l27 : K.lookup f27 = some ⟨oc27, od27, .func (PySem.W.fnOf "_law_is_run" "_law_is_run" (defArgs sLawIsRun) (defBody sLawIsRun) (defScope sLawIsRun) .none kV27 dc27 pm27 an27 cd27 ct27), sl27⟩) (c27 : PySem.W.codeIn K cd27 "_law_is_run" = true) (k27 : PySem.W.keepIn K (.ref f27) = true)
    (a28 : PySem.W.nsIn K mainGlobals "_law_covers" = some (some (.ref f28))) (l28 : K.lookup f28 = some ⟨oc28, od28, .func (PySem.W.fnOf "_law_covers" "_law_covers" (defArgs sLawCovers) (defBody sLawCovers) (defScope sLawCovers) .none kV28 dc28 pm28 an28 cd28 ct28), sl28⟩) (c28 : PySem.W.codeIn K cd28 "_law_covers" = true) (k28 : PySem.W.keepIn K (.ref f28) = true)
    (a29 : PySem.W.nsIn K mainGlobals "_law_bent_run" = some (some (.ref f29))) (l29 : K.lookup f29 = some ⟨oc29, od29, .func (PySem.W.fnOf "_law_bent_run" "_law_bent_run" (defArgs sBentRun) (defBody sBentRun) (defScope sBentRun) .none kV29 dc29 pm29 an29 cd29 ct29), sl29⟩) (c29 : PySem.W.codeIn K cd29 "_law_bent_run" = true) (k29 : PySem.W.keepIn K (.ref f29) = true)
    (a30 : PySem.W.nsIn K mainGlobals "_law_bent_cover" = some (some (.ref f30))) (l30 : K.lookup f30 = some ⟨oc30, od30, .func (PySem.W.fnOf "_law_bent_cover" "_law_bent_cover" (defArgs sBentCov) (defBody sBentCov) (defScope sBentCov) .none kV30 dc30 pm30 an30 cd30 ct30), sl30⟩) (c30 : PySem.W.codeIn K cd30 "_law_bent_cover" = true) (k30 : PySem.W.keepIn K (.ref f30) = true)
    (a31 : PySem.W.nsIn K mainGlobals "_law_is_right" = some (some (.ref f31))) (l31 : K.lookup f31 = some ⟨oc31, od31, .func (PySem.W.fnOf "_law_is_right" "_law_is_right" (defArgs sIsRight) (defBody sIsRight) (defScope sIsRight) .none kV31 dc31 pm31 an31 cd31 ct31), sl31⟩) (c31 : PySem.W.codeIn K cd31 "_law_is_right" = true) (k31 : PySem.W.keepIn K (.ref f31) = true)
    (a32 : PySem.W.nsIn K mainGlobals "_law_bent_ids" = some (some (.ref f32))) (l32 : K.lookup f32 = some ⟨oc32, od32, .func (PySem.W.fnOf "_law_bent_ids" "_law_bent_ids" (defArgs sBentIds) (defBody sBentIds) (defScope sBentIds) .none kV32 dc32 pm32 an32 cd32 ct32), sl32⟩) (c32 : PySem.W.codeIn K cd32 "_law_bent_ids" = true) (k32 : PySem.W.keepIn K (.ref f32) = true)
    (a33 : PySem.W.nsIn K mainGlobals "law" = some (some (.ref f33))) (l33 : K.lookup f33 = some ⟨oc33, od33, .func (PySem.W.fnOf "law" "law" (defArgs sLaw) (defBody sLaw) (defScope sLaw) .none kV33 dc33 pm33 an33 cd33 ct33), sl33⟩) (c33 : PySem.W.codeIn K cd33 "law" = true) (k33 : PySem.W.keepIn K (.ref f33) = true)
    (z0 : PySem.W.nsIn K mainGlobals "len" = some none)
    (z1 : PySem.W.nsIn K mainGlobals "list" = some none)
    (z2 : PySem.W.nsIn K mainGlobals "range" = some none)
    (z3 : PySem.W.nsIn K mainGlobals "max" = some none)
    (z4 : PySem.W.nsIn K mainGlobals "min" = some none)
    (z5 : PySem.W.nsIn K mainGlobals "repr" = some none)
    (z6 : PySem.W.nsIn K mainGlobals "sorted" = some none)
    (z7 : PySem.W.nsIn K mainGlobals "enumerate" = some none)
    (z8 : PySem.W.nsIn K mainGlobals "isinstance" = some none)
    (z9 : PySem.W.nsIn K mainGlobals "sum" = some none)
    (z10 : PySem.W.nsIn K mainGlobals "set" = some none)
    (z11 : PySem.W.nsIn K mainGlobals "tuple" = some none)
    (z12 : PySem.W.nsIn K mainGlobals "int" = some none)
    (z13 : PySem.W.nsIn K mainGlobals "bool" = some none)
    (z14 : PySem.W.nsIn K mainGlobals "dict" = some none)
    (z15 : PySem.W.nsIn K mainGlobals "all" = some none)
    (z16 : PySem.W.nsIn K mainGlobals "zip" = some none)
    : ∃ fd : FuncData, (∀ (s : Shared) (v : Value), BindsTo s fd ⟨[v], []⟩ [("script", v)]) ∧ ∀ base : Heap, K.In base → base.Ns mainGlobals mg → FnG l.prog w K mg base 6 fa fd ["script"] (spLaw K) := by
  have e := hfa.symm.trans (PySem.W.mg_of X G a33)
  cases e
  have n_len := PySem.W.mg_none_of X G z0
  have n_list := PySem.W.mg_none_of X G z1
  have n_range := PySem.W.mg_none_of X G z2
  have n_max := PySem.W.mg_none_of X G z3
  have n_min := PySem.W.mg_none_of X G z4
  have n_repr := PySem.W.mg_none_of X G z5
  have n_sorted := PySem.W.mg_none_of X G z6
  have n_enumerate := PySem.W.mg_none_of X G z7
  have n_isinstance := PySem.W.mg_none_of X G z8
  have n_sum := PySem.W.mg_none_of X G z9
  have n_set := PySem.W.mg_none_of X G z10
  have n_tuple := PySem.W.mg_none_of X G z11
  have n_int := PySem.W.mg_none_of X G z12
  have n_bool := PySem.W.mg_none_of X G z13
  have n_dict := PySem.W.mg_none_of X G z14
  have n_all := PySem.W.mg_none_of X G z15
  have n_zip := PySem.W.mg_none_of X G z16
  have F1 := fun_mk (st := sWhole) l1 c1 k1
  have b1 := F1.binds (ps := ["value"]) fun _ _ _ _ _ _ us hl => match us, hl with | [_], _ => rfl
  have Wh : Fn K mg "is_whole" sWhole ["value"] f1 _ := ⟨F1, b1, PySem.W.mg_of X G a1⟩
  have F2 := fun_mk (st := sPlaces) l2 c2 k2
  have b2 := F2.binds (ps := ["order"]) fun _ _ _ _ _ _ us hl => match us, hl with | [_], _ => rfl
  have Pl : Fn K mg "places_of" sPlaces ["order"] f2 _ := ⟨F2, b2, PySem.W.mg_of X G a2⟩
  have F3 := fun_mk (st := sFull) l3 c3 k3
  have b3 := F3.binds (ps := ["ids", "weights"]) fun _ _ _ _ _ _ us hl => match us, hl with | [_, _], _ => rfl
  have Fu : Fn K mg "full_weights" sFull ["ids", "weights"] f3 _ := ⟨F3, b3, PySem.W.mg_of X G a3⟩
  have F4 := fun_mk (st := sTotal) l4 c4 k4
  have b4 := F4.binds (ps := ["ids", "weights"]) fun _ _ _ _ _ _ us hl => match us, hl with | [_, _], _ => rfl
  have To : Fn K mg "total_weight" sTotal ["ids", "weights"] f4 _ := ⟨F4, b4, PySem.W.mg_of X G a4⟩
  have F5 := fun_mk (st := sTops) l5 c5 k5
  have b5 := F5.binds (ps := ["base", "goal", "worths"]) fun _ _ _ _ _ _ us hl => match us, hl with | [_, _, _], _ => rfl
  have Lv : Fn K mg "top_levels" sTops ["base", "goal", "worths"] f5 _ := ⟨F5, b5, PySem.W.mg_of X G a5⟩
  have F6 := fun_mk (st := sFavs) l6 c6 k6
  have b6 := F6.binds (ps := ["goal", "weights", "favoured"]) fun _ _ _ _ _ _ us hl => match us, hl with | [_, _, _], _ => rfl
  have Fa : Fn K mg "favoured_worths" sFavs ["goal", "weights", "favoured"] f6 _ := ⟨F6, b6, PySem.W.mg_of X G a6⟩
  have F_Be : L2.FunD K "best_straight" "best_straight" (defArgs sBest) (defBody sBest) (defScope sBest) [] [("weights", .non), ("favoured", .ref E7)] f7 _ := ⟨⟨_, _, _, _, _, _, _, _, _, _, rfl, l7, c7, .inl ⟨rfl, rfl⟩, .inr ⟨_, rfl, (by intro q hq; rcases List.mem_cons.mp hq with e | hq; (rw [e]; exact ⟨_, w7_0, rfl⟩); rcases List.mem_cons.mp hq with e | hq; (rw [e]; exact ⟨_, w7_1, rfl⟩); cases hq)⟩⟩, k7⟩
  have d_Be := L2.FunD.binds0 (ps := ["base", "goal", "weights", "favoured"]) F_Be 2 (by intro z; cases z) rfl fun D doc pm an cdv ct us ks hu hk => match us, ks, hu, hk with | [_, _], [_, _], _, _ => ⟨_, _, _, _, _, _, rfl, rfl, ⟨_, _, _, _, _, _, rfl, rfl, rfl⟩⟩
  have b_Be := Hk.FunD.kbindsA (ps := ["base", "goal", "weights", "favoured"]) F_Be 2 ["weights", "favoured"] fun kV doc pm an cdv ct us ws h1 h2 => match us, ws, h1, h2 with | [_, _], [_, _], _, _ => rfl
  have m_Be := PySem.W.mg_of X G a7
  have F_Ex : L2.FunD K "exact_weights" "exact_weights" (defArgs sExact) (defBody sExact) (defScope sExact) [] [("weights", .non), ("favoured", .ref E8)] f8 _ := ⟨⟨_, _, _, _, _, _, _, _, _, _, rfl, l8, c8, .inl ⟨rfl, rfl⟩, .inr ⟨_, rfl, (by intro q hq; rcases List.mem_cons.mp hq with e | hq; (rw [e]; exact ⟨_, w8_0, rfl⟩); rcases List.mem_cons.mp hq with e | hq; (rw [e]; exact ⟨_, w8_1, rfl⟩); cases hq)⟩⟩, k8⟩
  have d_Ex := L2.FunD.binds0 (ps := ["goal", "weights", "favoured"]) F_Ex 1 (by intro z; cases z) rfl fun D doc pm an cdv ct us ks hu hk => match us, ks, hu, hk with | [_], [_, _], _, _ => ⟨_, _, _, _, _, _, rfl, rfl, ⟨_, _, _, _, _, _, rfl, rfl, rfl⟩⟩
  have b_Ex := Hk.FunD.kbindsA (ps := ["goal", "weights", "favoured"]) F_Ex 1 ["weights", "favoured"] fun kV doc pm an cdv ct us ws h1 h2 => match us, ws, h1, h2 with | [_], [_, _], _, _ => rfl
  have m_Ex := PySem.W.mg_of X G a8
  have F_Cv : L2.FunD K "level_cover" "level_cover" (defArgs sCover) (defBody sCover) (defScope sCover) [] [("weights", .non)] f9 _ := ⟨⟨_, _, _, _, _, _, _, _, _, _, rfl, l9, c9, .inl ⟨rfl, rfl⟩, .inr ⟨_, rfl, (by intro q hq; rcases List.mem_cons.mp hq with e | hq; (rw [e]; exact ⟨_, w9_0, rfl⟩); cases hq)⟩⟩, k9⟩
  have d_Cv := L2.FunD.binds0 (ps := ["base", "goal", "weights"]) F_Cv 2 (by intro z; cases z) rfl fun D doc pm an cdv ct us ks hu hk => match us, ks, hu, hk with | [_, _], [_], _, _ => ⟨_, _, _, _, _, _, rfl, rfl, rfl⟩
  have b_Cv := Hk.FunD.kbindsA (ps := ["base", "goal", "weights"]) F_Cv 2 ["weights"] fun kV doc pm an cdv ct us ws h1 h2 => match us, ws, h1, h2 with | [_, _], [_], _, _ => rfl
  have m_Cv := PySem.W.mg_of X G a9
  have F10 := fun_mk (st := sIsChain) l10 c10 k10
  have b10 := F10.binds (ps := ["places", "ids"]) fun _ _ _ _ _ _ us hl => match us, hl with | [_, _], _ => rfl
  have Ih : Fn K mg "is_chain" sIsChain ["places", "ids"] f10 _ := ⟨F10, b10, PySem.W.mg_of X G a10⟩
  have F11 := fun_mk (st := sIsRun) l11 c11 k11
  have b11 := F11.binds (ps := ["ahead", "back", "value"]) fun _ _ _ _ _ _ us hl => match us, hl with | [_, _, _], _ => rfl
  have Ir : Fn K mg "is_run" sIsRun ["ahead", "back", "value"] f11 _ := ⟨F11, b11, PySem.W.mg_of X G a11⟩
  have F12 := fun_mk (st := sTimes) l12 c12 k12
  have b12 := F12.binds (ps := ["cover"]) fun _ _ _ _ _ _ us hl => match us, hl with | [_], _ => rfl
  have Ti : Fn K mg "times_of" sTimes ["cover"] f12 _ := ⟨F12, b12, PySem.W.mg_of X G a12⟩
  have F13 := fun_mk (st := sCovSize) l13 c13 k13
  have b13 := F13.binds (ps := ["cover"]) fun _ _ _ _ _ _ us hl => match us, hl with | [_], _ => rfl
  have Cs : Fn K mg "cover_size" sCovSize ["cover"] f13 _ := ⟨F13, b13, PySem.W.mg_of X G a13⟩
  have F_Ic : L2.FunD K "is_cover" "is_cover" (defArgs sIsCover) (defBody sIsCover) (defScope sIsCover) [] [("weights", .non)] f14 _ := ⟨⟨_, _, _, _, _, _, _, _, _, _, rfl, l14, c14, .inl ⟨rfl, rfl⟩, .inr ⟨_, rfl, (by intro q hq; rcases List.mem_cons.mp hq with e | hq; (rw [e]; exact ⟨_, w14_0, rfl⟩); cases hq)⟩⟩, k14⟩
  have d_Ic := L2.FunD.binds0 (ps := ["base", "goal", "cover", "weights"]) F_Ic 3 (by intro z; cases z) rfl fun D doc pm an cdv ct us ks hu hk => match us, ks, hu, hk with | [_, _, _], [_], _, _ => ⟨_, _, _, _, _, _, rfl, rfl, rfl⟩
  have b_Ic := Hk.FunD.kbindsA (ps := ["base", "goal", "cover", "weights"]) F_Ic 3 ["weights"] fun kV doc pm an cdv ct us ws h1 h2 => match us, ws, h1, h2 with | [_, _, _], [_], _, _ => rfl
  have m_Ic := PySem.W.mg_of X G a14
  have F_Ib : L2.FunD K "is_best" "is_best" (defArgs sIsBest) (defBody sIsBest) (defScope sIsBest) [] [("weights", .non), ("favoured", .ref E15)] f15 _ := ⟨⟨_, _, _, _, _, _, _, _, _, _, rfl, l15, c15, .inl ⟨rfl, rfl⟩, .inr ⟨_, rfl, (by intro q hq; rcases List.mem_cons.mp hq with e | hq; (rw [e]; exact ⟨_, w15_0, rfl⟩); rcases List.mem_cons.mp hq with e | hq; (rw [e]; exact ⟨_, w15_1, rfl⟩); cases hq)⟩⟩, k15⟩
  have d_Ib := L2.FunD.binds0 (ps := ["base", "goal", "ids", "cover", "weights", "favoured"]) F_Ib 4 (by intro z; cases z) rfl fun D doc pm an cdv ct us ks hu hk => match us, ks, hu, hk with | [_, _, _, _], [_, _], _, _ => ⟨_, _, _, _, _, _, rfl, rfl, ⟨_, _, _, _, _, _, rfl, rfl, rfl⟩⟩
  have b_Ib := Hk.FunD.kbindsA (ps := ["base", "goal", "ids", "cover", "weights", "favoured"]) F_Ib 4 ["weights", "favoured"] fun kV doc pm an cdv ct us ws h1 h2 => match us, ws, h1, h2 with | [_, _, _, _], [_, _], _, _ => rfl
  have m_Ib := PySem.W.mg_of X G a15
  have F16 := fun_mk (st := sDeck) l16 c16 k16
  have b16 := F16.binds (ps := ["script", "start"]) fun _ _ _ _ _ _ us hl => match us, hl with | [_, _], _ => rfl
  have De : Fn K mg "_law_tape" sDeck ["script", "start"] f16 _ := ⟨F16, b16, PySem.W.mg_of X G a16⟩
  have F17 := fun_mk (st := sDraw) l17 c17 k17
  have b17 := F17.binds (ps := ["tape", "size"]) fun _ _ _ _ _ _ us hl => match us, hl with | [_, _], _ => rfl
  have Dr : Fn K mg "_law_pick" sDraw ["tape", "size"] f17 _ := ⟨F17, b17, PySem.W.mg_of X G a17⟩
  have F18 := fun_mk (st := sChoose) l18 c18 k18
  have b18 := F18.binds (ps := ["tape", "items"]) fun _ _ _ _ _ _ us hl => match us, hl with | [_, _], _ => rfl
  have Ch : Fn K mg "_law_one_of" sChoose ["tape", "items"] f18 _ := ⟨F18, b18, PySem.W.mg_of X G a18⟩
  have F19 := fun_mk (st := sShuf) l19 c19 k19
  have b19 := F19.binds (ps := ["tape", "ids"]) fun _ _ _ _ _ _ us hl => match us, hl with | [_, _], _ => rfl
  have Sh : Fn K mg "_law_shuffled" sShuf ["tape", "ids"] f19 _ := ⟨F19, b19, PySem.W.mg_of X G a19⟩
  have F20 := fun_mk (st := sIds) l20 c20 k20
  have b20 := F20.binds (ps := ["tape", "size"]) fun _ _ _ _ _ _ us hl => match us, hl with | [_, _], _ => rfl
  have Id : Fn K mg "_law_ids" sIds ["tape", "size"] f20 _ := ⟨F20, b20, PySem.W.mg_of X G a20⟩
  have F21 := fun_mk (st := sGoal) l21 c21 k21
  have b21 := F21.binds (ps := ["tape", "base"]) fun _ _ _ _ _ _ us hl => match us, hl with | [_, _], _ => rfl
  have Go : Fn K mg "_law_goal" sGoal ["tape", "base"] f21 _ := ⟨F21, b21, PySem.W.mg_of X G a21⟩
  have F22 := fun_mk (st := sLoads) l22 c22 k22
  have b22 := F22.binds (ps := ["tape", "base", "most"]) fun _ _ _ _ _ _ us hl => match us, hl with | [_, _, _], _ => rfl
  have Lo : Fn K mg "_law_loads" sLoads ["tape", "base", "most"] f22 _ := ⟨F22, b22, PySem.W.mg_of X G a22⟩
  have F23 := fun_mk (st := sLoad) l23 c23 k23
  have b23 := F23.binds (ps := ["loads", "row_id"]) fun _ _ _ _ _ _ us hl => match us, hl with | [_, _], _ => rfl
  have Ld : Fn K mg "_law_load" sLoad ["loads", "row_id"] f23 _ := ⟨F23, b23, PySem.W.mg_of X G a23⟩
  have F24 := fun_mk (st := sLiked) l24 c24 k24
  have b24 := F24.binds (ps := ["tape", "base"]) fun _ _ _ _ _ _ us hl => match us, hl with | [_, _], _ => rfl
  have Li : Fn K mg "_law_liked" sLiked ["tape", "base"] f24 _ := ⟨F24, b24, PySem.W.mg_of X G a24⟩
  have F25 := fun_mk (st := sLawExact) l25 c25 k25
  have b25 := F25.binds (ps := ["goal", "loads", "liked"]) fun _ _ _ _ _ _ us hl => match us, hl with | [_, _, _], _ => rfl
  have Xl : Fn K mg "_law_exact" sLawExact ["goal", "loads", "liked"] f25 _ := ⟨F25, b25, PySem.W.mg_of X G a25⟩
  have F26 := fun_mk (st := sIsNum) l26 c26 k26
  have b26 := F26.binds (ps := ["value", "least"]) fun _ _ _ _ _ _ us hl => match us, hl with | [_, _], _ => rfl
  have Nu : Fn K mg "_law_is_number" sIsNum ["value", "least"] f26 _ := ⟨F26, b26, PySem.W.mg_of X G a26⟩
  have F27 := fun_mk (st := sLawIsRun) l27 c27 k27
  have b27 := F27.binds (ps := ["base", "goal", "run"]) fun _ _ _ _ _ _ us hl => match us, hl with | [_, _, _], _ => rfl
  have Lr : Fn K mg "_law_is_run" sLawIsRun ["base", "goal", "run"] f27 _ := ⟨F27, b27, PySem.W.mg_of X G a27⟩
  have F28 := fun_mk (st := sLawCovers) l28 c28 k28
  have b28 := F28.binds (ps := ["base", "goal", "cover", "loads"]) fun _ _ _ _ _ _ us hl => match us, hl with | [_, _, _, _], _ => rfl
  have Lc : Fn K mg "_law_covers" sLawCovers ["base", "goal", "cover", "loads"] f28 _ := ⟨F28, b28, PySem.W.mg_of X G a28⟩
  have F29 := fun_mk (st := sBentRun) l29 c29 k29
  have b29 := F29.binds (ps := ["tape", "base", "run"]) fun _ _ _ _ _ _ us hl => match us, hl with | [_, _, _], _ => rfl
  have Br : Fn K mg "_law_bent_run" sBentRun ["tape", "base", "run"] f29 _ := ⟨F29, b29, PySem.W.mg_of X G a29⟩
  have F30 := fun_mk (st := sBentCov) l30 c30 k30
  have b30 := F30.binds (ps := ["tape", "base", "cover"]) fun _ _ _ _ _ _ us hl => match us, hl with | [_, _, _], _ => rfl
  have Bc : Fn K mg "_law_bent_cover" sBentCov ["tape", "base", "cover"] f30 _ := ⟨F30, b30, PySem.W.mg_of X G a30⟩
  have F31 := fun_mk (st := sIsRight) l31 c31 k31
  have b31 := F31.binds (ps := ["base", "goal", "ids", "cover", "exact"]) fun _ _ _ _ _ _ us hl => match us, hl with | [_, _, _, _, _], _ => rfl
  have Ri : Fn K mg "_law_is_right" sIsRight ["base", "goal", "ids", "cover", "exact"] f31 _ := ⟨F31, b31, PySem.W.mg_of X G a31⟩
  have F32 := fun_mk (st := sBentIds) l32 c32 k32
  have b32 := F32.binds (ps := ["tape", "base", "ids"]) fun _ _ _ _ _ _ us hl => match us, hl with | [_, _, _], _ => rfl
  have Bi : Fn K mg "_law_bent_ids" sBentIds ["tape", "base", "ids"] f32 _ := ⟨F32, b32, PySem.W.mg_of X G a32⟩
  exact ⟨PySem.W.fnOf "law" "law" (defArgs sLaw) (defBody sLaw) (defScope sLaw) .none kV33 dc33 pm33 an33 cd33 ct33, fun s v => .of_eq rfl, fun base _ _ =>
    (have TV : TxtV mg := ⟨n_len, n_isinstance, n_int, n_bool, n_tuple, n_set, n_all, n_list⟩
    have GDr := ok_draw (P := l.prog) (w := w) (K := K) (mg := mg) (base := base) Dr.F
    have GC := ok_choose (P := l.prog) (w := w) (base := base) Ch.F ⟨n_len⟩ Dr.F Dr.b Dr.m
    have GSh := ok_shuf (P := l.prog) (w := w) (base := base) Sh.F ⟨n_len, n_list⟩ Dr.F Dr.b Dr.m
    have GI := ok_ids Id.F ⟨n_len, n_list, n_range⟩ GC Ch.F.kp Ch.b Ch.m GSh Sh.F.kp Sh.b Sh.m
    have GG := ok_goal (P := l.prog) (w := w) (base := base) Go.F ⟨n_len, n_list, n_range⟩ Dr.F Dr.b Dr.m GSh Sh.F.kp Sh.b Sh.m
    have GLo := ok_loads (P := l.prog) (w := w) (base := base) Lo.F Dr.F Dr.b Dr.m GC Ch.F.kp Ch.b Ch.m
    have GLd := ok_load (P := l.prog) (w := w) (K := K) (mg := mg) (base := base) Ld.F
    have GPl := ok_places (P := l.prog) (w := w) (base := base) Pl.F n_enumerate
    have GFu := ok_full (P := l.prog) (w := w) (mg := mg) (base := base) Fu.F
    have GFa := ok_favs Fa.F ⟨n_set, n_len⟩ GFu Fu.F.kp Fu.b Fu.m
    have GTo := ok_total (P := l.prog) (w := w) (base := base) To.F n_sum
    have GLi := ok_liked (P := l.prog) (w := w) (base := base) Li.F ⟨n_len, n_tuple⟩ Dr.F Dr.b Dr.m GC Ch.F.kp Ch.b Ch.m
    have GLv := ok_tops Lv.F ⟨n_max⟩ GPl Pl.F.kp Pl.b Pl.m
    have GCv := ok_cover F_Cv ⟨n_list, n_set, n_sorted, n_zip, n_tuple⟩ GFu Fu.F.kp Fu.b Fu.m GLv Lv.F.kp Lv.b Lv.m
    have GIh := ok_chain (P := l.prog) (w := w) (base := base) Ih.F TV n_zip Wh.F Wh.b Wh.m
    have GIr := ok_run Ir.F TV Wh.F Wh.b Wh.m GIh Ih.F.kp Ih.b Ih.m
    have GTi := ok_times (P := l.prog) (w := w) (K := K) (mg := mg) (base := base) Ti.F
    have GIc := ok_isCover F_Ic n_all GPl Pl.F.kp Pl.b Pl.m GIr Ir.F.kp Ir.b Ir.m GTi Ti.F.kp Ti.b Ti.m GFu Fu.F.kp Fu.b Fu.m
    have GNu := ok_isNum (P := l.prog) (w := w) (K := K) (mg := mg) (base := base) Nu.F TV
    have GLr := ok_lawRun Lr.F TV n_sorted GNu Nu.F.kp Nu.b Nu.m
    have GLc := ok_lawCov Lc.F n_sum GLr Lr.F.kp Lr.b Lr.m GLd Ld.F.kp Ld.b Ld.m
    have GBr := ok_bentRun Br.F n_len n_list GDr Dr.F.kp Dr.b Dr.m GC Ch.F.kp Ch.b Ch.m
    have GBc := ok_bentCov Bc.F TV n_range GDr Dr.F.kp Dr.b Dr.m GC Ch.F.kp Ch.b Ch.m GBr Br.F.kp Br.b Br.m
    have GBe := ok_best F_Be ⟨n_max⟩ GFa Fa.F.kp Fa.b Fa.m GLv Lv.F.kp Lv.b Lv.m
    have GEx := ok_exact F_Ex n_len n_enumerate GFa Fa.F.kp Fa.b Fa.m
    have GCs := ok_size (P := l.prog) (w := w) (base := base) Cs.F n_sum
    have GIb := ok_isBest F_Ib GPl Pl.F.kp Pl.b Pl.m GIh Ih.F.kp Ih.b Ih.m GEx F_Ex.kp b_Ex m_Ex GIc F_Ic.kp b_Ic m_Ic GCs Cs.F.kp Cs.b Cs.m GTo To.F.kp To.b To.m
    have GXl := ok_exL Xl.F n_len n_int GLd Ld.F.kp Ld.b Ld.m
    have GRi := ok_right Ri.F n_sorted n_set n_sum GNu Nu.F.kp Nu.b Nu.m GLc Lc.F.kp Lc.b Lc.m
    have GBi := ok_bentIds Bi.F n_len n_list n_range GDr Dr.F.kp Dr.b Dr.m GC Ch.F.kp Ch.b Ch.m
    ok_law (fun_mk (st := sLaw) l33 c33 k33) ⟨n_len⟩ ⟨n_range, n_max, n_min, n_repr, n_isinstance, n_bool⟩ De Dr Id GI Go GG Lo GLo Li GLi
      ⟨GBe, F_Be.kp, m_Be, d_Be, b_Be⟩ ⟨GCv, F_Cv.kp, m_Cv, d_Cv, b_Cv⟩ ⟨GIb, F_Ib.kp, m_Ib, d_Ib, b_Ib⟩ (fun H => .inr ⟨_, _, _, v15, rfl, rfl, Nat.zero_le _, .nil⟩) Xl GXl Bi GBi Bc GBc Ri GRi)⟩
end Hk
open PySem PySem.W PyProof.Rows in
set_option maxRecDepth 100000 in
set_option maxHeartbeats 0 in
theorem PySem.Challenge.cw_handsorted_k65_best_sets_judged_holds : PySem.Challenge.rw_handsorted_k65_best_sets_judged.Holds := by
  w_on; o_law; k_head; (case hw => w_witness2)
  k_fill
  refine Hk.walkG (l := PySem.Challenge.rw_handsorted_k65_best_sets_judged) (n := 63) (k := 6) (x := "script") (sp := Hk.spLaw) rfl (by decide) rfl ⟨rfl, by decide, by decide⟩ (fun w h Y => PySem.W.kIn_of Y) ?F (fun _ _ a ns hl hb hS => ⟨a, ns, rfl, hS, hl, hb, fun _ => rfl⟩)
  case F =>
    intro w mg fa h KX G hmg
    refine' Hk.all_mk KX G hmg ?a1 ?l1 ?c1 ?k1 ?a2 ?l2 ?c2 ?k2 ?a3 ?l3 ?c3 ?k3 ?a4 ?l4 ?c4 ?k4 ?a5 ?l5 ?c5 ?k5 ?a6 ?l6 ?c6 ?k6 ?a7 ?l7 ?c7 ?k7 ?w7_0 ?w7_1 ?v7 ?a8 ?l8 ?c8 ?k8 ?w8_0 ?w8_1 ?v8 ?a9 ?l9 ?c9 ?k9 ?w9_0 ?a10 ?l10 ?c10 ?k10 ?a11 ?l11 ?c11 ?k11 ?a12 ?l12 ?c12 ?k12 ?a13 ?l13 ?c13 ?k13 ?a14 ?l14 ?c14 ?k14 ?w14_0 ?a15 ?l15 ?c15 ?k15 ?w15_0 ?w15_1 ?v15 ?a16 ?l16 ?c16 ?k16 ?a17 ?l17 ?c17 ?k17 ?a18 ?l18 ?c18 ?k18 ?a19 ?l19 ?c19 ?k19 ?a20 ?l20 ?c20 ?k20 ?a21 ?l21 ?c21 ?k21 ?a22 ?l22 ?c22 ?k22 ?a23 ?l23 ?c23 ?k23 ?a24 ?l24 ?c24 ?k24 ?a25 ?l25 ?c25 ?k25 ?a26 ?l26 ?c26 ?k26 ?a27 ?l27 ?c27 ?k27 ?a28 ?l28 ?c28 ?k28 ?a29 ?l29 ?c29 ?k29 ?a30 ?l30 ?c30 ?k30 ?a31 ?l31 ?c31 ?k31 ?a32 ?l32 ?c32 ?k32 ?a33 ?l33 ?c33 ?k33 ?z0 ?z1 ?z2 ?z3 ?z4 ?z5 ?z6 ?z7 ?z8 ?z9 ?z10 ?z11 ?z12 ?z13 ?z14 ?z15 ?z16
    (case a1 => k_is)
    (case l1 => k_is)
    (case c1 => k_is)
    (case k1 => k_is)
    (case a2 => k_is)
    (case l2 => k_is)
    (case c2 => k_is)
    (case k2 => k_is)
    (case a3 => k_is)
    (case l3 => k_is)
    (case c3 => k_is)
    (case k3 => k_is)
    (case a4 => k_is)
    (case l4 => k_is)
    (case c4 => k_is)
    (case k4 => k_is)
    (case a5 => k_is)
    (case l5 => k_is)
    (case c5 => k_is)
    (case k5 => k_is)
    (case a6 => k_is)
    (case l6 => k_is)
    (case c6 => k_is)
    (case k6 => k_is)
    (case a7 => k_is)
    (case l7 => k_is)
    (case c7 => k_is)
    (case k7 => k_is)
    (case w7_0 => k_is)
    (case w7_1 => k_is)
    (case v7 => k_is)
    (case a8 => k_is)
    (case l8 => k_is)
    (case c8 => k_is)
    (case k8 => k_is)
    (case w8_0 => k_is)
    (case w8_1 => k_is)
    (case v8 => k_is)
    (case a9 => k_is)
    (case l9 => k_is)
    (case c9 => k_is)
    (case k9 => k_is)
    (case w9_0 => k_is)
    (case a10 => k_is)
    (case l10 => k_is)
    (case c10 => k_is)
    (case k10 => k_is)
    (case a11 => k_is)
    (case l11 => k_is)
    (case c11 => k_is)
    (case k11 => k_is)
    (case a12 => k_is)
    (case l12 => k_is)
    (case c12 => k_is)
    (case k12 => k_is)
    (case a13 => k_is)
    (case l13 => k_is)
    (case c13 => k_is)
    (case k13 => k_is)
    (case a14 => k_is)
    (case l14 => k_is)
    (case c14 => k_is)
    (case k14 => k_is)
    (case w14_0 => k_is)
    (case a15 => k_is)
    (case l15 => k_is)
    (case c15 => k_is)
    (case k15 => k_is)
    (case w15_0 => k_is)
    (case w15_1 => k_is)
    (case v15 => k_is)
    (case a16 => k_is)
    (case l16 => k_is)
    (case c16 => k_is)
    (case k16 => k_is)
    (case a17 => k_is)
    (case l17 => k_is)
    (case c17 => k_is)
    (case k17 => k_is)
    (case a18 => k_is)
    (case l18 => k_is)
    (case c18 => k_is)
    (case k18 => k_is)
    (case a19 => k_is)
    (case l19 => k_is)
    (case c19 => k_is)
    (case k19 => k_is)
    (case a20 => k_is)
    (case l20 => k_is)
    (case c20 => k_is)
    (case k20 => k_is)
    (case a21 => k_is)
    (case l21 => k_is)
    (case c21 => k_is)
    (case k21 => k_is)
    (case a22 => k_is)
    (case l22 => k_is)
    (case c22 => k_is)
    (case k22 => k_is)
    (case a23 => k_is)
    (case l23 => k_is)
    (case c23 => k_is)
    (case k23 => k_is)
    (case a24 => k_is)
    (case l24 => k_is)
    (case c24 => k_is)
    (case k24 => k_is)
    (case a25 => k_is)
    (case l25 => k_is)
    (case c25 => k_is)
    (case k25 => k_is)
    (case a26 => k_is)
    (case l26 => k_is)
    (case c26 => k_is)
    (case k26 => k_is)
    (case a27 => k_is)
    (case l27 => k_is)
    (case c27 => k_is)
    (case k27 => k_is)
    (case a28 => k_is)
    (case l28 => k_is)
    (case c28 => k_is)
    (case k28 => k_is)
    (case a29 => k_is)
    (case l29 => k_is)
    (case c29 => k_is)
    (case k29 => k_is)
    (case a30 => k_is)
    (case l30 => k_is)
    (case c30 => k_is)
    (case k30 => k_is)
    (case a31 => k_is)
    (case l31 => k_is)
    (case c31 => k_is)
    (case k31 => k_is)
    (case a32 => k_is)
    (case l32 => k_is)
    (case c32 => k_is)
    (case k32 => k_is)
    (case a33 => k_is)
    (case l33 => k_is)
    (case c33 => k_is)
    (case k33 => k_is)
    (case z0 => k_is)
    (case z1 => k_is)
    (case z2 => k_is)
    (case z3 => k_is)
    (case z4 => k_is)
    (case z5 => k_is)
    (case z6 => k_is)
    (case z7 => k_is)
    (case z8 => k_is)
    (case z9 => k_is)
    (case z10 => k_is)
    (case z11 => k_is)
    (case z12 => k_is)
    (case z13 => k_is)
    (case z14 => k_is)
    (case z15 => k_is)
    (case z16 => k_is)

