import PyProof.Rows.All
import Wide.All
import OpenK.AllK
import Wide.FinOn
import HandS.ForMost
import HandS.EndBits
import HandS.Set
import HandS.SetFor
import HandS.IsInst
import KE.KSortedM
import PyProof.ReprRoads
import PyProof.EqAt
import PyProof.EqKinds
import PyProof.TupleCall
import Open.SpecLaws
import KE.OsGo
import HandS.Style
import HandS.TupAny
import HandS.Conv
import PySem.Challenge.RW_handsorted_k01_items_and_rules
set_option Elab.async false
set_option linter.all false
set_option maxRecDepth 100000
set_option maxHeartbeats 8000000
namespace Hk
open PySem L2 PySem.Spec PyProof.Rows
def top (i : Nat) : Stmt := PySem.Challenge.pw_handsorted_k01_items_and_rules.main.body.getD i (.Pass ⟨0, 0, 0, 0⟩)
abbrev sWhole : Stmt := top 1
abbrev sWithin : Stmt := top 2
abbrev sDiff : Stmt := top 3
abbrev sIsId : Stmt := top 8
abbrev sAreFields : Stmt := top 9
abbrev sIsItem : Stmt := top 10
abbrev sIsRule : Stmt := top 11
abbrev sDeck : Stmt := top 13
abbrev sDraw : Stmt := top 14
abbrev sChoose : Stmt := top 15
abbrev sShuf : Stmt := top 16
abbrev sFields : Stmt := top 17
abbrev sIds : Stmt := top 18
abbrev sRule : Stmt := top 19
abbrev sSign : Stmt := top 20
abbrev sSorted : Stmt := top 21
abbrev sWholeNum : Stmt := top 22
abbrev sItemDue : Stmt := top 23
abbrev sRuleDue : Stmt := top 24
abbrev sAny : Stmt := top 25
abbrev sBent : Stmt := top 26
abbrev sTold : Stmt := top 27
abbrev sLaw : Stmt := top 28
/-! ### numbers of any size -/
def CPowG (i j : Int) : Prop := 0 ≤ j ∧ (Builtin.Int.intBits i : Int) * j ≤ 2 ^ 27
section
variable {X : Cx}
theorem op_mulG : OpR X (binaryOp .Mult) (rI IntMulOk fun i j => .int (i * j)) := opI fun _ _ _ _ _ _ _ hc q => mul_int q hc
theorem op_powG : OpR X (binaryOp .Pow) (rI CPowG fun i j => .int (i ^ j.toNat)) := opI fun _ _ _ _ _ _ _ hc q => pow_int hc.1 hc.2 q
end
theorem mulOk_bits {i j : Int} {a b : Nat} (ha : Builtin.Int.intBits i ≤ a) (hb : Builtin.Int.intBits j ≤ b) (h : a + b ≤ 100000000) : IntMulOk i j := by
  have e : bitsLine = 134217728 := by decide
  unfold IntMulOk
  intro z
  rw [Bool.and_eq_true] at z
  have z2 := z.2
  unfold Builtin.Int.intTooBig at z2
  have z3 := of_decide_eq_true z2
  rw [e] at z3
  omega
theorem bits_le {i : Int} {n : Nat} (h : i.natAbs < 2 ^ n) : Builtin.Int.intBits i ≤ n := intBits_le h
/-- the turn of the deck's loop -/
theorem turn_bits {m e : Int} {k : Nat} (h0 : 0 ≤ m) (h1 : m < 2147483600) (he : Builtin.Int.intBits e ≤ k) (hk : 30 ≤ k) :
    Builtin.Int.intBits (m * 20011 + e * e + 13) ≤ 2 * k + 1 := by
  refine bits_le ?_
  have a1 : e.natAbs < 2 ^ k := Nat.lt_of_lt_of_le (natAbs_lt_pow_bits e) (Nat.pow_le_pow_right (by omega) he)
  have a2 : (e * e).natAbs < 2 ^ (2 * k) := by
    rw [Int.natAbs_mul, Nat.two_mul, Nat.pow_add]
    exact Nat.mul_lt_mul'' a1 a1
  have a3 : (m * 20011 + 13).natAbs < 2 ^ 60 := by
    have : (2 : Nat) ^ 60 = 1152921504606846976 := by decide
    omega
  have a4 : (2 : Nat) ^ 60 ≤ 2 ^ (2 * k) := Nat.pow_le_pow_right (by omega) (by omega)
  have a5 : (2 : Nat) ^ (2 * k + 1) = 2 ^ (2 * k) + 2 ^ (2 * k) := by rw [Nat.pow_succ, Nat.mul_two]
  rw [a5]
  generalize (2 : Nat) ^ (2 * k) = B at *
  generalize e * e = q at *
  omega
/-! ### the deck -/
def dk (x y : Int) : List (Key × V) := [(.inr "digits", .int x), (.inr "mixed", .int y)]
def DeckAt (H : Hp) (d : Addr) : Prop := ∃ x y : Int, H d = some (.dK (dk x y)) ∧ 0 ≤ x ∧ 0 ≤ y ∧ y < 2147483600
/-- all that was tracked is as it was, but what stands at d -/
def But (d : Addr) (H H' : Hp) : Prop := ∀ b o, b ≠ d → H b = some o → H' b = some o
theorem But.refl (d : Addr) (H : Hp) : But d H H := fun _ _ _ h => h
theorem But.trans {d : Addr} {H H1 H2 : Hp} (a : But d H H1) (b : But d H1 H2) : But d H H2 := fun c o n h => b c o n (a c o n h)
theorem But.of {d : Addr} {H H' : Hp} (a : Same H H') : But d H H' := fun c o _ h => a c o h
theorem But.upd {d : Addr} {H : Hp} {o : HO} : But d H (upd H d o) := fun b u n h => by rw [upd_ne n]; exact h
theorem But.new {d p : Addr} {H : Hp} {o : HO} (h : H p = none) : But d H (L2.upd H p o) := fun b u n e => by rw [upd_ne (ne_of_none e h)]; exact e
theorem Same.new {p : Addr} {H : Hp} {o : HO} (h : H p = none) : Same H (L2.upd H p o) := fun b u e => by rw [upd_ne (ne_of_none e h)]; exact e
theorem DeckAt.same {H H' : Hp} {d : Addr} (D : DeckAt H d) (s : Same H H') : DeckAt H' d := let ⟨x, y, h, r⟩ := D; ⟨x, y, s _ _ h, r⟩
theorem dm_ : ¬ (("digits" : Str) = "mixed") := by decide +kernel
theorem md_ : ¬ (("mixed" : Str) = "digits") := by decide +kernel
theorem dk_digits (x y : Int) : valV (dk x y) (Sum.inr "digits" : Key) = some (.int x) := by
  unfold valV dk
  rw [List.find?_cons_of_pos]
  · rfl
  · exact decide_eq_true rfl
theorem dk_mixed (x y : Int) : valV (dk x y) (Sum.inr "mixed" : Key) = some (.int y) := by
  unfold valV dk
  rw [List.find?_cons_of_neg, List.find?_cons_of_pos]
  · rfl
  · exact decide_eq_true rfl
  · intro q
    exact dm_ (Sum.inr.inj (of_decide_eq_true q))
theorem dk_put_digits (x y z : Int) : putK (dk x y) (Sum.inr "digits" : Key) (.int z) = dk z y := by
  unfold putK dk
  have n : ¬ (Sum.inr "mixed" : Key) = (Sum.inr "digits" : Key) := fun q => md_ (Sum.inr.inj q)
  simp only [List.any_cons, decide_true, Bool.true_or, if_true, List.map_cons, List.map_nil, if_neg n]
theorem dk_put_mixed (x y z : Int) : putK (dk x y) (Sum.inr "mixed" : Key) (.int z) = dk x z := by
  unfold putK dk
  have n : ¬ (Sum.inr "digits" : Key) = (Sum.inr "mixed" : Key) := fun q => dm_ (Sum.inr.inj q)
  simp only [List.any_cons, decide_true, Bool.true_or, Bool.or_true, if_true, List.map_cons, List.map_nil, if_neg n]
theorem dk_merge (x y : Int) : mergeK [] [((Sum.inr "digits" : Key), V.int x), ((Sum.inr "mixed" : Key), V.int y)] = dk x y := by
  unfold mergeK putK dk
  have n : ¬ (Sum.inr "digits" : Key) = (Sum.inr "mixed" : Key) := fun q => dm_ (Sum.inr.inj q)
  simp only [List.foldl_cons, List.foldl_nil, List.any_nil, List.nil_append, List.any_cons, decide_eq_false n, Bool.or_self]
  rfl
structure TxtD (mg : Str → Option Value) : Prop where
  len : mg "len" = none
section
variable {P : Program} {w : World} {K : PySem.W.Frag} {mg : Str → Option Value} {base : Heap}
def spDeck (K : PySem.W.Frag) : Sp := fun vs H Q _ => ∃ (a : Addr) (ns : List Int) (st : Int), vs = [.ref a, .int st] ∧ SqL K H a (ns.map V.int) ∧ ns.length ≤ 63 ∧ (∀ z ∈ ns, Builtin.Int.intBits z ≤ 1048576) ∧ 0 ≤ st ∧ st ≤ 63 ∧
  ∀ (d : Addr) (H' : Hp), H d = none → Same H H' → DeckAt H' d → Q (.ref d) H'
theorem scDeck : FnScope ["script", "start", "mixed", "entry", "digits"] ["script", "start"] (defScope sDeck) := ⟨rfl, rfl, rfl, by decide +kernel, rfl, by decide +kernel, by decide +kernel⟩
theorem ok_deck {f : Addr} {fd : FuncData} (F : Fun K "_law_deck" "_law_deck" sDeck f fd) (T : TxtD mg) : FnOk P w K mg base CX0 1 f fd ["script", "start"] (spDeck K) := by
  refine F.ok scDeck (fun vs H Q E h => ?_) (fun cdv A outer s H vs Q E hr h => ?_)
  · obtain ⟨a, ns, st, rfl, _⟩ := h
    rfl
  · obtain ⟨a, ns, st, rfl, hS, hlen, hb, h0, h1, k⟩ := h
    have hu := hu_of hr
    refine ⟨_, pss_cons (ps_set (i := 2) scDeck.nd rfl (Or.inl rfl) (pe_op op_add pe_int (pe_op op_mul (pv 1) pe_int)))
      (pss_cons (ps_for PassesOwn.never rfl (pi_list (pv 0)) (pg_name (i := 3) scDeck.nd rfl (Or.inl rfl))
        (pss_one (ps_set (i := 2) scDeck.nd rfl (Or.inl rfl) (pe_op op_add (pe_op op_mod (pe_op op_powG (pe_op op_add (pe_op op_add (pe_op op_mul (pv 2) pe_int) (pe_op op_mulG (pv 3) (pv 3))) pe_int) pe_int) pe_int) pe_int))))
      (pss_cons (ps_set (i := 4) scDeck.nd rfl (Or.inl rfl) (pe_ifExp (PW.pt (pw_and (pt_cmpR op_lt (pv 1) (pe_callB call_len_seq (by rfl) T.len PySem.boot_len (pa_cons (pv 0) pa_nil)) (nomark _))
          (pw_and1 (pt_cmpR op_ge (pe_ix ix_list (pv 0) (pv 1) (fun _ _ => rfl)) (pe_op op_pow pe_int pe_int) (nomark _)))))
          (pe_op op_sub (pe_ix ix_list (pv 0) (pv 1) (fun _ _ => rfl)) (pe_op op_pow pe_int pe_int)) pe_int))
      (pss_one (ps_ret (pe_disp (pps_cons pe_str (pv 4) (pps_cons pe_str (pv 2) pps_nil)) (by rfl) (by rfl) (fun z => by cases z) (by decide)))))), ?_⟩
    refine ⟨_, rfl, _, _, rfl, rfl, .inr ⟨by decide, by decide⟩, _, _, rfl, rfl, ?_⟩
    refine ⟨_, rfl, a, rfl, ⟨_, hS⟩, for_list (K := K) (a := a) (xs := ns.map V.int) (fun i σ H' => ∃ (m : Int) (v : Option V), σ = [some (.ref a), some (.int st), some (.int m), v, none] ∧ H' = H ∧ 0 ≤ m ∧ m < 2147483600)
      ⟨_, none, rfl, rfl, by omega, by omega⟩ (fun i σ H' _ ⟨_, _, _, e, _⟩ => by rw [e]; exact hS) ?_ ?_⟩
    · rintro i y σ H' hi ⟨m, v, rfl, rfl, m0, m1⟩
      obtain ⟨e, he, rfl⟩ : ∃ e, e ∈ ns ∧ y = V.int e := by
        rw [List.getElem?_map] at hi
        cases q : ns[i]? with
        | none => rw [q] at hi; cases hi
        | some u => rw [q] at hi; exact ⟨u, List.mem_of_getElem? q, (Option.some.inj hi).symm⟩
      have hbits := hb e he
      have hT := turn_bits (k := 1048576) m0 m1 hbits (by decide)
      refine ⟨_, rfl, _, _, rfl, rfl, .inr ⟨by decide, by decide⟩, _, rfl, _, rfl, _, _, rfl, rfl, mulOk_bits hbits hbits (by decide), _, _, rfl, rfl, _, _, rfl, rfl, _, _, rfl, rfl, ⟨by decide, ?_⟩, _, _, rfl, rfl, (by show (0 : Int) < 2147483549; decide), _, _, rfl, rfl, ?_⟩
      · have z : (2 : Int) ^ 27 = 134217728 := by decide
        rw [z]
        generalize Builtin.Int.intBits (m * 20011 + e * e + 13) = B at hT ⊢
        omega
      · refine ⟨_, _, rfl, rfl, ?_, ?_⟩
        · have := Int.emod_nonneg ((m * 20011 + e * e + 13) ^ (2 : Int).toNat) (b := 2147483549) (by decide)
          generalize (m * 20011 + e * e + 13) ^ (2 : Int).toNat % 2147483549 = z at *
          omega
        · have := Int.emod_lt_of_pos ((m * 20011 + e * e + 13) ^ (2 : Int).toNat) (b := 2147483549) (by decide)
          generalize (m * 20011 + e * e + 13) ^ (2 : Int).toNat % 2147483549 = z at *
          omega
    · rintro σ H' ⟨m, v, rfl, rfl, m0, m1⟩
      have fin : ∀ (x : Int) (σ' : L2.St), 0 ≤ x → σ' = [some (.ref a), some (.int st), some (.int m), v, some (.int x)] →
          (tRet (tDisp [(tC (.str "digits"), tVar 4), (tC (.str "mixed"), tVar 2)])) { nx := fun _ H' => Q .non H', rt := Q } σ' H' := by
        rintro x σ' hx rfl
        intro p hp
        refine ⟨_, rfl, _, rfl, upd_same, [((Sum.inr "digits" : Key), V.int x), ((Sum.inr "mixed" : Key), V.int m)], rfl, (by show 2 ≤ 15; decide), ?_⟩
        rw [upd_upd, dk_merge]
        exact k p _ hp (Same.new hp) ⟨x, m, upd_same, hx, m0, m1⟩
      refine ⟨_, rfl, _, rfl, a, _, rfl, .inl hS, _, _, rfl, rfl, _, rfl, ?_⟩
      refine ite2 (fun hlt => ?_) (fun hlt => ?_)
      · have hlt' : st < (ns.map V.int).length := of_decide_eq_true hlt
        rw [List.length_map] at hlt'
        obtain ⟨n, rfl⟩ : ∃ n : Nat, st = (n : Int) := ⟨st.toNat, by omega⟩
        have hn : n < ns.length := by omega
        have hat : (ns.map V.int)[n]? = some (V.int ns[n]) := by rw [List.getElem?_map, List.getElem?_eq_getElem hn]; rfl
        refine ⟨_, rfl, _, rfl, a, _, _, _, rfl, rfl, hS, atI_nat hat, _, _, rfl, rfl, ⟨by decide, by decide, by decide⟩, _, _, rfl, rfl, _, rfl, ?_⟩
        refine ite2 (fun hge => ?_) (fun hge => ?_)
        · have hge' := of_decide_eq_true hge
          refine ⟨_, rfl, _, rfl, a, _, _, _, rfl, rfl, hS, atI_nat hat, _, _, rfl, rfl, ⟨by decide, by decide, by decide⟩, _, _, rfl, rfl, ?_⟩
          exact fin _ _ (by omega) rfl
        · exact fin 0 _ (Int.le_refl _) rfl
      · refine iteF ?_
        exact fin 0 _ (Int.le_refl _) rfl
end
theorem But.seq {d a : Addr} {H H' : Hp} {K : PySem.W.Frag} {xs : List V} (D : DeckAt H d) (s : But d H H') (h : SqL K H a xs) : SqL K H' a xs := by
  obtain ⟨x, y, hd, _⟩ := D
  rcases h with (h | ⟨o, h⟩) | h
  · exact .inl (.inl (s _ _ (ne_of h hd (by intro z; cases z)) h))
  · exact .inl (.inr ⟨o, s _ _ (ne_of h hd (by intro z; cases z)) h⟩)
  · exact .inr h
theorem But.lst {d a : Addr} {H H' : Hp} {xs : List V} (D : DeckAt H d) (s : But d H H') (h : H a = some (.lst xs)) : H' a = some (.lst xs) := by
  obtain ⟨x, y, hd, _⟩ := D
  exact s _ _ (ne_of h hd (by intro z; cases z)) h
theorem But.tup {d a : Addr} {H H' : Hp} {xs : List V} (D : DeckAt H d) (s : But d H H') (h : H a = some (.tup xs)) : H' a = some (.tup xs) := by
  obtain ⟨x, y, hd, _⟩ := D
  exact s _ _ (ne_of h hd (by intro z; cases z)) h
/-- new behind is new ahead -/
theorem But.free {d p : Addr} {H H' : Hp} (D : DeckAt H' d) (s : But d H H') (h : H' p = none) : H p = none := by
  obtain ⟨x, y, hd, _⟩ := D
  cases q : H p with
  | none => rfl
  | some o =>
    have := s _ _ (fun e => by rw [e, hd] at h; cases h) q
    rw [h] at this
    cases this
theorem pow6 : (10 : Int) ^ (6 : Int).toNat = 1000000 := by decide
section
variable {P : Program} {w : World} {K : PySem.W.Frag} {mg : Str → Option Value} {base : Heap}
/-! ### a draw -/
def spDraw : Sp := fun vs H Q _ => ∃ (d : Addr) (n : Int), vs = [.ref d, .int n] ∧ DeckAt H d ∧ 0 < n ∧ n < 1073741824 ∧ ∀ (r : Int) (H' : Hp), 0 ≤ r → r < n → DeckAt H' d → But d H H' → Q (.int r) H'
theorem scDraw : FnScope ["deck", "size", "found"] ["deck", "size"] (defScope sDraw) := ⟨rfl, rfl, rfl, by decide +kernel, rfl, by decide +kernel, by decide +kernel⟩
theorem ok_draw {f : Addr} {fd : FuncData} (F : Fun K "_law_draw" "_law_draw" sDraw f fd) : FnOk P w K mg base CX0 1 f fd ["deck", "size"] spDraw := by
  refine F.ok scDraw (fun vs H Q E h => ?_) (fun cdv A outer s H vs Q E hr h => ?_)
  · obtain ⟨d, n, rfl, _⟩ := h
    rfl
  · obtain ⟨d, n, rfl, ⟨x, y, hd, x0, y0, y1⟩, n0, n1, k⟩ := h
    have hu := hu_of hr
    refine ⟨_, pss_cons (ps_if (pt_cmpR op_ge (pe_dget hu (pv 0) pe_str (fun _ _ => rfl)) (pv 1) (nomark _))
        (pss_cons (ps_set (i := 2) scDraw.nd rfl (Or.inl rfl) (pe_op op_mod (pe_dget hu (pv 0) pe_str (fun _ _ => rfl)) (pv 1)))
        (pss_cons (ps_dput hu (pv 0) pe_str (pe_op op_fdiv (pe_dget hu (pv 0) pe_str (fun _ _ => rfl)) (pv 1)) rfl)
        (pss_one (ps_ret (pv 2))))) pss_nil)
      (pss_cons (ps_dput hu (pv 0) pe_str (pe_op op_mod (pe_op op_add (pe_op op_mul (pe_dget hu (pv 0) pe_str (fun _ _ => rfl)) pe_int) pe_int) pe_int) rfl)
      (pss_one (ps_ret (pe_op op_mod (pe_op op_fdiv (pe_op op_mod (pe_op op_pow (pe_op op_mod (pe_op op_pow (pe_dget hu (pv 0) pe_str (fun _ _ => rfl)) pe_int) pe_int) pe_int) pe_int) pe_int) (pv 1))))), ?_⟩
    have gx : ∀ {H : Hp} {x y : Int}, H d = some (.dK (dk x y)) → DGet H d (.str "digits") (some (.int x)) := fun {H x y} e => by
      have := DGet.k (k := Sum.inr "digits") e
      rw [dk_digits] at this
      exact this
    have gy : ∀ {H : Hp} {x y : Int}, H d = some (.dK (dk x y)) → DGet H d (.str "mixed") (some (.int y)) := fun {H x y} e => by
      have := DGet.k (k := Sum.inr "mixed") e
      rw [dk_mixed] at this
      exact this
    have px : ∀ {H : Hp} {x y z : Int}, H d = some (.dK (dk x y)) → DPut H d (.str "digits") (.int z) (upd H d (.dK (dk z y))) := fun {H x y z} e => by
      have := DPut.k (k := Sum.inr "digits") (v := .int z) e (by show 2 < sizeLine; decide)
      rw [dk_put_digits] at this
      exact this
    have py : ∀ {H : Hp} {x y z : Int}, H d = some (.dK (dk x y)) → DPut H d (.str "mixed") (.int z) (upd H d (.dK (dk x z))) := fun {H x y z} e => by
      have := DPut.k (k := Sum.inr "mixed") (v := .int z) e (by show 2 < sizeLine; decide)
      rw [dk_put_mixed] at this
      exact this
    refine ⟨_, rfl, d, _, rfl, gx hd, _, rfl, _, _, rfl, rfl, _, rfl, ?_⟩
    refine ite2 (fun c => ?_) (fun c => ?_)
    · refine ⟨_, rfl, d, _, rfl, gx hd, _, rfl, _, _, rfl, rfl, n0, ?_⟩
      refine ⟨_, rfl, d, _, rfl, gx hd, _, rfl, _, _, rfl, rfl, ⟨n0, n1⟩, _, rfl, d, _, rfl, px hd, ?_⟩
      exact ⟨_, rfl, k _ _ (Int.emod_nonneg _ (by omega)) (Int.emod_lt_of_pos _ n0) ⟨_, y, upd_same, Int.ediv_nonneg x0 (by omega), y0, y1⟩ But.upd⟩
    · have m0 := Int.emod_nonneg (y * 39373 + 2027) (b := 2147483549) (by decide)
      have m1 := Int.emod_lt_of_pos (y * 39373 + 2027) (b := 2147483549) (by decide)
      refine ⟨_, rfl, d, _, rfl, gy hd, _, _, rfl, rfl, .inr ⟨by decide, by decide⟩, _, _, rfl, rfl, _, _, rfl, rfl, (by show (0 : Int) < 2147483549; decide), _, rfl, d, _, rfl, py hd, ?_⟩
      refine ⟨_, rfl, d, _, rfl, gy upd_same, _, _, rfl, rfl, ⟨by decide, by decide, by omega⟩, _, _, rfl, rfl, (by show (0 : Int) < 2147483423; decide), ?_⟩
      have q0 := Int.emod_nonneg (((y * 39373 + 2027) % 2147483549) ^ (2 : Int).toNat) (b := 2147483423) (by decide)
      have q1 := Int.emod_lt_of_pos (((y * 39373 + 2027) % 2147483549) ^ (2 : Int).toNat) (b := 2147483423) (by decide)
      refine ⟨_, _, rfl, rfl, ⟨by decide, by decide, by omega⟩, _, _, rfl, rfl, (by show (0 : Int) < 998244353; decide), _, _, rfl, rfl, ⟨by decide, by decide⟩, _, rfl, _, _, rfl, rfl, n0, ?_⟩
      exact k _ _ (Int.emod_nonneg _ (by omega)) (Int.emod_lt_of_pos _ n0) ⟨x, _, upd_same, x0, m0, by omega⟩ But.upd
/-! ### one of some things -/
def spChoose (K : PySem.W.Frag) : Sp := fun vs H Q _ => ∃ (d t : Addr) (xs : List V), vs = [.ref d, .ref t] ∧ DeckAt H d ∧ SqL K H t xs ∧ xs ≠ [] ∧ xs.length < 1000000 ∧ ∀ (v : V) (H' : Hp), v ∈ xs → DeckAt H' d → But d H H' → Q v H'
theorem scChoose : FnScope ["deck", "things"] ["deck", "things"] (defScope sChoose) := ⟨rfl, rfl, rfl, by decide +kernel, rfl, by decide +kernel, by decide +kernel⟩
theorem ok_choose {f fD : Addr} {fd fdD : FuncData} (F : Fun K "_law_choose" "_law_choose" sChoose f fd) (T : TxtD mg) (FD : Fun K "_law_draw" "_law_draw" sDraw fD fdD) (bD : Binds K fdD ["deck", "size"] []) (mD : mg "_law_draw" = some (.ref fD)) :
    FnOk P w K mg base CX0 2 f fd ["deck", "things"] (spChoose K) := by
  have GD : FnOk P w K mg base CX0 1 fD fdD ["deck", "size"] spDraw := ok_draw FD
  refine F.ok scChoose (fun vs H Q E h => ?_) (fun cdv A outer s H vs Q E hr h => ?_)
  · obtain ⟨d, t, xs, rfl, _⟩ := h
    rfl
  · obtain ⟨d, t, xs, rfl, D, hS, h0, h1, k⟩ := h
    refine ⟨_, pss_one (ps_ret (pe_ix ix_list (pv 1) (pe_call GD hr rfl mD FD.kp bD .nil pass0 (pa_cons (pv 0) (pa_cons (pe_callB call_len_seq (by rfl) T.len PySem.boot_len (pa_cons (pv 1) pa_nil)) pa_nil))) (fun _ _ => rfl))), ?_⟩
    have hl : 0 < xs.length := List.length_pos_iff.mpr h0
    refine ⟨_, rfl, _, rfl, _, rfl, t, _, rfl, .inl hS, d, _, rfl, D, by omega, by omega, fun r H' r0 r1 D' B => ?_⟩
    obtain ⟨n, rfl⟩ : ∃ n : Nat, r = (n : Int) := ⟨r.toNat, by omega⟩
    have hn : n < xs.length := by omega
    have hat : xs[n]? = some xs[n] := List.getElem?_eq_getElem hn
    exact ⟨t, _, _, _, rfl, rfl, B.seq D hS, atI_nat hat, k _ _ (List.getElem_mem hn) D' B⟩
end
/-! ### the walk through the ids meets a free one -/
theorem len_le_of_sub : ∀ (xs ys : List Int), xs.Nodup → (∀ x ∈ xs, x ∈ ys) → xs.length ≤ ys.length
  | [], _, _, _ => Nat.zero_le _
  | x :: r, ys, hn, hs => by
    have hx : x ∈ ys := hs x List.mem_cons_self
    have hn' := List.nodup_cons.mp hn
    have ih := len_le_of_sub r (ys.erase x) hn'.2 fun z hz => (List.mem_erase_of_ne (fun e => hn'.1 (by rw [← e]; exact hz))).mpr (hs z (List.mem_cons_of_mem _ hz))
    have hl := List.length_erase_of_mem hx
    have : 0 < ys.length := List.length_pos_of_mem hx
    show r.length + 1 ≤ ys.length
    omega
def nx (z : Int) (i : Nat) : Int := (z - 1 + (i : Int)) % 1000000 + 1
theorem nx_zero {z : Int} (h0 : 1 ≤ z) (h1 : z ≤ 1000000) : nx z 0 = z := by unfold nx; omega
theorem nx_succ {z : Int} {i : Nat} : nx z i % 1000000 + 1 = nx z (i + 1) := by unfold nx; omega
theorem nx_lo (z : Int) (i : Nat) : 1 ≤ nx z i := by unfold nx; omega
theorem nx_hi (z : Int) (i : Nat) : nx z i ≤ 1000000 := by unfold nx; omega
theorem nx_inj {z : Int} {i j : Nat} (hi : i < 1000) (hj : j < 1000) (h : nx z i = nx z j) : i = j := by unfold nx at h; omega
theorem nx_few {z : Int} {js : List Int} {t : Nat} (ht : t ≤ 500) (h : ∀ i, i < t → nx z i ∈ js) : t ≤ js.length := by
  have a : ((List.range t).map (nx z)).Nodup := by
    refine List.pairwise_map.mpr ?_
    refine List.Pairwise.imp_of_mem ?_ (List.pairwise_lt_range (n := t))
    intro i j hi hj l e
    have q := nx_inj (by have := List.mem_range.mp hi; omega) (by have := List.mem_range.mp hj; omega) e
    omega
  have b := len_le_of_sub _ js a (fun x hx => by
    obtain ⟨i, hi, rfl⟩ := List.mem_map.mp hx
    exact h i (List.mem_range.mp hi))
  rw [List.length_map, List.length_range] at b
  exact b
theorem eqV_int (i j : Int) : eqV (.int i) (.int j) = decide (i = j) := by
  first
    | rfl
    | simp [eqV]
theorem inV_int (z : Int) (js : List Int) : inV (.int z) (js.map V.int) = decide (z ∈ js) := by
  unfold inV
  rw [List.any_map]
  induction js with
  | nil => rfl
  | cons a r ih =>
    rw [List.any_cons, ih]
    show (eqV (.int a) (.int z) || decide (z ∈ r)) = decide (z ∈ a :: r)
    rw [eqV_int]
    by_cases e : a = z
    · subst e
      simp
    · have e' : ¬ z = a := fun q => e q.symm
      simp [e, e']
theorem all_flat (js : List Int) : (js.map V.int).all flatV = true := by
  induction js with
  | nil => rfl
  | cons a r ih => exact ih
section
variable {P : Program} {w : World} {K : PySem.W.Frag} {mg : Str → Option Value} {base : Heap}
/-- so many different ids -/
def IdsL (js : List Int) : Prop := js.Nodup ∧ ∀ z ∈ js, 1 ≤ z ∧ z ≤ 1000000
def spIds : Sp := fun vs H Q _ => ∃ (d : Addr) (n : Nat), vs = [.ref d, .int n] ∧ DeckAt H d ∧ n ≤ 300 ∧
  ∀ (l : Addr) (js : List Int) (H' : Hp), H l = none → But d H H' → DeckAt H' d → H' l = some (.lst (js.map V.int)) → js.length = n → IdsL js → Q (.ref l) H'
theorem scIds : FnScope ["deck", "many", "found", "number"] ["deck", "many"] (defScope sIds) := ⟨rfl, rfl, rfl, by decide +kernel, rfl, by decide +kernel, by decide +kernel⟩
theorem ok_ids {f fD fC : Addr} {fd fdD fdC : FuncData} (F : Fun K "_law_ids" "_law_ids" sIds f fd) (T : TxtD mg) (FD : Fun K "_law_draw" "_law_draw" sDraw fD fdD) (bD : Binds K fdD ["deck", "size"] []) (mD : mg "_law_draw" = some (.ref fD))
    (FC : Fun K "_law_choose" "_law_choose" sChoose fC fdC) (bC : Binds K fdC ["deck", "things"] []) (mC : mg "_law_choose" = some (.ref fC)) :
    FnOk P w K mg base CX0 3 f fd ["deck", "many"] spIds := by
  have GD : FnOk P w K mg base CX0 1 fD fdD ["deck", "size"] spDraw := ok_draw FD
  have GC : FnOk P w K mg base CX0 2 fC fdC ["deck", "things"] (spChoose K) := ok_choose FC T FD bD mD
  refine F.ok scIds (fun vs H Q E h => ?_) (fun cdv A outer s H vs Q E hr h => ?_)
  · obtain ⟨d, n, rfl, _⟩ := h
    rfl
  · obtain ⟨d, n, rfl, D, n1, k⟩ := h
    have hr1 : Room 1 _ := hr.mono (by decide)
    refine ⟨_, pss_cons (ps_set (i := 2) scIds.nd rfl (Or.inl rfl) (pe_lst pa_nil))
      (pss_cons (ps_while PassesOwn.never (pt_cmpR op_lt (pe_callB call_len_seq (by rfl) T.len PySem.boot_len (pa_cons (pv 2) pa_nil)) (pv 1) (nomark _))
        (pss_cons (ps_set (i := 3) scIds.nd rfl (Or.inl rfl) (pe_call GC hr rfl mC FC.kp bC .nil pass0 (pa_cons (pv 0) (pa_cons (pe_lst
            (pa_cons (pe_op op_add pe_int (pe_call GD hr1 rfl mD FD.kp bD .nil pass0 (pa_cons (pv 0) (pa_cons pe_int pa_nil))))
            (pa_cons (pe_op op_add pe_int (pe_call GD hr1 rfl mD FD.kp bD .nil pass0 (pa_cons (pv 0) (pa_cons (pe_op op_pow pe_int pe_int) pa_nil))))
            (pa_cons (pe_op op_sub (pe_op op_pow pe_int pe_int) (pe_callB call_len_seq (by rfl) T.len PySem.boot_len (pa_cons (pv 2) pa_nil))) pa_nil)))) pa_nil))))
        (pss_cons (ps_while PassesOwn.never (pt_cmpR op_in_seq (pv 3) (pv 2) (by rfl))
          (pss_one (ps_set (i := 3) scIds.nd rfl (Or.inl rfl) (pe_op op_add (pe_op op_mod (pv 3) (pe_op op_pow pe_int pe_int)) pe_int))))
        (pss_one (ps_expr (pe_bm PySem.F.plainAttrs_list PySem.F.slot_list_append PySem.F.type_list_append mt_append (pv 2) (pa_cons (pv 3) pa_nil)))))))
      (pss_one (ps_ret (pv 2)))), ?_⟩
    refine ⟨Nat.zero_le _, fun l hl => ?_⟩
    have nld : l ≠ d := fun e => by obtain ⟨_, _, hd, _⟩ := D; rw [e, hd] at hl; cases hl
    refine ⟨fun m σ H' => ∃ (js : List Int) (v : Option V), σ = [some (.ref d), some (.int n), some (.ref l), v] ∧ m = n - js.length ∧ js.length ≤ n ∧ IdsL js ∧ H' l = some (.lst (js.map V.int)) ∧ DeckAt H' d ∧ But d H H',
      ⟨_, [], none, rfl, rfl, Nat.zero_le _, ⟨List.nodup_nil, fun z h => by cases h⟩, upd_same, D.same (Same.new hl), But.new hl⟩, ?_⟩
    rintro m σ H1 ⟨js, v, rfl, rfl, hlen, hI, hL, D1, B1⟩
    refine ⟨_, rfl, l, _, rfl, .inl (SqL.of hL), _, rfl, _, _, rfl, rfl, _, rfl, ?_⟩
    refine ite2 (fun c => ?_) (fun c => ?_)
    · have c' : ((js.map V.int).length : Int) < n := of_decide_eq_true c
      rw [List.length_map] at c'
      have c2 : js.length < n := by omega
      refine ⟨fun σ' H' => ∃ m', m' < n - js.length ∧ ∃ (js : List Int) (v : Option V), σ' = [some (.ref d), some (.int n), some (.ref l), v] ∧ m' = n - js.length ∧ js.length ≤ n ∧ IdsL js ∧ H' l = some (.lst (js.map V.int)) ∧ DeckAt H' d ∧ But d H H', fun _ _ z => z, ?_⟩
      -- number = _law_choose(deck, [..])
      refine ⟨_, rfl, ?_⟩
      refine ⟨_, rfl, d, 30, rfl, D1, by decide, by decide, fun r1 H2 r10 r11 D2 B2 => ?_⟩
      refine ⟨_, _, rfl, rfl, _, rfl, _, _, rfl, rfl, ⟨by decide, by decide, by decide⟩, d, _, rfl, D2, (by rw [pow6]; decide), (by rw [pow6]; decide), fun r2 H3 r20 r21 D3 B3 => ?_⟩
      rw [pow6] at r21
      have hL3 : H3 l = some (.lst (js.map V.int)) := B3.lst D2 (B2.lst D1 hL)
      refine ⟨_, _, rfl, rfl, _, _, rfl, rfl, ⟨by decide, by decide, by decide⟩, _, rfl, l, _, rfl, .inl (SqL.of hL3), _, _, rfl, rfl, ?_⟩
      refine ⟨by show 3 ≤ sizeLine; decide, fun p hp => ?_⟩
      have D4 : ∀ o, DeckAt (upd H3 p o) d := fun o => D3.same (Same.new hp)
      refine ⟨d, p, _, rfl, D4 _, SqL.of upd_same, (by intro z; cases z), (by show 3 < 1000000; decide), fun v H4 hv D5 B5 => ?_⟩
      have hL4 : H4 l = some (.lst (js.map V.int)) := B5.lst (D4 _) (by rw [upd_ne (ne_of_none hL3 hp)]; exact hL3)
      obtain ⟨z, rfl, z0, z1⟩ : ∃ z : Int, v = .int z ∧ 1 ≤ z ∧ z ≤ 1000000 := by
        rw [pow6, List.length_map] at hv
        rcases List.mem_cons.mp hv with e | hv
        · exact ⟨_, e, by omega, by omega⟩
        rcases List.mem_cons.mp hv with e | hv
        · exact ⟨_, e, by omega, by omega⟩
        rcases List.mem_cons.mp hv with e | hv
        · exact ⟨_, e, by omega, by omega⟩
        · cases hv
      -- while number in found
      refine ⟨fun m σ' H' => ∃ t : Nat, σ' = [some (.ref d), some (.int n), some (.ref l), some (.int (nx z t))] ∧ m = 400 - t ∧ H' = H4 ∧ (∀ i, i < t → nx z i ∈ js) ∧ t ≤ 400,
        ⟨_, 0, by rw [nx_zero z0 z1]; rfl, rfl, rfl, (fun i h => by omega), by omega⟩, ?_⟩
      rintro m σ' H' ⟨t, rfl, rfl, rfl, ht, ht4⟩
      refine ⟨_, rfl, _, rfl, l, _, rfl, .inl (SqL.of hL4), rfl, all_flat js, _, rfl, ?_⟩
      rw [inV_int]
      refine ite2 (fun c => ?_) (fun c => ?_)
      · have hz : nx z t ∈ js := of_decide_eq_true c
        have few := nx_few (z := z) (js := js) (t := t + 1) (by omega) (fun i hi => by
          by_cases e : i = t
          · rw [e]; exact hz
          · exact ht i (by omega))
        refine ⟨fun σ'' H'' => ∃ m', m' < 400 - t ∧ ∃ t : Nat, σ'' = [some (.ref d), some (.int n), some (.ref l), some (.int (nx z t))] ∧ m' = 400 - t ∧ H'' = H' ∧ (∀ i, i < t → nx z i ∈ js) ∧ t ≤ 400, fun _ _ q => q, ?_⟩
        refine ⟨_, rfl, _, _, rfl, rfl, ⟨by decide, by decide, by decide⟩, _, _, rfl, rfl, (by show (0 : Int) < 10 ^ (6 : Int).toNat; rw [pow6]; decide), _, _, rfl, rfl, ?_⟩
        refine ⟨400 - (t + 1), by omega, t + 1, ?_, rfl, rfl, fun i hi => ?_, by omega⟩
        · rw [pow6]
          show [some (V.ref d), some (V.int n), some (V.ref l), some (V.int (nx z t % 1000000 + 1))] = _
          rw [nx_succ]
        · by_cases e : i = t
          · rw [e]; exact hz
          · exact ht i (by omega)
      · have hz : nx z t ∉ js := fun q => c (decide_eq_true q)
        refine ⟨_, rfl, .inl ⟨rfl, _, SqL.of hL4⟩, _, rfl, l, _, _, rfl, rfl, hL4, (by rw [List.length_map]; exact small1000 (by omega)), ?_⟩
        refine ⟨n - (js.length + 1), by omega, js ++ [nx z t], some (.int (nx z t)), rfl, by rw [List.length_append]; rfl, by rw [List.length_append]; exact c2, ⟨?_, ?_⟩, ?_, ?_, ?_⟩
        · refine List.nodup_append.mpr ⟨hI.1, by simp, ?_⟩
          intro a ha b hb e
          have : b = nx z t := by simpa using hb
          rw [e, this] at ha
          exact hz ha
        · intro y hy
          rcases List.mem_append.mp hy with h | h
          · exact hI.2 y h
          · have : y = nx z t := by simpa using h
            rw [this]
            exact ⟨nx_lo _ _, nx_hi _ _⟩
        · rw [upd_same, List.map_append]; rfl
        · obtain ⟨x, y, hd, r⟩ := D5
          exact ⟨x, y, by rw [upd_ne nld.symm]; exact hd, r⟩
        · intro b o hb e
          have nb : b ≠ l := ne_of_none e hl
          rw [upd_ne nb]
          have e4 := B3 b o hb (B2 b o hb (B1 b o hb e))
          exact B5 b o hb (by rw [upd_ne (ne_of_none e4 hp)]; exact e4)
    · have c' : ¬ ((js.map V.int).length : Int) < n := fun q => c (decide_eq_true q)
      rw [List.length_map] at c'
      exact ⟨_, rfl, k l js H1 hl B1 D1 hL (by omega) hI⟩
end
/-! ### sets of ints -/
/-- S is the set of the ints ns, n their number -/
def SetIs (ns : List Int) (S : Int → Bool) (n : Nat) : Prop := (∀ k, S k = decide (k ∈ ns)) ∧ ∃ L : List Int, L.Nodup ∧ L.length = n ∧ ∀ k, k ∈ L ↔ k ∈ ns
theorem shorter : ∀ ns : List Int, ¬ ns.Nodup → ∃ ms : List Int, ms.length < ns.length ∧ ∀ k ∈ ns, k ∈ ms
  | [], h => absurd List.nodup_nil h
  | a :: r, h => by
    by_cases ha : a ∈ r
    · exact ⟨r, Nat.lt_succ_self _, fun k hk => by
        rcases List.mem_cons.mp hk with e | e
        · rw [e]; exact ha
        · exact e⟩
    · have hr : ¬ r.Nodup := fun q => h (List.nodup_cons.mpr ⟨ha, q⟩)
      obtain ⟨ms, h1, h2⟩ := shorter r hr
      exact ⟨a :: ms, Nat.succ_lt_succ h1, fun k hk => by
        rcases List.mem_cons.mp hk with e | e
        · rw [e]; exact List.mem_cons_self
        · exact List.mem_cons_of_mem _ (h2 k e)⟩
theorem SetIs.count {ns : List Int} {S : Int → Bool} {n : Nat} (h : SetIs ns S n) : ((n : Int) = (ns.length : Int)) ↔ ns.Nodup := by
  obtain ⟨_, L, h1, h2, h3⟩ := h
  have a := len_le_of_sub L ns h1 fun k hk => (h3 k).mp hk
  constructor
  · intro e
    by_cases hN : ns.Nodup
    · exact hN
    · obtain ⟨ms, m1, m2⟩ := shorter ns hN
      have b := len_le_of_sub L ms h1 fun k hk => m2 k ((h3 k).mp hk)
      omega
  · intro hN
    have b := len_le_of_sub ns L hN fun k hk => (h3 k).mpr hk
    omega
theorem firstMet_nodup (val : Nat → Int) : ∀ i, (firstMet val i).Nodup
  | 0 => by rw [firstMet_zero]; exact List.nodup_nil
  | i + 1 => by
    rw [firstMet_succ]
    unfold step_dedup
    have ih := firstMet_nodup val i
    split
    · exact ih
    · rename_i h
      refine List.nodup_append.mpr ⟨ih, by simp, ?_⟩
      intro a ha b hb e
      have : b = val i := by simpa using hb
      refine h (List.any_eq_true.mpr ⟨a, ha, ?_⟩)
      rw [e, this]
      simp
theorem getD_range (ns : List Int) : (List.range ns.length).map (fun i => ns.getD i 0) = ns := by
  apply List.ext_getElem
  · simp
  · intro i h1 h2
    simp [List.getD, h2]
theorem firstMet_mem (ns : List Int) (k : Int) : k ∈ firstMet (fun i => ns.getD i 0) ns.length ↔ k ∈ ns := by
  have h := firstMet_any (fun i => ns.getD i 0) ns.length k
  rw [getD_range] at h
  have e : ∀ l : List Int, (l.any (· == k) = true) ↔ k ∈ l := fun l => by
    rw [List.any_eq_true]
    constructor
    · rintro ⟨x, hx, q⟩
      have : x = k := by simpa using q
      rw [← this]; exact hx
    · intro hk
      exact ⟨k, hk, by simp⟩
  rw [← e, ← e, h]
def rSetI (K : PySem.W.Frag) : List V → Hp → VK → Prop := fun xs H Q => ∃ (p : Addr) (ns : List Int), xs = [.ref p] ∧ (SqL K H p (ns.map V.int) ∨ SqT K H p (ns.map V.int)) ∧ ns.length ≤ 4000 ∧
  ∀ (q : Addr) (S : Int → Bool) (n : Nat), H q = none → SetIs ns S n → n ≤ ns.length → Q (.ref q) (upd H q (.set S n))
section
variable {X : Cx}
theorem cr_setI (hc : X.calm = true) : CallR X (.type "set") (rSetI X.K) := by
  intro pins s σ H xs us Q I r h
  obtain ⟨p, ns, rfl, hq, hlen, k⟩ := h
  rw [Vals.ref1 r]
  have hs : scanBound = 4096 := rfl
  rcases hq with hq | hq
  · obtain ⟨its, rv, pl, hz⟩ := I.list hq
    have hl := rv.length
    rw [List.length_map] at hl
    refine call_set_list (I.ok.hd hc) pl.isList (ns := ns) (Vals.ints rv) (by rw [List.size_toArray, hs]; omega) fun h' tk R kk => ?_
    have esz : its.toArray.size = ns.length := by rw [List.size_toArray]; omega
    rw [esz] at R
    have hn := firstMet_mem ns
    have hset : SetIs ns (fun k' => (firstMet (fun i => ns.getD i 0) ns.length).any (· == k')) (firstMet (fun i => ns.getD i 0) ns.length).length := by
      refine ⟨fun k => ?_, _, firstMet_nodup _ _, rfl, hn⟩
      rw [Bool.eq_iff_iff, decide_eq_true_iff, ← hn k, List.any_eq_true]
      constructor
      · rintro ⟨x, hx, q⟩
        have : x = k := by simpa using q
        rw [← this]; exact hx
      · intro hk
        exact ⟨k, hk, by simp⟩
    have I' := I.laid (a := s.heap.objs.size) (o := .set _ _) (h' := h') (t' := tk) (fun b u e => kk b u (Heap.lt_size e) e) (Nat.le_refl _) R
    exact ⟨.ref _, _, I', rfl, k _ _ _ (I.hok.fresh (Nat.le_refl _)) hset (firstMet_length_le _ _)⟩
  · obtain ⟨its, rv, pl, hz⟩ := I.tuple hq
    have hl := rv.length
    rw [List.length_map] at hl
    refine call_set_tupI ns (I.ok.hd hc) pl (Vals.ints rv) (by rw [hs]; omega) fun h' tk c R hle kk => ?_
    have hset : SetIs ns (fun j => decide (j ∈ ns)) c := by
      obtain ⟨o, es, ep, t, h1, h2, h3, h4, h5, h6, h7, h8, h9, _⟩ := id R
      refine ⟨fun k => rfl, es.toList.map keyOf, h5, ?_, fun k => ?_⟩
      · rw [List.length_map, ← h9]; rfl
      · rw [← h6 k, decide_eq_true_iff]
    have I' := I.laid (a := s.heap.objs.size) (o := .set _ _) (h' := h') (t' := tk) (fun b u e => kk b u e) (Nat.le_refl _) (SetR.setOf R)
    exact ⟨.ref _, _, I', rfl, k _ _ _ (I.hok.fresh (Nat.le_refl _)) hset hle⟩
def rInSet (neg : Bool) : R2 := fun x y H Q => ∃ (k : Int) (a : Addr) (S : Int → Bool) (n : Nat), x = .int k ∧ y = .ref a ∧ H a = some (.set S n) ∧ Q (.bl (if neg then !S k else S k)) H
theorem op_inSet : OpR X (compareOp .In) (rInSet false) := by
  intro pins s σ H x y v u Q I rx ry h
  obtain ⟨k, a, S, n, rfl, rfl, ha, q⟩ := h
  cases ry
  obtain ⟨t, rfl⟩ := rx
  exact wpAny_inSet_of (knd := intKind X.prog X.w) (k := k) (by first | rfl | simp [intKind, Value.isInt]) rfl (I.hok a _ ha) ⟨.bl (S k), H, I.tok _, rfl, q⟩
theorem op_notInSet : OpR X (compareOp .NotIn) (rInSet true) := by
  intro pins s σ H x y v u Q I rx ry h
  obtain ⟨k, a, S, n, rfl, rfl, ha, q⟩ := h
  cases ry
  obtain ⟨t, rfl⟩ := rx
  exact wpAny_notInSet_of (knd := intKind X.prog X.w) (k := k) (by first | rfl | simp [intKind, Value.isInt]) rfl (I.hok a _ ha) ⟨.bl (!S k), H, I.tok _, rfl, q⟩
theorem call_lenSet : CallR X (.builtin "len") (fun xs H Q => ∃ a S n, xs = [.ref a] ∧ H a = some (.set S n) ∧ Q (.int n) H) := by
  intro pins s σ H xs us Q I r h
  obtain ⟨a, S, n, rfl, ha, q⟩ := h
  rw [Vals.ref1 r]
  obtain ⟨o, es, ep, t, h1, h2, h3, h4, h5, h6, h7, h8⟩ := I.hok a _ ha
  have hs : scanBound = 4096 := rfl
  refine call_len_set h1 h2 h3 h7 (by omega) ?_
  rw [h8]
  exact ⟨.int n, H, (I.tok (s.toks + 1 + 1)), ⟨_, rfl⟩, q⟩
end
/-! ### data in the heap: flat things, lists, tuples, the empty dict -/
mutual
inductive DV (K : PySem.W.Frag) (H : Hp) : V → PyData → Prop
  | non : DV K H .non .none
  | bl (b : Bool) : DV K H (.bl b) (.bool b)
  | int (i : Int) : DV K H (.int i) (.int i)
  | str (x : Str) : DV K H (.str x) (.str x)
  | lst {a : Addr} {xs : List V} {ds : List PyData} : SqL K H a xs → DVs K H xs ds → DV K H (.ref a) (.list ds)
  | tup {a : Addr} {xs : List V} {ds : List PyData} : SqT K H a xs → DVs K H xs ds → DV K H (.ref a) (.tuple ds)
  | dk0 {a : Addr} : H a = some (.dK []) → DV K H (.ref a) (.dict [])
inductive DVs (K : PySem.W.Frag) (H : Hp) : List V → List PyData → Prop
  | nil : DVs K H [] []
  | cons {v : V} {vs : List V} {d : PyData} {ds : List PyData} : DV K H v d → DVs K H vs ds → DVs K H (v :: vs) (d :: ds)
end
section
variable {K : PySem.W.Frag} {H H' : Hp}
theorem DVs.length {vs : List V} {ds : List PyData} (h : DVs K H vs ds) : vs.length = ds.length := by
  induction vs generalizing ds with
  | nil => cases h; rfl
  | cons v r ih => cases h with | cons _ t => exact congrArg Nat.succ (ih t)
theorem DVs.at {vs : List V} {ds : List PyData} (h : DVs K H vs ds) : ∀ {i : Nat} {v : V}, vs[i]? = some v → ∃ d, ds[i]? = some d ∧ DV K H v d := by
  induction vs generalizing ds with
  | nil => intro i v e; simp at e
  | cons v r ih =>
    cases h with
    | cons p t =>
      intro i u e
      cases i with
      | zero => simp at e; subst e; exact ⟨_, rfl, p⟩
      | succ i => simp at e; obtain ⟨d, h1, h2⟩ := ih t e; exact ⟨d, by simpa using h1, h2⟩
theorem Same.sq {a : Addr} {xs : List V} (e : Same H H') (h : SqL K H a xs) : SqL K H' a xs := e.seq h
theorem Same.tq {a : Addr} {xs : List V} (e : Same H H') (h : SqT K H a xs) : SqT K H' a xs := by
  rcases h with (h | ⟨o, h⟩) | h
  · exact .inl (.inl (e _ _ h))
  · exact .inl (.inr ⟨o, e _ _ h⟩)
  · exact .inr h
mutual
theorem DV.same (e : Same H H') : ∀ {d : PyData} {v : V}, DV K H v d → DV K H' v d
  | _, _, .non => .non
  | _, _, .bl b => .bl b
  | _, _, .int i => .int i
  | _, _, .str x => .str x
  | _, _, .lst h t => .lst (Same.sq e h) (DVs.same e t)
  | _, _, .tup h t => .tup (Same.tq e h) (DVs.same e t)
  | _, _, .dk0 h => .dk0 (e _ _ h)
theorem DVs.same (e : Same H H') : ∀ {ds : List PyData} {vs : List V}, DVs K H vs ds → DVs K H' vs ds
  | _, _, .nil => .nil
  | _, _, .cons p t => .cons (DV.same e p) (DVs.same e t)
end
/-- a value's built-in type by its name -/
def TyD (K : PySem.W.Frag) (H : Hp) (x : V) : Prop := ∃ nm : String, TyX K H x (.type nm) ∧ ((nm = "NoneType" ∧ x = .non) ∨ (nm = "bool" ∧ ∃ b, x = .bl b) ∨ (nm = "int" ∧ ∃ i, x = .int i) ∨ (nm = "str" ∧ ∃ z, x = .str z) ∨
  (nm = "list" ∧ ∃ a, x = .ref a) ∨ (nm = "tuple" ∧ ∃ a, x = .ref a) ∨ (nm = "dict" ∧ ∃ a, x = .ref a))
theorem tyL {a : Addr} {xs : List V} (h : SqL K H a xs) : TyX K H (.ref a) (.type "list") := by
  rcases h with (h | ⟨o, h⟩) | ⟨o, _, _, h, c, _⟩
  · exact .base (.lst h)
  · exact .base (.frz h)
  · exact .kList h c
theorem tyT {a : Addr} {xs : List V} (h : SqT K H a xs) : TyX K H (.ref a) (.type "tuple") := by
  rcases h with (h | ⟨o, h⟩) | ⟨o, _, _, h, c, _⟩
  · exact .base (.tup h)
  · exact .fTuple h
  · exact .kTuple h c
theorem DV.ty {v : V} {d : PyData} (h : DV K H v d) : TyD K H v := by
  cases h with
  | non => exact ⟨_, .base .non, .inl ⟨rfl, rfl⟩⟩
  | bl b => exact ⟨_, .base (.bl b), .inr (.inl ⟨rfl, b, rfl⟩)⟩
  | int i => exact ⟨_, .base (.int i), .inr (.inr (.inl ⟨rfl, i, rfl⟩))⟩
  | str x => exact ⟨_, .base (.str x), .inr (.inr (.inr (.inl ⟨rfl, x, rfl⟩)))⟩
  | lst h t => exact ⟨_, tyL h, .inr (.inr (.inr (.inr (.inl ⟨rfl, _, rfl⟩))))⟩
  | tup h t => exact ⟨_, tyT h, .inr (.inr (.inr (.inr (.inr (.inl ⟨rfl, _, rfl⟩)))))⟩
  | dk0 h => exact ⟨_, .base (.dK h), .inr (.inr (.inr (.inr (.inr (.inr ⟨rfl, _, rfl⟩)))))⟩
end
def wholeV : V → Bool
  | .int _ => true
  | _ => false
def wholeD : PyData → Bool
  | .int _ => true
  | _ => false
theorem DV.whole {K : PySem.W.Frag} {H : Hp} {v : V} {d : PyData} (h : DV K H v d) : wholeV v = wholeD d := by cases h <;> rfl
structure TxtV (mg : Str → Option Value) : Prop where
  len : mg "len" = none
  isi : mg "isinstance" = none
  int : mg "int" = none
  bool : mg "bool" = none
  tuple : mg "tuple" = none
  set : mg "set" = none
  all : mg "all" = none
  list : mg "list" = none
section
variable {P : Program} {w : World} {K : PySem.W.Frag} {mg : Str → Option Value} {base : Heap}
/-! ### is_whole -/
def spWhole (K : PySem.W.Frag) : Sp := fun vs H Q _ => ∃ x : V, vs = [x] ∧ TyD K H x ∧ Q (.bl (wholeV x)) H
theorem scWhole : FnScope ["value"] ["value"] (defScope sWhole) := ⟨rfl, rfl, rfl, by decide +kernel, rfl, by decide +kernel, by decide +kernel⟩
theorem ok_whole {f : Addr} {fd : FuncData} (F : Fun K "is_whole" "is_whole" sWhole f fd) (T : TxtV mg) : FnOk P w K mg base CX0 1 f fd ["value"] (spWhole K) := by
  refine F.ok scWhole (fun vs H Q E h => ?_) (fun cdv A outer s H vs Q E hr h => ?_)
  · obtain ⟨x, rfl, _⟩ := h
    rfl
  · obtain ⟨x, rfl, ⟨nm, ty, hn⟩, k⟩ := h
    refine ⟨_, pss_one (ps_ret (pe_and (pe_callB call_isi (by rfl) T.isi (by decide +kernel) (pa_cons (pv 0) (pa_cons (pe_bltn (v := .ty "int") (by rfl) T.int boot_int rfl) pa_nil)))
      (pe_one (pe_not (pe_callB call_isi (by rfl) T.isi (by decide +kernel) (pa_cons (pv 0) (pa_cons (pe_bltn (v := .ty "bool") (by rfl) T.bool boot_bool rfl) pa_nil))))))), ?_⟩
    refine ⟨_, rfl, ?_⟩
    rcases hn with ⟨rfl, rfl⟩ | ⟨rfl, b, rfl⟩ | ⟨rfl, i, rfl⟩ | ⟨rfl, z, rfl⟩ | ⟨rfl, a, rfl⟩ | ⟨rfl, a, rfl⟩ | ⟨rfl, a, rfl⟩
    · exact ⟨_, _, _, _, false, rfl, .ty _, ty, kit_ty (by decide +kernel), _, rfl, iteF k⟩
    · exact ⟨_, _, _, _, true, rfl, .ty _, ty, kit_ty (by decide +kernel), _, rfl, iteT ⟨_, rfl, _, _, _, _, true, rfl, .ty _, ty, kit_ty (by decide +kernel), _, rfl, k⟩⟩
    · exact ⟨_, _, _, _, true, rfl, .ty _, ty, kit_ty (by decide +kernel), _, rfl, iteT ⟨_, rfl, _, _, _, _, false, rfl, .ty _, ty, kit_ty (by decide +kernel), _, rfl, k⟩⟩
    · exact ⟨_, _, _, _, false, rfl, .ty _, ty, kit_ty (by decide +kernel), _, rfl, iteF k⟩
    · exact ⟨_, _, _, _, false, rfl, .ty _, ty, kit_ty (by decide +kernel), _, rfl, iteF k⟩
    · exact ⟨_, _, _, _, false, rfl, .ty _, ty, kit_ty (by decide +kernel), _, rfl, iteF k⟩
    · exact ⟨_, _, _, _, false, rfl, .ty _, ty, kit_ty (by decide +kernel), _, rfl, iteF k⟩
/-! ### all_different -/
def spDiff (K : PySem.W.Frag) : Sp := fun vs H Q _ => ∃ (p : Addr) (ns : List Int), vs = [.ref p] ∧ (SqL K H p (ns.map V.int) ∨ SqT K H p (ns.map V.int)) ∧ ns.length ≤ 4000 ∧ ∀ H', Same H H' → Q (.bl (decide ns.Nodup)) H'
theorem scDiff : FnScope ["numbers"] ["numbers"] (defScope sDiff) := ⟨rfl, rfl, rfl, by decide +kernel, rfl, by decide +kernel, by decide +kernel⟩
theorem ok_diff {f : Addr} {fd : FuncData} (F : Fun K "all_different" "all_different" sDiff f fd) (T : TxtV mg) : FnOk P w K mg base CX0 1 f fd ["numbers"] (spDiff K) := by
  refine F.ok scDiff (fun vs H Q E h => ?_) (fun cdv A outer s H vs Q E hr h => ?_)
  · obtain ⟨p, ns, rfl, _⟩ := h
    rfl
  · obtain ⟨p, ns, rfl, hS, hlen, k⟩ := h
    refine ⟨_, pss_one (ps_ret (pe_cmpR op_eq (pe_callB call_lenSet (by rfl) T.len PySem.boot_len (pa_cons (pe_callTy (cr_setI rfl) (by rfl) T.set (by decide +kernel) (pa_cons (pv 0) pa_nil)) pa_nil))
      (pe_callB call_len_seq (by rfl) T.len PySem.boot_len (pa_cons (pv 0) pa_nil)) (nomark _))), ?_⟩
    refine ⟨_, rfl, p, ns, rfl, hS, hlen, fun q S n hq hI hn => ?_⟩
    have e : Same H (upd H q (.set S n)) := Same.new hq
    refine ⟨q, S, n, rfl, upd_same, _, rfl, p, _, rfl, hS.imp (Same.sq e) (Same.tq e), rfl, ?_⟩
    have c := hI.count
    have r : decide (V.int (n : Int) = V.int ((ns.map V.int).length : Int)) = decide ns.Nodup := by
      rw [dec_int, List.length_map]
      by_cases hN : ns.Nodup
      · rw [decide_eq_true hN, c.mpr hN]; simp
      · rw [decide_eq_false hN]
        have : ¬ ((n : Int) = (ns.length : Int)) := fun q => hN (c.mp q)
        simpa using this
    show Q (V.bl (decide (V.int (n : Int) = V.int ((ns.map V.int).length : Int)))) _
    rw [r]
    exact k _ e
end
def isTup : PyData → Bool
  | .tuple _ => true
  | _ => false
def isLst : PyData → Bool
  | .list _ => true
  | _ => false
theorem kb1 : kitB "NoneType" "tuple" = some false := by decide +kernel
theorem kb2 : kitB "NoneType" "list" = some false := by decide +kernel
theorem kb3 : kitB "bool" "tuple" = some false := by decide +kernel
theorem kb4 : kitB "bool" "list" = some false := by decide +kernel
theorem kb5 : kitB "int" "tuple" = some false := by decide +kernel
theorem kb6 : kitB "int" "list" = some false := by decide +kernel
theorem kb7 : kitB "str" "tuple" = some false := by decide +kernel
theorem kb8 : kitB "str" "list" = some false := by decide +kernel
theorem kb9 : kitB "list" "tuple" = some false := by decide +kernel
theorem kb10 : kitB "list" "list" = some true := by decide +kernel
theorem kb11 : kitB "tuple" "tuple" = some true := by decide +kernel
theorem kb12 : kitB "tuple" "list" = some false := by decide +kernel
theorem kb13 : kitB "dict" "tuple" = some false := by decide +kernel
theorem kb14 : kitB "dict" "list" = some false := by decide +kernel
theorem DV.kit {K : PySem.W.Frag} {H : Hp} {v : V} {d : PyData} (h : DV K H v d) : ∃ nm : String, TyX K H v (.type nm) ∧ PySem.W.kitOne K (.type nm) (.type "tuple") = some (isTup d) ∧ PySem.W.kitOne K (.type nm) (.type "list") = some (isLst d) := by
  cases h with
  | non => exact ⟨_, .base .non, kit_ty kb1, kit_ty kb2⟩
  | bl b => exact ⟨_, .base (.bl b), kit_ty kb3, kit_ty kb4⟩
  | int i => exact ⟨_, .base (.int i), kit_ty kb5, kit_ty kb6⟩
  | str x => exact ⟨_, .base (.str x), kit_ty kb7, kit_ty kb8⟩
  | lst h t => exact ⟨_, tyL h, kit_ty kb9, kit_ty kb10⟩
  | tup h t => exact ⟨_, tyT h, kit_ty kb11, kit_ty kb12⟩
  | dk0 h => exact ⟨_, .base (.dK h), kit_ty kb13, kit_ty kb14⟩
/-! ### the plain functions -/
def intOf : PyData → Int
  | .int i => i
  | _ => 0
theorem whole_all {K : PySem.W.Frag} {H : Hp} : ∀ {ds : List PyData} {vs : List V}, DVs K H vs ds → ds.all wholeD = true → vs = (ds.map intOf).map V.int
  | _, _, .nil, _ => rfl
  | d :: ds, v :: vs, .cons p t, h => by
    rw [List.all_cons, Bool.and_eq_true] at h
    rw [List.map_cons, List.map_cons, ← whole_all t h.2]
    cases p <;> first | rfl | (exact absurd h.1 (by intro q; cases q))
theorem DVs.wholes {K : PySem.W.Frag} {H : Hp} {ds : List PyData} {vs : List V} (h : DVs K H vs ds) {i : Nat} {v : V} (e : vs[i]? = some v) : ∃ d, ds[i]? = some d ∧ wholeV v = wholeD d ∧ TyD K H v := by
  obtain ⟨d, h1, h2⟩ := h.at e
  exact ⟨d, h1, h2.whole, h2.ty⟩
theorem take_snoc {α : Type} {l : List α} {i : Nat} {x : α} (h : l[i]? = some x) : l.take (i + 1) = l.take i ++ [x] := by
  rw [List.take_succ, h]; rfl
theorem lt_of_some {α : Type} {l : List α} {i : Nat} {x : α} (h : l[i]? = some x) : i < l.length := (List.getElem?_eq_some_iff.mp h).1
theorem cut_to (xs : List V) (k : Nat) : cutV xs none (some (k : Int)) = xs.take k := by
  unfold cutV
  rw [HT.sIx_none, HT.sIx_nat, List.drop_zero, Nat.sub_zero]
  rcases Nat.le_total k xs.length with h | h
  · rw [Nat.min_eq_left h]
  · rw [Nat.min_eq_right h, List.take_length, List.take_of_length_le h]
theorem cut_from (xs : List V) (k : Nat) : cutV xs (some (k : Int)) none = xs.drop k := by
  unfold cutV
  rw [HT.sIx_none, HT.sIx_nat]
  rcases Nat.le_total k xs.length with h | h
  · rw [Nat.min_eq_left h, ← List.length_drop, List.take_length]
  · rw [Nat.min_eq_right h, Nat.sub_self, List.take_zero, List.drop_of_length_le h]
theorem eqvAll_ints : ∀ xs ys : List Int, PyData.eqvAll (xs.map .int) (ys.map .int) = decide (xs = ys)
  | [], [] => by simp [PyData.eqvAll]
  | [], _ :: _ => by simp [PyData.eqvAll]
  | _ :: _, [] => by simp [PyData.eqvAll]
  | x :: xs, y :: ys => by
    rw [List.map_cons, List.map_cons, PyData.eqvAll, eqvAll_ints xs ys, PyData.eqv]
    by_cases h : x = y
    · subst h
      simp
    · simp [h]
theorem canLay_ints : ∀ xs : List Int, PyData.canLayAll0 (xs.map .int) = true
  | [] => by rw [List.map_nil, PyData.canLayAll0]
  | x :: xs => by rw [List.map_cons, PyData.canLayAll0, canLay_ints xs, PyData.canLay0]; rfl
theorem depthAll_ints : ∀ xs : List Int, PyData.depthAll (xs.map .int) ≤ 1
  | [] => by rw [List.map_nil, PyData.depthAll]; omega
  | x :: xs => by
    have := depthAll_ints xs
    rw [List.map_cons, PyData.depthAll, PyData.depth]
    omega
theorem shaped_ints (xs : List Int) : SeqAt.shaped (.list (xs.map .int)) = true := by
  unfold SeqAt.shaped
  rw [Bool.and_eq_true]
  refine ⟨?_, decide_eq_true ?_⟩
  · rw [PyData.canLay0]; exact canLay_ints xs
  · have := depthAll_ints xs
    rw [PyData.depth]
    omega
theorem DpAll.ints {K : PySem.W.Frag} {H : Hp} : ∀ xs : List Int, DpAll K H (xs.map V.int) (xs.map .int)
  | [] => .nil
  | x :: xs => .cons (.int x) (DpAll.ints xs)
def rEqL (K : PySem.W.Frag) : R2 := fun x y H Q => ∃ (p q : Addr) (xs ys : List Int), x = .ref p ∧ y = .ref q ∧ SqL K H p (xs.map V.int) ∧ SqL K H q (ys.map V.int) ∧ Q (.bl (decide (xs = ys))) H
def rNeL (K : PySem.W.Frag) : R2 := fun x y H Q => ∃ (p q : Addr) (xs ys : List Int), x = .ref p ∧ y = .ref q ∧ SqL K H p (xs.map V.int) ∧ SqL K H q (ys.map V.int) ∧ Q (.bl (!decide (xs = ys))) H
section
variable {X : Cx}
theorem op_eqL (hu : X.A.units + 64 < cLine) : OpR X (compareOp .Eq) (rEqL X.K) := by
  intro pins s σ H x y v u Q I rx ry h
  obtain ⟨p, q, xs, ys, rfl, rfl, h1, h2, k⟩ := h
  refine op_eqD hu pins s σ H _ _ v u Q I rx ry ⟨_, _, .lst h1 (DpAll.ints xs), .lst h2 (DpAll.ints ys), shaped_ints xs, shaped_ints ys, ?_⟩
  rw [PyData.eqv, eqvAll_ints]
  exact k
theorem op_neL (hu : X.A.units + 64 < cLine) : OpR X (compareOp .NotEq) (rNeL X.K) := by
  intro pins s σ H x y v u Q I rx ry h
  obtain ⟨p, q, xs, ys, rfl, rfl, h1, h2, k⟩ := h
  refine op_neD hu pins s σ H _ _ v u Q I rx ry ⟨_, _, .lst h1 (DpAll.ints xs), .lst h2 (DpAll.ints ys), shaped_ints xs, shaped_ints ys, ?_⟩
  rw [PyData.eqv, eqvAll_ints]
  exact k
end
theorem hu64 {A : Around} {k : Nat} (hr : Room k A) : A.units + 64 < cLine := by have := hr.un; omega
/-- behind Hd: all as it was but the deck at d, and these objects stand -/
def Fs (d : Addr) (Hd : Hp) (fs : List (Addr × HO)) (H' : Hp) : Prop := But d Hd H' ∧ DeckAt H' d ∧ ∀ p ∈ fs, p.1 ≠ d ∧ H' p.1 = some p.2
section
variable {d p p0 p1 p2 p3 p4 p5 : Addr} {Hd H1 H2 : Hp} {fs : List (Addr × HO)} {o o0 o1 o2 o3 o4 o5 : HO}
theorem Fs.start (D : DeckAt Hd d) : Fs d Hd [] Hd := ⟨But.refl _ _, D, fun _ h => by cases h⟩
theorem Fs.step (F : Fs d Hd fs H1) (D : DeckAt H2 d) (B : But d H1 H2) : Fs d Hd fs H2 := ⟨F.1.trans B, D, fun q hq => ⟨(F.2.2 q hq).1, B _ _ (F.2.2 q hq).1 (F.2.2 q hq).2⟩⟩
theorem Fs.same (F : Fs d Hd fs H1) (s : Same H1 H2) : Fs d Hd fs H2 := F.step (F.2.1.same s) (But.of s)
theorem Fs.add (F : Fs d Hd fs H1) (h : H1 p = some o) (n : ∀ x y, o ≠ .dK (dk x y)) : Fs d Hd ((p, o) :: fs) H1 := ⟨F.1, F.2.1, fun q hq => by
  rcases List.mem_cons.mp hq with e | e
  · subst e
    obtain ⟨x, y, hd, _⟩ := F.2.1
    exact ⟨ne_of h hd (n x y), h⟩
  · exact F.2.2 q e⟩
theorem Fs.new (F : Fs d Hd fs H1) (h : H1 p = none) (n : ∀ x y, o ≠ .dK (dk x y)) : Fs d Hd ((p, o) :: fs) (upd H1 p o) := (F.same (Same.new h)).add upd_same n
theorem Fs.skip (F : Fs d Hd fs H1) (h : H1 p = none) : Fs d Hd fs (upd H1 p o) := F.same (Same.new h)
theorem Fs.tail (F : Fs d Hd ((p, o) :: fs) H1) : Fs d Hd fs H1 := ⟨F.1, F.2.1, fun q hq => F.2.2 q (List.mem_cons_of_mem _ hq)⟩
theorem Fs.deck (F : Fs d Hd fs H1) : DeckAt H1 d := F.2.1
theorem Fs.g0 (F : Fs d Hd ((p0, o0) :: fs) H1) : H1 p0 = some o0 := (F.2.2 _ List.mem_cons_self).2
theorem Fs.g1 (F : Fs d Hd ((p0, o0) :: (p1, o1) :: fs) H1) : H1 p1 = some o1 := F.tail.g0
theorem Fs.g2 (F : Fs d Hd ((p0, o0) :: (p1, o1) :: (p2, o2) :: fs) H1) : H1 p2 = some o2 := F.tail.g1
theorem Fs.g3 (F : Fs d Hd ((p0, o0) :: (p1, o1) :: (p2, o2) :: (p3, o3) :: fs) H1) : H1 p3 = some o3 := F.tail.g2
theorem Fs.g4 (F : Fs d Hd ((p0, o0) :: (p1, o1) :: (p2, o2) :: (p3, o3) :: (p4, o4) :: fs) H1) : H1 p4 = some o4 := F.tail.g3
/-- what stood ahead of the deck stands -/
theorem Fs.old {H : Hp} (F : Fs d Hd fs H1) (hd : H d = none) (s : Same H Hd) : Same H H1 := fun b u h => F.1 b u (ne_of_none h hd) (s b u h)
end
theorem nl {xs : List V} : ∀ x y, HO.lst xs ≠ .dK (dk x y) := fun _ _ h => by cases h
theorem nt {xs : List V} : ∀ x y, HO.tup xs ≠ .dK (dk x y) := fun _ _ h => by cases h
theorem cut_mid (js : List Int) {f t : Nat} (h : f < js.length) : cutV (js.map V.int) (some (f : Int)) (some ((f : Int) + 1 + (t : Int))) = ((js.drop f).take (t + 1)).map V.int := by
  unfold cutV
  have e : (f : Int) + 1 + (t : Int) = ((f + 1 + t : Nat) : Int) := by omega
  rw [e, HT.sIx_nat, HT.sIx_nat, List.length_map, Nat.min_eq_left (by omega : f ≤ js.length), List.map_take, List.map_drop]
  rcases Nat.le_total (f + 1 + t) js.length with q | q
  · rw [Nat.min_eq_left q]
    congr 1
    omega
  · rw [Nat.min_eq_right q, List.take_of_length_le, List.take_of_length_le]
    · rw [List.length_drop, List.length_map]; omega
    · rw [List.length_drop, List.length_map]; omega
/-! ### defs that are called where no repr is under way (their context's guards are known to be none) -/
/-- the promise of a def, wherever no guard stands -/
structure FnG (P : Program) (w : World) (K : PySem.W.Frag) (mg : Str → Option Value) (base : Heap) (k : Nat) (f : Addr) (fd : FuncData) (ps : List Str) (sp : Sp) : Prop where
  len : ∀ vs H Q E, sp vs H Q E → vs.length = ps.length
  go : ∀ {A : Around} {outer : List Env} {s : Shared} {H : Hp} {args : Args} {us : List Value} {vs : List V} {Q : VK} {E : XK}, A.guards = some [] → Room k A → Env0 P w K mg base A outer s H →
    BindsTo s fd args (ps.zip us) → Vals vs us → sp vs H Q E → codeAny (model P w) A (.call (.ref f) args) (CR CX0 outer P w H s Q E) s
section
variable {P : Program} {w : World} {K : PySem.W.Frag} {mg : Str → Option Value} {base : Heap}
/-- by its body -/
theorem FnG.mk' {x qual : Str} {st : Stmt} {f : Addr} {fd : FuncData} {N ps : List Str} {k : Nat} {sp : Sp} (F : Fun K x qual st f fd) (S : FnScope N ps (defScope st)) (len : ∀ vs H Q E, sp vs H Q E → vs.length = ps.length)
    (body : ∀ (cdv : Value) (A : Around) (outer : List Env) (s : Shared) (H : Hp) (vs : List V) (Q : VK) (E : XK), (A.deeper (envOfC qual (defScope st) s.heap.objs.size f cdv)).guards = some [] → Room k (A.deeper (envOfC qual (defScope st) s.heap.objs.size f cdv)) → sp vs H Q E →
      ∃ t, PSs (cxOf CX0 P w K mg base N qual (defScope st) f cdv A outer s H E).nox (defBody st) t ∧ t { nx := fun _ H' => Q .non H', rt := Q } (start N vs) H) : FnG P w K mg base (k + 1) f fd ps sp := by
  obtain ⟨oc, od, kV, doc, pm, an, cdv, ct, osl, rfl, lk, hcd⟩ := F.ex
  refine ⟨len, ?_⟩
  intro A outer s H args us vs Q E hg hr en hb rel hsp
  have kept : ∀ b o, base.get? b = some o → s.heap.get? b = some o := fun b o q => (en.bs b o q).1
  have inK := en.mod.kin.keeps kept
  refine codeAny_call_function hr.depth (inK _ _ lk) rfl S.co S.gen rfl (PySem.W.codeRec_of inK hcd) (hb _ _ _ _ ?_)
  have kinds : ∀ q ∈ ps.zip us, (defScope st).names.lookup q.1 = some .local ∨ ((defScope st).names.lookup q.1 = some .cell ∧ ((cellsFrom (s.heap.objs.size + 1) (defScope st).names []).lookup q.1).isSome = true) := by
    rintro ⟨n, v⟩ hq
    exact (S.par n (List.of_mem_zip hq).1).elim .inl fun c => .inr ⟨c, PySem.W.cellsFrom_some _ _ _ (.inl c)⟩
  refine wpAny_newFunctionEnv_cells S.kind kinds fun env he s1 ic => ?_
  subst he
  obtain ⟨t, ht, hq⟩ := body cdv A outer s H vs Q E hg (hr.deeper _) hsp
  have I0 := inv_start (CX := CX0) (E := E) S hr.hd en (len _ _ _ _ hsp) rel ic
  refine ⟨(en.mod.nolimit.keeps kept).keeps ic.toInCall.keep, codeAny_func ?_⟩
  refine wpAny_mono (ht.nox.run [] s1 _ H _ I0 hq) ?_ fun _ _ z => z
  rintro (_ | _ | _ | u) s' hs
  · obtain ⟨σ', H', J, q⟩ := hs
    exact ⟨.non, H', J.os, J.bare, J.base, J.hok, rfl, q⟩
  · obtain ⟨_, _, _, q⟩ := hs
    exact q.elim
  · obtain ⟨_, _, _, q⟩ := hs
    exact q.elim
  · obtain ⟨v, σ', H', J, rv, q⟩ := hs
    exact ⟨v, H', J.os, J.bare, J.base, J.hok, rv, q⟩
end
section
variable {X : Cx} {k : Nat} {f : Addr} {fd : FuncData} {ps : List Str} {sp : Sp} {E : XK} {x : Str} {p pos : Pos} {e : Expr} {es : List Expr} {t : TA}
/-- such a def called by its name -/
theorem pe_callG (F : FnG X.prog X.w X.K X.mg X.base k f fd ps sp) (hg : X.A.guards = some []) (hr : Room k X.A) (hx : Gl X x) (hm : X.mg x = some (.ref f)) (hk : PySem.W.keepIn X.K (.ref f) = true) (hb : L2.Binds X.K fd ps [])
    (ha : PA X (e :: es) t) (hdb : (x == ("__debug__" : Str)) = false := by decide) (he : starEach (e :: es) X.env = (false, eval e X.env) :: starEach es X.env := by rfl) (hpl : (backTo pos (starEach es X.env)).any (·.1) = false := by rfl) :
    PE X (.Call (.Name x p) (e :: es) [] pos) (tCall sp [] E t) := by
  constructor
  intro pins s σ H Q I h
  have run : ∀ {us : List Value} {vs : List V} {H1 : Hp} {s1 : Shared}, Inv X pins σ H1 s1 → Vals vs us → sp (vs ++ []) H1 Q E → wpAny (model X.prog X.w) X.A (call (.ref f) us) (EP X pins σ Q) X.xe s1 := by
    intro us vs H1 s1 I1 r q
    rw [List.append_nil] at q
    have hl : us.length = ps.length := by rw [← r.length]; exact F.len _ _ _ _ q
    have bt := hb s1 us I1.kIn (by rw [List.append_nil]; exact hl)
    rw [List.append_nil] at bt
    refine wpAny_call (codeAny_mono (F.go hg hr I1.env0 bt r q) ?_)
    rintro (_ | (_ | _ | _ | u)) s2 z
    · exact z.elim
    · exact z.elim
    · exact z.elim
    · exact z.elim
    · exact I1.after z
  refine wpAny_Call_Name_kw (ld_glob I hx hm ?_ hdb)
  exact PySem.W.callWith_K (h₀ := X.base) I.ok.mod.kin hk (thn (ha.run pos pins s σ H _ I h) fun us s1 ⟨vs, H1, I1, r, q⟩ => ⟨I1.kIn, run I1 r q⟩) he hpl
end
/-! ### the end of a law whose def is such a def -/
/-- the heap of which nothing is known but the script -/
def justScript (K : PySem.W.Frag) (a : Addr) (vs : List Value) (ns : List Int) : Hp := fun b =>
  if b = a ∧ K.lookup a = none then some (.frz { cls := .type "list", data := .seq vs.toArray } (.lst (ns.map V.int))) else none
section
variable {P : Program} {w : World} {K : PySem.W.Frag} {mg mb : Str → Option Value} {k : Nat} {fa a : Addr} {fd : FuncData} {x : Str} {sp : Sp} {s₁ : Shared} {vs : List Value} {ns : List Int}
theorem js_out {b : Addr} (h : b ≠ a) : justScript K a vs ns b = none := if_neg fun z => h z.1
theorem js_some {b : Addr} {u : HO} (h : justScript K a vs ns b = some u) : b = a ∧ K.lookup a = none ∧ u = .frz { cls := .type "list", data := .seq vs.toArray } (.lst (ns.map V.int)) := by
  unfold justScript at h
  split at h
  · rename_i c
    exact ⟨c.1, c.2, (Option.some.inj h).symm⟩
  · cases h
theorem lawG (KX : K.In s₁.heap) (hns : s₁.heap.Ns mainGlobals mg) (hb : s₁.heap.Ns builtinsNs mb) (hbb : ∀ x : Str, x ≠ "__name__" → mb x = bootBuiltins x) (hlim : s₁.heap.NoLimit) (hg : s₁.gens = #[])
    (ha : s₁.heap.get? a = some { cls := .type "list", data := .seq vs.toArray }) (hi : IntsAre vs ns) (hl : ns.length ≤ sizeLine) (hr : Room k callerA)
    (F : ∀ base : Heap, K.In base → base.Ns mainGlobals mg → FnG P w K mg base k fa fd [x] sp) (hbind : ∀ (s : Shared) (u : Value), BindsTo s fd ⟨[u], []⟩ [(x, u)])
    (hsp : ∀ H : Hp, Only H → SqL K H a (ns.map V.int) → sp [.ref a] H (fun v _ => v = .bl true) fun _ _ _ => False) :
    codeAny (model P w) callerA (.call (.ref fa) ⟨[.ref a], []⟩) (fun r s' => r = .ok (.ret (.bool true)) ∧ OldK s₁.heap s'.heap ∧ s'.os = s₁.os ∧ AllBare s'.gens) s₁ := by
  have rv := L2.vals_ints hi
  have hlen := hi.length
  obtain ⟨H, hH⟩ : ∃ H, H = justScript K a vs ns := ⟨_, rfl⟩
  have hcases : ∀ b, H b = none ∨ (b = a ∧ K.lookup a = none ∧ H b = some (.frz { cls := .type "list", data := .seq vs.toArray } (.lst (ns.map V.int)))) := by
    intro b
    cases q : H b with
    | none => exact .inl rfl
    | some u =>
      rw [hH] at q
      obtain ⟨h1, h2, h3⟩ := js_some q
      exact .inr ⟨h1, h2, by rw [h3]⟩
  have only : Only H := fun b => (hcases b).imp id fun z => ⟨_, _, z.2.2⟩
  have list : SqL K H a (ns.map V.int) := by
    cases hk : K.lookup a with
    | none => exact .inl (.inr ⟨{ cls := .type "list", data := .seq vs.toArray }, by rw [hH]; exact if_pos ⟨rfl, hk⟩⟩)
    | some o =>
      have q := KX a o hk
      rw [ha] at q
      obtain rfl := Option.some.inj q
      exact .inr ⟨_, vs.toArray, _, hk, rfl, rfl, rfl, by rw [List.size_toArray, hlen]; exact hl, rv⟩
  have held : HOk P w H s₁.heap := by
    intro b u q
    rcases hcases b with z | ⟨rfl, _, z⟩
    · rw [z] at q; cases q
    · rw [z] at q
      obtain rfl := Option.some.inj q
      exact ⟨ha, by rw [List.length_map]; exact hl, vs, _, rv, ha⟩
  -- the rest of the heap, in which the module's facts stand
  have stay : ∀ {b : Addr} {o : Obj}, s₁.heap.get? b = some o → (b = a → K.lookup a ≠ none) → (hidT s₁.heap H).get? b = some o := by
    intro b o e n
    refine hidT_get e ?_
    rcases hcases b with z | ⟨e1, e2, _⟩
    · exact z
    · exact absurd e2 (n e1)
  have names : ∀ {b : Addr} {m : Str → Option Value}, s₁.heap.Ns b m → (hidT s₁.heap H).Ns b m := by
    rintro b m ⟨o, es, ep, e, d, r⟩
    refine ⟨o, es, ep, stay e ?_, d, r⟩
    rintro rfl
    rw [ha] at e
    obtain rfl := Option.some.inj e
    exact absurd d (by intro z; cases z)
  have kin : K.In (hidT s₁.heap H) := fun b o e => stay (KX b o e) fun q => by rw [← q, e]; exact fun z => by cases z
  obtain ⟨mc, l1, l2⟩ := hlim
  have mod : Mod K mg (hidT s₁.heap H) := ⟨kin, names hns, ⟨mb, names hb, hbb⟩, ⟨mc, names l1, l2⟩⟩
  have env : Env0 P w K mg (hidT s₁.heap H) callerA [] s₁ H := ⟨rfl, mod, fun b o e => of_hidT e, Nat.le_of_eq (hidT_size _ _), trivial, fun b z => (by exact absurd (show b ∈ ([] : List Addr) from z) (by simp)), held, .of_eq hg⟩
  have vr : Vals [V.ref a] [Value.ref a] := .cons (show RelV (.ref a) (.ref a) from rfl) .nil
  refine codeAny_mono ((F _ kin (names hns)).go (us := [.ref a]) rfl hr env (hbind s₁ (.ref a)) vr (hsp H only list)) ?_
  rintro (_ | (_ | _ | _ | u)) s' z
  · exact z.elim
  · exact z.elim
  · exact z.elim
  · exact z.elim
  · obtain ⟨v, H', os, bare, un, ok', r', q⟩ := z
    have q1 : v = .bl true := q
    subst q1
    have q2 : u = Value.bool true := r'
    subst q2
    refine ⟨rfl, OldK.of_keep fun b o e => ?_, os, bare⟩
    rcases hcases b with z | ⟨e1, _, z⟩
    · exact un.keep b o e z (fun z => absurd (show b ∈ ([] : List Addr) from z) (by simp)) (by simp)
    · obtain ⟨g, _⟩ := ok' b _ (un.frzs b _ _ z)
      obtain ⟨g0, _⟩ := held b _ z
      rw [g0] at e
      rw [← Option.some.inj e]
      exact g
end
theorem walkG {l : PySem.W.OpenLaw} {n k : Nat} {q : Program} {loose : List Str} {XP : (Str → Option Value) → Heap → Prop} {YP : World → Heap → Prop} {d : DefRec} {K : Params → PySem.W.Frag} {sp : PySem.W.Frag → Sp} {x : Str}
    (hn : l.most = some n) (hn2 : n ≤ sizeLine) (hdf : d.params.defaults = []) (hr : Room k callerA) (hY : ∀ (w : World) (h : Heap), YP w h → (K w.params).In h)
    (F : ∀ (w : World) (mg : Str → Option Value) (fa : Addr) (h : Heap), (K w.params).In h → h.Ns mainGlobals mg → mg d.name = some (.ref fa) →
      ∃ fd : FuncData, (∀ (s : Shared) (u : Value), BindsTo s fd ⟨[u], []⟩ [(x, u)]) ∧ ∀ base : Heap, (K w.params).In base → base.Ns mainGlobals mg → FnG l.prog w (K w.params) mg base k fa fd [x] (sp (K w.params)))
    (hsp : ∀ (K : PySem.W.Frag) (H : Hp) (a : Addr) (ns : List Int), ns.length ≤ n → (∀ z ∈ ns, Builtin.Int.intBits z ≤ 1048576) → SqL K H a (ns.map V.int) → sp K [.ref a] H (fun v _ => v = .bl true) fun _ _ _ => False) :
    PySem.W.WalkO q loose XP YP l.row.toRowW d [] (fun f vs => PySem.call f vs) := by
  refine Att.attach_callB hn hdf ?_
  intro w s₀ s₁ mg mb fa o pm cd doc a vs ns G Y ho hd hcd hmg hobj hints hlen hbits hg
  obtain ⟨fd, hb, hF⟩ := F w mg fa _ (hY w _ Y) G.T.g hmg
  exact lawG (hY w _ Y) G.T.g G.T.b G.T.builtins G.T.nolimit hg hobj hints (Nat.le_trans hlen hn2) hr hF hb fun H _ hS => hsp _ H a ns hlen hbits hS
/-! ### repr of data -/
mutual
/-- how long its text is at most -/
def szD : PyData → Nat
  | .none => 4
  | .bool _ => 5
  | .int _ => 301
  | .str x => (reprText x).length
  | .list xs => szAll xs + 2
  | .tuple xs => szAll xs + 3
  | .dict _ => 2
def szAll : List PyData → Nat
  | [] => 0
  | x :: xs => szD x + 2 + szAll xs
end
mutual
/-- ints of moderate size, no dict -/
def modD : PyData → Bool
  | .none | .bool _ | .str _ => true
  | .int i => decide (i.natAbs < 2 ^ 300)
  | .list xs | .tuple xs => modAll xs
  | .dict _ => false
def modAll : List PyData → Bool
  | [] => true
  | x :: xs => modD x && modAll xs
end
theorem log_of {i : Int} (h : i.natAbs < 2 ^ 300) : i.natAbs.log2 < 300 := PySem.Flt.log2_lt_of (by decide) h
mutual
theorem showable_of : ∀ d : PyData, modD d = true → d.showable = true
  | .none, _ => by rw [PyData.showable]
  | .bool _, _ => by rw [PyData.showable]
  | .str _, _ => by rw [PyData.showable]
  | .int i, h => by
    rw [modD] at h
    rw [PyData.showable]
    have := log_of (of_decide_eq_true h)
    exact decide_eq_true (by omega)
  | .list xs, h => by
    rw [modD] at h
    rw [PyData.showable]
    exact showableAll_of xs h
  | .tuple xs, h => by
    rw [modD] at h
    rw [PyData.showable]
    exact showableAll_of xs h
  | .dict _, h => by rw [modD] at h; cases h
theorem showableAll_of : ∀ xs : List PyData, modAll xs = true → PyData.showableAll xs = true
  | [], _ => by rw [PyData.showableAll]
  | x :: xs, h => by
    rw [modAll, Bool.and_eq_true] at h
    rw [PyData.showableAll, showable_of x h.1, showableAll_of xs h.2]
    rfl
end
mutual
theorem nodict_of : ∀ d : PyData, modD d = true → d.hasDict = false
  | .none, _ => by rw [PyData.hasDict]
  | .bool _, _ => by rw [PyData.hasDict]
  | .str _, _ => by rw [PyData.hasDict]
  | .int i, h => by rw [PyData.hasDict]
  | .list xs, h => by
    rw [modD] at h
    rw [PyData.hasDict]
    exact nodictAll_of xs h
  | .tuple xs, h => by
    rw [modD] at h
    rw [PyData.hasDict]
    exact nodictAll_of xs h
  | .dict _, h => by rw [modD] at h; cases h
theorem nodictAll_of : ∀ xs : List PyData, modAll xs = true → PyData.hasDictAll xs = false
  | [], _ => by rw [PyData.hasDictAll]
  | x :: xs, h => by
    rw [modAll, Bool.and_eq_true] at h
    rw [PyData.hasDictAll, nodict_of x h.1, nodictAll_of xs h.2]
    rfl
end
def pile : List Str → Nat
  | [] => 0
  | t :: r => t.length + 2 + pile r
theorem textFrom_le : ∀ (ts : List Str) (k : Nat) (acc : Str), (textFrom k acc ts).length ≤ acc.length + pile ts
  | [], k, acc => by show acc.length ≤ acc.length + 0; omega
  | t :: r, k, acc => by
    have ih := textFrom_le r (k + 1) (acc ++ (if k > 0 then ", " else "" : String) ++ t)
    have e : (acc ++ (if k > 0 then ", " else "" : String) ++ t).length ≤ acc.length + 2 + t.length := by
      rw [strLen_append, strLen_append]
      split
      · show acc.length + 2 + t.length ≤ _; omega
      · show acc.length + 0 + t.length ≤ _; omega
    show (textFrom (k + 1) (acc ++ (if k > 0 then ", " else "" : String) ++ t) r).length ≤ acc.length + (t.length + 2 + pile r)
    omega
theorem listText_le (ts : List Str) : (listText ts).length ≤ pile ts + 2 := by
  unfold listText
  have h := textFrom_le ts 0 "["
  rw [strLen_append]
  have e1 : (("[" : String) : Str).length = 1 := rfl
  have e2 : (("]" : String) : Str).length = 1 := rfl
  rw [e2]
  rw [e1] at h
  omega
theorem join_le : ∀ ts : List Str, (Str.join ", " ts).length ≤ pile ts
  | [] => Nat.zero_le _
  | [x] => by show x.length ≤ x.length + 2 + 0; omega
  | x :: y :: r => by
    have ih := join_le (y :: r)
    show (x ++ ", " ++ Str.join ", " (y :: r)).length ≤ x.length + 2 + pile (y :: r)
    rw [strLen_append, strLen_append]
    have e2 : ((", " : String) : Str).length = 2 := rfl
    rw [e2]
    omega
theorem tupleText_le (ts : List Str) : (tupleText ts).length ≤ pile ts + 3 := by
  unfold tupleText
  have h := join_le ts
  rw [strLen_append, strLen_append]
  have e1 : (("(" : String) : Str).length = 1 := rfl
  have e2 : ((if ts.length == 1 then ",)" else ")" : String) : Str).length ≤ 2 := by
    split
    · exact Nat.le_refl _
    · exact Nat.le_succ _
  rw [e1]
  omega
mutual
theorem shown_le : ∀ d : PyData, modD d = true → d.shown.length ≤ szD d
  | .none, _ => by rw [PyData.shown, szD]; decide
  | .bool b, _ => by rw [PyData.shown, szD]; cases b <;> decide
  | .str x, _ => by rw [PyData.shown, szD]; exact Nat.le_refl _
  | .int i, h => by
    rw [modD] at h
    rw [PyData.shown, szD]
    have := int_text_length_le (k := 300) (by decide) (log_of (of_decide_eq_true h))
    have e : (Str.ofString (toString i)).length = (toString i).length := PySem.ofString_length _
    rw [e]
    omega
  | .list xs, h => by
    rw [modD] at h
    rw [PyData.shown, szD]
    have := listText_le (PyData.shownAll xs)
    have := shownAll_le xs h
    omega
  | .tuple xs, h => by
    rw [modD] at h
    rw [PyData.shown, szD]
    have := tupleText_le (PyData.shownAll xs)
    have := shownAll_le xs h
    omega
  | .dict _, h => by rw [modD] at h; cases h
theorem shownAll_le : ∀ xs : List PyData, modAll xs = true → pile (PyData.shownAll xs) ≤ szAll xs
  | [], _ => by rw [PyData.shownAll, szAll]; exact Nat.le_refl _
  | x :: xs, h => by
    rw [modAll, Bool.and_eq_true] at h
    have h1 := shown_le x h.1
    have h2 := shownAll_le xs h.2
    rw [PyData.shownAll, szAll]
    show x.shown.length + 2 + pile (PyData.shownAll xs) ≤ _
    omega
end
/-! ### data of the heap is read -/
section
variable {X : Cx} {pins : List (Addr × Obj)} {σ : L2.St} {H : Hp} {s : Shared}
mutual
theorem DV.reads (I : Inv X pins σ H s) : ∀ (d : PyData) (v : V) (u : Value), DV X.K H v d → RelV v u → ∃ as, Reads s.heap u d as
  | .none, _, _, .non, r => ⟨_, (show _ = Value.none from r) ▸ Reads.none⟩
  | .bool b, _, _, .bl _, r => ⟨_, (show _ = Value.bool b from r) ▸ Reads.bool b⟩
  | .int i, _, _, .int _, r => by
    obtain ⟨t, q⟩ := r
    rw [q]
    exact ⟨_, Reads.int i t⟩
  | .str x, _, _, .str _, r => by
    obtain ⟨t, q⟩ := r
    rw [q]
    exact ⟨_, Reads.str x t⟩
  | .list ds, _, u, .lst h t, r => by
    have r' : u = Value.ref _ := r
    subst r'
    obtain ⟨its, rv, ⟨o, n, ho, hc, _, hd⟩, _⟩ := I.list h
    obtain ⟨as, hr⟩ := DVs.reads I ds _ its t rv
    exact ⟨_, Reads.list ho hc hd hr⟩
  | .tuple ds, _, u, .tup h t, r => by
    have r' : u = Value.ref _ := r
    subst r'
    obtain ⟨its, rv, ⟨o, ho, hc, n, hd⟩, _⟩ := I.tuple h
    obtain ⟨as, hr⟩ := DVs.reads I ds _ its t rv
    exact ⟨_, Reads.tuple ho hc hd hr⟩
  | .dict _, _, u, .dk0 h, r => by
    have r' : u = Value.ref _ := r
    subst r'
    obtain ⟨_, _, vs, rel, o, es, ep, h1, h2, h3, h4⟩ := I.hok _ _ h
    cases rel
    have e0 : es.toList = [] := by
      have h5 := h4.2.1
      generalize es.toList = l at h5 ⊢
      cases h5
      rfl
    refine ⟨_, Reads.dict (as := []) (bs := []) h1 h2.1 h3 ?_ ?_⟩
    · rw [e0]; exact ReadsAll.nil
    · rw [e0]; exact ReadsAll.nil
theorem DVs.reads (I : Inv X pins σ H s) : ∀ (ds : List PyData) (vs : List V) (us : List Value), DVs X.K H vs ds → Vals vs us → ∃ as, ReadsAll s.heap us ds as
  | [], _, _, .nil, r => by
    cases r
    exact ⟨_, ReadsAll.nil⟩
  | d :: ds, _, _, .cons h1 h2, r => by
    cases r with
    | cons r1 r2 =>
      obtain ⟨as, q1⟩ := DV.reads I d _ _ h1 r1
      obtain ⟨bs, q2⟩ := DVs.reads I ds _ _ h2 r2
      exact ⟨_, ReadsAll.cons q1 q2⟩
end
/-- repr of a list or a tuple -/
def rRepr (K : PySem.W.Frag) : List V → Hp → VK → Prop := fun xs H Q => ∃ (a : Addr) (d : PyData), xs = [.ref a] ∧ DV K H (.ref a) d ∧ modD d = true ∧ d.depth ≤ 40 ∧ szD d ≤ 1000000 ∧ Q (.str d.shown) H
theorem call_repr (hg : X.A.guards = some []) (hu : X.A.units + 64 < cLine) : CallR X (.builtin "repr") (rRepr X.K) := by
  intro pins s σ H xs us Q I r h
  obtain ⟨a, d, rfl, hd, hm, hdep, hsz, q⟩ := h
  rw [Vals.ref1 r]
  obtain ⟨as, hr⟩ := DV.reads I d (.ref a) (.ref a) hd rfl
  have hl : d.shown.length ≤ sizeLine := by
    have := shown_le d hm
    rw [sizeLine_eq]
    omega
  exact repr_of_reads' hr (showable_of d hm) (fun z => by rw [nodict_of d hm] at z; cases z) hg (by omega) (fun _ _ e => e) (fun h' u tk kk => ⟨.str d.shown, H, I.kept kk, ⟨_, rfl⟩, q⟩) hl
end
/-! ### data that cannot change: flat things and tuples of such -/
mutual
inductive DT (H : Hp) : V → PyData → Prop
  | non : DT H .non .none
  | bl (b : Bool) : DT H (.bl b) (.bool b)
  | int (i : Int) : DT H (.int i) (.int i)
  | str (x : Str) : DT H (.str x) (.str x)
  | tup {a : Addr} {xs : List V} {ds : List PyData} : H a = some (.tup xs) → DTs H xs ds → DT H (.ref a) (.tuple ds)
inductive DTs (H : Hp) : List V → List PyData → Prop
  | nil : DTs H [] []
  | cons {v : V} {vs : List V} {d : PyData} {ds : List PyData} : DT H v d → DTs H vs ds → DTs H (v :: vs) (d :: ds)
end
/-- the tuples stand -/
def KeepT (H H' : Hp) : Prop := ∀ a xs, H a = some (.tup xs) → H' a = some (.tup xs)
theorem KeepT.refl (H : Hp) : KeepT H H := fun _ _ h => h
theorem KeepT.trans {H H1 H2 : Hp} (a : KeepT H H1) (b : KeepT H1 H2) : KeepT H H2 := fun c xs h => b c xs (a c xs h)
theorem KeepT.same {H H' : Hp} (s : Same H H') : KeepT H H' := fun a xs h => s a _ h
theorem KeepT.but {d : Addr} {H H' : Hp} (D : DeckAt H d) (s : But d H H') : KeepT H H' := fun a xs h => s.tup D h
theorem KeepT.put {x : Addr} {H : Hp} {ys : List V} {o : HO} (h : H x = some (.lst ys)) : KeepT H (upd H x o) := fun a xs e => by
  rw [upd_ne (ne_of e h (by intro z; cases z))]
  exact e
theorem KeepT.new {x : Addr} {H : Hp} {o : HO} (h : H x = none) : KeepT H (upd H x o) := KeepT.same (Same.new h)
mutual
theorem DT.keep {H H' : Hp} (e : KeepT H H') : ∀ {d : PyData} {v : V}, DT H v d → DT H' v d
  | _, _, .non => .non
  | _, _, .bl b => .bl b
  | _, _, .int i => .int i
  | _, _, .str x => .str x
  | _, _, .tup h t => .tup (e _ _ h) (DTs.keep e t)
theorem DTs.keep {H H' : Hp} (e : KeepT H H') : ∀ {ds : List PyData} {vs : List V}, DTs H vs ds → DTs H' vs ds
  | _, _, .nil => .nil
  | _, _, .cons p t => .cons (DT.keep e p) (DTs.keep e t)
end
mutual
theorem DT.dv {K : PySem.W.Frag} {H : Hp} : ∀ {d : PyData} {v : V}, DT H v d → DV K H v d
  | _, _, .non => .non
  | _, _, .bl b => .bl b
  | _, _, .int i => .int i
  | _, _, .str x => .str x
  | _, _, .tup h t => .tup (SqT.of h) (DTs.dv t)
theorem DTs.dv {K : PySem.W.Frag} {H : Hp} : ∀ {ds : List PyData} {vs : List V}, DTs H vs ds → DVs K H vs ds
  | _, _, .nil => .nil
  | _, _, .cons p t => .cons (DT.dv p) (DTs.dv t)
end
theorem DTs.ints {H : Hp} : ∀ ks : List Int, DTs H (ks.map V.int) (ks.map PyData.int)
  | [] => .nil
  | k :: r => .cons (.int k) (DTs.ints r)
theorem DTs.append {H : Hp} : ∀ {vs ws : List V} {ds es : List PyData}, DTs H vs ds → DTs H ws es → DTs H (vs ++ ws) (ds ++ es)
  | _, _, _, _, .nil, h => h
  | _, _, _, _, .cons p t, h => .cons p (DTs.append t h)
theorem DTs.take {H : Hp} : ∀ {vs : List V} {ds : List PyData} (n : Nat), DTs H vs ds → DTs H (vs.take n) (ds.take n)
  | _, _, 0, _ => .nil
  | _, _, _ + 1, .nil => .nil
  | _, _, n + 1, .cons p t => .cons p (DTs.take n t)
theorem DTs.length {H : Hp} : ∀ {vs : List V} {ds : List PyData}, DTs H vs ds → vs.length = ds.length
  | _, _, .nil => rfl
  | _, _, .cons _ t => congrArg Nat.succ (DTs.length t)
theorem DTs.none {H : Hp} : ∀ n : Nat, DTs H (List.replicate n V.non) (List.replicate n PyData.none)
  | 0 => .nil
  | n + 1 => .cons .non (DTs.none n)
/-! ### lists of ids as data -/
theorem modAll_ints : ∀ xs : List Int, (∀ z ∈ xs, z.natAbs < 2 ^ 300) → modAll (xs.map .int) = true
  | [], _ => by rw [List.map_nil, modAll]
  | x :: r, h => by
    rw [List.map_cons, modAll, modD, modAll_ints r fun z hz => h z (List.mem_cons_of_mem _ hz), decide_eq_true (h x List.mem_cons_self)]
    rfl
theorem szAll_ints : ∀ xs : List Int, szAll (xs.map .int) = xs.length * 303
  | [] => by rw [List.map_nil, szAll]; rfl
  | x :: r => by
    rw [List.map_cons, szAll, szD, szAll_ints r, List.length_cons]
    omega
theorem small_abs {z : Int} (h : -1000000000000 ≤ z) (h2 : z ≤ 1000000000000) : z.natAbs < 2 ^ 300 := by
  have : (1000000000001 : Nat) ≤ 2 ^ 300 := Nat.le_trans (by decide : 1000000000001 ≤ 2 ^ 50) (Nat.pow_le_pow_right (by decide) (by decide))
  generalize (2 : Nat) ^ 300 = B at *
  omega
structure Rok (d : PyData) : Prop where
  m : modD d = true
  dep : d.depth ≤ 40
  sz : szD d ≤ 1000000
theorem rok_ids {xs : List Int} (h : ∀ z ∈ xs, 1 ≤ z ∧ z ≤ 1000000) (hl : xs.length ≤ 300) : Rok (.list (xs.map .int)) := by
  refine ⟨?_, ?_, ?_⟩
  · rw [modD]
    exact modAll_ints xs fun z hz => by have := h z hz; exact small_abs (by omega) (by omega)
  · have := depthAll_ints xs
    rw [PyData.depth]
    omega
  · rw [szD, szAll_ints]
    omega
/-- changing one more object -/
theorem Fs.put {d x : Addr} {Hd H1 : Hp} {fs : List (Addr × HO)} {o : HO} (F : Fs d Hd fs H1) (h0 : Hd x = none) (hd : x ≠ d) (hn : ∀ p ∈ fs, p.1 ≠ x) : Fs d Hd fs (upd H1 x o) := by
  obtain ⟨f1, ⟨a, b, q, r⟩, f3⟩ := F
  refine ⟨fun c u hc e => ?_, ⟨a, b, by rw [upd_ne hd.symm]; exact q, r⟩, fun p hp => ⟨(f3 p hp).1, by rw [upd_ne (hn p hp)]; exact (f3 p hp).2⟩⟩
  rw [upd_ne (ne_of_none e h0)]
  exact f1 c u hc e
theorem Fs.apart {d x : Addr} {Hd H1 : Hp} {fs : List (Addr × HO)} (F : Fs d Hd fs H1) (h : H1 x = none) : Hd x = none ∧ x ≠ d ∧ ∀ p ∈ fs, p.1 ≠ x := by
  obtain ⟨f1, ⟨a, b, q, r⟩, f3⟩ := F
  have hd : x ≠ d := fun e => by rw [e, q] at h; cases h
  refine ⟨?_, hd, fun p hp => ne_of_none (f3 p hp).2 h⟩
  cases e : Hd x with
  | none => rfl
  | some u =>
    have := f1 x u hd e
    rw [h] at this; cases this
/-! ### repr of data with empty dicts in it -/
mutual
/-- ints of moderate size, dicts only empty -/
def okD : PyData → Bool
  | .none | .bool _ | .str _ => true
  | .int i => decide (i.natAbs < 2 ^ 300)
  | .list xs | .tuple xs => okAll xs
  | .dict kvs => kvs.isEmpty
def okAll : List PyData → Bool
  | [] => true
  | x :: xs => okD x && okAll xs
end
mutual
theorem shown_le2 : ∀ d : PyData, okD d = true → d.shown.length ≤ szD d
  | .none, _ => shown_le .none rfl
  | .bool b, _ => shown_le (.bool b) rfl
  | .str x, _ => shown_le (.str x) rfl
  | .int i, h => shown_le (.int i) (by rw [okD] at h; rw [modD]; exact h)
  | .list xs, h => by
    have h2 : okAll xs = true := by rw [okD] at h; exact h
    have b := shownAll_le2 xs h2
    have a := listText_le (PyData.shownAll xs)
    rw [szD, PyData.shown]
    omega
  | .tuple xs, h => by
    have h2 : okAll xs = true := by rw [okD] at h; exact h
    have b := shownAll_le2 xs h2
    have a := tupleText_le (PyData.shownAll xs)
    rw [szD, PyData.shown]
    omega
  | .dict kvs, h => by
    rw [okD] at h
    have e : kvs = [] := List.isEmpty_iff.mp h
    subst e
    rw [szD, PyData.shown, PyData.shownKv]
    exact Nat.le_refl 2
theorem shownAll_le2 : ∀ xs : List PyData, okAll xs = true → pile (PyData.shownAll xs) ≤ szAll xs
  | [], _ => by rw [PyData.shownAll, szAll]; exact Nat.le_refl _
  | x :: xs, h => by
    rw [okAll, Bool.and_eq_true] at h
    have a := shown_le2 x h.1
    have b := shownAll_le2 xs h.2
    rw [szAll, PyData.shownAll]
    show x.shown.length + 2 + pile (PyData.shownAll xs) ≤ _
    omega
end
section
variable {X : Cx} {pins : List (Addr × Obj)} {σ : L2.St} {H : Hp} {s : Shared}
mutual
theorem DV.rk (I : Inv X pins σ H s) : ∀ (d : PyData) (v : V) (u : Value), DV X.K H v d → RelV v u → okD d = true → d.shown.length ≤ sizeLine → ∃ bs, ReadAtMost s.heap d.depth bs ∧ ReprK X.prog X.w bs s.heap d.depth u d.shown
  | .none, _, _, .non, r, _, _ => ⟨[], (fun _ q => by cases q), by rw [PyData.shown, (show _ = Value.none from r)]; exact .of_is ReprIs.none _ _ _⟩
  | .bool b, _, _, .bl _, r, _, _ => ⟨[], (fun _ q => by cases q), by rw [PyData.shown, (show _ = Value.bool b from r)]; exact .of_is (ReprIs.bool b) _ _ _⟩
  | .int i, _, _, .int _, r, h, _ => by
    obtain ⟨t, rfl⟩ := r
    rw [okD] at h
    have := log_of (of_decide_eq_true h)
    exact ⟨[], (fun _ q => by cases q), by rw [PyData.shown]; exact .of_is (ReprIs.int t (by omega)) _ _ _⟩
  | .str x, _, _, .str _, r, _, hz => by
    obtain ⟨t, rfl⟩ := r
    rw [PyData.shown] at hz
    exact ⟨[], (fun _ q => by cases q), by rw [PyData.shown]; exact .of_is (ReprIs.str x t hz) _ _ _⟩
  | .list ds, _, u, .lst h t, r, hok, hz => by
    have r' : u = Value.ref _ := r
    subst r'
    rw [okD] at hok
    rw [PyData.shown] at hz
    obtain ⟨its, rv, ⟨o, n, ho, hc, _, hd⟩, _⟩ := I.list h
    obtain ⟨as, hr⟩ := DVs.reads I ds _ its t rv
    obtain ⟨bs, hb, hk⟩ := DVs.rk I ds _ its t rv hok fun x hx => Nat.le_trans (listText_mem_le hx) hz
    have R := Reads.list ho hc hd hr
    have far := not_mem_of_deeper R (by rw [PyData.depth]; omega) hb
    refine ⟨_, ReadAtMost.cons R (by rw [PyData.depth]; omega) hb, ?_⟩
    rw [PyData.depth, PyData.shown]
    cases its with
    | nil =>
      cases rv
      cases t
      rw [PyData.shownAll, listText_nil]
      exact ReprK.listEmpty ho hc hd
    | cons y l => exact ReprK.list ho hc hd far (by rw [hk.length_eq]; rfl) fun i y e => hk.item i y (by rw [List.getElem?_toArray] at e; exact e)
  | .tuple ds, _, u, .tup h t, r, hok, hz => by
    have r' : u = Value.ref _ := r
    subst r'
    rw [okD] at hok
    rw [PyData.shown] at hz
    obtain ⟨its, rv, ⟨o, ho, hc, n, hd⟩, _⟩ := I.tuple h
    obtain ⟨as, hr⟩ := DVs.reads I ds _ its t rv
    obtain ⟨bs, hb, hk⟩ := DVs.rk I ds _ its t rv hok fun x hx => Nat.le_trans (tupleText_mem_le hx) hz
    have R := Reads.tuple ho hc hd hr
    have far := not_mem_of_deeper R (by rw [PyData.depth]; omega) hb
    refine ⟨_, ReadAtMost.cons R (by rw [PyData.depth]; omega) hb, ?_⟩
    rw [PyData.depth, PyData.shown]
    exact ReprK.tuple ho hc hd far hk
  | .dict _, _, u, .dk0 h, r, _, _ => by
    have r' : u = Value.ref _ := r
    subst r'
    obtain ⟨_, sy, vs, rel, o, es, ep, h1, h2, h3, h4⟩ := I.hok _ _ h
    cases rel
    have e0 : es.toList = [] := by
      have h5 := h4.2.1
      generalize es.toList = l at h5 ⊢
      cases h5
      rfl
    have R : Reads s.heap (.ref _) (.dict []) _ := Reads.dict (as := []) (bs := []) h1 h2.1 h3 (by rw [e0]; exact ReadsAll.nil) (by rw [e0]; exact ReadsAll.nil)
    have hb : ReadAtMost s.heap (PyData.depthKv []) [] := fun _ q => by cases q
    refine ⟨_, ReadAtMost.cons R (by rw [PyData.depth]; omega) hb, ?_⟩
    rw [PyData.depth, PyData.shown, PyData.shownKv]
    exact ReprK.dict h1 h2.1 h3 sy (fun q => by cases q) (by rw [e0]; exact .nil)
theorem DVs.rk (I : Inv X pins σ H s) : ∀ (ds : List PyData) (vs : List V) (us : List Value), DVs X.K H vs ds → Vals vs us → okAll ds = true → (∀ x ∈ PyData.shownAll ds, x.length ≤ sizeLine) → ∃ bs, ReadAtMost s.heap (PyData.depthAll ds) bs ∧ ReprAllK X.prog X.w bs s.heap (PyData.depthAll ds) us (PyData.shownAll ds)
  | [], _, _, .nil, r, _, _ => by
    cases r
    exact ⟨[], (fun _ q => by cases q), by rw [PyData.shownAll]; exact .nil⟩
  | d :: ds, _, _, .cons h1 h2, r, hok, hz => by
    cases r with
    | cons r1 r2 =>
      rw [okAll, Bool.and_eq_true] at hok
      rw [PyData.shownAll] at hz
      obtain ⟨p1, a1, k1⟩ := DV.rk I d _ _ h1 r1 hok.1 (hz _ List.mem_cons_self)
      obtain ⟨p2, a2, k2⟩ := DVs.rk I ds _ _ h2 r2 hok.2 fun x hx => hz x (List.mem_cons_of_mem _ hx)
      rw [PyData.shownAll, PyData.depthAll]
      refine ⟨p1 ++ p2, fun b hm => ?_, .cons ((k1.more fun b hb => List.mem_append_left _ hb).level_le (by omega)) (k2.more_le (fun b hb => List.mem_append_right _ hb) (by omega))⟩
      rcases List.mem_append.mp hm with q | q
      · obtain ⟨e, f, r, g⟩ := a1 b q
        exact ⟨e, f, r, by omega⟩
      · obtain ⟨e, f, r, g⟩ := a2 b q
        exact ⟨e, f, r, by omega⟩
end
/-- repr of any data -/
def rRepr2 (K : PySem.W.Frag) : List V → Hp → VK → Prop := fun xs H Q => ∃ (v : V) (d : PyData), xs = [v] ∧ DV K H v d ∧ okD d = true ∧ d.depth ≤ 40 ∧ szD d ≤ 1000000 ∧ Q (.str d.shown) H
theorem call_repr2 (hg : X.A.guards = some []) (hu : X.A.units + 64 < cLine) : CallR X (.builtin "repr") (rRepr2 X.K) := by
  intro pins s σ H xs us Q I r h
  obtain ⟨v, d, rfl, hd, hok, hdep, hsz, q⟩ := h
  have hl : d.shown.length ≤ sizeLine := by
    have := shown_le2 d hok
    rw [sizeLine_eq]
    omega
  obtain ⟨u, rfl, ru⟩ : ∃ u, us = [u] ∧ RelV v u := by
    cases r with
    | cons r1 r2 => cases r2; exact ⟨_, rfl, r1⟩
  have kk : ∀ b o, s.heap.get? b = some o → s.heap.get? b = some o := fun _ _ e => e
  cases hd with
  | non =>
    have r' : u = Value.none := ru
    subst r'
    rw [PyData.shown] at q
    exact PySem.P.repr_of_none ⟨.str _, H, I.tok _, ⟨_, rfl⟩, q⟩
  | bl b =>
    have r' : u = Value.bool b := ru
    subst r'
    rw [PyData.shown] at q
    exact PySem.P.repr_of_bool ⟨.str _, H, I.tok _, ⟨_, rfl⟩, q⟩
  | int i =>
    obtain ⟨t, rfl⟩ := ru
    rw [okD] at hok
    have := log_of (of_decide_eq_true hok)
    rw [PyData.shown] at q
    exact PySem.P.repr_of_int (by omega) ⟨.str _, H, I.tok _, ⟨_, rfl⟩, q⟩
  | str x =>
    obtain ⟨t, rfl⟩ := ru
    rw [PyData.shown] at q hl
    exact PySem.P.repr_of_str ⟨.str _, H, I.tok _, ⟨_, rfl⟩, q⟩ hl
  | lst h t =>
    rename_i a vs ds
    have r' : u = Value.ref a := ru
    subst r'
    rw [okD] at hok
    rw [PyData.shown] at hl q
    rw [PyData.depth] at hdep
    obtain ⟨its, rv, ⟨o, n, ho, hc, _, hdt⟩, _⟩ := I.list h
    obtain ⟨as, hr⟩ := DVs.reads I ds _ its t rv
    obtain ⟨bs, hb, hk⟩ := DVs.rk I ds _ its t rv hok fun x hx => Nat.le_trans (listText_mem_le hx) hl
    have far := not_mem_of_deeper (Reads.list ho hc hdt hr) (by rw [PyData.depth]; omega) hb
    refine call_repr_slot (by omega) ⟨o, ho, hc⟩ F.slot_list_repr.toG ?_
    cases its with
    | nil =>
      cases rv
      cases t
      rw [PyData.shownAll, listText_nil] at q
      exact call_list_repr_empty ⟨o, ho, hc⟩ ho hdt ⟨_, _, rfl, .str _, H, I.tok _, ⟨_, rfl⟩, q⟩
    | cons y l =>
      exact call_list_reprK ho hc hdt far (by rw [hk.length_eq]; rfl) (fun i y e => hk.item i y (by rw [List.getElem?_toArray] at e; exact e)) hg (fun b _ => Clear.nil b) (by show X.A.units + 1 + _ < cLine; omega) kk
        (fun h' u tk k => ⟨_, _, rfl, .str _, H, I.kept k, ⟨_, rfl⟩, q⟩) hl
  | tup h t =>
    rename_i a vs ds
    have r' : u = Value.ref a := ru
    subst r'
    rw [okD] at hok
    rw [PyData.shown] at hl q
    rw [PyData.depth] at hdep
    obtain ⟨its, rv, ⟨o, ho, hc, n, hdt⟩, _⟩ := I.tuple h
    obtain ⟨as, hr⟩ := DVs.reads I ds _ its t rv
    obtain ⟨bs, hb, hk⟩ := DVs.rk I ds _ its t rv hok fun x hx => Nat.le_trans (tupleText_mem_le hx) hl
    have far := not_mem_of_deeper (Reads.tuple ho hc hdt hr) (by rw [PyData.depth]; omega) hb
    refine call_repr_slot (by omega) ⟨o, ho, hc⟩ F.slot_tuple_repr ?_
    exact call_tuple_reprK ho hc hdt far hk hg (fun b _ => Clear.nil b) (by show X.A.units + 1 + _ < cLine; omega) kk
      (fun h' u tk k => ⟨_, _, rfl, .str _, H, I.kept k, ⟨_, rfl⟩, q⟩) hl
  | dk0 h =>
    rename_i a
    have r' : u = Value.ref a := ru
    subst r'
    rw [PyData.shown, PyData.shownKv] at q
    obtain ⟨_, sy, vs, rel, o, es, ep, h1, h2, h3, h4⟩ := I.hok _ _ h
    cases rel
    have e0 : es.toList = [] := by
      have h5 := h4.2.1
      generalize es.toList = l at h5 ⊢
      cases h5
      rfl
    refine call_repr_slot (by omega) ⟨o, h1, h2.1⟩ F.slot_dict_repr ?_
    exact call_dict_reprK (d := 0) (as := []) h1 h2.1 h3 sy (fun q => by cases q) (by rw [e0]; exact .nil) hg (fun b _ => Clear.nil b) (by show X.A.units + 1 + _ < cLine; omega) kk
      (fun h' u tk k => ⟨_, _, rfl, .str _, H, I.kept k, ⟨_, rfl⟩, q⟩) (by rw [sizeLine_eq]; decide)
end
def inV2 (lo hi : Int) : V → Bool
  | .int i => decide (lo ≤ i) && decide (i ≤ hi)
  | _ => false
def inD (lo hi : Int) : PyData → Bool
  | .int i => decide (lo ≤ i) && decide (i ≤ hi)
  | _ => false
theorem DV.inD {K : PySem.W.Frag} {H : Hp} {v : V} {d : PyData} {lo hi : Int} (h : DV K H v d) : inV2 lo hi v = Hk.inD lo hi d := by cases h <;> rfl
theorem dInt (i j : Int) : decide (V.int i = V.int j) = decide (i = j) := by rw [dec_int]; rfl
/-- a comprehension over a tuple whose elements leave all as it was -/
theorem lc_same {K : PySem.W.Frag} {a : Addr} {xs : List V} {g : TG} {te : TE} {vs : List Nat} {σ : L2.St} {H1 : Hp} {D : Addr} {Qd : Hp → Prop} (ys : List V) (hl : ys.length = xs.length) (hsz : xs.length ≤ 1000000) (hT : SqT K H1 a xs) (hD : H1 D = none)
    (turn : ∀ (i : Nat) (x y : V) (H' : Hp) (R : VK), xs[i]? = some x → ys[i]? = some y → Same H1 H' → (∀ H4, Same H' H4 → R y H4) → g x (wipe σ vs) H' fun σ2 H2 => wipe σ2 vs = wipe σ vs ∧ te σ2 H2 R)
    (fin : ∀ H', Same H1 H' → H' D = some (.lst ys) → Qd H') :
    ∃ W : Nat → Nat → Hp → Prop, (∃ m, W 0 m (upd H1 D (.lst []))) ∧ ∀ (i m : Nat) (H : Hp), W i m H → (Itt K a).stop i H ∧ Qd H ∨ (Itt K a).go i H ∧ ∃ Nx : Hp → Prop, (∀ (H' : Hp), Nx H' → ∃ m', m' < m ∧ W (i + 1) m' H') ∧
      ∀ (x : V) (H' : Hp), (Itt K a).yld i H x H' → g x (wipe σ vs) H' fun σ2 H2 => wipe σ2 vs = wipe σ vs ∧ tYes σ2 H2 fun b H3 => if b = true then te σ2 H3 fun y H4 => ∃ acc, H4 D = some (.lst acc) ∧ acc.length < sizeLine ∧ Nx (upd H4 D (.lst (acc ++ [y]))) else Nx H3 := by
  refine lc_tup (K := K) (a := a) (xs := xs) (fun i H' => Same H1 H' ∧ H' D = some (.lst (ys.take i))) ⟨Same.new hD, upd_same⟩ (fun i H' _ q => Same.tq q.1 hT) ?_ ?_
  · rintro i x H' hx ⟨s1, hL⟩
    have hi := lt_of_some hx
    have hy : ys[i]? = some ys[i] := List.getElem?_eq_getElem (by omega)
    refine turn i x ys[i] H' _ hx hy s1 fun H4 s2 => ⟨_, s2 _ _ hL, ?_, ?_, ?_⟩
    · rw [List.length_take, sizeLine_eq]; omega
    · intro b u hb
      rw [upd_ne (ne_of_none hb hD)]
      exact s2 _ _ (s1 _ _ hb)
    · rw [upd_same, take_snoc hy]
  · rintro H' ⟨s1, hL⟩
    rw [← hl, List.take_length] at hL
    exact fin H' s1 hL
structure TxtI (mg : Str → Option Value) : Prop where
  id : ∃ t, mg "GREATEST_ID" = some (.int 1000000 t)
  field : ∃ t, mg "GREATEST_FIELD" = some (.int 1000000000 t)
  most : ∃ t, mg "MOST_FIELDS" = some (.int 4 t)
  abs : mg "abs" = none
theorem op_catA_K {X : Cx} {K : PySem.W.Frag} (h : X.K = K) : OpR X (binaryOp .Add) (rCatA K) := by
  subst h
  exact op_catA
theorem tyInt (K : PySem.W.Frag) (H : Hp) (i : Int) : TyD K H (.int i) := ⟨_, .base (.int i), .inr (.inr (.inl ⟨rfl, i, rfl⟩))⟩
/-! ### items and rules, plainly -/
def areFieldsD (w : Int) : PyData → Bool
  | .tuple ds => decide ((ds.length : Int) = w) && (decide (1 ≤ ds.length) && decide (ds.length ≤ 4)) && ds.all (inD (-1000000000) 1000000000)
  | _ => false
def isItem2 (w : Int) (i f : PyData) : Bool := inD 1 1000000 i && areFieldsD w f
def isItemD (w : Int) : PyData → Bool
  | .tuple [i, f] => isItem2 w i f
  | _ => false
def absI (i : Int) : Int := if i < 0 then -i else i
def isRuleL (w : Int) (ds : List PyData) : Bool := decide (ds.length ≤ 4) && ds.all wholeD && ((ds.map fun d => absI (intOf d)).all fun c => decide (1 ≤ c) && decide (c ≤ w)) && decide (ds.map fun d => absI (intOf d)).Nodup
def isRuleD (w : Int) : PyData → Bool
  | .tuple ds => isRuleL w ds
  | _ => false
section
variable {P : Program} {w : World} {K : PySem.W.Frag} {mg : Str → Option Value} {base : Heap}
/-! ### is_within, is_id -/
def spWithin (K : PySem.W.Frag) : Sp := fun vs H Q _ => ∃ (x : V) (lo hi : Int), vs = [x, .int lo, .int hi] ∧ TyD K H x ∧ Q (.bl (inV2 lo hi x)) H
theorem scWithin : FnScope ["value", "low", "high"] ["value", "low", "high"] (defScope sWithin) := ⟨rfl, rfl, rfl, by decide +kernel, rfl, by decide +kernel, by decide +kernel⟩
theorem ok_within {f fW : Addr} {fd fdW : FuncData} (F : Fun K "is_within" "is_within" sWithin f fd) (T : TxtV mg) (FW : Fun K "is_whole" "is_whole" sWhole fW fdW) (bW : L2.Binds K fdW ["value"] []) (mW : mg "is_whole" = some (.ref fW)) :
    FnOk P w K mg base CX0 2 f fd ["value", "low", "high"] (spWithin K) := by
  have GW : FnOk P w K mg base CX0 1 fW fdW ["value"] (spWhole K) := ok_whole FW T
  refine F.ok scWithin (fun vs H Q E h => ?_) (fun cdv A outer s H vs Q E hr h => ?_)
  · obtain ⟨x, lo, hi, rfl, _⟩ := h
    rfl
  · obtain ⟨x, lo, hi, rfl, ty, k⟩ := h
    refine ⟨_, pss_one (ps_ret (pe_and (pe_call GW hr rfl mW FW.kp bW .nil pass0 (pa_cons (pv 0) pa_nil)) (pe_one (pe_chain op_le op_le (pv 1) (pv 0) (pv 2))))), ?_⟩
    refine ⟨_, rfl, x, rfl, ty, _, rfl, ?_⟩
    obtain ⟨nm, _, hn⟩ := ty
    rcases hn with ⟨rfl, rfl⟩ | ⟨rfl, b, rfl⟩ | ⟨rfl, i, rfl⟩ | ⟨rfl, z, rfl⟩ | ⟨rfl, a, rfl⟩ | ⟨rfl, a, rfl⟩ | ⟨rfl, a, rfl⟩
    · exact iteF k
    · exact iteF k
    · refine iteT ⟨_, rfl, _, rfl, _, _, rfl, rfl, _, rfl, ?_⟩
      have k' : Q (.bl (decide (lo ≤ i) && decide (i ≤ hi))) H := k
      by_cases h1 : lo ≤ i
      · rw [decide_eq_true h1] at k' ⊢
        exact iteT ⟨_, rfl, _, _, rfl, rfl, k'⟩
      · rw [decide_eq_false h1] at k' ⊢
        exact iteF k'
    · exact iteF k
    · exact iteF k
    · exact iteF k
    · exact iteF k
def spIsId (K : PySem.W.Frag) : Sp := fun vs H Q _ => ∃ x : V, vs = [x] ∧ TyD K H x ∧ Q (.bl (inV2 1 1000000 x)) H
theorem scIsId : FnScope ["value"] ["value"] (defScope sIsId) := ⟨rfl, rfl, rfl, by decide +kernel, rfl, by decide +kernel, by decide +kernel⟩
theorem ok_isId {f fI : Addr} {fd fdI : FuncData} (F : Fun K "is_id" "is_id" sIsId f fd) (T : TxtI mg) (GI : FnOk P w K mg base CX0 2 fI fdI ["value", "low", "high"] (spWithin K)) (kI : PySem.W.keepIn K (.ref fI) = true) (bI : L2.Binds K fdI ["value", "low", "high"] []) (mI : mg "is_within" = some (.ref fI)) :
    FnOk P w K mg base CX0 3 f fd ["value"] (spIsId K) := by
  obtain ⟨t, tI⟩ := T.id
  refine F.ok scIsId (fun vs H Q E h => ?_) (fun cdv A outer s H vs Q E hr h => ?_)
  · obtain ⟨x, rfl, _⟩ := h
    rfl
  · obtain ⟨x, rfl, ty, k⟩ := h
    refine ⟨_, pss_one (ps_ret (pe_call GI hr rfl mI kI bI .nil pass0 (pa_cons (pv 0) (pa_cons pe_int (pa_cons (pe_glob (v := .int 1000000) rfl tI ⟨_, rfl⟩) pa_nil))))), ?_⟩
    exact ⟨_, rfl, x, _, _, rfl, ty, k⟩
/-! ### are_fields -/
def spAreFields (K : PySem.W.Frag) : Sp := fun vs H Q _ => ∃ (x : V) (d : PyData) (n : Int), vs = [x, .int n] ∧ DV K H x d ∧ ∀ H', Same H H' → Q (.bl (areFieldsD n d)) H'
theorem scAreFields : FnScope ["value", "width", "field"] ["value", "width"] (defScope sAreFields) := ⟨rfl, rfl, rfl, by decide +kernel, rfl, by decide +kernel, by decide +kernel⟩
theorem ok_areFields {f fI : Addr} {fd fdI : FuncData} (F : Fun K "are_fields" "are_fields" sAreFields f fd) (T : TxtV mg) (TI : TxtI mg) (GI : FnOk P w K mg base CX0 2 fI fdI ["value", "low", "high"] (spWithin K)) (kI : PySem.W.keepIn K (.ref fI) = true) (bI : L2.Binds K fdI ["value", "low", "high"] []) (mI : mg "is_within" = some (.ref fI)) :
    FnOk P w K mg base CX0 3 f fd ["value", "width"] (spAreFields K) := by
  obtain ⟨t1, tF⟩ := TI.field
  obtain ⟨t2, tM⟩ := TI.most
  refine F.ok scAreFields (fun vs H Q E h => ?_) (fun cdv A outer s H vs Q E hr h => ?_)
  · obtain ⟨x, d, n, rfl, _⟩ := h
    rfl
  · obtain ⟨x, d, n, rfl, hd, k⟩ := h
    refine ⟨_, pss_cons (ps_if (PW.pt (pw_or (pt_not (pt_val (pe_callB call_isi (by rfl) T.isi (by decide +kernel) (pa_cons (pv 0) (pa_cons (pe_bltn (v := .ty "tuple") (by rfl) T.tuple boot_tuple rfl) pa_nil)))))
          (pw_or1 (pt_cmpR op_ne (pe_callB call_len_seq (by rfl) T.len PySem.boot_len (pa_cons (pv 0) pa_nil)) (pv 1) (nomark _))))) (pss_one (ps_ret pe_bl)) pss_nil)
      (pss_cons (ps_if (pt_not (pt_chain op_le op_le pe_int (pe_callB call_len_seq (by rfl) T.len PySem.boot_len (pa_cons (pv 0) pa_nil)) (pe_glob (v := .int 4) rfl tM ⟨_, rfl⟩))) (pss_one (ps_ret pe_bl)) pss_nil)
      (pss_one (ps_ret (pe_callB (cr_all rfl) (by rfl) T.all (by decide +kernel) (pa_cons
          (pe_lc (own := [("field", 2)]) (g := gName 2) rfl scAreFields.nd (pi_tup (pv 0)) (blkOk_by (N := ["value", "width", "field"]) (sc := defScope sAreFields) (by decide +kernel)) (fun _ _ _ _ _ => pg_name (i := 2) scAreFields.nd rfl (Or.inl rfl)) (fun _ _ _ _ _ => pts_nil)
            (fun _ _ _ _ _ => pe_call GI hr rfl mI kI bI .nil pass0 (pa_cons (pv 2) (pa_cons (pe_un un_neg (pe_glob (v := .int 1000000000) rfl tF ⟨_, rfl⟩)) (pa_cons (pe_glob (v := .int 1000000000) rfl tF ⟨_, rfl⟩) pa_nil))))) pa_nil))))), ?_⟩
    obtain ⟨nm, ty, k1, k2⟩ := hd.kit
    refine ⟨_, rfl, _, _, _, _, _, rfl, .ty _, ty, k1, _, rfl, ?_⟩
    have no : areFieldsD n d = false → Q (.bl false) H := fun e => by
      have := k H (Same.refl H)
      rw [e] at this
      exact this
    cases hd with
    | tup hT hs =>
      rename_i a vs ds
      have hl := hs.length
      refine iteF ⟨_, rfl, a, _, rfl, .inr hT, _, rfl, rfl, _, rfl, ?_⟩
      by_cases hn : (ds.length : Int) = n
      · have e1 : (!decide (V.int ((vs.length : Nat) : Int) = V.int n)) = false := by
          rw [dInt, hl, decide_eq_true hn]; rfl
        rw [e1]
        refine iteF ⟨_, rfl, a, _, rfl, .inr hT, _, _, rfl, rfl, _, rfl, ?_⟩
        have fin : (1 ≤ ds.length ∧ ds.length ≤ 4) → areFieldsD n (.tuple ds) = ds.all (Hk.inD (-1000000000) 1000000000) := fun h => by
          show (decide ((ds.length : Int) = n) && (decide (1 ≤ ds.length) && decide (ds.length ≤ 4)) && ds.all _) = _
          rw [decide_eq_true hn, decide_eq_true h.1, decide_eq_true h.2]
          rfl
        have no2 : ¬ (1 ≤ ds.length ∧ ds.length ≤ 4) → Q (.bl false) H := fun h => no (by
          show (decide ((ds.length : Int) = n) && (decide (1 ≤ ds.length) && decide (ds.length ≤ 4)) && ds.all _) = _
          by_cases h1 : 1 ≤ ds.length
          · have h2 : ¬ ds.length ≤ 4 := fun q => h ⟨h1, q⟩
            rw [decide_eq_false h2]
            simp
          · rw [decide_eq_false h1]
            simp)
        refine ite2 (fun c1 => ?_) (fun c1 => ?_)
        · have c1' : (1 : Int) ≤ ((vs.length : Nat) : Int) := of_decide_eq_true c1
          refine ⟨_, _, rfl, rfl, _, rfl, ?_⟩
          by_cases c2 : ((vs.length : Nat) : Int) ≤ 4
          · rw [decide_eq_true c2]
            refine iteF ?_
            have h14 : 1 ≤ ds.length ∧ ds.length ≤ 4 := by omega
            refine ⟨_, rfl, a, rfl, ⟨_, hT⟩, fun D hD => ?_⟩
            refine lc_same (ds.map fun e => V.bl (Hk.inD (-1000000000) 1000000000 e)) (by rw [List.length_map, hl]) (by omega) hT hD (fun i x y H' R hx hy s1 kR => ⟨rfl, ?_⟩) fun H' s1 hL => ?_
            · obtain ⟨e, he, hv⟩ := hs.at hx
              rw [List.getElem?_map, he] at hy
              obtain rfl := Option.some.inj hy
              refine ⟨_, rfl, _, rfl, x, _, _, rfl, (hv.same s1).ty, ?_⟩
              rw [hv.inD]
              exact kR H' (Same.refl H')
            · refine ⟨D, ds.map (Hk.inD (-1000000000) 1000000000), rfl, SqL.of (by rw [List.map_map]; exact hL), ?_⟩
              have eall : (ds.map (Hk.inD (-1000000000) 1000000000)).all id = ds.all (Hk.inD (-1000000000) 1000000000) := by rw [List.all_map]; rfl
              rw [eall, ← fin h14]
              exact k H' s1
          · rw [decide_eq_false c2]
            exact iteT (no2 (by omega))
        · have c1' : ¬ (1 : Int) ≤ ((vs.length : Nat) : Int) := fun q => c1 (decide_eq_true q)
          exact ⟨_, rfl, iteT (no2 (by omega))⟩
      · have e1 : (!decide (V.int ((vs.length : Nat) : Int) = V.int n)) = true := by
          rw [dInt, hl, decide_eq_false hn]; rfl
        rw [e1]
        refine iteT (no ?_)
        show (decide ((ds.length : Int) = n) && (decide (1 ≤ ds.length) && decide (ds.length ≤ 4)) && ds.all _) = _
        rw [decide_eq_false hn]
        rfl
    | _ => exact iteT (k H (Same.refl H))
end
section
variable {P : Program} {w : World} {K : PySem.W.Frag} {mg : Str → Option Value} {base : Heap}
/-! ### is_item -/
def spIsItem (K : PySem.W.Frag) : Sp := fun vs H Q _ => ∃ (x : V) (d : PyData) (n : Int), vs = [x, .int n] ∧ DV K H x d ∧ ∀ H', Same H H' → Q (.bl (isItemD n d)) H'
theorem scIsItem : FnScope ["value", "width", "row_id", "fields"] ["value", "width"] (defScope sIsItem) := ⟨rfl, rfl, rfl, by decide +kernel, rfl, by decide +kernel, by decide +kernel⟩
theorem ok_isItem {f fI fA : Addr} {fd fdI fdA : FuncData} (F : Fun K "is_item" "is_item" sIsItem f fd) (T : TxtV mg)
    (GI : FnOk P w K mg base CX0 3 fI fdI ["value"] (spIsId K)) (kI : PySem.W.keepIn K (.ref fI) = true) (bI : L2.Binds K fdI ["value"] []) (mI : mg "is_id" = some (.ref fI))
    (GA : FnOk P w K mg base CX0 3 fA fdA ["value", "width"] (spAreFields K)) (kA : PySem.W.keepIn K (.ref fA) = true) (bA : L2.Binds K fdA ["value", "width"] []) (mA : mg "are_fields" = some (.ref fA)) :
    FnOk P w K mg base CX0 4 f fd ["value", "width"] (spIsItem K) := by
  refine F.ok scIsItem (fun vs H Q E h => ?_) (fun cdv A outer s H vs Q E hr h => ?_)
  · obtain ⟨x, d, n, rfl, _⟩ := h
    rfl
  · obtain ⟨x, d, n, rfl, hd, k⟩ := h
    refine ⟨_, pss_cons (ps_if (PW.pt (pw_or (pt_not (pt_val (pe_callB call_isi (by rfl) T.isi (by decide +kernel) (pa_cons (pv 0) (pa_cons (pe_bltn (v := .ty "tuple") (by rfl) T.tuple boot_tuple rfl) pa_nil)))))
          (pw_or1 (pt_cmpR op_ne (pe_callB call_len_seq (by rfl) T.len PySem.boot_len (pa_cons (pv 0) pa_nil)) pe_int (nomark _))))) (pss_one (ps_ret pe_bl)) pss_nil)
      (pss_cons (ps_asg (pv 0) (pg_tup (by rfl) (pgs_cons (pg_name (i := 2) scIsItem.nd rfl (Or.inl rfl)) (pgs_cons (pg_name (i := 3) scIsItem.nd rfl (Or.inl rfl)) pgs_nil))))
      (pss_one (ps_ret (pe_and (pe_call GI hr rfl mI kI bI .nil pass0 (pa_cons (pv 2) pa_nil)) (pe_one (pe_call GA hr rfl mA kA bA .nil pass0 (pa_cons (pv 3) (pa_cons (pv 1) pa_nil)))))))), ?_⟩
    obtain ⟨nm, ty, k1, k2⟩ := hd.kit
    refine ⟨_, rfl, _, _, _, _, _, rfl, .ty _, ty, k1, _, rfl, ?_⟩
    have no : isItemD n d = false → Q (.bl false) H := fun e => by
      have := k H (Same.refl H)
      rw [e] at this
      exact this
    cases hd with
    | tup hT hs =>
      rename_i a vs ds
      have hl := hs.length
      refine iteF ⟨_, rfl, a, _, rfl, .inr hT, rfl, _, rfl, ?_⟩
      by_cases h2 : ds.length = 2
      · obtain ⟨di, db, rfl⟩ : ∃ di db, ds = [di, db] := match ds, h2 with | [x, y], _ => ⟨x, y, rfl⟩
        cases hs with
        | cons pi t =>
          cases t with
          | cons pb t2 =>
            cases t2
            rename_i vi vb
            have hz : (!decide (V.int (([vi, vb].length : Nat) : Int) = V.int 2)) = false := rfl
            rw [hz]
            refine iteF ⟨_, rfl, a, _, rfl, hT, rfl, vi, [vb], rfl, vb, [], rfl, rfl, ?_⟩
            refine ⟨_, rfl, vi, rfl, pi.ty, _, rfl, ?_⟩
            have kk : ∀ H', Same H H' → Q (.bl (isItem2 n di db)) H' := k
            rw [pi.inD]
            cases hA : inD 1 1000000 di with
            | false =>
              have := kk H (Same.refl H)
              unfold isItem2 at this
              rw [hA] at this
              exact iteF this
            | true =>
              refine iteT ⟨_, rfl, _, rfl, vb, db, n, rfl, pb, fun H' s => ?_⟩
              have := kk H' s
              unfold isItem2 at this
              rw [hA] at this
              exact this
      · have hz : (!decide (V.int ((vs.length : Nat) : Int) = V.int 2)) = true := by
          rw [dInt]
          have : ¬ (((vs.length : Nat) : Int) = 2) := by omega
          simpa using this
        rw [hz]
        refine iteT (no ?_)
        match ds, h2 with
        | [], _ => rfl
        | [_], _ => rfl
        | [_, _], h2 => exact absurd rfl h2
        | _ :: _ :: _ :: _, _ => rfl
    | _ => exact iteT (no rfl)
/-! ### is_rule -/
def spIsRule (K : PySem.W.Frag) : Sp := fun vs H Q _ => ∃ (x : V) (d : PyData) (n : Int), vs = [x, .int n] ∧ DV K H x d ∧ ∀ H', Same H H' → Q (.bl (isRuleD n d)) H'
abbrev NR : List Str := ["value", "width", "columns", "column"]
theorem scIsRule : FnScope NR ["value", "width"] (defScope sIsRule) := ⟨rfl, rfl, rfl, by decide +kernel, rfl, by decide +kernel, by decide +kernel⟩
theorem ok_isRule {f fI fW fD : Addr} {fd fdI fdW fdD : FuncData} (F : Fun K "is_rule" "is_rule" sIsRule f fd) (T : TxtV mg) (TI : TxtI mg) (FW : Fun K "is_whole" "is_whole" sWhole fW fdW) (bW : L2.Binds K fdW ["value"] []) (mW : mg "is_whole" = some (.ref fW))
    (FD : Fun K "all_different" "all_different" sDiff fD fdD) (bD : L2.Binds K fdD ["numbers"] []) (mD : mg "all_different" = some (.ref fD))
    (GI : FnOk P w K mg base CX0 2 fI fdI ["value", "low", "high"] (spWithin K)) (kI : PySem.W.keepIn K (.ref fI) = true) (bI : L2.Binds K fdI ["value", "low", "high"] []) (mI : mg "is_within" = some (.ref fI)) :
    FnOk P w K mg base CX0 3 f fd ["value", "width"] (spIsRule K) := by
  have GW : FnOk P w K mg base CX0 1 fW fdW ["value"] (spWhole K) := ok_whole FW T
  have GD : FnOk P w K mg base CX0 1 fD fdD ["numbers"] (spDiff K) := ok_diff FD T
  obtain ⟨t2, tM⟩ := TI.most
  refine F.ok scIsRule (fun vs H Q E h => ?_) (fun cdv A outer s H vs Q E hr h => ?_)
  · obtain ⟨x, d, n, rfl, _⟩ := h
    rfl
  · obtain ⟨x, d, n, rfl, hd, k⟩ := h
    have hr1 : Room 1 _ := hr.mono (by decide)
    refine ⟨_, pss_cons (ps_if (PW.pt (pw_or (pt_not (pt_val (pe_callB call_isi (by rfl) T.isi (by decide +kernel) (pa_cons (pv 0) (pa_cons (pe_bltn (v := .ty "tuple") (by rfl) T.tuple boot_tuple rfl) pa_nil)))))
          (pw_or1 (pt_cmpR op_gt (pe_callB call_len_seq (by rfl) T.len PySem.boot_len (pa_cons (pv 0) pa_nil)) (pe_glob (v := .int 4) rfl tM ⟨_, rfl⟩) (nomark _))))) (pss_one (ps_ret pe_bl)) pss_nil)
      (pss_cons (ps_if (pt_not (pt_val (pe_callB (cr_all rfl) (by rfl) T.all (by decide +kernel) (pa_cons
          (pe_lc (own := [("column", 3)]) (g := gName 3) rfl scIsRule.nd (pi_tup (pv 0)) (blkOk_by (N := NR) (sc := defScope sIsRule) (by decide +kernel)) (fun _ _ _ _ _ => pg_name (i := 3) scIsRule.nd rfl (Or.inl rfl)) (fun _ _ _ _ _ => pts_nil)
            (fun _ _ _ _ _ => pe_call GW hr1 rfl mW FW.kp bW .nil pass0 (pa_cons (pv 3) pa_nil))) pa_nil)))) (pss_one (ps_ret pe_bl)) pss_nil)
      (pss_cons (ps_setLc (i := 2) (own := [("column", 3)]) (g := gName 3) rfl scIsRule.nd rfl rfl (sw_true rfl rfl rfl (by decide +kernel)) (pi_tup (pv 0)) (blkOk_by (N := NR) (sc := defScope sIsRule) (by decide +kernel)) (fun _ _ _ _ _ => pg_name (i := 3) scIsRule.nd rfl (Or.inl rfl)) (fun _ _ _ _ _ => pts_nil)
            (fun _ _ _ _ _ => pe_callB call_abs (by rfl) TI.abs (by decide +kernel) (pa_cons (pv 3) pa_nil)))
      (pss_one (ps_ret (pe_and (pe_callB (cr_all rfl) (by rfl) T.all (by decide +kernel) (pa_cons
          (pe_lc (own := [("column", 3)]) (g := gName 3) rfl scIsRule.nd (pi_list (pv 2)) (blkOk_by (N := NR) (sc := defScope sIsRule) (by decide +kernel)) (fun _ _ _ _ _ => pg_name (i := 3) scIsRule.nd rfl (Or.inl rfl)) (fun _ _ _ _ _ => pts_nil)
            (fun _ _ _ _ _ => pe_call GI hr rfl mI kI bI .nil pass0 (pa_cons (pv 3) (pa_cons pe_int (pa_cons (pv 1) pa_nil))))) pa_nil)) (pe_one (pe_call GD hr1 rfl mD FD.kp bD .nil pass0 (pa_cons (pv 2) pa_nil)))))))), ?_⟩
    obtain ⟨nm, ty, k1, k2⟩ := hd.kit
    refine ⟨_, rfl, _, _, _, _, _, rfl, .ty _, ty, k1, _, rfl, ?_⟩
    have no : isRuleD n d = false → ∀ H', Same H H' → Q (.bl false) H' := fun e H' s => by
      have := k H' s
      rw [e] at this
      exact this
    cases hd with
    | tup hT hs =>
      rename_i a vs ds
      have hl := hs.length
      have e0 : isRuleD n (.tuple ds) = isRuleL n ds := rfl
      refine iteF ⟨_, rfl, a, _, rfl, .inr hT, _, _, rfl, rfl, _, rfl, ?_⟩
      refine ite2 (fun c => ?_) (fun c => ?_)
      · have c' : (4 : Int) < ((vs.length : Nat) : Int) := of_decide_eq_true c
        refine no ?_ H (Same.refl H)
        rw [e0]
        unfold isRuleL
        have h4 : ¬ ds.length ≤ 4 := by omega
        rw [decide_eq_false h4]
        rfl
      · have c' : ¬ (4 : Int) < ((vs.length : Nat) : Int) := fun q => c (decide_eq_true q)
        have h4 : ds.length ≤ 4 := by omega
        refine ⟨_, rfl, a, rfl, ⟨_, hT⟩, fun D hD => ?_⟩
        refine lc_same (ds.map fun e => V.bl (wholeD e)) (by rw [List.length_map, hl]) (by omega) hT hD (fun i x y H' R hx hy s1 kR => ⟨rfl, ?_⟩) fun H1 s1 hL => ?_
        · obtain ⟨e, he, hv⟩ := hs.at hx
          rw [List.getElem?_map, he] at hy
          obtain rfl := Option.some.inj hy
          refine ⟨_, rfl, x, rfl, (hv.same s1).ty, ?_⟩
          rw [hv.whole]
          exact kR H' (Same.refl H')
        refine ⟨D, ds.map wholeD, rfl, SqL.of (by rw [List.map_map]; exact hL), _, rfl, ?_⟩
        have eall : (ds.map wholeD).all id = ds.all wholeD := by rw [List.all_map]; rfl
        rw [eall]
        cases hA : ds.all wholeD with
        | false =>
          refine iteT (no ?_ H1 s1)
          rw [e0]
          unfold isRuleL
          rw [hA]
          simp
        | true =>
          refine iteF ?_
          have ev := whole_all hs hA
          have e1 : isRuleL n ds = (((ds.map fun d => absI (intOf d)).all fun c => decide (1 ≤ c) && decide (c ≤ n)) && decide (ds.map fun d => absI (intOf d)).Nodup) := by
            unfold isRuleL
            rw [hA, decide_eq_true h4]
            rfl
          -- columns
          refine ⟨_, rfl, a, rfl, ⟨_, Same.tq s1 hT⟩, fun D2 hD2 => ?_⟩
          obtain ⟨cs, hcs⟩ : ∃ cs : List Int, cs = ds.map fun d => absI (intOf d) := ⟨_, rfl⟩
          have hcl : cs.length = ds.length := by rw [hcs, List.length_map]
          rw [← hcs] at e1
          refine lc_same (cs.map V.int) (by rw [List.length_map, hcl, hl]) (by omega) (Same.tq s1 hT) hD2 (fun i x y H' R hx hy s2 kR => ⟨rfl, ?_⟩) fun H2 s2 hL2 => ?_
          · rw [ev, List.getElem?_map, List.getElem?_map] at hx
            rw [hcs, List.getElem?_map, List.getElem?_map] at hy
            cases hq : ds[i]? with
            | none => rw [hq] at hx; cases hx
            | some e =>
              rw [hq] at hx hy
              obtain rfl := Option.some.inj hx
              obtain rfl := Option.some.inj hy
              exact ⟨_, rfl, _, rfl, kR H' (Same.refl H')⟩
          have s3 := s1.trans s2
          -- all and different
          refine ⟨_, rfl, D2, rfl, ⟨_, SqL.of hL2⟩, fun D3 hD3 => ?_⟩
          refine lc_list (K := K) (a := D2) (xs := cs.map V.int) (fun i H' => Same H2 H' ∧ H' D3 = some (.lst (((cs.take i).map fun c => V.bl (decide (1 ≤ c) && decide (c ≤ n)))))) ⟨Same.new hD3, upd_same⟩ (fun i H' _ q => SqL.of (q.1 _ _ hL2)) ?_ ?_
          · rintro i x H' hx ⟨s4, hL4⟩
            rw [List.getElem?_map] at hx
            obtain ⟨c, hc, rfl⟩ : ∃ c, cs[i]? = some c ∧ x = V.int c := by
              cases hq2 : cs[i]? with
              | none => rw [hq2] at hx; cases hx
              | some z => rw [hq2] at hx; exact ⟨z, rfl, (Option.some.inj hx).symm⟩
            have := lt_of_some hc
            refine ⟨rfl, _, rfl, _, rfl, _, _, _, rfl, tyInt K H' c, _, hL4, ?_, ?_, ?_⟩
            · rw [List.length_map, List.length_take, sizeLine_eq]
              omega
            · intro b u hb
              rw [upd_ne (ne_of_none hb hD3)]
              exact s4 b u hb
            · rw [upd_same, take_snoc hc, List.map_append]
              rfl
          · rintro H3 ⟨s4, hL3⟩
            rw [List.length_map, List.take_length] at hL3
            refine ⟨D3, cs.map fun c => decide (1 ≤ c) && decide (c ≤ n), rfl, SqL.of (by rw [List.map_map]; exact hL3), _, rfl, ?_⟩
            have eall2 : (cs.map fun c => decide (1 ≤ c) && decide (c ≤ n)).all id = cs.all fun c => decide (1 ≤ c) && decide (c ≤ n) := by rw [List.all_map]; rfl
            rw [eall2]
            have s5 := s3.trans s4
            cases hB : cs.all fun c => decide (1 ≤ c) && decide (c ≤ n) with
            | false =>
              refine iteF (no ?_ H3 s5)
              rw [e0, e1, hB]
              rfl
            | true =>
              refine iteT ⟨_, rfl, D2, cs, rfl, .inl (SqL.of (s4 _ _ hL2)), by omega, fun H5 s6 => ?_⟩
              have := k H5 (s5.trans s6)
              rw [e0, e1, hB, Bool.true_and] at this
              exact this
    | _ => exact iteT (no rfl H (Same.refl H))
end
theorem inV_bl (bs : List Bool) : inV (.bl false) (bs.map V.bl) = !bs.all id := by
  unfold inV
  rw [List.any_map]
  induction bs with
  | nil => rfl
  | cons a r ih =>
    rw [List.any_cons, ih, List.all_cons]
    cases a <;> rfl
theorem flat_bl (bs : List Bool) : (bs.map V.bl).all flatV = true := by
  induction bs with
  | nil => rfl
  | cons a r ih => exact ih
theorem pow9 : (10 : Int) ^ (9 : Int).toNat = 1000000000 := by decide
theorem areFields_eq {n : Int} (h1 : 1 ≤ n) (h4 : n ≤ 4) (ds : List PyData) : areFieldsD n (.tuple ds) = (decide ((ds.length : Int) = n) && ds.all (inD (-1000000000) 1000000000)) := by
  show (decide ((ds.length : Int) = n) && (decide (1 ≤ ds.length) && decide (ds.length ≤ 4)) && ds.all _) = _
  by_cases hn : (ds.length : Int) = n
  · rw [decide_eq_true hn, decide_eq_true (by omega : 1 ≤ ds.length), decide_eq_true (by omega : ds.length ≤ 4)]
    rfl
  · rw [decide_eq_false hn]
    rfl
section
variable {P : Program} {w : World} {K : PySem.W.Frag} {mg : Str → Option Value} {base : Heap}
/-! ### the law's own numbers -/
theorem scWNum : FnScope ["thing", "least", "most"] ["thing", "least", "most"] (defScope sWholeNum) := ⟨rfl, rfl, rfl, by decide +kernel, rfl, by decide +kernel, by decide +kernel⟩
theorem ok_wnum {f : Addr} {fd : FuncData} (F : Fun K "_law_whole_number" "_law_whole_number" sWholeNum f fd) (T : TxtV mg) : FnOk P w K mg base CX0 1 f fd ["thing", "least", "most"] (spWithin K) := by
  refine F.ok scWNum (fun vs H Q E h => ?_) (fun cdv A outer s H vs Q E hr h => ?_)
  · obtain ⟨x, lo, hi, rfl, _⟩ := h
    rfl
  · obtain ⟨x, lo, hi, rfl, ⟨nm, ty, hn⟩, k⟩ := h
    refine ⟨_, pss_one (ps_ret (pe_and (pe_callB call_isi (by rfl) T.isi (by decide +kernel) (pa_cons (pv 0) (pa_cons (pe_bltn (v := .ty "int") (by rfl) T.int boot_int rfl) pa_nil)))
      (pe_and (pe_not (pe_callB call_isi (by rfl) T.isi (by decide +kernel) (pa_cons (pv 0) (pa_cons (pe_bltn (v := .ty "bool") (by rfl) T.bool boot_bool rfl) pa_nil))))
      (pe_one (pe_chain op_le op_le (pv 1) (pv 0) (pv 2)))))), ?_⟩
    refine ⟨_, rfl, ?_⟩
    rcases hn with ⟨rfl, rfl⟩ | ⟨rfl, b, rfl⟩ | ⟨rfl, i, rfl⟩ | ⟨rfl, z, rfl⟩ | ⟨rfl, a, rfl⟩ | ⟨rfl, a, rfl⟩ | ⟨rfl, a, rfl⟩
    · exact ⟨_, _, _, _, false, rfl, .ty _, ty, kit_ty (by decide +kernel), _, rfl, iteF k⟩
    · exact ⟨_, _, _, _, true, rfl, .ty _, ty, kit_ty (by decide +kernel), _, rfl, iteT ⟨_, rfl, _, _, _, _, true, rfl, .ty _, ty, kit_ty (by decide +kernel), _, rfl, _, rfl, iteF k⟩⟩
    · refine ⟨_, _, _, _, true, rfl, .ty _, ty, kit_ty (by decide +kernel), _, rfl, iteT ⟨_, rfl, _, _, _, _, false, rfl, .ty _, ty, kit_ty (by decide +kernel), _, rfl, _, rfl, iteT ?_⟩⟩
      refine ⟨_, rfl, _, rfl, _, _, rfl, rfl, _, rfl, ?_⟩
      have k' : Q (.bl (decide (lo ≤ i) && decide (i ≤ hi))) H := k
      by_cases h1 : lo ≤ i
      · rw [decide_eq_true h1] at k' ⊢
        exact iteT ⟨_, rfl, _, _, rfl, rfl, k'⟩
      · rw [decide_eq_false h1] at k' ⊢
        exact iteF k'
    · exact ⟨_, _, _, _, false, rfl, .ty _, ty, kit_ty (by decide +kernel), _, rfl, iteF k⟩
    · exact ⟨_, _, _, _, false, rfl, .ty _, ty, kit_ty (by decide +kernel), _, rfl, iteF k⟩
    · exact ⟨_, _, _, _, false, rfl, .ty _, ty, kit_ty (by decide +kernel), _, rfl, iteF k⟩
    · exact ⟨_, _, _, _, false, rfl, .ty _, ty, kit_ty (by decide +kernel), _, rfl, iteF k⟩
/-! ### what an item is -/
def spItemDue (K : PySem.W.Frag) : Sp := fun vs H Q _ => ∃ (x : V) (d : PyData) (n : Int), vs = [x, .int n] ∧ DV K H x d ∧ 1 ≤ n ∧ n ≤ 4 ∧ (∀ a b, d = .tuple [a, .tuple b] → b.length ≤ 1000000) ∧ ∀ H', Same H H' → Q (.bl (isItemD n d)) H'
theorem scItemDue : FnScope ["thing", "wide", "part"] ["thing", "wide"] (defScope sItemDue) := ⟨rfl, rfl, rfl, by decide +kernel, rfl, by decide +kernel, by decide +kernel⟩
theorem ok_itemDue {f fN : Addr} {fd fdN : FuncData} (F : Fun K "_law_item_due" "_law_item_due" sItemDue f fd) (T : TxtV mg)
    (GN : FnOk P w K mg base CX0 1 fN fdN ["thing", "least", "most"] (spWithin K)) (kN : PySem.W.keepIn K (.ref fN) = true) (bN : L2.Binds K fdN ["thing", "least", "most"] []) (mN : mg "_law_whole_number" = some (.ref fN)) :
    FnOk P w K mg base CX0 2 f fd ["thing", "wide"] (spItemDue K) := by
  refine F.ok scItemDue (fun vs H Q E h => ?_) (fun cdv A outer s H vs Q E hr h => ?_)
  · obtain ⟨x, d, n, rfl, _⟩ := h
    rfl
  · obtain ⟨x, d, n, rfl, hd, hn1, hn4, hln, k⟩ := h
    refine ⟨_, pss_cons (ps_if (PW.pt (pw_or (pt_not (pt_val (pe_callB call_isi (by rfl) T.isi (by decide +kernel) (pa_cons (pv 0) (pa_cons (pe_bltn (v := .ty "tuple") (by rfl) T.tuple boot_tuple rfl) pa_nil)))))
          (pw_or (pt_cmpR op_ne (pe_callB call_len_seq (by rfl) T.len PySem.boot_len (pa_cons (pv 0) pa_nil)) pe_int (nomark _))
          (pw_or1 (pt_not (pt_val (pe_call GN hr rfl mN kN bN .nil pass0 (pa_cons (pe_ix ix_tup (pv 0) pe_int (fun _ _ => rfl)) (pa_cons pe_int (pa_cons (pe_op op_pow pe_int pe_int) pa_nil)))))))))) (pss_one (ps_ret pe_bl)) pss_nil)
      (pss_cons (ps_if (PW.pt (pw_or (pt_not (pt_val (pe_callB call_isi (by rfl) T.isi (by decide +kernel) (pa_cons (pe_ix ix_tup (pv 0) pe_int (fun _ _ => rfl)) (pa_cons (pe_bltn (v := .ty "tuple") (by rfl) T.tuple boot_tuple rfl) pa_nil)))))
          (pw_or1 (pt_cmpR op_ne (pe_callB call_len_seq (by rfl) T.len PySem.boot_len (pa_cons (pe_ix ix_tup (pv 0) pe_int (fun _ _ => rfl)) pa_nil)) (pv 1) (nomark _))))) (pss_one (ps_ret pe_bl)) pss_nil)
      (pss_one (ps_ret (pe_cmpR op_notIn_seq pe_bl
          (pe_lc (own := [("part", 2)]) (g := gName 2) rfl scItemDue.nd (pi_tup (pe_ix ix_tup (pv 0) pe_int (fun _ _ => rfl))) (blkOk_by (N := ["thing", "wide", "part"]) (sc := defScope sItemDue) (by decide +kernel)) (fun _ _ _ _ _ => pg_name (i := 2) scItemDue.nd rfl (Or.inl rfl)) (fun _ _ _ _ _ => pts_nil)
            (fun _ _ _ _ _ => pe_call GN hr rfl mN kN bN .nil pass0 (pa_cons (pv 2) (pa_cons (pe_op op_sub pe_int (pe_op op_pow pe_int pe_int)) (pa_cons (pe_op op_pow pe_int pe_int) pa_nil))))) (by rfl))))), ?_⟩
    obtain ⟨nm, ty, k1, k2⟩ := hd.kit
    refine ⟨_, rfl, _, _, _, _, _, rfl, .ty _, ty, k1, _, rfl, ?_⟩
    have no : isItemD n d = false → Q (.bl false) H := fun e => by
      have := k H (Same.refl H)
      rw [e] at this
      exact this
    cases hd with
    | tup hT hs =>
      rename_i a vs ds
      have hl := hs.length
      refine iteF ⟨_, rfl, a, _, rfl, .inr hT, rfl, _, rfl, ?_⟩
      by_cases h2 : ds.length = 2
      · obtain ⟨di, db, rfl⟩ : ∃ di db, ds = [di, db] := match ds, h2 with | [x, y], _ => ⟨x, y, rfl⟩
        cases hs with
        | cons pi t =>
          cases t with
          | cons pb t2 =>
            cases t2
            rename_i vi vb
            have hz : (!decide (V.int (([vi, vb].length : Nat) : Int) = V.int 2)) = false := rfl
            rw [hz]
            have at0 : atI [vi, vb] 0 = some vi := at_of (j := 0) rfl rfl
            have at1 : atI [vi, vb] 1 = some vb := at_of (j := 1) rfl rfl
            have kk : ∀ H', Same H H' → Q (.bl (isItem2 n di db)) H' := k
            refine iteF ⟨_, rfl, a, _, _, _, rfl, rfl, hT, at0, _, _, rfl, rfl, ⟨by decide, by decide, by decide⟩, vi, _, _, rfl, pi.ty, _, rfl, ?_⟩
            rw [pi.inD, pow6]
            cases hA : inD 1 1000000 di with
            | false =>
              have := kk H (Same.refl H)
              unfold isItem2 at this
              rw [hA] at this
              exact iteT this
            | true =>
              refine iteF ?_
              have e2 : isItem2 n di db = areFieldsD n db := by unfold isItem2; rw [hA]; rfl
              rw [e2] at kk
              obtain ⟨nm2, ty2, q1, q2⟩ := pb.kit
              refine ⟨_, rfl, a, _, _, _, rfl, rfl, hT, at1, _, _, _, _, _, rfl, .ty _, ty2, q1, _, rfl, ?_⟩
              cases pb with
              | tup hT2 hs2 =>
                rename_i a2 vs2 ds2
                have hl2 := hs2.length
                refine iteF ⟨_, rfl, a, _, _, _, rfl, rfl, hT, at1, a2, _, rfl, .inr hT2, _, rfl, rfl, _, rfl, ?_⟩
                rw [areFields_eq hn1 hn4] at kk
                by_cases hn : (ds2.length : Int) = n
                · have e1 : (!decide (V.int ((vs2.length : Nat) : Int) = V.int n)) = false := by
                    rw [dInt, hl2, decide_eq_true hn]; rfl
                  rw [e1]
                  rw [decide_eq_true hn] at kk
                  refine iteF ⟨_, rfl, a, _, _, _, rfl, rfl, hT, at1, a2, rfl, ⟨_, hT2⟩, fun D hD => ?_⟩
                  refine lc_same (ds2.map fun e => V.bl (Hk.inD (-1000000000) 1000000000 e)) (by rw [List.length_map, hl2]) (by have := hln _ _ rfl; omega) hT2 hD (fun i x y H' R hx hy s1 kR => ⟨rfl, ?_⟩) fun H' s1 hL => ?_
                  · obtain ⟨e, he, hv⟩ := hs2.at hx
                    rw [List.getElem?_map, he] at hy
                    obtain rfl := Option.some.inj hy
                    refine ⟨_, rfl, _, _, rfl, rfl, ⟨by decide, by decide, by decide⟩, _, _, rfl, rfl, _, _, rfl, rfl, ⟨by decide, by decide, by decide⟩, x, _, _, rfl, (hv.same s1).ty, ?_⟩
                    rw [hv.inD, pow9]
                    exact kR H' (Same.refl H')
                  · refine ⟨D, (ds2.map (Hk.inD (-1000000000) 1000000000)).map V.bl, rfl, .inl (SqL.of (by rw [List.map_map]; exact hL)), rfl, flat_bl _, ?_⟩
                    rw [inV_bl]
                    have eall : (ds2.map (Hk.inD (-1000000000) 1000000000)).all id = ds2.all (Hk.inD (-1000000000) 1000000000) := by rw [List.all_map]; rfl
                    rw [eall]
                    have := kk H' s1
                    rw [Bool.true_and] at this
                    show Q (.bl (!!ds2.all (Hk.inD (-1000000000) 1000000000))) H'
                    rw [Bool.not_not]
                    exact this
                · have e1 : (!decide (V.int ((vs2.length : Nat) : Int) = V.int n)) = true := by
                    rw [dInt, hl2, decide_eq_false hn]; rfl
                  rw [e1]
                  have := kk H (Same.refl H)
                  rw [decide_eq_false hn] at this
                  exact iteT this
              | _ => exact iteT (kk H (Same.refl H))
      · have hz : (!decide (V.int ((vs.length : Nat) : Int) = V.int 2)) = true := by
          rw [dInt]
          have : ¬ (((vs.length : Nat) : Int) = 2) := by omega
          simpa using this
        rw [hz]
        refine iteT (no ?_)
        match ds, h2 with
        | [], _ => rfl
        | [_], _ => rfl
        | [_, _], h2 => exact absurd rfl h2
        | _ :: _ :: _ :: _, _ => rfl
    | _ => exact iteT (no rfl)
end
/-- no more different numbers from 1 to n than n -/
theorem few_cols {cs : List Int} {n : Nat} (hn : cs.Nodup) (h : ∀ c ∈ cs, 1 ≤ c ∧ c ≤ (n : Int)) : cs.length ≤ n := by
  have := len_le_of_sub cs ((List.range n).map fun (i : Nat) => ((i : Int) + 1)) hn fun c hc => by
    have := h c hc
    refine List.mem_map.mpr ⟨(c - 1).toNat, List.mem_range.mpr (by omega), by omega⟩
  rw [List.length_map, List.length_range] at this
  exact this
def colOf (d : PyData) : Int := absI (intOf d)
/-- a column is right behind others -/
def colOk (n : Int) (before : List Int) (d : PyData) : Bool := inD (0 - n) n d && !decide (intOf d = 0) && !decide (colOf d ∈ before)
theorem isRuleL_iff {n : Int} (h1 : 1 ≤ n) (h4 : n ≤ 4) (ds : List PyData) : isRuleL n ds = true ↔ (∀ d ∈ ds, inD (0 - n) n d = true ∧ intOf d ≠ 0) ∧ (ds.map colOf).Nodup := by
  unfold isRuleL
  simp only [Bool.and_eq_true, decide_eq_true_eq, List.all_eq_true]
  have hm : (ds.map fun d => absI (intOf d)) = ds.map colOf := rfl
  rw [hm]
  constructor
  · rintro ⟨⟨⟨h2, h3⟩, h5⟩, h6⟩
    refine ⟨fun d hd => ?_, h6⟩
    have a := h3 d hd
    have b := h5 (colOf d) (List.mem_map.mpr ⟨d, hd, rfl⟩)
    cases d <;> first | cases a | skip
    rename_i i
    unfold colOf intOf absI at b
    have b1 := b.1
    have b2 := b.2
    constructor
    · show (decide (0 - n ≤ i) && decide (i ≤ n)) = true
      simp only at b1 b2
      rw [Bool.and_eq_true]
      split at b1 <;> exact ⟨decide_eq_true (by first | omega | (simp_all; omega)), decide_eq_true (by first | omega | (simp_all; omega))⟩
    · show i ≠ 0
      simp only at b1
      intro q
      subst q
      exact absurd b1 (by decide)
  · rintro ⟨h2, h3⟩
    have hc : ∀ c ∈ ds.map colOf, 1 ≤ c ∧ c ≤ n := by
      intro c hc
      obtain ⟨d, hd, rfl⟩ := List.mem_map.mp hc
      obtain ⟨a, b⟩ := h2 d hd
      cases d <;> first | cases a | skip
      rename_i i
      have a' : (decide (0 - n ≤ i) && decide (i ≤ n)) = true := a
      rw [Bool.and_eq_true] at a'
      have a1 := of_decide_eq_true a'.1
      have a2 := of_decide_eq_true a'.2
      have b' : i ≠ 0 := b
      show 1 ≤ absI i ∧ absI i ≤ n
      unfold absI
      split <;> omega
    have hlen := few_cols (n := n.toNat) h3 fun c h => by have := hc c h; omega
    rw [List.length_map] at hlen
    refine ⟨⟨⟨by omega, fun d hd => ?_⟩, fun c h => ?_⟩, h3⟩
    · obtain ⟨a, _⟩ := h2 d hd
      cases d <;> first | cases a | rfl
    · have := hc c h
      exact ⟨this.1, this.2⟩
section
variable {P : Program} {w : World} {K : PySem.W.Frag} {mg : Str → Option Value} {base : Heap}
/-! ### what a rule is -/
def spRuleDue (K : PySem.W.Frag) : Sp := fun vs H Q _ => ∃ (x : V) (d : PyData) (n : Int), vs = [x, .int n] ∧ DV K H x d ∧ 1 ≤ n ∧ n ≤ 4 ∧ ∀ H', Same H H' → Q (.bl (isRuleD n d)) H'
theorem scRuleDue : FnScope ["thing", "wide", "columns", "part"] ["thing", "wide"] (defScope sRuleDue) := ⟨rfl, rfl, rfl, by decide +kernel, rfl, by decide +kernel, by decide +kernel⟩
theorem ok_ruleDue {f fN : Addr} {fd fdN : FuncData} (F : Fun K "_law_rule_due" "_law_rule_due" sRuleDue f fd) (T : TxtV mg) (TI : mg "abs" = none)
    (GN : FnOk P w K mg base CX0 1 fN fdN ["thing", "least", "most"] (spWithin K)) (kN : PySem.W.keepIn K (.ref fN) = true) (bN : L2.Binds K fdN ["thing", "least", "most"] []) (mN : mg "_law_whole_number" = some (.ref fN)) :
    FnOk P w K mg base CX0 2 f fd ["thing", "wide"] (spRuleDue K) := by
  refine F.ok scRuleDue (fun vs H Q E h => ?_) (fun cdv A outer s H vs Q E hr h => ?_)
  · obtain ⟨x, d, n, rfl, _⟩ := h
    rfl
  · obtain ⟨x, d, n, rfl, hd, hn1, hn4, k⟩ := h
    refine ⟨_, pss_cons (ps_if (PW.pt (pw_or (pt_not (pt_val (pe_callB call_isi (by rfl) T.isi (by decide +kernel) (pa_cons (pv 0) (pa_cons (pe_bltn (v := .ty "tuple") (by rfl) T.tuple boot_tuple rfl) pa_nil)))))
          (pw_or1 (pt_cmpR op_gt (pe_callB call_len_seq (by rfl) T.len PySem.boot_len (pa_cons (pv 0) pa_nil)) (pv 1) (nomark _))))) (pss_one (ps_ret pe_bl)) pss_nil)
      (pss_cons (ps_set (i := 2) scRuleDue.nd rfl (Or.inl rfl) (pe_lst pa_nil))
      (pss_cons (ps_for PassesOwn.never rfl (pi_tup (pv 0)) (pg_name (i := 3) scRuleDue.nd rfl (Or.inl rfl))
        (pss_cons (ps_if (PW.pt (pw_or (pt_not (pt_val (pe_call GN hr rfl mN kN bN .nil pass0 (pa_cons (pv 3) (pa_cons (pe_op op_sub pe_int (pv 1)) (pa_cons (pv 1) pa_nil))))))
            (pw_or (pt_cmpR op_eq (pv 3) pe_int (nomark _)) (pw_or1 (pt_cmpR op_in_seq (pe_callB call_abs (by rfl) TI (by decide +kernel) (pa_cons (pv 3) pa_nil)) (pv 2) (by rfl)))))) (pss_one (ps_ret pe_bl)) pss_nil)
        (pss_one (ps_expr (pe_bm PySem.F.plainAttrs_list PySem.F.slot_list_append PySem.F.type_list_append mt_append (pv 2) (pa_cons (pe_callB call_abs (by rfl) TI (by decide +kernel) (pa_cons (pv 3) pa_nil)) pa_nil))))))
      (pss_one (ps_ret pe_bl)))), ?_⟩
    obtain ⟨nm, ty, k1, k2⟩ := hd.kit
    refine ⟨_, rfl, _, _, _, _, _, rfl, .ty _, ty, k1, _, rfl, ?_⟩
    cases hd with
    | tup hT hs =>
      rename_i a vs ds
      have hl := hs.length
      have e0 : isRuleD n (.tuple ds) = isRuleL n ds := rfl
      rw [e0] at k
      have iff := isRuleL_iff hn1 hn4 ds
      have no : ¬ ((∀ d ∈ ds, inD (0 - n) n d = true ∧ intOf d ≠ 0) ∧ (ds.map colOf).Nodup) → ∀ H', Same H H' → Q (.bl false) H' := fun e H' s => by
        have := k H' s
        cases hb : isRuleL n ds with
        | true => exact absurd (iff.mp hb) e
        | false => rw [hb] at this; exact this
      refine iteF ⟨_, rfl, a, _, rfl, .inr hT, _, rfl, _, _, rfl, rfl, _, rfl, ?_⟩
      refine ite2 (fun c => ?_) (fun c => ?_)
      · have c' : n < ((vs.length : Nat) : Int) := of_decide_eq_true c
        refine no ?_ H (Same.refl H)
        intro ok
        have hb := iff.mpr ok
        have hc : ∀ c ∈ ds.map colOf, 1 ≤ c ∧ c ≤ n := by
          unfold isRuleL at hb
          simp only [Bool.and_eq_true, decide_eq_true_eq, List.all_eq_true] at hb
          exact fun c h => hb.1.2 c h
        have hlen := few_cols (n := n.toNat) ok.2 fun c h => by have := hc c h; omega
        rw [List.length_map] at hlen
        omega
      · have c' : ¬ n < ((vs.length : Nat) : Int) := fun q => c (decide_eq_true q)
        have h4 : ds.length ≤ 4 := by omega
        refine ⟨Nat.zero_le _, fun l hl0 => ?_⟩
        refine ⟨_, rfl, a, rfl, ⟨_, Same.tq (Same.new hl0) hT⟩, for_tup (K := K) (a := a) (xs := vs) (fun i σ H' => ∃ v3 : Option V, σ = [some (.ref a), some (.int n), some (.ref l), v3] ∧ Same H H' ∧ H' l = some (.lst (((ds.take i).map colOf).map V.int)) ∧
            (∀ d ∈ ds.take i, inD (0 - n) n d = true ∧ intOf d ≠ 0) ∧ ((ds.take i).map colOf).Nodup)
          ⟨none, rfl, Same.new hl0, upd_same, (fun d h => by cases h), List.nodup_nil⟩ (fun i σ H' _ ⟨_, _, s1, _⟩ => Same.tq s1 hT) ?_ ?_⟩
        · rintro i x σ H' hx ⟨v3, rfl, s1, hL, hall, hnd⟩
          obtain ⟨e, he, hv⟩ := hs.at hx
          have hmem : e ∈ ds := List.mem_of_getElem? he
          have hts := take_snoc he
          refine ⟨_, rfl, _, rfl, _, _, rfl, rfl, _, rfl, x, _, _, rfl, (hv.same s1).ty, _, rfl, ?_⟩
          rw [hv.inD]
          cases hA : inD (0 - n) n e with
          | false =>
            refine iteT (no (fun ok => ?_) H' s1)
            have := (ok.1 e hmem).1
            rw [hA] at this
            cases this
          | true =>
            obtain ⟨z, rfl⟩ : ∃ z, e = .int z := by cases e <;> first | exact ⟨_, rfl⟩ | cases hA
            cases hv
            refine iteF ⟨_, rfl, rfl, _, rfl, ?_⟩
            rw [dInt]
            refine ite2 (fun c => ?_) (fun c => ?_)
            · have hz : z = 0 := of_decide_eq_true c
              exact no (fun ok => (ok.1 _ hmem).2 hz) H' s1
            · have hz : ¬ z = 0 := fun q => c (decide_eq_true q)
              refine ⟨_, rfl, z, rfl, ?_⟩
              refine ⟨_, rfl, l, _, rfl, .inl (SqL.of hL), rfl, all_flat _, _, rfl, ?_⟩
              rw [inV_int]
              refine ite2 (fun c2 => ?_) (fun c2 => ?_)
              · have hin : absI z ∈ (ds.take i).map colOf := of_decide_eq_true c2
                refine no (fun ok => ?_) H' s1
                have hnd2 : ((ds.take (i + 1)).map colOf).Nodup := List.Nodup.sublist ((List.take_sublist _ _).map _) ok.2
                rw [hts, List.map_append] at hnd2
                exact (List.nodup_append.mp hnd2).2.2 _ hin _ List.mem_cons_self rfl
              · have hin : ¬ absI z ∈ (ds.take i).map colOf := fun q => c2 (decide_eq_true q)
                refine ⟨_, rfl, .inl ⟨rfl, _, SqL.of hL⟩, _, rfl, z, rfl, ?_⟩
                refine ⟨l, _, _, rfl, rfl, hL, by rw [List.length_map, List.length_map, List.length_take]; exact small1000 (by omega), ?_⟩
                refine ⟨_, rfl, fun b u hb => by rw [upd_ne (ne_of_none hb hl0)]; exact s1 b u hb, ?_, fun d hd => ?_, ?_⟩
                · rw [upd_same, hts, List.map_append, List.map_append]; rfl
                · rw [hts] at hd
                  rcases List.mem_append.mp hd with h | h
                  · exact hall d h
                  · have : d = .int z := by simpa using h
                    rw [this]
                    exact ⟨hA, hz⟩
                · rw [hts, List.map_append]
                  refine List.nodup_append.mpr ⟨hnd, by simp, ?_⟩
                  intro p hp q hq e
                  have : q = absI z := by simpa [colOf, intOf] using hq
                  rw [e, this] at hp
                  exact hin hp
        · rintro σ H' ⟨v3, rfl, s1, hL, hall, hnd⟩
          rw [hl, List.take_length] at hall hnd
          have := k H' s1
          rw [iff.mpr ⟨hall, hnd⟩] at this
          exact this
    | _ => exact iteT (k H (Same.refl H))
end
theorem But.tq {d a : Addr} {H H' : Hp} {K : PySem.W.Frag} {xs : List V} (D : DeckAt H d) (s : But d H H') (h : SqT K H a xs) : SqT K H' a xs := by
  obtain ⟨x, y, hd, _⟩ := D
  rcases h with (h | ⟨o, h⟩) | h
  · exact .inl (.inl (s _ _ (ne_of h hd (by intro z; cases z)) h))
  · exact .inl (.inr ⟨o, s _ _ (ne_of h hd (by intro z; cases z)) h⟩)
  · exact .inr h
mutual
/-- data is no deck -/
theorem DV.but {K : PySem.W.Frag} {d : Addr} {H H' : Hp} (D : DeckAt H d) (e : But d H H') : ∀ {x : PyData} {v : V}, DV K H v x → DV K H' v x
  | _, _, .non => .non
  | _, _, .bl b => .bl b
  | _, _, .int i => .int i
  | _, _, .str x => .str x
  | _, _, .lst h t => .lst (e.seq D h) (DVs.but D e t)
  | _, _, .tup h t => .tup (e.tq D h) (DVs.but D e t)
  | _, _, .dk0 h => .dk0 (e _ _ (by
      obtain ⟨x, y, hd, _⟩ := D
      exact ne_of h hd (by intro z; cases z)) h)
theorem DVs.but {K : PySem.W.Frag} {d : Addr} {H H' : Hp} (D : DeckAt H d) (e : But d H H') : ∀ {ds : List PyData} {vs : List V}, DVs K H vs ds → DVs K H' vs ds
  | _, _, .nil => .nil
  | _, _, .cons p t => .cons (DV.but D e p) (DVs.but D e t)
end
def fineB (x : PyData) : Bool := okD x && (decide (szD x ≤ 1000) && decide (x.depth ≤ 2))
section
variable {P : Program} {w : World} {K : PySem.W.Frag} {mg : Str → Option Value} {base : Heap}
def spAny (K : PySem.W.Frag) : Sp := fun vs H Q _ => ∃ d : Addr, vs = [.ref d] ∧ DeckAt H d ∧ ∀ (v : V) (x : PyData) (H' : Hp), DV K H' v x → okD x = true → szD x ≤ 1000 → x.depth ≤ 2 → DeckAt H' d → But d H H' → Q v H'
theorem scAny : FnScope ["deck", "some"] ["deck"] (defScope sAny) := ⟨rfl, rfl, rfl, by decide +kernel, rfl, by decide +kernel, by decide +kernel⟩
theorem ok_any {f fC : Addr} {fd fdC : FuncData} (F : Fun K "_law_any" "_law_any" sAny f fd) (GC : FnOk P w K mg base CX0 2 fC fdC ["deck", "things"] (spChoose K)) (kC : PySem.W.keepIn K (.ref fC) = true) (bC : L2.Binds K fdC ["deck", "things"] []) (mC : mg "_law_choose" = some (.ref fC)) :
    FnOk P w K mg base CX0 3 f fd ["deck"] (spAny K) := by
  refine F.ok scAny (fun vs H Q E h => ?_) (fun cdv A outer s H vs Q E hr h => ?_)
  · obtain ⟨d, rfl, _⟩ := h
    rfl
  · obtain ⟨d, rfl, D, k⟩ := h
    refine ⟨_, pss_cons (ps_set (i := 1) scAny.nd rfl (Or.inl rfl) (pe_lst (pa_cons pe_non (pa_cons pe_bl (pa_cons pe_bl (pa_cons pe_int (pa_cons pe_int (pa_cons pe_int (pa_cons pe_int (pa_cons pe_int (pa_cons (pe_un un_neg pe_int) (pa_cons (pe_un un_neg pe_int) (pa_cons (pe_un un_neg pe_int)
          (pa_cons (pe_op op_pow pe_int pe_int) (pa_cons (pe_op op_add (pe_op op_pow pe_int pe_int) pe_int) (pa_cons (pe_op op_pow pe_int pe_int) (pa_cons (pe_op op_add (pe_op op_pow pe_int pe_int) pe_int) (pa_cons (pe_op op_sub (pe_op op_sub pe_int (pe_op op_pow pe_int pe_int)) pe_int) pa_nil))))))))))))))))))
      (pss_one (ps_ret (pe_call GC hr rfl mC kC bC .nil pass0 (pa_cons (pv 0) (pa_cons (pe_op op_cat (pv 1) (pe_lst (pa_cons pe_str (pa_cons pe_str (pa_cons (pe_tup pa_nil) (pa_cons (pe_tup (pa_cons pe_int pa_nil)) (pa_cons (pe_tup (pa_cons pe_int (pa_cons (pe_un un_neg pe_int) pa_nil)))
          (pa_cons (pe_lst (pa_cons pe_int pa_nil)) (pa_cons pe_dnewK (pa_cons (pe_lst pa_nil) (pa_cons (pe_tup (pa_cons pe_int (pa_cons (pe_tup (pa_cons pe_int pa_nil)) pa_nil))) (pa_cons (pe_op op_powG pe_int pe_int) pa_nil)))))))))))) pa_nil))))), ?_⟩
    have cp6 : CPow 10 6 := ⟨by decide, by decide, by decide⟩
    have cp9 : CPow 10 9 := ⟨by decide, by decide, by decide⟩
    have cpG : CPowG 10 59 := ⟨by decide, by decide⟩
    have z16 : ∀ {n : Nat}, n ≤ 100 → n ≤ sizeLine := fun h => by rw [sizeLine_eq]; omega
    refine ⟨_, rfl, _, rfl, _, rfl, ⟨_, _, rfl, rfl, cp6, ⟨_, _, rfl, rfl, cp6, ?_⟩⟩⟩
    refine ⟨_, _, rfl, rfl, ⟨_, _, rfl, rfl, cp9, ⟨_, _, rfl, rfl, cp9, ?_⟩⟩⟩
    refine ⟨_, _, rfl, rfl, ⟨_, _, rfl, rfl, cp9, ⟨_, _, rfl, rfl, ⟨_, _, rfl, rfl, ?_⟩⟩⟩⟩
    refine ⟨z16 (by show 16 ≤ 100; decide), fun p hp => ?_⟩
    have s1 := Same.new (o := .lst [V.non, .bl true, .bl false, .int 0, .int 1, .int 2, .int 4, .int 5, .int (-1), .int (-4), .int (-5), .int (10 ^ (6 : Int).toNat), .int (10 ^ (6 : Int).toNat + 1), .int (10 ^ (9 : Int).toNat), .int (10 ^ (9 : Int).toNat + 1), .int (0 - 10 ^ (9 : Int).toNat - 1)]) hp
    refine ⟨_, rfl, ⟨_, rfl, ⟨z16 (by show 0 ≤ 100; decide), fun q1 h1 => ?_⟩⟩⟩
    refine ⟨z16 (by show 1 ≤ 100; decide), fun q2 h2 => ?_⟩
    refine ⟨_, rfl, ⟨z16 (by show 2 ≤ 100; decide), fun q3 h3 => ?_⟩⟩
    refine ⟨z16 (by show 1 ≤ 100; decide), fun q4 h4 => ?_⟩
    intro q5 h5
    refine ⟨z16 (by show 0 ≤ 100; decide), fun q6 h6 => ?_⟩
    refine ⟨z16 (by show 1 ≤ 100; decide), fun q7 h7 => ?_⟩
    refine ⟨z16 (by show 2 ≤ 100; decide), fun q8 h8 => ?_⟩
    refine ⟨_, _, rfl, rfl, cpG, ⟨z16 (by show 10 ≤ 100; decide), fun q9 h9 => ?_⟩⟩
    have t1 := Same.new (o := .tup []) h1
    have t2 := Same.new (o := .tup [.int 1]) h2
    have t3 := Same.new (o := .tup [.int 1, .int (-1)]) h3
    have t4 := Same.new (o := .lst [.int 1]) h4
    have t5 := Same.new (o := .dK []) h5
    have t6 := Same.new (o := .lst []) h6
    have t7 := Same.new (o := .tup [.int 1]) h7
    have t8 := Same.new (o := .tup [.int 5, .ref q7]) h8
    have t9 := Same.new (o := .lst [.str "", .str "1", .ref q1, .ref q2, .ref q3, .ref q4, .ref q5, .ref q6, .ref q8, .int (10 ^ (59 : Int).toNat)]) h9
    have w8 := t8.trans t9
    have w7 := t7.trans w8
    have w6 := t6.trans w7
    have w5 := t5.trans w6
    have w4 := t4.trans w5
    have w3 := t3.trans w4
    have w2 := t2.trans w3
    have w1 := t1.trans w2
    refine ⟨p, q9, _, _, rfl, rfl, w1 _ _ upd_same, upd_same, z16 (by show 26 ≤ 100; decide), fun q h => ?_⟩
    have t := Same.new (o := .lst ([V.non, .bl true, .bl false, .int 0, .int 1, .int 2, .int 4, .int 5, .int (-1), .int (-4), .int (-5), .int (10 ^ (6 : Int).toNat), .int (10 ^ (6 : Int).toNat + 1), .int (10 ^ (9 : Int).toNat), .int (10 ^ (9 : Int).toNat + 1), .int (0 - 10 ^ (9 : Int).toNat - 1)] ++
      [.str "", .str "1", .ref q1, .ref q2, .ref q3, .ref q4, .ref q5, .ref q6, .ref q8, .int (10 ^ (59 : Int).toNat)])) h
    have D' := D.same ((s1.trans w1).trans t)
    refine ⟨d, q, _, rfl, D', SqL.of upd_same, (by intro z; cases z), (by show 26 < 1000000; decide), fun v H' hv D2 B2 => ?_⟩
    obtain ⟨ds, hds, hf⟩ : ∃ ds, DVs K _ ([V.non, .bl true, .bl false, .int 0, .int 1, .int 2, .int 4, .int 5, .int (-1), .int (-4), .int (-5), .int (10 ^ (6 : Int).toNat), .int (10 ^ (6 : Int).toNat + 1), .int (10 ^ (9 : Int).toNat), .int (10 ^ (9 : Int).toNat + 1), .int (0 - 10 ^ (9 : Int).toNat - 1)] ++
      [.str "", .str "1", .ref q1, .ref q2, .ref q3, .ref q4, .ref q5, .ref q6, .ref q8, .int (10 ^ (59 : Int).toNat)]) ds ∧ ds.all fineB = true := ⟨_, .cons .non (.cons (.bl true) (.cons (.bl false) (.cons (.int _) (.cons (.int _) (.cons (.int _) (.cons (.int _) (.cons (.int _) (.cons (.int _) (.cons (.int _) (.cons (.int _) (.cons (.int _) (.cons (.int _) (.cons (.int _) (.cons (.int _) (.cons (.int _)
      (.cons (.str "") (.cons (.str "1") (.cons (.tup (SqT.of (t _ _ (w2 _ _ (upd_same (H := _) (a := q1))))) .nil) (.cons (.tup (SqT.of (t _ _ (w3 _ _ upd_same))) (.cons (.int 1) .nil)) (.cons (.tup (SqT.of (t _ _ (w4 _ _ upd_same))) (.cons (.int 1) (.cons (.int (-1)) .nil)))
      (.cons (.lst (SqL.of (t _ _ (w5 _ _ upd_same))) (.cons (.int 1) .nil)) (.cons (.dk0 (t _ _ (w6 _ _ upd_same))) (.cons (.lst (SqL.of (t _ _ (w7 _ _ upd_same))) .nil) (.cons (.tup (SqT.of (t _ _ (t9 _ _ upd_same))) (.cons (.int 5) (.cons (.tup (SqT.of (t _ _ (w8 _ _ upd_same))) (.cons (.int 1) .nil)) .nil)))
      (.cons (.int _) .nil))))))))))))))))))))))))), by decide +kernel⟩
    obtain ⟨j, hj⟩ := List.getElem?_of_mem hv
    obtain ⟨x, hx, hvx⟩ := hds.at hj
    have hfx := List.all_eq_true.mp hf x (List.mem_of_getElem? hx)
    unfold fineB at hfx
    rw [Bool.and_eq_true, Bool.and_eq_true] at hfx
    exact k v x H' (hvx.but D' B2) hfx.1 (of_decide_eq_true hfx.2.1) (of_decide_eq_true hfx.2.2) D2 (But.trans (But.of ((s1.trans w1).trans t)) B2)
end
/-! ### tuples of any data: ==, +, slices -/
def rEqT0 (K : PySem.W.Frag) : R2 := fun x y H Q => ∃ a b xs, x = .ref a ∧ y = .ref b ∧ SqT K H a xs ∧ SqT K H b [] ∧ Q (.bl xs.isEmpty) H
def rCatU (K : PySem.W.Frag) : R2 := fun x y H Q => ∃ a b xs ys, x = .ref a ∧ y = .ref b ∧ SqT K H a xs ∧ SqT K H b ys ∧ xs.length + ys.length ≤ sizeLine ∧ ∀ p H', Same H H' → SqT K H' p (xs ++ ys) → Q (.ref p) H'
def rSlU (K : PySem.W.Frag) : V → Option Int → Option Int → Hp → VK → Prop := fun x lo hi H Q => ∃ a xs, x = .ref a ∧ SqT K H a xs ∧ ∀ p H', Same H H' → SqT K H' p (cutV xs lo hi) → Q (.ref p) H'
section
variable {X : Cx}
theorem op_eqT0 (hu : X.A.units < cLine) : OpR X (compareOp .Eq) (rEqT0 X.K) := by
  intro pins s σ H x y v u Q I rx ry h
  obtain ⟨a, b, xs, rfl, rfl, ha, hb, q⟩ := h
  cases rx
  cases ry
  obtain ⟨its, r1, p1, _⟩ := I.tuple ha
  obtain ⟨its2, r2, p2, _⟩ := I.tuple hb
  cases r2
  refine SeqAt.eq_tupleAt (e := fun _ => true) p1 p2 hu (fun j h1 h2 => absurd h2 (Nat.not_lt_zero j)) ⟨.bl xs.isEmpty, H, I, ?_, q⟩
  have hl := r1.length
  show Value.bool _ = Value.bool _
  congr 1
  have e : min its.toArray.size ([] : List Value).toArray.size = 0 := Nat.min_zero _
  rw [e]
  cases xs with
  | nil => cases r1; rfl
  | cons y l => cases r1; rfl
theorem op_catU : OpR X (binaryOp .Add) (rCatU X.K) := by
  intro pins s σ H x y v u Q I rx ry h
  obtain ⟨a, b, xs, ys, rfl, rfl, ha, hb, hz, q⟩ := h
  refine op_catA pins s σ H _ _ v u Q I rx ry ⟨a, b, xs, ys, rfl, rfl, ha, hb, hz, fun e => ?_, fun _ e => ?_, fun _ _ p hp => ?_⟩
  · subst e
    exact q b H (Same.refl H) hb
  · subst e
    exact q a H (Same.refl H) (by rw [List.append_nil]; exact ha)
  · exact q p _ (Same.new hp) (SqT.of upd_same)
theorem sl_tupU : SlR X (rSlU X.K) := by
  intro pins s σ H x v vl vu lo hi sl Q I rx hs pl pu h
  obtain ⟨a, xs, rfl, hx, q⟩ := h
  refine sl_tupA pins s σ H _ v vl vu lo hi sl Q I rx hs pl pu ⟨a, xs, rfl, hx, fun e => ?_, fun _ p hp => ?_⟩
  · refine q a H (Same.refl H) ?_
    unfold cutV
    rw [e.1, e.2, List.drop_zero, Nat.sub_zero, List.take_length]
    exact hx
  · exact q p _ (Same.new hp) (SqT.of upd_same)
end
/-! ### parts of data -/
theorem DVs.take {K : PySem.W.Frag} {H : Hp} : ∀ {vs : List V} {ds : List PyData} (n : Nat), DVs K H vs ds → DVs K H (vs.take n) (ds.take n)
  | _, _, 0, _ => .nil
  | _, _, _ + 1, .nil => .nil
  | _, _, n + 1, .cons p t => .cons p (DVs.take n t)
theorem DVs.drop {K : PySem.W.Frag} {H : Hp} : ∀ {vs : List V} {ds : List PyData} (n : Nat), DVs K H vs ds → DVs K H (vs.drop n) (ds.drop n)
  | _, _, 0, h => h
  | _, _, _ + 1, .nil => .nil
  | _, _, n + 1, .cons p t => DVs.drop n t
theorem DVs.append {K : PySem.W.Frag} {H : Hp} : ∀ {vs ws : List V} {ds es : List PyData}, DVs K H vs ds → DVs K H ws es → DVs K H (vs ++ ws) (ds ++ es)
  | _, _, _, _, .nil, h => h
  | _, _, _, _, .cons p t, h => .cons p (DVs.append t h)
theorem okAll_append : ∀ A B : List PyData, okAll (A ++ B) = (okAll A && okAll B)
  | [], B => by rw [List.nil_append, okAll, Bool.true_and]
  | x :: A, B => by rw [List.cons_append, okAll, okAll_append A B, okAll, Bool.and_assoc]
theorem szAll_append : ∀ A B : List PyData, szAll (A ++ B) = szAll A + szAll B
  | [], B => by rw [List.nil_append, szAll, Nat.zero_add]
  | x :: A, B => by rw [List.cons_append, szAll, szAll_append A B, szAll]; omega
theorem depthAll_append : ∀ A B : List PyData, PyData.depthAll (A ++ B) = max (PyData.depthAll A) (PyData.depthAll B)
  | [], B => by rw [List.nil_append, PyData.depthAll]; omega
  | x :: A, B => by rw [List.cons_append, PyData.depthAll, depthAll_append A B, PyData.depthAll]; omega
theorem parted {ds : List PyData} {k : Nat} {x : PyData} (h : ds[k]? = some x) : ds = ds.take k ++ x :: ds.drop (k + 1) := by
  have hk := lt_of_some h
  have e : ds[k] = x := by rw [List.getElem?_eq_getElem hk] at h; exact Option.some.inj h
  have := List.take_append_drop k ds
  rw [List.drop_eq_getElem_cons hk, e] at this
  exact this.symm
theorem szAll_len : ∀ ds : List PyData, ds.length ≤ szAll ds
  | [] => Nat.zero_le _
  | x :: r => by
    have := szAll_len r
    rw [szAll, List.length_cons]
    omega
section
variable {P : Program} {w : World} {K : PySem.W.Frag} {mg : Str → Option Value} {base : Heap}
/-! ### a thing bent -/
def spBent (K : PySem.W.Frag) (n : Nat) : Sp := fun vs H Q _ => ∃ (d : Addr) (v : V) (x : PyData), vs = [.ref d, v] ∧ DeckAt H d ∧ DV K H v x ∧ okD x = true ∧ szD x ≤ 100000 ∧ x.depth < n ∧
  ∀ (v' : V) (x' : PyData) (H' : Hp), DV K H' v' x' → okD x' = true → szD x' ≤ 2 * szD x + 1000 → x'.depth ≤ x.depth + 2 → DeckAt H' d → But d H H' → Q v' H'
theorem scBent : FnScope ["deck", "thing", "at", "way"] ["deck", "thing"] (defScope sBent) := ⟨rfl, rfl, rfl, by decide +kernel, rfl, by decide +kernel, by decide +kernel⟩
structure TxtB (mg : Str → Option Value) : Prop where
  len : mg "len" = none
  isi : mg "isinstance" = none
  tuple : mg "tuple" = none
  list : mg "list" = none
theorem ok_bent {f fD fA : Addr} {fd fdD fdA : FuncData} (F : Fun K "_law_bent" "_law_bent" sBent f fd) (bF : L2.Binds K fd ["deck", "thing"] []) (mF : mg "_law_bent" = some (.ref f)) (T : TxtB mg)
    (GD : FnOk P w K mg base CX0 1 fD fdD ["deck", "size"] spDraw) (kD : PySem.W.keepIn K (.ref fD) = true) (bD : L2.Binds K fdD ["deck", "size"] []) (mD : mg "_law_draw" = some (.ref fD))
    (GA : FnOk P w K mg base CX0 3 fA fdA ["deck"] (spAny K)) (kA : PySem.W.keepIn K (.ref fA) = true) (bA : L2.Binds K fdA ["deck"] []) (mA : mg "_law_any" = some (.ref fA)) :
    ∀ n : Nat, FnOk P w K mg base CX0 (n + 3) f fd ["deck", "thing"] (spBent K n)
  | 0 => ⟨fun vs H Q E h => by obtain ⟨_, _, _, _, _, _, _, _, h, _⟩ := h; exact absurd h (Nat.not_lt_zero _), fun _ _ _ _ _ _ _ _ _ _ _ _ _ h => by obtain ⟨_, _, _, _, _, _, _, _, h, _⟩ := h; exact absurd h (Nat.not_lt_zero _)⟩
  | n + 1 => by
    have GB := ok_bent F bF mF T GD kD bD mD GA kA bA mA n
    refine F.ok scBent (fun vs H Q E h => ?_) (fun cdv A outer s H vs Q E hr h => ?_)
    · obtain ⟨d, v, x, rfl, _⟩ := h
      rfl
    · obtain ⟨d, v, x, rfl, D, hd, hok, hsz, hdep, k⟩ := h
      have hr1 : Room 1 _ := hr.mono (by omega)
      have hr3 : Room 3 _ := hr.mono (by omega)
      have hu0 := hu64 hr
      refine ⟨_, pss_cons (ps_if (PW.pt (pw_or (pt_not (pt_val (pe_callB call_isi (by rfl) T.isi (by decide +kernel) (pa_cons (pv 1) (pa_cons (pe_bltn (v := .ty "tuple") (by rfl) T.tuple boot_tuple rfl) pa_nil)))))
            (pw_or (pt_cmpR (op_eqT0 (Nat.lt_of_le_of_lt (Nat.le_add_right _ 64) hu0)) (pv 1) (pe_tup pa_nil) (nomark _))
            (pw_or1 (pt_cmpR op_eq (pe_call GD hr1 rfl mD kD bD .nil pass0 (pa_cons (pv 0) (pa_cons pe_int pa_nil))) pe_int (nomark _)))))) (pss_one (ps_ret (pe_call GA hr3 rfl mA kA bA .nil pass0 (pa_cons (pv 0) pa_nil)))) pss_nil)
        (pss_cons (ps_par (i := 2) (j := 3) (by rfl) scBent.nd rfl rfl (by decide) rfl rfl (pa_cons (pe_call GD hr1 rfl mD kD bD .nil pass0 (pa_cons (pv 0) (pa_cons (pe_callB call_len_seq (by rfl) T.len PySem.boot_len (pa_cons (pv 1) pa_nil)) pa_nil)))
            (pa_cons (pe_call GD hr1 rfl mD kD bD .nil pass0 (pa_cons (pv 0) (pa_cons pe_int pa_nil))) pa_nil)) (by rfl))
        (pss_cons (ps_if (pt_cmpR op_eq (pv 3) pe_int (nomark _)) (pss_one (ps_ret (pe_op op_catU (pe_slice sl_tupU (pv 1) po_none (po_some (pv 2))) (pe_slice sl_tupU (pv 1) (po_some (pe_op op_add (pv 2) pe_int)) po_none)))) pss_nil)
        (pss_cons (ps_if (pt_cmpR op_eq (pv 3) pe_int (nomark _)) (pss_one (ps_ret (pe_op op_catU (pe_slice sl_tupU (pv 1) po_none (po_some (pe_op op_add (pv 2) pe_int))) (pe_slice sl_tupU (pv 1) (po_some (pv 2)) po_none)))) pss_nil)
        (pss_cons (ps_if (pt_cmpR op_eq (pv 3) pe_int (nomark _)) (pss_one (ps_ret (pe_op op_catU (pe_op op_catU (pe_slice sl_tupU (pv 1) po_none (po_some (pv 2))) (pe_tup (pa_cons (pe_call GA hr3 rfl mA kA bA .nil pass0 (pa_cons (pv 0) pa_nil)) pa_nil))) (pe_slice sl_tupU (pv 1) (po_some (pv 2)) po_none)))) pss_nil)
        (pss_cons (ps_if (pt_cmpR op_eq (pv 3) pe_int (nomark _)) (pss_one (ps_ret (pe_callTy call_list_of (by rfl) T.list (by decide +kernel) (pa_cons (pv 1) pa_nil)))) pss_nil)
        (pss_one (ps_ret (pe_op op_catU (pe_op op_catU (pe_slice sl_tupU (pv 1) po_none (po_some (pv 2))) (pe_tup (pa_cons (pe_call GB hr rfl mF F.kp bF .nil pass0 (pa_cons (pv 0) (pa_cons (pe_ix ix_tup (pv 1) (pv 2) (fun _ _ => rfl)) pa_nil))) pa_nil)))
            (pe_slice sl_tupU (pv 1) (po_some (pe_op op_add (pv 2) pe_int)) po_none))))))))), ?_⟩
      have any : ∀ (H1 : Hp), DeckAt H1 d → But d H H1 → spAny K [.ref d] H1 Q E := fun H1 D1 B1 => ⟨d, rfl, D1, fun v' x' H' hv o z dp D' B' => k v' x' H' hv o (by omega) (by omega) D' (B1.trans B')⟩
      obtain ⟨nm, ty, k1, k2⟩ := hd.kit
      refine ⟨_, rfl, _, _, _, _, _, rfl, .ty _, ty, k1, _, rfl, ?_⟩
      cases hd with
      | tup hT hs =>
        rename_i a vs ds
        have hl := hs.length
        rw [okD] at hok
        rw [szD] at hsz
        rw [PyData.depth] at hdep
        have h16 := sizeLine_eq
        have hlen := szAll_len ds
        have fin : ∀ (L : List PyData) (ws : List V) (p : Addr) (H7 : Hp), SqT K H7 p ws → DVs K H7 ws L → okAll L = true → szAll L ≤ 2 * szAll ds + 1000 → PyData.depthAll L ≤ PyData.depthAll ds + 2 → DeckAt H7 d → But d H H7 → Q (.ref p) H7 := fun L ws p H7 a1 a2 a3 a4 a5 a6 a7 =>
          k (.ref p) (.tuple L) H7 (.tup a1 a2) (by rw [okD]; exact a3) (by rw [szD, szD]; omega) (by rw [PyData.depth, PyData.depth]; omega) a6 a7
        refine iteF ⟨_, rfl, ⟨Nat.zero_le _, fun p0 h0 => ?_⟩⟩
        have s1 := Same.new (o := .tup []) h0
        have D1 := D.same s1
        refine ⟨a, p0, vs, rfl, rfl, Same.tq s1 hT, SqT.of upd_same, _, rfl, ?_⟩
        by_cases hv : vs = []
        · have he : vs.isEmpty = true := by rw [hv]; rfl
          rw [he]
          refine iteT ?_
          exact ⟨_, rfl, any _ D1 (But.of s1)⟩
        have he : vs.isEmpty = false := by
          cases vs with
          | nil => exact absurd rfl hv
          | cons _ _ => rfl
        rw [he]
        refine iteF ?_
        have hpos : 0 < vs.length := List.length_pos_iff.mpr hv
        refine ⟨_, rfl, d, 8, rfl, D1, by decide, by decide, fun r H2 r0 r1 D2 B2 => ⟨rfl, _, rfl, ?_⟩⟩
        have B2' : But d H H2 := (But.of s1).trans B2
        refine ite2 (fun _ => ?_) (fun _ => ?_)
        · exact ⟨_, rfl, any _ D2 B2'⟩
        refine ⟨_, rfl, _, rfl, a, _, rfl, .inr (B2'.tq D hT), d, _, rfl, D2, by omega, by omega, fun z H3 z0 z1 D3 B3 => ?_⟩
        obtain ⟨i, rfl⟩ : ∃ m : Nat, z = (m : Int) := ⟨z.toNat, by omega⟩
        refine ⟨_, rfl, d, 9, rfl, D3, by decide, by decide, fun wy H4 w0 w1 D4 B4 => ⟨_, _, rfl, ?_⟩⟩
        have B4' : But d H H4 := (B2'.trans B3).trans B4
        have hT4 : SqT K H4 a vs := B4'.tq D hT
        have hs4 : DVs K H4 vs ds := DVs.but D B4' hs
        have hi : i < ds.length := by omega
        obtain ⟨x, hx⟩ : ∃ x, ds[i]? = some x := ⟨_, List.getElem?_eq_getElem hi⟩
        have hpart := parted hx
        obtain ⟨A, hA⟩ : ∃ A, A = ds.take i := ⟨_, rfl⟩
        obtain ⟨B, hB⟩ : ∃ B, B = ds.drop (i + 1) := ⟨_, rfl⟩
        rw [← hA, ← hB] at hpart
        have tk1 : ds.take (i + 1) = A ++ [x] := by rw [hA]; exact take_snoc hx
        have dr0 : ds.drop i = x :: B := by
          rw [hB, List.drop_eq_getElem_cons hi]
          rw [List.getElem?_eq_getElem hi] at hx
          rw [Option.some.inj hx]
        have hok2 := hok
        have hsz2 : szAll ds = szAll A + (szD x + 2 + szAll B) := by rw [hpart, szAll_append, szAll]
        have hdp2 : PyData.depthAll ds = max (PyData.depthAll A) (max x.depth (PyData.depthAll B)) := by rw [hpart, depthAll_append, PyData.depthAll]
        rw [hpart, okAll_append, okAll, Bool.and_eq_true, Bool.and_eq_true] at hok2
        obtain ⟨oA, ox, oB⟩ := hok2
        have c1 : ∀ (m : Nat), cutV vs none (some (m : Int)) = vs.take m := cut_to vs
        have c2 : ∀ (m : Nat), cutV vs (some (m : Int)) none = vs.drop m := cut_from vs
        have e1 : ((i : Int) + 1) = ((i + 1 : Nat) : Int) := by omega
        have lt : ∀ m : Nat, (vs.take m).length ≤ vs.length := fun m => by rw [List.length_take]; omega
        have ld : ∀ m : Nat, (vs.drop m).length ≤ vs.length := fun m => by rw [List.length_drop]; omega
        have i1 := lt i
        have i2 := lt (i + 1)
        have i3 := ld i
        have i4 := ld (i + 1)
        -- way == 0
        refine ⟨_, rfl, rfl, _, rfl, ?_⟩
        refine ite2 (fun _ => ?_) (fun _ => ?_)
        · refine ⟨_, rfl, ⟨_, rfl, _, rfl, ⟨a, vs, rfl, hT4, fun p5 H5 s5 hp5 => ?_⟩⟩⟩
          refine ⟨_, rfl, ⟨_, rfl, _, _, rfl, rfl, _, rfl, ⟨a, vs, rfl, Same.tq s5 hT4, fun p6 H6 s6 hp6 => ?_⟩⟩⟩
          rw [c1] at hp5
          rw [e1, c2] at hp6
          refine ⟨p5, p6, _, _, rfl, rfl, Same.tq s6 hp5, hp6, by omega, fun p7 H7 s7 hp7 => ?_⟩
          have st := (s5.trans s6).trans s7
          refine fin (A ++ B) _ p7 H7 hp7 ?_ ?_ ?_ ?_ (D4.same st) (B4'.trans (But.of st))
          · rw [hA, hB]
            exact DVs.append ((DVs.same st hs4).take i) ((DVs.same st hs4).drop (i + 1))
          · rw [okAll_append, oA, oB]; rfl
          · rw [szAll_append]; omega
          · rw [depthAll_append]; omega
        -- way == 1
        refine ⟨_, rfl, rfl, _, rfl, ?_⟩
        refine ite2 (fun _ => ?_) (fun _ => ?_)
        · refine ⟨_, rfl, ⟨_, rfl, _, _, rfl, rfl, _, rfl, ⟨a, vs, rfl, hT4, fun p5 H5 s5 hp5 => ?_⟩⟩⟩
          refine ⟨_, rfl, ⟨_, rfl, _, rfl, ⟨a, vs, rfl, Same.tq s5 hT4, fun p6 H6 s6 hp6 => ?_⟩⟩⟩
          rw [e1, c1] at hp5
          rw [c2] at hp6
          refine ⟨p5, p6, _, _, rfl, rfl, Same.tq s6 hp5, hp6, by omega, fun p7 H7 s7 hp7 => ?_⟩
          have st := (s5.trans s6).trans s7
          refine fin (A ++ [x] ++ x :: B) _ p7 H7 hp7 ?_ ?_ ?_ ?_ (D4.same st) (B4'.trans (But.of st))
          · rw [← tk1, ← dr0]
            exact DVs.append ((DVs.same st hs4).take (i + 1)) ((DVs.same st hs4).drop i)
          · rw [okAll_append, okAll_append, okAll, okAll, okAll, oA, ox, oB]; rfl
          · rw [szAll_append, szAll_append, szAll, szAll, szAll]; omega
          · rw [depthAll_append, depthAll_append, PyData.depthAll, PyData.depthAll, PyData.depthAll]; omega
        -- way == 2
        refine ⟨_, rfl, rfl, _, rfl, ?_⟩
        refine ite2 (fun _ => ?_) (fun _ => ?_)
        · refine ⟨_, rfl, ⟨_, rfl, _, rfl, ⟨a, vs, rfl, hT4, fun p5 H5 s5 hp5 => ?_⟩⟩⟩
          rw [c1] at hp5
          refine ⟨_, rfl, d, rfl, D4.same s5, fun y dy H6 hy oy zy py D6 B6 => ?_⟩
          refine ⟨by show 1 ≤ sizeLine; omega, fun t0 ht0 => ?_⟩
          have s7 := Same.new (o := .tup [y]) ht0
          have hp5' := Same.tq s7 (B6.tq (D4.same s5) hp5)
          refine ⟨p5, t0, _, _, rfl, rfl, hp5', SqT.of upd_same, by show _ + 1 ≤ _; omega, fun p8 H8 s8 hp8 => ?_⟩
          have B8 : But d H4 H8 := ((But.of s5).trans B6).trans (But.of (s7.trans s8))
          refine ⟨_, rfl, ⟨_, rfl, _, rfl, ⟨a, vs, rfl, B8.tq D4 hT4, fun p9 H9 s9 hp9 => ?_⟩⟩⟩
          rw [c2] at hp9
          refine ⟨p8, p9, _, _, rfl, rfl, Same.tq s9 hp8, hp9, by rw [List.length_append]; show _ + 1 + _ ≤ _; omega, fun p10 H10 s10 hp10 => ?_⟩
          have st := s9.trans s10
          have B10 : But d H4 H10 := B8.trans (But.of st)
          have hs10 := DVs.but D4 B10 hs4
          have hy10 := hy.same (s7.trans (s8.trans st))
          refine fin (A ++ [dy] ++ x :: B) _ p10 H10 hp10 ?_ ?_ ?_ ?_ (D6.same (s7.trans (s8.trans st))) (B4'.trans B10)
          · rw [hA, ← dr0]
            exact DVs.append (DVs.append (hs10.take i) (.cons hy10 .nil)) (hs10.drop i)
          · rw [okAll_append, okAll_append, okAll, okAll, okAll, oA, ox, oB, oy]; rfl
          · rw [szAll_append, szAll_append, szAll, szAll, szAll]; omega
          · rw [depthAll_append, depthAll_append, PyData.depthAll, PyData.depthAll, PyData.depthAll]; omega
        -- way == 3
        refine ⟨_, rfl, rfl, _, rfl, ?_⟩
        refine ite2 (fun _ => ?_) (fun _ => ?_)
        · refine ⟨_, rfl, a, vs, rfl, .inr hT4, fun p5 hp5 => ?_⟩
          have s5 := Same.new (o := .lst vs) hp5
          exact k (.ref p5) (.list ds) _ (.lst (SqL.of upd_same) (DVs.same s5 hs4)) (by rw [okD]; exact hok) (by rw [szD, szD]; omega) (by rw [PyData.depth, PyData.depth]; omega) (D4.same s5) (B4'.trans (But.of s5))
        -- or a part of it bent
        · refine ⟨_, rfl, ⟨_, rfl, _, rfl, ⟨a, vs, rfl, hT4, fun p5 H5 s5 hp5 => ?_⟩⟩⟩
          rw [c1] at hp5
          have hvi : vs[i]? = some vs[i] := List.getElem?_eq_getElem (by omega)
          obtain ⟨x2, hx2, hvx⟩ := hs4.at hvi
          rw [hx] at hx2
          obtain rfl := Option.some.inj hx2
          refine ⟨_, rfl, _, rfl, _, rfl, a, vs, _, _, rfl, rfl, Same.tq s5 hT4, atI_nat hvi, ?_⟩
          refine ⟨d, _, x, rfl, D4.same s5, hvx.same s5, ox, by omega, by omega, fun y dy H6 hy oy zy py D6 B6 => ?_⟩
          refine ⟨by show 1 ≤ sizeLine; omega, fun t0 ht0 => ?_⟩
          have s7 := Same.new (o := .tup [y]) ht0
          have hp5' := Same.tq s7 (B6.tq (D4.same s5) hp5)
          refine ⟨p5, t0, _, _, rfl, rfl, hp5', SqT.of upd_same, by show _ + 1 ≤ _; omega, fun p8 H8 s8 hp8 => ?_⟩
          have B8 : But d H4 H8 := ((But.of s5).trans B6).trans (But.of (s7.trans s8))
          refine ⟨_, rfl, ⟨_, rfl, _, _, rfl, rfl, _, rfl, ⟨a, vs, rfl, B8.tq D4 hT4, fun p9 H9 s9 hp9 => ?_⟩⟩⟩
          rw [e1, c2] at hp9
          refine ⟨p8, p9, _, _, rfl, rfl, Same.tq s9 hp8, hp9, by rw [List.length_append]; show _ + 1 + _ ≤ _; omega, fun p10 H10 s10 hp10 => ?_⟩
          have st := s9.trans s10
          have B10 : But d H4 H10 := B8.trans (But.of st)
          have hs10 := DVs.but D4 B10 hs4
          have hy10 := hy.same (s7.trans (s8.trans st))
          refine fin (A ++ [dy] ++ B) _ p10 H10 hp10 ?_ ?_ ?_ ?_ (D6.same (s7.trans (s8.trans st))) (B4'.trans B10)
          · rw [hA, hB]
            exact DVs.append (DVs.append (hs10.take i) (.cons hy10 .nil)) (hs10.drop (i + 1))
          · rw [okAll_append, okAll_append, okAll, okAll, oA, oB, oy]; rfl
          · rw [szAll_append, szAll_append, szAll, szAll]; omega
          · rw [depthAll_append, depthAll_append, PyData.depthAll, PyData.depthAll]; omega
      | _ => exact iteT ⟨_, rfl, any H D (But.refl d H)⟩
end
theorem seqIndex_nat {k n : Nat} (h : k < n) : seqIndex? (k : Int) n = some k := by
  unfold seqIndex?
  have h1 : ¬ ((k : Int) < 0) := by omega
  simp only [h1, if_false]
  have h2 : (decide (0 ≤ (k : Int)) && decide ((k : Int) < (n : Int))) = true := by
    rw [Bool.and_eq_true]
    exact ⟨decide_eq_true (by omega), decide_eq_true (by omega)⟩
  rw [if_pos h2]
  simp
theorem erase_map (js : List Int) (k : Nat) : (js.map V.int).eraseIdx k = (js.eraseIdx k).map V.int := by
  exact L2.erase_mapI js k
section
variable {P : Program} {w : World} {K : PySem.W.Frag} {mg : Str → Option Value} {base : Heap}
/-! ### the things in a drawn sequence -/
def spShuf (K : PySem.W.Frag) : Sp := fun vs H Q _ => ∃ (d t : Addr) (js : List Int), vs = [.ref d, .ref t] ∧ DeckAt H d ∧ SqL K H t (js.map V.int) ∧ js.length ≤ 300 ∧
  ∀ (p : Addr) (ks : List Int) (H' : Hp), H p = none → But d H H' → DeckAt H' d → H' p = some (.lst (ks.map V.int)) → ks.Perm js → Q (.ref p) H'
structure TxtS (mg : Str → Option Value) : Prop where
  len : mg "len" = none
  list : mg "list" = none
theorem scShuf : FnScope ["deck", "things", "left", "found"] ["deck", "things"] (defScope sShuf) := ⟨rfl, rfl, rfl, by decide +kernel, rfl, by decide +kernel, by decide +kernel⟩
theorem ok_shuf {f fD : Addr} {fd fdD : FuncData} (F : Fun K "_law_shuffled" "_law_shuffled" sShuf f fd) (T : TxtS mg) (FD : Fun K "_law_draw" "_law_draw" sDraw fD fdD) (bD : L2.Binds K fdD ["deck", "size"] []) (mD : mg "_law_draw" = some (.ref fD)) :
    FnOk P w K mg base CX0 2 f fd ["deck", "things"] (spShuf K) := by
  have GD : FnOk P w K mg base CX0 1 fD fdD ["deck", "size"] spDraw := ok_draw FD
  refine F.ok scShuf (fun vs H Q E h => ?_) (fun cdv A outer s H vs Q E hr h => ?_)
  · obtain ⟨d, t, js, rfl, _⟩ := h
    rfl
  · obtain ⟨d, t, js, rfl, D, hT, hj, k⟩ := h
    have h64 := hu64 hr
    refine ⟨_, pss_cons (ps_par (i := 2) (j := 3) (by rfl) scShuf.nd rfl rfl (by decide) rfl rfl (pa_cons (pe_callTy call_list_of (by rfl) T.list (by decide +kernel) (pa_cons (pv 1) pa_nil)) (pa_cons (pe_lst pa_nil) pa_nil)) (by rfl))
      (pss_cons (ps_while PassesOwn.never (pt_cmpR (op_neL h64) (pv 2) (pe_lst pa_nil) (nomark _))
        (pss_one (ps_expr (pe_bm PySem.F.plainAttrs_list PySem.F.slot_list_append PySem.F.type_list_append mt_append (pv 3) (pa_cons
          (pe_bm PySem.F.plainAttrs_list PySem.F.slot_list_pop PySem.F.type_list_pop mt_popAt (pv 2) (pa_cons (pe_call GD hr rfl mD FD.kp bD .nil pass0 (pa_cons (pv 0) (pa_cons (pe_callB call_len_seq (by rfl) T.len PySem.boot_len (pa_cons (pv 2) pa_nil)) pa_nil))) pa_nil)) pa_nil)))))
      (pss_one (ps_ret (pv 3)))), ?_⟩
    refine ⟨_, rfl, t, _, rfl, .inl hT, fun l hl => ?_⟩
    have F1 : Fs d H [(l, .lst (js.map V.int))] _ := (Fs.start D).new hl nl
    refine ⟨Nat.zero_le _, fun r hr' => ?_⟩
    have F2 := F1.new hr' (o := .lst []) nl
    have hr0 : H r = none := Same.free (Same.new (o := .lst (js.map V.int)) hl) hr'
    have nlr : l ≠ r := ne_of_none F1.g0 hr'
    refine ⟨_, _, rfl, ?_⟩
    refine ⟨fun m σ H' => ∃ (ls fs : List Int), σ = [some (.ref d), some (.ref t), some (.ref l), some (.ref r)] ∧ m = ls.length ∧ (fs ++ ls).Perm js ∧ But d H H' ∧ DeckAt H' d ∧ H' l = some (.lst (ls.map V.int)) ∧ H' r = some (.lst (fs.map V.int)),
      ⟨_, js, [], rfl, rfl, List.Perm.refl _, F2.1, F2.deck, F2.g1, F2.g0⟩, ?_⟩
    rintro m σ H1 ⟨ls, fs, rfl, rfl, hp, B1, D1, hL, hR⟩
    have hlen : fs.length + ls.length = js.length := by have := hp.length_eq; rw [List.length_append] at this; exact this
    refine ⟨_, rfl, Nat.zero_le _, fun q hq => ?_⟩
    have s2 : Same H1 (upd H1 q (.lst [])) := Same.new hq
    refine ⟨l, q, ls, [], rfl, rfl, SqL.of (s2 _ _ hL), SqL.of upd_same, _, rfl, ?_⟩
    by_cases h0 : ls = []
    · subst h0
      refine iteF ?_
      rw [List.append_nil] at hp
      exact ⟨_, rfl, k r fs _ hr0 (B1.trans (But.of s2)) (D1.same s2) (s2 _ _ hR) hp⟩
    · rw [decide_eq_false h0]
      refine iteT ?_
      have hpos : 0 < ls.length := List.length_pos_iff.mpr h0
      refine ⟨fun σ' H' => ∃ m', m' < ls.length ∧ ∃ (ls fs : List Int), σ' = [some (.ref d), some (.ref t), some (.ref l), some (.ref r)] ∧ m' = ls.length ∧ (fs ++ ls).Perm js ∧ But d H H' ∧ DeckAt H' d ∧ H' l = some (.lst (ls.map V.int)) ∧ H' r = some (.lst (fs.map V.int)), fun _ _ z => z, ?_⟩
      have D2 := D1.same s2
      refine ⟨_, rfl, .inl ⟨rfl, _, SqL.of (s2 _ _ hR)⟩, _, rfl, .inl ⟨rfl, _, SqL.of (s2 _ _ hL)⟩, _, rfl, _, rfl, l, _, rfl, .inl (SqL.of (s2 _ _ hL)), d, _, rfl, D2, by rw [List.length_map]; omega, by rw [List.length_map]; omega, fun z H3 z0 z1 D3 B3 => ?_⟩
      rw [List.length_map] at z1
      obtain ⟨i, rfl⟩ : ∃ m : Nat, z = (m : Int) := ⟨z.toNat, by omega⟩
      have hi : i < ls.length := by omega
      have hL3 := B3.lst D2 (s2 _ _ hL)
      have hR3 := B3.lst D2 (s2 _ _ hR)
      have hy : ls[i]? = some ls[i] := List.getElem?_eq_getElem hi
      refine ⟨l, _, _, i, .int ls[i], rfl, rfl, hL3, by omega, by omega, seqIndex_nat (by rw [List.length_map]; exact hi), by rw [List.getElem?_map, hy]; rfl, ?_⟩
      rw [erase_map]
      have hR4 : upd H3 l (.lst ((ls.eraseIdx i).map V.int)) r = some (.lst (fs.map V.int)) := by rw [upd_ne nlr.symm]; exact hR3
      refine ⟨r, _, _, rfl, rfl, hR4, by rw [List.length_map]; exact small1000 (by omega), ?_⟩
      have hel : (ls.eraseIdx i).length + 1 = ls.length := by rw [List.length_eraseIdx_of_lt hi]; omega
      refine ⟨(ls.eraseIdx i).length, by omega, ls.eraseIdx i, fs ++ [ls[i]], rfl, rfl, ?_, ?_, ?_, ?_, ?_⟩
      · rw [List.append_assoc]
        exact (List.Perm.append_left fs (L2.erase_perm ls i _ hy)).trans hp
      · intro b o hb e
        have nbl : b ≠ l := ne_of_none e hl
        have nbr : b ≠ r := ne_of_none e hr0
        rw [upd_ne nbr, upd_ne nbl]
        exact B3 b o hb (s2 _ _ (B1 b o hb e))
      · obtain ⟨x, y, hd, rr⟩ := D3
        have n1 : d ≠ l := (ne_of hL3 hd (nl _ _)).symm
        have n2 : d ≠ r := (ne_of hR3 hd (nl _ _)).symm
        exact ⟨x, y, by rw [upd_ne n2, upd_ne n1]; exact hd, rr⟩
      · rw [upd_ne nlr, upd_same]
      · rw [upd_same, List.map_append]; rfl
end
theorem ix_list_K1 {X : Cx} {K : PySem.W.Frag} (h : X.K = K) : IxR X (rIxL K) := by
  subst h
  exact ix_list
theorem Fs.repl {d x : Addr} {Hd H1 : Hp} {fs : List (Addr × HO)} {o o' : HO} (F : Fs d Hd ((x, o) :: fs) H1) (h0 : Hd x = none) (hn : ∀ p ∈ fs, p.1 ≠ x) (n : ∀ a b, o' ≠ .dK (dk a b)) : Fs d Hd ((x, o') :: fs) (upd H1 x o') :=
  (F.tail.put h0 (F.2.2 _ List.mem_cons_self).1 hn).add upd_same n
def fieldsL : List Int := [0, 0, 1, 1, 2, 3, 0 - 1, 0 - 2, 10 ^ (9 : Int).toNat, 0 - 10 ^ (9 : Int).toNat]
theorem fieldsL_b : ∀ z ∈ fieldsL, -1000000000 ≤ z ∧ z ≤ 1000000000 := by
  unfold fieldsL
  rw [pow9]
  decide
section
variable {P : Program} {w : World} {K : PySem.W.Frag} {mg : Str → Option Value} {base : Heap}
structure TxtF (mg : Str → Option Value) : Prop where
  range : mg "range" = none
  tuple : mg "tuple" = none
  list : mg "list" = none
  len : mg "len" = none
/-! ### drawn fields -/
def spFields : Sp := fun vs H Q _ => ∃ (d : Addr) (n : Nat), vs = [.ref d, .int n] ∧ DeckAt H d ∧ n ≤ 4 ∧
  ∀ (p : Addr) (js : List Int) (H' : Hp), But d H H' → DeckAt H' d → H' p = some (.tup (js.map V.int)) → js.length = n → (∀ z ∈ js, -1000000000 ≤ z ∧ z ≤ 1000000000) → Q (.ref p) H'
theorem scFields : FnScope ["deck", "wide", "some", "place"] ["deck", "wide"] (defScope sFields) := ⟨rfl, rfl, rfl, by decide +kernel, rfl, by decide +kernel, by decide +kernel⟩
theorem ok_fields {f fC : Addr} {fd fdC : FuncData} (F : Fun K "_law_fields" "_law_fields" sFields f fd) (T : TxtF mg) (GC : FnOk P w K mg base CX0 2 fC fdC ["deck", "things"] (spChoose K)) (kC : PySem.W.keepIn K (.ref fC) = true) (bC : L2.Binds K fdC ["deck", "things"] []) (mC : mg "_law_choose" = some (.ref fC)) :
    FnOk P w K mg base CX0 3 f fd ["deck", "wide"] spFields := by
  refine F.ok scFields (fun vs H Q E h => ?_) (fun cdv A outer s H vs Q E hr h => ?_)
  · obtain ⟨d, n, rfl, _⟩ := h
    rfl
  · obtain ⟨d, n, rfl, D, hn, k⟩ := h
    refine ⟨_, pss_cons (ps_set (i := 2) scFields.nd rfl (Or.inr rfl) (pe_lst (pa_cons pe_int (pa_cons pe_int (pa_cons pe_int (pa_cons pe_int (pa_cons pe_int (pa_cons pe_int (pa_cons (pe_op op_sub pe_int pe_int) (pa_cons (pe_op op_sub pe_int pe_int) (pa_cons (pe_op op_pow pe_int pe_int) (pa_cons (pe_op op_sub pe_int (pe_op op_pow pe_int pe_int)) pa_nil))))))))))))
      (pss_one (ps_ret (pe_callTy call_tuple_of (by rfl) T.tuple (by decide +kernel) (pa_cons
        (pe_lc (own := [("place", 3)]) (g := gName 3) rfl scFields.nd (pi_range1 rfl T.range (pa_cons (pv 1) pa_nil)) (blkOk_by (N := ["deck", "wide", "some", "place"]) (sc := defScope sFields) (by decide +kernel)) (fun _ _ _ _ _ => pg_name (i := 3) scFields.nd rfl (Or.inl rfl)) (fun _ _ _ _ _ => pts_nil)
            (fun _ _ _ _ _ => pe_call GC hr rfl mC kC bC .nil pass0 (pa_cons (pv 0) (pa_cons (pv 2) pa_nil)))) pa_nil)))), ?_⟩
    have h16 := sizeLine_eq
    have cp9 : CPow 10 9 := ⟨by decide, by decide, by decide⟩
    refine ⟨_, _, rfl, rfl, ⟨_, _, rfl, rfl, ⟨_, _, rfl, rfl, cp9, ⟨_, _, rfl, rfl, cp9, ⟨_, _, rfl, rfl, ?_⟩⟩⟩⟩⟩
    refine ⟨by show 10 ≤ sizeLine; omega, fun p hp => ?_⟩
    have F1 : Fs d H [(p, .lst (fieldsL.map V.int))] (upd H p (.lst (fieldsL.map V.int))) := (Fs.start D).new hp nl
    refine ⟨_, rfl, (n : Int), rfl, by omega, by omega, fun D' hD' => ?_⟩
    obtain ⟨a0, a1, a2⟩ := F1.apart hD'
    refine lc_range (lo := 0) (n := ((n : Int)).toNat) (fun i H' => ∃ js : List Int, Fs d H [(D', .lst (js.map V.int)), (p, .lst (fieldsL.map V.int))] H' ∧ js.length = i ∧ ∀ z ∈ js, -1000000000 ≤ z ∧ z ≤ 1000000000) ⟨[], F1.new hD' nl, rfl, fun z h => by cases h⟩ ?_ ?_
    · rintro i H' hi ⟨js, F2, hl, hb⟩
      refine ⟨rfl, ?_⟩
      refine ⟨_, rfl, _, rfl, d, p, fieldsL.map V.int, rfl, F2.deck, SqL.of F2.g1, (by intro z; cases z), (by show 10 < 1000000; decide), fun v H3 hv D3 B3 => ?_⟩
      obtain ⟨z, hz, rfl⟩ := List.mem_map.mp hv
      have F3 := F2.step D3 B3
      refine ⟨_, F3.g0, by rw [List.length_map]; omega, js ++ [z], ?_, by rw [List.length_append, hl]; rfl, fun y hy => ?_⟩
      · have := F3.repl (o' := .lst (js.map V.int ++ [V.int z])) a0 a2 nl
        rw [List.map_append]
        exact this
      · rcases List.mem_append.mp hy with h | h
        · exact hb y h
        · have : y = z := by simpa using h
          rw [this]
          exact fieldsL_b z hz
    · rintro H' ⟨js, F2, hl, hb⟩
      refine ⟨D', js.map V.int, rfl, .inl ⟨SqL.of F2.g0, fun q hq => ?_⟩⟩
      exact k q js _ ((F2.skip hq).1) ((F2.skip hq).deck) upd_same (by omega) hb
/-! ### a drawn rule -/
def spRule : Sp := fun vs H Q _ => ∃ (d : Addr) (n : Nat), vs = [.ref d, .int n] ∧ DeckAt H d ∧ n ≤ 4 ∧
  ∀ (p : Addr) (js : List Int) (H' : Hp), But d H H' → DeckAt H' d → H' p = some (.tup (js.map V.int)) → js.length ≤ 4 → (∀ z ∈ js, -4 ≤ z ∧ z ≤ 4) → Q (.ref p) H'
abbrev NRu : List Str := ["deck", "wide", "signs", "columns", "place", "column"]
theorem scRule : FnScope NRu ["deck", "wide"] (defScope sRule) := ⟨rfl, rfl, rfl, by decide +kernel, rfl, by decide +kernel, by decide +kernel⟩
theorem ok_rule {f fC fD fS : Addr} {fd fdC fdD fdS : FuncData} (F : Fun K "_law_rule" "_law_rule" sRule f fd) (T : TxtF mg) (GC : FnOk P w K mg base CX0 2 fC fdC ["deck", "things"] (spChoose K)) (kC : PySem.W.keepIn K (.ref fC) = true) (bC : L2.Binds K fdC ["deck", "things"] []) (mC : mg "_law_choose" = some (.ref fC))
    (GD : FnOk P w K mg base CX0 1 fD fdD ["deck", "size"] spDraw) (kD : PySem.W.keepIn K (.ref fD) = true) (bD : L2.Binds K fdD ["deck", "size"] []) (mD : mg "_law_draw" = some (.ref fD))
    (GS : FnOk P w K mg base CX0 2 fS fdS ["deck", "things"] (spShuf K)) (kS : PySem.W.keepIn K (.ref fS) = true) (bS : L2.Binds K fdS ["deck", "things"] []) (mS : mg "_law_shuffled" = some (.ref fS)) :
    FnOk P w K mg base CX0 3 f fd ["deck", "wide"] spRule := by
  refine F.ok scRule (fun vs H Q E h => ?_) (fun cdv A outer s H vs Q E hr h => ?_)
  · obtain ⟨d, n, rfl, _⟩ := h
    rfl
  · obtain ⟨d, n, rfl, D, hn, k⟩ := h
    have hr1 : Room 1 _ := hr.mono (by decide)
    refine ⟨_, pss_cons (ps_set (i := 2) scRule.nd rfl (Or.inr rfl) (pe_lc (own := [("place", 4)]) (g := gName 4) rfl scRule.nd (pi_range1 rfl T.range (pa_cons (pv 1) pa_nil)) (blkOk_by (N := NRu) (sc := defScope sRule) (by decide +kernel)) (fun _ _ _ _ _ => pg_name (i := 4) scRule.nd rfl (Or.inl rfl)) (fun _ _ _ _ _ => pts_nil)
            (fun _ _ _ _ _ => pe_call GC hr rfl mC kC bC .nil pass0 (pa_cons (pv 0) (pa_cons (pe_lst (pa_cons pe_int (pa_cons pe_int (pa_cons (pe_op op_sub pe_int pe_int) pa_nil)))) pa_nil)))))
      (pss_cons (ps_set (i := 3) scRule.nd rfl (Or.inl rfl) (pe_slice sl_list (pe_call GS hr rfl mS kS bS .nil pass0 (pa_cons (pv 0) (pa_cons (pe_listRg rfl rfl T.list (prg_2 rfl T.range pe_int (pe_op op_add (pv 1) pe_int))) pa_nil))) po_none
          (po_some (pe_call GD hr1 rfl mD kD bD .nil pass0 (pa_cons (pv 0) (pa_cons (pe_op op_add (pv 1) pe_int) pa_nil))))))
      (pss_one (ps_ret (pe_callTy call_tuple_of (by rfl) T.tuple (by decide +kernel) (pa_cons
        (pe_lc (own := [("column", 5)]) (g := gName 5) rfl scRule.nd (pi_list (pv 3)) (blkOk_by (N := NRu) (sc := defScope sRule) (by decide +kernel)) (fun _ _ _ _ _ => pg_name (i := 5) scRule.nd rfl (Or.inl rfl)) (fun _ _ _ _ _ => pts_nil)
            (fun _ _ _ _ _ => pe_op op_mul (pv 5) (pe_ix (ix_list_K1 (K := K) rfl) (pv 2) (pe_op op_sub (pv 5) pe_int) (fun _ _ => rfl)))) pa_nil))))), ?_⟩
    have h16 := sizeLine_eq
    refine ⟨_, rfl, (n : Int), rfl, by omega, by omega, fun D' hD' => ?_⟩
    have F0 := Fs.start D
    obtain ⟨a0, a1, a2⟩ := F0.apart hD'
    refine lc_range (lo := 0) (n := ((n : Int)).toNat) (fun i H' => ∃ js : List Int, Fs d H [(D', .lst (js.map V.int))] H' ∧ js.length = i ∧ ∀ z ∈ js, -1 ≤ z ∧ z ≤ 1) ⟨[], F0.new hD' nl, rfl, fun z h => by cases h⟩ ?_ ?_
    · rintro i H' hi ⟨js, F2, hl, hb⟩
      refine ⟨rfl, ?_⟩
      refine ⟨_, rfl, ⟨_, _, rfl, rfl, ⟨by show 3 ≤ sizeLine; omega, fun q hq => ?_⟩⟩⟩
      have F3 := F2.new hq (o := .lst (([1, 1, 0 - 1] : List Int).map V.int)) nl
      refine ⟨d, q, ([1, 1, 0 - 1] : List Int).map V.int, rfl, F3.deck, SqL.of F3.g0, (by intro z; cases z), (by show 3 < 1000000; decide), fun v H3 hv D3 B3 => ?_⟩
      obtain ⟨z, hz, rfl⟩ := List.mem_map.mp hv
      have hzb : -1 ≤ z ∧ z ≤ 1 := by
        have : ∀ z ∈ ([1, 1, 0 - 1] : List Int), -1 ≤ z ∧ z ≤ 1 := by decide
        exact this z hz
      have F4 := (F3.tail).step D3 B3
      refine ⟨_, F4.g0, by rw [List.length_map]; omega, js ++ [z], ?_, by rw [List.length_append, hl]; rfl, fun y hy => ?_⟩
      · have := F4.repl (o' := .lst (js.map V.int ++ [V.int z])) a0 a2 nl
        rw [List.map_append]
        exact this
      · rcases List.mem_append.mp hy with h | h
        · exact hb y h
        · have : y = z := by simpa using h
          rw [this]
          exact hzb
    · rintro H1 ⟨ss, F1, hsl, hsb⟩
      -- columns
      refine ⟨_, rfl, ⟨_, rfl, _, _, rfl, rfl, _, _, rfl, rfl, RgOk.of_le (by decide) (by omega) (by decide) (by omega), fun q hq => ?_⟩⟩
      obtain ⟨cs, hcs⟩ : ∃ cs : List Int, cs = (List.range ((n : Int) + 1 - 1).toNat).map fun (i : Nat) => 1 + (i : Int) := ⟨_, rfl⟩
      have erg : rgV 1 ((n : Int) + 1) = cs.map V.int := by
        rw [hcs, List.map_map]
        rfl
      have hcl : cs.length = n := by
        rw [hcs, List.length_map, List.length_range]
        omega
      have hcb : ∀ c ∈ cs, 1 ≤ c ∧ c ≤ n := by
        intro c hc
        rw [hcs] at hc
        obtain ⟨i, hi, rfl⟩ := List.mem_map.mp hc
        have := List.mem_range.mp hi
        omega
      rw [erg]
      have F2 := F1.new hq (o := .lst (cs.map V.int)) nl
      refine ⟨d, q, cs, rfl, F2.deck, SqL.of F2.g0, by omega, fun p1 ks H3 hp1 B3 D3 hP1 perm => ?_⟩
      have F3 := (F2.step D3 B3).add hP1 nl
      have hkl := perm.length_eq
      refine ⟨_, rfl, ⟨_, rfl, _, _, rfl, rfl, d, _, rfl, D3, by omega, by omega, fun t H4 t0 t1 D4 B4 => ⟨t, rfl, ?_⟩⟩⟩
      obtain ⟨t, rfl⟩ : ∃ m : Nat, t = (m : Int) := ⟨t.toNat, by omega⟩
      have F4 := F3.step D4 B4
      refine ⟨p1, ks.map V.int, rfl, SqL.of F4.g0, fun p2 hp2 => ?_⟩
      obtain ⟨ts, hts⟩ : ∃ ts : List Int, ts = ks.take t := ⟨_, rfl⟩
      have ecut : cutV (ks.map V.int) none (some (t : Int)) = ts.map V.int := by
        rw [cut_to, hts, List.map_take]
      rw [ecut] at *
      have htl : ts.length ≤ 4 := by rw [hts, List.length_take]; omega
      have htb : ∀ c ∈ ts, 1 ≤ c ∧ c ≤ n := fun c hc => hcb c (perm.mem_iff.mp (List.mem_of_mem_take (by rw [hts] at hc; exact hc)))
      have F5 := F4.new hp2 (o := .lst (ts.map V.int)) nl
      refine ⟨_, rfl, p2, rfl, ⟨_, SqL.of F5.g0⟩, fun D5 hD5 => ?_⟩
      obtain ⟨b0, b1, b2⟩ := F5.apart hD5
      refine lc_list (K := K) (a := p2) (xs := ts.map V.int) (fun i H' => ∃ js : List Int, Fs d H [(D5, .lst (js.map V.int)), (p2, .lst (ts.map V.int)), (p1, .lst (ks.map V.int)), (q, .lst (cs.map V.int)), (D', .lst (ss.map V.int))] H' ∧ js.length = i ∧ ∀ z ∈ js, -4 ≤ z ∧ z ≤ 4)
        ⟨[], F5.new hD5 nl, rfl, fun z h => by cases h⟩ (fun i H' _ ⟨js, F6, _⟩ => SqL.of F6.g1) ?_ ?_
      · rintro i x H' hx ⟨js, F6, hl, hb⟩
        rw [List.getElem?_map] at hx
        obtain ⟨c, hc, rfl⟩ : ∃ c, ts[i]? = some c ∧ x = V.int c := by
          cases hq2 : ts[i]? with
          | none => rw [hq2] at hx; cases hx
          | some z => rw [hq2] at hx; exact ⟨z, rfl, (Option.some.inj hx).symm⟩
        have hcb2 := htb c (List.mem_of_getElem? hc)
        have hilt := lt_of_some hc
        obtain ⟨m, rfl⟩ : ∃ m : Nat, c = (m : Int) + 1 := ⟨(c - 1).toNat, by omega⟩
        have hm : m < ss.length := by omega
        have hat : (ss.map V.int)[m]? = some (V.int ss[m]) := by rw [List.getElem?_map, List.getElem?_eq_getElem hm]; rfl
        have hsm := hsb ss[m] (List.getElem_mem hm)
        refine ⟨rfl, ?_⟩
        refine ⟨_, rfl, ⟨_, rfl, ⟨_, rfl, _, _, rfl, rfl, ⟨D', ss.map V.int, _, _, rfl, rfl, SqL.of F6.g4, (by rw [show (m : Int) + 1 - 1 = (m : Int) from by omega]; exact atI_nat hat), ?_⟩⟩⟩⟩
        refine ⟨_, _, rfl, rfl, .inl ⟨by omega, by omega⟩, ?_⟩
        refine ⟨_, F6.g0, by rw [List.length_map]; omega, js ++ [((m : Int) + 1) * ss[m]], ?_, by rw [List.length_append, hl]; rfl, fun y hy => ?_⟩
        · have := F6.repl (o' := .lst (js.map V.int ++ [V.int (((m : Int) + 1) * ss[m])])) b0 b2 nl
          rw [List.map_append]
          exact this
        · rcases List.mem_append.mp hy with h | h
          · exact hb y h
          · have e : y = ((m : Int) + 1) * ss[m] := by simpa using h
            have hs3 : ss[m] = -1 ∨ ss[m] = 0 ∨ ss[m] = 1 := by omega
            rcases hs3 with e3 | e3 | e3 <;> rw [e, e3] <;> omega
      · rintro H6 ⟨js, F6, hl, hb⟩
        refine ⟨D5, js.map V.int, rfl, .inl ⟨SqL.of F6.g0, fun q6 hq6 => ?_⟩⟩
        rw [List.length_map] at hl
        exact k q6 js _ ((F6.skip hq6).1) ((F6.skip hq6).deck) upd_same (by omega) hb
end
structure Fn (K : PySem.W.Frag) (mg : Str → Option Value) (x : Str) (st : Stmt) (ps : List Str) (f : Addr) (fd : FuncData) : Prop where
  F : Fun K x x st f fd
  b : L2.Binds K fd ps []
  m : mg x = some (.ref f)
section
variable {P : Program} {w : World} {K : PySem.W.Frag} {mg : Str → Option Value} {base : Heap}
def spTold (K : PySem.W.Frag) : Sp := fun vs H Q _ => ∃ (v : V) (x : PyData) (n : Int), vs = [v, .int n] ∧ DV K H v x ∧ okD x = true ∧ szD x ≤ 100000 ∧ x.depth ≤ 40 ∧ 1 ≤ n ∧ n ≤ 4 ∧ ∀ H', Same H H' → Q (.bl true) H'
abbrev NT : List Str := ["thing", "wide", "kept", "pairs", "found", "due"]
theorem scTold : FnScope NT ["thing", "wide"] (defScope sTold) := ⟨rfl, rfl, rfl, by decide +kernel, rfl, by decide +kernel, by decide +kernel⟩
theorem ok_told {f fI fR fID fRD : Addr} {fd fdI fdR fdID fdRD : FuncData} (F : Fun K "_law_told" "_law_told" sTold f fd) (T : TxtV mg) (hrp : mg "repr" = none)
    (I : Fn K mg "is_item" sIsItem ["value", "width"] fI fdI) (GI : FnOk P w K mg base CX0 4 fI fdI ["value", "width"] (spIsItem K))
    (R : Fn K mg "is_rule" sIsRule ["value", "width"] fR fdR) (GR : FnOk P w K mg base CX0 3 fR fdR ["value", "width"] (spIsRule K))
    (ID : Fn K mg "_law_item_due" sItemDue ["thing", "wide"] fID fdID) (GID : FnOk P w K mg base CX0 2 fID fdID ["thing", "wide"] (spItemDue K))
    (RD : Fn K mg "_law_rule_due" sRuleDue ["thing", "wide"] fRD fdRD) (GRD : FnOk P w K mg base CX0 2 fRD fdRD ["thing", "wide"] (spRuleDue K)) :
    FnG P w K mg base 5 f fd ["thing", "wide"] (spTold K) := by
  refine FnG.mk' F scTold (fun vs H Q E h => ?_) (fun cdv A outer s H vs Q E hg hr h => ?_)
  · obtain ⟨v, x, n, rfl, _⟩ := h
    rfl
  · obtain ⟨v, x, n, rfl, hd, hok, hsz, hdep, n1, n4, k⟩ := h
    have hr2 : Room 2 _ := hr.mono (by decide)
    have hr3 : Room 3 _ := hr.mono (by decide)
    have h64 := hu64 hr
    refine ⟨_, pss_cons (ps_set (i := 2) scTold.nd rfl (Or.inl rfl) (pe_callB (call_repr2 hg h64) (by rfl) hrp (by decide +kernel) (pa_cons (pv 0) pa_nil)))
      (pss_cons (ps_set (i := 3) scTold.nd rfl (Or.inl rfl) (pe_lst (pa_cons (pe_tup (pa_cons (pe_call GI hr rfl I.m I.F.kp I.b .nil pass0 (pa_cons (pv 0) (pa_cons (pv 1) pa_nil))) (pa_cons (pe_call GID hr2 rfl ID.m ID.F.kp ID.b .nil pass0 (pa_cons (pv 0) (pa_cons (pv 1) pa_nil))) pa_nil))) pa_nil)))
      (pss_cons (ps_for PassesOwn.never rfl (pi_list (pe_op op_cat (pv 3) (pe_lst (pa_cons (pe_tup (pa_cons (pe_call GR hr3 rfl R.m R.F.kp R.b .nil pass0 (pa_cons (pv 0) (pa_cons (pv 1) pa_nil))) (pa_cons (pe_call GRD hr2 rfl RD.m RD.F.kp RD.b .nil pass0 (pa_cons (pv 0) (pa_cons (pv 1) pa_nil))) pa_nil))) pa_nil))))
          (pg_tup (by rfl) (pgs_cons (pg_name (i := 4) scTold.nd rfl (Or.inl rfl)) (pgs_cons (pg_name (i := 5) scTold.nd rfl (Or.inl rfl)) pgs_nil)))
        (pss_one (ps_if (PW.pt (pw_or (pt_not (pt_val (pe_callB call_isi (by rfl) T.isi (by decide +kernel) (pa_cons (pv 4) (pa_cons (pe_bltn (v := .ty "bool") (by rfl) T.bool boot_bool rfl) pa_nil))))) (pw_or1 (pt_cmpR op_ne (pv 4) (pv 5) (nomark _))))) (pss_one (ps_ret pe_bl)) pss_nil)))
      (pss_one (ps_ret (pe_cmpR op_eq (pe_callB (call_repr2 hg h64) (by rfl) hrp (by decide +kernel) (pa_cons (pv 0) pa_nil)) (pv 2) (nomark _)))))), ?_⟩
    have h16 := sizeLine_eq
    have hlen : ∀ a b, x = .tuple [a, .tuple b] → b.length ≤ 1000000 := by
      rintro a b rfl
      rw [szD, szAll, szAll, szD, szAll] at hsz
      have := szAll_len b
      omega
    refine ⟨_, rfl, v, x, rfl, hd, hok, hdep, by omega, ?_⟩
    refine ⟨_, rfl, _, rfl, v, x, n, rfl, hd, fun H1 s1 => ?_⟩
    refine ⟨_, rfl, _, rfl, v, x, n, rfl, hd.same s1, n1, n4, hlen, fun H2 s2 => ?_⟩
    refine ⟨by show 2 ≤ sizeLine; omega, fun t1 ht1 => ?_⟩
    have s3 := Same.new (o := .tup [V.bl (isItemD n x), V.bl (isItemD n x)]) ht1
    refine ⟨by show 1 ≤ sizeLine; omega, fun l1 hl1 => ?_⟩
    have s4 := Same.new (o := .lst [V.ref t1]) hl1
    refine ⟨_, rfl, ?_⟩
    have sA := ((s1.trans s2).trans s3).trans s4
    refine ⟨_, rfl, _, rfl, v, x, n, rfl, hd.same sA, fun H5 s5 => ?_⟩
    refine ⟨_, rfl, _, rfl, v, x, n, rfl, (hd.same sA).same s5, n1, n4, fun H6 s6 => ?_⟩
    refine ⟨by show 2 ≤ sizeLine; omega, fun t2 ht2 => ?_⟩
    have s7 := Same.new (o := .tup [V.bl (isRuleD n x), V.bl (isRuleD n x)]) ht2
    refine ⟨by show 1 ≤ sizeLine; omega, fun l2 hl2 => ?_⟩
    have s8 := Same.new (o := .lst [V.ref t2]) hl2
    have sB := ((s5.trans s6).trans s7).trans s8
    refine ⟨l1, l2, _, _, rfl, rfl, sB _ _ upd_same, upd_same, by show 2 ≤ sizeLine; omega, fun l3 hl3 => ?_⟩
    have s9 := Same.new (o := .lst ([V.ref t1] ++ [V.ref t2])) hl3
    have hl : upd (upd (upd H6 t2 (.tup [V.bl (isRuleD n x), V.bl (isRuleD n x)])) l2 (.lst [V.ref t2])) l3 (.lst ([V.ref t1] ++ [V.ref t2])) l3 = some (.lst ([V.ref t1] ++ [V.ref t2])) := upd_same
    have ht1 := (s4.trans (sB.trans s9)) _ _ (upd_same (H := H2) (a := t1) (o := .tup [V.bl (isItemD n x), V.bl (isItemD n x)]))
    have ht2 := (s8.trans s9) _ _ (upd_same (H := H6) (a := t2) (o := .tup [V.bl (isRuleD n x), V.bl (isRuleD n x)]))
    have sC := sA.trans (sB.trans s9)
    refine ⟨l3, rfl, ⟨_, SqL.of hl⟩, ?_⟩
    obtain ⟨Hn, hHn⟩ : ∃ Hn, Hn = upd (upd (upd H6 t2 (.tup [V.bl (isRuleD n x), V.bl (isRuleD n x)])) l2 (.lst [V.ref t2])) l3 (.lst ([V.ref t1] ++ [V.ref t2])) := ⟨_, rfl⟩
    rw [← hHn] at hl ht1 ht2 sC ⊢
    refine for_list (K := K) (a := l3) (xs := [V.ref t1, V.ref t2]) (fun i σ H' => ∃ v4 v5 : Option V, σ = [some v, some (.int n), some (.str x.shown), some (.ref l1), v4, v5] ∧ H' = Hn) ⟨none, none, rfl, rfl⟩ (fun i σ H' _ ⟨_, _, _, e⟩ => by rw [e]; exact SqL.of hl) ?_ ?_
    · rintro i y σ H' hy ⟨v4, v5, rfl, rfl⟩
      obtain ⟨t, b, rfl, ht⟩ : ∃ (t : Addr) (b : Bool), y = .ref t ∧ H' t = some (.tup [.bl b, .bl b]) := by
        match i, hy with
        | 0, hy => exact ⟨t1, _, (Option.some.inj hy).symm, ht1⟩
        | 1, hy => exact ⟨t2, _, (Option.some.inj hy).symm, ht2⟩
      refine ⟨t, _, rfl, SqT.of ht, rfl, _, _, rfl, _, _, rfl, rfl, ?_⟩
      refine ⟨_, rfl, _, _, _, _, true, rfl, .ty _, .base (.bl b), kit_ty (by decide +kernel), _, rfl, iteF ⟨_, rfl, _, rfl, rfl, _, rfl, ?_⟩⟩
      have e : (!decide (V.bl b = V.bl b)) = false := by rw [decide_eq_true rfl]; rfl
      rw [e]
      exact iteF ⟨_, _, rfl, rfl⟩
    · rintro σ H' ⟨v4, v5, rfl, rfl⟩
      refine ⟨_, rfl, v, x, rfl, hd.same sC, hok, hdep, by omega, _, rfl, rfl, ?_⟩
      have : decide (V.str x.shown = V.str x.shown) = true := decide_eq_true rfl
      rw [this]
      exact k H' sC
end
structure TxtL (mg : Str → Option Value) : Prop where
  range : mg "range" = none
  max : mg "max" = none
  min : mg "min" = none
theorem okAll_ints : ∀ xs : List Int, (∀ z ∈ xs, z.natAbs < 2 ^ 300) → okAll (xs.map .int) = true
  | [], _ => by rw [List.map_nil, okAll]
  | x :: r, h => by
    rw [List.map_cons, okAll, okD, okAll_ints r fun z hz => h z (List.mem_cons_of_mem _ hz), decide_eq_true (h x List.mem_cons_self)]
    rfl
theorem depthAll_ints0 : ∀ xs : List Int, PyData.depthAll (xs.map .int) = 0
  | [] => by rw [List.map_nil, PyData.depthAll]
  | x :: xs => by
    rw [List.map_cons, PyData.depthAll, depthAll_ints0 xs, PyData.depth]
    rfl
theorem DVs.intsV {K : PySem.W.Frag} {H : Hp} : ∀ ks : List Int, DVs K H (ks.map V.int) (ks.map PyData.int)
  | [] => .nil
  | k :: r => .cons (.int k) (DVs.intsV r)
/-- a thing that the law may begin with -/
structure Th (x : PyData) : Prop where
  ok : okD x = true
  sz : szD x ≤ 2000
  dep : x.depth ≤ 2
section
variable {P : Program} {w : World} {K : PySem.W.Frag} {mg : Str → Option Value} {base : Heap}
def spLaw (K : PySem.W.Frag) : Sp := fun vs H Q _ => ∃ (a : Addr) (ns : List Int), vs = [.ref a] ∧ SqL K H a (ns.map V.int) ∧ ns.length ≤ 63 ∧ (∀ z ∈ ns, Builtin.Int.intBits z ≤ 1048576) ∧ ∀ H', Q (.bl true) H'
abbrev NL : List Str := ["script", "start", "deck", "wide", "entry", "thing", "turn", "bent"]
theorem scLaw : FnScope NL ["script"] (defScope sLaw) := ⟨rfl, rfl, rfl, by decide +kernel, rfl, by decide +kernel, by decide +kernel⟩
theorem ok_law {f fDe fDr fF fRu fA fB fT : Addr} {fd fdDe fdDr fdF fdRu fdA fdB fdT : FuncData} (F : Fun K "law" "law" sLaw f fd) (TD : TxtD mg) (TL : TxtL mg)
    (De : Fn K mg "_law_deck" sDeck ["script", "start"] fDe fdDe) (Dr : Fn K mg "_law_draw" sDraw ["deck", "size"] fDr fdDr)
    (Fi : Fn K mg "_law_fields" sFields ["deck", "wide"] fF fdF) (GF : FnOk P w K mg base CX0 3 fF fdF ["deck", "wide"] spFields)
    (Ru : Fn K mg "_law_rule" sRule ["deck", "wide"] fRu fdRu) (GR : FnOk P w K mg base CX0 3 fRu fdRu ["deck", "wide"] spRule)
    (An : Fn K mg "_law_any" sAny ["deck"] fA fdA) (GA : FnOk P w K mg base CX0 3 fA fdA ["deck"] (spAny K))
    (Be : Fn K mg "_law_bent" sBent ["deck", "thing"] fB fdB) (GB : FnOk P w K mg base CX0 8 fB fdB ["deck", "thing"] (spBent K 5))
    (To : Fn K mg "_law_told" sTold ["thing", "wide"] fT fdT) (GT : FnG P w K mg base 5 fT fdT ["thing", "wide"] (spTold K)) : FnG P w K mg base 9 f fd ["script"] (spLaw K) := by
  have GDe : FnOk P w K mg base CX0 1 fDe fdDe ["script", "start"] (spDeck K) := ok_deck De.F TD
  have GDr : FnOk P w K mg base CX0 1 fDr fdDr ["deck", "size"] spDraw := ok_draw Dr.F
  refine FnG.mk' F scLaw (fun vs H Q E h => ?_) (fun cdv A outer s H vs Q E hg hr h => ?_)
  · obtain ⟨a, ns, rfl, _⟩ := h
    rfl
  · obtain ⟨a, ns, rfl, hS, hlen, hbits, k⟩ := h
    have hr1 : Room 1 _ := hr.mono (by decide)
    have hr3 : Room 3 _ := hr.mono (by decide)
    have hr5 : Room 5 _ := hr.mono (by decide)
    refine ⟨_, pss_cons (ps_for PassesOwn.never rfl (pi_range1 rfl TL.range (pa_cons (pe_callB (call_max2 rfl) (by rfl) TL.max (by decide +kernel) (pa_cons pe_int (pa_cons (pe_callB (call_min2 rfl) (by rfl) TL.min (by decide +kernel)
          (pa_cons pe_int (pa_cons (pe_callB call_len_seq (by rfl) TD.len PySem.boot_len (pa_cons (pv 0) pa_nil)) pa_nil))) pa_nil))) pa_nil)) (pg_name (i := 1) scLaw.nd rfl (Or.inl rfl))
        (pss_cons (ps_set (i := 2) scLaw.nd rfl (Or.inl rfl) (pe_call GDe hr1 rfl De.m De.F.kp De.b .nil pass0 (pa_cons (pv 0) (pa_cons (pv 1) pa_nil))))
        (pss_cons (ps_set (i := 3) scLaw.nd rfl (Or.inl rfl) (pe_op op_add pe_int (pe_call GDr hr1 rfl Dr.m Dr.F.kp Dr.b .nil pass0 (pa_cons (pv 2) (pa_cons pe_int pa_nil)))))
        (pss_cons (ps_set (i := 4) scLaw.nd rfl (Or.inl rfl) (pe_tup (pa_cons (pe_op op_add pe_int (pe_call GDr hr1 rfl Dr.m Dr.F.kp Dr.b .nil pass0 (pa_cons (pv 2) (pa_cons (pe_op op_pow pe_int pe_int) pa_nil))))
            (pa_cons (pe_call GF hr3 rfl Fi.m Fi.F.kp Fi.b .nil pass0 (pa_cons (pv 2) (pa_cons (pv 3) pa_nil))) pa_nil))))
        (pss_one (ps_for PassesOwn.never rfl (pi_list (pe_lst (pa_cons (pv 4) (pa_cons (pe_call GR hr3 rfl Ru.m Ru.F.kp Ru.b .nil pass0 (pa_cons (pv 2) (pa_cons (pv 3) pa_nil))) (pa_cons (pe_call GR hr3 rfl Ru.m Ru.F.kp Ru.b .nil pass0 (pa_cons (pv 2) (pa_cons (pv 3) pa_nil)))
              (pa_cons (pe_call GA hr3 rfl An.m An.F.kp An.b .nil pass0 (pa_cons (pv 2) pa_nil)) pa_nil)))))) (pg_name (i := 5) scLaw.nd rfl (Or.inl rfl))
          (pss_cons (ps_if (PW.pt (pw_or (pt_not (pt_val (pe_callG (E := E) GT hg hr5 rfl To.m To.F.kp To.b (pa_cons (pv 5) (pa_cons (pv 3) pa_nil)))))
              (pw_or1 (pt_not (pt_val (pe_callG (E := E) GT hg hr5 rfl To.m To.F.kp To.b (pa_cons (pv 5) (pa_cons (pe_op op_add pe_int (pe_call GDr hr1 rfl Dr.m Dr.F.kp Dr.b .nil pass0 (pa_cons (pv 2) (pa_cons pe_int pa_nil)))) pa_nil)))))))) (pss_one (ps_ret pe_bl)) pss_nil)
          (pss_one (ps_for PassesOwn.never rfl (pi_range1 rfl TL.range (pa_cons pe_int pa_nil)) (pg_name (i := 6) scLaw.nd rfl (Or.inl rfl))
            (pss_cons (ps_set (i := 7) scLaw.nd rfl (Or.inl rfl) (pe_call GB hr rfl Be.m Be.F.kp Be.b .nil pass0 (pa_cons (pv 2) (pa_cons (pv 5) pa_nil))))
            (pss_cons (ps_if (pt_cmpR op_gt (pv 6) pe_int (nomark _)) (pss_one (ps_set (i := 7) scLaw.nd rfl (Or.inl rfl) (pe_call GB hr rfl Be.m Be.F.kp Be.b .nil pass0 (pa_cons (pv 2) (pa_cons (pv 7) pa_nil))))) pss_nil)
            (pss_one (ps_if (pt_not (pt_val (pe_callG (E := E) GT hg hr5 rfl To.m To.F.kp To.b (pa_cons (pv 7) (pa_cons (pv 3) pa_nil))))) (pss_one (ps_ret pe_bl)) pss_nil)))))))))))))
      (pss_one (ps_ret pe_bl)), ?_⟩
    have h16 : sizeLine = 16777216 := sizeLine_eq
    obtain ⟨J, hJ, hJ0, hJ6⟩ : ∃ J : Int, J = (if (if (((ns.map V.int).length : Nat) : Int) < 5 then (((ns.map V.int).length : Nat) : Int) else 5) > 2 then (if (((ns.map V.int).length : Nat) : Int) < 5 then (((ns.map V.int).length : Nat) : Int) else 5) else 2) ∧ 0 ≤ J ∧ J ≤ 6 := by
      refine ⟨_, rfl, ?_, ?_⟩
      · split <;> split <;> omega
      · split <;> split <;> omega
    refine ⟨_, rfl, a, _, rfl, .inl hS, _, _, rfl, _, _, rfl, J, by rw [hJ], by omega, by omega, ?_⟩
    refine for_range (lo := 0) (n := J.toNat) (fun i σ H' => (∃ v1 v2 v3 v4 v5 v6 v7 : Option V, σ = [some (.ref a), v1, v2, v3, v4, v5, v6, v7]) ∧ Same H H')
      ⟨⟨none, none, none, none, none, none, none, rfl⟩, Same.refl H⟩ ?_ ?_
    · rintro st σ H0 hst ⟨⟨v1, v2, v3, v4, v5, v6, v7, rfl⟩, s0⟩
      -- deck
      refine ⟨_, rfl, _, rfl, a, ns, _, rfl, Same.sq s0 hS, hlen, hbits, by omega, by omega, fun d Hd hd sd D => ?_⟩
      have hHd : H d = none := Same.free s0 hd
      have sd0 : Same H Hd := s0.trans sd
      -- wide
      refine ⟨_, rfl, d, 4, rfl, D, by decide, by decide, fun r1 H1 r10 r11 D1 B1 => ⟨_, _, rfl, rfl, ?_⟩⟩
      obtain ⟨m1, rfl⟩ : ∃ m : Nat, r1 = (m : Int) := ⟨r1.toNat, by omega⟩
      obtain ⟨n, hn⟩ : ∃ n : Nat, n = 1 + m1 := ⟨_, rfl⟩
      have en : (1 : Int) + (m1 : Int) = (n : Int) := by omega
      have hn1 : 1 ≤ (n : Int) := by omega
      have hn4 : (n : Int) ≤ 4 := by omega
      show gName 3 (V.int (1 + (m1 : Int))) _ _ _
      rw [en]
      -- entry
      refine ⟨_, rfl, _, _, rfl, rfl, ⟨by decide, by decide, by decide⟩, d, _, rfl, D1, (by rw [pow6]; decide), (by rw [pow6]; decide), fun r2 H2 r20 r21 D2 B2 => ⟨_, _, rfl, rfl, ?_⟩⟩
      rw [pow6] at r21
      refine ⟨_, rfl, _, rfl, d, n, rfl, D2, by omega, fun pf js H3 B3 D3 hpf hjl hjb => ?_⟩
      refine ⟨by show 2 ≤ sizeLine; omega, fun pe hpe => ?_⟩
      have s4 := Same.new (o := .tup [V.int (1 + r2), V.ref pf]) hpe
      have D4 := D3.same s4
      have B4 : But d Hd _ := ((B1.trans B2).trans B3).trans (But.of s4)
      have hsj : szAll (js.map PyData.int) ≤ 1212 := by
        rw [szAll_ints]
        omega
      have th0 : Th (.tuple [.int (1 + r2), .tuple (js.map .int)]) := by
        refine ⟨?_, ?_, ?_⟩
        · rw [okD, okAll, okAll, okAll, okD, okD, okAll_ints js fun z hz => by have := hjb z hz; exact small_abs (by omega) (by omega), decide_eq_true (small_abs (by omega) (by omega))]
          rfl
        · rw [szD, szAll, szAll, szAll, szD, szD]
          omega
        · rw [PyData.depth, PyData.depthAll, PyData.depthAll, PyData.depthAll, PyData.depth, PyData.depth, depthAll_ints0]
          decide
      have hv0 : DV K _ (V.ref pe) (.tuple [.int (1 + r2), .tuple (js.map .int)]) := .tup (SqT.of (upd_same (H := H3) (a := pe))) (.cons (.int _) (.cons (.tup (SqT.of (s4 _ _ hpf)) (DVs.intsV js)) .nil))
      have ruleTh : ∀ rs : List Int, rs.length ≤ 4 → (∀ z ∈ rs, -4 ≤ z ∧ z ≤ 4) → Th (.tuple (rs.map .int)) := fun rs h1 h2 => by
        have hz : szAll (rs.map PyData.int) ≤ 1212 := by rw [szAll_ints]; omega
        refine ⟨?_, ?_, ?_⟩
        · rw [okD]
          exact okAll_ints rs fun z hz => by have := h2 z hz; exact small_abs (by omega) (by omega)
        · rw [szD]
          omega
        · rw [PyData.depth, depthAll_ints0]
          decide
      -- the things
      refine ⟨_, rfl, ?_⟩
      refine ⟨_, rfl, _, rfl, d, n, rfl, D4, by omega, fun q1 k1 H5 B5 D5 hq1 hk1 hk1b => ?_⟩
      have hw1 : DV K H5 (V.ref q1) (.tuple (k1.map .int)) := .tup (SqT.of hq1) (DVs.intsV k1)
      refine ⟨_, rfl, _, rfl, d, n, rfl, D5, by omega, fun q2 k2 H6 B6 D6 hq2 hk2 hk2b => ?_⟩
      have hw2 : DV K H6 (V.ref q2) (.tuple (k2.map .int)) := .tup (SqT.of hq2) (DVs.intsV k2)
      refine ⟨_, rfl, d, rfl, D6, fun v3' x3 H7 hv3 ok3 sz3 dp3 D7 B7 => ?_⟩
      refine ⟨by show 4 ≤ sizeLine; omega, fun l hl => ?_⟩
      have s8 := Same.new (o := .lst [V.ref pe, V.ref q1, V.ref q2, v3']) hl
      have D8 := D7.same s8
      have B8 : But d Hd _ := (((B4.trans B5).trans B6).trans B7).trans (But.of s8)
      obtain ⟨Hl, hHl⟩ : ∃ Hl, Hl = upd H7 l (.lst [V.ref pe, V.ref q1, V.ref q2, v3']) := ⟨_, rfl⟩
      have hL : Hl l = some (.lst [V.ref pe, V.ref q1, V.ref q2, v3']) := by rw [hHl]; exact upd_same
      rw [← hHl] at s8 D8 B8 ⊢
      have hD : DVs K Hl [V.ref pe, V.ref q1, V.ref q2, v3'] [.tuple [.int (1 + r2), .tuple (js.map .int)], .tuple (k1.map .int), .tuple (k2.map .int), x3] :=
        .cons ((((hv0.but D4 B5).but D5 B6).but D6 B7).same s8) (.cons (((hw1.but D5 B6).but D6 B7).same s8) (.cons ((hw2.but D6 B7).same s8) (.cons (hv3.same s8) .nil)))
      have hT : ∀ x ∈ [PyData.tuple [.int (1 + r2), .tuple (js.map .int)], .tuple (k1.map .int), .tuple (k2.map .int), x3], Th x := by
        intro x hx
        rcases List.mem_cons.mp hx with e | hx
        · rw [e]; exact th0
        rcases List.mem_cons.mp hx with e | hx
        · rw [e]; exact ruleTh k1 hk1 hk1b
        rcases List.mem_cons.mp hx with e | hx
        · rw [e]; exact ruleTh k2 hk2 hk2b
        rcases List.mem_cons.mp hx with e | hx
        · rw [e]; exact ⟨ok3, by omega, by omega⟩
        · cases hx
      refine ⟨l, rfl, ⟨_, SqL.of hL⟩, ?_⟩
      refine for_list (K := K) (a := l) (xs := [V.ref pe, V.ref q1, V.ref q2, v3']) (fun i σ H' => (∃ v5 v6 v7 : Option V, σ = [some (.ref a), some (.int (0 + (st : Int))), some (.ref d), some (.int n), some (.ref pe), v5, v6, v7]) ∧ But d Hl H' ∧ DeckAt H' d)
        ⟨⟨_, _, _, rfl⟩, But.refl d Hl, D8⟩ (fun i σ H' _ q => SqL.of (q.2.1.lst D8 hL)) ?_ ?_
      · rintro i v σ H9 hi ⟨⟨v5, v6, v7, rfl⟩, B9, D9⟩
        obtain ⟨x, hx, hvx⟩ := hD.at hi
        have th := hT x (List.mem_of_getElem? hx)
        have hv9 := hvx.but D8 B9
        have sz9 := th.sz
        have dp9 := th.dep
        refine ⟨_, rfl, _, rfl, v, x, n, rfl, hv9, th.ok, by omega, by omega, hn1, hn4, fun H10 s10 => ⟨_, rfl, iteF ?_⟩⟩
        refine ⟨_, rfl, _, rfl, d, 4, rfl, D9.same s10, by decide, by decide, fun r4 H11 r40 r41 D11 B11 => ⟨_, _, rfl, rfl, ?_⟩⟩
        have B11' : But d Hl H11 := (B9.trans (But.of s10)).trans B11
        refine ⟨v, x, 1 + r4, rfl, hvx.but D8 B11', th.ok, by omega, by omega, by omega, by omega, fun H12 s12 => ⟨_, rfl, iteF ?_⟩⟩
        refine ⟨7, rfl, by decide, by decide, ?_⟩
        refine for_range (lo := 0) (n := (7 : Int).toNat) (fun i σ H' => (∃ v6 v7 : Option V, σ = [some (.ref a), some (.int (0 + (st : Int))), some (.ref d), some (.int n), some (.ref pe), some v, v6, v7]) ∧ But d Hl H' ∧ DeckAt H' d)
          ⟨⟨_, _, rfl⟩, B11'.trans (But.of s12), D11.same s12⟩ ?_ ?_
        · rintro j σ H13 hj ⟨⟨v6, v7, rfl⟩, B13, D13⟩
          refine ⟨_, rfl, _, rfl, d, v, x, rfl, D13, hvx.but D8 B13, th.ok, by omega, by omega, fun y x' H14 hy ok' sz' dp' D14 B14 => ?_⟩
          have B14' := B13.trans B14
          refine ⟨_, rfl, _, _, rfl, rfl, _, rfl, ?_⟩
          refine ite2 (fun _ => ?_) (fun _ => ?_)
          · refine ⟨_, rfl, _, rfl, d, y, x', rfl, D14, hy, ok', by omega, by omega, fun y2 x2 H15 hy2 ok2 sz2 dp2 D15 B15 => ?_⟩
            refine ⟨_, rfl, _, rfl, y2, x2, n, rfl, hy2, ok2, by omega, by omega, hn1, hn4, fun H16 s16 => ⟨_, rfl, iteF ?_⟩⟩
            exact ⟨⟨_, _, rfl⟩, (B14'.trans B15).trans (But.of s16), D15.same s16⟩
          · refine ⟨_, rfl, _, rfl, y, x', n, rfl, hy, ok', by omega, by omega, hn1, hn4, fun H16 s16 => ⟨_, rfl, iteF ?_⟩⟩
            exact ⟨⟨_, _, rfl⟩, B14'.trans (But.of s16), D14.same s16⟩
        · rintro σ H13 ⟨⟨v6, v7, rfl⟩, B13, D13⟩
          exact ⟨⟨_, _, _, rfl⟩, B13, D13⟩
      · rintro σ H9 ⟨⟨v5, v6, v7, rfl⟩, B9, D9⟩
        refine ⟨⟨_, _, _, _, _, _, _, rfl⟩, fun b u hb => ?_⟩
        exact B9 b u (ne_of_none hb hHd) (B8 b u (ne_of_none hb hHd) (sd0 b u hb))
    · rintro σ H0 ⟨⟨v1, v2, v3, v4, v5, v6, v7, rfl⟩, s0⟩
      exact k _
end
/-! ### what the top has written, the head -/
theorem all_mk {l : PySem.W.OpenLaw} {w : World} {K : PySem.W.Frag} {h : Heap} {mg : Str → Option Value} {fa : Addr} (X : K.In h) (G : h.Ns mainGlobals mg) (hfa : mg "law" = some (.ref fa))
    {f1 : Addr} {od1 an1 : Option Addr} {sl1 : Array (Option Value)} {oc1 kV1 dc1 pm1 cd1 ct1 : Value}
    {f2 : Addr} {od2 an2 : Option Addr} {sl2 : Array (Option Value)} {oc2 kV2 dc2 pm2 cd2 ct2 : Value}
    {f3 : Addr} {od3 an3 : Option Addr} {sl3 : Array (Option Value)} {oc3 kV3 dc3 pm3 cd3 ct3 : Value}
    {f4 : Addr} {od4 an4 : Option Addr} {sl4 : Array (Option Value)} {oc4 kV4 dc4 pm4 cd4 ct4 : Value}
    {f5 : Addr} {od5 an5 : Option Addr} {sl5 : Array (Option Value)} {oc5 kV5 dc5 pm5 cd5 ct5 : Value}
    {f6 : Addr} {od6 an6 : Option Addr} {sl6 : Array (Option Value)} {oc6 kV6 dc6 pm6 cd6 ct6 : Value}
    {f7 : Addr} {od7 an7 : Option Addr} {sl7 : Array (Option Value)} {oc7 kV7 dc7 pm7 cd7 ct7 : Value}
    {f8 : Addr} {od8 an8 : Option Addr} {sl8 : Array (Option Value)} {oc8 kV8 dc8 pm8 cd8 ct8 : Value}
    {f9 : Addr} {od9 an9 : Option Addr} {sl9 : Array (Option Value)} {oc9 kV9 dc9 pm9 cd9 ct9 : Value}
    {f10 : Addr} {od10 an10 : Option Addr} {sl10 : Array (Option Value)} {oc10 kV10 dc10 pm10 cd10 ct10 : Value}
    {f11 : Addr} {od11 an11 : Option Addr} {sl11 : Array (Option Value)} {oc11 kV11 dc11 pm11 cd11 ct11 : Value}
    {f12 : Addr} {od12 an12 : Option Addr} {sl12 : Array (Option Value)} {oc12 kV12 dc12 pm12 cd12 ct12 : Value}
    {f13 : Addr} {od13 an13 : Option Addr} {sl13 : Array (Option Value)} {oc13 kV13 dc13 pm13 cd13 ct13 : Value}
    {f14 : Addr} {od14 an14 : Option Addr} {sl14 : Array (Option Value)} {oc14 kV14 dc14 pm14 cd14 ct14 : Value}
    {f15 : Addr} {od15 an15 : Option Addr} {sl15 : Array (Option Value)} {oc15 kV15 dc15 pm15 cd15 ct15 : Value}
    {f16 : Addr} {od16 an16 : Option Addr} {sl16 : Array (Option Value)} {oc16 kV16 dc16 pm16 cd16 ct16 : Value}
    {f17 : Addr} {od17 an17 : Option Addr} {sl17 : Array (Option Value)} {oc17 kV17 dc17 pm17 cd17 ct17 : Value}
    {f18 : Addr} {od18 an18 : Option Addr} {sl18 : Array (Option Value)} {oc18 kV18 dc18 pm18 cd18 ct18 : Value}
    {f19 : Addr} {od19 an19 : Option Addr} {sl19 : Array (Option Value)} {oc19 kV19 dc19 pm19 cd19 ct19 : Value}
    {f20 : Addr} {od20 an20 : Option Addr} {sl20 : Array (Option Value)} {oc20 kV20 dc20 pm20 cd20 ct20 : Value}
    {gt0 : Tok}
    {gt1 : Tok}
    {gt2 : Tok}
    (a1 : PySem.W.nsIn K mainGlobals "is_whole" = some (some (.ref f1))) (l1 : K.lookup f1 = some ⟨oc1, od1, .func (PySem.W.fnOf "is_whole" "is_whole" (defArgs sWhole) (defBody sWhole) (defScope sWhole) .none kV1 dc1 pm1 an1 cd1 ct1), sl1⟩) (c1 : PySem.W.codeIn K cd1 "is_whole" = true) (k1 : PySem.W.keepIn K (.ref f1) = true)
    (a2 : PySem.W.nsIn K mainGlobals "is_within" = some (some (.ref f2))) (l2 : K.lookup f2 = some ⟨oc2, od2, .func (PySem.W.fnOf "is_within" "is_within" (defArgs sWithin) (defBody sWithin) (defScope sWithin) .none kV2 dc2 pm2 an2 cd2 ct2), sl2⟩) (c2 : PySem.W.codeIn K cd2 "is_within" = true) (k2 : PySem.W.keepIn K (.ref f2) = true)
    (a3 : PySem.W.nsIn K mainGlobals "all_different" = some (some (.ref f3))) (l3 : K.lookup f3 = some ⟨oc3, od3, .func (PySem.W.fnOf "all_different" "all_different" (defArgs sDiff) (defBody sDiff) (defScope sDiff) .none kV3 dc3 pm3 an3 cd3 ct3), sl3⟩) (c3 : PySem.W.codeIn K cd3 "all_different" = true) (k3 : PySem.W.keepIn K (.ref f3) = true)
    (a4 : PySem.W.nsIn K mainGlobals "is_id" = some (some (.ref f4))) (l4 : K.lookup f4 = some ⟨oc4, od4, .func (PySem.W.fnOf "is_id" "is_id" (defArgs sIsId) (defBody sIsId) (defScope sIsId) .none kV4 dc4 pm4 an4 cd4 ct4), sl4⟩) (c4 : PySem.W.codeIn K cd4 "is_id" = true) (k4 : PySem.W.keepIn K (.ref f4) = true)
    (a5 : PySem.W.nsIn K mainGlobals "are_fields" = some (some (.ref f5))) (l5 : K.lookup f5 = some ⟨oc5, od5, .func (PySem.W.fnOf "are_fields" "are_fields" (defArgs sAreFields) (defBody sAreFields) (defScope sAreFields) .none kV5 dc5 pm5 an5 cd5 ct5), sl5⟩) (c5 : PySem.W.codeIn K cd5 "are_fields" = true) (k5 : PySem.W.keepIn K (.ref f5) = true)
    (a6 : PySem.W.nsIn K mainGlobals "is_item" = some (some (.ref f6))) (l6 : K.lookup f6 = some ⟨oc6, od6, .func (PySem.W.fnOf "is_item" "is_item" (defArgs sIsItem) (defBody sIsItem) (defScope sIsItem) .none kV6 dc6 pm6 an6 cd6 ct6), sl6⟩) (c6 : PySem.W.codeIn K cd6 "is_item" = true) (k6 : PySem.W.keepIn K (.ref f6) = true)
    (a7 : PySem.W.nsIn K mainGlobals "is_rule" = some (some (.ref f7))) (l7 : K.lookup f7 = some ⟨oc7, od7, .func (PySem.W.fnOf "is_rule" "is_rule" (defArgs sIsRule) (defBody sIsRule) (defScope sIsRule) .none kV7 dc7 pm7 an7 cd7 ct7), sl7⟩) (c7 : PySem.W.codeIn K cd7 "is_rule" = true) (k7 : PySem.W.keepIn K (.ref f7) = true)
    (a8 : PySem.W.nsIn K mainGlobals "_law_deck" = some (some (.ref f8))) (l8 : K.lookup f8 = some ⟨oc8, od8, .func (PySem.W.fnOf "_law_deck" "_law_deck" (defArgs sDeck) (defBody sDeck) (defScope sDeck) .none kV8 dc8 pm8 an8 cd8 ct8), sl8⟩) (c8 : PySem.W.codeIn K cd8 "_law_deck" = true) (k8 : PySem.W.keepIn K (.ref f8) = true)
    (a9 : PySem.W.nsIn K mainGlobals "_law_draw" = some (some (.ref f9))) (l9 : K.lookup f9 = some ⟨oc9, od9, .func (PySem.W.fnOf "_law_draw" "_law_draw" (defArgs sDraw) (defBody sDraw) (defScope sDraw) .none kV9 dc9 pm9 an9 cd9 ct9), sl9⟩) (c9 : PySem.W.codeIn K cd9 "_law_draw" = true) (k9 : PySem.W.keepIn K (.ref f9) = true)
    (a10 : PySem.W.nsIn K mainGlobals "_law_choose" = some (some (.ref f10))) (l10 : K.lookup f10 = some ⟨oc10, od10, .func (PySem.W.fnOf "_law_choose" "_law_choose" (defArgs sChoose) (defBody sChoose) (defScope sChoose) .none kV10 dc10 pm10 an10 cd10 ct10), sl10⟩) (c10 : PySem.W.codeIn K cd10 "_law_choose" = true) (k10 : PySem.W.keepIn K (.ref f10) = true)
    (a11 : PySem.W.nsIn K mainGlobals "_law_shuffled" = some (some (.ref f11))) (l11 : K.lookup f11 = some ⟨oc11, od11, .func (PySem.W.fnOf "_law_shuffled" "_law_shuffled" (defArgs sShuf) (defBody sShuf) (defScope sShuf) .none kV11 dc11 pm11 an11 cd11 ct11), sl11⟩) (c11 : PySem.W.codeIn K cd11 "_law_shuffled" = true) (k11 : PySem.W.keepIn K (.ref f11) = true)
    (a12 : PySem.W.nsIn K mainGlobals "_law_fields" = some (some (.ref f12))) (l12 : K.lookup f12 = some ⟨oc12, od12, .func (PySem.W.fnOf "_law_fields" "_law_fields" (defArgs sFields) (defBody sFields) (defScope sFields) .none kV12 dc12 pm12 an12 cd12 ct12), sl12⟩) (c12 : PySem.W.codeIn K cd12 "_law_fields" = true) (k12 : PySem.W.keepIn K (.ref f12) = true)
    (a13 : PySem.W.nsIn K mainGlobals "_law_rule" = some (some (.ref f13))) (l13 : K.lookup f13 = some ⟨oc13, od13, .func (PySem.W.fnOf "_law_rule" "_law_rule" (defArgs sRule) (defBody sRule) (defScope sRule) .none kV13 dc13 pm13 an13 cd13 ct13), sl13⟩) (c13 : PySem.W.codeIn K cd13 "_law_rule" = true) (k13 : PySem.W.keepIn K (.ref f13) = true)
    (a14 : PySem.W.nsIn K mainGlobals "_law_whole_number" = some (some (.ref f14))) (l14 : K.lookup f14 = some ⟨oc14, od14, .func (PySem.W.fnOf "_law_whole_number" "_law_whole_number" (defArgs sWholeNum) (defBody sWholeNum) (defScope sWholeNum) .none kV14 dc14 pm14 an14 cd14 ct14), sl14⟩) (c14 : PySem.W.codeIn K cd14 "_law_whole_number" = true) (k14 : PySem.W.keepIn K (.ref f14) = true)
    (a15 : PySem.W.nsIn K mainGlobals "_law_item_due" = some (some (.ref f15))) (l15 : K.lookup f15 = some ⟨oc15, od15, .func (PySem.W.fnOf "_law_item_due" "_law_item_due" (defArgs sItemDue) (defBody sItemDue) (defScope sItemDue) .none kV15 dc15 pm15 an15 cd15 ct15), sl15⟩) (c15 : PySem.W.codeIn K cd15 "_law_item_due" = true) (k15 : PySem.W.keepIn K (.ref f15) = true)
    (a16 : PySem.W.nsIn K mainGlobals "_law_rule_due" = some (some (.ref f16))) (l16 : K.lookup f16 = some ⟨oc16, od16, .func (PySem.W.fnOf "_law_rule_due" "_law_rule_due" (defArgs sRuleDue) (defBody sRuleDue) (defScope sRuleDue) .none kV16 dc16 pm16 an16 cd16 ct16), sl16⟩) (c16 : PySem.W.codeIn K cd16 "_law_rule_due" = true) (k16 : PySem.W.keepIn K (.ref f16) = true)
    (a17 : PySem.W.nsIn K mainGlobals "_law_any" = some (some (.ref f17))) (l17 : K.lookup f17 = some ⟨oc17, od17, .func (PySem.W.fnOf "_law_any" "_law_any" (defArgs sAny) (defBody sAny) (defScope sAny) .none kV17 dc17 pm17 an17 cd17 ct17), sl17⟩) (c17 : PySem.W.codeIn K cd17 "_law_any" = true) (k17 : PySem.W.keepIn K (.ref f17) = true)
    (a18 : PySem.W.nsIn K mainGlobals "_law_bent" = some (some (.ref f18))) (l18 : K.lookup f18 = some ⟨oc18, od18, .func (PySem.W.fnOf "_law_bent" "_law_bent" (defArgs sBent) (defBody sBent) (defScope sBent) .none kV18 dc18 pm18 an18 cd18 ct18), sl18⟩) (c18 : PySem.W.codeIn K cd18 "_law_bent" = true) (k18 : PySem.W.keepIn K (.ref f18) = true)
    (a19 : PySem.W.nsIn K mainGlobals "_law_told" = some (some (.ref f19))) (l19 : K.lookup f19 = some ⟨oc19, od19, .func (PySem.W.fnOf "_law_told" "_law_told" (defArgs sTold) (defBody sTold) (defScope sTold) .none kV19 dc19 pm19 an19 cd19 ct19), sl19⟩) (c19 : PySem.W.codeIn K cd19 "_law_told" = true) (k19 : PySem.W.keepIn K (.ref f19) = true)
    (a20 : PySem.W.nsIn K mainGlobals "law" = some (some (.ref f20))) (l20 : K.lookup f20 = some ⟨oc20, od20, .func (PySem.W.fnOf "law" "law" (defArgs sLaw) (defBody sLaw) (defScope sLaw) .none kV20 dc20 pm20 an20 cd20 ct20), sl20⟩) (c20 : PySem.W.codeIn K cd20 "law" = true) (k20 : PySem.W.keepIn K (.ref f20) = true)
    (z0 : PySem.W.nsIn K mainGlobals "len" = some none)
    (z1 : PySem.W.nsIn K mainGlobals "isinstance" = some none)
    (z2 : PySem.W.nsIn K mainGlobals "int" = some none)
    (z3 : PySem.W.nsIn K mainGlobals "bool" = some none)
    (z4 : PySem.W.nsIn K mainGlobals "tuple" = some none)
    (z5 : PySem.W.nsIn K mainGlobals "set" = some none)
    (z6 : PySem.W.nsIn K mainGlobals "all" = some none)
    (z7 : PySem.W.nsIn K mainGlobals "list" = some none)
    (z8 : PySem.W.nsIn K mainGlobals "range" = some none)
    (z9 : PySem.W.nsIn K mainGlobals "max" = some none)
    (z10 : PySem.W.nsIn K mainGlobals "min" = some none)
    (z11 : PySem.W.nsIn K mainGlobals "repr" = some none)
    (z12 : PySem.W.nsIn K mainGlobals "abs" = some none)
    (cst0 : PySem.W.nsIn K mainGlobals "GREATEST_ID" = some (some (.int 1000000 gt0)))
    (cst1 : PySem.W.nsIn K mainGlobals "GREATEST_FIELD" = some (some (.int 1000000000 gt1)))
    (cst2 : PySem.W.nsIn K mainGlobals "MOST_FIELDS" = some (some (.int 4 gt2)))
    : ∃ fd : FuncData, (∀ (s : Shared) (v : Value), BindsTo s fd ⟨[v], []⟩ [("script", v)]) ∧ ∀ base : Heap, K.In base → base.Ns mainGlobals mg → FnG l.prog w K mg base 9 fa fd ["script"] (spLaw K) := by
  have e := hfa.symm.trans (PySem.W.mg_of X G a20)
  cases e
  have n_len := PySem.W.mg_none_of X G z0
  have n_isinstance := PySem.W.mg_none_of X G z1
  have n_int := PySem.W.mg_none_of X G z2
  have n_bool := PySem.W.mg_none_of X G z3
  have n_tuple := PySem.W.mg_none_of X G z4
  have n_set := PySem.W.mg_none_of X G z5
  have n_all := PySem.W.mg_none_of X G z6
  have n_list := PySem.W.mg_none_of X G z7
  have n_range := PySem.W.mg_none_of X G z8
  have n_max := PySem.W.mg_none_of X G z9
  have n_min := PySem.W.mg_none_of X G z10
  have n_repr := PySem.W.mg_none_of X G z11
  have n_abs := PySem.W.mg_none_of X G z12
  have F1 := fun_mk (st := sWhole) l1 c1 k1
  have b1 := F1.binds (ps := ["value"]) fun _ _ _ _ _ _ us hl => match us, hl with | [_], _ => rfl
  have W : Fn K mg "is_whole" sWhole ["value"] f1 _ := ⟨F1, b1, PySem.W.mg_of X G a1⟩
  have F2 := fun_mk (st := sWithin) l2 c2 k2
  have b2 := F2.binds (ps := ["value", "low", "high"]) fun _ _ _ _ _ _ us hl => match us, hl with | [_, _, _], _ => rfl
  have Wi : Fn K mg "is_within" sWithin ["value", "low", "high"] f2 _ := ⟨F2, b2, PySem.W.mg_of X G a2⟩
  have F3 := fun_mk (st := sDiff) l3 c3 k3
  have b3 := F3.binds (ps := ["numbers"]) fun _ _ _ _ _ _ us hl => match us, hl with | [_], _ => rfl
  have D : Fn K mg "all_different" sDiff ["numbers"] f3 _ := ⟨F3, b3, PySem.W.mg_of X G a3⟩
  have F4 := fun_mk (st := sIsId) l4 c4 k4
  have b4 := F4.binds (ps := ["value"]) fun _ _ _ _ _ _ us hl => match us, hl with | [_], _ => rfl
  have II : Fn K mg "is_id" sIsId ["value"] f4 _ := ⟨F4, b4, PySem.W.mg_of X G a4⟩
  have F5 := fun_mk (st := sAreFields) l5 c5 k5
  have b5 := F5.binds (ps := ["value", "width"]) fun _ _ _ _ _ _ us hl => match us, hl with | [_, _], _ => rfl
  have AF : Fn K mg "are_fields" sAreFields ["value", "width"] f5 _ := ⟨F5, b5, PySem.W.mg_of X G a5⟩
  have F6 := fun_mk (st := sIsItem) l6 c6 k6
  have b6 := F6.binds (ps := ["value", "width"]) fun _ _ _ _ _ _ us hl => match us, hl with | [_, _], _ => rfl
  have It : Fn K mg "is_item" sIsItem ["value", "width"] f6 _ := ⟨F6, b6, PySem.W.mg_of X G a6⟩
  have F7 := fun_mk (st := sIsRule) l7 c7 k7
  have b7 := F7.binds (ps := ["value", "width"]) fun _ _ _ _ _ _ us hl => match us, hl with | [_, _], _ => rfl
  have R0 : Fn K mg "is_rule" sIsRule ["value", "width"] f7 _ := ⟨F7, b7, PySem.W.mg_of X G a7⟩
  have F8 := fun_mk (st := sDeck) l8 c8 k8
  have b8 := F8.binds (ps := ["script", "start"]) fun _ _ _ _ _ _ us hl => match us, hl with | [_, _], _ => rfl
  have De : Fn K mg "_law_deck" sDeck ["script", "start"] f8 _ := ⟨F8, b8, PySem.W.mg_of X G a8⟩
  have F9 := fun_mk (st := sDraw) l9 c9 k9
  have b9 := F9.binds (ps := ["deck", "size"]) fun _ _ _ _ _ _ us hl => match us, hl with | [_, _], _ => rfl
  have Dr : Fn K mg "_law_draw" sDraw ["deck", "size"] f9 _ := ⟨F9, b9, PySem.W.mg_of X G a9⟩
  have F10 := fun_mk (st := sChoose) l10 c10 k10
  have b10 := F10.binds (ps := ["deck", "things"]) fun _ _ _ _ _ _ us hl => match us, hl with | [_, _], _ => rfl
  have Ch : Fn K mg "_law_choose" sChoose ["deck", "things"] f10 _ := ⟨F10, b10, PySem.W.mg_of X G a10⟩
  have F11 := fun_mk (st := sShuf) l11 c11 k11
  have b11 := F11.binds (ps := ["deck", "things"]) fun _ _ _ _ _ _ us hl => match us, hl with | [_, _], _ => rfl
  have Sh : Fn K mg "_law_shuffled" sShuf ["deck", "things"] f11 _ := ⟨F11, b11, PySem.W.mg_of X G a11⟩
  have F12 := fun_mk (st := sFields) l12 c12 k12
  have b12 := F12.binds (ps := ["deck", "wide"]) fun _ _ _ _ _ _ us hl => match us, hl with | [_, _], _ => rfl
  have Fi : Fn K mg "_law_fields" sFields ["deck", "wide"] f12 _ := ⟨F12, b12, PySem.W.mg_of X G a12⟩
  have F13 := fun_mk (st := sRule) l13 c13 k13
  have b13 := F13.binds (ps := ["deck", "wide"]) fun _ _ _ _ _ _ us hl => match us, hl with | [_, _], _ => rfl
  have Ru : Fn K mg "_law_rule" sRule ["deck", "wide"] f13 _ := ⟨F13, b13, PySem.W.mg_of X G a13⟩
  have F14 := fun_mk (st := sWholeNum) l14 c14 k14
  have b14 := F14.binds (ps := ["thing", "least", "most"]) fun _ _ _ _ _ _ us hl => match us, hl with | [_, _, _], _ => rfl
  have WN : Fn K mg "_law_whole_number" sWholeNum ["thing", "least", "most"] f14 _ := ⟨F14, b14, PySem.W.mg_of X G a14⟩
  have F15 := fun_mk (st := sItemDue) l15 c15 k15
  have b15 := F15.binds (ps := ["thing", "wide"]) fun _ _ _ _ _ _ us hl => match us, hl with | [_, _], _ => rfl
  have ID : Fn K mg "_law_item_due" sItemDue ["thing", "wide"] f15 _ := ⟨F15, b15, PySem.W.mg_of X G a15⟩
  have F16 := fun_mk (st := sRuleDue) l16 c16 k16
  have b16 := F16.binds (ps := ["thing", "wide"]) fun _ _ _ _ _ _ us hl => match us, hl with | [_, _], _ => rfl
  have RD : Fn K mg "_law_rule_due" sRuleDue ["thing", "wide"] f16 _ := ⟨F16, b16, PySem.W.mg_of X G a16⟩
  have F17 := fun_mk (st := sAny) l17 c17 k17
  have b17 := F17.binds (ps := ["deck"]) fun _ _ _ _ _ _ us hl => match us, hl with | [_], _ => rfl
  have An : Fn K mg "_law_any" sAny ["deck"] f17 _ := ⟨F17, b17, PySem.W.mg_of X G a17⟩
  have F18 := fun_mk (st := sBent) l18 c18 k18
  have b18 := F18.binds (ps := ["deck", "thing"]) fun _ _ _ _ _ _ us hl => match us, hl with | [_, _], _ => rfl
  have Be : Fn K mg "_law_bent" sBent ["deck", "thing"] f18 _ := ⟨F18, b18, PySem.W.mg_of X G a18⟩
  have F19 := fun_mk (st := sTold) l19 c19 k19
  have b19 := F19.binds (ps := ["thing", "wide"]) fun _ _ _ _ _ _ us hl => match us, hl with | [_, _], _ => rfl
  have To : Fn K mg "_law_told" sTold ["thing", "wide"] f19 _ := ⟨F19, b19, PySem.W.mg_of X G a19⟩
  exact ⟨PySem.W.fnOf "law" "law" (defArgs sLaw) (defBody sLaw) (defScope sLaw) .none kV20 dc20 pm20 an20 cd20 ct20, fun s v => .of_eq rfl, fun base _ _ =>
    (have TV : TxtV mg := ⟨n_len, n_isinstance, n_int, n_bool, n_tuple, n_set, n_all, n_list⟩
    have TI : TxtI mg := ⟨⟨_, PySem.W.mg_of X G cst0⟩, ⟨_, PySem.W.mg_of X G cst1⟩, ⟨_, PySem.W.mg_of X G cst2⟩, n_abs⟩
    have TF : TxtF mg := ⟨n_range, n_tuple, n_list, n_len⟩
    have GWi := ok_within Wi.F TV W.F W.b W.m
    have GII := ok_isId II.F TI GWi Wi.F.kp Wi.b Wi.m
    have GAF := ok_areFields AF.F TV TI GWi Wi.F.kp Wi.b Wi.m
    have GIt := ok_isItem It.F TV GII II.F.kp II.b II.m GAF AF.F.kp AF.b AF.m
    have GR0 := ok_isRule R0.F TV TI W.F W.b W.m D.F D.b D.m GWi Wi.F.kp Wi.b Wi.m
    have GWN := ok_wnum WN.F TV
    have GID := ok_itemDue ID.F TV GWN WN.F.kp WN.b WN.m
    have GRD := ok_ruleDue RD.F TV n_abs GWN WN.F.kp WN.b WN.m
    have GC := ok_choose Ch.F ⟨n_len⟩ Dr.F Dr.b Dr.m
    have GDr := ok_draw Dr.F
    have GSh := ok_shuf Sh.F ⟨n_len, n_list⟩ Dr.F Dr.b Dr.m
    have GF := ok_fields Fi.F TF GC Ch.F.kp Ch.b Ch.m
    have GRu := ok_rule Ru.F TF GC Ch.F.kp Ch.b Ch.m GDr Dr.F.kp Dr.b Dr.m GSh Sh.F.kp Sh.b Sh.m
    have GA := ok_any An.F GC Ch.F.kp Ch.b Ch.m
    have GB := ok_bent Be.F Be.b Be.m ⟨n_len, n_isinstance, n_tuple, n_list⟩ GDr Dr.F.kp Dr.b Dr.m GA An.F.kp An.b An.m 5
    have GT := ok_told To.F TV n_repr It GIt R0 GR0 ID GID RD GRD
    ok_law (fun_mk (st := sLaw) l20 c20 k20) ⟨n_len⟩ ⟨n_range, n_max, n_min⟩ De Dr Fi GF Ru GRu An GA Be GB To GT)⟩
end Hk
open PySem PySem.W PyProof.Rows in
set_option maxRecDepth 100000 in
set_option maxHeartbeats 0 in
theorem PySem.Challenge.cw_handsorted_k01_items_and_rules_holds : PySem.Challenge.rw_handsorted_k01_items_and_rules.Holds := by
  w_on; o_law; k_head; (case hw => w_witness2)
  k_fill
  refine Hk.walkG (l := PySem.Challenge.rw_handsorted_k01_items_and_rules) (n := 63) (k := 9) (x := "script") (sp := Hk.spLaw) rfl (by decide) rfl ⟨rfl, by decide, by decide⟩ (fun w h Y => PySem.W.kIn_of Y) ?F (fun _ _ a ns hl hb hS => ⟨a, ns, rfl, hS, hl, hb, fun _ => rfl⟩)
  case F =>
    intro w mg fa h KX G hmg
    refine' Hk.all_mk KX G hmg ?a1 ?l1 ?c1 ?k1 ?a2 ?l2 ?c2 ?k2 ?a3 ?l3 ?c3 ?k3 ?a4 ?l4 ?c4 ?k4 ?a5 ?l5 ?c5 ?k5 ?a6 ?l6 ?c6 ?k6 ?a7 ?l7 ?c7 ?k7 ?a8 ?l8 ?c8 ?k8 ?a9 ?l9 ?c9 ?k9 ?a10 ?l10 ?c10 ?k10 ?a11 ?l11 ?c11 ?k11 ?a12 ?l12 ?c12 ?k12 ?a13 ?l13 ?c13 ?k13 ?a14 ?l14 ?c14 ?k14 ?a15 ?l15 ?c15 ?k15 ?a16 ?l16 ?c16 ?k16 ?a17 ?l17 ?c17 ?k17 ?a18 ?l18 ?c18 ?k18 ?a19 ?l19 ?c19 ?k19 ?a20 ?l20 ?c20 ?k20 ?z0 ?z1 ?z2 ?z3 ?z4 ?z5 ?z6 ?z7 ?z8 ?z9 ?z10 ?z11 ?z12 ?cst0 ?cst1 ?cst2
    (case a1 => k_is)
    (case l1 => k_is)
    (case c1 => k_is)
    (case k1 => k_is)
    (case a2 => k_is)
    (case l2 => k_is)
    (case c2 => k_is)
    (case k2 => k_is)
    (case a3 => k_is)
    (case l3 => k_is)
    (case c3 => k_is)
    (case k3 => k_is)
    (case a4 => k_is)
    (case l4 => k_is)
    (case c4 => k_is)
    (case k4 => k_is)
    (case a5 => k_is)
    (case l5 => k_is)
    (case c5 => k_is)
    (case k5 => k_is)
    (case a6 => k_is)
    (case l6 => k_is)
    (case c6 => k_is)
    (case k6 => k_is)
    (case a7 => k_is)
    (case l7 => k_is)
    (case c7 => k_is)
    (case k7 => k_is)
    (case a8 => k_is)
    (case l8 => k_is)
    (case c8 => k_is)
    (case k8 => k_is)
    (case a9 => k_is)
    (case l9 => k_is)
    (case c9 => k_is)
    (case k9 => k_is)
    (case a10 => k_is)
    (case l10 => k_is)
    (case c10 => k_is)
    (case k10 => k_is)
    (case a11 => k_is)
    (case l11 => k_is)
    (case c11 => k_is)
    (case k11 => k_is)
    (case a12 => k_is)
    (case l12 => k_is)
    (case c12 => k_is)
    (case k12 => k_is)
    (case a13 => k_is)
    (case l13 => k_is)
    (case c13 => k_is)
    (case k13 => k_is)
    (case a14 => k_is)
    (case l14 => k_is)
    (case c14 => k_is)
    (case k14 => k_is)
    (case a15 => k_is)
    (case l15 => k_is)
    (case c15 => k_is)
    (case k15 => k_is)
    (case a16 => k_is)
    (case l16 => k_is)
    (case c16 => k_is)
    (case k16 => k_is)
    (case a17 => k_is)
    (case l17 => k_is)
    (case c17 => k_is)
    (case k17 => k_is)
    (case a18 => k_is)
    (case l18 => k_is)
    (case c18 => k_is)
    (case k18 => k_is)
    (case a19 => k_is)
    (case l19 => k_is)
    (case c19 => k_is)
    (case k19 => k_is)
    (case a20 => k_is)
    (case l20 => k_is)
    (case c20 => k_is)
    (case k20 => k_is)
    (case z0 => k_is)
    (case z1 => k_is)
    (case z2 => k_is)
    (case z3 => k_is)
    (case z4 => k_is)
    (case z5 => k_is)
    (case z6 => k_is)
    (case z7 => k_is)
    (case z8 => k_is)
    (case z9 => k_is)
    (case z10 => k_is)
    (case z11 => k_is)
    (case z12 => k_is)
    (case cst0 => k_is)
    (case cst1 => k_is)
    (case cst2 => k_is)

