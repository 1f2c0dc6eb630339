import PyProof.Rows.All
import Wide.All
import OpenK.AllK
import Wide.FinOn
import HandS.ForMost
import HandS.EndBits
import HandS.Set
import HandS.SetFor
import HandS.IsInst
import KE.KSortedM
import PyProof.ReprRoads
import PyProof.EqAt
import PyProof.EqKinds
import PyProof.TupleCall
import Open.SpecLaws
import KE.OsGo
import HandS.ForExc
import HandS.Star
import HandS.Style
import HandS.TupAny
import HandS.ExcIs
import HandS.TryMany
import HandS.TupLe
import PySem.Challenge.RW_handsorted_k05_orders_and_moves
set_option Elab.async false
set_option linter.all false
set_option maxRecDepth 100000
set_option maxHeartbeats 8000000
namespace Hk
open PySem L2 PySem.Spec PyProof.Rows
def top (i : Nat) : Stmt := PySem.Challenge.pw_handsorted_k05_orders_and_moves.main.body.getD i (.Pass ⟨0, 0, 0, 0⟩)
abbrev sWhole : Stmt := top 5
abbrev sWithin : Stmt := top 6
abbrev sDiff : Stmt := top 7
abbrev sIsId : Stmt := top 10
abbrev sIsOrder : Stmt := top 12
abbrev sAreIds : Stmt := top 13
abbrev sIsMove : Stmt := top 14
abbrev sDoMove : Stmt := top 15
abbrev sDeck : Stmt := top 17
abbrev sDraw : Stmt := top 18
abbrev sChoose : Stmt := top 19
abbrev sShuf : Stmt := top 20
abbrev sFields : Stmt := top 21
abbrev sIds : Stmt := top 22
abbrev sRule : Stmt := top 23
abbrev sSign : Stmt := top 24
abbrev sSorted : Stmt := top 25
abbrev sLawIsId : Stmt := top 26
abbrev sLawDiff : Stmt := top 27
abbrev sMoveDue : Stmt := top 28
abbrev sAny : Stmt := top 29
abbrev sBent : Stmt := top 30
abbrev sRefused : Stmt := top 31
abbrev sTold : Stmt := top 32
abbrev sLaw : Stmt := top 33
/-! ### numbers of any size -/
def CPowG (i j : Int) : Prop := 0 ≤ j ∧ (Builtin.Int.intBits i : Int) * j ≤ 2 ^ 27
section
variable {X : Cx}
theorem op_mulG : OpR X (binaryOp .Mult) (rI IntMulOk fun i j => .int (i * j)) := opI fun _ _ _ _ _ _ _ hc q => mul_int q hc
theorem op_powG : OpR X (binaryOp .Pow) (rI CPowG fun i j => .int (i ^ j.toNat)) := opI fun _ _ _ _ _ _ _ hc q => pow_int hc.1 hc.2 q
end
theorem mulOk_bits {i j : Int} {a b : Nat} (ha : Builtin.Int.intBits i ≤ a) (hb : Builtin.Int.intBits j ≤ b) (h : a + b ≤ 100000000) : IntMulOk i j := by
  have e : bitsLine = 134217728 := by decide
  unfold IntMulOk
  intro z
  rw [Bool.and_eq_true] at z
  have z2 := z.2
  unfold Builtin.Int.intTooBig at z2
  have z3 := of_decide_eq_true z2
  rw [e] at z3
  omega
theorem bits_le {i : Int} {n : Nat} (h : i.natAbs < 2 ^ n) : Builtin.Int.intBits i ≤ n := intBits_le h
/-- the turn of the deck's loop -/
theorem turn_bits {m e : Int} {k : Nat} (h0 : 0 ≤ m) (h1 : m < 2147483600) (he : Builtin.Int.intBits e ≤ k) (hk : 30 ≤ k) :
    Builtin.Int.intBits (m * 20011 + e * e + 13) ≤ 2 * k + 1 := by
  refine bits_le ?_
  have a1 : e.natAbs < 2 ^ k := Nat.lt_of_lt_of_le (natAbs_lt_pow_bits e) (Nat.pow_le_pow_right (by omega) he)
  have a2 : (e * e).natAbs < 2 ^ (2 * k) := by
    rw [Int.natAbs_mul, Nat.two_mul, Nat.pow_add]
    exact Nat.mul_lt_mul'' a1 a1
  have a3 : (m * 20011 + 13).natAbs < 2 ^ 60 := by
    have : (2 : Nat) ^ 60 = 1152921504606846976 := by decide
    omega
  have a4 : (2 : Nat) ^ 60 ≤ 2 ^ (2 * k) := Nat.pow_le_pow_right (by omega) (by omega)
  have a5 : (2 : Nat) ^ (2 * k + 1) = 2 ^ (2 * k) + 2 ^ (2 * k) := by rw [Nat.pow_succ, Nat.mul_two]
  rw [a5]
  generalize (2 : Nat) ^ (2 * k) = B at *
  generalize e * e = q at *
  omega
/-! ### the deck -/
def dk (x y : Int) : List (Key × V) := [(.inr "digits", .int x), (.inr "mixed", .int y)]
def DeckAt (H : Hp) (d : Addr) : Prop := ∃ x y : Int, H d = some (.dK (dk x y)) ∧ 0 ≤ x ∧ 0 ≤ y ∧ y < 2147483600
/-- all that was tracked is as it was, but what stands at d -/
def But (d : Addr) (H H' : Hp) : Prop := ∀ b o, b ≠ d → H b = some o → H' b = some o
theorem But.refl (d : Addr) (H : Hp) : But d H H := fun _ _ _ h => h
theorem But.trans {d : Addr} {H H1 H2 : Hp} (a : But d H H1) (b : But d H1 H2) : But d H H2 := fun c o n h => b c o n (a c o n h)
theorem But.of {d : Addr} {H H' : Hp} (a : Same H H') : But d H H' := fun c o _ h => a c o h
theorem But.upd {d : Addr} {H : Hp} {o : HO} : But d H (upd H d o) := fun b u n h => by rw [upd_ne n]; exact h
theorem But.new {d p : Addr} {H : Hp} {o : HO} (h : H p = none) : But d H (L2.upd H p o) := fun b u n e => by rw [upd_ne (ne_of_none e h)]; exact e
theorem Same.new {p : Addr} {H : Hp} {o : HO} (h : H p = none) : Same H (L2.upd H p o) := fun b u e => by rw [upd_ne (ne_of_none e h)]; exact e
theorem DeckAt.same {H H' : Hp} {d : Addr} (D : DeckAt H d) (s : Same H H') : DeckAt H' d := let ⟨x, y, h, r⟩ := D; ⟨x, y, s _ _ h, r⟩
theorem dm_ : ¬ (("digits" : Str) = "mixed") := by decide +kernel
theorem md_ : ¬ (("mixed" : Str) = "digits") := by decide +kernel
theorem dk_digits (x y : Int) : valV (dk x y) (Sum.inr "digits" : Key) = some (.int x) := by
  unfold valV dk
  rw [List.find?_cons_of_pos]
  · rfl
  · exact decide_eq_true rfl
theorem dk_mixed (x y : Int) : valV (dk x y) (Sum.inr "mixed" : Key) = some (.int y) := by
  unfold valV dk
  rw [List.find?_cons_of_neg, List.find?_cons_of_pos]
  · rfl
  · exact decide_eq_true rfl
  · intro q
    exact dm_ (Sum.inr.inj (of_decide_eq_true q))
theorem dk_put_digits (x y z : Int) : putK (dk x y) (Sum.inr "digits" : Key) (.int z) = dk z y := by
  unfold putK dk
  have n : ¬ (Sum.inr "mixed" : Key) = (Sum.inr "digits" : Key) := fun q => md_ (Sum.inr.inj q)
  simp only [List.any_cons, decide_true, Bool.true_or, if_true, List.map_cons, List.map_nil, if_neg n]
theorem dk_put_mixed (x y z : Int) : putK (dk x y) (Sum.inr "mixed" : Key) (.int z) = dk x z := by
  unfold putK dk
  have n : ¬ (Sum.inr "digits" : Key) = (Sum.inr "mixed" : Key) := fun q => dm_ (Sum.inr.inj q)
  simp only [List.any_cons, decide_true, Bool.true_or, Bool.or_true, if_true, List.map_cons, List.map_nil, if_neg n]
theorem dk_merge (x y : Int) : mergeK [] [((Sum.inr "digits" : Key), V.int x), ((Sum.inr "mixed" : Key), V.int y)] = dk x y := by
  unfold mergeK putK dk
  have n : ¬ (Sum.inr "digits" : Key) = (Sum.inr "mixed" : Key) := fun q => dm_ (Sum.inr.inj q)
  simp only [List.foldl_cons, List.foldl_nil, List.any_nil, List.nil_append, List.any_cons, decide_eq_false n, Bool.or_self]
  rfl
structure TxtD (mg : Str → Option Value) : Prop where
  len : mg "len" = none
section
variable {P : Program} {w : World} {K : PySem.W.Frag} {mg : Str → Option Value} {base : Heap}
def spDeck (K : PySem.W.Frag) : Sp := fun vs H Q _ => ∃ (a : Addr) (ns : List Int) (st : Int), vs = [.ref a, .int st] ∧ SqL K H a (ns.map V.int) ∧ ns.length ≤ 63 ∧ (∀ z ∈ ns, Builtin.Int.intBits z ≤ 1048576) ∧ 0 ≤ st ∧ st ≤ 63 ∧
  ∀ (d : Addr) (H' : Hp), H d = none → Same H H' → DeckAt H' d → Q (.ref d) H'
theorem scDeck : FnScope ["script", "start", "mixed", "entry", "digits"] ["script", "start"] (defScope sDeck) := ⟨rfl, rfl, rfl, by decide +kernel, rfl, by decide +kernel, by decide +kernel⟩
theorem ok_deck {f : Addr} {fd : FuncData} (F : Fun K "_law_deck" "_law_deck" sDeck f fd) (T : TxtD mg) : FnOk P w K mg base CX0 1 f fd ["script", "start"] (spDeck K) := by
  refine F.ok scDeck (fun vs H Q E h => ?_) (fun cdv A outer s H vs Q E hr h => ?_)
  · obtain ⟨a, ns, st, rfl, _⟩ := h
    rfl
  · obtain ⟨a, ns, st, rfl, hS, hlen, hb, h0, h1, k⟩ := h
    have hu := hu_of hr
    refine ⟨_, pss_cons (ps_set (i := 2) scDeck.nd rfl (Or.inl rfl) (pe_op op_add pe_int (pe_op op_mul (pv 1) pe_int)))
      (pss_cons (ps_for PassesOwn.never rfl (pi_list (pv 0)) (pg_name (i := 3) scDeck.nd rfl (Or.inl rfl))
        (pss_one (ps_set (i := 2) scDeck.nd rfl (Or.inl rfl) (pe_op op_add (pe_op op_mod (pe_op op_powG (pe_op op_add (pe_op op_add (pe_op op_mul (pv 2) pe_int) (pe_op op_mulG (pv 3) (pv 3))) pe_int) pe_int) pe_int) pe_int))))
      (pss_cons (ps_set (i := 4) scDeck.nd rfl (Or.inl rfl) (pe_ifExp (PW.pt (pw_and (pt_cmpR op_lt (pv 1) (pe_callB call_len_seq (by rfl) T.len PySem.boot_len (pa_cons (pv 0) pa_nil)) (nomark _))
          (pw_and1 (pt_cmpR op_ge (pe_ix ix_list (pv 0) (pv 1) (fun _ _ => rfl)) (pe_op op_pow pe_int pe_int) (nomark _)))))
          (pe_op op_sub (pe_ix ix_list (pv 0) (pv 1) (fun _ _ => rfl)) (pe_op op_pow pe_int pe_int)) pe_int))
      (pss_one (ps_ret (pe_disp (pps_cons pe_str (pv 4) (pps_cons pe_str (pv 2) pps_nil)) (by rfl) (by rfl) (fun z => by cases z) (by decide)))))), ?_⟩
    refine ⟨_, rfl, _, _, rfl, rfl, .inr ⟨by decide, by decide⟩, _, _, rfl, rfl, ?_⟩
    refine ⟨_, rfl, a, rfl, ⟨_, hS⟩, for_list (K := K) (a := a) (xs := ns.map V.int) (fun i σ H' => ∃ (m : Int) (v : Option V), σ = [some (.ref a), some (.int st), some (.int m), v, none] ∧ H' = H ∧ 0 ≤ m ∧ m < 2147483600)
      ⟨_, none, rfl, rfl, by omega, by omega⟩ (fun i σ H' _ ⟨_, _, _, e, _⟩ => by rw [e]; exact hS) ?_ ?_⟩
    · rintro i y σ H' hi ⟨m, v, rfl, rfl, m0, m1⟩
      obtain ⟨e, he, rfl⟩ : ∃ e, e ∈ ns ∧ y = V.int e := by
        rw [List.getElem?_map] at hi
        cases q : ns[i]? with
        | none => rw [q] at hi; cases hi
        | some u => rw [q] at hi; exact ⟨u, List.mem_of_getElem? q, (Option.some.inj hi).symm⟩
      have hbits := hb e he
      have hT := turn_bits (k := 1048576) m0 m1 hbits (by decide)
      refine ⟨_, rfl, _, _, rfl, rfl, .inr ⟨by decide, by decide⟩, _, rfl, _, rfl, _, _, rfl, rfl, mulOk_bits hbits hbits (by decide), _, _, rfl, rfl, _, _, rfl, rfl, _, _, rfl, rfl, ⟨by decide, ?_⟩, _, _, rfl, rfl, (by show (0 : Int) < 2147483549; decide), _, _, rfl, rfl, ?_⟩
      · have z : (2 : Int) ^ 27 = 134217728 := by decide
        rw [z]
        generalize Builtin.Int.intBits (m * 20011 + e * e + 13) = B at hT ⊢
        omega
      · refine ⟨_, _, rfl, rfl, ?_, ?_⟩
        · have := Int.emod_nonneg ((m * 20011 + e * e + 13) ^ (2 : Int).toNat) (b := 2147483549) (by decide)
          generalize (m * 20011 + e * e + 13) ^ (2 : Int).toNat % 2147483549 = z at *
          omega
        · have := Int.emod_lt_of_pos ((m * 20011 + e * e + 13) ^ (2 : Int).toNat) (b := 2147483549) (by decide)
          generalize (m * 20011 + e * e + 13) ^ (2 : Int).toNat % 2147483549 = z at *
          omega
    · rintro σ H' ⟨m, v, rfl, rfl, m0, m1⟩
      have fin : ∀ (x : Int) (σ' : L2.St), 0 ≤ x → σ' = [some (.ref a), some (.int st), some (.int m), v, some (.int x)] →
          (tRet (tDisp [(tC (.str "digits"), tVar 4), (tC (.str "mixed"), tVar 2)])) { nx := fun _ H' => Q .non H', rt := Q } σ' H' := by
        rintro x σ' hx rfl
        intro p hp
        refine ⟨_, rfl, _, rfl, upd_same, [((Sum.inr "digits" : Key), V.int x), ((Sum.inr "mixed" : Key), V.int m)], rfl, (by show 2 ≤ 15; decide), ?_⟩
        rw [upd_upd, dk_merge]
        exact k p _ hp (Same.new hp) ⟨x, m, upd_same, hx, m0, m1⟩
      refine ⟨_, rfl, _, rfl, a, _, rfl, .inl hS, _, _, rfl, rfl, _, rfl, ?_⟩
      refine ite2 (fun hlt => ?_) (fun hlt => ?_)
      · have hlt' : st < (ns.map V.int).length := of_decide_eq_true hlt
        rw [List.length_map] at hlt'
        obtain ⟨n, rfl⟩ : ∃ n : Nat, st = (n : Int) := ⟨st.toNat, by omega⟩
        have hn : n < ns.length := by omega
        have hat : (ns.map V.int)[n]? = some (V.int ns[n]) := by rw [List.getElem?_map, List.getElem?_eq_getElem hn]; rfl
        refine ⟨_, rfl, _, rfl, a, _, _, _, rfl, rfl, hS, atI_nat hat, _, _, rfl, rfl, ⟨by decide, by decide, by decide⟩, _, _, rfl, rfl, _, rfl, ?_⟩
        refine ite2 (fun hge => ?_) (fun hge => ?_)
        · have hge' := of_decide_eq_true hge
          refine ⟨_, rfl, _, rfl, a, _, _, _, rfl, rfl, hS, atI_nat hat, _, _, rfl, rfl, ⟨by decide, by decide, by decide⟩, _, _, rfl, rfl, ?_⟩
          exact fin _ _ (by omega) rfl
        · exact fin 0 _ (Int.le_refl _) rfl
      · refine iteF ?_
        exact fin 0 _ (Int.le_refl _) rfl
end
theorem But.seq {d a : Addr} {H H' : Hp} {K : PySem.W.Frag} {xs : List V} (D : DeckAt H d) (s : But d H H') (h : SqL K H a xs) : SqL K H' a xs := by
  obtain ⟨x, y, hd, _⟩ := D
  rcases h with (h | ⟨o, h⟩) | h
  · exact .inl (.inl (s _ _ (ne_of h hd (by intro z; cases z)) h))
  · exact .inl (.inr ⟨o, s _ _ (ne_of h hd (by intro z; cases z)) h⟩)
  · exact .inr h
theorem But.lst {d a : Addr} {H H' : Hp} {xs : List V} (D : DeckAt H d) (s : But d H H') (h : H a = some (.lst xs)) : H' a = some (.lst xs) := by
  obtain ⟨x, y, hd, _⟩ := D
  exact s _ _ (ne_of h hd (by intro z; cases z)) h
theorem But.tup {d a : Addr} {H H' : Hp} {xs : List V} (D : DeckAt H d) (s : But d H H') (h : H a = some (.tup xs)) : H' a = some (.tup xs) := by
  obtain ⟨x, y, hd, _⟩ := D
  exact s _ _ (ne_of h hd (by intro z; cases z)) h
/-- new behind is new ahead -/
theorem But.free {d p : Addr} {H H' : Hp} (D : DeckAt H' d) (s : But d H H') (h : H' p = none) : H p = none := by
  obtain ⟨x, y, hd, _⟩ := D
  cases q : H p with
  | none => rfl
  | some o =>
    have := s _ _ (fun e => by rw [e, hd] at h; cases h) q
    rw [h] at this
    cases this
theorem pow6 : (10 : Int) ^ (6 : Int).toNat = 1000000 := by decide
section
variable {P : Program} {w : World} {K : PySem.W.Frag} {mg : Str → Option Value} {base : Heap}
/-! ### a draw -/
def spDraw : Sp := fun vs H Q _ => ∃ (d : Addr) (n : Int), vs = [.ref d, .int n] ∧ DeckAt H d ∧ 0 < n ∧ n < 1073741824 ∧ ∀ (r : Int) (H' : Hp), 0 ≤ r → r < n → DeckAt H' d → But d H H' → Q (.int r) H'
theorem scDraw : FnScope ["deck", "size", "found"] ["deck", "size"] (defScope sDraw) := ⟨rfl, rfl, rfl, by decide +kernel, rfl, by decide +kernel, by decide +kernel⟩
theorem ok_draw {f : Addr} {fd : FuncData} (F : Fun K "_law_draw" "_law_draw" sDraw f fd) : FnOk P w K mg base CX0 1 f fd ["deck", "size"] spDraw := by
  refine F.ok scDraw (fun vs H Q E h => ?_) (fun cdv A outer s H vs Q E hr h => ?_)
  · obtain ⟨d, n, rfl, _⟩ := h
    rfl
  · obtain ⟨d, n, rfl, ⟨x, y, hd, x0, y0, y1⟩, n0, n1, k⟩ := h
    have hu := hu_of hr
    refine ⟨_, pss_cons (ps_if (pt_cmpR op_ge (pe_dget hu (pv 0) pe_str (fun _ _ => rfl)) (pv 1) (nomark _))
        (pss_cons (ps_set (i := 2) scDraw.nd rfl (Or.inl rfl) (pe_op op_mod (pe_dget hu (pv 0) pe_str (fun _ _ => rfl)) (pv 1)))
        (pss_cons (ps_dput hu (pv 0) pe_str (pe_op op_fdiv (pe_dget hu (pv 0) pe_str (fun _ _ => rfl)) (pv 1)) rfl)
        (pss_one (ps_ret (pv 2))))) pss_nil)
      (pss_cons (ps_dput hu (pv 0) pe_str (pe_op op_mod (pe_op op_add (pe_op op_mul (pe_dget hu (pv 0) pe_str (fun _ _ => rfl)) pe_int) pe_int) pe_int) rfl)
      (pss_one (ps_ret (pe_op op_mod (pe_op op_fdiv (pe_op op_mod (pe_op op_pow (pe_op op_mod (pe_op op_pow (pe_dget hu (pv 0) pe_str (fun _ _ => rfl)) pe_int) pe_int) pe_int) pe_int) pe_int) (pv 1))))), ?_⟩
    have gx : ∀ {H : Hp} {x y : Int}, H d = some (.dK (dk x y)) → DGet H d (.str "digits") (some (.int x)) := fun {H x y} e => by
      have := DGet.k (k := Sum.inr "digits") e
      rw [dk_digits] at this
      exact this
    have gy : ∀ {H : Hp} {x y : Int}, H d = some (.dK (dk x y)) → DGet H d (.str "mixed") (some (.int y)) := fun {H x y} e => by
      have := DGet.k (k := Sum.inr "mixed") e
      rw [dk_mixed] at this
      exact this
    have px : ∀ {H : Hp} {x y z : Int}, H d = some (.dK (dk x y)) → DPut H d (.str "digits") (.int z) (upd H d (.dK (dk z y))) := fun {H x y z} e => by
      have := DPut.k (k := Sum.inr "digits") (v := .int z) e (by show 2 < sizeLine; decide)
      rw [dk_put_digits] at this
      exact this
    have py : ∀ {H : Hp} {x y z : Int}, H d = some (.dK (dk x y)) → DPut H d (.str "mixed") (.int z) (upd H d (.dK (dk x z))) := fun {H x y z} e => by
      have := DPut.k (k := Sum.inr "mixed") (v := .int z) e (by show 2 < sizeLine; decide)
      rw [dk_put_mixed] at this
      exact this
    refine ⟨_, rfl, d, _, rfl, gx hd, _, rfl, _, _, rfl, rfl, _, rfl, ?_⟩
    refine ite2 (fun c => ?_) (fun c => ?_)
    · refine ⟨_, rfl, d, _, rfl, gx hd, _, rfl, _, _, rfl, rfl, n0, ?_⟩
      refine ⟨_, rfl, d, _, rfl, gx hd, _, rfl, _, _, rfl, rfl, ⟨n0, n1⟩, _, rfl, d, _, rfl, px hd, ?_⟩
      exact ⟨_, rfl, k _ _ (Int.emod_nonneg _ (by omega)) (Int.emod_lt_of_pos _ n0) ⟨_, y, upd_same, Int.ediv_nonneg x0 (by omega), y0, y1⟩ But.upd⟩
    · have m0 := Int.emod_nonneg (y * 39373 + 2027) (b := 2147483549) (by decide)
      have m1 := Int.emod_lt_of_pos (y * 39373 + 2027) (b := 2147483549) (by decide)
      refine ⟨_, rfl, d, _, rfl, gy hd, _, _, rfl, rfl, .inr ⟨by decide, by decide⟩, _, _, rfl, rfl, _, _, rfl, rfl, (by show (0 : Int) < 2147483549; decide), _, rfl, d, _, rfl, py hd, ?_⟩
      refine ⟨_, rfl, d, _, rfl, gy upd_same, _, _, rfl, rfl, ⟨by decide, by decide, by omega⟩, _, _, rfl, rfl, (by show (0 : Int) < 2147483423; decide), ?_⟩
      have q0 := Int.emod_nonneg (((y * 39373 + 2027) % 2147483549) ^ (2 : Int).toNat) (b := 2147483423) (by decide)
      have q1 := Int.emod_lt_of_pos (((y * 39373 + 2027) % 2147483549) ^ (2 : Int).toNat) (b := 2147483423) (by decide)
      refine ⟨_, _, rfl, rfl, ⟨by decide, by decide, by omega⟩, _, _, rfl, rfl, (by show (0 : Int) < 998244353; decide), _, _, rfl, rfl, ⟨by decide, by decide⟩, _, rfl, _, _, rfl, rfl, n0, ?_⟩
      exact k _ _ (Int.emod_nonneg _ (by omega)) (Int.emod_lt_of_pos _ n0) ⟨x, _, upd_same, x0, m0, by omega⟩ But.upd
/-! ### one of some things -/
def spChoose (K : PySem.W.Frag) : Sp := fun vs H Q _ => ∃ (d t : Addr) (xs : List V), vs = [.ref d, .ref t] ∧ DeckAt H d ∧ SqL K H t xs ∧ xs ≠ [] ∧ xs.length < 1000000 ∧ ∀ (v : V) (H' : Hp), v ∈ xs → DeckAt H' d → But d H H' → Q v H'
theorem scChoose : FnScope ["deck", "things"] ["deck", "things"] (defScope sChoose) := ⟨rfl, rfl, rfl, by decide +kernel, rfl, by decide +kernel, by decide +kernel⟩
theorem ok_choose {f fD : Addr} {fd fdD : FuncData} (F : Fun K "_law_choose" "_law_choose" sChoose f fd) (T : TxtD mg) (FD : Fun K "_law_draw" "_law_draw" sDraw fD fdD) (bD : Binds K fdD ["deck", "size"] []) (mD : mg "_law_draw" = some (.ref fD)) :
    FnOk P w K mg base CX0 2 f fd ["deck", "things"] (spChoose K) := by
  have GD : FnOk P w K mg base CX0 1 fD fdD ["deck", "size"] spDraw := ok_draw FD
  refine F.ok scChoose (fun vs H Q E h => ?_) (fun cdv A outer s H vs Q E hr h => ?_)
  · obtain ⟨d, t, xs, rfl, _⟩ := h
    rfl
  · obtain ⟨d, t, xs, rfl, D, hS, h0, h1, k⟩ := h
    refine ⟨_, pss_one (ps_ret (pe_ix ix_list (pv 1) (pe_call GD hr rfl mD FD.kp bD .nil pass0 (pa_cons (pv 0) (pa_cons (pe_callB call_len_seq (by rfl) T.len PySem.boot_len (pa_cons (pv 1) pa_nil)) pa_nil))) (fun _ _ => rfl))), ?_⟩
    have hl : 0 < xs.length := List.length_pos_iff.mpr h0
    refine ⟨_, rfl, _, rfl, _, rfl, t, _, rfl, .inl hS, d, _, rfl, D, by omega, by omega, fun r H' r0 r1 D' B => ?_⟩
    obtain ⟨n, rfl⟩ : ∃ n : Nat, r = (n : Int) := ⟨r.toNat, by omega⟩
    have hn : n < xs.length := by omega
    have hat : xs[n]? = some xs[n] := List.getElem?_eq_getElem hn
    exact ⟨t, _, _, _, rfl, rfl, B.seq D hS, atI_nat hat, k _ _ (List.getElem_mem hn) D' B⟩
end
/-! ### the walk through the ids meets a free one -/
theorem len_le_of_sub : ∀ (xs ys : List Int), xs.Nodup → (∀ x ∈ xs, x ∈ ys) → xs.length ≤ ys.length
  | [], _, _, _ => Nat.zero_le _
  | x :: r, ys, hn, hs => by
    have hx : x ∈ ys := hs x List.mem_cons_self
    have hn' := List.nodup_cons.mp hn
    have ih := len_le_of_sub r (ys.erase x) hn'.2 fun z hz => (List.mem_erase_of_ne (fun e => hn'.1 (by rw [← e]; exact hz))).mpr (hs z (List.mem_cons_of_mem _ hz))
    have hl := List.length_erase_of_mem hx
    have : 0 < ys.length := List.length_pos_of_mem hx
    show r.length + 1 ≤ ys.length
    omega
def nx (z : Int) (i : Nat) : Int := (z - 1 + (i : Int)) % 1000000 + 1
theorem nx_zero {z : Int} (h0 : 1 ≤ z) (h1 : z ≤ 1000000) : nx z 0 = z := by unfold nx; omega
theorem nx_succ {z : Int} {i : Nat} : nx z i % 1000000 + 1 = nx z (i + 1) := by unfold nx; omega
theorem nx_lo (z : Int) (i : Nat) : 1 ≤ nx z i := by unfold nx; omega
theorem nx_hi (z : Int) (i : Nat) : nx z i ≤ 1000000 := by unfold nx; omega
theorem nx_inj {z : Int} {i j : Nat} (hi : i < 1000) (hj : j < 1000) (h : nx z i = nx z j) : i = j := by unfold nx at h; omega
theorem nx_few {z : Int} {js : List Int} {t : Nat} (ht : t ≤ 500) (h : ∀ i, i < t → nx z i ∈ js) : t ≤ js.length := by
  have a : ((List.range t).map (nx z)).Nodup := by
    refine List.pairwise_map.mpr ?_
    refine List.Pairwise.imp_of_mem ?_ (List.pairwise_lt_range (n := t))
    intro i j hi hj l e
    have q := nx_inj (by have := List.mem_range.mp hi; omega) (by have := List.mem_range.mp hj; omega) e
    omega
  have b := len_le_of_sub _ js a (fun x hx => by
    obtain ⟨i, hi, rfl⟩ := List.mem_map.mp hx
    exact h i (List.mem_range.mp hi))
  rw [List.length_map, List.length_range] at b
  exact b
theorem eqV_int (i j : Int) : eqV (.int i) (.int j) = decide (i = j) := by
  first
    | rfl
    | simp [eqV]
theorem inV_int (z : Int) (js : List Int) : inV (.int z) (js.map V.int) = decide (z ∈ js) := by
  unfold inV
  rw [List.any_map]
  induction js with
  | nil => rfl
  | cons a r ih =>
    rw [List.any_cons, ih]
    show (eqV (.int a) (.int z) || decide (z ∈ r)) = decide (z ∈ a :: r)
    rw [eqV_int]
    by_cases e : a = z
    · subst e
      simp
    · have e' : ¬ z = a := fun q => e q.symm
      simp [e, e']
theorem all_flat (js : List Int) : (js.map V.int).all flatV = true := by
  induction js with
  | nil => rfl
  | cons a r ih => exact ih
section
variable {P : Program} {w : World} {K : PySem.W.Frag} {mg : Str → Option Value} {base : Heap}
/-- so many different ids -/
def IdsL (js : List Int) : Prop := js.Nodup ∧ ∀ z ∈ js, 1 ≤ z ∧ z ≤ 1000000
def spIds : Sp := fun vs H Q _ => ∃ (d : Addr) (n : Nat), vs = [.ref d, .int n] ∧ DeckAt H d ∧ n ≤ 300 ∧
  ∀ (l : Addr) (js : List Int) (H' : Hp), H l = none → But d H H' → DeckAt H' d → H' l = some (.lst (js.map V.int)) → js.length = n → IdsL js → Q (.ref l) H'
theorem scIds : FnScope ["deck", "many", "found", "number"] ["deck", "many"] (defScope sIds) := ⟨rfl, rfl, rfl, by decide +kernel, rfl, by decide +kernel, by decide +kernel⟩
theorem ok_ids {f fD fC : Addr} {fd fdD fdC : FuncData} (F : Fun K "_law_ids" "_law_ids" sIds f fd) (T : TxtD mg) (FD : Fun K "_law_draw" "_law_draw" sDraw fD fdD) (bD : Binds K fdD ["deck", "size"] []) (mD : mg "_law_draw" = some (.ref fD))
    (FC : Fun K "_law_choose" "_law_choose" sChoose fC fdC) (bC : Binds K fdC ["deck", "things"] []) (mC : mg "_law_choose" = some (.ref fC)) :
    FnOk P w K mg base CX0 3 f fd ["deck", "many"] spIds := by
  have GD : FnOk P w K mg base CX0 1 fD fdD ["deck", "size"] spDraw := ok_draw FD
  have GC : FnOk P w K mg base CX0 2 fC fdC ["deck", "things"] (spChoose K) := ok_choose FC T FD bD mD
  refine F.ok scIds (fun vs H Q E h => ?_) (fun cdv A outer s H vs Q E hr h => ?_)
  · obtain ⟨d, n, rfl, _⟩ := h
    rfl
  · obtain ⟨d, n, rfl, D, n1, k⟩ := h
    have hr1 : Room 1 _ := hr.mono (by decide)
    refine ⟨_, pss_cons (ps_set (i := 2) scIds.nd rfl (Or.inl rfl) (pe_lst pa_nil))
      (pss_cons (ps_while PassesOwn.never (pt_cmpR op_lt (pe_callB call_len_seq (by rfl) T.len PySem.boot_len (pa_cons (pv 2) pa_nil)) (pv 1) (nomark _))
        (pss_cons (ps_set (i := 3) scIds.nd rfl (Or.inl rfl) (pe_call GC hr rfl mC FC.kp bC .nil pass0 (pa_cons (pv 0) (pa_cons (pe_lst
            (pa_cons (pe_op op_add pe_int (pe_call GD hr1 rfl mD FD.kp bD .nil pass0 (pa_cons (pv 0) (pa_cons pe_int pa_nil))))
            (pa_cons (pe_op op_add pe_int (pe_call GD hr1 rfl mD FD.kp bD .nil pass0 (pa_cons (pv 0) (pa_cons (pe_op op_pow pe_int pe_int) pa_nil))))
            (pa_cons (pe_op op_sub (pe_op op_pow pe_int pe_int) (pe_callB call_len_seq (by rfl) T.len PySem.boot_len (pa_cons (pv 2) pa_nil))) pa_nil)))) pa_nil))))
        (pss_cons (ps_while PassesOwn.never (pt_cmpR op_in_seq (pv 3) (pv 2) (by rfl))
          (pss_one (ps_set (i := 3) scIds.nd rfl (Or.inl rfl) (pe_op op_add (pe_op op_mod (pv 3) (pe_op op_pow pe_int pe_int)) pe_int))))
        (pss_one (ps_expr (pe_bm PySem.F.plainAttrs_list PySem.F.slot_list_append PySem.F.type_list_append mt_append (pv 2) (pa_cons (pv 3) pa_nil)))))))
      (pss_one (ps_ret (pv 2)))), ?_⟩
    refine ⟨Nat.zero_le _, fun l hl => ?_⟩
    have nld : l ≠ d := fun e => by obtain ⟨_, _, hd, _⟩ := D; rw [e, hd] at hl; cases hl
    refine ⟨fun m σ H' => ∃ (js : List Int) (v : Option V), σ = [some (.ref d), some (.int n), some (.ref l), v] ∧ m = n - js.length ∧ js.length ≤ n ∧ IdsL js ∧ H' l = some (.lst (js.map V.int)) ∧ DeckAt H' d ∧ But d H H',
      ⟨_, [], none, rfl, rfl, Nat.zero_le _, ⟨List.nodup_nil, fun z h => by cases h⟩, upd_same, D.same (Same.new hl), But.new hl⟩, ?_⟩
    rintro m σ H1 ⟨js, v, rfl, rfl, hlen, hI, hL, D1, B1⟩
    refine ⟨_, rfl, l, _, rfl, .inl (SqL.of hL), _, rfl, _, _, rfl, rfl, _, rfl, ?_⟩
    refine ite2 (fun c => ?_) (fun c => ?_)
    · have c' : ((js.map V.int).length : Int) < n := of_decide_eq_true c
      rw [List.length_map] at c'
      have c2 : js.length < n := by omega
      refine ⟨fun σ' H' => ∃ m', m' < n - js.length ∧ ∃ (js : List Int) (v : Option V), σ' = [some (.ref d), some (.int n), some (.ref l), v] ∧ m' = n - js.length ∧ js.length ≤ n ∧ IdsL js ∧ H' l = some (.lst (js.map V.int)) ∧ DeckAt H' d ∧ But d H H', fun _ _ z => z, ?_⟩
      -- number = _law_choose(deck, [..])
      refine ⟨_, rfl, ?_⟩
      refine ⟨_, rfl, d, 30, rfl, D1, by decide, by decide, fun r1 H2 r10 r11 D2 B2 => ?_⟩
      refine ⟨_, _, rfl, rfl, _, rfl, _, _, rfl, rfl, ⟨by decide, by decide, by decide⟩, d, _, rfl, D2, (by rw [pow6]; decide), (by rw [pow6]; decide), fun r2 H3 r20 r21 D3 B3 => ?_⟩
      rw [pow6] at r21
      have hL3 : H3 l = some (.lst (js.map V.int)) := B3.lst D2 (B2.lst D1 hL)
      refine ⟨_, _, rfl, rfl, _, _, rfl, rfl, ⟨by decide, by decide, by decide⟩, _, rfl, l, _, rfl, .inl (SqL.of hL3), _, _, rfl, rfl, ?_⟩
      refine ⟨by show 3 ≤ sizeLine; decide, fun p hp => ?_⟩
      have D4 : ∀ o, DeckAt (upd H3 p o) d := fun o => D3.same (Same.new hp)
      refine ⟨d, p, _, rfl, D4 _, SqL.of upd_same, (by intro z; cases z), (by show 3 < 1000000; decide), fun v H4 hv D5 B5 => ?_⟩
      have hL4 : H4 l = some (.lst (js.map V.int)) := B5.lst (D4 _) (by rw [upd_ne (ne_of_none hL3 hp)]; exact hL3)
      obtain ⟨z, rfl, z0, z1⟩ : ∃ z : Int, v = .int z ∧ 1 ≤ z ∧ z ≤ 1000000 := by
        rw [pow6, List.length_map] at hv
        rcases List.mem_cons.mp hv with e | hv
        · exact ⟨_, e, by omega, by omega⟩
        rcases List.mem_cons.mp hv with e | hv
        · exact ⟨_, e, by omega, by omega⟩
        rcases List.mem_cons.mp hv with e | hv
        · exact ⟨_, e, by omega, by omega⟩
        · cases hv
      -- while number in found
      refine ⟨fun m σ' H' => ∃ t : Nat, σ' = [some (.ref d), some (.int n), some (.ref l), some (.int (nx z t))] ∧ m = 400 - t ∧ H' = H4 ∧ (∀ i, i < t → nx z i ∈ js) ∧ t ≤ 400,
        ⟨_, 0, by rw [nx_zero z0 z1]; rfl, rfl, rfl, (fun i h => by omega), by omega⟩, ?_⟩
      rintro m σ' H' ⟨t, rfl, rfl, rfl, ht, ht4⟩
      refine ⟨_, rfl, _, rfl, l, _, rfl, .inl (SqL.of hL4), rfl, all_flat js, _, rfl, ?_⟩
      rw [inV_int]
      refine ite2 (fun c => ?_) (fun c => ?_)
      · have hz : nx z t ∈ js := of_decide_eq_true c
        have few := nx_few (z := z) (js := js) (t := t + 1) (by omega) (fun i hi => by
          by_cases e : i = t
          · rw [e]; exact hz
          · exact ht i (by omega))
        refine ⟨fun σ'' H'' => ∃ m', m' < 400 - t ∧ ∃ t : Nat, σ'' = [some (.ref d), some (.int n), some (.ref l), some (.int (nx z t))] ∧ m' = 400 - t ∧ H'' = H' ∧ (∀ i, i < t → nx z i ∈ js) ∧ t ≤ 400, fun _ _ q => q, ?_⟩
        refine ⟨_, rfl, _, _, rfl, rfl, ⟨by decide, by decide, by decide⟩, _, _, rfl, rfl, (by show (0 : Int) < 10 ^ (6 : Int).toNat; rw [pow6]; decide), _, _, rfl, rfl, ?_⟩
        refine ⟨400 - (t + 1), by omega, t + 1, ?_, rfl, rfl, fun i hi => ?_, by omega⟩
        · rw [pow6]
          show [some (V.ref d), some (V.int n), some (V.ref l), some (V.int (nx z t % 1000000 + 1))] = _
          rw [nx_succ]
        · by_cases e : i = t
          · rw [e]; exact hz
          · exact ht i (by omega)
      · have hz : nx z t ∉ js := fun q => c (decide_eq_true q)
        refine ⟨_, rfl, .inl ⟨rfl, _, SqL.of hL4⟩, _, rfl, l, _, _, rfl, rfl, hL4, (by rw [List.length_map]; exact small1000 (by omega)), ?_⟩
        refine ⟨n - (js.length + 1), by omega, js ++ [nx z t], some (.int (nx z t)), rfl, by rw [List.length_append]; rfl, by rw [List.length_append]; exact c2, ⟨?_, ?_⟩, ?_, ?_, ?_⟩
        · refine List.nodup_append.mpr ⟨hI.1, by simp, ?_⟩
          intro a ha b hb e
          have : b = nx z t := by simpa using hb
          rw [e, this] at ha
          exact hz ha
        · intro y hy
          rcases List.mem_append.mp hy with h | h
          · exact hI.2 y h
          · have : y = nx z t := by simpa using h
            rw [this]
            exact ⟨nx_lo _ _, nx_hi _ _⟩
        · rw [upd_same, List.map_append]; rfl
        · obtain ⟨x, y, hd, r⟩ := D5
          exact ⟨x, y, by rw [upd_ne nld.symm]; exact hd, r⟩
        · intro b o hb e
          have nb : b ≠ l := ne_of_none e hl
          rw [upd_ne nb]
          have e4 := B3 b o hb (B2 b o hb (B1 b o hb e))
          exact B5 b o hb (by rw [upd_ne (ne_of_none e4 hp)]; exact e4)
    · have c' : ¬ ((js.map V.int).length : Int) < n := fun q => c (decide_eq_true q)
      rw [List.length_map] at c'
      exact ⟨_, rfl, k l js H1 hl B1 D1 hL (by omega) hI⟩
end
/-! ### sets of ints -/
/-- S is the set of the ints ns, n their number -/
def SetIs (ns : List Int) (S : Int → Bool) (n : Nat) : Prop := (∀ k, S k = decide (k ∈ ns)) ∧ ∃ L : List Int, L.Nodup ∧ L.length = n ∧ ∀ k, k ∈ L ↔ k ∈ ns
theorem shorter : ∀ ns : List Int, ¬ ns.Nodup → ∃ ms : List Int, ms.length < ns.length ∧ ∀ k ∈ ns, k ∈ ms
  | [], h => absurd List.nodup_nil h
  | a :: r, h => by
    by_cases ha : a ∈ r
    · exact ⟨r, Nat.lt_succ_self _, fun k hk => by
        rcases List.mem_cons.mp hk with e | e
        · rw [e]; exact ha
        · exact e⟩
    · have hr : ¬ r.Nodup := fun q => h (List.nodup_cons.mpr ⟨ha, q⟩)
      obtain ⟨ms, h1, h2⟩ := shorter r hr
      exact ⟨a :: ms, Nat.succ_lt_succ h1, fun k hk => by
        rcases List.mem_cons.mp hk with e | e
        · rw [e]; exact List.mem_cons_self
        · exact List.mem_cons_of_mem _ (h2 k e)⟩
theorem SetIs.count {ns : List Int} {S : Int → Bool} {n : Nat} (h : SetIs ns S n) : ((n : Int) = (ns.length : Int)) ↔ ns.Nodup := by
  obtain ⟨_, L, h1, h2, h3⟩ := h
  have a := len_le_of_sub L ns h1 fun k hk => (h3 k).mp hk
  constructor
  · intro e
    by_cases hN : ns.Nodup
    · exact hN
    · obtain ⟨ms, m1, m2⟩ := shorter ns hN
      have b := len_le_of_sub L ms h1 fun k hk => m2 k ((h3 k).mp hk)
      omega
  · intro hN
    have b := len_le_of_sub ns L hN fun k hk => (h3 k).mpr hk
    omega
theorem firstMet_nodup (val : Nat → Int) : ∀ i, (firstMet val i).Nodup
  | 0 => by rw [firstMet_zero]; exact List.nodup_nil
  | i + 1 => by
    rw [firstMet_succ]
    unfold step_dedup
    have ih := firstMet_nodup val i
    split
    · exact ih
    · rename_i h
      refine List.nodup_append.mpr ⟨ih, by simp, ?_⟩
      intro a ha b hb e
      have : b = val i := by simpa using hb
      refine h (List.any_eq_true.mpr ⟨a, ha, ?_⟩)
      rw [e, this]
      simp
theorem getD_range (ns : List Int) : (List.range ns.length).map (fun i => ns.getD i 0) = ns := by
  apply List.ext_getElem
  · simp
  · intro i h1 h2
    simp [List.getD, h2]
theorem firstMet_mem (ns : List Int) (k : Int) : k ∈ firstMet (fun i => ns.getD i 0) ns.length ↔ k ∈ ns := by
  have h := firstMet_any (fun i => ns.getD i 0) ns.length k
  rw [getD_range] at h
  have e : ∀ l : List Int, (l.any (· == k) = true) ↔ k ∈ l := fun l => by
    rw [List.any_eq_true]
    constructor
    · rintro ⟨x, hx, q⟩
      have : x = k := by simpa using q
      rw [← this]; exact hx
    · intro hk
      exact ⟨k, hk, by simp⟩
  rw [← e, ← e, h]
def rSetI (K : PySem.W.Frag) : List V → Hp → VK → Prop := fun xs H Q => ∃ (p : Addr) (ns : List Int), xs = [.ref p] ∧ (SqL K H p (ns.map V.int) ∨ SqT K H p (ns.map V.int)) ∧ ns.length ≤ 4000 ∧
  ∀ (q : Addr) (S : Int → Bool) (n : Nat), H q = none → SetIs ns S n → n ≤ ns.length → Q (.ref q) (upd H q (.set S n))
section
variable {X : Cx}
theorem cr_setI (hc : X.calm = true) : CallR X (.type "set") (rSetI X.K) := by
  intro pins s σ H xs us Q I r h
  obtain ⟨p, ns, rfl, hq, hlen, k⟩ := h
  rw [Vals.ref1 r]
  have hs : scanBound = 4096 := rfl
  rcases hq with hq | hq
  · obtain ⟨its, rv, pl, hz⟩ := I.list hq
    have hl := rv.length
    rw [List.length_map] at hl
    refine call_set_list (I.ok.hd hc) pl.isList (ns := ns) (Vals.ints rv) (by rw [List.size_toArray, hs]; omega) fun h' tk R kk => ?_
    have esz : its.toArray.size = ns.length := by rw [List.size_toArray]; omega
    rw [esz] at R
    have hn := firstMet_mem ns
    have hset : SetIs ns (fun k' => (firstMet (fun i => ns.getD i 0) ns.length).any (· == k')) (firstMet (fun i => ns.getD i 0) ns.length).length := by
      refine ⟨fun k => ?_, _, firstMet_nodup _ _, rfl, hn⟩
      rw [Bool.eq_iff_iff, decide_eq_true_iff, ← hn k, List.any_eq_true]
      constructor
      · rintro ⟨x, hx, q⟩
        have : x = k := by simpa using q
        rw [← this]; exact hx
      · intro hk
        exact ⟨k, hk, by simp⟩
    have I' := I.laid (a := s.heap.objs.size) (o := .set _ _) (h' := h') (t' := tk) (fun b u e => kk b u (Heap.lt_size e) e) (Nat.le_refl _) R
    exact ⟨.ref _, _, I', rfl, k _ _ _ (I.hok.fresh (Nat.le_refl _)) hset (firstMet_length_le _ _)⟩
  · obtain ⟨its, rv, pl, hz⟩ := I.tuple hq
    have hl := rv.length
    rw [List.length_map] at hl
    refine call_set_tupI ns (I.ok.hd hc) pl (Vals.ints rv) (by rw [hs]; omega) fun h' tk c R hle kk => ?_
    have hset : SetIs ns (fun j => decide (j ∈ ns)) c := by
      obtain ⟨o, es, ep, t, h1, h2, h3, h4, h5, h6, h7, h8, h9, _⟩ := id R
      refine ⟨fun k => rfl, es.toList.map keyOf, h5, ?_, fun k => ?_⟩
      · rw [List.length_map, ← h9]; rfl
      · rw [← h6 k, decide_eq_true_iff]
    have I' := I.laid (a := s.heap.objs.size) (o := .set _ _) (h' := h') (t' := tk) (fun b u e => kk b u e) (Nat.le_refl _) (SetR.setOf R)
    exact ⟨.ref _, _, I', rfl, k _ _ _ (I.hok.fresh (Nat.le_refl _)) hset hle⟩
def rInSet (neg : Bool) : R2 := fun x y H Q => ∃ (k : Int) (a : Addr) (S : Int → Bool) (n : Nat), x = .int k ∧ y = .ref a ∧ H a = some (.set S n) ∧ Q (.bl (if neg then !S k else S k)) H
theorem op_inSet : OpR X (compareOp .In) (rInSet false) := by
  intro pins s σ H x y v u Q I rx ry h
  obtain ⟨k, a, S, n, rfl, rfl, ha, q⟩ := h
  cases ry
  obtain ⟨t, rfl⟩ := rx
  exact wpAny_inSet_of (knd := intKind X.prog X.w) (k := k) (by first | rfl | simp [intKind, Value.isInt]) rfl (I.hok a _ ha) ⟨.bl (S k), H, I.tok _, rfl, q⟩
theorem op_notInSet : OpR X (compareOp .NotIn) (rInSet true) := by
  intro pins s σ H x y v u Q I rx ry h
  obtain ⟨k, a, S, n, rfl, rfl, ha, q⟩ := h
  cases ry
  obtain ⟨t, rfl⟩ := rx
  exact wpAny_notInSet_of (knd := intKind X.prog X.w) (k := k) (by first | rfl | simp [intKind, Value.isInt]) rfl (I.hok a _ ha) ⟨.bl (!S k), H, I.tok _, rfl, q⟩
theorem call_lenSet : CallR X (.builtin "len") (fun xs H Q => ∃ a S n, xs = [.ref a] ∧ H a = some (.set S n) ∧ Q (.int n) H) := by
  intro pins s σ H xs us Q I r h
  obtain ⟨a, S, n, rfl, ha, q⟩ := h
  rw [Vals.ref1 r]
  obtain ⟨o, es, ep, t, h1, h2, h3, h4, h5, h6, h7, h8⟩ := I.hok a _ ha
  have hs : scanBound = 4096 := rfl
  refine call_len_set h1 h2 h3 h7 (by omega) ?_
  rw [h8]
  exact ⟨.int n, H, (I.tok (s.toks + 1 + 1)), ⟨_, rfl⟩, q⟩
end
/-! ### data in the heap: flat things, lists, tuples, the empty dict -/
mutual
inductive DV (K : PySem.W.Frag) (H : Hp) : V → PyData → Prop
  | non : DV K H .non .none
  | bl (b : Bool) : DV K H (.bl b) (.bool b)
  | int (i : Int) : DV K H (.int i) (.int i)
  | str (x : Str) : DV K H (.str x) (.str x)
  | lst {a : Addr} {xs : List V} {ds : List PyData} : SqL K H a xs → DVs K H xs ds → DV K H (.ref a) (.list ds)
  | tup {a : Addr} {xs : List V} {ds : List PyData} : SqT K H a xs → DVs K H xs ds → DV K H (.ref a) (.tuple ds)
  | dk0 {a : Addr} : H a = some (.dK []) → DV K H (.ref a) (.dict [])
inductive DVs (K : PySem.W.Frag) (H : Hp) : List V → List PyData → Prop
  | nil : DVs K H [] []
  | cons {v : V} {vs : List V} {d : PyData} {ds : List PyData} : DV K H v d → DVs K H vs ds → DVs K H (v :: vs) (d :: ds)
end
section
variable {K : PySem.W.Frag} {H H' : Hp}
theorem DVs.length {vs : List V} {ds : List PyData} (h : DVs K H vs ds) : vs.length = ds.length := by
  induction vs generalizing ds with
  | nil => cases h; rfl
  | cons v r ih => cases h with | cons _ t => exact congrArg Nat.succ (ih t)
theorem DVs.at {vs : List V} {ds : List PyData} (h : DVs K H vs ds) : ∀ {i : Nat} {v : V}, vs[i]? = some v → ∃ d, ds[i]? = some d ∧ DV K H v d := by
  induction vs generalizing ds with
  | nil => intro i v e; simp at e
  | cons v r ih =>
    cases h with
    | cons p t =>
      intro i u e
      cases i with
      | zero => simp at e; subst e; exact ⟨_, rfl, p⟩
      | succ i => simp at e; obtain ⟨d, h1, h2⟩ := ih t e; exact ⟨d, by simpa using h1, h2⟩
theorem Same.sq {a : Addr} {xs : List V} (e : Same H H') (h : SqL K H a xs) : SqL K H' a xs := e.seq h
theorem Same.tq {a : Addr} {xs : List V} (e : Same H H') (h : SqT K H a xs) : SqT K H' a xs := by
  rcases h with (h | ⟨o, h⟩) | h
  · exact .inl (.inl (e _ _ h))
  · exact .inl (.inr ⟨o, e _ _ h⟩)
  · exact .inr h
mutual
theorem DV.same (e : Same H H') : ∀ {d : PyData} {v : V}, DV K H v d → DV K H' v d
  | _, _, .non => .non
  | _, _, .bl b => .bl b
  | _, _, .int i => .int i
  | _, _, .str x => .str x
  | _, _, .lst h t => .lst (Same.sq e h) (DVs.same e t)
  | _, _, .tup h t => .tup (Same.tq e h) (DVs.same e t)
  | _, _, .dk0 h => .dk0 (e _ _ h)
theorem DVs.same (e : Same H H') : ∀ {ds : List PyData} {vs : List V}, DVs K H vs ds → DVs K H' vs ds
  | _, _, .nil => .nil
  | _, _, .cons p t => .cons (DV.same e p) (DVs.same e t)
end
/-- a value's built-in type by its name -/
def TyD (K : PySem.W.Frag) (H : Hp) (x : V) : Prop := ∃ nm : String, TyX K H x (.type nm) ∧ ((nm = "NoneType" ∧ x = .non) ∨ (nm = "bool" ∧ ∃ b, x = .bl b) ∨ (nm = "int" ∧ ∃ i, x = .int i) ∨ (nm = "str" ∧ ∃ z, x = .str z) ∨
  (nm = "list" ∧ ∃ a, x = .ref a) ∨ (nm = "tuple" ∧ ∃ a, x = .ref a) ∨ (nm = "dict" ∧ ∃ a, x = .ref a))
theorem tyL {a : Addr} {xs : List V} (h : SqL K H a xs) : TyX K H (.ref a) (.type "list") := by
  rcases h with (h | ⟨o, h⟩) | ⟨o, _, _, h, c, _⟩
  · exact .base (.lst h)
  · exact .base (.frz h)
  · exact .kList h c
theorem tyT {a : Addr} {xs : List V} (h : SqT K H a xs) : TyX K H (.ref a) (.type "tuple") := by
  rcases h with (h | ⟨o, h⟩) | ⟨o, _, _, h, c, _⟩
  · exact .base (.tup h)
  · exact .fTuple h
  · exact .kTuple h c
theorem DV.ty {v : V} {d : PyData} (h : DV K H v d) : TyD K H v := by
  cases h with
  | non => exact ⟨_, .base .non, .inl ⟨rfl, rfl⟩⟩
  | bl b => exact ⟨_, .base (.bl b), .inr (.inl ⟨rfl, b, rfl⟩)⟩
  | int i => exact ⟨_, .base (.int i), .inr (.inr (.inl ⟨rfl, i, rfl⟩))⟩
  | str x => exact ⟨_, .base (.str x), .inr (.inr (.inr (.inl ⟨rfl, x, rfl⟩)))⟩
  | lst h t => exact ⟨_, tyL h, .inr (.inr (.inr (.inr (.inl ⟨rfl, _, rfl⟩))))⟩
  | tup h t => exact ⟨_, tyT h, .inr (.inr (.inr (.inr (.inr (.inl ⟨rfl, _, rfl⟩)))))⟩
  | dk0 h => exact ⟨_, .base (.dK h), .inr (.inr (.inr (.inr (.inr (.inr ⟨rfl, _, rfl⟩)))))⟩
end
def wholeV : V → Bool
  | .int _ => true
  | _ => false
def wholeD : PyData → Bool
  | .int _ => true
  | _ => false
theorem DV.whole {K : PySem.W.Frag} {H : Hp} {v : V} {d : PyData} (h : DV K H v d) : wholeV v = wholeD d := by cases h <;> rfl
structure TxtV (mg : Str → Option Value) : Prop where
  len : mg "len" = none
  isi : mg "isinstance" = none
  int : mg "int" = none
  bool : mg "bool" = none
  tuple : mg "tuple" = none
  set : mg "set" = none
  all : mg "all" = none
  list : mg "list" = none
section
variable {P : Program} {w : World} {K : PySem.W.Frag} {mg : Str → Option Value} {base : Heap}
/-! ### is_whole -/
def spWhole (K : PySem.W.Frag) : Sp := fun vs H Q _ => ∃ x : V, vs = [x] ∧ TyD K H x ∧ Q (.bl (wholeV x)) H
theorem scWhole : FnScope ["value"] ["value"] (defScope sWhole) := ⟨rfl, rfl, rfl, by decide +kernel, rfl, by decide +kernel, by decide +kernel⟩
theorem ok_whole {f : Addr} {fd : FuncData} (F : Fun K "is_whole" "is_whole" sWhole f fd) (T : TxtV mg) : FnOk P w K mg base CX0 1 f fd ["value"] (spWhole K) := by
  refine F.ok scWhole (fun vs H Q E h => ?_) (fun cdv A outer s H vs Q E hr h => ?_)
  · obtain ⟨x, rfl, _⟩ := h
    rfl
  · obtain ⟨x, rfl, ⟨nm, ty, hn⟩, k⟩ := h
    refine ⟨_, pss_one (ps_ret (pe_and (pe_callB call_isi (by rfl) T.isi (by decide +kernel) (pa_cons (pv 0) (pa_cons (pe_bltn (v := .ty "int") (by rfl) T.int boot_int rfl) pa_nil)))
      (pe_one (pe_not (pe_callB call_isi (by rfl) T.isi (by decide +kernel) (pa_cons (pv 0) (pa_cons (pe_bltn (v := .ty "bool") (by rfl) T.bool boot_bool rfl) pa_nil))))))), ?_⟩
    refine ⟨_, rfl, ?_⟩
    rcases hn with ⟨rfl, rfl⟩ | ⟨rfl, b, rfl⟩ | ⟨rfl, i, rfl⟩ | ⟨rfl, z, rfl⟩ | ⟨rfl, a, rfl⟩ | ⟨rfl, a, rfl⟩ | ⟨rfl, a, rfl⟩
    · exact ⟨_, _, _, _, false, rfl, .ty _, ty, kit_ty (by decide +kernel), _, rfl, iteF k⟩
    · exact ⟨_, _, _, _, true, rfl, .ty _, ty, kit_ty (by decide +kernel), _, rfl, iteT ⟨_, rfl, _, _, _, _, true, rfl, .ty _, ty, kit_ty (by decide +kernel), _, rfl, k⟩⟩
    · exact ⟨_, _, _, _, true, rfl, .ty _, ty, kit_ty (by decide +kernel), _, rfl, iteT ⟨_, rfl, _, _, _, _, false, rfl, .ty _, ty, kit_ty (by decide +kernel), _, rfl, k⟩⟩
    · exact ⟨_, _, _, _, false, rfl, .ty _, ty, kit_ty (by decide +kernel), _, rfl, iteF k⟩
    · exact ⟨_, _, _, _, false, rfl, .ty _, ty, kit_ty (by decide +kernel), _, rfl, iteF k⟩
    · exact ⟨_, _, _, _, false, rfl, .ty _, ty, kit_ty (by decide +kernel), _, rfl, iteF k⟩
    · exact ⟨_, _, _, _, false, rfl, .ty _, ty, kit_ty (by decide +kernel), _, rfl, iteF k⟩
/-! ### all_different -/
def spDiff (K : PySem.W.Frag) : Sp := fun vs H Q _ => ∃ (p : Addr) (ns : List Int), vs = [.ref p] ∧ (SqL K H p (ns.map V.int) ∨ SqT K H p (ns.map V.int)) ∧ ns.length ≤ 4000 ∧ ∀ H', Same H H' → Q (.bl (decide ns.Nodup)) H'
theorem scDiff : FnScope ["numbers"] ["numbers"] (defScope sDiff) := ⟨rfl, rfl, rfl, by decide +kernel, rfl, by decide +kernel, by decide +kernel⟩
theorem ok_diff {f : Addr} {fd : FuncData} (F : Fun K "all_different" "all_different" sDiff f fd) (T : TxtV mg) : FnOk P w K mg base CX0 1 f fd ["numbers"] (spDiff K) := by
  refine F.ok scDiff (fun vs H Q E h => ?_) (fun cdv A outer s H vs Q E hr h => ?_)
  · obtain ⟨p, ns, rfl, _⟩ := h
    rfl
  · obtain ⟨p, ns, rfl, hS, hlen, k⟩ := h
    refine ⟨_, pss_one (ps_ret (pe_cmpR op_eq (pe_callB call_lenSet (by rfl) T.len PySem.boot_len (pa_cons (pe_callTy (cr_setI rfl) (by rfl) T.set (by decide +kernel) (pa_cons (pv 0) pa_nil)) pa_nil))
      (pe_callB call_len_seq (by rfl) T.len PySem.boot_len (pa_cons (pv 0) pa_nil)) (nomark _))), ?_⟩
    refine ⟨_, rfl, p, ns, rfl, hS, hlen, fun q S n hq hI hn => ?_⟩
    have e : Same H (upd H q (.set S n)) := Same.new hq
    refine ⟨q, S, n, rfl, upd_same, _, rfl, p, _, rfl, hS.imp (Same.sq e) (Same.tq e), rfl, ?_⟩
    have c := hI.count
    have r : decide (V.int (n : Int) = V.int ((ns.map V.int).length : Int)) = decide ns.Nodup := by
      rw [dec_int, List.length_map]
      by_cases hN : ns.Nodup
      · rw [decide_eq_true hN, c.mpr hN]; simp
      · rw [decide_eq_false hN]
        have : ¬ ((n : Int) = (ns.length : Int)) := fun q => hN (c.mp q)
        simpa using this
    show Q (V.bl (decide (V.int (n : Int) = V.int ((ns.map V.int).length : Int)))) _
    rw [r]
    exact k _ e
end
def isTup : PyData → Bool
  | .tuple _ => true
  | _ => false
def isLst : PyData → Bool
  | .list _ => true
  | _ => false
theorem kb1 : kitB "NoneType" "tuple" = some false := by decide +kernel
theorem kb2 : kitB "NoneType" "list" = some false := by decide +kernel
theorem kb3 : kitB "bool" "tuple" = some false := by decide +kernel
theorem kb4 : kitB "bool" "list" = some false := by decide +kernel
theorem kb5 : kitB "int" "tuple" = some false := by decide +kernel
theorem kb6 : kitB "int" "list" = some false := by decide +kernel
theorem kb7 : kitB "str" "tuple" = some false := by decide +kernel
theorem kb8 : kitB "str" "list" = some false := by decide +kernel
theorem kb9 : kitB "list" "tuple" = some false := by decide +kernel
theorem kb10 : kitB "list" "list" = some true := by decide +kernel
theorem kb11 : kitB "tuple" "tuple" = some true := by decide +kernel
theorem kb12 : kitB "tuple" "list" = some false := by decide +kernel
theorem kb13 : kitB "dict" "tuple" = some false := by decide +kernel
theorem kb14 : kitB "dict" "list" = some false := by decide +kernel
theorem DV.kit {K : PySem.W.Frag} {H : Hp} {v : V} {d : PyData} (h : DV K H v d) : ∃ nm : String, TyX K H v (.type nm) ∧ PySem.W.kitOne K (.type nm) (.type "tuple") = some (isTup d) ∧ PySem.W.kitOne K (.type nm) (.type "list") = some (isLst d) := by
  cases h with
  | non => exact ⟨_, .base .non, kit_ty kb1, kit_ty kb2⟩
  | bl b => exact ⟨_, .base (.bl b), kit_ty kb3, kit_ty kb4⟩
  | int i => exact ⟨_, .base (.int i), kit_ty kb5, kit_ty kb6⟩
  | str x => exact ⟨_, .base (.str x), kit_ty kb7, kit_ty kb8⟩
  | lst h t => exact ⟨_, tyL h, kit_ty kb9, kit_ty kb10⟩
  | tup h t => exact ⟨_, tyT h, kit_ty kb11, kit_ty kb12⟩
  | dk0 h => exact ⟨_, .base (.dK h), kit_ty kb13, kit_ty kb14⟩
/-! ### the plain functions -/
def intOf : PyData → Int
  | .int i => i
  | _ => 0
theorem whole_all {K : PySem.W.Frag} {H : Hp} : ∀ {ds : List PyData} {vs : List V}, DVs K H vs ds → ds.all wholeD = true → vs = (ds.map intOf).map V.int
  | _, _, .nil, _ => rfl
  | d :: ds, v :: vs, .cons p t, h => by
    rw [List.all_cons, Bool.and_eq_true] at h
    rw [List.map_cons, List.map_cons, ← whole_all t h.2]
    cases p <;> first | rfl | (exact absurd h.1 (by intro q; cases q))
theorem DVs.wholes {K : PySem.W.Frag} {H : Hp} {ds : List PyData} {vs : List V} (h : DVs K H vs ds) {i : Nat} {v : V} (e : vs[i]? = some v) : ∃ d, ds[i]? = some d ∧ wholeV v = wholeD d ∧ TyD K H v := by
  obtain ⟨d, h1, h2⟩ := h.at e
  exact ⟨d, h1, h2.whole, h2.ty⟩
theorem take_snoc {α : Type} {l : List α} {i : Nat} {x : α} (h : l[i]? = some x) : l.take (i + 1) = l.take i ++ [x] := by
  rw [List.take_succ, h]; rfl
theorem lt_of_some {α : Type} {l : List α} {i : Nat} {x : α} (h : l[i]? = some x) : i < l.length := (List.getElem?_eq_some_iff.mp h).1
theorem cut_to (xs : List V) (k : Nat) : cutV xs none (some (k : Int)) = xs.take k := by
  unfold cutV
  rw [HT.sIx_none, HT.sIx_nat, List.drop_zero, Nat.sub_zero]
  rcases Nat.le_total k xs.length with h | h
  · rw [Nat.min_eq_left h]
  · rw [Nat.min_eq_right h, List.take_length, List.take_of_length_le h]
theorem cut_from (xs : List V) (k : Nat) : cutV xs (some (k : Int)) none = xs.drop k := by
  unfold cutV
  rw [HT.sIx_none, HT.sIx_nat]
  rcases Nat.le_total k xs.length with h | h
  · rw [Nat.min_eq_left h, ← List.length_drop, List.take_length]
  · rw [Nat.min_eq_right h, Nat.sub_self, List.take_zero, List.drop_of_length_le h]
/-! ### how often an int stands in data -/
def eqID (k : Int) : PyData → Bool
  | .int i => i == k
  | .bool b => (if b then 1 else 0) == k
  | _ => false
def eqIU (k : Int) : Value → Bool
  | .int i _ => i == k
  | .bool b => (if b then 1 else 0) == k
  | _ => false
theorem dict_no_int (a : Addr) (es : Array DictEntry) (n : Nat) (dd : Option Addr) (sl : Array (Option Value)) (k : Int) (u : Tok) :
    Meets (Builtin.«dict.__eq__» ⟨[.ref a, .int k u], []⟩) (fun _ R st => st.heap.get? a = some { cls := .type "dict", dict := dd, data := .dict es n, slots := sl } ∧ R (.ok (.ret .notImplemented)) st) :=
  .of_wp fun pr w A R st h => by
    obtain ⟨hp, g, d, tk, os⟩ := st
    obtain ⟨hl, h⟩ := h
    have f1 := F.sub_int_dict
    wp_walk using wpAny_loadPart' hl, wpAny_load hl
    exact ⟨_, rfl, h⟩
theorem int_no_dict (k : Int) (u : Tok) (a : Addr) (es : Array DictEntry) (n : Nat) (dd : Option Addr) (sl : Array (Option Value)) :
    Meets (Builtin.«int.__eq__» ⟨[.int k u, .ref a], []⟩) (fun _ R st => st.heap.get? a = some { cls := .type "dict", dict := dd, data := .dict es n, slots := sl } ∧ R (.ok (.ret .notImplemented)) st) :=
  .of_wp fun pr w A R st h => by
    obtain ⟨hp, g, d, tk, os⟩ := st
    obtain ⟨hl, h⟩ := h
    wp_walk using wpAny_loadPart' hl, wpAny_load hl
    exact ⟨_, rfl, h⟩
section
variable {A : Around} {st : Shared}
theorem eqAt_dict_int {a : Addr} {o : Obj} {es : Array DictEntry} {n : Nat} (k : Int) (u : Tok) (ho : st.heap.get? a = some o) (hc : o.cls = .type "dict") (hd : o.data = .dict es n) (hu : A.units < cLine) : SeqAt.EqAt A st (.ref a) (.int k u) false := fun pr w E Q h => by
  obtain ⟨cls, dd, data, sl⟩ := o
  simp only at hc hd
  subst hc hd
  unfold eqBool
  refine wpAny_holding ?_
  refine wpAny_ite_split (fun hab => absurd (eq_of_beq hab) nofun) (fun _ => wpAny_bind ?_)
  refine SeqAt.rc_eq_decline_or (k := false) ⟨_, ho, rfl⟩ (typeIs_int st k u) (by decide) F.sub_int_dict F.slot_dict_eq F.slot_int_eq_refl
    (fun _ hq => call_meets F.slot_dict_eq ⟨_, ho, rfl⟩ F.entry_dict_eq (F.args_dict_eq_2 _ _) (dict_no_int a es n dd sl k u) ⟨ho, hq⟩)
    (fun _ hq => call_meets F.slot_int_eq_refl (typeIs_int st k u) F.entry_int_eq (F.args_int_eq_2 _ _) (int_no_dict k u a es n dd sl) ⟨ho, hq⟩)
    (fun _ hq => wpAny_of_eq (rfl : isSame (.ref a) (.int k u) = pure false) hq) (.inr hu) (wpAny_truthy_bool h)
end
section
variable {X : Cx} {pins : List (Addr × Obj)} {σ : L2.St} {H : Hp} {s : Shared}
theorem DV.eqInt (I : Inv X pins σ H s) {v : V} {d : PyData} {u : Value} {A : Around} (h : DV X.K H v d) (r : RelV v u) (k : Int) (t : Tok) (hu : A.units < cLine) : SeqAt.EqAt A s u (.int k t) (eqID k d) ∧ eqIU k u = eqID k d := by
  cases h with
  | non => obtain rfl : u = Value.none := r; exact ⟨SeqAt.EqAt.none_int k t, rfl⟩
  | bl b => obtain rfl : u = Value.bool b := r; exact ⟨SeqAt.EqAt.bool_int b k t, rfl⟩
  | int i => obtain ⟨t', rfl⟩ := r; exact ⟨SeqAt.EqAt.int_int i t' k t, rfl⟩
  | str x => obtain ⟨t', rfl⟩ := r; exact ⟨SeqAt.EqAt.str_int x t' k t, rfl⟩
  | lst h _ =>
    obtain rfl : u = Value.ref _ := r
    obtain ⟨its, _, ⟨o, n, ho, hc, _, hd⟩, _⟩ := I.list h
    exact ⟨SeqAt.EqAt.list_int k t ⟨o, ho, hc, n, hd⟩ hu, rfl⟩
  | tup h _ =>
    obtain rfl : u = Value.ref _ := r
    obtain ⟨its, _, p1, _⟩ := I.tuple h
    exact ⟨SeqAt.EqAt.tuple_int k t p1 hu, rfl⟩
  | dk0 h =>
    obtain rfl : u = Value.ref _ := r
    obtain ⟨_, sy, vs, rel, o, es, ep, h1, h2, h3, h4⟩ := I.hok _ _ h
    exact ⟨eqAt_dict_int k t h1 h2.1 h3 hu, rfl⟩
theorem DVs.eqInts (I : Inv X pins σ H s) {A : Around} (k : Int) (t : Tok) (hu : A.units < cLine) : ∀ {vs : List V} {ds : List PyData} {us : List Value}, DVs X.K H vs ds → Vals vs us → (∀ u ∈ us, SeqAt.EqAt A s u (.int k t) (eqIU k u)) ∧ us.countP (eqIU k) = ds.countP (eqID k)
  | _, _, _, .nil, r => by
    cases r
    exact ⟨(fun _ h => (nomatch h)), rfl⟩
  | _, _, _, .cons p q, r => by
    cases r with
    | cons r1 r2 =>
      obtain ⟨a1, a2⟩ := DV.eqInt I p r1 k t hu
      obtain ⟨b1, b2⟩ := DVs.eqInts I k t hu q r2
      refine ⟨fun u hm => ?_, ?_⟩
      · rcases List.mem_cons.mp hm with e | e
        · rw [e, a2]; exact a1
        · exact b1 u e
      · rw [List.countP_cons, List.countP_cons, b2, a2]
end
def rCntL (K : PySem.W.Frag) : V → List V → Hp → VK → Prop := fun x vs H Q => ∃ (a : Addr) (xs : List V) (ds : List PyData) (k : Int), x = .ref a ∧ vs = [.int k] ∧ SqL K H a xs ∧ DVs K H xs ds ∧ Q (.int (ds.countP (eqID k) : Nat)) H
def rCntT (K : PySem.W.Frag) : V → List V → Hp → VK → Prop := fun x vs H Q => ∃ (a : Addr) (xs : List V) (ds : List PyData) (k : Int), x = .ref a ∧ vs = [.int k] ∧ SqT K H a xs ∧ DVs K H xs ds ∧ Q (.int (ds.countP (eqID k) : Nat)) H
section
variable {X : Cx} {K : PySem.W.Frag}
theorem mt_cntL (hK : X.K = K) (hu : X.A.units + 64 < cLine) : MtR X "list.count" (rCntL K) := by
  subst hK
  intro pins s σ H x vs v us Q I rx rs h
  obtain ⟨a, xs, ds, k, rfl, rfl, hL, hD, q⟩ := h
  cases rx
  obtain ⟨u, rfl, ru⟩ := Vals.one rs
  obtain ⟨t, rfl⟩ := ru
  obtain ⟨its, rv, ⟨⟨cls, dd, data, sl⟩, n, ho, hc, hn0, hd⟩, _⟩ := I.list hL
  simp only at hc hd
  subst hc hd
  obtain ⟨b1, b2⟩ := DVs.eqInts I k t (A := X.A.in1.in1) (by show X.A.units + 1 + 1 < cLine; omega) hD rv
  obtain ⟨c1, _⟩ := DVs.eqInts I k t (A := X.A.in1) (by show X.A.units + 1 < cLine; omega) hD rv
  refine call_meets PySem.F.slot_list_count ⟨_, ho, rfl⟩ PySem.F.entry_list_count (PySem.F.args_list_count_2 _ _) (SeqAt.list_countAt a its.toArray n dd sl (.int k t) (eqIU k)) ⟨ho, fun u hu' => ?_, ?_⟩
  · first
      | exact c1 u (by simpa using hu')
      | exact b1 u (by simpa using hu')
  · rw [← b2] at q
    exact ⟨.int _, H, I.tok _, ⟨_, rfl⟩, q⟩
theorem mt_cntT (hK : X.K = K) (hu : X.A.units + 64 < cLine) : MtR X "tuple.count" (rCntT K) := by
  subst hK
  intro pins s σ H x vs v us Q I rx rs h
  obtain ⟨a, xs, ds, k, rfl, rfl, hL, hD, q⟩ := h
  cases rx
  obtain ⟨u, rfl, ru⟩ := Vals.one rs
  obtain ⟨t, rfl⟩ := ru
  obtain ⟨its, rv, ⟨⟨cls, dd, data, sl⟩, ho, hc, n, hd⟩, _⟩ := I.tuple hL
  simp only at hc hd
  subst hc hd
  obtain ⟨b1, b2⟩ := DVs.eqInts I k t (A := X.A.in1.in1) (by show X.A.units + 1 + 1 < cLine; omega) hD rv
  obtain ⟨c1, _⟩ := DVs.eqInts I k t (A := X.A.in1) (by show X.A.units + 1 < cLine; omega) hD rv
  refine call_meets PySem.F.slot_tuple_count ⟨_, ho, rfl⟩ PySem.F.entry_tuple_count (PySem.F.args_tuple_count_2 _ _) (SeqAt.tuple_countAt a its.toArray n dd sl (.int k t) (eqIU k)) ⟨ho, fun u hu' => ?_, ?_⟩
  · first
      | exact c1 u (by simpa using hu')
      | exact b1 u (by simpa using hu')
  · rw [← b2] at q
    exact ⟨.int _, H, I.tok _, ⟨_, rfl⟩, q⟩
end
def areIdsL (js : List Int) (ds : List PyData) : Bool := !ds.isEmpty && ds.all wholeD && (ds.map intOf).all (fun k => decide (k ∈ js)) && decide (ds.map intOf).Nodup
def areIds (js : List Int) : PyData → Bool
  | .tuple ds => areIdsL js ds
  | _ => false
/-- not too long, and if all are ints few -/
def fewD (ds : List PyData) : Prop := ds.length ≤ 1000000 ∧ (ds.all wholeD = true → ds.length ≤ 4000)
theorem fewD.of {ds : List PyData} (h : ds.length ≤ 4000) : fewD ds := ⟨by omega, fun _ => h⟩
section
variable {P : Program} {w : World} {K : PySem.W.Frag} {mg : Str → Option Value} {base : Heap}
def spAreIds (K : PySem.W.Frag) : Sp := fun vs H Q _ => ∃ (o : Addr) (js : List Int) (v : V) (d : PyData), vs = [.ref o, v] ∧ SqL K H o (js.map V.int) ∧ js.length ≤ 4000 ∧ DV K H v d ∧ (∀ ds, d = .tuple ds → fewD ds) ∧
  ∀ H', Same H H' → Q (.bl (areIds js d)) H'
theorem scAreIds : FnScope ["order", "value", "known", "row_id"] ["order", "value"] (defScope sAreIds) := ⟨rfl, rfl, rfl, by decide +kernel, rfl, by decide +kernel, by decide +kernel⟩
theorem ok_areIds {f fW fD : Addr} {fd fdW fdD : FuncData} (F : Fun K "are_ids_of" "are_ids_of" sAreIds f fd) (T : TxtV mg) (FW : Fun K "is_whole" "is_whole" sWhole fW fdW) (bW : Binds K fdW ["value"] []) (mW : mg "is_whole" = some (.ref fW))
    (FD : Fun K "all_different" "all_different" sDiff fD fdD) (bD : Binds K fdD ["numbers"] []) (mD : mg "all_different" = some (.ref fD)) : FnOk P w K mg base CX0 2 f fd ["order", "value"] (spAreIds K) := by
  have GW : FnOk P w K mg base CX0 1 fW fdW ["value"] (spWhole K) := ok_whole FW T
  have GD : FnOk P w K mg base CX0 1 fD fdD ["numbers"] (spDiff K) := ok_diff FD T
  refine F.ok scAreIds (fun vs H Q E h => ?_) (fun cdv A outer s H vs Q E hr h => ?_)
  · obtain ⟨o, js, v, d, rfl, _⟩ := h
    rfl
  · obtain ⟨o, js, v, d, rfl, hO, hj, hd, hdl, k⟩ := h
    refine ⟨_, pss_cons (ps_if (PW.pt (pw_or (pt_not (pt_val (pe_callB call_isi (by rfl) T.isi (by decide +kernel) (pa_cons (pv 1) (pa_cons (pe_bltn (v := .ty "tuple") (by rfl) T.tuple boot_tuple rfl) pa_nil)))))
          (pw_or1 (pt_cmpR op_eq (pe_callB call_len_seq (by rfl) T.len PySem.boot_len (pa_cons (pv 1) pa_nil)) pe_int (nomark _))))) (pss_one (ps_ret pe_bl)) pss_nil)
      (pss_cons (ps_if (pt_not (pt_val (pe_callB (cr_all rfl) (by rfl) T.all (by decide +kernel) (pa_cons
          (pe_lc (own := [("row_id", 3)]) (g := gName 3) rfl scAreIds.nd (pi_tup (pv 1)) (blkOk_by (N := ["order", "value", "known", "row_id"]) (sc := defScope sAreIds) (by decide +kernel)) (fun _ _ _ _ _ => pg_name (i := 3) scAreIds.nd rfl (Or.inl rfl)) (fun _ _ _ _ _ => pts_nil)
            (fun _ _ _ _ _ => pe_call GW hr rfl mW FW.kp bW .nil pass0 (pa_cons (pv 3) pa_nil))) pa_nil)))) (pss_one (ps_ret pe_bl)) pss_nil)
      (pss_cons (ps_set (i := 2) scAreIds.nd rfl (Or.inr rfl) (pe_callTy (cr_setI rfl) (by rfl) T.set (by decide +kernel) (pa_cons (pv 0) pa_nil)))
      (pss_one (ps_ret (pe_and (pe_callB (cr_all rfl) (by rfl) T.all (by decide +kernel) (pa_cons
          (pe_lc (own := [("row_id", 3)]) (g := gName 3) rfl scAreIds.nd (pi_tup (pv 1)) (blkOk_by (N := ["order", "value", "known", "row_id"]) (sc := defScope sAreIds) (by decide +kernel)) (fun _ _ _ _ _ => pg_name (i := 3) scAreIds.nd rfl (Or.inl rfl)) (fun _ _ _ _ _ => pts_nil)
            (fun _ _ _ _ _ => pe_cmpR op_inSet (pv 3) (pv 2) (by rfl))) pa_nil)) (pe_one (pe_call GD hr rfl mD FD.kp bD .nil pass0 (pa_cons (pv 1) pa_nil)))))))), ?_⟩
    obtain ⟨nm, ty, k1, k2⟩ := hd.kit
    refine ⟨_, rfl, _, _, _, _, _, rfl, .ty _, ty, k1, _, rfl, ?_⟩
    cases hd with
    | tup hT hs =>
      rename_i a vs ds
      refine iteF ?_
      refine ⟨_, rfl, a, _, rfl, .inr hT, rfl, _, rfl, ?_⟩
      have hl := hs.length
      obtain ⟨hdl1, hdl2⟩ := hdl ds rfl
      by_cases h0 : ds = []
      · subst h0
        have : vs = [] := List.length_eq_zero_iff.mp hl
        subst this
        exact iteT (k H (Same.refl H))
      have hz : decide (V.int ((vs.length : Nat) : Int) = V.int 0) = false := by
        rw [dec_int]
        have : 0 < ds.length := List.length_pos_iff.mpr h0
        have : ¬ (((vs.length : Nat) : Int) = 0) := by omega
        simpa using this
      rw [hz]
      refine iteF ?_
      -- all([is_whole(row_id) for row_id in value])
      refine ⟨_, rfl, a, rfl, ⟨_, hT⟩, fun D hD => ?_⟩
      refine lc_tup (K := K) (a := a) (xs := vs) (fun i H' => Same H H' ∧ H' D = some (.lst ((ds.take i).map fun d => V.bl (wholeD d)))) ⟨Same.new hD, upd_same⟩ (fun i H' _ q => Same.tq q.1 hT) ?_ ?_
      · rintro i x H' hx ⟨s1, hL⟩
        obtain ⟨d, hd, hw, hty⟩ := hs.wholes hx
        refine ⟨rfl, ?_⟩
        obtain ⟨e, he, hv⟩ := hs.at hx
        refine ⟨_, rfl, x, rfl, (hv.same s1).ty, ?_⟩
        refine ⟨_, hL, ?_, ?_, ?_⟩
        · rw [List.length_map, List.length_take]
          rw [sizeLine_eq]; omega
        · intro b u hb
          rw [upd_ne (ne_of_none hb hD)]
          exact s1 b u hb
        · rw [upd_same, take_snoc hd, List.map_append]
          show some (HO.lst (_ ++ [V.bl (wholeV x)])) = some (HO.lst (_ ++ [V.bl (wholeD d)]))
          rw [hw]
      · rintro H1 ⟨s1, hL⟩
        rw [hl, List.take_length] at hL
        refine ⟨D, ds.map wholeD, rfl, SqL.of (by rw [List.map_map]; exact hL), _, rfl, ?_⟩
        have eall : (ds.map wholeD).all id = ds.all wholeD := by rw [List.all_map]; rfl
        rw [eall]
        cases hA : ds.all wholeD with
        | false =>
          refine iteT ?_
          have e : areIds js (.tuple ds) = false := by
            show areIdsL js ds = false
            unfold areIdsL
            rw [hA]
            simp
          have := k H1 s1
          rw [e] at this
          exact this
        | true =>
          refine iteF ?_
          have ev := whole_all hs hA
          have lenN : (ds.map intOf).length ≤ 4000 := by rw [List.length_map]; exact hdl2 hA
          -- known = set(order)
          refine ⟨_, rfl, o, js, rfl, .inl (Same.sq s1 hO), hj, fun q S n hq hS hn => ?_⟩
          have s2 : Same H (upd H1 q (.set S n)) := s1.trans (Same.new hq)
          refine ⟨_, rfl, a, rfl, ⟨_, Same.tq s2 hT⟩, fun D2 hD2 => ?_⟩
          refine lc_tup (K := K) (a := a) (xs := vs) (fun i H' => Same (upd H1 q (.set S n)) H' ∧ H' D2 = some (.lst (((ds.map intOf).take i).map fun z => V.bl (decide (z ∈ js))))) ⟨Same.new hD2, upd_same⟩ (fun i H' _ q => Same.tq (s2.trans q.1) hT) ?_ ?_
          · rintro i x H' hx ⟨s3, hL3⟩
            rw [ev, List.getElem?_map] at hx
            obtain ⟨z, hz2, rfl⟩ : ∃ z, (ds.map intOf)[i]? = some z ∧ x = V.int z := by
              cases hq2 : (ds.map intOf)[i]? with
              | none => rw [hq2] at hx; cases hx
              | some z => rw [hq2] at hx; exact ⟨z, rfl, (Option.some.inj hx).symm⟩
            refine ⟨rfl, ?_⟩
            refine ⟨_, rfl, _, rfl, z, q, S, n, rfl, rfl, s3 _ _ upd_same, ?_⟩
            refine ⟨_, hL3, ?_, ?_, ?_⟩
            · rw [List.length_map, List.length_take]
              rw [sizeLine_eq]; omega
            · intro b u hb
              rw [upd_ne (ne_of_none hb hD2)]
              exact s3 b u hb
            · rw [upd_same, take_snoc hz2, List.map_append]
              show some (HO.lst (_ ++ [V.bl (S z)])) = some (HO.lst (_ ++ [V.bl (decide (z ∈ js))]))
              rw [hS.1 z]
          · rintro H3 ⟨s3, hL3⟩
            have hv2 : vs.length = (ds.map intOf).length := by rw [List.length_map]; exact hl
            rw [hv2, List.take_length] at hL3
            have s4 : Same H H3 := s2.trans s3
            refine ⟨D2, (ds.map intOf).map fun z => decide (z ∈ js), rfl, SqL.of (by rw [List.map_map]; exact hL3), _, rfl, ?_⟩
            have eall2 : ((ds.map intOf).map fun z => decide (z ∈ js)).all id = (ds.map intOf).all fun z => decide (z ∈ js) := by rw [List.all_map]; rfl
            rw [eall2]
            have e0 : ds.isEmpty = false := by cases ds with | nil => exact absurd rfl h0 | cons _ _ => rfl
            have e : areIds js (.tuple ds) = ((ds.map intOf).all (fun z => decide (z ∈ js)) && decide (ds.map intOf).Nodup) := by
              show areIdsL js ds = _
              unfold areIdsL
              rw [hA, e0]
              simp
            cases hB : (ds.map intOf).all fun z => decide (z ∈ js) with
            | false =>
              refine iteF ?_
              have := k H3 s4
              rw [e, hB] at this
              exact this
            | true =>
              refine iteT ?_
              refine ⟨_, rfl, a, ds.map intOf, rfl, .inr (by rw [← ev]; exact Same.tq s4 hT), lenN, fun H5 s5 => ?_⟩
              have := k H5 (s4.trans s5)
              rw [e, hB] at this
              exact this
    | _ => exact iteT (k H (Same.refl H))
end
/-! ### moves, plainly -/
def idsOf : PyData → List Int
  | .tuple ds => ds.map intOf
  | _ => []
def isMove2 (js : List Int) (i b : PyData) : Bool := areIds js i && wholeD b && (decide (intOf b = 0) || (decide (intOf b ∈ js) && !decide (intOf b ∈ idsOf i)))
def isMove (js : List Int) : PyData → Bool
  | .tuple [i, b] => isMove2 js i b
  | _ => false
/-- the order behind a move -/
def doMove (js ks : List Int) (b : Int) : List Int :=
  ((js.filter fun k => decide (k ∉ ks)).take (if b = 0 then 0 else (js.filter fun k => decide (k ∉ ks)).idxOf b + 1)) ++ ks ++ ((js.filter fun k => decide (k ∉ ks)).drop (if b = 0 then 0 else (js.filter fun k => decide (k ∉ ks)).idxOf b + 1))
theorem idx_at {js : List Int} {b : Int} (h : b ∈ js) : js[js.idxOf b]? = some b := by
  have := List.idxOf_lt_length_of_mem h
  rw [List.getElem?_eq_getElem this]
  exact congrArg some (List.getElem_idxOf this)
theorem idx_first {js : List Int} {b : Int} : ∀ {m : Nat} {z : Int}, m < js.idxOf b → js[m]? = some z → ¬ z = b := by
  induction js with
  | nil => intro m z h e; simp at e
  | cons a r ih =>
    intro m z h e
    by_cases hab : a = b
    · subst hab
      simp at h
    · have hb : (a == b) = false := by simpa using hab
      rw [List.idxOf_cons, hb, cond_false] at h
      cases m with
      | zero => simp at e; rw [← e]; exact hab
      | succ m => simp at e; exact ih (by omega) e
section
variable {P : Program} {w : World} {K : PySem.W.Frag} {mg : Str → Option Value} {base : Heap}
def spIsMove (K : PySem.W.Frag) : Sp := fun vs H Q _ => ∃ (o : Addr) (js : List Int) (v : V) (d : PyData), vs = [.ref o, v] ∧ SqL K H o (js.map V.int) ∧ js.length ≤ 4000 ∧ DV K H v d ∧ (∀ ds b, d = .tuple [.tuple ds, b] → fewD ds) ∧
  ∀ H', Same H H' → Q (.bl (isMove js d)) H'
theorem scIsMove : FnScope ["order", "value", "ids", "behind"] ["order", "value"] (defScope sIsMove) := ⟨rfl, rfl, rfl, by decide +kernel, rfl, by decide +kernel, by decide +kernel⟩
theorem ok_isMove {f fA fW fD : Addr} {fd fdA fdW fdD : FuncData} (F : Fun K "is_move" "is_move" sIsMove f fd) (T : TxtV mg) (FW : Fun K "is_whole" "is_whole" sWhole fW fdW) (bW : Binds K fdW ["value"] []) (mW : mg "is_whole" = some (.ref fW))
    (FD : Fun K "all_different" "all_different" sDiff fD fdD) (bD : Binds K fdD ["numbers"] []) (mD : mg "all_different" = some (.ref fD))
    (FA : Fun K "are_ids_of" "are_ids_of" sAreIds fA fdA) (bA : Binds K fdA ["order", "value"] []) (mA : mg "are_ids_of" = some (.ref fA)) : FnOk P w K mg base CX0 3 f fd ["order", "value"] (spIsMove K) := by
  have GW : FnOk P w K mg base CX0 1 fW fdW ["value"] (spWhole K) := ok_whole FW T
  have GA : FnOk P w K mg base CX0 2 fA fdA ["order", "value"] (spAreIds K) := ok_areIds FA T FW bW mW FD bD mD
  refine F.ok scIsMove (fun vs H Q E h => ?_) (fun cdv A outer s H vs Q E hr h => ?_)
  · obtain ⟨o, js, v, d, rfl, _⟩ := h
    rfl
  · obtain ⟨o, js, v, d, rfl, hO, hj, hd, hdl, k⟩ := h
    have hr1 : Room 1 _ := hr.mono (by decide)
    refine ⟨_, pss_cons (ps_if (PW.pt (pw_or (pt_not (pt_val (pe_callB call_isi (by rfl) T.isi (by decide +kernel) (pa_cons (pv 1) (pa_cons (pe_bltn (v := .ty "tuple") (by rfl) T.tuple boot_tuple rfl) pa_nil)))))
          (pw_or1 (pt_cmpR op_ne (pe_callB call_len_seq (by rfl) T.len PySem.boot_len (pa_cons (pv 1) pa_nil)) pe_int (nomark _))))) (pss_one (ps_ret pe_bl)) pss_nil)
      (pss_cons (ps_asg (pv 1) (pg_tup (by rfl) (pgs_cons (pg_name (i := 2) scIsMove.nd rfl (Or.inl rfl)) (pgs_cons (pg_name (i := 3) scIsMove.nd rfl (Or.inl rfl)) pgs_nil))))
      (pss_cons (ps_if (PW.pt (pw_or (pt_not (pt_val (pe_call GA hr rfl mA FA.kp bA .nil pass0 (pa_cons (pv 0) (pa_cons (pv 2) pa_nil))))) (pw_or1 (pt_not (pt_val (pe_call GW hr1 rfl mW FW.kp bW .nil pass0 (pa_cons (pv 3) pa_nil))))))) (pss_one (ps_ret pe_bl)) pss_nil)
      (pss_one (ps_ret (pe_or (pe_cmpR op_eq (pv 3) pe_int (nomark _)) (pe_one (pe_and (pe_cmpR op_in_seq (pv 3) (pv 0) (by rfl)) (pe_one (pe_cmpR op_notIn_seq (pv 3) (pv 2) (by rfl)))))))))), ?_⟩
    obtain ⟨nm, ty, k1, k2⟩ := hd.kit
    refine ⟨_, rfl, _, _, _, _, _, rfl, .ty _, ty, k1, _, rfl, ?_⟩
    have no : isMove js d = false → Q (.bl false) H := fun e => by
      have := k H (Same.refl H)
      rw [e] at this
      exact this
    cases hd with
    | tup hT hs =>
      rename_i a vs ds
      refine iteF ?_
      refine ⟨_, rfl, a, _, rfl, .inr hT, rfl, _, rfl, ?_⟩
      have hl := hs.length
      by_cases h2 : ds.length = 2
      · obtain ⟨di, db, rfl⟩ : ∃ di db, ds = [di, db] := match ds, h2 with | [x, y], _ => ⟨x, y, rfl⟩
        cases hs with
        | cons pi t =>
          cases t with
          | cons pb t2 =>
            cases t2
            rename_i vi vb
            have hz : (!decide (V.int (([vi, vb].length : Nat) : Int) = V.int 2)) = false := rfl
            rw [hz]
            refine iteF ?_
            refine ⟨_, rfl, a, _, rfl, hT, rfl, vi, [vb], rfl, vb, [], rfl, rfl, ?_⟩
            refine ⟨_, rfl, _, rfl, o, js, vi, di, rfl, hO, hj, pi, (fun ds e => hdl ds db (by rw [e])), fun H1 s1 => ⟨_, rfl, ?_⟩⟩
            have kk : ∀ H', Same H H' → Q (.bl (isMove2 js di db)) H' := k
            cases hA : areIds js di with
            | false =>
              have := kk H1 s1
              unfold isMove2 at this
              rw [hA] at this
              exact iteT this
            | true =>
              refine iteF ?_
              refine ⟨_, rfl, vb, rfl, (pb.same s1).ty, _, rfl, ?_⟩
              rw [pb.whole]
              cases hB : wholeD db with
              | false =>
                have := kk H1 s1
                unfold isMove2 at this
                rw [hA, hB] at this
                exact iteT this
              | true =>
                refine iteF ?_
                obtain ⟨b, rfl⟩ : ∃ b, db = .int b := by cases db <;> first | exact ⟨_, rfl⟩ | cases hB
                cases pb
                have fin := kk H1 s1
                have e2 : isMove2 js di (.int b) = (areIds js di && true && (decide (b = 0) || (decide (b ∈ js) && !decide (b ∈ idsOf di)))) := rfl
                rw [e2, hA, Bool.true_and, Bool.true_and] at fin
                refine ⟨_, rfl, rfl, _, rfl, ?_⟩
                rw [show decide (V.int b = V.int 0) = decide (b = 0) from by rw [dec_int]; rfl]
                cases h0 : decide (b = 0) with
                | true =>
                  rw [h0] at fin
                  exact iteT fin
                | false =>
                  rw [h0] at fin
                  refine iteF ?_
                  refine ⟨_, rfl, _, rfl, o, _, rfl, .inl (Same.sq s1 hO), rfl, all_flat js, _, rfl, ?_⟩
                  rw [inV_int]
                  show if decide (b ∈ js) = true then _ else _
                  cases h1 : decide (b ∈ js) with
                  | false =>
                    rw [h1] at fin
                    exact iteF fin
                  | true =>
                    rw [h1] at fin
                    refine iteT ?_
                    obtain ⟨es, rfl, hall⟩ : ∃ es, di = .tuple es ∧ es.all wholeD = true := by
                      cases di with
                      | tuple es =>
                        have hA' : areIdsL js es = true := hA
                        unfold areIdsL at hA'
                        simp only [Bool.and_eq_true] at hA'
                        exact ⟨es, rfl, hA'.1.1.2⟩
                      | _ => cases hA
                    cases pi with
                    | tup hTi hsi =>
                      have ev := whole_all hsi hall
                      subst ev
                      refine ⟨_, rfl, _, rfl, _, _, rfl, .inr (Same.tq s1 hTi), rfl, all_flat _, ?_⟩
                      rw [inV_int]
                      exact fin
      · have hz : (!decide (V.int ((vs.length : Nat) : Int) = V.int 2)) = true := by
          rw [dec_int]
          have : ¬ (((vs.length : Nat) : Int) = 2) := by omega
          simpa using this
        rw [hz]
        refine iteT (no ?_)
        match ds, h2 with
        | [], _ => rfl
        | [_], _ => rfl
        | [_, _], h2 => exact absurd rfl h2
        | _ :: _ :: _ :: _, _ => rfl
    | _ => exact iteT (no rfl)
end
/-- a move, plainly -/
def MoveOk (js ks : List Int) (b : Int) : Prop := ks ≠ [] ∧ (∀ k ∈ ks, k ∈ js) ∧ ks.Nodup ∧ (b = 0 ∨ (b ∈ js ∧ b ∉ ks))
theorem all_whole (ks : List Int) : (ks.map PyData.int).all wholeD = true := by
  induction ks with
  | nil => rfl
  | cons a r ih => exact ih
theorem ints_of_map (ks : List Int) : (ks.map PyData.int).map intOf = ks := by
  induction ks with
  | nil => rfl
  | cons a r ih => exact congrArg (a :: ·) ih
theorem MoveOk.isMove {js ks : List Int} {b : Int} (h : MoveOk js ks b) : isMove js (.tuple [.tuple (ks.map .int), .int b]) = true := by
  show isMove2 js (.tuple (ks.map .int)) (.int b) = true
  have e2 : isMove2 js (.tuple (ks.map .int)) (.int b) = (areIdsL js (ks.map .int) && true && (decide (b = 0) || (decide (b ∈ js) && !decide (b ∈ (ks.map PyData.int).map intOf)))) := rfl
  rw [e2]
  unfold areIdsL
  rw [all_whole, ints_of_map]
  obtain ⟨h1, h2, h3, h4⟩ := h
  have a1 : (ks.map PyData.int).isEmpty = false := by cases ks with | nil => exact absurd rfl h1 | cons _ _ => rfl
  have a2 : (ks.all fun k => decide (k ∈ js)) = true := List.all_eq_true.mpr fun k hk => decide_eq_true (h2 k hk)
  rw [a1, a2, decide_eq_true h3]
  rcases h4 with h4 | ⟨h4, h5⟩
  · rw [decide_eq_true h4]; rfl
  · rw [decide_eq_true h4, decide_eq_false h5]; simp
theorem DVs.ints {K : PySem.W.Frag} {H : Hp} : ∀ ks : List Int, DVs K H (ks.map V.int) (ks.map PyData.int)
  | [] => .nil
  | k :: r => .cons (.int k) (DVs.ints r)
theorem filter_int (js ks : List Int) (i : Nat) {z : Int} (h : js[i]? = some z) : (js.take (i + 1)).filter (fun k => decide (k ∉ ks)) = if z ∈ ks then (js.take i).filter (fun k => decide (k ∉ ks)) else (js.take i).filter (fun k => decide (k ∉ ks)) ++ [z] := by
  rw [take_snoc h, List.filter_append]
  by_cases hz : z ∈ ks
  · rw [if_pos hz]
    simp [hz]
  · rw [if_neg hz]
    simp [hz]
section
variable {P : Program} {w : World} {K : PySem.W.Frag} {mg : Str → Option Value} {base : Heap}
def spDo (K : PySem.W.Frag) : Sp := fun vs H Q _ => ∃ (o m i : Addr) (js ks : List Int) (b : Int), vs = [.ref o, .ref m] ∧ SqL K H o (js.map V.int) ∧ SqT K H m [.ref i, .int b] ∧ SqT K H i (ks.map V.int) ∧ js.length ≤ 4000 ∧ ks.length ≤ 4000 ∧ MoveOk js ks b ∧
  ∀ (p : Addr) (H' : Hp), H p = none → Same H H' → H' p = some (.lst ((doMove js ks b).map V.int)) → Q (.ref p) H'
theorem scDo : FnScope ["order", "move", "ids", "behind", "taken", "rest", "at", "row_id"] ["order", "move"] (defScope sDoMove) := ⟨rfl, rfl, rfl, by decide +kernel, rfl, by decide +kernel, by decide +kernel⟩
theorem ok_do {f fM fA fW fD : Addr} {fd fdM fdA fdW fdD : FuncData} (F : Fun K "do_move" "do_move" sDoMove f fd) (T : TxtV mg) (FW : Fun K "is_whole" "is_whole" sWhole fW fdW) (bW : Binds K fdW ["value"] []) (mW : mg "is_whole" = some (.ref fW))
    (FD : Fun K "all_different" "all_different" sDiff fD fdD) (bD : Binds K fdD ["numbers"] []) (mD : mg "all_different" = some (.ref fD))
    (FA : Fun K "are_ids_of" "are_ids_of" sAreIds fA fdA) (bA : Binds K fdA ["order", "value"] []) (mA : mg "are_ids_of" = some (.ref fA))
    (FM : Fun K "is_move" "is_move" sIsMove fM fdM) (bM : Binds K fdM ["order", "value"] []) (mM : mg "is_move" = some (.ref fM)) : FnOk P w K mg base CX0 4 f fd ["order", "move"] (spDo K) := by
  have GM : FnOk P w K mg base CX0 3 fM fdM ["order", "value"] (spIsMove K) := ok_isMove FM T FW bW mW FD bD mD FA bA mA
  refine F.ok scDo (fun vs H Q E h => ?_) (fun cdv A outer s H vs Q E hr h => ?_)
  · obtain ⟨o, m, i, js, ks, b, rfl, _⟩ := h
    rfl
  · obtain ⟨o, m, i, js, ks, b, rfl, hO, hM, hI, hj, hk, ok, k⟩ := h
    refine ⟨_, pss_cons (ps_if (pt_not (pt_val (pe_call GM hr rfl mM FM.kp bM .nil pass0 (pa_cons (pv 0) (pa_cons (pv 1) pa_nil))))) (pss_one ps_never) pss_nil)
      (pss_cons (ps_asg (pv 1) (pg_tup (by rfl) (pgs_cons (pg_name (i := 2) scDo.nd rfl (Or.inl rfl)) (pgs_cons (pg_name (i := 3) scDo.nd rfl (Or.inl rfl)) pgs_nil))))
      (pss_cons (ps_set (i := 4) scDo.nd rfl (Or.inr rfl) (pe_callTy (cr_setI rfl) (by rfl) T.set (by decide +kernel) (pa_cons (pv 2) pa_nil)))
      (pss_cons (ps_setLc (i := 5) (own := [("row_id", 7)]) (g := gName 7) rfl scDo.nd rfl rfl (sw_true rfl rfl rfl (by decide +kernel)) (pi_list (pv 0)) (blkOk_by (N := ["order", "move", "ids", "behind", "taken", "rest", "at", "row_id"]) (sc := defScope sDoMove) (by decide +kernel)) (fun _ _ _ _ _ => pg_name (i := 7) scDo.nd rfl (Or.inl rfl))
          (fun _ _ _ _ _ => pts_one (pt_cmpR op_notInSet (pv 7) (pv 4) (by rfl))) (fun _ _ _ _ _ => pv 7))
      (pss_cons (ps_set (i := 6) scDo.nd rfl (Or.inl rfl) (pe_ifExp (pt_cmpR op_eq (pv 3) pe_int (nomark _)) pe_int (pe_op op_add (pe_bm PySem.F.plainAttrs_list PySem.F.slot_list_index PySem.F.type_list_index mt_index (pv 5) (pa_cons (pv 3) pa_nil)) pe_int)))
      (pss_one (ps_ret (pe_op op_cat (pe_op op_cat (pe_slice sl_list (pv 5) po_none (po_some (pv 6))) (pe_callTy call_list_of (by rfl) T.list (by decide +kernel) (pa_cons (pv 2) pa_nil))) (pe_slice sl_list (pv 5) (po_some (pv 6)) po_none)))))))), ?_⟩
    refine ⟨_, rfl, _, rfl, o, js, .ref m, .tuple [.tuple (ks.map .int), .int b], rfl, hO, hj, .tup hM (.cons (.tup hI (DVs.ints ks)) (.cons (.int b) .nil)), ?_, fun H1 s1 => ⟨_, rfl, ?_⟩⟩
    · intro ds b' e
      injection e with e
      injection e with e1 _
      injection e1 with e1
      rw [← e1]
      exact fewD.of (by rw [List.length_map]; exact hk)
    rw [ok.isMove]
    refine iteF ?_
    refine ⟨_, rfl, m, _, rfl, Same.tq s1 hM, rfl, _, _, rfl, _, _, rfl, rfl, ?_⟩
    -- taken = set(ids)
    refine ⟨_, rfl, i, ks, rfl, .inr (Same.tq s1 hI), hk, fun q S n hq hS hn => ?_⟩
    have s2 : Same H (upd H1 q (.set S n)) := s1.trans (Same.new hq)
    refine ⟨_, rfl, o, rfl, ⟨_, Same.sq s2 hO⟩, fun D hD => ?_⟩
    refine lc_list (K := K) (a := o) (xs := js.map V.int) (fun i H' => Same (upd H1 q (.set S n)) H' ∧ H' D = some (.lst (((js.take i).filter fun k => decide (k ∉ ks)).map V.int))) ⟨Same.new hD, upd_same⟩ (fun i H' _ q => Same.sq (s2.trans q.1) hO) ?_ ?_
    · rintro i x H' hx ⟨s3, hL⟩
      rw [List.getElem?_map] at hx
      obtain ⟨z, hz2, rfl⟩ : ∃ z, js[i]? = some z ∧ x = V.int z := by
        cases hq2 : js[i]? with
        | none => rw [hq2] at hx; cases hx
        | some z => rw [hq2] at hx; exact ⟨z, rfl, (Option.some.inj hx).symm⟩
      refine ⟨rfl, ?_⟩
      refine ⟨_, rfl, _, rfl, z, q, S, n, rfl, rfl, s3 _ _ upd_same, _, rfl, ?_⟩
      show if (!S z) = true then _ else _
      rw [hS.1 z]
      have hf := filter_int js ks i hz2
      refine ite2 (fun c => ?_) (fun c => ?_)
      · have hz : z ∉ ks := by simpa using c
        rw [if_neg hz] at hf
        refine ⟨_, rfl, _, hL, ?_, ?_, ?_⟩
        · rw [List.length_map]
          have := List.length_filter_le (fun k => decide (k ∉ ks)) (js.take i)
          have : (js.take i).length ≤ js.length := by rw [List.length_take]; omega
          exact Nat.lt_of_le_of_lt (by omega : _ ≤ 4000) (by decide)
        · intro b u hb
          rw [upd_ne (ne_of_none hb hD)]
          exact s3 b u hb
        · rw [upd_same, hf, List.map_append]
          rfl
      · have hz : z ∈ ks := by simpa using c
        rw [if_pos hz] at hf
        exact ⟨s3, by rw [hf]; exact hL⟩
    · rintro H3 ⟨s3, hL⟩
      rw [List.length_map, List.take_length] at hL
      have s4 : Same H H3 := s2.trans s3
      have hlen : (js.filter fun k => decide (k ∉ ks)).length ≤ 4000 := Nat.le_trans (List.length_filter_le _ _) hj
      generalize hR : (js.filter fun k => decide (k ∉ ks)) = R at *
      have fin : ∀ (at' : Nat) (σ' : L2.St), at' = (if b = 0 then 0 else R.idxOf b + 1) → σ' = [some (.ref o), some (.ref m), some (.ref i), some (.int b), some (.ref q), some (.ref D), some (.int at'), none] →
          (tRet (tOp rCat (tOp rCat (tSl (rSlL K) (tVar 5) tNoPart (tPart (tVar 6))) (tCB (fun xs H Q => ∃ p ys, xs = [.ref p] ∧ (SqL K H p ys ∨ SqT K H p ys) ∧ ∀ l, H l = none → Q (.ref l) (upd H l (.lst ys))) (tCons (tVar 2) tNil))) (tSl (rSlL K) (tVar 5) (tPart (tVar 6)) tNoPart))) { nx := fun _ H' => Q .non H', rt := Q } σ' H3 := by
        rintro at' σ' hat rfl
        have l1 := cutV_length (R.map V.int) none (some (at' : Int))
        have l2 := cutV_length (R.map V.int) (some (at' : Int)) none
        rw [List.length_map] at l1 l2
        have e16 : sizeLine = 16777216 := sizeLine_eq
        refine ⟨_, rfl, _, rfl, _, rfl, D, _, rfl, SqL.of hL, fun p1 hp1 => ?_⟩
        have t1 := Same.new (o := .lst (cutV (R.map V.int) none (some (at' : Int)))) hp1
        refine ⟨_, rfl, i, _, rfl, .inr (Same.tq (s4.trans t1) hI), fun l hl => ?_⟩
        have t2 := Same.new (o := .lst (ks.map V.int)) hl
        refine ⟨p1, l, _, _, rfl, rfl, t2 _ _ upd_same, upd_same, (by rw [List.length_map, e16]; omega), fun p2 hp2 => ?_⟩
        have t3 := Same.new (o := .lst (cutV (R.map V.int) none (some (at' : Int)) ++ ks.map V.int)) hp2
        refine ⟨_, rfl, _, rfl, _, rfl, D, _, rfl, SqL.of (t3 _ _ (t2 _ _ (t1 _ _ hL))), fun p3 hp3 => ?_⟩
        have t4 := Same.new (o := .lst (cutV (R.map V.int) (some (at' : Int)) none)) hp3
        refine ⟨p2, p3, _, _, rfl, rfl, t4 _ _ upd_same, upd_same, (by rw [List.length_append, List.length_map, e16]; omega), fun p4 hp4 => ?_⟩
        have t5 := Same.new (o := .lst ((cutV (R.map V.int) none (some (at' : Int)) ++ ks.map V.int) ++ cutV (R.map V.int) (some (at' : Int)) none)) hp4
        have sAll : Same H _ := s4.trans (t1.trans (t2.trans (t3.trans (t4.trans t5))))
        have sB : Same H _ := s4.trans (t1.trans (t2.trans (t3.trans t4)))
        refine k p4 _ (sB.free hp4) sAll ?_
        rw [upd_same, cut_to, cut_from]
        unfold doMove
        rw [hR, ← hat, List.map_append, List.map_append, List.map_take, List.map_drop]
      refine ⟨_, rfl, rfl, _, rfl, ?_⟩
      rw [show decide (V.int b = V.int 0) = decide (b = 0) from by rw [dec_int]; rfl]
      refine ite2 (fun c => ?_) (fun c => ?_)
      · have hb : b = 0 := of_decide_eq_true c
        exact fin 0 _ (by rw [if_pos hb]) rfl
      · have hb : ¬ b = 0 := fun e => c (decide_eq_true e)
        have hmem : b ∈ R := by
          rcases ok.2.2.2 with h | ⟨h1, h2⟩
          · exact absurd h hb
          · rw [← hR]
            exact List.mem_filter.mpr ⟨h1, decide_eq_true h2⟩
        refine ⟨_, rfl, .inl ⟨rfl, _, SqL.of hL⟩, _, rfl, D, _, .int b, R.idxOf b, .int b, rfl, rfl, SqL.of hL, rfl, all_flat R, ?_, ?_, ?_, ?_⟩
        · rw [List.getElem?_map, idx_at hmem]; rfl
        · rw [eqV_int]; exact decide_eq_true rfl
        · intro m' z' hm hz
          rw [List.getElem?_map] at hz
          cases hq2 : R[m']? with
          | none => rw [hq2] at hz; cases hz
          | some z =>
            rw [hq2] at hz
            have : z' = V.int z := (Option.some.inj hz).symm
            rw [this, eqV_int]
            exact decide_eq_false (idx_first hm hq2)
        · refine ⟨_, _, rfl, rfl, ?_⟩
          exact fin (R.idxOf b + 1) _ (by rw [if_neg hb]) rfl
end
/-! ### moves: the mathematics -/
/-- S falls apart behind a (at the top, if a is 0) -/
def Cut (S : List Int) (a : Int) (S1 S2 : List Int) : Prop := S = S1 ++ S2 ∧ ((a = 0 ∧ S1 = []) ∨ (a ≠ 0 ∧ ∃ S0, S1 = S0 ++ [a] ∧ a ∉ S0))
theorem mem_of_filter {p : Int → Bool} {l : List Int} {a : Int} (h : a ∈ l.filter p) : a ∈ l := (List.mem_filter.mp h).1
theorem Cut.at {S S1 S2 : List Int} {a : Int} (h : Cut S a S1 S2) : (if a = 0 then 0 else S.idxOf a + 1) = S1.length := by
  obtain ⟨rfl, ⟨h0, rfl⟩ | ⟨h0, S0, rfl, hn⟩⟩ := h
  · rw [if_pos h0]; rfl
  · rw [if_neg h0, List.append_assoc, List.idxOf_append, if_neg hn]
    simp
theorem Cut.take {S S1 S2 : List Int} {a : Int} (h : Cut S a S1 S2) : S.take (if a = 0 then 0 else S.idxOf a + 1) = S1 := by
  rw [h.at, h.1]
  simp
theorem Cut.drop {S S1 S2 : List Int} {a : Int} (h : Cut S a S1 S2) : S.drop (if a = 0 then 0 else S.idxOf a + 1) = S2 := by
  rw [h.at, h.1]
  simp
theorem Cut.ex {S : List Int} {a : Int} (h : a = 0 ∨ a ∈ S) (h0 : ∀ z ∈ S, z ≠ 0) : ∃ S1 S2, Cut S a S1 S2 := by
  by_cases ha : a = 0
  · exact ⟨[], S, rfl, .inl ⟨ha, rfl⟩⟩
  · have hm : a ∈ S := h.resolve_left ha
    refine ⟨S.take (S.idxOf a) ++ [a], S.drop (S.idxOf a + 1), ?_, .inr ⟨ha, _, rfl, ?_⟩⟩
    · have hl := List.idxOf_lt_length_of_mem hm
      have e := List.getElem_idxOf hl
      have := List.take_append_drop (S.idxOf a) S
      rw [List.append_assoc]
      conv => lhs; rw [← this]
      congr 1
      rw [List.drop_eq_getElem_cons hl, e]
      rfl
    · intro hmem
      obtain ⟨i, hi, e⟩ := List.getElem_of_mem hmem
      have hi2 : i < S.idxOf a := by
        rw [List.length_take] at hi
        omega
      rw [List.getElem_take] at e
      exact idx_first hi2 (List.getElem?_eq_getElem (by have := List.idxOf_lt_length_of_mem hm; omega)) e
theorem Cut.filter {S S1 S2 : List Int} {a : Int} (h : Cut S a S1 S2) {p : Int → Bool} (hp : a ≠ 0 → p a = true) : Cut (S.filter p) a (S1.filter p) (S2.filter p) := by
  obtain ⟨rfl, ⟨h0, rfl⟩ | ⟨h0, S0, rfl, hn⟩⟩ := h
  · exact ⟨by rw [List.filter_append], .inl ⟨h0, rfl⟩⟩
  · refine ⟨by rw [List.filter_append], .inr ⟨h0, S0.filter p, ?_, fun q => hn (mem_of_filter q)⟩⟩
    rw [List.filter_append]
    simp [hp h0]
abbrev without (js ks : List Int) : List Int := js.filter fun k => decide (k ∉ ks)
theorem doMove_cut {js ks S1 S2 : List Int} {a : Int} (h : Cut (without js ks) a S1 S2) : doMove js ks a = S1 ++ ks ++ S2 := by
  unfold doMove
  rw [h.take, h.drop]
theorem without_nil (js : List Int) : without js [] = js := by
  unfold without
  rw [List.filter_eq_self]
  intro k _
  simp
theorem doMove_nil (js : List Int) (a : Int) : doMove js [] a = js := by
  unfold doMove
  rw [show (js.filter fun k => decide (k ∉ ([] : List Int))) = js from without_nil js, List.append_nil, List.take_append_drop]
theorem mem_doMove {js ks : List Int} {a k : Int} (hs : ∀ z ∈ ks, z ∈ js) : k ∈ doMove js ks a ↔ k ∈ js := by
  have e : k ∈ doMove js ks a ↔ k ∈ without js ks ∨ k ∈ ks := by
    unfold doMove
    rw [List.mem_append, List.mem_append]
    constructor
    · rintro ((h | h) | h)
      · exact .inl (List.mem_of_mem_take h)
      · exact .inr h
      · exact .inl (List.mem_of_mem_drop h)
    · rintro (h | h)
      · rw [← List.take_append_drop (if a = 0 then 0 else (without js ks).idxOf a + 1) (without js ks)] at h
        rcases List.mem_append.mp h with h | h
        · exact .inl (.inl h)
        · exact .inr h
      · exact .inl (.inr h)
  rw [e]
  constructor
  · rintro (h | h)
    · exact mem_of_filter h
    · exact hs k h
  · intro h
    by_cases hk : k ∈ ks
    · exact .inr hk
    · exact .inl (List.mem_filter.mpr ⟨h, decide_eq_true hk⟩)
theorem nodup_doMove {js ks : List Int} {a : Int} (hj : js.Nodup) (hk : ks.Nodup) : (doMove js ks a).Nodup := by
  have hw : (without js ks).Nodup := List.Nodup.sublist List.filter_sublist hj
  rw [← List.take_append_drop (if a = 0 then 0 else (without js ks).idxOf a + 1) (without js ks)] at hw
  obtain ⟨h1, h2, h3⟩ := List.nodup_append.mp hw
  have dis : ∀ z ∈ without js ks, z ∉ ks := fun z hz => of_decide_eq_true (List.mem_filter.mp hz).2
  unfold doMove
  refine List.nodup_append.mpr ⟨List.nodup_append.mpr ⟨h1, hk, fun x hx y hy e => ?_⟩, h2, fun x hx y hy e => ?_⟩
  · exact dis x (List.mem_of_mem_take hx) (by rw [e]; exact hy)
  · rcases List.mem_append.mp hx with hx | hx
    · exact h3 x hx y hy e
    · exact dis y (List.mem_of_mem_drop hy) (by rw [← e]; exact hx)
theorem without_doMove {js ks : List Int} {a : Int} : without (doMove js ks a) ks = without js ks := by
  have idem : ∀ l : List Int, (∀ z ∈ l, z ∉ ks) → without l ks = l := fun l h => by
    unfold without
    rw [List.filter_eq_self]
    intro k hk
    exact decide_eq_true (h k hk)
  have dis : ∀ z ∈ without js ks, z ∉ ks := fun z hz => of_decide_eq_true (List.mem_filter.mp hz).2
  have none : without ks ks = [] := by
    unfold without
    rw [List.filter_eq_nil_iff]
    intro k hk
    simp [hk]
  unfold doMove
  show without _ ks = _
  unfold without at none idem ⊢
  rw [List.filter_append, List.filter_append, none, List.append_nil, idem _ fun z hz => dis z (List.mem_of_mem_take hz), idem _ fun z hz => dis z (List.mem_of_mem_drop hz), List.take_append_drop]
/-- ids moved one by one -/
theorem doMove_one {js U : List Int} {x a l : Int} (hj : ∀ z ∈ js, z ≠ 0) (hU : (U ++ [x]).Nodup) (hx : x ∈ js) (ha : a = 0 ∨ (a ∈ js ∧ a ∉ U ++ [x])) (hl : (U = [] ∧ l = a) ∨ ∃ U0, U = U0 ++ [l]) (hs : ∀ z ∈ U, z ∈ js) :
    doMove (doMove js U a) [x] l = doMove js (U ++ [x]) a := by
  rcases hl with ⟨rfl, rfl⟩ | ⟨U0, rfl⟩
  · rw [doMove_nil, List.nil_append]
  · have hUn := List.nodup_append.mp hU
    have xU : x ∉ U0 ++ [l] := fun h => hUn.2.2 x h x (by simp) rfl
    have haS : a = 0 ∨ a ∈ without js (U0 ++ [l]) := ha.imp id fun h => List.mem_filter.mpr ⟨h.1, decide_eq_true fun q => h.2 (List.mem_append_left _ q)⟩
    obtain ⟨S1, S2, hc⟩ := Cut.ex haS fun z hz => hj z (mem_of_filter hz)
    rw [doMove_cut hc]
    have ax : a ≠ 0 → decide (a ∉ [x]) = true := fun h => by
      have := (ha.resolve_left h).2
      refine decide_eq_true fun q => this (List.mem_append_right _ q)
    have hc2 := hc.filter (p := fun k => decide (k ∉ [x])) ax
    have e2 : (without js (U0 ++ [l])).filter (fun k => decide (k ∉ [x])) = without js ((U0 ++ [l]) ++ [x]) := by
      unfold without
      rw [List.filter_filter]
      congr 1
      funext k
      by_cases h1 : k ∈ U0 ++ [l] <;> by_cases h2 : k ∈ [x] <;> simp_all
    rw [e2] at hc2
    rw [doMove_cut hc2]
    have eU : (U0 ++ [l]).filter (fun k => decide (k ∉ [x])) = U0 ++ [l] := by
      rw [List.filter_eq_self]
      intro k hk
      refine decide_eq_true fun q => xU ?_
      have : k = x := by simpa using q
      rw [← this]; exact hk
    have dis : ∀ z ∈ S1, z ∉ U0 ++ [l] := fun z hz => by
      have : z ∈ without js (U0 ++ [l]) := by rw [hc.1]; exact List.mem_append_left _ hz
      exact of_decide_eq_true (List.mem_filter.mp this).2
    have hl0 : l ≠ 0 := hj l (hs l (by simp))
    have hc3 : Cut (without (S1 ++ (U0 ++ [l]) ++ S2) [x]) l (S1.filter (fun k => decide (k ∉ [x])) ++ (U0 ++ [l])) (S2.filter fun k => decide (k ∉ [x])) := by
      refine ⟨?_, .inr ⟨hl0, S1.filter (fun k => decide (k ∉ [x])) ++ U0, by rw [List.append_assoc], fun q => ?_⟩⟩
      · show ((S1 ++ (U0 ++ [l])) ++ S2).filter (fun k => decide (k ∉ [x])) = _
        rw [List.filter_append, List.filter_append (l₁ := S1), eU]
      · rcases List.mem_append.mp q with q | q
        · exact dis l (mem_of_filter q) (by simp)
        · exact (List.nodup_append.mp hUn.1).2.2 l q l (by simp) rfl
    rw [doMove_cut hc3]
    simp only [List.append_assoc]
/-! ### ids that stand directly behind each other -/
theorem without_mid {A T B : List Int} (h : (A ++ T ++ B).Nodup) : without (A ++ T ++ B) T = A ++ B := by
  obtain ⟨h1, h2, h3⟩ := List.nodup_append.mp h
  obtain ⟨h4, h5, h6⟩ := List.nodup_append.mp h1
  have a1 : A.filter (fun k => decide (k ∉ T)) = A := by
    rw [List.filter_eq_self]
    intro k hk
    exact decide_eq_true fun q => h6 k hk k q rfl
  have a2 : B.filter (fun k => decide (k ∉ T)) = B := by
    rw [List.filter_eq_self]
    intro k hk
    exact decide_eq_true fun q => h3 k (List.mem_append_right _ q) k hk rfl
  have a3 : T.filter (fun k => decide (k ∉ T)) = [] := by
    rw [List.filter_eq_nil_iff]
    intro k hk
    simp [hk]
  show (A ++ T ++ B).filter (fun k => decide (k ∉ T)) = A ++ B
  rw [List.filter_append, List.filter_append, a1, a2, a3, List.append_nil]
/-- back to where they stood -/
theorem back {A T B xs : List Int} {b : Int} (h : (A ++ T ++ B).Nodup) (hb : (b = 0 ∧ A = []) ∨ (b ≠ 0 ∧ ∃ A0, A = A0 ++ [b])) (hx : without xs T = A ++ B) : doMove xs T b = A ++ T ++ B := by
  refine doMove_cut (S1 := A) (S2 := B) ⟨hx, hb.imp id fun ⟨h0, A0, e⟩ => ⟨h0, A0, e, fun q => ?_⟩⟩
  subst e
  have hA := (List.nodup_append.mp (List.nodup_append.mp h).1).1
  exact (List.nodup_append.mp hA).2.2 b q b (by simp) rfl
theorem perm_mid {A T B R1 R2 : List Int} (e : A ++ B = R1 ++ R2) : (R1 ++ T ++ R2).Perm (A ++ T ++ B) := by
  have p : ∀ X Y : List Int, (X ++ T ++ Y).Perm (T ++ (X ++ Y)) := fun X Y => by
    rw [← List.append_assoc]
    exact List.Perm.append_right Y List.perm_append_comm
  refine (p R1 R2).trans ?_
  rw [← e]
  exact (p A B).symm
theorem eqvAll_ints : ∀ xs ys : List Int, PyData.eqvAll (xs.map .int) (ys.map .int) = decide (xs = ys)
  | [], [] => by simp [PyData.eqvAll]
  | [], _ :: _ => by simp [PyData.eqvAll]
  | _ :: _, [] => by simp [PyData.eqvAll]
  | x :: xs, y :: ys => by
    rw [List.map_cons, List.map_cons, PyData.eqvAll, eqvAll_ints xs ys, PyData.eqv]
    by_cases h : x = y
    · subst h
      simp
    · simp [h]
theorem canLay_ints : ∀ xs : List Int, PyData.canLayAll0 (xs.map .int) = true
  | [] => by rw [List.map_nil, PyData.canLayAll0]
  | x :: xs => by rw [List.map_cons, PyData.canLayAll0, canLay_ints xs, PyData.canLay0]; rfl
theorem depthAll_ints : ∀ xs : List Int, PyData.depthAll (xs.map .int) ≤ 1
  | [] => by rw [List.map_nil, PyData.depthAll]; omega
  | x :: xs => by
    have := depthAll_ints xs
    rw [List.map_cons, PyData.depthAll, PyData.depth]
    omega
theorem shaped_ints (xs : List Int) : SeqAt.shaped (.list (xs.map .int)) = true := by
  unfold SeqAt.shaped
  rw [Bool.and_eq_true]
  refine ⟨?_, decide_eq_true ?_⟩
  · rw [PyData.canLay0]; exact canLay_ints xs
  · have := depthAll_ints xs
    rw [PyData.depth]
    omega
theorem DpAll.ints {K : PySem.W.Frag} {H : Hp} : ∀ xs : List Int, DpAll K H (xs.map V.int) (xs.map .int)
  | [] => .nil
  | x :: xs => .cons (.int x) (DpAll.ints xs)
def rEqL (K : PySem.W.Frag) : R2 := fun x y H Q => ∃ (p q : Addr) (xs ys : List Int), x = .ref p ∧ y = .ref q ∧ SqL K H p (xs.map V.int) ∧ SqL K H q (ys.map V.int) ∧ Q (.bl (decide (xs = ys))) H
def rNeL (K : PySem.W.Frag) : R2 := fun x y H Q => ∃ (p q : Addr) (xs ys : List Int), x = .ref p ∧ y = .ref q ∧ SqL K H p (xs.map V.int) ∧ SqL K H q (ys.map V.int) ∧ Q (.bl (!decide (xs = ys))) H
section
variable {X : Cx}
theorem op_eqL (hu : X.A.units + 64 < cLine) : OpR X (compareOp .Eq) (rEqL X.K) := by
  intro pins s σ H x y v u Q I rx ry h
  obtain ⟨p, q, xs, ys, rfl, rfl, h1, h2, k⟩ := h
  refine op_eqD hu pins s σ H _ _ v u Q I rx ry ⟨_, _, .lst h1 (DpAll.ints xs), .lst h2 (DpAll.ints ys), shaped_ints xs, shaped_ints ys, ?_⟩
  rw [PyData.eqv, eqvAll_ints]
  exact k
theorem op_neL (hu : X.A.units + 64 < cLine) : OpR X (compareOp .NotEq) (rNeL X.K) := by
  intro pins s σ H x y v u Q I rx ry h
  obtain ⟨p, q, xs, ys, rfl, rfl, h1, h2, k⟩ := h
  refine op_neD hu pins s σ H _ _ v u Q I rx ry ⟨_, _, .lst h1 (DpAll.ints xs), .lst h2 (DpAll.ints ys), shaped_ints xs, shaped_ints ys, ?_⟩
  rw [PyData.eqv, eqvAll_ints]
  exact k
end
theorem hu64 {A : Around} {k : Nat} (hr : Room k A) : A.units + 64 < cLine := by have := hr.un; omega
/-- behind Hd: all as it was but the deck at d, and these objects stand -/
def Fs (d : Addr) (Hd : Hp) (fs : List (Addr × HO)) (H' : Hp) : Prop := But d Hd H' ∧ DeckAt H' d ∧ ∀ p ∈ fs, p.1 ≠ d ∧ H' p.1 = some p.2
section
variable {d p p0 p1 p2 p3 p4 p5 : Addr} {Hd H1 H2 : Hp} {fs : List (Addr × HO)} {o o0 o1 o2 o3 o4 o5 : HO}
theorem Fs.start (D : DeckAt Hd d) : Fs d Hd [] Hd := ⟨But.refl _ _, D, fun _ h => by cases h⟩
theorem Fs.step (F : Fs d Hd fs H1) (D : DeckAt H2 d) (B : But d H1 H2) : Fs d Hd fs H2 := ⟨F.1.trans B, D, fun q hq => ⟨(F.2.2 q hq).1, B _ _ (F.2.2 q hq).1 (F.2.2 q hq).2⟩⟩
theorem Fs.same (F : Fs d Hd fs H1) (s : Same H1 H2) : Fs d Hd fs H2 := F.step (F.2.1.same s) (But.of s)
theorem Fs.add (F : Fs d Hd fs H1) (h : H1 p = some o) (n : ∀ x y, o ≠ .dK (dk x y)) : Fs d Hd ((p, o) :: fs) H1 := ⟨F.1, F.2.1, fun q hq => by
  rcases List.mem_cons.mp hq with e | e
  · subst e
    obtain ⟨x, y, hd, _⟩ := F.2.1
    exact ⟨ne_of h hd (n x y), h⟩
  · exact F.2.2 q e⟩
theorem Fs.new (F : Fs d Hd fs H1) (h : H1 p = none) (n : ∀ x y, o ≠ .dK (dk x y)) : Fs d Hd ((p, o) :: fs) (upd H1 p o) := (F.same (Same.new h)).add upd_same n
theorem Fs.skip (F : Fs d Hd fs H1) (h : H1 p = none) : Fs d Hd fs (upd H1 p o) := F.same (Same.new h)
theorem Fs.tail (F : Fs d Hd ((p, o) :: fs) H1) : Fs d Hd fs H1 := ⟨F.1, F.2.1, fun q hq => F.2.2 q (List.mem_cons_of_mem _ hq)⟩
theorem Fs.deck (F : Fs d Hd fs H1) : DeckAt H1 d := F.2.1
theorem Fs.g0 (F : Fs d Hd ((p0, o0) :: fs) H1) : H1 p0 = some o0 := (F.2.2 _ List.mem_cons_self).2
theorem Fs.g1 (F : Fs d Hd ((p0, o0) :: (p1, o1) :: fs) H1) : H1 p1 = some o1 := F.tail.g0
theorem Fs.g2 (F : Fs d Hd ((p0, o0) :: (p1, o1) :: (p2, o2) :: fs) H1) : H1 p2 = some o2 := F.tail.g1
theorem Fs.g3 (F : Fs d Hd ((p0, o0) :: (p1, o1) :: (p2, o2) :: (p3, o3) :: fs) H1) : H1 p3 = some o3 := F.tail.g2
theorem Fs.g4 (F : Fs d Hd ((p0, o0) :: (p1, o1) :: (p2, o2) :: (p3, o3) :: (p4, o4) :: fs) H1) : H1 p4 = some o4 := F.tail.g3
/-- what stood ahead of the deck stands -/
theorem Fs.old {H : Hp} (F : Fs d Hd fs H1) (hd : H d = none) (s : Same H Hd) : Same H H1 := fun b u h => F.1 b u (ne_of_none h hd) (s b u h)
end
theorem nl {xs : List V} : ∀ x y, HO.lst xs ≠ .dK (dk x y) := fun _ _ h => by cases h
theorem nt {xs : List V} : ∀ x y, HO.tup xs ≠ .dK (dk x y) := fun _ _ h => by cases h
theorem cut_mid (js : List Int) {f t : Nat} (h : f < js.length) : cutV (js.map V.int) (some (f : Int)) (some ((f : Int) + 1 + (t : Int))) = ((js.drop f).take (t + 1)).map V.int := by
  unfold cutV
  have e : (f : Int) + 1 + (t : Int) = ((f + 1 + t : Nat) : Int) := by omega
  rw [e, HT.sIx_nat, HT.sIx_nat, List.length_map, Nat.min_eq_left (by omega : f ≤ js.length), List.map_take, List.map_drop]
  rcases Nat.le_total (f + 1 + t) js.length with q | q
  · rw [Nat.min_eq_left q]
    congr 1
    omega
  · rw [Nat.min_eq_right q, List.take_of_length_le, List.take_of_length_le]
    · rw [List.length_drop, List.length_map]; omega
    · rw [List.length_drop, List.length_map]; omega
/-! ### defs that are called where no repr is under way (their context's guards are known to be none) -/
/-- the promise of a def, wherever no guard stands -/
structure FnG (P : Program) (w : World) (K : PySem.W.Frag) (mg : Str → Option Value) (base : Heap) (k : Nat) (f : Addr) (fd : FuncData) (ps : List Str) (sp : Sp) : Prop where
  len : ∀ vs H Q E, sp vs H Q E → vs.length = ps.length
  go : ∀ {A : Around} {outer : List Env} {s : Shared} {H : Hp} {args : Args} {us : List Value} {vs : List V} {Q : VK} {E : XK}, A.guards = some [] → Room k A → Env0 P w K mg base A outer s H →
    BindsTo s fd args (ps.zip us) → Vals vs us → sp vs H Q E → codeAny (model P w) A (.call (.ref f) args) (CR CX0 outer P w H s Q E) s
section
variable {P : Program} {w : World} {K : PySem.W.Frag} {mg : Str → Option Value} {base : Heap}
/-- by its body -/
theorem FnG.mk' {x qual : Str} {st : Stmt} {f : Addr} {fd : FuncData} {N ps : List Str} {k : Nat} {sp : Sp} (F : Fun K x qual st f fd) (S : FnScope N ps (defScope st)) (len : ∀ vs H Q E, sp vs H Q E → vs.length = ps.length)
    (body : ∀ (cdv : Value) (A : Around) (outer : List Env) (s : Shared) (H : Hp) (vs : List V) (Q : VK) (E : XK), (A.deeper (envOfC qual (defScope st) s.heap.objs.size f cdv)).guards = some [] → Room k (A.deeper (envOfC qual (defScope st) s.heap.objs.size f cdv)) → sp vs H Q E →
      ∃ t, PSs (cxOf CX0 P w K mg base N qual (defScope st) f cdv A outer s H E).nox (defBody st) t ∧ t { nx := fun _ H' => Q .non H', rt := Q } (start N vs) H) : FnG P w K mg base (k + 1) f fd ps sp := by
  obtain ⟨oc, od, kV, doc, pm, an, cdv, ct, osl, rfl, lk, hcd⟩ := F.ex
  refine ⟨len, ?_⟩
  intro A outer s H args us vs Q E hg hr en hb rel hsp
  have kept : ∀ b o, base.get? b = some o → s.heap.get? b = some o := fun b o q => (en.bs b o q).1
  have inK := en.mod.kin.keeps kept
  refine codeAny_call_function hr.depth (inK _ _ lk) rfl S.co S.gen rfl (PySem.W.codeRec_of inK hcd) (hb _ _ _ _ ?_)
  have kinds : ∀ q ∈ ps.zip us, (defScope st).names.lookup q.1 = some .local ∨ ((defScope st).names.lookup q.1 = some .cell ∧ ((cellsFrom (s.heap.objs.size + 1) (defScope st).names []).lookup q.1).isSome = true) := by
    rintro ⟨n, v⟩ hq
    exact (S.par n (List.of_mem_zip hq).1).elim .inl fun c => .inr ⟨c, PySem.W.cellsFrom_some _ _ _ (.inl c)⟩
  refine wpAny_newFunctionEnv_cells S.kind kinds fun env he s1 ic => ?_
  subst he
  obtain ⟨t, ht, hq⟩ := body cdv A outer s H vs Q E hg (hr.deeper _) hsp
  have I0 := inv_start (CX := CX0) (E := E) S hr.hd en (len _ _ _ _ hsp) rel ic
  refine ⟨(en.mod.nolimit.keeps kept).keeps ic.toInCall.keep, codeAny_func ?_⟩
  refine wpAny_mono (ht.nox.run [] s1 _ H _ I0 hq) ?_ fun _ _ z => z
  rintro (_ | _ | _ | u) s' hs
  · obtain ⟨σ', H', J, q⟩ := hs
    exact ⟨.non, H', J.os, J.bare, J.base, J.hok, rfl, q⟩
  · obtain ⟨_, _, _, q⟩ := hs
    exact q.elim
  · obtain ⟨_, _, _, q⟩ := hs
    exact q.elim
  · obtain ⟨v, σ', H', J, rv, q⟩ := hs
    exact ⟨v, H', J.os, J.bare, J.base, J.hok, rv, q⟩
end
section
variable {X : Cx} {k : Nat} {f : Addr} {fd : FuncData} {ps : List Str} {sp : Sp} {E : XK} {x : Str} {p pos : Pos} {e : Expr} {es : List Expr} {t : TA}
/-- such a def called by its name -/
theorem pe_callG (F : FnG X.prog X.w X.K X.mg X.base k f fd ps sp) (hg : X.A.guards = some []) (hr : Room k X.A) (hx : Gl X x) (hm : X.mg x = some (.ref f)) (hk : PySem.W.keepIn X.K (.ref f) = true) (hb : L2.Binds X.K fd ps [])
    (ha : PA X (e :: es) t) (hdb : (x == ("__debug__" : Str)) = false := by decide) (he : starEach (e :: es) X.env = (false, eval e X.env) :: starEach es X.env := by rfl) (hpl : (backTo pos (starEach es X.env)).any (·.1) = false := by rfl) :
    PE X (.Call (.Name x p) (e :: es) [] pos) (tCall sp [] E t) := by
  constructor
  intro pins s σ H Q I h
  have run : ∀ {us : List Value} {vs : List V} {H1 : Hp} {s1 : Shared}, Inv X pins σ H1 s1 → Vals vs us → sp (vs ++ []) H1 Q E → wpAny (model X.prog X.w) X.A (call (.ref f) us) (EP X pins σ Q) X.xe s1 := by
    intro us vs H1 s1 I1 r q
    rw [List.append_nil] at q
    have hl : us.length = ps.length := by rw [← r.length]; exact F.len _ _ _ _ q
    have bt := hb s1 us I1.kIn (by rw [List.append_nil]; exact hl)
    rw [List.append_nil] at bt
    refine wpAny_call (codeAny_mono (F.go hg hr I1.env0 bt r q) ?_)
    rintro (_ | (_ | _ | _ | u)) s2 z
    · exact z.elim
    · exact z.elim
    · exact z.elim
    · exact z.elim
    · exact I1.after z
  refine wpAny_Call_Name_kw (ld_glob I hx hm ?_ hdb)
  exact PySem.W.callWith_K (h₀ := X.base) I.ok.mod.kin hk (thn (ha.run pos pins s σ H _ I h) fun us s1 ⟨vs, H1, I1, r, q⟩ => ⟨I1.kIn, run I1 r q⟩) he hpl
end
/-! ### the end of a law whose def is such a def -/
/-- the heap of which nothing is known but the script -/
def justScript (K : PySem.W.Frag) (a : Addr) (vs : List Value) (ns : List Int) : Hp := fun b =>
  if b = a ∧ K.lookup a = none then some (.frz { cls := .type "list", data := .seq vs.toArray } (.lst (ns.map V.int))) else none
section
variable {P : Program} {w : World} {K : PySem.W.Frag} {mg mb : Str → Option Value} {k : Nat} {fa a : Addr} {fd : FuncData} {x : Str} {sp : Sp} {s₁ : Shared} {vs : List Value} {ns : List Int}
theorem js_out {b : Addr} (h : b ≠ a) : justScript K a vs ns b = none := if_neg fun z => h z.1
theorem js_some {b : Addr} {u : HO} (h : justScript K a vs ns b = some u) : b = a ∧ K.lookup a = none ∧ u = .frz { cls := .type "list", data := .seq vs.toArray } (.lst (ns.map V.int)) := by
  unfold justScript at h
  split at h
  · rename_i c
    exact ⟨c.1, c.2, (Option.some.inj h).symm⟩
  · cases h
theorem lawG (KX : K.In s₁.heap) (hns : s₁.heap.Ns mainGlobals mg) (hb : s₁.heap.Ns builtinsNs mb) (hbb : ∀ x : Str, x ≠ "__name__" → mb x = bootBuiltins x) (hlim : s₁.heap.NoLimit) (hg : s₁.gens = #[])
    (ha : s₁.heap.get? a = some { cls := .type "list", data := .seq vs.toArray }) (hi : IntsAre vs ns) (hl : ns.length ≤ sizeLine) (hr : Room k callerA)
    (F : ∀ base : Heap, K.In base → base.Ns mainGlobals mg → FnG P w K mg base k fa fd [x] sp) (hbind : ∀ (s : Shared) (u : Value), BindsTo s fd ⟨[u], []⟩ [(x, u)])
    (hsp : ∀ H : Hp, Only H → SqL K H a (ns.map V.int) → sp [.ref a] H (fun v _ => v = .bl true) fun _ _ _ => False) :
    codeAny (model P w) callerA (.call (.ref fa) ⟨[.ref a], []⟩) (fun r s' => r = .ok (.ret (.bool true)) ∧ OldK s₁.heap s'.heap ∧ s'.os = s₁.os ∧ AllBare s'.gens) s₁ := by
  have rv := L2.vals_ints hi
  have hlen := hi.length
  obtain ⟨H, hH⟩ : ∃ H, H = justScript K a vs ns := ⟨_, rfl⟩
  have hcases : ∀ b, H b = none ∨ (b = a ∧ K.lookup a = none ∧ H b = some (.frz { cls := .type "list", data := .seq vs.toArray } (.lst (ns.map V.int)))) := by
    intro b
    cases q : H b with
    | none => exact .inl rfl
    | some u =>
      rw [hH] at q
      obtain ⟨h1, h2, h3⟩ := js_some q
      exact .inr ⟨h1, h2, by rw [h3]⟩
  have only : Only H := fun b => (hcases b).imp id fun z => ⟨_, _, z.2.2⟩
  have list : SqL K H a (ns.map V.int) := by
    cases hk : K.lookup a with
    | none => exact .inl (.inr ⟨{ cls := .type "list", data := .seq vs.toArray }, by rw [hH]; exact if_pos ⟨rfl, hk⟩⟩)
    | some o =>
      have q := KX a o hk
      rw [ha] at q
      obtain rfl := Option.some.inj q
      exact .inr ⟨_, vs.toArray, _, hk, rfl, rfl, rfl, by rw [List.size_toArray, hlen]; exact hl, rv⟩
  have held : HOk P w H s₁.heap := by
    intro b u q
    rcases hcases b with z | ⟨rfl, _, z⟩
    · rw [z] at q; cases q
    · rw [z] at q
      obtain rfl := Option.some.inj q
      exact ⟨ha, by rw [List.length_map]; exact hl, vs, _, rv, ha⟩
  -- the rest of the heap, in which the module's facts stand
  have stay : ∀ {b : Addr} {o : Obj}, s₁.heap.get? b = some o → (b = a → K.lookup a ≠ none) → (hidT s₁.heap H).get? b = some o := by
    intro b o e n
    refine hidT_get e ?_
    rcases hcases b with z | ⟨e1, e2, _⟩
    · exact z
    · exact absurd e2 (n e1)
  have names : ∀ {b : Addr} {m : Str → Option Value}, s₁.heap.Ns b m → (hidT s₁.heap H).Ns b m := by
    rintro b m ⟨o, es, ep, e, d, r⟩
    refine ⟨o, es, ep, stay e ?_, d, r⟩
    rintro rfl
    rw [ha] at e
    obtain rfl := Option.some.inj e
    exact absurd d (by intro z; cases z)
  have kin : K.In (hidT s₁.heap H) := fun b o e => stay (KX b o e) fun q => by rw [← q, e]; exact fun z => by cases z
  obtain ⟨mc, l1, l2⟩ := hlim
  have mod : Mod K mg (hidT s₁.heap H) := ⟨kin, names hns, ⟨mb, names hb, hbb⟩, ⟨mc, names l1, l2⟩⟩
  have env : Env0 P w K mg (hidT s₁.heap H) callerA [] s₁ H := ⟨rfl, mod, fun b o e => of_hidT e, Nat.le_of_eq (hidT_size _ _), trivial, fun b z => (by exact absurd (show b ∈ ([] : List Addr) from z) (by simp)), held, .of_eq hg⟩
  have vr : Vals [V.ref a] [Value.ref a] := .cons (show RelV (.ref a) (.ref a) from rfl) .nil
  refine codeAny_mono ((F _ kin (names hns)).go (us := [.ref a]) rfl hr env (hbind s₁ (.ref a)) vr (hsp H only list)) ?_
  rintro (_ | (_ | _ | _ | u)) s' z
  · exact z.elim
  · exact z.elim
  · exact z.elim
  · exact z.elim
  · obtain ⟨v, H', os, bare, un, ok', r', q⟩ := z
    have q1 : v = .bl true := q
    subst q1
    have q2 : u = Value.bool true := r'
    subst q2
    refine ⟨rfl, OldK.of_keep fun b o e => ?_, os, bare⟩
    rcases hcases b with z | ⟨e1, _, z⟩
    · exact un.keep b o e z (fun z => absurd (show b ∈ ([] : List Addr) from z) (by simp)) (by simp)
    · obtain ⟨g, _⟩ := ok' b _ (un.frzs b _ _ z)
      obtain ⟨g0, _⟩ := held b _ z
      rw [g0] at e
      rw [← Option.some.inj e]
      exact g
end
theorem walkG {l : PySem.W.OpenLaw} {n k : Nat} {q : Program} {loose : List Str} {XP : (Str → Option Value) → Heap → Prop} {YP : World → Heap → Prop} {d : DefRec} {K : Params → PySem.W.Frag} {sp : PySem.W.Frag → Sp} {x : Str}
    (hn : l.most = some n) (hn2 : n ≤ sizeLine) (hdf : d.params.defaults = []) (hr : Room k callerA) (hY : ∀ (w : World) (h : Heap), YP w h → (K w.params).In h)
    (F : ∀ (w : World) (mg : Str → Option Value) (fa : Addr) (h : Heap), (K w.params).In h → h.Ns mainGlobals mg → mg d.name = some (.ref fa) →
      ∃ fd : FuncData, (∀ (s : Shared) (u : Value), BindsTo s fd ⟨[u], []⟩ [(x, u)]) ∧ ∀ base : Heap, (K w.params).In base → base.Ns mainGlobals mg → FnG l.prog w (K w.params) mg base k fa fd [x] (sp (K w.params)))
    (hsp : ∀ (K : PySem.W.Frag) (H : Hp) (a : Addr) (ns : List Int), ns.length ≤ n → (∀ z ∈ ns, Builtin.Int.intBits z ≤ 1048576) → SqL K H a (ns.map V.int) → sp K [.ref a] H (fun v _ => v = .bl true) fun _ _ _ => False) :
    PySem.W.WalkO q loose XP YP l.row.toRowW d [] (fun f vs => PySem.call f vs) := by
  refine Att.attach_callB hn hdf ?_
  intro w s₀ s₁ mg mb fa o pm cd doc a vs ns G Y ho hd hcd hmg hobj hints hlen hbits hg
  obtain ⟨fd, hb, hF⟩ := F w mg fa _ (hY w _ Y) G.T.g hmg
  exact lawG (hY w _ Y) G.T.g G.T.b G.T.builtins G.T.nolimit hg hobj hints (Nat.le_trans hlen hn2) hr hF hb fun H _ hS => hsp _ H a ns hlen hbits hS
/-! ### repr of data -/
mutual
/-- how long its text is at most -/
def szD : PyData → Nat
  | .none => 4
  | .bool _ => 5
  | .int _ => 301
  | .str x => (reprText x).length
  | .list xs => szAll xs + 2
  | .tuple xs => szAll xs + 3
  | .dict _ => 2
def szAll : List PyData → Nat
  | [] => 0
  | x :: xs => szD x + 2 + szAll xs
end
mutual
/-- ints of moderate size, no dict -/
def modD : PyData → Bool
  | .none | .bool _ | .str _ => true
  | .int i => decide (i.natAbs < 2 ^ 300)
  | .list xs | .tuple xs => modAll xs
  | .dict _ => false
def modAll : List PyData → Bool
  | [] => true
  | x :: xs => modD x && modAll xs
end
theorem log_of {i : Int} (h : i.natAbs < 2 ^ 300) : i.natAbs.log2 < 300 := PySem.Flt.log2_lt_of (by decide) h
mutual
theorem showable_of : ∀ d : PyData, modD d = true → d.showable = true
  | .none, _ => by rw [PyData.showable]
  | .bool _, _ => by rw [PyData.showable]
  | .str _, _ => by rw [PyData.showable]
  | .int i, h => by
    rw [modD] at h
    rw [PyData.showable]
    have := log_of (of_decide_eq_true h)
    exact decide_eq_true (by omega)
  | .list xs, h => by
    rw [modD] at h
    rw [PyData.showable]
    exact showableAll_of xs h
  | .tuple xs, h => by
    rw [modD] at h
    rw [PyData.showable]
    exact showableAll_of xs h
  | .dict _, h => by rw [modD] at h; cases h
theorem showableAll_of : ∀ xs : List PyData, modAll xs = true → PyData.showableAll xs = true
  | [], _ => by rw [PyData.showableAll]
  | x :: xs, h => by
    rw [modAll, Bool.and_eq_true] at h
    rw [PyData.showableAll, showable_of x h.1, showableAll_of xs h.2]
    rfl
end
mutual
theorem nodict_of : ∀ d : PyData, modD d = true → d.hasDict = false
  | .none, _ => by rw [PyData.hasDict]
  | .bool _, _ => by rw [PyData.hasDict]
  | .str _, _ => by rw [PyData.hasDict]
  | .int i, h => by rw [PyData.hasDict]
  | .list xs, h => by
    rw [modD] at h
    rw [PyData.hasDict]
    exact nodictAll_of xs h
  | .tuple xs, h => by
    rw [modD] at h
    rw [PyData.hasDict]
    exact nodictAll_of xs h
  | .dict _, h => by rw [modD] at h; cases h
theorem nodictAll_of : ∀ xs : List PyData, modAll xs = true → PyData.hasDictAll xs = false
  | [], _ => by rw [PyData.hasDictAll]
  | x :: xs, h => by
    rw [modAll, Bool.and_eq_true] at h
    rw [PyData.hasDictAll, nodict_of x h.1, nodictAll_of xs h.2]
    rfl
end
def pile : List Str → Nat
  | [] => 0
  | t :: r => t.length + 2 + pile r
theorem textFrom_le : ∀ (ts : List Str) (k : Nat) (acc : Str), (textFrom k acc ts).length ≤ acc.length + pile ts
  | [], k, acc => by show acc.length ≤ acc.length + 0; omega
  | t :: r, k, acc => by
    have ih := textFrom_le r (k + 1) (acc ++ (if k > 0 then ", " else "" : String) ++ t)
    have e : (acc ++ (if k > 0 then ", " else "" : String) ++ t).length ≤ acc.length + 2 + t.length := by
      rw [strLen_append, strLen_append]
      split
      · show acc.length + 2 + t.length ≤ _; omega
      · show acc.length + 0 + t.length ≤ _; omega
    show (textFrom (k + 1) (acc ++ (if k > 0 then ", " else "" : String) ++ t) r).length ≤ acc.length + (t.length + 2 + pile r)
    omega
theorem listText_le (ts : List Str) : (listText ts).length ≤ pile ts + 2 := by
  unfold listText
  have h := textFrom_le ts 0 "["
  rw [strLen_append]
  have e1 : (("[" : String) : Str).length = 1 := rfl
  have e2 : (("]" : String) : Str).length = 1 := rfl
  rw [e2]
  rw [e1] at h
  omega
theorem join_le : ∀ ts : List Str, (Str.join ", " ts).length ≤ pile ts
  | [] => Nat.zero_le _
  | [x] => by show x.length ≤ x.length + 2 + 0; omega
  | x :: y :: r => by
    have ih := join_le (y :: r)
    show (x ++ ", " ++ Str.join ", " (y :: r)).length ≤ x.length + 2 + pile (y :: r)
    rw [strLen_append, strLen_append]
    have e2 : ((", " : String) : Str).length = 2 := rfl
    rw [e2]
    omega
theorem tupleText_le (ts : List Str) : (tupleText ts).length ≤ pile ts + 3 := by
  unfold tupleText
  have h := join_le ts
  rw [strLen_append, strLen_append]
  have e1 : (("(" : String) : Str).length = 1 := rfl
  have e2 : ((if ts.length == 1 then ",)" else ")" : String) : Str).length ≤ 2 := by
    split
    · exact Nat.le_refl _
    · exact Nat.le_succ _
  rw [e1]
  omega
mutual
theorem shown_le : ∀ d : PyData, modD d = true → d.shown.length ≤ szD d
  | .none, _ => by rw [PyData.shown, szD]; decide
  | .bool b, _ => by rw [PyData.shown, szD]; cases b <;> decide
  | .str x, _ => by rw [PyData.shown, szD]; exact Nat.le_refl _
  | .int i, h => by
    rw [modD] at h
    rw [PyData.shown, szD]
    have := int_text_length_le (k := 300) (by decide) (log_of (of_decide_eq_true h))
    have e : (Str.ofString (toString i)).length = (toString i).length := PySem.ofString_length _
    rw [e]
    omega
  | .list xs, h => by
    rw [modD] at h
    rw [PyData.shown, szD]
    have := listText_le (PyData.shownAll xs)
    have := shownAll_le xs h
    omega
  | .tuple xs, h => by
    rw [modD] at h
    rw [PyData.shown, szD]
    have := tupleText_le (PyData.shownAll xs)
    have := shownAll_le xs h
    omega
  | .dict _, h => by rw [modD] at h; cases h
theorem shownAll_le : ∀ xs : List PyData, modAll xs = true → pile (PyData.shownAll xs) ≤ szAll xs
  | [], _ => by rw [PyData.shownAll, szAll]; exact Nat.le_refl _
  | x :: xs, h => by
    rw [modAll, Bool.and_eq_true] at h
    have h1 := shown_le x h.1
    have h2 := shownAll_le xs h.2
    rw [PyData.shownAll, szAll]
    show x.shown.length + 2 + pile (PyData.shownAll xs) ≤ _
    omega
end
/-! ### data of the heap is read -/
section
variable {X : Cx} {pins : List (Addr × Obj)} {σ : L2.St} {H : Hp} {s : Shared}
mutual
theorem DV.reads (I : Inv X pins σ H s) : ∀ (d : PyData) (v : V) (u : Value), DV X.K H v d → RelV v u → ∃ as, Reads s.heap u d as
  | .none, _, _, .non, r => ⟨_, (show _ = Value.none from r) ▸ Reads.none⟩
  | .bool b, _, _, .bl _, r => ⟨_, (show _ = Value.bool b from r) ▸ Reads.bool b⟩
  | .int i, _, _, .int _, r => by
    obtain ⟨t, q⟩ := r
    rw [q]
    exact ⟨_, Reads.int i t⟩
  | .str x, _, _, .str _, r => by
    obtain ⟨t, q⟩ := r
    rw [q]
    exact ⟨_, Reads.str x t⟩
  | .list ds, _, u, .lst h t, r => by
    have r' : u = Value.ref _ := r
    subst r'
    obtain ⟨its, rv, ⟨o, n, ho, hc, _, hd⟩, _⟩ := I.list h
    obtain ⟨as, hr⟩ := DVs.reads I ds _ its t rv
    exact ⟨_, Reads.list ho hc hd hr⟩
  | .tuple ds, _, u, .tup h t, r => by
    have r' : u = Value.ref _ := r
    subst r'
    obtain ⟨its, rv, ⟨o, ho, hc, n, hd⟩, _⟩ := I.tuple h
    obtain ⟨as, hr⟩ := DVs.reads I ds _ its t rv
    exact ⟨_, Reads.tuple ho hc hd hr⟩
  | .dict _, _, u, .dk0 h, r => by
    have r' : u = Value.ref _ := r
    subst r'
    obtain ⟨_, _, vs, rel, o, es, ep, h1, h2, h3, h4⟩ := I.hok _ _ h
    cases rel
    have e0 : es.toList = [] := by
      have h5 := h4.2.1
      generalize es.toList = l at h5 ⊢
      cases h5
      rfl
    refine ⟨_, Reads.dict (as := []) (bs := []) h1 h2.1 h3 ?_ ?_⟩
    · rw [e0]; exact ReadsAll.nil
    · rw [e0]; exact ReadsAll.nil
theorem DVs.reads (I : Inv X pins σ H s) : ∀ (ds : List PyData) (vs : List V) (us : List Value), DVs X.K H vs ds → Vals vs us → ∃ as, ReadsAll s.heap us ds as
  | [], _, _, .nil, r => by
    cases r
    exact ⟨_, ReadsAll.nil⟩
  | d :: ds, _, _, .cons h1 h2, r => by
    cases r with
    | cons r1 r2 =>
      obtain ⟨as, q1⟩ := DV.reads I d _ _ h1 r1
      obtain ⟨bs, q2⟩ := DVs.reads I ds _ _ h2 r2
      exact ⟨_, ReadsAll.cons q1 q2⟩
end
/-- repr of a list or a tuple -/
def rRepr (K : PySem.W.Frag) : List V → Hp → VK → Prop := fun xs H Q => ∃ (a : Addr) (d : PyData), xs = [.ref a] ∧ DV K H (.ref a) d ∧ modD d = true ∧ d.depth ≤ 40 ∧ szD d ≤ 1000000 ∧ Q (.str d.shown) H
theorem call_repr (hg : X.A.guards = some []) (hu : X.A.units + 64 < cLine) : CallR X (.builtin "repr") (rRepr X.K) := by
  intro pins s σ H xs us Q I r h
  obtain ⟨a, d, rfl, hd, hm, hdep, hsz, q⟩ := h
  rw [Vals.ref1 r]
  obtain ⟨as, hr⟩ := DV.reads I d (.ref a) (.ref a) hd rfl
  have hl : d.shown.length ≤ sizeLine := by
    have := shown_le d hm
    rw [sizeLine_eq]
    omega
  exact repr_of_reads' hr (showable_of d hm) (fun z => by rw [nodict_of d hm] at z; cases z) hg (by omega) (fun _ _ e => e) (fun h' u tk kk => ⟨.str d.shown, H, I.kept kk, ⟨_, rfl⟩, q⟩) hl
end
end Hk
/-! # A well: each item is drawn while there is enough; where there is not, an own error tells by how much it falls short; it is caught, and what lacks is added up. A PROGRAM AGAINST A FUNCTION OF PLAIN LEAN, by hand (skel/30_by_hand tells the words and the parts; here what an own error with a field of its own wants more). -/
namespace PySem
namespace LowX
open PySem.W PySem.Calls PyProof.Rows PySem.HandSPX
/-! ### the text of __init__ -/
def iA (p1 p2 : Pos) : Arguments := { posonlyargs := [], args := [{ arg := "self", annotation := none, pos := p1 }, { arg := "value", annotation := none, pos := p2 }], vararg := none, kwonlyargs := [], kw_defaults := [], kwarg := none, defaults := [] }
def iB (q1 q2 q3 q4 : Pos) : List Stmt := [.Assign [.Attribute (.Name "self" q1) "value" q2] (.Name "value" q3) q4]
def iS : Scope := { kind := .function, names := [(PySem.Str.ofString "self", .local), (PySem.Str.ofString "value", .local)], isGenerator := false, isCoroutine := false, more := [] }
/-- what the written part says of Low, at C, and of its __init__, at fI -/
structure LowTxt (K : Frag) (mg : Str → Option Value) (C fI : Addr) : Prop where
  gC : mg "BadMove" = some (.ref C)
  cls : ∃ nm q N bs bm sn sub ab col dd k0 k1 k2 k3 k5, K.lookup C = some (excClassObj nm q C N bs bm true sn sub ab col dd k0 k1 k2 k3 k5 "ValueError.__new__") ∧ refsVE bm = true
  sa : findIn K (.ref C) "__setattr__" = some (some (.builtin "object.__setattr__"))
  ga : findIn K (.ref C) "__getattribute__" = some (some (.builtin "BaseException.__getattribute__"))
  gg : findIn K (.ref C) "__getattr__" = some none
  noN : findIn K (.ref C) "value" = some none
  iC : findIn K (.ref C) "__init__" = some (some (.ref fI))
  tC : typeIn K (.ref fI) = some (.type "function")
  kC : keepIn K (.ref C) = true
  exC : subIn K (.ref C) (.type "BaseException") = some true
  tyC : typeIn K (.ref C) = some (.type "type")
  hdC : hasDictIn K C = true
  te : exmOne K (.ref C) (.ref C) = some true
  fn : ∃ (oc : Value) (od : Option Addr) (doc pm : Value) (an : Option Addr) (cdv ct : Value) (osl : Array (Option Value)) (p1 p2 q1 q2 q3 q4 : Pos),
    K.lookup fI = some ⟨oc, od, .func (fnOf "__init__" "BadMove.__init__" (iA p1 p2) (iB q1 q2 q3 q4) iS .none .none doc pm an cdv ct), osl⟩ ∧ codeIn K cdv "BadMove.__init__" = true
theorem one_size (v : Value) : [v].length ≤ sizeLine := by
  rw [sizeLine_eq]
  exact (by decide : 1 ≤ 16777216)
theorem kept_but {K : Frag} {h h' : Heap} {x : Addr} (X : K.In h) (hx : K.lookup x = none) (k : ∀ b o, b ≠ x → h.get? b = some o → h'.get? b = some o) : K.In h' := fun a o e =>
  k a o (fun z => by rw [z, hx] at e; cases e) (X a o e)
theorem ldC {M : Model} {s : Shared} {name : Str} {scope : Scope} {L a : Addr} {cd : Value} {m : Str → Option Value} {x : Str} {pos : Pos} {v : Value} {Q : Value → Shared → Prop} {A : Around} {E : Value → Shared → Prop} (hn : s.heap.Ns L m) (hv : m x = some v) (h : Q v s)
    (hk : scope.kind = .function := by rfl) (hl : (envOfC name scope L a cd).kindOf x = some .local := by rfl) (hd : (x == ("__debug__" : Str)) = false := by decide) :
    wpAny M A (eval (.Name x pos) (envOfC name scope L a cd)) Q E s := wpAny_Name (wpAny_loadName_local hk hl hn hv h) hd
/-- what __init__ leaves of a fresh exception at x -/
structure InitEnd (h h' : Heap) (x C dx t1 : Addr) (v : Value) : Prop where
  keep : ∀ b o, b ≠ x → h.get? b = some o → h'.get? b = some o
  obj : h'.get? x = some { cls := .ref C, dict := some dx, data := .fields #[.ref t1, .none, .none, .none, .bool false, .none] }
  dbig : h.objs.size ≤ dx
  dne : dx ≠ x
  ns : h'.Ns1 dx (fun y => if y = "value" then some v else none)
/-- a made Low -/
structure OwnMade (h h' : Heap) (e C d : Addr) (v : Value) : Prop where
  keep : ∀ b o, h.get? b = some o → h'.get? b = some o
  new : h.objs.size ≤ e
  obj : ∃ oe vs, h'.get? e = some oe ∧ oe.cls = .ref C ∧ oe.dict = some d ∧ oe.data = .fields vs ∧ vs[1]? = some .none
  dbig : h.objs.size ≤ d
  dne : d ≠ e
  ns : h'.Ns1 d (fun y => if y = "value" then some v else none)
section
variable {prog : Program} {w : World} {A : Around} {E : Value → Shared → Prop} {R : Result → Shared → Prop} {s : Shared} {K : Frag} {mg : Str → Option Value} {C fI : Addr}
theorem low_init (T : LowTxt K mg C fI) {x t0 : Addr} {v : Value} (X : K.In s.heap) (hlim : s.heap.NoLimit) (hx : s.heap.get? x = some (excO C t0)) (hnx : K.lookup x = none) (hroom : A.depth < recursionLimit)
    (hq : ∀ h' tk dx, InitEnd s.heap h' x C dx t0 v → R (.ok (.ret .none)) { s with heap := h', toks := tk }) :
    codeAny (model prog w) A (.call (.ref fI) ⟨[.ref x, v], []⟩) R s := by
  obtain ⟨oc, od, doc, pm, an, cdv, ct, osl, p1, p2, q1, q2, q3, q4, ho, hcd⟩ := T.fn
  obtain ⟨nm, q, N, bs, bm, sn, sub, ab, col, dd, k0, k1, k2, k3, k5, hC, hbm⟩ := T.cls
  have hcl : clsIn K C = some { name := nm, bases := bs, mro := .ref C :: bm, ns := N, qualname := q, hasDict := true, slotNames := sn, subclasses := sub, abstract := ab, collection := col, hasDel := false } := by unfold clsIn; rw [hC] <;> rfl
  refine Att.call_fn (binds := [("self", .ref x), ("value", v)]) X hlim ho hcd hroom (BindsTo.of_eq (by first | rfl | with_unfolding_all rfl)) (by first | rfl | decide | with_unfolding_all rfl) (fun s₁ IC => ?_) rfl rfl rfl
  obtain ⟨h₁, tk₁, rfl⟩ := IC.toInCall.same
  have k : ∀ b o, s.heap.get? b = some o → h₁.get? b = some o := IC.toInCall.keep
  have hn := IC.toInCall.ns
  have hxL : s.heap.objs.size ≠ x := Nat.ne_of_gt (Heap.lt_size hx)
  have X₁ : K.In h₁ := X.keeps k
  have hx₁ := k _ _ hx
  -- self.by = by
  show wpAny _ _ (execs _ _) _ _ _
  refine wpAny_execs_cons (plainObj_wpAny_Assign_Attribute ?_)
  refine ldC (v := v) hn (by first | rfl | with_unfolding_all rfl | kernel_rfl) (ldC (v := .ref x) hn (by first | rfl | with_unfolding_all rfl | kernel_rfl) ?_)
  refine set_plain X₁ (ox := excO C t0) (od := none) ⟨hx₁, rfl, rfl, trivial⟩ T.sa ?_
  refine exc_osa X₁ hx₁ hcl (show refsVE (.ref C :: bm) = true from hbm) rfl T.noN (fun h₃ tk₃ dx k₃ dn dne hx₃ hn₃ => ?_)
  show wpAny _ _ (execs _ _) _ _ _
  have z : s.heap.objs.size < h₁.objs.size := hn.lt
  exact wpAny_execs_nil (hq h₃ tk₃ dx ⟨fun b o hb e => k₃ b o hb (k b o e), hx₃, Nat.le_of_lt (Nat.lt_of_lt_of_le z dn), dne, hn₃⟩)
theorem low_made (T : LowTxt K mg C fI) {v : Value} (X : K.In s.heap) (hlim : s.heap.NoLimit) (hroom : A.depth + 1 < recursionLimit)
    (hq : ∀ h' tk e d, OwnMade s.heap h' e C d v → R (.ok (.ret (.ref e))) { s with heap := h', toks := tk }) :
    codeAny (model prog w) A (.call (.ref C) ⟨[v], []⟩) R s := by
  obtain ⟨nm, q, N, bs, bm, sn, sub, ab, col, dd, k0, k1, k2, k3, k5, hC, hbm⟩ := T.cls
  obtain ⟨hp, g, dr, tk, os⟩ := s
  have k : ∀ b o, hp.get? b = some o → ((hp.push (kdv_tup [v])).push (excO C hp.objs.size)).get? b = some o := fun b o e => Heap.get?_push_of_some _ (Heap.get?_push_of_some _ e)
  have hget : ((hp.push (kdv_tup [v])).push (excO C hp.objs.size)).get? (hp.objs.size + 1) = some (excO C hp.objs.size) := by heap_get
  have hnx : K.lookup (hp.objs.size + 1) = none := by
    cases e : K.lookup (hp.objs.size + 1) with
    | none => rfl
    | some o =>
      have z : hp.get? (hp.objs.size + 1) = some o := X _ _ e
      exact absurd (Nat.lt_of_succ_lt (Heap.lt_size z)) (Nat.lt_irrefl _)
  refine call_own F.excBase_ValueError (fun X => refsVE_contains X bm hbm) (X _ _ hC) (looks_findIn X T.iC) (fun self => bind_fn X self T.tC) (one_size v) ?_
  refine low_init (s := ⟨(hp.push (kdv_tup [v])).push (excO C hp.objs.size), g, dr, tk, os⟩) T (X.keeps k) (hlim.keeps k) hget hnx ?_ fun h' tk' dx ⟨k', hx, dn, dne, hns⟩ => ?_
  · show A.depth + 1 < recursionLimit
    exact hroom
  · have old : ∀ b o, hp.get? b = some o → h'.get? b = some o := fun b o e => k' b o (Nat.ne_of_lt (Nat.lt_succ_of_lt (Heap.lt_size e))) (k b o e)
    have z : hp.objs.size + 1 + 1 ≤ dx := by
      first
        | (simpa only [Heap.size_push] using dn)
        | exact dn
        | (have q := dn; rw [Heap.size_push, Heap.size_push] at q; exact q)
    exact ⟨rfl, hq h' tk' (hp.objs.size + 1) dx ⟨old, Nat.le_succ _, ⟨_, _, hx, rfl, rfl, rfl, rfl⟩, Nat.le_trans (Nat.le_trans (Nat.le_succ _) (Nat.le_succ _)) z, dne, hns⟩⟩
end
end LowX
end PySem
namespace L2
open PySem PySem.Spec PyProof.Rows
theorem relO_low {v : V} {v' : Value} (r : RelV v v') (f : Str) : RelO (List.lookup f [(("value" : Str), v)]) (if f = "value" then some v' else none) := by
  by_cases hw : f = "value"
  · subst hw
    rw [if_pos rfl]
    have q : List.lookup ("value" : Str) [(("value" : Str), v)] = some v := by simp [List.lookup]
    rw [q]
    exact r
  · rw [if_neg hw]
    have qw : (f == ("value" : Str)) = false := by simpa using hw
    have q2 : List.lookup f [(("value" : Str), v)] = none := by simp [List.lookup, qw]
    rw [q2]
    trivial
section
variable {X : Cx} {C fI : Addr}
/-- Low(e) -/
def tMkLow (C : Addr) (ta : TA) : St → Hp → XK → Prop := fun σ H Q => ta σ H fun vs H1 => ∃ v, vs = [v] ∧ ∀ d, H1 d = none → Q (.ref C) (some d) (upd H1 d (.xd [(("value" : Str), v)]))
theorem pmk_low {a : Expr} {ta : TA} {p pos : Pos} {k : Nat} (T : PySem.LowX.LowTxt X.K X.mg C fI) (hr : Room k X.A) (ha : PA X [a] ta) (hg : Gl X "BadMove" := by rfl)
    (he : starEach (a :: []) X.env = (false, eval a X.env) :: starEach [] X.env := by rfl) (hpl : (backTo pos (starEach [] X.env)).any (·.1) = false := by rfl) :
    PMk X (.Call (.Name "BadMove" p) [a] [] pos) (tMkLow C ta) := by
  intro pins s σ H Q I h
  refine wpAny_Call_Name_kw (ld_glob I hg T.gC ?_)
  refine PySem.W.callWith_K (h₀ := X.base) I.ok.mod.kin T.kC (thn (ha.run pos pins s σ H _ I h) fun us s1 hh => ?_) he hpl
  obtain ⟨vs, H1, I1, r1, v, ev, q1⟩ := hh
  subst ev
  refine ⟨I1.kIn, ?_⟩
  cases r1 with
  | cons rv rn =>
    rename_i v' us'
    cases rn
    show wpAny _ _ (call (.ref C) [v']) _ _ _
    have hlim := I1.nolimit
    obtain ⟨hp, g, dr, tk, os⟩ := s1
    refine wpAny_call (PySem.LowX.low_made T I1.kIn hlim (by have := hr.dp; omega) fun h' tk' e d M => ?_)
    show MkP X pins σ Q (.ref e) ⟨h', g, dr, tk', os⟩
    obtain ⟨oe, fv, hoe, hc, hd, hdat, h1⟩ := M.obj
    have hns := M.ns
    obtain ⟨G', g1, g2⟩ := restrict h' fun b => decide (b ≠ e)
    have gk : ∀ b, b ≠ e → G'.get? b = h'.get? b := fun b hb => g1 b (decide_eq_true hb)
    have ge : G'.get? e = none := g2 e (by simp)
    have old : ∀ b o, hp.get? b = some o → G'.get? b = some o := fun b o q => (gk b (Nat.ne_of_lt (Nat.lt_of_lt_of_le (Heap.lt_size q) M.new))).trans (M.keep b o q)
    have ob : ObjOk X.prog X.w (upd H1 d (.xd [(("value" : Str), v)])) G' d (.xd [(("value" : Str), v)]) :=
      ⟨_, hns.at (fun o q => (gk d M.dne).trans q), fun f => relO_low rv f⟩
    have J : Inv X pins σ (upd H1 d (.xd [(("value" : Str), v)])) ⟨G', g, dr, tk', os⟩ := I1.laid (t' := tk') old M.dbig ob
    refine ⟨e, oe, fv, ⟨G', g, dr, tk', os⟩, _, .ref C, some d, rfl, J, fun b o q => ?_, ge, hoe, ⟨hc, hd⟩, hdat, h1, ?_, rfl, I1.bare, raises_own T.exC T.tyC, q1 d (I1.hok.fresh M.dbig)⟩
    · by_cases hb : b = e
      · have q' : G'.get? b = some o := q
        rw [hb, ge] at q'; cases q'
      · exact (gk b hb).symm.trans q
    · rw [upd_ne (Ne.symm M.dne)]
      exact I1.hok.fresh M.new
/-- raise Low(e) -/
def tRaiseLow (C : Addr) (W : WX) (ta : TA) : TS := fun _ σ H => tMkLow C ta σ H fun cls d H' => W cls d σ H'
theorem ps_raiseLow {a : Expr} {ta : TA} {W : WX} {p pos pos2 : Pos} {k : Nat} (hc : X.calm = true) (T : PySem.LowX.LowTxt X.K X.mg C fI) (hr : Room k X.A) (tk : Takes X W) (ha : PA X [a] ta) (hg : Gl X "BadMove" := by rfl)
    (he : starEach (a :: []) X.env = (false, eval a X.env) :: starEach [] X.env := by rfl) (hpl : (backTo pos (starEach [] X.env)).any (·.1) = false := by rfl) :
    PS X (.Raise (some (.Call (.Name "BadMove" p) [a] [] pos)) none pos2) (tRaiseLow C W ta) := ps_raise hc tk (pmk_low T hr ha hg he hpl)
/-- low.by, low the exception that the suite holds (at a; its class cls, its dict d) -/
def tByLow (C : Addr) (a : Addr) (cls : Value) (d : Option Addr) (te : TE) : TE := fun σ H Q => te σ H fun x H1 => x = .ref a ∧ cls = .ref C ∧ ∃ (dd : Addr) (v : V), d = some dd ∧ H1 dd = some (.xd [(("value" : Str), v)]) ∧ Q v H1
theorem pe_byLow {a : Addr} {oe : Obj} {cls : Value} {d : Option Addr} {pn : List (Addr × Obj)} {e : Expr} {te : TE} {pos : Pos} (T : PySem.LowX.LowTxt X.K X.mg C fI) (hz : Zc cls d oe) (hf : ∃ vs, oe.data = .fields vs) (he : PE (X.suite a ((a, oe) :: pn)) e te)
    (hb : attributeBase e "value" X.env (eval e X.env) = eval e X.env := by rfl) :
    PE (X.suite a ((a, oe) :: pn)) (.Attribute e "value" pos) (tByLow C a cls d te) := by
  refine ⟨fun pins s σ H Q I h => ?_⟩
  refine attr_of hb (thn (he.run pins s σ H _ I h) fun u s1 hh => ?_)
  obtain ⟨x, H1, I1, rx, ex, ec, dd, v, ed, ea, q⟩ := hh
  subst ex
  obtain rfl : u = Value.ref a := rx
  subst ec
  subst ed
  obtain ⟨ha, _⟩ := I1.pin (a, oe) (List.mem_append_left _ List.mem_cons_self)
  obtain ⟨vs, hd⟩ := hf
  have hx : ObjOk X.prog X.w H1 s1.heap dd (.xd [(("value" : Str), v)]) := I1.hok dd _ ea
  obtain ⟨mA, hns, hr⟩ := hx
  obtain ⟨od, ho, hl⟩ := lookIn_ns hns
  have l : List.lookup ("value" : Str) [(("value" : Str), v)] = some v := by simp [List.lookup]
  obtain ⟨u, hu, ru⟩ := RelO.some_of (v := v) (o := mA "value") (by rw [← l]; exact hr "value")
  have J : PySem.W.InstAt s1.heap a oe C (some od) := ⟨ha, hz.1, by unfold PySem.W.notCls; rw [hd] <;> rfl, by rw [hz.2]; exact ho⟩
  exact HandSPX.exc_get I1.kIn J T.ga T.gg T.exC (PySem.W.findObj_own T.hdC T.noN rfl (by rw [hl, hu])) (handed_of ru) ⟨v, H1, I1.tok _, ru, q⟩
end
end L2
namespace Hk
open PySem L2 PySem.Spec PyProof.Rows
end Hk
/-! ### isinstance of an error that has fields of its own -/
namespace PySem.W
open PySem PySem.Spec PySem.Calls PyProof.Rows
section
variable {prog : Program} {w : World} {Ar : Around} {Er : Value → Shared → Prop} {st : Shared} {K : Frag} {ea D : Addr} {eo : Obj} {own : Option Obj}
theorem xfind {nm : Str} {at1 g1 : Value} (q1 : (clsIn K D).isSome = true) (q2 : findIn K (.ref D) nm = some (some at1)) (q3 : specialIn K at1 "__get__" = some (some g1)) (q4 : takesIn K at1 = some true) : findObj K D own nm = some (.bind g1 at1) := by
  obtain ⟨cd, e⟩ := Option.isSome_iff_exists.mp q1
  unfold findObj
  rw [e, Option.bind_some, q2, Option.bind_some]
  simp [q3, q4]
theorem xclass {Qr : Option Value → Shared → Prop} (C : L2.ExcC K D) (X : K.In st.heap) (J : InstAt st.heap ea eo D own) (hq : Qr (some (.ref D)) { st with toks := st.toks + 1 }) : wpAny (model prog w) Ar (getAttr? (.ref ea) "__class__") Qr Er st := by
  have fnd : findObj K D own "__class__" = some (.bind (.builtin "getset_descriptor.__get__") (.builtin "object.__class__")) := xfind (by obtain ⟨cd, e, _⟩ := any_some C.hd; rw [e]; rfl) C.ha C.hn C.ht
  obtain ⟨hp, gn, dr, tk, os⟩ := st
  have T0 := J.type (M := model prog w)
  have T1 := looks_findIn (M := model prog w) X C.hg
  have T2 := looks_findIn (M := model prog w) X C.hk
  have T3 := looks_find (M := model prog w) X J fnd
  have isX : Looks (model prog w) hp (isInstance (.ref ea) (.type "BaseException")) true := T0.andThen (looks_subIn X C.hs)
  have n0 : (false && onTheHeap (Value.builtin "BaseException.__getattribute__")) = false := rfl
  have n2 : (Value.builtin "BaseException.__getattribute__" == Value.builtin "object.__getattribute__") = false := by decide +kernel
  have n1 : (onTheHeap (Value.ref D) && Value.builtin "BaseException.__getattribute__" == Value.builtin "object.__getattribute__") = false := by rw [n2]; rfl
  unfold getAttr? getAttrBy? getAttrBy
  refine wpAny_bind (wpAny_mkText (wpAny_bind (wpAny_attempt (wpAny_holding (wpAny_bind (T0.at (wpAny_bind (T1.at ?_))))))))
  show wpAny _ _ (ite ((onTheHeap (Value.ref D) && Value.builtin "BaseException.__getattribute__" == Value.builtin "object.__getattribute__") = true) _ _) _ _ _
  rw [n1, if_neg Bool.false_ne_true]
  unfold getAttrByItsOwn hookBefore
  refine wpAny_bind (?_)
  rw [if_pos (show onTheHeap (Value.ref D) = true from rfl)]
  refine T2.at (?_)
  refine wpAny_bind (wpAny_attempt (wpAny_holding (?_)))
  unfold callGetattribute
  rw [n0, if_neg Bool.false_ne_true]
  unfold boundAndCalled
  rw [PySem.F.excAttr_ValueError.ga.bind (.ref ea)]
  refine wpAny_bind (wpAny_pure (?_))
  show wpAny _ _ (call (.builtin "BaseException.__getattribute__") [.ref ea, .str "__class__" tk]) _ _ _
  refine wpAny_call (codeAny_call_builtin PySem.F.excAttr_ValueError.ga.plain PySem.F.entry_bexc_ga (?_))
  refine @check_slot (model prog w) _ _ ⟨hp, gn, dr, tk + 1, os⟩ "BaseException.__getattribute__" "BaseException" "__getattribute__" (.ref ea) [.str "__class__" tk] [] _ (by decide +kernel) (by decide +kernel) isX (PySem.F.args_bexc_ga (.ref ea) (.str "__class__" tk)) ?_
  unfold Builtin.«object.__getattribute__»
  refine wpAny_bind (wpAny_of_eq (a := ((Value.ref ea : Value), [Value.str "__class__" tk])) (by first | rfl | (simp only [slotArgs]; rfl)) ?_)
  refine wpAny_bind (wpAny_pure (wpAny_bind (T0.at (wpAny_bind (T3.at (?_))))))
  show wpAny _ _ (holding [Value.builtin "object.__class__"] (call (.builtin "getset_descriptor.__get__") [.builtin "object.__class__", .ref ea, .ref D]) >>= ret) _ _ _
  refine wpAny_bind (wpAny_holding (wpAny_call (class_get (s := ⟨hp, gn, dr, tk + 1, os⟩) (ox := eo) (od := own) X J C.hm ?_)))
  refine wpAny_pure (?_)
  show wpAny _ _ (handedOut (.ref D)) _ _ _
  rw [handedOut_of (v := Value.ref D) rfl]
  first
    | exact wpAny_pure (wpAny_pure hq)
    | exact wpAny_pure hq
    | exact wpAny_pure (wpAny_bind (wpAny_pure (wpAny_pure hq)))
theorem xkit (C : L2.ExcC K D) (Hx : Heap → Prop) (hx : ∀ h, Hx h → ∃ own, InstAt h ea eo D own) : KitX K (.ref ea) (.ref D) Hx where
  ty := fun _ h _ z => let ⟨_, J⟩ := hx h z; J.type
  it := fun _ h X _ => by
    obtain ⟨cdD, e, _⟩ := any_some C.hd
    unfold clsIn at e
    split at e
    · rename_i ho
      intro A' Q' E' s' k q
      unfold isType loadHead
      exact wpAny_bind (wpAny_loadPart (k _ _ (X _ _ ho)) (wpAny_pure q))
    · cases e
  ne := fun h tp dd its n sl X htp => by
    obtain ⟨cdD, e, _⟩ := any_some C.hd
    refine Bool.eq_false_iff.mpr fun q => ?_
    obtain rfl : D = tp := Value.ref.inj (beq_iff_eq.mp q)
    unfold clsIn at e
    split at e
    · rename_i ho
      have z := (X _ _ ho).symm.trans htp
      cases z
    · cases e
  ca := fun {_ _ _ _ _ s} X z k => let ⟨_, J⟩ := hx s.heap z; xclass C X J k
end
end PySem.W
namespace L2
open PySem PySem.Spec PyProof.Rows
/-- isinstance(e, c), e the error with fields of its own that the suite holds -/
def rIsX (K : PySem.W.Frag) (D a : Addr) (cls : Value) (d : Option Addr) : List V → Hp → VK → Prop := fun xs H Q => ∃ (c : V) (cv : Value) (b : Bool) (dd : Addr) (kv : List (Str × V)), xs = [.ref a, c] ∧ (∀ u, RelV c u → u = cv) ∧ cls = .ref D ∧ d = some dd ∧ H dd = some (.xd kv) ∧ PySem.W.kitOne K (.ref D) cv = some b ∧ Q (.bl b) H
theorem call_isX {X : Cx} {K : PySem.W.Frag} {a D : Addr} {cls : Value} {d : Option Addr} {oe : Obj} {pn : List (Addr × Obj)} (hK : X.K = K) (C : ExcC K D) (hz : Zc cls d oe) (hf : ∃ vs, oe.data = .fields vs) : CallR (X.suite a ((a, oe) :: pn)) (.builtin "isinstance") (rIsX K D a cls d) := by
  subst hK
  intro pins s σ H xs us Q I r h
  obtain ⟨c, cv, b, dd, kv, rfl, hcv, rfl, rfl, hd, e, q⟩ := h
  cases r with
  | cons rx rr =>
    cases rr with
    | cons rt rr =>
      cases rr
      cases rx
      obtain rfl := hcv _ rt
      obtain ⟨hget, _⟩ := I.pin (a, oe) (List.mem_append.mpr (.inl List.mem_cons_self))
      obtain ⟨fv, hv⟩ := hf
      obtain ⟨mA, hns, _⟩ := (show ObjOk X.prog X.w H s.heap dd (.xd kv) from I.hok dd _ hd)
      obtain ⟨od, ho, _⟩ := lookIn_ns hns
      have J : PySem.W.InstAt s.heap a oe D (some od) := ⟨hget, hz.1, by unfold PySem.W.notCls; rw [hv] <;> rfl, by rw [hz.2]; exact ho⟩
      exact PySem.W.kia_one (PySem.W.xkit C (fun h => PySem.W.InstAt h a oe D (some od)) fun h z => ⟨_, z⟩) I.kIn J e (fun z => nomatch z) fun tk => ⟨.bl b, H, I.kept (t' := tk) fun _ _ z => z, rfl, q⟩
end L2
namespace Hk
open PySem L2 PySem.Spec PyProof.Rows
/-! ### data that cannot change: flat things and tuples of such -/
mutual
inductive DT (H : Hp) : V → PyData → Prop
  | non : DT H .non .none
  | bl (b : Bool) : DT H (.bl b) (.bool b)
  | int (i : Int) : DT H (.int i) (.int i)
  | str (x : Str) : DT H (.str x) (.str x)
  | tup {a : Addr} {xs : List V} {ds : List PyData} : H a = some (.tup xs) → DTs H xs ds → DT H (.ref a) (.tuple ds)
inductive DTs (H : Hp) : List V → List PyData → Prop
  | nil : DTs H [] []
  | cons {v : V} {vs : List V} {d : PyData} {ds : List PyData} : DT H v d → DTs H vs ds → DTs H (v :: vs) (d :: ds)
end
/-- the tuples stand -/
def KeepT (H H' : Hp) : Prop := ∀ a xs, H a = some (.tup xs) → H' a = some (.tup xs)
theorem KeepT.refl (H : Hp) : KeepT H H := fun _ _ h => h
theorem KeepT.trans {H H1 H2 : Hp} (a : KeepT H H1) (b : KeepT H1 H2) : KeepT H H2 := fun c xs h => b c xs (a c xs h)
theorem KeepT.same {H H' : Hp} (s : Same H H') : KeepT H H' := fun a xs h => s a _ h
theorem KeepT.but {d : Addr} {H H' : Hp} (D : DeckAt H d) (s : But d H H') : KeepT H H' := fun a xs h => s.tup D h
theorem KeepT.put {x : Addr} {H : Hp} {ys : List V} {o : HO} (h : H x = some (.lst ys)) : KeepT H (upd H x o) := fun a xs e => by
  rw [upd_ne (ne_of e h (by intro z; cases z))]
  exact e
theorem KeepT.new {x : Addr} {H : Hp} {o : HO} (h : H x = none) : KeepT H (upd H x o) := KeepT.same (Same.new h)
mutual
theorem DT.keep {H H' : Hp} (e : KeepT H H') : ∀ {d : PyData} {v : V}, DT H v d → DT H' v d
  | _, _, .non => .non
  | _, _, .bl b => .bl b
  | _, _, .int i => .int i
  | _, _, .str x => .str x
  | _, _, .tup h t => .tup (e _ _ h) (DTs.keep e t)
theorem DTs.keep {H H' : Hp} (e : KeepT H H') : ∀ {ds : List PyData} {vs : List V}, DTs H vs ds → DTs H' vs ds
  | _, _, .nil => .nil
  | _, _, .cons p t => .cons (DT.keep e p) (DTs.keep e t)
end
mutual
theorem DT.dv {K : PySem.W.Frag} {H : Hp} : ∀ {d : PyData} {v : V}, DT H v d → DV K H v d
  | _, _, .non => .non
  | _, _, .bl b => .bl b
  | _, _, .int i => .int i
  | _, _, .str x => .str x
  | _, _, .tup h t => .tup (SqT.of h) (DTs.dv t)
theorem DTs.dv {K : PySem.W.Frag} {H : Hp} : ∀ {ds : List PyData} {vs : List V}, DTs H vs ds → DVs K H vs ds
  | _, _, .nil => .nil
  | _, _, .cons p t => .cons (DT.dv p) (DTs.dv t)
end
theorem DTs.ints {H : Hp} : ∀ ks : List Int, DTs H (ks.map V.int) (ks.map PyData.int)
  | [] => .nil
  | k :: r => .cons (.int k) (DTs.ints r)
theorem DTs.append {H : Hp} : ∀ {vs ws : List V} {ds es : List PyData}, DTs H vs ds → DTs H ws es → DTs H (vs ++ ws) (ds ++ es)
  | _, _, _, _, .nil, h => h
  | _, _, _, _, .cons p t, h => .cons p (DTs.append t h)
theorem DTs.take {H : Hp} : ∀ {vs : List V} {ds : List PyData} (n : Nat), DTs H vs ds → DTs H (vs.take n) (ds.take n)
  | _, _, 0, _ => .nil
  | _, _, _ + 1, .nil => .nil
  | _, _, n + 1, .cons p t => .cons p (DTs.take n t)
theorem DTs.length {H : Hp} : ∀ {vs : List V} {ds : List PyData}, DTs H vs ds → vs.length = ds.length
  | _, _, .nil => rfl
  | _, _, .cons _ t => congrArg Nat.succ (DTs.length t)
theorem DTs.none {H : Hp} : ∀ n : Nat, DTs H (List.replicate n V.non) (List.replicate n PyData.none)
  | 0 => .nil
  | n + 1 => .cons .non (DTs.none n)
/-! ### lists of ids as data -/
theorem modAll_ints : ∀ xs : List Int, (∀ z ∈ xs, z.natAbs < 2 ^ 300) → modAll (xs.map .int) = true
  | [], _ => by rw [List.map_nil, modAll]
  | x :: r, h => by
    rw [List.map_cons, modAll, modD, modAll_ints r fun z hz => h z (List.mem_cons_of_mem _ hz), decide_eq_true (h x List.mem_cons_self)]
    rfl
theorem szAll_ints : ∀ xs : List Int, szAll (xs.map .int) = xs.length * 303
  | [] => by rw [List.map_nil, szAll]; rfl
  | x :: r => by
    rw [List.map_cons, szAll, szD, szAll_ints r, List.length_cons]
    omega
theorem small_abs {z : Int} (h : -1000000000000 ≤ z) (h2 : z ≤ 1000000000000) : z.natAbs < 2 ^ 300 := by
  have : (1000000000001 : Nat) ≤ 2 ^ 300 := Nat.le_trans (by decide : 1000000000001 ≤ 2 ^ 50) (Nat.pow_le_pow_right (by decide) (by decide))
  generalize (2 : Nat) ^ 300 = B at *
  omega
structure Rok (d : PyData) : Prop where
  m : modD d = true
  dep : d.depth ≤ 40
  sz : szD d ≤ 1000000
theorem rok_ids {xs : List Int} (h : ∀ z ∈ xs, 1 ≤ z ∧ z ≤ 1000000) (hl : xs.length ≤ 300) : Rok (.list (xs.map .int)) := by
  refine ⟨?_, ?_, ?_⟩
  · rw [modD]
    exact modAll_ints xs fun z hz => by have := h z hz; exact small_abs (by omega) (by omega)
  · have := depthAll_ints xs
    rw [PyData.depth]
    omega
  · rw [szD, szAll_ints]
    omega
/-- changing one more object -/
theorem Fs.put {d x : Addr} {Hd H1 : Hp} {fs : List (Addr × HO)} {o : HO} (F : Fs d Hd fs H1) (h0 : Hd x = none) (hd : x ≠ d) (hn : ∀ p ∈ fs, p.1 ≠ x) : Fs d Hd fs (upd H1 x o) := by
  obtain ⟨f1, ⟨a, b, q, r⟩, f3⟩ := F
  refine ⟨fun c u hc e => ?_, ⟨a, b, by rw [upd_ne hd.symm]; exact q, r⟩, fun p hp => ⟨(f3 p hp).1, by rw [upd_ne (hn p hp)]; exact (f3 p hp).2⟩⟩
  rw [upd_ne (ne_of_none e h0)]
  exact f1 c u hc e
theorem Fs.apart {d x : Addr} {Hd H1 : Hp} {fs : List (Addr × HO)} (F : Fs d Hd fs H1) (h : H1 x = none) : Hd x = none ∧ x ≠ d ∧ ∀ p ∈ fs, p.1 ≠ x := by
  obtain ⟨f1, ⟨a, b, q, r⟩, f3⟩ := F
  have hd : x ≠ d := fun e => by rw [e, q] at h; cases h
  refine ⟨?_, hd, fun p hp => ne_of_none (f3 p hp).2 h⟩
  cases e : Hd x with
  | none => rfl
  | some u =>
    have := f1 x u hd e
    rw [h] at this; cases this
/-! ### repr of data with empty dicts in it -/
mutual
/-- ints of moderate size, dicts only empty -/
def okD : PyData → Bool
  | .none | .bool _ | .str _ => true
  | .int i => decide (i.natAbs < 2 ^ 300)
  | .list xs | .tuple xs => okAll xs
  | .dict kvs => kvs.isEmpty
def okAll : List PyData → Bool
  | [] => true
  | x :: xs => okD x && okAll xs
end
mutual
theorem shown_le2 : ∀ d : PyData, okD d = true → d.shown.length ≤ szD d
  | .none, _ => shown_le .none rfl
  | .bool b, _ => shown_le (.bool b) rfl
  | .str x, _ => shown_le (.str x) rfl
  | .int i, h => shown_le (.int i) (by rw [okD] at h; rw [modD]; exact h)
  | .list xs, h => by
    have h2 : okAll xs = true := by rw [okD] at h; exact h
    have b := shownAll_le2 xs h2
    have a := listText_le (PyData.shownAll xs)
    rw [szD, PyData.shown]
    omega
  | .tuple xs, h => by
    have h2 : okAll xs = true := by rw [okD] at h; exact h
    have b := shownAll_le2 xs h2
    have a := tupleText_le (PyData.shownAll xs)
    rw [szD, PyData.shown]
    omega
  | .dict kvs, h => by
    rw [okD] at h
    have e : kvs = [] := List.isEmpty_iff.mp h
    subst e
    rw [szD, PyData.shown, PyData.shownKv]
    exact Nat.le_refl 2
theorem shownAll_le2 : ∀ xs : List PyData, okAll xs = true → pile (PyData.shownAll xs) ≤ szAll xs
  | [], _ => by rw [PyData.shownAll, szAll]; exact Nat.le_refl _
  | x :: xs, h => by
    rw [okAll, Bool.and_eq_true] at h
    have a := shown_le2 x h.1
    have b := shownAll_le2 xs h.2
    rw [szAll, PyData.shownAll]
    show x.shown.length + 2 + pile (PyData.shownAll xs) ≤ _
    omega
end
section
variable {X : Cx} {pins : List (Addr × Obj)} {σ : L2.St} {H : Hp} {s : Shared}
mutual
theorem DV.rk (I : Inv X pins σ H s) : ∀ (d : PyData) (v : V) (u : Value), DV X.K H v d → RelV v u → okD d = true → d.shown.length ≤ sizeLine → ∃ bs, ReadAtMost s.heap d.depth bs ∧ ReprK X.prog X.w bs s.heap d.depth u d.shown
  | .none, _, _, .non, r, _, _ => ⟨[], (fun _ q => by cases q), by rw [PyData.shown, (show _ = Value.none from r)]; exact .of_is ReprIs.none _ _ _⟩
  | .bool b, _, _, .bl _, r, _, _ => ⟨[], (fun _ q => by cases q), by rw [PyData.shown, (show _ = Value.bool b from r)]; exact .of_is (ReprIs.bool b) _ _ _⟩
  | .int i, _, _, .int _, r, h, _ => by
    obtain ⟨t, rfl⟩ := r
    rw [okD] at h
    have := log_of (of_decide_eq_true h)
    exact ⟨[], (fun _ q => by cases q), by rw [PyData.shown]; exact .of_is (ReprIs.int t (by omega)) _ _ _⟩
  | .str x, _, _, .str _, r, _, hz => by
    obtain ⟨t, rfl⟩ := r
    rw [PyData.shown] at hz
    exact ⟨[], (fun _ q => by cases q), by rw [PyData.shown]; exact .of_is (ReprIs.str x t hz) _ _ _⟩
  | .list ds, _, u, .lst h t, r, hok, hz => by
    have r' : u = Value.ref _ := r
    subst r'
    rw [okD] at hok
    rw [PyData.shown] at hz
    obtain ⟨its, rv, ⟨o, n, ho, hc, _, hd⟩, _⟩ := I.list h
    obtain ⟨as, hr⟩ := DVs.reads I ds _ its t rv
    obtain ⟨bs, hb, hk⟩ := DVs.rk I ds _ its t rv hok fun x hx => Nat.le_trans (listText_mem_le hx) hz
    have R := Reads.list ho hc hd hr
    have far := not_mem_of_deeper R (by rw [PyData.depth]; omega) hb
    refine ⟨_, ReadAtMost.cons R (by rw [PyData.depth]; omega) hb, ?_⟩
    rw [PyData.depth, PyData.shown]
    cases its with
    | nil =>
      cases rv
      cases t
      rw [PyData.shownAll, listText_nil]
      exact ReprK.listEmpty ho hc hd
    | cons y l => exact ReprK.list ho hc hd far (by rw [hk.length_eq]; rfl) fun i y e => hk.item i y (by rw [List.getElem?_toArray] at e; exact e)
  | .tuple ds, _, u, .tup h t, r, hok, hz => by
    have r' : u = Value.ref _ := r
    subst r'
    rw [okD] at hok
    rw [PyData.shown] at hz
    obtain ⟨its, rv, ⟨o, ho, hc, n, hd⟩, _⟩ := I.tuple h
    obtain ⟨as, hr⟩ := DVs.reads I ds _ its t rv
    obtain ⟨bs, hb, hk⟩ := DVs.rk I ds _ its t rv hok fun x hx => Nat.le_trans (tupleText_mem_le hx) hz
    have R := Reads.tuple ho hc hd hr
    have far := not_mem_of_deeper R (by rw [PyData.depth]; omega) hb
    refine ⟨_, ReadAtMost.cons R (by rw [PyData.depth]; omega) hb, ?_⟩
    rw [PyData.depth, PyData.shown]
    exact ReprK.tuple ho hc hd far hk
  | .dict _, _, u, .dk0 h, r, _, _ => by
    have r' : u = Value.ref _ := r
    subst r'
    obtain ⟨_, sy, vs, rel, o, es, ep, h1, h2, h3, h4⟩ := I.hok _ _ h
    cases rel
    have e0 : es.toList = [] := by
      have h5 := h4.2.1
      generalize es.toList = l at h5 ⊢
      cases h5
      rfl
    have R : Reads s.heap (.ref _) (.dict []) _ := Reads.dict (as := []) (bs := []) h1 h2.1 h3 (by rw [e0]; exact ReadsAll.nil) (by rw [e0]; exact ReadsAll.nil)
    have hb : ReadAtMost s.heap (PyData.depthKv []) [] := fun _ q => by cases q
    refine ⟨_, ReadAtMost.cons R (by rw [PyData.depth]; omega) hb, ?_⟩
    rw [PyData.depth, PyData.shown, PyData.shownKv]
    exact ReprK.dict h1 h2.1 h3 sy (fun q => by cases q) (by rw [e0]; exact .nil)
theorem DVs.rk (I : Inv X pins σ H s) : ∀ (ds : List PyData) (vs : List V) (us : List Value), DVs X.K H vs ds → Vals vs us → okAll ds = true → (∀ x ∈ PyData.shownAll ds, x.length ≤ sizeLine) → ∃ bs, ReadAtMost s.heap (PyData.depthAll ds) bs ∧ ReprAllK X.prog X.w bs s.heap (PyData.depthAll ds) us (PyData.shownAll ds)
  | [], _, _, .nil, r, _, _ => by
    cases r
    exact ⟨[], (fun _ q => by cases q), by rw [PyData.shownAll]; exact .nil⟩
  | d :: ds, _, _, .cons h1 h2, r, hok, hz => by
    cases r with
    | cons r1 r2 =>
      rw [okAll, Bool.and_eq_true] at hok
      rw [PyData.shownAll] at hz
      obtain ⟨p1, a1, k1⟩ := DV.rk I d _ _ h1 r1 hok.1 (hz _ List.mem_cons_self)
      obtain ⟨p2, a2, k2⟩ := DVs.rk I ds _ _ h2 r2 hok.2 fun x hx => hz x (List.mem_cons_of_mem _ hx)
      rw [PyData.shownAll, PyData.depthAll]
      refine ⟨p1 ++ p2, fun b hm => ?_, .cons ((k1.more fun b hb => List.mem_append_left _ hb).level_le (by omega)) (k2.more_le (fun b hb => List.mem_append_right _ hb) (by omega))⟩
      rcases List.mem_append.mp hm with q | q
      · obtain ⟨e, f, r, g⟩ := a1 b q
        exact ⟨e, f, r, by omega⟩
      · obtain ⟨e, f, r, g⟩ := a2 b q
        exact ⟨e, f, r, by omega⟩
end
/-- repr of any data -/
def rRepr2 (K : PySem.W.Frag) : List V → Hp → VK → Prop := fun xs H Q => ∃ (v : V) (d : PyData), xs = [v] ∧ DV K H v d ∧ okD d = true ∧ d.depth ≤ 40 ∧ szD d ≤ 1000000 ∧ Q (.str d.shown) H
theorem call_repr2 (hg : X.A.guards = some []) (hu : X.A.units + 64 < cLine) : CallR X (.builtin "repr") (rRepr2 X.K) := by
  intro pins s σ H xs us Q I r h
  obtain ⟨v, d, rfl, hd, hok, hdep, hsz, q⟩ := h
  have hl : d.shown.length ≤ sizeLine := by
    have := shown_le2 d hok
    rw [sizeLine_eq]
    omega
  obtain ⟨u, rfl, ru⟩ : ∃ u, us = [u] ∧ RelV v u := by
    cases r with
    | cons r1 r2 => cases r2; exact ⟨_, rfl, r1⟩
  have kk : ∀ b o, s.heap.get? b = some o → s.heap.get? b = some o := fun _ _ e => e
  cases hd with
  | non =>
    have r' : u = Value.none := ru
    subst r'
    rw [PyData.shown] at q
    exact PySem.P.repr_of_none ⟨.str _, H, I.tok _, ⟨_, rfl⟩, q⟩
  | bl b =>
    have r' : u = Value.bool b := ru
    subst r'
    rw [PyData.shown] at q
    exact PySem.P.repr_of_bool ⟨.str _, H, I.tok _, ⟨_, rfl⟩, q⟩
  | int i =>
    obtain ⟨t, rfl⟩ := ru
    rw [okD] at hok
    have := log_of (of_decide_eq_true hok)
    rw [PyData.shown] at q
    exact PySem.P.repr_of_int (by omega) ⟨.str _, H, I.tok _, ⟨_, rfl⟩, q⟩
  | str x =>
    obtain ⟨t, rfl⟩ := ru
    rw [PyData.shown] at q hl
    exact PySem.P.repr_of_str ⟨.str _, H, I.tok _, ⟨_, rfl⟩, q⟩ hl
  | lst h t =>
    rename_i a vs ds
    have r' : u = Value.ref a := ru
    subst r'
    rw [okD] at hok
    rw [PyData.shown] at hl q
    rw [PyData.depth] at hdep
    obtain ⟨its, rv, ⟨o, n, ho, hc, _, hdt⟩, _⟩ := I.list h
    obtain ⟨as, hr⟩ := DVs.reads I ds _ its t rv
    obtain ⟨bs, hb, hk⟩ := DVs.rk I ds _ its t rv hok fun x hx => Nat.le_trans (listText_mem_le hx) hl
    have far := not_mem_of_deeper (Reads.list ho hc hdt hr) (by rw [PyData.depth]; omega) hb
    refine call_repr_slot (by omega) ⟨o, ho, hc⟩ F.slot_list_repr.toG ?_
    cases its with
    | nil =>
      cases rv
      cases t
      rw [PyData.shownAll, listText_nil] at q
      exact call_list_repr_empty ⟨o, ho, hc⟩ ho hdt ⟨_, _, rfl, .str _, H, I.tok _, ⟨_, rfl⟩, q⟩
    | cons y l =>
      exact call_list_reprK ho hc hdt far (by rw [hk.length_eq]; rfl) (fun i y e => hk.item i y (by rw [List.getElem?_toArray] at e; exact e)) hg (fun b _ => Clear.nil b) (by show X.A.units + 1 + _ < cLine; omega) kk
        (fun h' u tk k => ⟨_, _, rfl, .str _, H, I.kept k, ⟨_, rfl⟩, q⟩) hl
  | tup h t =>
    rename_i a vs ds
    have r' : u = Value.ref a := ru
    subst r'
    rw [okD] at hok
    rw [PyData.shown] at hl q
    rw [PyData.depth] at hdep
    obtain ⟨its, rv, ⟨o, ho, hc, n, hdt⟩, _⟩ := I.tuple h
    obtain ⟨as, hr⟩ := DVs.reads I ds _ its t rv
    obtain ⟨bs, hb, hk⟩ := DVs.rk I ds _ its t rv hok fun x hx => Nat.le_trans (tupleText_mem_le hx) hl
    have far := not_mem_of_deeper (Reads.tuple ho hc hdt hr) (by rw [PyData.depth]; omega) hb
    refine call_repr_slot (by omega) ⟨o, ho, hc⟩ F.slot_tuple_repr ?_
    exact call_tuple_reprK ho hc hdt far hk hg (fun b _ => Clear.nil b) (by show X.A.units + 1 + _ < cLine; omega) kk
      (fun h' u tk k => ⟨_, _, rfl, .str _, H, I.kept k, ⟨_, rfl⟩, q⟩) hl
  | dk0 h =>
    rename_i a
    have r' : u = Value.ref a := ru
    subst r'
    rw [PyData.shown, PyData.shownKv] at q
    obtain ⟨_, sy, vs, rel, o, es, ep, h1, h2, h3, h4⟩ := I.hok _ _ h
    cases rel
    have e0 : es.toList = [] := by
      have h5 := h4.2.1
      generalize es.toList = l at h5 ⊢
      cases h5
      rfl
    refine call_repr_slot (by omega) ⟨o, h1, h2.1⟩ F.slot_dict_repr ?_
    exact call_dict_reprK (d := 0) (as := []) h1 h2.1 h3 sy (fun q => by cases q) (by rw [e0]; exact .nil) hg (fun b _ => Clear.nil b) (by show X.A.units + 1 + _ < cLine; omega) kk
      (fun h' u tk k => ⟨_, _, rfl, .str _, H, I.kept k, ⟨_, rfl⟩, q⟩) (by rw [sizeLine_eq]; decide)
end
def inV2 (lo hi : Int) : V → Bool
  | .int i => decide (lo ≤ i) && decide (i ≤ hi)
  | _ => false
def inD (lo hi : Int) : PyData → Bool
  | .int i => decide (lo ≤ i) && decide (i ≤ hi)
  | _ => false
theorem DV.inD {K : PySem.W.Frag} {H : Hp} {v : V} {d : PyData} {lo hi : Int} (h : DV K H v d) : inV2 lo hi v = Hk.inD lo hi d := by cases h <;> rfl
theorem dInt (i j : Int) : decide (V.int i = V.int j) = decide (i = j) := by rw [dec_int]; rfl
/-- a comprehension over a tuple whose elements leave all as it was -/
theorem lc_same {K : PySem.W.Frag} {a : Addr} {xs : List V} {g : TG} {te : TE} {vs : List Nat} {σ : L2.St} {H1 : Hp} {D : Addr} {Qd : Hp → Prop} (ys : List V) (hl : ys.length = xs.length) (hsz : xs.length ≤ 1000000) (hT : SqT K H1 a xs) (hD : H1 D = none)
    (turn : ∀ (i : Nat) (x y : V) (H' : Hp) (R : VK), xs[i]? = some x → ys[i]? = some y → Same H1 H' → (∀ H4, Same H' H4 → R y H4) → g x (wipe σ vs) H' fun σ2 H2 => wipe σ2 vs = wipe σ vs ∧ te σ2 H2 R)
    (fin : ∀ H', Same H1 H' → H' D = some (.lst ys) → Qd H') :
    ∃ W : Nat → Nat → Hp → Prop, (∃ m, W 0 m (upd H1 D (.lst []))) ∧ ∀ (i m : Nat) (H : Hp), W i m H → (Itt K a).stop i H ∧ Qd H ∨ (Itt K a).go i H ∧ ∃ Nx : Hp → Prop, (∀ (H' : Hp), Nx H' → ∃ m', m' < m ∧ W (i + 1) m' H') ∧
      ∀ (x : V) (H' : Hp), (Itt K a).yld i H x H' → g x (wipe σ vs) H' fun σ2 H2 => wipe σ2 vs = wipe σ vs ∧ tYes σ2 H2 fun b H3 => if b = true then te σ2 H3 fun y H4 => ∃ acc, H4 D = some (.lst acc) ∧ acc.length < sizeLine ∧ Nx (upd H4 D (.lst (acc ++ [y]))) else Nx H3 := by
  refine lc_tup (K := K) (a := a) (xs := xs) (fun i H' => Same H1 H' ∧ H' D = some (.lst (ys.take i))) ⟨Same.new hD, upd_same⟩ (fun i H' _ q => Same.tq q.1 hT) ?_ ?_
  · rintro i x H' hx ⟨s1, hL⟩
    have hi := lt_of_some hx
    have hy : ys[i]? = some ys[i] := List.getElem?_eq_getElem (by omega)
    refine turn i x ys[i] H' _ hx hy s1 fun H4 s2 => ⟨_, s2 _ _ hL, ?_, ?_, ?_⟩
    · rw [List.length_take, sizeLine_eq]; omega
    · intro b u hb
      rw [upd_ne (ne_of_none hb hD)]
      exact s2 _ _ (s1 _ _ hb)
    · rw [upd_same, take_snoc hy]
  · rintro H' ⟨s1, hL⟩
    rw [← hl, List.take_length] at hL
    exact fin H' s1 hL
structure TxtI (mg : Str → Option Value) : Prop where
  id : ∃ t, mg "GREATEST_ID" = some (.int 1000000 t)
  field : ∃ t, mg "GREATEST_FIELD" = some (.int 1000000000 t)
  most : ∃ t, mg "MOST_FIELDS" = some (.int 4 t)
  abs : mg "abs" = none
theorem op_catA_K {X : Cx} {K : PySem.W.Frag} (h : X.K = K) : OpR X (binaryOp .Add) (rCatA K) := by
  subst h
  exact op_catA
theorem tyInt (K : PySem.W.Frag) (H : Hp) (i : Int) : TyD K H (.int i) := ⟨_, .base (.int i), .inr (.inr (.inl ⟨rfl, i, rfl⟩))⟩
section
variable {P : Program} {w : World} {K : PySem.W.Frag} {mg : Str → Option Value} {base : Heap}
/-! ### is_within, is_id -/
def spWithin (K : PySem.W.Frag) : Sp := fun vs H Q _ => ∃ (x : V) (lo hi : Int), vs = [x, .int lo, .int hi] ∧ TyD K H x ∧ Q (.bl (inV2 lo hi x)) H
theorem scWithin : FnScope ["value", "low", "high"] ["value", "low", "high"] (defScope sWithin) := ⟨rfl, rfl, rfl, by decide +kernel, rfl, by decide +kernel, by decide +kernel⟩
theorem ok_within {f fW : Addr} {fd fdW : FuncData} (F : Fun K "is_within" "is_within" sWithin f fd) (T : TxtV mg) (FW : Fun K "is_whole" "is_whole" sWhole fW fdW) (bW : L2.Binds K fdW ["value"] []) (mW : mg "is_whole" = some (.ref fW)) :
    FnOk P w K mg base CX0 2 f fd ["value", "low", "high"] (spWithin K) := by
  have GW : FnOk P w K mg base CX0 1 fW fdW ["value"] (spWhole K) := ok_whole FW T
  refine F.ok scWithin (fun vs H Q E h => ?_) (fun cdv A outer s H vs Q E hr h => ?_)
  · obtain ⟨x, lo, hi, rfl, _⟩ := h
    rfl
  · obtain ⟨x, lo, hi, rfl, ty, k⟩ := h
    refine ⟨_, pss_one (ps_ret (pe_and (pe_call GW hr rfl mW FW.kp bW .nil pass0 (pa_cons (pv 0) pa_nil)) (pe_one (pe_chain op_le op_le (pv 1) (pv 0) (pv 2))))), ?_⟩
    refine ⟨_, rfl, x, rfl, ty, _, rfl, ?_⟩
    obtain ⟨nm, _, hn⟩ := ty
    rcases hn with ⟨rfl, rfl⟩ | ⟨rfl, b, rfl⟩ | ⟨rfl, i, rfl⟩ | ⟨rfl, z, rfl⟩ | ⟨rfl, a, rfl⟩ | ⟨rfl, a, rfl⟩ | ⟨rfl, a, rfl⟩
    · exact iteF k
    · exact iteF k
    · refine iteT ⟨_, rfl, _, rfl, _, _, rfl, rfl, _, rfl, ?_⟩
      have k' : Q (.bl (decide (lo ≤ i) && decide (i ≤ hi))) H := k
      by_cases h1 : lo ≤ i
      · rw [decide_eq_true h1] at k' ⊢
        exact iteT ⟨_, rfl, _, _, rfl, rfl, k'⟩
      · rw [decide_eq_false h1] at k' ⊢
        exact iteF k'
    · exact iteF k
    · exact iteF k
    · exact iteF k
    · exact iteF k
def spIsId (K : PySem.W.Frag) : Sp := fun vs H Q _ => ∃ x : V, vs = [x] ∧ TyD K H x ∧ Q (.bl (inV2 1 1000000 x)) H
theorem scIsId : FnScope ["value"] ["value"] (defScope sIsId) := ⟨rfl, rfl, rfl, by decide +kernel, rfl, by decide +kernel, by decide +kernel⟩
theorem ok_isId {f fI : Addr} {fd fdI : FuncData} (F : Fun K "is_id" "is_id" sIsId f fd) (T : ∃ t, mg "GREATEST_ID" = some (.int 1000000 t)) (GI : FnOk P w K mg base CX0 2 fI fdI ["value", "low", "high"] (spWithin K)) (kI : PySem.W.keepIn K (.ref fI) = true) (bI : L2.Binds K fdI ["value", "low", "high"] []) (mI : mg "is_within" = some (.ref fI)) :
    FnOk P w K mg base CX0 3 f fd ["value"] (spIsId K) := by
  obtain ⟨t, tI⟩ := T
  refine F.ok scIsId (fun vs H Q E h => ?_) (fun cdv A outer s H vs Q E hr h => ?_)
  · obtain ⟨x, rfl, _⟩ := h
    rfl
  · obtain ⟨x, rfl, ty, k⟩ := h
    refine ⟨_, pss_one (ps_ret (pe_call GI hr rfl mI kI bI .nil pass0 (pa_cons (pv 0) (pa_cons pe_int (pa_cons (pe_glob (v := .int 1000000) rfl tI ⟨_, rfl⟩) pa_nil))))), ?_⟩
    exact ⟨_, rfl, x, _, _, rfl, ty, k⟩
end
/-! ### what a value does as a move -/
def doMoveD (js : List Int) : PyData → List Int
  | .tuple [i, b] => doMove js (idsOf i) (intOf b)
  | _ => js
theorem ints_back : ∀ es : List PyData, es.all wholeD = true → es = (es.map intOf).map .int
  | [], _ => rfl
  | e :: r, h => by
    rw [List.all_cons, Bool.and_eq_true] at h
    obtain ⟨y, rfl⟩ : ∃ y, e = .int y := by cases e <;> first | exact ⟨_, rfl⟩ | cases h.1
    show PyData.int y :: r = PyData.int y :: (r.map intOf).map .int
    rw [← ints_back r h.2]
theorem isMove_is {js : List Int} {d : PyData} (h : isMove js d = true) : ∃ ks b, d = .tuple [.tuple (ks.map .int), .int b] ∧ MoveOk js ks b ∧ doMoveD js d = doMove js ks b := by
  have two : ∃ i b, d = .tuple [i, b] := by
    match d, h with
    | .tuple [i, b], _ => exact ⟨i, b, rfl⟩
    | .tuple [], h => cases h
    | .tuple [_], h => cases h
    | .tuple (_ :: _ :: _ :: _), h => cases h
    | .none, h => cases h
    | .bool _, h => cases h
    | .int _, h => cases h
    | .str _, h => cases h
    | .list _, h => cases h
    | .dict _, h => cases h
  obtain ⟨i, b, rfl⟩ := two
  have h2 : isMove2 js i b = true := h
  unfold isMove2 at h2
  simp only [Bool.and_eq_true] at h2
  obtain ⟨⟨hA, hB⟩, hC⟩ := h2
  obtain ⟨z, rfl⟩ : ∃ z, b = .int z := by cases b <;> first | exact ⟨_, rfl⟩ | cases hB
  cases i with
  | tuple es =>
    have hA' : areIdsL js es = true := hA
    unfold areIdsL at hA'
    simp only [Bool.and_eq_true] at hA'
    obtain ⟨⟨⟨a1, a2⟩, a3⟩, a4⟩ := hA'
    have ees := ints_back es a2
    refine ⟨es.map intOf, z, by rw [← ees], ⟨?_, ?_, of_decide_eq_true a4, ?_⟩, rfl⟩
    · intro q
      have : es = [] := List.map_eq_nil_iff.mp q
      rw [this] at a1; cases a1
    · intro k hk
      exact of_decide_eq_true (List.all_eq_true.mp a3 k hk)
    · have hC' : (decide (z = 0) || (decide (z ∈ js) && !decide (z ∈ es.map intOf))) = true := hC
      rw [Bool.or_eq_true, Bool.and_eq_true] at hC'
      rcases hC' with q | ⟨q1, q2⟩
      · exact .inl (of_decide_eq_true q)
      · exact .inr ⟨of_decide_eq_true q1, by simpa using q2⟩
  | _ => cases hA
/-- the tuple of a value that is a move -/
theorem DV.move {K : PySem.W.Frag} {H : Hp} {v : V} {js ks : List Int} {b : Int} (h : DV K H v (.tuple [.tuple (ks.map .int), .int b])) : ∃ m i, v = .ref m ∧ SqT K H m [.ref i, .int b] ∧ SqT K H i (ks.map V.int) := by
  cases h with
  | tup h1 h2 =>
    cases h2 with
    | cons p t =>
      cases t with
      | cons q t2 =>
        cases t2
        cases q
        cases p with
        | tup h3 h4 =>
          have e := whole_all h4 (all_whole ks)
          rw [ints_of_map] at e
          subst e
          exact ⟨_, _, rfl, h1, h3⟩
def smallM (d : PyData) : Prop := ∀ ds b, d = .tuple [.tuple ds, b] → fewD ds
section
variable {P : Program} {w : World} {K : PySem.W.Frag} {mg : Str → Option Value} {base : Heap} {C fI : Addr}
def ValE (C : Addr) (v : V) (H : Hp) (E : XK) : Prop := ∀ e H', Same H H' → H' e = none → E (.ref C) (some e) (upd H' e (.xd [("value", v)]))
def spDoX (K : PySem.W.Frag) (C : Addr) : Sp := fun vs H Q E => ∃ (o : Addr) (js : List Int) (v : V) (d : PyData), vs = [.ref o, v] ∧ SqL K H o (js.map V.int) ∧ js.length ≤ 4000 ∧ DV K H v d ∧ smallM d ∧
  (isMove js d = true → ∀ (p : Addr) (H' : Hp), H p = none → Same H H' → H' p = some (.lst ((doMoveD js d).map V.int)) → Q (.ref p) H') ∧ (isMove js d = false → ValE C v H E)
theorem ok_doX {f fM fA fW fD : Addr} {fd fdM fdA fdW fdD : FuncData} (F : Fun K "do_move" "do_move" sDoMove f fd) (T : TxtV mg) (L : PySem.LowX.LowTxt K mg C fI) (FW : Fun K "is_whole" "is_whole" sWhole fW fdW) (bW : L2.Binds K fdW ["value"] []) (mW : mg "is_whole" = some (.ref fW))
    (FD : Fun K "all_different" "all_different" sDiff fD fdD) (bD : L2.Binds K fdD ["numbers"] []) (mD : mg "all_different" = some (.ref fD))
    (FA : Fun K "are_ids_of" "are_ids_of" sAreIds fA fdA) (bA : L2.Binds K fdA ["order", "value"] []) (mA : mg "are_ids_of" = some (.ref fA))
    (FM : Fun K "is_move" "is_move" sIsMove fM fdM) (bM : L2.Binds K fdM ["order", "value"] []) (mM : mg "is_move" = some (.ref fM)) : FnOk P w K mg base (L2.CX P w) 4 f fd ["order", "move"] (spDoX K C) := by
  have GM : FnOk P w K mg base CX0 3 fM fdM ["order", "value"] (spIsMove K) := ok_isMove FM T FW bW mW FD bD mD FA bA mA
  refine F.okX scDo (fun vs H Q E h => ?_) (fun cdv A outer s H vs Q E hr h => ?_)
  · obtain ⟨o, js, v, d, rfl, _⟩ := h
    rfl
  · obtain ⟨o, js, v, d, rfl, hO, hj, hd, hsm, k, kE⟩ := h
    refine ⟨_, pss_cons (ps_if (pt_not (pt_val (pe_call GM hr rfl mM FM.kp bM .nil pass0 (pa_cons (pv 0) (pa_cons (pv 1) pa_nil))))) (pss_one (ps_raiseLow rfl L hr (takes_of rfl rfl rfl rfl) (by exact (pa_cons (pv 1) pa_nil)))) pss_nil)
      (pss_cons (ps_asg (pv 1) (pg_tup (by rfl) (pgs_cons (pg_name (i := 2) scDo.nd rfl (Or.inl rfl)) (pgs_cons (pg_name (i := 3) scDo.nd rfl (Or.inl rfl)) pgs_nil))))
      (pss_cons (ps_set (i := 4) scDo.nd rfl (Or.inr rfl) (pe_callTy (cr_setI rfl) (by rfl) T.set (by decide +kernel) (pa_cons (pv 2) pa_nil)))
      (pss_cons (ps_setLc (i := 5) (own := [("row_id", 7)]) (g := gName 7) rfl scDo.nd rfl rfl (sw_true rfl rfl rfl (by decide +kernel)) (pi_list (pv 0)) (blkOk_by (N := ["order", "move", "ids", "behind", "taken", "rest", "at", "row_id"]) (sc := defScope sDoMove) (by decide +kernel)) (fun _ _ _ _ _ => pg_name (i := 7) scDo.nd rfl (Or.inl rfl))
          (fun _ _ _ _ _ => pts_one (pt_cmpR op_notInSet (pv 7) (pv 4) (by rfl))) (fun _ _ _ _ _ => pv 7))
      (pss_cons (ps_set (i := 6) scDo.nd rfl (Or.inl rfl) (pe_ifExp (pt_cmpR op_eq (pv 3) pe_int (nomark _)) pe_int (pe_op op_add (pe_bm PySem.F.plainAttrs_list PySem.F.slot_list_index PySem.F.type_list_index mt_index (pv 5) (pa_cons (pv 3) pa_nil)) pe_int)))
      (pss_one (ps_ret (pe_op op_cat (pe_op op_cat (pe_slice sl_list (pv 5) po_none (po_some (pv 6))) (pe_callTy call_list_of (by rfl) T.list (by decide +kernel) (pa_cons (pv 2) pa_nil))) (pe_slice sl_list (pv 5) (po_some (pv 6)) po_none)))))))), ?_⟩
    refine ⟨_, rfl, _, rfl, o, js, v, d, rfl, hO, hj, hd, hsm, fun H1 s1 => ⟨_, rfl, ?_⟩⟩
    cases hm : isMove js d with
    | false =>
      refine iteT ?_
      exact ⟨_, rfl, _, rfl, fun e he => kE hm e H1 s1 he⟩
    | true =>
      refine iteF ?_
      obtain ⟨ks, b, rfl, ok, ed⟩ := isMove_is hm
      obtain ⟨m, i, rfl, hM, hI⟩ := hd.move (js := js)
      have hk : ks.length ≤ 4000 := by have := (hsm _ _ rfl).2 (all_whole ks); rw [List.length_map] at this; exact this
      refine ⟨_, rfl, m, _, rfl, Same.tq s1 hM, rfl, _, _, rfl, _, _, rfl, rfl, ?_⟩
      -- taken = set(ids)
      refine ⟨_, rfl, i, ks, rfl, .inr (Same.tq s1 hI), hk, fun q S n hq hS hn => ?_⟩
      have s2 : Same H (upd H1 q (.set S n)) := s1.trans (Same.new hq)
      refine ⟨_, rfl, o, rfl, ⟨_, Same.sq s2 hO⟩, fun D hD => ?_⟩
      refine lc_list (K := K) (a := o) (xs := js.map V.int) (fun i H' => Same (upd H1 q (.set S n)) H' ∧ H' D = some (.lst (((js.take i).filter fun k => decide (k ∉ ks)).map V.int))) ⟨Same.new hD, upd_same⟩ (fun i H' _ q => Same.sq (s2.trans q.1) hO) ?_ ?_
      · rintro i x H' hx ⟨s3, hL⟩
        rw [List.getElem?_map] at hx
        obtain ⟨z, hz2, rfl⟩ : ∃ z, js[i]? = some z ∧ x = V.int z := by
          cases hq2 : js[i]? with
          | none => rw [hq2] at hx; cases hx
          | some z => rw [hq2] at hx; exact ⟨z, rfl, (Option.some.inj hx).symm⟩
        refine ⟨rfl, ?_⟩
        refine ⟨_, rfl, _, rfl, z, q, S, n, rfl, rfl, s3 _ _ upd_same, _, rfl, ?_⟩
        show if (!S z) = true then _ else _
        rw [hS.1 z]
        have hf := filter_int js ks i hz2
        refine ite2 (fun c => ?_) (fun c => ?_)
        · have hz : z ∉ ks := by simpa using c
          rw [if_neg hz] at hf
          refine ⟨_, rfl, _, hL, ?_, ?_, ?_⟩
          · rw [List.length_map]
            have := List.length_filter_le (fun k => decide (k ∉ ks)) (js.take i)
            have : (js.take i).length ≤ js.length := by rw [List.length_take]; omega
            exact Nat.lt_of_le_of_lt (by omega : _ ≤ 4000) (by decide)
          · intro b u hb
            rw [upd_ne (ne_of_none hb hD)]
            exact s3 b u hb
          · rw [upd_same, hf, List.map_append]
            rfl
        · have hz : z ∈ ks := by simpa using c
          rw [if_pos hz] at hf
          exact ⟨s3, by rw [hf]; exact hL⟩
      · rintro H3 ⟨s3, hL⟩
        rw [List.length_map, List.take_length] at hL
        have s4 : Same H H3 := s2.trans s3
        have hlen : (js.filter fun k => decide (k ∉ ks)).length ≤ 4000 := Nat.le_trans (List.length_filter_le _ _) hj
        rw [ed] at k
        generalize hR : (js.filter fun k => decide (k ∉ ks)) = R at *
        have fin : ∀ (at' : Nat) (σ' : L2.St), at' = (if b = 0 then 0 else R.idxOf b + 1) → σ' = [some (.ref o), some (.ref m), some (.ref i), some (.int b), some (.ref q), some (.ref D), some (.int at'), none] →
            (tRet (tOp rCat (tOp rCat (tSl (rSlL K) (tVar 5) tNoPart (tPart (tVar 6))) (tCB (fun xs H Q => ∃ p ys, xs = [.ref p] ∧ (SqL K H p ys ∨ SqT K H p ys) ∧ ∀ l, H l = none → Q (.ref l) (upd H l (.lst ys))) (tCons (tVar 2) tNil))) (tSl (rSlL K) (tVar 5) (tPart (tVar 6)) tNoPart))) { nx := fun _ H' => Q .non H', rt := Q } σ' H3 := by
          rintro at' σ' hat rfl
          have l1 := cutV_length (R.map V.int) none (some (at' : Int))
          have l2 := cutV_length (R.map V.int) (some (at' : Int)) none
          rw [List.length_map] at l1 l2
          have e16 : sizeLine = 16777216 := sizeLine_eq
          refine ⟨_, rfl, _, rfl, _, rfl, D, _, rfl, SqL.of hL, fun p1 hp1 => ?_⟩
          have t1 := Same.new (o := .lst (cutV (R.map V.int) none (some (at' : Int)))) hp1
          refine ⟨_, rfl, i, _, rfl, .inr (Same.tq (s4.trans t1) hI), fun l hl => ?_⟩
          have t2 := Same.new (o := .lst (ks.map V.int)) hl
          refine ⟨p1, l, _, _, rfl, rfl, t2 _ _ upd_same, upd_same, (by rw [List.length_map, e16]; omega), fun p2 hp2 => ?_⟩
          have t3 := Same.new (o := .lst (cutV (R.map V.int) none (some (at' : Int)) ++ ks.map V.int)) hp2
          refine ⟨_, rfl, _, rfl, _, rfl, D, _, rfl, SqL.of (t3 _ _ (t2 _ _ (t1 _ _ hL))), fun p3 hp3 => ?_⟩
          have t4 := Same.new (o := .lst (cutV (R.map V.int) (some (at' : Int)) none)) hp3
          refine ⟨p2, p3, _, _, rfl, rfl, t4 _ _ upd_same, upd_same, (by rw [List.length_append, List.length_map, e16]; omega), fun p4 hp4 => ?_⟩
          have t5 := Same.new (o := .lst ((cutV (R.map V.int) none (some (at' : Int)) ++ ks.map V.int) ++ cutV (R.map V.int) (some (at' : Int)) none)) hp4
          have sAll : Same H _ := s4.trans (t1.trans (t2.trans (t3.trans (t4.trans t5))))
          have sB : Same H _ := s4.trans (t1.trans (t2.trans (t3.trans t4)))
          refine k hm p4 _ (sB.free hp4) sAll ?_
          rw [upd_same, cut_to, cut_from]
          unfold doMove
          rw [hR, ← hat, List.map_append, List.map_append, List.map_take, List.map_drop]
        refine ⟨_, rfl, rfl, _, rfl, ?_⟩
        rw [show decide (V.int b = V.int 0) = decide (b = 0) from by rw [dec_int]; rfl]
        refine ite2 (fun c => ?_) (fun c => ?_)
        · have hb : b = 0 := of_decide_eq_true c
          exact fin 0 _ (by rw [if_pos hb]) rfl
        · have hb : ¬ b = 0 := fun e => c (decide_eq_true e)
          have hmem : b ∈ R := by
            rcases ok.2.2.2 with h | ⟨h1, h2⟩
            · exact absurd h hb
            · rw [← hR]
              exact List.mem_filter.mpr ⟨h1, decide_eq_true h2⟩
          refine ⟨_, rfl, .inl ⟨rfl, _, SqL.of hL⟩, _, rfl, D, _, .int b, R.idxOf b, .int b, rfl, rfl, SqL.of hL, rfl, all_flat R, ?_, ?_, ?_, ?_⟩
          · rw [List.getElem?_map, idx_at hmem]; rfl
          · rw [eqV_int]; exact decide_eq_true rfl
          · intro m' z' hm hz
            rw [List.getElem?_map] at hz
            cases hq2 : R[m']? with
            | none => rw [hq2] at hz; cases hz
            | some z =>
              rw [hq2] at hz
              have : z' = V.int z := (Option.some.inj hz).symm
              rw [this, eqV_int]
              exact decide_eq_false (idx_first hm hq2)
          · refine ⟨_, _, rfl, rfl, ?_⟩
            exact fin (R.idxOf b + 1) _ (by rw [if_neg hb]) rfl
end
theorem But.tq {d a : Addr} {H H' : Hp} {K : PySem.W.Frag} {xs : List V} (D : DeckAt H d) (s : But d H H') (h : SqT K H a xs) : SqT K H' a xs := by
  obtain ⟨x, y, hd, _⟩ := D
  rcases h with (h | ⟨o, h⟩) | h
  · exact .inl (.inl (s _ _ (ne_of h hd (by intro z; cases z)) h))
  · exact .inl (.inr ⟨o, s _ _ (ne_of h hd (by intro z; cases z)) h⟩)
  · exact .inr h
mutual
/-- data is no deck -/
theorem DV.but {K : PySem.W.Frag} {d : Addr} {H H' : Hp} (D : DeckAt H d) (e : But d H H') : ∀ {x : PyData} {v : V}, DV K H v x → DV K H' v x
  | _, _, .non => .non
  | _, _, .bl b => .bl b
  | _, _, .int i => .int i
  | _, _, .str x => .str x
  | _, _, .lst h t => .lst (e.seq D h) (DVs.but D e t)
  | _, _, .tup h t => .tup (e.tq D h) (DVs.but D e t)
  | _, _, .dk0 h => .dk0 (e _ _ (by
      obtain ⟨x, y, hd, _⟩ := D
      exact ne_of h hd (by intro z; cases z)) h)
theorem DVs.but {K : PySem.W.Frag} {d : Addr} {H H' : Hp} (D : DeckAt H d) (e : But d H H') : ∀ {ds : List PyData} {vs : List V}, DVs K H vs ds → DVs K H' vs ds
  | _, _, .nil => .nil
  | _, _, .cons p t => .cons (DV.but D e p) (DVs.but D e t)
end
/-! ### tuples of any data: ==, +, slices -/
def rEqT0 (K : PySem.W.Frag) : R2 := fun x y H Q => ∃ a b xs, x = .ref a ∧ y = .ref b ∧ SqT K H a xs ∧ SqT K H b [] ∧ Q (.bl xs.isEmpty) H
def rCatU (K : PySem.W.Frag) : R2 := fun x y H Q => ∃ a b xs ys, x = .ref a ∧ y = .ref b ∧ SqT K H a xs ∧ SqT K H b ys ∧ xs.length + ys.length ≤ sizeLine ∧ ∀ p H', Same H H' → SqT K H' p (xs ++ ys) → Q (.ref p) H'
def rSlU (K : PySem.W.Frag) : V → Option Int → Option Int → Hp → VK → Prop := fun x lo hi H Q => ∃ a xs, x = .ref a ∧ SqT K H a xs ∧ ∀ p H', Same H H' → SqT K H' p (cutV xs lo hi) → Q (.ref p) H'
section
variable {X : Cx}
theorem op_eqT0 (hu : X.A.units < cLine) : OpR X (compareOp .Eq) (rEqT0 X.K) := by
  intro pins s σ H x y v u Q I rx ry h
  obtain ⟨a, b, xs, rfl, rfl, ha, hb, q⟩ := h
  cases rx
  cases ry
  obtain ⟨its, r1, p1, _⟩ := I.tuple ha
  obtain ⟨its2, r2, p2, _⟩ := I.tuple hb
  cases r2
  refine SeqAt.eq_tupleAt (e := fun _ => true) p1 p2 hu (fun j h1 h2 => absurd h2 (Nat.not_lt_zero j)) ⟨.bl xs.isEmpty, H, I, ?_, q⟩
  have hl := r1.length
  show Value.bool _ = Value.bool _
  congr 1
  have e : min its.toArray.size ([] : List Value).toArray.size = 0 := Nat.min_zero _
  rw [e]
  cases xs with
  | nil => cases r1; rfl
  | cons y l => cases r1; rfl
theorem op_catU : OpR X (binaryOp .Add) (rCatU X.K) := by
  intro pins s σ H x y v u Q I rx ry h
  obtain ⟨a, b, xs, ys, rfl, rfl, ha, hb, hz, q⟩ := h
  refine op_catA pins s σ H _ _ v u Q I rx ry ⟨a, b, xs, ys, rfl, rfl, ha, hb, hz, fun e => ?_, fun _ e => ?_, fun _ _ p hp => ?_⟩
  · subst e
    exact q b H (Same.refl H) hb
  · subst e
    exact q a H (Same.refl H) (by rw [List.append_nil]; exact ha)
  · exact q p _ (Same.new hp) (SqT.of upd_same)
theorem sl_tupU : SlR X (rSlU X.K) := by
  intro pins s σ H x v vl vu lo hi sl Q I rx hs pl pu h
  obtain ⟨a, xs, rfl, hx, q⟩ := h
  refine sl_tupA pins s σ H _ v vl vu lo hi sl Q I rx hs pl pu ⟨a, xs, rfl, hx, fun e => ?_, fun _ p hp => ?_⟩
  · refine q a H (Same.refl H) ?_
    unfold cutV
    rw [e.1, e.2, List.drop_zero, Nat.sub_zero, List.take_length]
    exact hx
  · exact q p _ (Same.new hp) (SqT.of upd_same)
end
/-! ### parts of data -/
theorem DVs.take {K : PySem.W.Frag} {H : Hp} : ∀ {vs : List V} {ds : List PyData} (n : Nat), DVs K H vs ds → DVs K H (vs.take n) (ds.take n)
  | _, _, 0, _ => .nil
  | _, _, _ + 1, .nil => .nil
  | _, _, n + 1, .cons p t => .cons p (DVs.take n t)
theorem DVs.drop {K : PySem.W.Frag} {H : Hp} : ∀ {vs : List V} {ds : List PyData} (n : Nat), DVs K H vs ds → DVs K H (vs.drop n) (ds.drop n)
  | _, _, 0, h => h
  | _, _, _ + 1, .nil => .nil
  | _, _, n + 1, .cons p t => DVs.drop n t
theorem DVs.append {K : PySem.W.Frag} {H : Hp} : ∀ {vs ws : List V} {ds es : List PyData}, DVs K H vs ds → DVs K H ws es → DVs K H (vs ++ ws) (ds ++ es)
  | _, _, _, _, .nil, h => h
  | _, _, _, _, .cons p t, h => .cons p (DVs.append t h)
theorem okAll_append : ∀ A B : List PyData, okAll (A ++ B) = (okAll A && okAll B)
  | [], B => by rw [List.nil_append, okAll, Bool.true_and]
  | x :: A, B => by rw [List.cons_append, okAll, okAll_append A B, okAll, Bool.and_assoc]
theorem szAll_append : ∀ A B : List PyData, szAll (A ++ B) = szAll A + szAll B
  | [], B => by rw [List.nil_append, szAll, Nat.zero_add]
  | x :: A, B => by rw [List.cons_append, szAll, szAll_append A B, szAll]; omega
theorem depthAll_append : ∀ A B : List PyData, PyData.depthAll (A ++ B) = max (PyData.depthAll A) (PyData.depthAll B)
  | [], B => by rw [List.nil_append, PyData.depthAll]; omega
  | x :: A, B => by rw [List.cons_append, PyData.depthAll, depthAll_append A B, PyData.depthAll]; omega
theorem parted {ds : List PyData} {k : Nat} {x : PyData} (h : ds[k]? = some x) : ds = ds.take k ++ x :: ds.drop (k + 1) := by
  have hk := lt_of_some h
  have e : ds[k] = x := by rw [List.getElem?_eq_getElem hk] at h; exact Option.some.inj h
  have := List.take_append_drop k ds
  rw [List.drop_eq_getElem_cons hk, e] at this
  exact this.symm
theorem szAll_len : ∀ ds : List PyData, ds.length ≤ szAll ds
  | [] => Nat.zero_le _
  | x :: r => by
    have := szAll_len r
    rw [szAll, List.length_cons]
    omega
theorem seqIndex_nat {k n : Nat} (h : k < n) : seqIndex? (k : Int) n = some k := by
  unfold seqIndex?
  have h1 : ¬ ((k : Int) < 0) := by omega
  simp only [h1, if_false]
  have h2 : (decide (0 ≤ (k : Int)) && decide ((k : Int) < (n : Int))) = true := by
    rw [Bool.and_eq_true]
    exact ⟨decide_eq_true (by omega), decide_eq_true (by omega)⟩
  rw [if_pos h2]
  simp
theorem erase_map (js : List Int) (k : Nat) : (js.map V.int).eraseIdx k = (js.eraseIdx k).map V.int := by
  exact L2.erase_mapI js k
section
variable {P : Program} {w : World} {K : PySem.W.Frag} {mg : Str → Option Value} {base : Heap}
/-! ### the things in a drawn sequence -/
def spShuf (K : PySem.W.Frag) : Sp := fun vs H Q _ => ∃ (d t : Addr) (js : List Int), vs = [.ref d, .ref t] ∧ DeckAt H d ∧ SqL K H t (js.map V.int) ∧ js.length ≤ 300 ∧
  ∀ (p : Addr) (ks : List Int) (H' : Hp), H p = none → But d H H' → DeckAt H' d → H' p = some (.lst (ks.map V.int)) → ks.Perm js → Q (.ref p) H'
structure TxtS (mg : Str → Option Value) : Prop where
  len : mg "len" = none
  list : mg "list" = none
theorem scShuf : FnScope ["deck", "things", "left", "found"] ["deck", "things"] (defScope sShuf) := ⟨rfl, rfl, rfl, by decide +kernel, rfl, by decide +kernel, by decide +kernel⟩
theorem ok_shuf {f fD : Addr} {fd fdD : FuncData} (F : Fun K "_law_shuffled" "_law_shuffled" sShuf f fd) (T : TxtS mg) (FD : Fun K "_law_draw" "_law_draw" sDraw fD fdD) (bD : L2.Binds K fdD ["deck", "size"] []) (mD : mg "_law_draw" = some (.ref fD)) :
    FnOk P w K mg base CX0 2 f fd ["deck", "things"] (spShuf K) := by
  have GD : FnOk P w K mg base CX0 1 fD fdD ["deck", "size"] spDraw := ok_draw FD
  refine F.ok scShuf (fun vs H Q E h => ?_) (fun cdv A outer s H vs Q E hr h => ?_)
  · obtain ⟨d, t, js, rfl, _⟩ := h
    rfl
  · obtain ⟨d, t, js, rfl, D, hT, hj, k⟩ := h
    have h64 := hu64 hr
    refine ⟨_, pss_cons (ps_par (i := 2) (j := 3) (by rfl) scShuf.nd rfl rfl (by decide) rfl rfl (pa_cons (pe_callTy call_list_of (by rfl) T.list (by decide +kernel) (pa_cons (pv 1) pa_nil)) (pa_cons (pe_lst pa_nil) pa_nil)) (by rfl))
      (pss_cons (ps_while PassesOwn.never (pt_cmpR (op_neL h64) (pv 2) (pe_lst pa_nil) (nomark _))
        (pss_one (ps_expr (pe_bm PySem.F.plainAttrs_list PySem.F.slot_list_append PySem.F.type_list_append mt_append (pv 3) (pa_cons
          (pe_bm PySem.F.plainAttrs_list PySem.F.slot_list_pop PySem.F.type_list_pop mt_popAt (pv 2) (pa_cons (pe_call GD hr rfl mD FD.kp bD .nil pass0 (pa_cons (pv 0) (pa_cons (pe_callB call_len_seq (by rfl) T.len PySem.boot_len (pa_cons (pv 2) pa_nil)) pa_nil))) pa_nil)) pa_nil)))))
      (pss_one (ps_ret (pv 3)))), ?_⟩
    refine ⟨_, rfl, t, _, rfl, .inl hT, fun l hl => ?_⟩
    have F1 : Fs d H [(l, .lst (js.map V.int))] _ := (Fs.start D).new hl nl
    refine ⟨Nat.zero_le _, fun r hr' => ?_⟩
    have F2 := F1.new hr' (o := .lst []) nl
    have hr0 : H r = none := Same.free (Same.new (o := .lst (js.map V.int)) hl) hr'
    have nlr : l ≠ r := ne_of_none F1.g0 hr'
    refine ⟨_, _, rfl, ?_⟩
    refine ⟨fun m σ H' => ∃ (ls fs : List Int), σ = [some (.ref d), some (.ref t), some (.ref l), some (.ref r)] ∧ m = ls.length ∧ (fs ++ ls).Perm js ∧ But d H H' ∧ DeckAt H' d ∧ H' l = some (.lst (ls.map V.int)) ∧ H' r = some (.lst (fs.map V.int)),
      ⟨_, js, [], rfl, rfl, List.Perm.refl _, F2.1, F2.deck, F2.g1, F2.g0⟩, ?_⟩
    rintro m σ H1 ⟨ls, fs, rfl, rfl, hp, B1, D1, hL, hR⟩
    have hlen : fs.length + ls.length = js.length := by have := hp.length_eq; rw [List.length_append] at this; exact this
    refine ⟨_, rfl, Nat.zero_le _, fun q hq => ?_⟩
    have s2 : Same H1 (upd H1 q (.lst [])) := Same.new hq
    refine ⟨l, q, ls, [], rfl, rfl, SqL.of (s2 _ _ hL), SqL.of upd_same, _, rfl, ?_⟩
    by_cases h0 : ls = []
    · subst h0
      refine iteF ?_
      rw [List.append_nil] at hp
      exact ⟨_, rfl, k r fs _ hr0 (B1.trans (But.of s2)) (D1.same s2) (s2 _ _ hR) hp⟩
    · rw [decide_eq_false h0]
      refine iteT ?_
      have hpos : 0 < ls.length := List.length_pos_iff.mpr h0
      refine ⟨fun σ' H' => ∃ m', m' < ls.length ∧ ∃ (ls fs : List Int), σ' = [some (.ref d), some (.ref t), some (.ref l), some (.ref r)] ∧ m' = ls.length ∧ (fs ++ ls).Perm js ∧ But d H H' ∧ DeckAt H' d ∧ H' l = some (.lst (ls.map V.int)) ∧ H' r = some (.lst (fs.map V.int)), fun _ _ z => z, ?_⟩
      have D2 := D1.same s2
      refine ⟨_, rfl, .inl ⟨rfl, _, SqL.of (s2 _ _ hR)⟩, _, rfl, .inl ⟨rfl, _, SqL.of (s2 _ _ hL)⟩, _, rfl, _, rfl, l, _, rfl, .inl (SqL.of (s2 _ _ hL)), d, _, rfl, D2, by rw [List.length_map]; omega, by rw [List.length_map]; omega, fun z H3 z0 z1 D3 B3 => ?_⟩
      rw [List.length_map] at z1
      obtain ⟨i, rfl⟩ : ∃ m : Nat, z = (m : Int) := ⟨z.toNat, by omega⟩
      have hi : i < ls.length := by omega
      have hL3 := B3.lst D2 (s2 _ _ hL)
      have hR3 := B3.lst D2 (s2 _ _ hR)
      have hy : ls[i]? = some ls[i] := List.getElem?_eq_getElem hi
      refine ⟨l, _, _, i, .int ls[i], rfl, rfl, hL3, by omega, by omega, seqIndex_nat (by rw [List.length_map]; exact hi), by rw [List.getElem?_map, hy]; rfl, ?_⟩
      rw [erase_map]
      have hR4 : upd H3 l (.lst ((ls.eraseIdx i).map V.int)) r = some (.lst (fs.map V.int)) := by rw [upd_ne nlr.symm]; exact hR3
      refine ⟨r, _, _, rfl, rfl, hR4, by rw [List.length_map]; exact small1000 (by omega), ?_⟩
      have hel : (ls.eraseIdx i).length + 1 = ls.length := by rw [List.length_eraseIdx_of_lt hi]; omega
      refine ⟨(ls.eraseIdx i).length, by omega, ls.eraseIdx i, fs ++ [ls[i]], rfl, rfl, ?_, ?_, ?_, ?_, ?_⟩
      · rw [List.append_assoc]
        exact (List.Perm.append_left fs (L2.erase_perm ls i _ hy)).trans hp
      · intro b o hb e
        have nbl : b ≠ l := ne_of_none e hl
        have nbr : b ≠ r := ne_of_none e hr0
        rw [upd_ne nbr, upd_ne nbl]
        exact B3 b o hb (s2 _ _ (B1 b o hb e))
      · obtain ⟨x, y, hd, rr⟩ := D3
        have n1 : d ≠ l := (ne_of hL3 hd (nl _ _)).symm
        have n2 : d ≠ r := (ne_of hR3 hd (nl _ _)).symm
        exact ⟨x, y, by rw [upd_ne n2, upd_ne n1]; exact hd, rr⟩
      · rw [upd_ne nlr, upd_same]
      · rw [upd_same, List.map_append]; rfl
end
section
variable {X : Cx} {K : PySem.W.Frag} {T id : String} {name : Str} {r : V → List V → Hp → VK → Prop} {o e : Expr} {es : List Expr} {to : TE} {t : TA} {apos cpos : Pos}
/-- a method call, the context's K told apart -/
theorem pe_bmK (hK : X.K = K) (pa : PlainAttrs T) (slot : Slot T name id) (hty : typeOf (.builtin id) = pure (.type "method_descriptor")) (hm : MtR X id r) (ho : PE X o to) (ha : PA X (e :: es) t)
    (q1 : attributeBase o name X.env (eval o X.env) = eval o X.env := by rfl)
    (q2 : ((backTo cpos (starEach (e :: es) X.env)).all (fun x => !x.1) && (backToKw cpos (keywordEach [] X.env)).all (fun x => x.1.isSome) && decide ((e :: es).length + ([] : List Keyword).length + (if ([] : List Keyword).isEmpty then 0 else 1) < 30)) = true := by rfl)
    (q3 : (apos.endLine == cpos.line) = true := by rfl) (q4 : starEach (e :: es) X.env = (false, eval e X.env) :: starEach es X.env := by rfl) (q5 : (backTo cpos (starEach es X.env)).any (·.1) = false := by rfl) :
    PE X (.Call (.Attribute o name apos) (e :: es) [] cpos) (tBM K T r to t) := by
  subst hK
  exact pe_bm pa slot hty hm ho ha q1 q2 q3 q4 q5
end
section
variable {P : Program} {w : World} {K : PySem.W.Frag} {mg : Str → Option Value} {base : Heap} {C fI : Addr}
structure TxtR (K : PySem.W.Frag) (mg : Str → Option Value) (C C0 CR : Addr) : Prop where
  isi : mg "isinstance" = none
  g0 : mg "HandError" = some (.ref C0)
  gR : mg "BadRule" = some (.ref CR)
  te : PySem.W.exmOne K (.ref C) (.ref C0) = some true
  x : ExcC K C
  yes : PySem.W.kitOne K (.ref C) (.ref C) = some true
  no : PySem.W.kitOne K (.ref C) (.ref CR) = some false
def spRefd (K : PySem.W.Frag) : Sp := fun vs H Q _ => ∃ (o : Addr) (js : List Int) (v : V) (d : PyData), vs = [.ref o, v] ∧ SqL K H o (js.map V.int) ∧ js.length ≤ 4000 ∧ DV K H v d ∧ smallM d ∧
  ∀ (p : Addr) (H' : Hp), H p = none → Same H H' → H' p = some (.lst (if isMove js d then [] else [v])) → Q (.ref p) H'
theorem scRefd : FnScope ["line", "thing", "caught", "e"] ["line", "thing"] (defScope sRefused) := ⟨rfl, rfl, rfl, by decide +kernel, rfl, by decide +kernel, by decide +kernel⟩
theorem ok_refd {f fD C0 CR : Addr} {fd fdD : FuncData} (F : Fun K "_law_refused" "_law_refused" sRefused f fd) (T : TxtR K mg C C0 CR) (L : PySem.LowX.LowTxt K mg C fI)
    (GD : FnOk P w K mg base (L2.CX P w) 4 fD fdD ["order", "move"] (spDoX K C)) (kD : PySem.W.keepIn K (.ref fD) = true) (bD : L2.Binds K fdD ["order", "move"] []) (mD : mg "do_move" = some (.ref fD)) :
    FnOk P w K mg base CX0 5 f fd ["line", "thing"] (spRefd K) := by
  refine F.ok scRefd (fun vs H Q E h => ?_) (fun cdv A outer s H vs Q E hr h => ?_)
  · obtain ⟨o, js, v, d, rfl, _⟩ := h
    rfl
  · obtain ⟨o, js, v, d, rfl, hO, hj, hd, hsm, k⟩ := h
    refine ⟨_, pss_cons (ps_set (i := 2) scRefd.nd rfl (Or.inl rfl) (pe_lst pa_nil))
      (pss_cons (ps_try_as (i := 3) (Wout := fun _ _ _ _ => False) rfl rfl scRefd.nd rfl rfl ⟨rfl, by decide, Or.inl T.g0⟩ takes0
        (fun W pn xe tk _ => pss_one (ps_expr (pe_callS GD hr rfl mD kD bD (fun σ => passAt tk σ) (by exact (pa_cons (pv 0) (pa_cons (pv 1) pa_nil))))))
        (fun a oe cls d pn hz hf => by
          exact pss_one (ps_expr (pe_bmK (K := K) rfl PySem.F.plainAttrs_list PySem.F.slot_list_append PySem.F.type_list_append mt_append (pv 2) (pa_cons
            (pe_ifExp (PW.pt (pw_and (pt_val (pe_callB (call_isX (K := K) rfl T.x hz hf) (by rfl) T.isi (by decide +kernel) (pa_cons (pv 3) (pa_cons (pe_glob (v := .ref C) rfl L.gC rfl) pa_nil))))
              (pw_and1 (pt_not (pt_val (pe_callB (call_isX (K := K) rfl T.x hz hf) (by rfl) T.isi (by decide +kernel) (pa_cons (pv 3) (pa_cons (pe_glob (v := .ref CR) rfl T.gR rfl) pa_nil))))))))
              (pe_byLow L hz hf (pv 3)) pe_non) pa_nil)))))
      (pss_one (ps_ret (pv 2)))), ?_⟩
    refine ⟨Nat.zero_le _, fun l hl => ?_⟩
    have s1 := Same.new (o := .lst []) hl
    refine ⟨_, rfl, _, rfl, o, js, v, d, rfl, Same.sq s1 hO, hj, hd.same s1, hsm, fun hm p H' hp hs hL => ?_, fun hm e H' hs he => ?_⟩
    · refine ⟨_, rfl, k l H' hl (s1.trans hs) ?_⟩
      rw [hm, if_pos rfl]
      exact hs _ _ upd_same
    · have hl2 : upd H' e (.xd [("value", v)]) l = some (.lst []) := by
        rw [upd_ne (ne_of_none (hs _ _ upd_same) he)]
        exact hs _ _ upd_same
      refine ⟨true, T.te, fun _ a0' _ => ?_, fun q => Bool.noConfusion q⟩
      refine ⟨_, rfl, .inl ⟨rfl, _, SqL.of hl2⟩, ?_⟩
      refine ⟨_, rfl, ⟨.ref C, .ref C, true, e, [("value", v)], rfl, fun u q => q, rfl, rfl, upd_same, T.yes, _, rfl, iteT ?_⟩⟩
      refine ⟨_, rfl, ⟨.ref CR, .ref CR, false, e, [("value", v)], rfl, fun u q => q, rfl, rfl, upd_same, T.no, _, rfl, iteT ?_⟩⟩
      refine ⟨_, rfl, rfl, rfl, e, v, rfl, upd_same, l, _, _, rfl, rfl, hl2, small1000 (by decide), ?_⟩
      have s2 : Same H (upd (upd H' e (.xd [("value", v)])) l (.lst ([] ++ [v]))) := fun b u hb => by
        rw [upd_ne (ne_of_none hb hl)]
        exact (Same.new he) _ _ (hs _ _ (s1 _ _ hb))
      refine ⟨_, rfl, k l _ hl s2 ?_⟩
      rw [hm, if_neg Bool.false_ne_true]
      exact upd_same
end
theorem lc_sameL {K : PySem.W.Frag} {a : Addr} {xs : List V} {g : TG} {te : TE} {vs : List Nat} {σ : L2.St} {H1 : Hp} {D : Addr} {Qd : Hp → Prop} (ys : List V) (hl : ys.length = xs.length) (hsz : xs.length ≤ 1000000) (hT : SqL K H1 a xs) (hD : H1 D = none)
    (turn : ∀ (i : Nat) (x y : V) (H' : Hp) (R : VK), xs[i]? = some x → ys[i]? = some y → Same H1 H' → (∀ H4, Same H' H4 → R y H4) → g x (wipe σ vs) H' fun σ2 H2 => wipe σ2 vs = wipe σ vs ∧ te σ2 H2 R)
    (fin : ∀ H', Same H1 H' → H' D = some (.lst ys) → Qd H') :
    ∃ W : Nat → Nat → Hp → Prop, (∃ m, W 0 m (upd H1 D (.lst []))) ∧ ∀ (i m : Nat) (H : Hp), W i m H → (Itl K a).stop i H ∧ Qd H ∨ (Itl K a).go i H ∧ ∃ Nx : Hp → Prop, (∀ (H' : Hp), Nx H' → ∃ m', m' < m ∧ W (i + 1) m' H') ∧
      ∀ (x : V) (H' : Hp), (Itl K a).yld i H x H' → g x (wipe σ vs) H' fun σ2 H2 => wipe σ2 vs = wipe σ vs ∧ tYes σ2 H2 fun b H3 => if b = true then te σ2 H3 fun y H4 => ∃ acc, H4 D = some (.lst acc) ∧ acc.length < sizeLine ∧ Nx (upd H4 D (.lst (acc ++ [y]))) else Nx H3 := by
  refine lc_list (K := K) (a := a) (xs := xs) (fun i H' => Same H1 H' ∧ H' D = some (.lst (ys.take i))) ⟨Same.new hD, upd_same⟩ (fun i H' _ q => Same.sq q.1 hT) ?_ ?_
  · rintro i x H' hx ⟨s1, hL⟩
    have hi := lt_of_some hx
    have hy : ys[i]? = some ys[i] := List.getElem?_eq_getElem (by omega)
    refine turn i x ys[i] H' _ hx hy s1 fun H4 s2 => ⟨_, s2 _ _ hL, ?_, ?_, ?_⟩
    · rw [List.length_take, sizeLine_eq]; omega
    · intro b u hb
      rw [upd_ne (ne_of_none hb hD)]
      exact s2 _ _ (s1 _ _ hb)
    · rw [upd_same, take_snoc hy]
  · rintro H' ⟨s1, hL⟩
    rw [← hl, List.take_length] at hL
    exact fin H' s1 hL
/-- ids all right, no two alike -/
def idsL (ds : List PyData) : Bool := ds.all (inD 1 1000000) && decide (ds.map intOf).Nodup
def isOrderD : PyData → Bool
  | .list ds => idsL ds
  | _ => false
theorem inD_whole {lo hi : Int} : ∀ {d : PyData}, inD lo hi d = true → wholeD d = true
  | .int _, _ => rfl
  | .none, h => by cases h
  | .bool _, h => by cases h
  | .str _, h => by cases h
  | .list _, h => by cases h
  | .tuple _, h => by cases h
  | .dict _, h => by cases h
theorem all_inD_whole {lo hi : Int} {ds : List PyData} (h : ds.all (inD lo hi) = true) : ds.all wholeD = true := List.all_eq_true.mpr fun d hd => inD_whole (List.all_eq_true.mp h d hd)
/-- the law's own way: each stands once -/
theorem cnt_ints (k : Int) : ∀ ds : List PyData, ds.all wholeD = true → ds.countP (eqID k) = (ds.map intOf).count k
  | [], _ => rfl
  | d :: r, h => by
    rw [List.all_cons, Bool.and_eq_true] at h
    rw [List.countP_cons, List.map_cons, List.count_cons, cnt_ints k r h.2]
    obtain ⟨z, rfl⟩ : ∃ z, d = .int z := by cases d <;> first | exact ⟨_, rfl⟩ | cases h.1
    rfl
def difD (ds : List PyData) : Bool := ds.all fun d => inD 1 1000000 d && decide (ds.countP (eqID (intOf d)) = 1)
theorem difD_is (ds : List PyData) : difD ds = idsL ds := by
  unfold difD idsL
  by_cases h : ds.all (inD 1 1000000) = true
  · rw [h, Bool.true_and, Bool.eq_iff_iff, decide_eq_true_iff, List.all_eq_true]
    have hw := all_inD_whole h
    rw [List.nodup_iff_count]
    constructor
    · intro q a
      by_cases ha : a ∈ ds.map intOf
      · obtain ⟨d, hd, rfl⟩ := List.mem_map.mp ha
        have := q d hd
        rw [Bool.and_eq_true] at this
        have e := of_decide_eq_true this.2
        rw [cnt_ints _ ds hw] at e
        omega
      · rw [List.count_eq_zero.mpr ha]
        omega
    · intro q d hd
      rw [Bool.and_eq_true]
      refine ⟨List.all_eq_true.mp h d hd, decide_eq_true ?_⟩
      rw [cnt_ints _ ds hw]
      have h1 := q (intOf d)
      have h2 : 0 < (ds.map intOf).count (intOf d) := List.count_pos_iff.mpr (List.mem_map.mpr ⟨d, hd, rfl⟩)
      omega
  · have hf : ds.all (inD 1 1000000) = false := by simpa using h
    rw [hf, Bool.false_and]
    cases hh : ds.all fun d => inD 1 1000000 d && decide (ds.countP (eqID (intOf d)) = 1) with
    | false => rfl
    | true =>
      refine absurd (List.all_eq_true.mpr fun d hd => ?_) h
      have := List.all_eq_true.mp hh d hd
      rw [Bool.and_eq_true] at this
      exact this.1
theorem inV_bl2 (bs : List Bool) : inV (.bl false) (bs.map V.bl) = !bs.all id := by
  unfold inV
  rw [List.any_map]
  induction bs with
  | nil => rfl
  | cons a r ih =>
    rw [List.any_cons, ih, List.all_cons]
    cases a <;> rfl
theorem flat_bl2 (bs : List Bool) : (bs.map V.bl).all flatV = true := by
  induction bs with
  | nil => rfl
  | cons a r ih => exact ih
section
variable {P : Program} {w : World} {K : PySem.W.Frag} {mg : Str → Option Value} {base : Heap}
/-! ### is_order -/
def spIsOrder (K : PySem.W.Frag) : Sp := fun vs H Q _ => ∃ (x : V) (d : PyData), vs = [x] ∧ DV K H x d ∧ (∀ ds, d = .list ds → fewD ds) ∧ ∀ H', Same H H' → Q (.bl (isOrderD d)) H'
theorem scIsOrder : FnScope ["value", "row_id"] ["value"] (defScope sIsOrder) := ⟨rfl, rfl, rfl, by decide +kernel, rfl, by decide +kernel, by decide +kernel⟩
theorem ok_isOrder {f fI fD : Addr} {fd fdI fdD : FuncData} (F : Fun K "is_order" "is_order" sIsOrder f fd) (T : TxtV mg)
    (FD : Fun K "all_different" "all_different" sDiff fD fdD) (bD : L2.Binds K fdD ["numbers"] []) (mD : mg "all_different" = some (.ref fD))
    (GI : FnOk P w K mg base CX0 3 fI fdI ["value"] (spIsId K)) (kI : PySem.W.keepIn K (.ref fI) = true) (bI : L2.Binds K fdI ["value"] []) (mI : mg "is_id" = some (.ref fI)) :
    FnOk P w K mg base CX0 4 f fd ["value"] (spIsOrder K) := by
  have GD : FnOk P w K mg base CX0 1 fD fdD ["numbers"] (spDiff K) := ok_diff FD T
  refine F.ok scIsOrder (fun vs H Q E h => ?_) (fun cdv A outer s H vs Q E hr h => ?_)
  · obtain ⟨x, d, rfl, _⟩ := h
    rfl
  · obtain ⟨x, d, rfl, hd, hln, k⟩ := h
    have hr1 : Room 1 _ := hr.mono (by decide)
    refine ⟨_, pss_cons (ps_if (pt_not (pt_val (pe_callB call_isi (by rfl) T.isi (by decide +kernel) (pa_cons (pv 0) (pa_cons (pe_bltn (v := .ty "list") (by rfl) T.list boot_list rfl) pa_nil))))) (pss_one (ps_ret pe_bl)) pss_nil)
      (pss_one (ps_ret (pe_and (pe_callB (cr_all rfl) (by rfl) T.all (by decide +kernel) (pa_cons
          (pe_lc (own := [("row_id", 1)]) (g := gName 1) rfl scIsOrder.nd (pi_list (pv 0)) (blkOk_by (N := ["value", "row_id"]) (sc := defScope sIsOrder) (by decide +kernel)) (fun _ _ _ _ _ => pg_name (i := 1) scIsOrder.nd rfl (Or.inl rfl)) (fun _ _ _ _ _ => pts_nil)
            (fun _ _ _ _ _ => pe_call GI hr rfl mI kI bI .nil pass0 (pa_cons (pv 1) pa_nil))) pa_nil)) (pe_one (pe_call GD hr1 rfl mD FD.kp bD .nil pass0 (pa_cons (pv 0) pa_nil)))))), ?_⟩
    obtain ⟨nm, ty, k1, k2⟩ := hd.kit
    refine ⟨_, rfl, _, _, _, _, _, rfl, .ty _, ty, k2, _, rfl, ?_⟩
    cases hd with
    | lst hT hs =>
      rename_i a vs ds
      have hl := hs.length
      obtain ⟨hd6, hd4⟩ := hln ds rfl
      refine iteF ⟨_, rfl, a, rfl, ⟨_, hT⟩, fun D hD => ?_⟩
      refine lc_sameL (ds.map fun e => V.bl (inD 1 1000000 e)) (by rw [List.length_map, hl]) (by omega) hT hD (fun i x y H' R hx hy s1 kR => ⟨rfl, ?_⟩) fun H1 s1 hL => ?_
      · obtain ⟨e, he, hv⟩ := hs.at hx
        rw [List.getElem?_map, he] at hy
        obtain rfl := Option.some.inj hy
        refine ⟨_, rfl, x, rfl, (hv.same s1).ty, ?_⟩
        rw [hv.inD]
        exact kR H' (Same.refl H')
      refine ⟨D, ds.map (inD 1 1000000), rfl, SqL.of (by rw [List.map_map]; exact hL), _, rfl, ?_⟩
      have eall : (ds.map (inD 1 1000000)).all id = ds.all (inD 1 1000000) := by rw [List.all_map]; rfl
      rw [eall]
      have kk : ∀ H', Same H H' → Q (.bl (ds.all (inD 1 1000000) && decide (ds.map intOf).Nodup)) H' := k
      cases hA : ds.all (inD 1 1000000) with
      | false =>
        have := kk H1 s1
        rw [hA] at this
        exact iteF this
      | true =>
        have ev := whole_all hs (all_inD_whole hA)
        refine iteT ⟨_, rfl, a, ds.map intOf, rfl, .inl (by rw [← ev]; exact Same.sq s1 hT), by rw [List.length_map]; exact hd4 (all_inD_whole hA), fun H5 s5 => ?_⟩
        have := kk H5 (s1.trans s5)
        rw [hA] at this
        exact this
    | _ => exact iteT (k H (Same.refl H))
/-! ### the law's own ids -/
theorem scLawId : FnScope ["thing"] ["thing"] (defScope sLawIsId) := ⟨rfl, rfl, rfl, by decide +kernel, rfl, by decide +kernel, by decide +kernel⟩
theorem ok_lawId {f : Addr} {fd : FuncData} (F : Fun K "_law_is_id" "_law_is_id" sLawIsId f fd) (T : TxtV mg) : FnOk P w K mg base CX0 1 f fd ["thing"] (spIsId K) := by
  refine F.ok scLawId (fun vs H Q E h => ?_) (fun cdv A outer s H vs Q E hr h => ?_)
  · obtain ⟨x, rfl, _⟩ := h
    rfl
  · obtain ⟨x, rfl, ⟨nm, ty, hn⟩, k⟩ := h
    refine ⟨_, pss_one (ps_ret (pe_and (pe_callB call_isi (by rfl) T.isi (by decide +kernel) (pa_cons (pv 0) (pa_cons (pe_bltn (v := .ty "int") (by rfl) T.int boot_int rfl) pa_nil)))
      (pe_and (pe_not (pe_callB call_isi (by rfl) T.isi (by decide +kernel) (pa_cons (pv 0) (pa_cons (pe_bltn (v := .ty "bool") (by rfl) T.bool boot_bool rfl) pa_nil))))
      (pe_one (pe_chain op_le op_le pe_int (pv 0) (pe_op op_pow pe_int pe_int)))))), ?_⟩
    refine ⟨_, rfl, ?_⟩
    rcases hn with ⟨rfl, rfl⟩ | ⟨rfl, b, rfl⟩ | ⟨rfl, i, rfl⟩ | ⟨rfl, z, rfl⟩ | ⟨rfl, a, rfl⟩ | ⟨rfl, a, rfl⟩ | ⟨rfl, a, rfl⟩
    · exact ⟨_, _, _, _, false, rfl, .ty _, ty, kit_ty (by decide +kernel), _, rfl, iteF k⟩
    · exact ⟨_, _, _, _, true, rfl, .ty _, ty, kit_ty (by decide +kernel), _, rfl, iteT ⟨_, rfl, _, _, _, _, true, rfl, .ty _, ty, kit_ty (by decide +kernel), _, rfl, _, rfl, iteF k⟩⟩
    · refine ⟨_, _, _, _, true, rfl, .ty _, ty, kit_ty (by decide +kernel), _, rfl, iteT ⟨_, rfl, _, _, _, _, false, rfl, .ty _, ty, kit_ty (by decide +kernel), _, rfl, _, rfl, iteT ?_⟩⟩
      refine ⟨_, rfl, _, _, rfl, rfl, _, rfl, ?_⟩
      have k' : Q (.bl (decide (1 ≤ i) && decide (i ≤ 1000000))) H := k
      by_cases h1 : 1 ≤ i
      · rw [decide_eq_true h1] at k' ⊢
        refine iteT ⟨_, _, rfl, rfl, ⟨by decide, by decide, by decide⟩, _, _, rfl, rfl, ?_⟩
        rw [pow6]
        exact k'
      · rw [decide_eq_false h1] at k' ⊢
        exact iteF k'
    · exact ⟨_, _, _, _, false, rfl, .ty _, ty, kit_ty (by decide +kernel), _, rfl, iteF k⟩
    · exact ⟨_, _, _, _, false, rfl, .ty _, ty, kit_ty (by decide +kernel), _, rfl, iteF k⟩
    · exact ⟨_, _, _, _, false, rfl, .ty _, ty, kit_ty (by decide +kernel), _, rfl, iteF k⟩
    · exact ⟨_, _, _, _, false, rfl, .ty _, ty, kit_ty (by decide +kernel), _, rfl, iteF k⟩
end
/-! ### tuples of which it is known that they have no dict of their own (a method may be called on them) -/
def FzT (H : Hp) (a : Addr) (xs : List V) : Prop := ∃ o : Obj, o.dict = none ∧ H a = some (.frz o (.tup xs))
theorem FzT.sq {K : PySem.W.Frag} {H : Hp} {a : Addr} {xs : List V} (h : FzT H a xs) : SqT K H a xs := let ⟨o, _, e⟩ := h; .inl (.inr ⟨o, e⟩)
theorem FzT.same {H H' : Hp} {a : Addr} {xs : List V} (s : Same H H') (h : FzT H a xs) : FzT H' a xs := let ⟨o, d, e⟩ := h; ⟨o, d, s _ _ e⟩
theorem FzT.but {d : Addr} {H H' : Hp} {a : Addr} {xs : List V} (D : DeckAt H d) (s : But d H H') (h : FzT H a xs) : FzT H' a xs := by
  obtain ⟨o, q, e⟩ := h
  obtain ⟨x, y, hd, _⟩ := D
  exact ⟨o, q, s _ _ (ne_of e hd (by intro z; cases z)) e⟩
theorem FzT.mk {H : Hp} {a : Addr} {xs : List V} {o : Obj} (h : o.dict = none) : FzT (upd H a (.frz o (.tup xs))) a xs := ⟨o, h, upd_same⟩
/-- a tuple's display -/
def tTupF (t : TA) : TE := fun σ H Q => t σ H fun xs H1 => xs.length ≤ sizeLine ∧ ∀ (p : Addr) (o : Obj), H1 p = none → o.dict = none → Q (.ref p) (upd H1 p (.frz o (.tup xs)))
def rTupF (K : PySem.W.Frag) : List V → Hp → VK → Prop := fun xs H Q => ∃ (p : Addr) (ys : List V), xs = [.ref p] ∧ SqL K H p ys ∧ ∀ (l : Addr) (o : Obj), H l = none → o.dict = none → Q (.ref l) (upd H l (.frz o (.tup ys)))
def tBMF (r : V → List V → Hp → VK → Prop) (to : TE) (t : TA) : TE := fun σ H Q => to σ H fun x H1 => (∃ a xs, x = .ref a ∧ FzT H1 a xs) ∧ t σ H1 fun vs H2 => r x vs H2 Q
section
variable {X : Cx} {es : List Expr} {t : TA} {pos : Pos}
theorem pe_tupF {x1} (h : PA X es t) : PE X (.Tuple es x1 pos) (tTupF t) := by
  constructor
  intro pins s σ H Q I hq
  refine wpAny_Tuple_spliced (thn (h.run pos pins s σ H _ I hq) fun us s1 ⟨xs, H1, I1, rv, hz, q⟩ => ⟨by rw [← rv.length]; exact hz, ?_⟩)
  have free : H1 s1.heap.objs.size = none := I1.hok.fresh (Nat.le_refl _)
  have got : (s1.heap.push { cls := .type "tuple", data := .seq us.toArray }).get? s1.heap.objs.size = some { cls := .type "tuple", data := .seq us.toArray } := Heap.get?_push_size _ rfl
  refine ⟨.ref s1.heap.objs.size, upd H1 s1.heap.objs.size (.frz { cls := .type "tuple", data := .seq us.toArray } (.tup xs)), I1.laid (t' := s1.toks) (fun b u e => Heap.get?_push_of_some _ e) (Nat.le_refl _) ?_, rfl, q _ _ free rfl⟩
  exact ⟨got, hz, us, rv, ⟨_, got, rfl, _, rfl⟩⟩
theorem call_tupleF : CallR X (.type "tuple") (rTupF X.K) := by
  intro pins s σ H xs us Q I r h
  obtain ⟨p, ys, rfl, hq, q⟩ := h
  rw [Vals.ref1 r]
  obtain ⟨its, rv, pl, hz⟩ := I.list hq
  have hlen := rv.length
  refine call_tuple_list pl.isList (fun h' kp => ?_) (by simp only [List.size_toArray] <;> omega)
  have I1 : Inv X pins σ H { s with heap := h' } := I.kept (t' := s.toks) kp
  have got : (h'.push { cls := .type "tuple", data := .seq its.toArray }).get? h'.objs.size = some { cls := .type "tuple", data := .seq its.toArray } := Heap.get?_push_size _ rfl
  have I2 : Inv X pins σ (upd H h'.objs.size (.frz { cls := .type "tuple", data := .seq its.toArray } (.tup ys))) { s with heap := h'.push { cls := .type "tuple", data := .seq its.toArray } } :=
    I1.laid (t' := s.toks) (fun b u e => Heap.get?_push_of_some _ e) (Nat.le_refl _) ⟨got, hz, its, rv, ⟨_, got, rfl, _, rfl⟩⟩
  exact ⟨.ref h'.objs.size, _, I2, rfl, q _ _ (I1.hok.fresh (Nat.le_refl _)) rfl⟩
end
section
variable {X : Cx} {id : String} {name : Str} {r : V → List V → Hp → VK → Prop} {o e : Expr} {es : List Expr} {to : TE} {t : TA} {apos cpos : Pos}
/-- a method of such a tuple -/
theorem pe_bmF (slot : Slot "tuple" name id) (hty : typeOf (.builtin id) = pure (.type "method_descriptor")) (hm : MtR X id r) (ho : PE X o to) (ha : PA X (e :: es) t)
    (q1 : attributeBase o name X.env (eval o X.env) = eval o X.env := by rfl)
    (q2 : ((backTo cpos (starEach (e :: es) X.env)).all (fun x => !x.1) && (backToKw cpos (keywordEach [] X.env)).all (fun x => x.1.isSome) && decide ((e :: es).length + ([] : List Keyword).length + (if ([] : List Keyword).isEmpty then 0 else 1) < 30)) = true := by rfl)
    (q3 : (apos.endLine == cpos.line) = true := by rfl) (q4 : starEach (e :: es) X.env = (false, eval e X.env) :: starEach es X.env := by rfl) (q5 : (backTo cpos (starEach es X.env)).any (·.1) = false := by rfl) :
    PE X (.Call (.Attribute o name apos) (e :: es) [] cpos) (tBMF r to t) := by
  constructor
  intro pins s σ H Q I h
  refine wpAny_Call_method_late q1 q2 q3 rfl (thn (ho.run pins s σ H _ I h) fun v s1 ⟨x, H1, I1, r1, ⟨a, xs, ex, ob, hob, hfz⟩, k1⟩ => ?_)
  subst ex
  obtain rfl : v = Value.ref a := r1
  obtain ⟨g1, g2⟩ := (show ObjOk X.prog X.w H1 s1.heap a (.frz ob (.tup xs)) from I1.hok a _ hfz)
  obtain ⟨_, its, _, ⟨o2, g3, g4, _⟩⟩ := g2
  have A1 := ha.run cpos pins s1 σ H1 _ I1 k1
  refine ⟨"tuple", id, PySem.F.plainAttrs_tuple, slot, hty, ⟨o2, g3, g4⟩, fun b e => ?_, ?_⟩
  · cases e
    exact ⟨ob, g1, hob⟩
  rw [q4] at A1 ⊢
  refine Calls.callWith_builtin (by show (false || (backTo cpos (starEach es X.env)).any (fun y => y.1)) = false; rw [q5] <;> rfl) (Calls.evalArgs_plain ?_)
  exact thn A1 fun us s2 ⟨vs, H2, I2, r2, k2⟩ => hm pins s2 σ H2 (.ref a) vs (.ref a) us Q I2 rfl r2 k2
end
/-! ### data whose tuples are such -/
mutual
inductive DF (H : Hp) : V → PyData → Prop
  | non : DF H .non .none
  | bl (b : Bool) : DF H (.bl b) (.bool b)
  | int (i : Int) : DF H (.int i) (.int i)
  | str (x : Str) : DF H (.str x) (.str x)
  | lst {a : Addr} {xs : List V} {ds : List PyData} : H a = some (.lst xs) → DFs H xs ds → DF H (.ref a) (.list ds)
  | tup {a : Addr} {xs : List V} {ds : List PyData} : FzT H a xs → DFs H xs ds → DF H (.ref a) (.tuple ds)
  | dk0 {a : Addr} : H a = some (.dK []) → DF H (.ref a) (.dict [])
inductive DFs (H : Hp) : List V → List PyData → Prop
  | nil : DFs H [] []
  | cons {v : V} {vs : List V} {d : PyData} {ds : List PyData} : DF H v d → DFs H vs ds → DFs H (v :: vs) (d :: ds)
end
mutual
theorem DF.dv {K : PySem.W.Frag} {H : Hp} : ∀ {d : PyData} {v : V}, DF H v d → DV K H v d
  | _, _, .non => .non
  | _, _, .bl b => .bl b
  | _, _, .int i => .int i
  | _, _, .str x => .str x
  | _, _, .lst h t => .lst (SqL.of h) (DFs.dv t)
  | _, _, .tup h t => .tup h.sq (DFs.dv t)
  | _, _, .dk0 h => .dk0 h
theorem DFs.dv {K : PySem.W.Frag} {H : Hp} : ∀ {ds : List PyData} {vs : List V}, DFs H vs ds → DVs K H vs ds
  | _, _, .nil => .nil
  | _, _, .cons p t => .cons (DF.dv p) (DFs.dv t)
end
mutual
theorem DF.same {H H' : Hp} (e : Same H H') : ∀ {d : PyData} {v : V}, DF H v d → DF H' v d
  | _, _, .non => .non
  | _, _, .bl b => .bl b
  | _, _, .int i => .int i
  | _, _, .str x => .str x
  | _, _, .lst h t => .lst (e _ _ h) (DFs.same e t)
  | _, _, .tup h t => .tup (h.same e) (DFs.same e t)
  | _, _, .dk0 h => .dk0 (e _ _ h)
theorem DFs.same {H H' : Hp} (e : Same H H') : ∀ {ds : List PyData} {vs : List V}, DFs H vs ds → DFs H' vs ds
  | _, _, .nil => .nil
  | _, _, .cons p t => .cons (DF.same e p) (DFs.same e t)
end
mutual
theorem DF.but {d : Addr} {H H' : Hp} (D : DeckAt H d) (e : But d H H') : ∀ {x : PyData} {v : V}, DF H v x → DF H' v x
  | _, _, .non => .non
  | _, _, .bl b => .bl b
  | _, _, .int i => .int i
  | _, _, .str x => .str x
  | _, _, .lst h t => .lst (e.lst D h) (DFs.but D e t)
  | _, _, .tup h t => .tup (h.but D e) (DFs.but D e t)
  | _, _, .dk0 h => .dk0 (e _ _ (by
      obtain ⟨x, y, hd, _⟩ := D
      exact ne_of h hd (by intro z; cases z)) h)
theorem DFs.but {d : Addr} {H H' : Hp} (D : DeckAt H d) (e : But d H H') : ∀ {ds : List PyData} {vs : List V}, DFs H vs ds → DFs H' vs ds
  | _, _, .nil => .nil
  | _, _, .cons p t => .cons (DF.but D e p) (DFs.but D e t)
end
theorem DFs.at {H : Hp} : ∀ {vs : List V} {ds : List PyData}, DFs H vs ds → ∀ {i : Nat} {v : V}, vs[i]? = some v → ∃ d, ds[i]? = some d ∧ DF H v d
  | _, _, .nil, i, v, e => by simp at e
  | _, _, .cons p t, i, u, e => by
    cases i with
    | zero => simp at e; subst e; exact ⟨_, rfl, p⟩
    | succ i => simp at e; obtain ⟨d, h1, h2⟩ := DFs.at t e; exact ⟨d, by simpa using h1, h2⟩
theorem DFs.length {H : Hp} : ∀ {vs : List V} {ds : List PyData}, DFs H vs ds → vs.length = ds.length
  | _, _, .nil => rfl
  | _, _, .cons _ t => congrArg Nat.succ (DFs.length t)
theorem DFs.take {H : Hp} : ∀ {vs : List V} {ds : List PyData} (n : Nat), DFs H vs ds → DFs H (vs.take n) (ds.take n)
  | _, _, 0, _ => .nil
  | _, _, _ + 1, .nil => .nil
  | _, _, n + 1, .cons p t => .cons p (DFs.take n t)
theorem DFs.drop {H : Hp} : ∀ {vs : List V} {ds : List PyData} (n : Nat), DFs H vs ds → DFs H (vs.drop n) (ds.drop n)
  | _, _, 0, h => h
  | _, _, _ + 1, .nil => .nil
  | _, _, n + 1, .cons p t => DFs.drop n t
theorem DFs.append {H : Hp} : ∀ {vs ws : List V} {ds es : List PyData}, DFs H vs ds → DFs H ws es → DFs H (vs ++ ws) (ds ++ es)
  | _, _, _, _, .nil, h => h
  | _, _, _, _, .cons p t, h => .cons p (DFs.append t h)
theorem DFs.reverse {H : Hp} : ∀ {vs : List V} {ds : List PyData}, DFs H vs ds → DFs H vs.reverse ds.reverse
  | _, _, .nil => .nil
  | _, _, .cons p t => by
    rw [List.reverse_cons, List.reverse_cons]
    exact DFs.append (DFs.reverse t) (.cons p .nil)
theorem DFs.ints {H : Hp} : ∀ ks : List Int, DFs H (ks.map V.int) (ks.map PyData.int)
  | [] => .nil
  | k :: r => .cons (.int k) (DFs.ints r)
section
variable {P : Program} {w : World} {K : PySem.W.Frag} {mg : Str → Option Value} {base : Heap}
/-- of a list or of a tuple -/
def spDif (K : PySem.W.Frag) : Sp := fun vs H Q _ => ∃ (a : Addr) (xs : List V) (ds : List PyData), vs = [.ref a] ∧ (SqL K H a xs ∨ FzT H a xs) ∧ DVs K H xs ds ∧ ds.length ≤ 1000000 ∧ ∀ H', Same H H' → Q (.bl (idsL ds)) H'
theorem scDif : FnScope ["things", "thing"] ["things"] (defScope sLawDiff) := ⟨rfl, rfl, rfl, by decide +kernel, rfl, by decide +kernel, by decide +kernel⟩
theorem ok_dif {f fI : Addr} {fd fdI : FuncData} (F : Fun K "_law_different" "_law_different" sLawDiff f fd)
    (GI : FnOk P w K mg base CX0 1 fI fdI ["thing"] (spIsId K)) (kI : PySem.W.keepIn K (.ref fI) = true) (bI : L2.Binds K fdI ["thing"] []) (mI : mg "_law_is_id" = some (.ref fI)) : FnOk P w K mg base CX0 2 f fd ["things"] (spDif K) := by
  refine F.ok scDif (fun vs H Q E h => ?_) (fun cdv A outer s H vs Q E hr h => ?_)
  · obtain ⟨a, xs, ds, rfl, _⟩ := h
    rfl
  · obtain ⟨a, xs, ds, rfl, hS, hs, hln, k⟩ := h
    have h64 := hu64 hr
    have hl := hs.length
    rw [← difD_is] at k
    have fin : ∀ (D : Addr) (H1 : Hp), Same H H1 → H1 D = some (.lst (ds.map fun e => V.bl (inD 1 1000000 e && decide (ds.countP (eqID (intOf e)) = 1)))) → ∃ p xs, V.ref D = .ref p ∧ (SqL K H1 p xs ∨ SqT K H1 p xs) ∧ flatV (.bl false) = true ∧ xs.all flatV = true ∧ Q (.bl (!inV (.bl false) xs)) H1 := fun D H1 s1 hL => by
      refine ⟨D, (ds.map fun e => inD 1 1000000 e && decide (ds.countP (eqID (intOf e)) = 1)).map V.bl, rfl, .inl (SqL.of (by rw [List.map_map]; exact hL)), rfl, flat_bl2 _, ?_⟩
      rw [inV_bl2, Bool.not_not, List.all_map]
      exact k H1 s1
    rcases hS with hT | hT
    · refine ⟨_, pss_one (ps_ret (pe_cmpR op_notIn_seq pe_bl
          (pe_lc (own := [("thing", 1)]) (g := gName 1) rfl scDif.nd (pi_list (pv 0)) (blkOk_by (N := ["things", "thing"]) (sc := defScope sLawDiff) (by decide +kernel)) (fun _ _ _ _ _ => pg_name (i := 1) scDif.nd rfl (Or.inl rfl)) (fun _ _ _ _ _ => pts_nil)
            (fun _ _ _ _ _ => pe_and (pe_call GI hr rfl mI kI bI .nil pass0 (pa_cons (pv 1) pa_nil)) (pe_one (pe_cmpR op_eq (pe_bmK (K := K) rfl PySem.F.plainAttrs_list PySem.F.slot_list_count PySem.F.type_list_count (mt_cntL (K := K) rfl h64) (pv 0) (pa_cons (pv 1) pa_nil)) pe_int (nomark _))))) (by rfl))), ?_⟩
      refine ⟨_, rfl, a, rfl, ⟨_, hT⟩, fun D hD => ?_⟩
      refine lc_sameL (ds.map fun e => V.bl (inD 1 1000000 e && decide (ds.countP (eqID (intOf e)) = 1))) (by rw [List.length_map, hl]) (by omega) hT hD (fun i x y H' R hx hy s1 kR => ⟨rfl, ?_⟩) (fin D)
      obtain ⟨e, he, hv⟩ := hs.at hx
      rw [List.getElem?_map, he] at hy
      obtain rfl := Option.some.inj hy
      have kk : R (V.bl (inD 1 1000000 e && decide (ds.countP (eqID (intOf e)) = 1))) H' := kR H' (Same.refl H')
      refine ⟨_, rfl, x, rfl, (hv.same s1).ty, _, rfl, ?_⟩
      rw [hv.inD]
      cases hA : inD 1 1000000 e with
      | false => rw [hA] at kk; exact iteF kk
      | true =>
        rw [hA] at kk
        obtain ⟨z, rfl⟩ : ∃ z, e = .int z := by cases e <;> first | exact ⟨_, rfl⟩ | cases hA
        cases hv
        refine iteT ⟨_, rfl, .inl ⟨rfl, _, Same.sq s1 hT⟩, _, rfl, a, xs, ds, z, rfl, rfl, Same.sq s1 hT, DVs.same s1 hs, rfl, ?_⟩
        rw [show decide (V.int ((ds.countP (eqID z) : Nat) : Int) = V.int 1) = decide (ds.countP (eqID z) = 1) from by
          rw [dInt]
          by_cases q : ds.countP (eqID z) = 1
          · rw [q]; rfl
          · rw [decide_eq_false q, decide_eq_false (by omega)]]
        exact kk
    · refine ⟨_, pss_one (ps_ret (pe_cmpR op_notIn_seq pe_bl
          (pe_lc (own := [("thing", 1)]) (g := gName 1) rfl scDif.nd (pi_tup (pv 0)) (blkOk_by (N := ["things", "thing"]) (sc := defScope sLawDiff) (by decide +kernel)) (fun _ _ _ _ _ => pg_name (i := 1) scDif.nd rfl (Or.inl rfl)) (fun _ _ _ _ _ => pts_nil)
            (fun _ _ _ _ _ => pe_and (pe_call GI hr rfl mI kI bI .nil pass0 (pa_cons (pv 1) pa_nil)) (pe_one (pe_cmpR op_eq (pe_bmF PySem.F.slot_tuple_count PySem.F.type_tuple_count (mt_cntT (K := K) rfl h64) (pv 0) (pa_cons (pv 1) pa_nil)) pe_int (nomark _))))) (by rfl))), ?_⟩
      refine ⟨_, rfl, a, rfl, ⟨_, hT.sq⟩, fun D hD => ?_⟩
      refine lc_same (ds.map fun e => V.bl (inD 1 1000000 e && decide (ds.countP (eqID (intOf e)) = 1))) (by rw [List.length_map, hl]) (by omega) hT.sq hD (fun i x y H' R hx hy s1 kR => ⟨rfl, ?_⟩) (fin D)
      obtain ⟨e, he, hv⟩ := hs.at hx
      rw [List.getElem?_map, he] at hy
      obtain rfl := Option.some.inj hy
      have kk : R (V.bl (inD 1 1000000 e && decide (ds.countP (eqID (intOf e)) = 1))) H' := kR H' (Same.refl H')
      refine ⟨_, rfl, x, rfl, (hv.same s1).ty, _, rfl, ?_⟩
      rw [hv.inD]
      cases hA : inD 1 1000000 e with
      | false => rw [hA] at kk; exact iteF kk
      | true =>
        rw [hA] at kk
        obtain ⟨z, rfl⟩ : ∃ z, e = .int z := by cases e <;> first | exact ⟨_, rfl⟩ | cases hA
        cases hv
        refine iteT ⟨_, rfl, ⟨a, xs, rfl, hT.same s1⟩, _, rfl, a, xs, ds, z, rfl, rfl, (hT.same s1).sq, DVs.same s1 hs, rfl, ?_⟩
        rw [show decide (V.int ((ds.countP (eqID z) : Nat) : Int) = V.int 1) = decide (ds.countP (eqID z) = 1) from by
          rw [dInt]
          by_cases q : ds.countP (eqID z) = 1
          · rw [q]; rfl
          · rw [decide_eq_false q, decide_eq_false (by omega)]]
        exact kk
end
theorem op_notIn_K2 {X : Cx} {K : PySem.W.Frag} (h : X.K = K) : OpR X (compareOp .NotIn) (rIn K true) := by
  subst h
  exact op_notIn_seq
theorem areIdsL_ids {js : List Int} (hj : ∀ z ∈ js, 1 ≤ z ∧ z ≤ 1000000) {es : List PyData} (h : areIdsL js es = true) : idsL es = true := by
  unfold areIdsL at h
  simp only [Bool.and_eq_true] at h
  obtain ⟨⟨⟨_, a2⟩, a3⟩, a4⟩ := h
  unfold idsL
  rw [a4, Bool.and_true]
  refine List.all_eq_true.mpr fun d hd => ?_
  have w := List.all_eq_true.mp a2 d hd
  obtain ⟨z, rfl⟩ : ∃ z, d = .int z := by cases d <;> first | exact ⟨_, rfl⟩ | cases w
  have m := of_decide_eq_true (List.all_eq_true.mp a3 z (List.mem_map.mpr ⟨_, hd, rfl⟩))
  have := hj z m
  show (decide (1 ≤ z) && decide (z ≤ 1000000)) = true
  rw [decide_eq_true this.1, decide_eq_true this.2]
  rfl
theorem areIdsL_of {js : List Int} {es : List PyData} (h0 : es ≠ []) (h : idsL es = true) : areIdsL js es = decide ((es.map intOf).filter (fun z => decide (z ∉ js)) = []) := by
  unfold idsL at h
  rw [Bool.and_eq_true] at h
  unfold areIdsL
  have e0 : es.isEmpty = false := by cases es with | nil => exact absurd rfl h0 | cons _ _ => rfl
  rw [e0, all_inD_whole h.1, h.2, Bool.and_true, Bool.eq_iff_iff, decide_eq_true_iff, List.filter_eq_nil_iff]
  simp
section
variable {P : Program} {w : World} {K : PySem.W.Frag} {mg : Str → Option Value} {base : Heap}
def spMvDue (K : PySem.W.Frag) : Sp := fun vs H Q _ => ∃ (o : Addr) (js : List Int) (v : V) (d : PyData), vs = [.ref o, v] ∧ SqL K H o (js.map V.int) ∧ (∀ z ∈ js, 1 ≤ z ∧ z ≤ 1000000) ∧ DF H v d ∧ smallM d ∧ ∀ H', Same H H' → Q (.bl (isMove js d)) H'
abbrev NMv : List Str := ["line", "thing", "anchor", "number"]
theorem scMvDue : FnScope NMv ["line", "thing"] (defScope sMoveDue) := ⟨rfl, rfl, rfl, by decide +kernel, rfl, by decide +kernel, by decide +kernel⟩
theorem ok_mvDue {f fD : Addr} {fd fdD : FuncData} (F : Fun K "_law_move_due" "_law_move_due" sMoveDue f fd) (T : TxtV mg)
    (GD : FnOk P w K mg base CX0 2 fD fdD ["things"] (spDif K)) (kD : PySem.W.keepIn K (.ref fD) = true) (bD : L2.Binds K fdD ["things"] []) (mD : mg "_law_different" = some (.ref fD)) : FnOk P w K mg base CX0 3 f fd ["line", "thing"] (spMvDue K) := by
  refine F.ok scMvDue (fun vs H Q E h => ?_) (fun cdv A outer s H vs Q E hr h => ?_)
  · obtain ⟨o, js, v, d, rfl, _⟩ := h
    rfl
  · obtain ⟨o, js, v, d, rfl, hO, hj, hf, hsm, k⟩ := h
    have h64 := hu64 hr
    refine ⟨_, pss_cons (ps_if (PW.pt (pw_or (pt_not (pt_val (pe_callB call_isi (by rfl) T.isi (by decide +kernel) (pa_cons (pv 1) (pa_cons (pe_bltn (v := .ty "tuple") (by rfl) T.tuple boot_tuple rfl) pa_nil)))))
          (pw_or (pt_cmpR op_ne (pe_callB call_len_seq (by rfl) T.len PySem.boot_len (pa_cons (pv 1) pa_nil)) pe_int (nomark _))
          (pw_or (pt_not (pt_val (pe_callB call_isi (by rfl) T.isi (by decide +kernel) (pa_cons (pe_ix ix_tup (pv 1) pe_int (fun _ _ => rfl)) (pa_cons (pe_bltn (v := .ty "tuple") (by rfl) T.tuple boot_tuple rfl) pa_nil)))))
          (pw_or1 (pt_cmpR (op_eqT0 (Nat.lt_of_le_of_lt (Nat.le_add_right _ 64) h64)) (pe_ix ix_tup (pv 1) pe_int (fun _ _ => rfl)) (pe_tup pa_nil) (nomark _))))))) (pss_one (ps_ret pe_bl)) pss_nil)
      (pss_cons (ps_if (PW.pt (pw_or (pt_not (pt_val (pe_call GD hr rfl mD kD bD .nil pass0 (pa_cons (pe_ix ix_tup (pv 1) pe_int (fun _ _ => rfl)) pa_nil))))
          (pw_or1 (pt_cmpR (op_neL h64) (pe_lc (own := [("number", 3)]) (g := gName 3) rfl scMvDue.nd (pi_tup (pe_ix ix_tup (pv 1) pe_int (fun _ _ => rfl))) (blkOk_by (N := NMv) (sc := defScope sMoveDue) (by decide +kernel)) (fun _ _ _ _ _ => pg_name (i := 3) scMvDue.nd rfl (Or.inl rfl))
            (fun _ _ _ _ _ => pts_one (pt_cmpR (op_notIn_K2 (K := K) rfl) (pv 3) (pv 0) (by rfl))) (fun _ _ _ _ _ => pv 3)) (pe_lst pa_nil) (nomark _))))) (pss_one (ps_ret pe_bl)) pss_nil)
      (pss_cons (ps_set (i := 2) scMvDue.nd rfl (Or.inl rfl) (pe_ix ix_tup (pv 1) pe_int (fun _ _ => rfl)))
      (pss_cons (ps_if (PW.pt (pw_or (pt_not (pt_val (pe_callB call_isi (by rfl) T.isi (by decide +kernel) (pa_cons (pv 2) (pa_cons (pe_bltn (v := .ty "int") (by rfl) T.int boot_int rfl) pa_nil)))))
          (pw_or1 (pt_val (pe_callB call_isi (by rfl) T.isi (by decide +kernel) (pa_cons (pv 2) (pa_cons (pe_bltn (v := .ty "bool") (by rfl) T.bool boot_bool rfl) pa_nil))))))) (pss_one (ps_ret pe_bl)) pss_nil)
      (pss_one (ps_ret (pe_or (pe_cmpR op_eq (pv 2) pe_int (nomark _)) (pe_one (pe_and (pe_cmpR op_in_seq (pv 2) (pv 0) (by rfl)) (pe_one (pe_cmpR op_notIn_seq (pv 2) (pe_ix ix_tup (pv 1) pe_int (fun _ _ => rfl)) (by rfl))))))))))), ?_⟩
    obtain ⟨nm, ty, k1, k2⟩ := (hf.dv (K := K)).kit
    refine ⟨_, rfl, _, _, _, _, _, rfl, .ty _, ty, k1, _, rfl, ?_⟩
    have no : isMove js d = false → ∀ H', Same H H' → Q (.bl false) H' := fun e H' s => by
      have := k H' s
      rw [e] at this
      exact this
    cases hf with
    | tup hT hs =>
      rename_i a vs ds
      have hl := hs.length
      refine iteF ⟨_, rfl, a, _, rfl, .inr hT.sq, rfl, _, rfl, ?_⟩
      by_cases h2 : ds.length = 2
      · obtain ⟨di, db, rfl⟩ : ∃ di db, ds = [di, db] := match ds, h2 with | [x, y], _ => ⟨x, y, rfl⟩
        cases hs with
        | cons pi t =>
          cases t with
          | cons pb t2 =>
            cases t2
            rename_i vi vb
            have hz : (!decide (V.int (([vi, vb].length : Nat) : Int) = V.int 2)) = false := rfl
            rw [hz]
            have at0 : atI [vi, vb] 0 = some vi := at_of (j := 0) rfl rfl
            have at1 : atI [vi, vb] 1 = some vb := at_of (j := 1) rfl rfl
            have kk : ∀ H', Same H H' → Q (.bl (isMove2 js di db)) H' := k
            obtain ⟨nm2, ty2, r1, r2⟩ := (pi.dv (K := K)).kit
            refine iteF ⟨_, rfl, a, _, _, _, rfl, rfl, hT.sq, at0, _, _, _, _, _, rfl, .ty _, ty2, r1, _, rfl, ?_⟩
            cases pi with
            | tup hT2 hs2 =>
              rename_i a2 vs2 es
              have hl2 := hs2.length
              have hes := (hsm es db rfl).1
              have ea : isMove2 js (.tuple es) db = (areIdsL js es && wholeD db && (decide (intOf db = 0) || (decide (intOf db ∈ js) && !decide (intOf db ∈ es.map intOf)))) := rfl
              rw [ea] at kk
              have no2 : areIdsL js es = false → ∀ H', Same H H' → Q (.bl false) H' := fun e H' s => by
                have := kk H' s
                rw [e] at this
                exact this
              refine iteF ⟨_, rfl, a, _, _, _, rfl, rfl, hT.sq, at0, ⟨Nat.zero_le _, fun p0 h0 => ?_⟩⟩
              have s1 := Same.new (o := .tup []) h0
              refine ⟨a2, p0, vs2, rfl, rfl, (hT2.same s1).sq, SqT.of upd_same, _, rfl, ?_⟩
              by_cases he : es = []
              · subst he
                have : vs2 = [] := List.length_eq_zero_iff.mp hl2
                subst this
                exact iteT (no2 rfl _ s1)
              have hve : vs2.isEmpty = false := by
                cases vs2 with
                | nil => exact absurd (List.length_eq_zero_iff.mp hl2.symm) he
                | cons _ _ => rfl
              rw [hve]
              refine iteF ?_
              refine ⟨_, rfl, a, _, _, _, rfl, rfl, (hT.same s1).sq, at0, a2, vs2, es, rfl, .inr (hT2.same s1), (hs2.same s1).dv, by omega, fun H2 s2 => ⟨_, rfl, ?_⟩⟩
              have s12 := s1.trans s2
              cases hi : idsL es with
              | false =>
                refine iteT (no2 ?_ H2 s12)
                cases hh : areIdsL js es with
                | false => rfl
                | true => rw [areIdsL_ids hj hh] at hi; cases hi
              | true =>
                refine iteF ?_
                have hA := areIdsL_of (js := js) he hi
                have hw : es.all wholeD = true := by
                  unfold idsL at hi
                  rw [Bool.and_eq_true] at hi
                  exact all_inD_whole hi.1
                have ev := whole_all (hs2.dv (K := K)) hw
                -- the comprehension
                refine ⟨_, rfl, a, _, _, _, rfl, rfl, (hT.same s12).sq, at0, a2, rfl, ⟨_, (hT2.same s12).sq⟩, fun D hD => ?_⟩
                refine lc_tup (K := K) (a := a2) (xs := vs2) (fun i H' => Same H2 H' ∧ H' D = some (.lst ((((es.map intOf).take i).filter fun z => decide (z ∉ js)).map V.int))) ⟨Same.new hD, upd_same⟩ (fun i H' _ q => (hT2.same (s12.trans q.1)).sq) ?_ ?_
                · rintro i x H' hx ⟨s3, hL⟩
                  rw [ev, List.getElem?_map] at hx
                  obtain ⟨z, hz2, rfl⟩ : ∃ z, (es.map intOf)[i]? = some z ∧ x = V.int z := by
                    cases hq2 : (es.map intOf)[i]? with
                    | none => rw [hq2] at hx; cases hx
                    | some z => rw [hq2] at hx; exact ⟨z, rfl, (Option.some.inj hx).symm⟩
                  refine ⟨rfl, ?_⟩
                  refine ⟨_, rfl, _, rfl, o, _, rfl, .inl (Same.sq (s12.trans s3) hO), rfl, all_flat _, _, rfl, ?_⟩
                  rw [inV_int, take_snoc hz2, List.filter_append]
                  have hlen := lt_of_some hz2
                  rw [List.length_map] at hlen
                  by_cases hm : z ∈ js
                  · have e1 : (!decide (z ∈ js)) = false := by rw [decide_eq_true hm]; rfl
                    show if (!decide (z ∈ js)) = true then _ else _
                    rw [e1]
                    refine iteF ⟨s3, ?_⟩
                    have e2 : [z].filter (fun z => decide (z ∉ js)) = [] := by simp [hm]
                    rw [e2, List.append_nil]
                    exact hL
                  · have e1 : (!decide (z ∈ js)) = true := by rw [decide_eq_false hm]; rfl
                    show if (!decide (z ∈ js)) = true then _ else _
                    rw [e1]
                    have e2 : [z].filter (fun z => decide (z ∉ js)) = [z] := by simp [hm]
                    refine iteT ⟨_, rfl, _, hL, ?_, ?_, ?_⟩
                    · rw [List.length_map]
                      have := List.length_filter_le (fun z => decide (z ∉ js)) ((es.map intOf).take i)
                      rw [List.length_take] at this
                      rw [sizeLine_eq]
                      omega
                    · intro b u hb
                      rw [upd_ne (ne_of_none hb hD)]
                      exact s3 b u hb
                    · rw [upd_same, e2, List.map_append]
                      rfl
                · rintro H3 ⟨s3, hL3⟩
                  have hv2 : vs2.length = (es.map intOf).length := by rw [List.length_map]; exact hl2
                  rw [hv2, List.take_length] at hL3
                  refine ⟨Nat.zero_le _, fun q0 hq0 => ?_⟩
                  have s4 := Same.new (o := .lst []) hq0
                  have s5 := (s12.trans s3).trans s4
                  refine ⟨D, q0, (es.map intOf).filter fun z => decide (z ∉ js), [], rfl, rfl, SqL.of (s4 _ _ hL3), SqL.of upd_same, _, rfl, ?_⟩
                  rw [← hA]
                  cases hB : areIdsL js es with
                  | false => exact iteT (no2 hB _ s5)
                  | true =>
                    refine iteF ?_
                    rw [hB, Bool.true_and] at kk
                    refine ⟨_, rfl, a, _, _, _, rfl, rfl, (hT.same s5).sq, at1, ?_⟩
                    obtain ⟨nm3, ty3, hn3⟩ := ((pb.same s5).dv (K := K)).ty
                    have no3 : wholeD db = false → Q (.bl false) _ := fun e => by
                      have := kk _ s5
                      rw [e] at this
                      exact this
                    refine ⟨_, rfl, ?_⟩
                    cases pb with
                    | int z =>
                      refine ⟨_, _, _, _, true, rfl, .ty _, .base (.int z), kit_ty (by decide +kernel), _, rfl, iteF ?_⟩
                      refine ⟨_, rfl, _, _, _, _, false, rfl, .ty _, .base (.int z), kit_ty (by decide +kernel), _, rfl, iteF ?_⟩
                      have fin := kk _ s5
                      have e2 : (wholeD (.int z) && (decide (intOf (.int z) = 0) || (decide (intOf (.int z) ∈ js) && !decide (intOf (.int z) ∈ es.map intOf)))) = (decide (z = 0) || (decide (z ∈ js) && !decide (z ∈ es.map intOf))) := rfl
                      rw [e2] at fin
                      refine ⟨_, rfl, rfl, _, rfl, ?_⟩
                      rw [show decide (V.int z = V.int 0) = decide (z = 0) from dInt z 0]
                      cases h0 : decide (z = 0) with
                      | true => rw [h0] at fin; exact iteT fin
                      | false =>
                        rw [h0] at fin
                        refine iteF ⟨_, rfl, _, rfl, o, _, rfl, .inl (Same.sq s5 hO), rfl, all_flat js, _, rfl, ?_⟩
                        rw [inV_int]
                        show if decide (z ∈ js) = true then _ else _
                        cases h1 : decide (z ∈ js) with
                        | false => rw [h1] at fin; exact iteF fin
                        | true =>
                          rw [h1] at fin
                          refine iteT ⟨_, rfl, _, rfl, a, _, _, _, rfl, rfl, (hT.same s5).sq, at0, a2, _, rfl, .inr (hT2.same s5).sq, rfl, ?_, ?_⟩
                          · rw [ev]; exact all_flat _
                          · rw [ev, inV_int]
                            exact fin
                    | bl b => exact ⟨_, _, _, _, true, rfl, .ty _, .base (.bl b), kit_ty (by decide +kernel), _, rfl, iteF ⟨_, rfl, _, _, _, _, true, rfl, .ty _, .base (.bl b), kit_ty (by decide +kernel), _, rfl, iteT (no3 rfl)⟩⟩
                    | non => exact ⟨_, _, _, _, false, rfl, .ty _, .base .non, kit_ty (by decide +kernel), _, rfl, iteT (no3 rfl)⟩
                    | str x => exact ⟨_, _, _, _, false, rfl, .ty _, .base (.str x), kit_ty (by decide +kernel), _, rfl, iteT (no3 rfl)⟩
                    | lst hx hy => exact ⟨_, _, _, _, false, rfl, .ty _, .base (.lst (s5 _ _ hx)), kit_ty (by decide +kernel), _, rfl, iteT (no3 rfl)⟩
                    | tup hx hy => exact ⟨_, _, _, _, false, rfl, .ty _, tyT (hx.same s5).sq, kit_ty (by decide +kernel), _, rfl, iteT (no3 rfl)⟩
                    | dk0 hx => exact ⟨_, _, _, _, false, rfl, .ty _, .base (.dK (s5 _ _ hx)), kit_ty (by decide +kernel), _, rfl, iteT (no3 rfl)⟩
            | _ => exact iteT (kk H (Same.refl H))
      · have hz : (!decide (V.int ((vs.length : Nat) : Int) = V.int 2)) = true := by
          rw [dInt]
          have : ¬ (((vs.length : Nat) : Int) = 2) := by omega
          simpa using this
        rw [hz]
        refine iteT (no ?_ H (Same.refl H))
        match ds, h2 with
        | [], _ => rfl
        | [_], _ => rfl
        | [_, _], h2 => exact absurd rfl h2
        | _ :: _ :: _ :: _, _ => rfl
    | _ => exact iteT (no rfl H (Same.refl H))
end
def fine5 (x : PyData) : Bool := okD x && (decide (szD x ≤ 4000) && decide (x.depth ≤ 2))
theorem okAll_ints5 : ∀ xs : List Int, (∀ z ∈ xs, z.natAbs < 2 ^ 300) → okAll (xs.map .int) = true
  | [], _ => by rw [List.map_nil, okAll]
  | x :: r, h => by
    rw [List.map_cons, okAll, okD, okAll_ints5 r fun z hz => h z (List.mem_cons_of_mem _ hz), decide_eq_true (h x List.mem_cons_self)]
    rfl
theorem depthAll_ints5 : ∀ xs : List Int, PyData.depthAll (xs.map .int) = 0
  | [] => by rw [List.map_nil, PyData.depthAll]
  | x :: xs => by
    rw [List.map_cons, PyData.depthAll, depthAll_ints5 xs, PyData.depth]
    rfl
theorem fine5_int {z : Int} (h : 1 ≤ z ∧ z ≤ 1000000) : fine5 (.int z) = true := by
  unfold fine5
  rw [okD, szD, PyData.depth, decide_eq_true (small_abs (by omega) (by omega))]
  rfl
theorem fine5_tup {xs : List Int} (h : ∀ z ∈ xs, 1 ≤ z ∧ z ≤ 1000000) (hl : xs.length ≤ 10) : fine5 (.tuple (xs.map .int)) = true := by
  unfold fine5
  have hs : szAll (xs.map PyData.int) ≤ 3030 := by rw [szAll_ints]; omega
  rw [okD, szD, PyData.depth, depthAll_ints5, okAll_ints5 xs fun z hz => by have := h z hz; exact small_abs (by omega) (by omega), decide_eq_true (by omega : szAll (xs.map PyData.int) + 3 ≤ 4000)]
  rfl
theorem fine5_two {xs : List Int} (h : ∀ z ∈ xs, 1 ≤ z ∧ z ≤ 1000000) (hl : xs.length ≤ 1) : fine5 (.tuple [.tuple (xs.map .int), .int 0]) = true := by
  unfold fine5
  have hs : szAll (xs.map PyData.int) ≤ 303 := by rw [szAll_ints]; omega
  rw [okD, okAll, okAll, okAll, okD, okD, szD, szAll, szAll, szAll, szD, szD, PyData.depth, PyData.depthAll, PyData.depthAll, PyData.depthAll, PyData.depth, PyData.depth, depthAll_ints5,
    okAll_ints5 xs fun z hz => by have := h z hz; exact small_abs (by omega) (by omega), decide_eq_true (by omega : szAll (xs.map PyData.int) + 3 + 2 + (301 + 2 + 0) + 3 ≤ 4000), decide_eq_true (small_abs (by omega) (by omega))]
  rfl
/-- H' without what stood in H and not in G -/
def ext (G H H' : Hp) : Hp := fun b => if G b = none ∧ H b ≠ none then none else H' b
def hp0 : Hp := fun _ => none
theorem ext_new {G H H' : Hp} {b : Addr} {o : HO} (h0 : H b = none) (h : H' b = some o) : ext G H H' b = some o := by
  unfold ext
  rw [if_neg fun z => z.2 h0]
  exact h
theorem ext_old {G H H' : Hp} {b : Addr} {o u : HO} (h0 : G b = some u) (h : H' b = some o) : ext G H H' b = some o := by
  unfold ext
  rw [if_neg fun z => by rw [h0] at z; cases z.1]
  exact h
theorem ext_out {G H H' : Hp} {b : Addr} {o : HO} (h : ext G H H' b = some o) : H' b = some o ∧ ((∃ u, G b = some u) ∨ H b = none) := by
  unfold ext at h
  split at h
  · cases h
  · rename_i c
    refine ⟨h, ?_⟩
    cases e : G b with
    | some u => exact .inl ⟨u, rfl⟩
    | none =>
      refine .inr ?_
      cases e2 : H b with
      | none => rfl
      | some u => exact absurd ⟨e, by rw [e2]; intro z; cases z⟩ c
theorem FzT.ext {G H H' : Hp} {a : Addr} {xs : List V} (h0 : H a = none) (h : FzT H' a xs) : FzT (Hk.ext G H H') a xs := let ⟨o, d, e⟩ := h; ⟨o, d, ext_new h0 e⟩
section
variable {P : Program} {w : World} {K : PySem.W.Frag} {mg : Str → Option Value} {base : Heap}
def spAnyL (K : PySem.W.Frag) : Sp := fun vs H Q _ => ∃ (d l : Addr) (js : List Int), vs = [.ref d, .ref l] ∧ DeckAt H d ∧ H l = some (.lst (js.map V.int)) ∧ js.length ≤ 10 ∧ (∀ z ∈ js, 1 ≤ z ∧ z ≤ 1000000) ∧
  ∀ (v : V) (x : PyData) (H' : Hp), DF (ext hp0 H H') v x → okD x = true → szD x ≤ 4000 → x.depth ≤ 2 → DeckAt H' d → But d H H' → Q v H'
theorem scAnyL : FnScope ["deck", "line", "some"] ["deck", "line"] (defScope sAny) := ⟨rfl, rfl, rfl, by decide +kernel, rfl, by decide +kernel, by decide +kernel⟩
theorem ok_anyL {f fC : Addr} {fd fdC : FuncData} (F : Fun K "_law_any" "_law_any" sAny f fd) (T : mg "tuple" = none) (GC : FnOk P w K mg base CX0 2 fC fdC ["deck", "things"] (spChoose K)) (kC : PySem.W.keepIn K (.ref fC) = true) (bC : L2.Binds K fdC ["deck", "things"] []) (mC : mg "_law_choose" = some (.ref fC)) :
    FnOk P w K mg base CX0 3 f fd ["deck", "line"] (spAnyL K) := by
  refine F.ok scAnyL (fun vs H Q E h => ?_) (fun cdv A outer s H vs Q E hr h => ?_)
  · obtain ⟨d, l, js, rfl, _⟩ := h
    rfl
  · obtain ⟨d, l, js, rfl, D, hl, hjl, hjb, k⟩ := h
    refine ⟨_, pss_cons (ps_set (i := 2) scAnyL.nd rfl (Or.inl rfl) (pe_lst (pa_cons pe_non (pa_cons pe_bl (pa_cons pe_bl (pa_cons pe_int (pa_cons pe_int (pa_cons pe_int (pa_cons (pe_un un_neg pe_int)
          (pa_cons (pe_op op_pow pe_int pe_int) (pa_cons (pe_op op_add (pe_op op_pow pe_int pe_int) pe_int) (pa_cons pe_str (pa_cons pe_str (pa_cons (pe_tupF pa_nil) (pa_cons (pe_tupF (pa_cons pe_int pa_nil)) (pa_cons (pe_lst (pa_cons pe_int pa_nil)) (pa_cons (pe_lst pa_nil) (pa_cons pe_dnewK
          (pa_cons (pe_tupF (pa_cons pe_int (pa_cons pe_int pa_nil))) (pa_cons (pe_tupF (pa_cons (pe_lst pa_nil) pa_nil)) (pa_cons (pe_lst (pa_cons pe_dnewK pa_nil)) pa_nil)))))))))))))))))))))
      (pss_one (ps_ret (pe_call GC hr rfl mC kC bC .nil pass0 (pa_cons (pv 0) (pa_cons (pe_op op_cat (pe_op op_cat (pv 2) (pv 1)) (pe_lst (pa_cons (pe_callTy call_tupleF (by rfl) T (by decide +kernel) (pa_cons (pv 1) pa_nil))
          (pa_cons (pe_tupF (pa_cons (pe_callTy call_tupleF (by rfl) T (by decide +kernel) (pa_cons (pe_slice sl_list (pv 1) po_none (po_some pe_int)) pa_nil)) (pa_cons pe_int pa_nil))) pa_nil)))) pa_nil))))), ?_⟩
    have cp6 : CPow 10 6 := ⟨by decide, by decide, by decide⟩
    have z16 : ∀ {n : Nat}, n ≤ 100 → n ≤ sizeLine := fun h => by rw [sizeLine_eq]; omega
    refine ⟨_, rfl, ⟨_, _, rfl, rfl, cp6, ⟨_, _, rfl, rfl, cp6, ⟨_, _, rfl, rfl, ?_⟩⟩⟩⟩
    refine ⟨z16 (by show 0 ≤ 100; decide), fun q1 o1 h1 d1 => ?_⟩
    have t1 := Same.new (o := .frz o1 (.tup [])) h1
    refine ⟨z16 (by show 1 ≤ 100; decide), fun q2 o2 h2 d2 => ?_⟩
    have t2 := Same.new (o := .frz o2 (.tup [.int 1])) h2
    refine ⟨z16 (by show 1 ≤ 100; decide), fun q3 h3 => ?_⟩
    have t3 := Same.new (o := .lst [.int 1]) h3
    refine ⟨z16 (by show 0 ≤ 100; decide), fun q4 h4 => ?_⟩
    have t4 := Same.new (o := .lst []) h4
    intro q5 h5
    have t5 := Same.new (o := .dK []) h5
    refine ⟨z16 (by show 2 ≤ 100; decide), fun q6 o6 h6 d6 => ?_⟩
    have t6 := Same.new (o := .frz o6 (.tup [.int 0, .int 0])) h6
    refine ⟨z16 (by show 0 ≤ 100; decide), fun q7 h7 => ?_⟩
    have t7 := Same.new (o := .lst []) h7
    refine ⟨z16 (by show 1 ≤ 100; decide), fun q8 o8 h8 d8 => ?_⟩
    have t8 := Same.new (o := .frz o8 (.tup [.ref q7])) h8
    intro q9 h9
    have t9 := Same.new (o := .dK []) h9
    refine ⟨z16 (by show 1 ≤ 100; decide), fun q10 h10 => ?_⟩
    have t10 := Same.new (o := .lst [.ref q9]) h10
    refine ⟨z16 (by show 19 ≤ 100; decide), fun p hp => ?_⟩
    obtain ⟨some1, hsome⟩ : ∃ xs : List V, xs = [V.non, .bl true, .bl false, .int 0, .int 1, .int 2, .int (-1), .int (10 ^ (6 : Int).toNat), .int (10 ^ (6 : Int).toNat + 1), .str "", .str "1", .ref q1, .ref q2, .ref q3, .ref q4, .ref q5, .ref q6, .ref q8, .ref q10] := ⟨_, rfl⟩
    have t11 := Same.new (o := .lst some1) hp
    rw [hsome] at t11
    have u0 := t1.trans (t2.trans (t3.trans (t4.trans (t5.trans (t6.trans (t7.trans (t8.trans (t9.trans (t10.trans t11)))))))))
    refine ⟨_, rfl, ⟨_, rfl, ⟨_, rfl, ⟨p, l, _, _, rfl, rfl, upd_same, u0 _ _ hl, ?_, fun p2 hp2 => ?_⟩⟩⟩⟩
    · rw [List.length_map]
      exact z16 (by show 19 + js.length ≤ 100; omega)
    have t12 := Same.new (o := .lst (some1 ++ js.map V.int)) hp2
    rw [hsome] at t12
    refine ⟨_, rfl, ⟨l, _, rfl, SqL.of (t12 _ _ (u0 _ _ hl)), fun q13 o13 h13 d13 => ?_⟩⟩
    have t13 := Same.new (o := .frz o13 (.tup (js.map V.int))) h13
    refine ⟨_, rfl, ⟨1, rfl, ⟨l, _, rfl, SqL.of (t13 _ _ (t12 _ _ (u0 _ _ hl))), fun q14 h14 => ?_⟩⟩⟩
    have ecut : cutV (js.map V.int) none (some 1) = (js.take 1).map V.int := by
      rw [List.map_take]
      exact cut_to (js.map V.int) 1
    rw [ecut] at *
    have t14 := Same.new (o := .lst ((js.take 1).map V.int)) h14
    refine ⟨q14, _, rfl, SqL.of upd_same, fun q15 o15 h15 d15 => ?_⟩
    have t15 := Same.new (o := .frz o15 (.tup ((js.take 1).map V.int))) h15
    refine ⟨z16 (by show 2 ≤ 100; decide), fun q16 o16 h16 d16 => ?_⟩
    have t16 := Same.new (o := .frz o16 (.tup [.ref q15, .int 0])) h16
    refine ⟨z16 (by show 2 ≤ 100; decide), fun q17 h17 => ?_⟩
    have t17 := Same.new (o := .lst [.ref q13, .ref q16]) h17
    have u16 := t16.trans t17
    have u13 := t14.trans (t15.trans u16)
    refine ⟨p2, q17, _, _, rfl, rfl, (t13.trans u13) _ _ upd_same, upd_same, ?_, fun q18 h18 => ?_⟩
    · rw [List.length_append, List.length_map]
      exact z16 (by show 19 + js.length + 2 ≤ 100; omega)
    have t18 := Same.new (o := .lst (some1 ++ js.map V.int ++ [.ref q13, .ref q16])) h18
    rw [hsome] at t18
    have e18 := t18
    have w13 := u13.trans t18
    have w12 := t13.trans w13
    have w11 := t12.trans w12
    have w10 := t11.trans w11
    have w9 := t10.trans w10
    have w8 := t9.trans w9
    have w7 := t8.trans w8
    have w6 := t7.trans w7
    have w5 := t6.trans w6
    have w4 := t5.trans w5
    have w3 := t4.trans w4
    have w2 := t3.trans w3
    have w1 := t2.trans w2
    have w0 := t1.trans w1
    have D' := D.same w0
    refine ⟨d, q18, _, rfl, D', SqL.of upd_same, (by intro z; cases z), ?_, fun v H' hv D2 B2 => ?_⟩
    · rw [List.length_append, List.length_append, List.length_map]
      show 19 + js.length + 2 < 1000000
      omega
    have f1 : H q1 = none := h1
    have f2 : H q2 = none := Same.free t1 h2
    have r2 := t1.trans t2
    have f3 : H q3 = none := Same.free r2 h3
    have r3 := r2.trans t3
    have f4 : H q4 = none := Same.free r3 h4
    have r4 := r3.trans t4
    have f5 : H q5 = none := Same.free r4 h5
    have r5 := r4.trans t5
    have f6 : H q6 = none := Same.free r5 h6
    have r6 := r5.trans t6
    have f7 : H q7 = none := Same.free r6 h7
    have r7 := r6.trans t7
    have f8 : H q8 = none := Same.free r7 h8
    have r8 := r7.trans t8
    have f9 : H q9 = none := Same.free r8 h9
    have r9 := r8.trans t9
    have f10 : H q10 = none := Same.free r9 h10
    have r12 := u0.trans t12
    have f13 : H q13 = none := Same.free r12 h13
    have r14 := (r12.trans t13).trans t14
    have f15 : H q15 = none := Same.free r14 h15
    have f16 : H q16 = none := Same.free (r14.trans t15) h16
    obtain ⟨ds, hds, hf⟩ : ∃ ds, DFs (ext hp0 H _) [V.non, .bl true, .bl false, .int 0, .int 1, .int 2, .int (-1), .int (10 ^ (6 : Int).toNat), .int (10 ^ (6 : Int).toNat + 1), .str "", .str "1", .ref q1, .ref q2, .ref q3, .ref q4, .ref q5, .ref q6, .ref q8, .ref q10] ds ∧ ds.all fine5 = true := ⟨_, .cons .non (.cons (.bl true) (.cons (.bl false)
      (.cons (.int _) (.cons (.int _) (.cons (.int _) (.cons (.int _) (.cons (.int _) (.cons (.int _) (.cons (.str "") (.cons (.str "1") (.cons (.tup (((FzT.mk d1).same w1).ext f1) .nil) (.cons (.tup (((FzT.mk d2).same w2).ext f2) (.cons (.int 1) .nil)) (.cons (.lst (ext_new f3 (w3 _ _ upd_same)) (.cons (.int 1) .nil)) (.cons (.lst (ext_new f4 (w4 _ _ upd_same)) .nil)
      (.cons (.dk0 (ext_new f5 (w5 _ _ upd_same))) (.cons (.tup (((FzT.mk d6).same w6).ext f6) (.cons (.int 0) (.cons (.int 0) .nil))) (.cons (.tup (((FzT.mk d8).same w8).ext f8) (.cons (.lst (ext_new f7 (w7 _ _ upd_same)) .nil) .nil)) (.cons (.lst (ext_new f10 (w10 _ _ upd_same)) (.cons (.dk0 (ext_new f9 (w9 _ _ upd_same))) .nil)) .nil)))))))))))))))))), by decide +kernel⟩
    have hall : DFs (ext hp0 H _) _ (ds ++ js.map .int ++ [.tuple (js.map .int), .tuple [.tuple ((js.take 1).map .int), .int 0]]) := DFs.append (DFs.append hds (DFs.ints js)) (.cons (.tup (((FzT.mk d13).same w13).ext f13) (DFs.ints js)) (.cons (.tup (((FzT.mk d16).same (t17.trans t18)).ext f16) (.cons (.tup (((FzT.mk d15).same (u16.trans t18)).ext f15) (DFs.ints (js.take 1))) (.cons (.int 0) .nil))) .nil))
    have hx2 : ∀ Hc, But d Hc H' → Same (ext hp0 H Hc) (ext hp0 H H') := fun Hc B2 b u hb => by
      obtain ⟨e1, e2⟩ := ext_out hb
      rcases e2 with ⟨u2, e2⟩ | e2
      · cases e2
      · refine ext_new e2 (B2 b u ?_ e1)
        rintro rfl
        obtain ⟨_, _, hd, _⟩ := D
        rw [hd] at e2
        cases e2
    obtain ⟨j, hj⟩ := List.getElem?_of_mem hv
    obtain ⟨x, hx, hvx⟩ := hall.at hj
    have hfx : fine5 x = true := by
      have hm := List.mem_of_getElem? hx
      rcases List.mem_append.mp hm with h | h
      · rcases List.mem_append.mp h with h | h
        · exact List.all_eq_true.mp hf x h
        · obtain ⟨z, hz, rfl⟩ := List.mem_map.mp h
          exact fine5_int (hjb z hz)
      · rcases List.mem_cons.mp h with e | h
        · rw [e]; exact fine5_tup hjb hjl
        · rcases List.mem_cons.mp h with e | h
          · rw [e]; exact fine5_two (fun z hz => hjb z (List.mem_of_mem_take hz)) (by rw [List.length_take]; omega)
          · cases h
    unfold fine5 at hfx
    rw [Bool.and_eq_true, Bool.and_eq_true] at hfx
    exact k v x H' (hvx.same (hx2 _ B2)) hfx.1 (of_decide_eq_true hfx.2.1) (of_decide_eq_true hfx.2.2) D2 (But.trans (But.of w0) B2)
end
theorem kitAny2 {K : PySem.W.Frag} {t c1 c2 : Value} {a b : Bool} (h1 : PySem.W.kitOne K t c1 = some a) (h2 : PySem.W.kitOne K t c2 = some b) : PySem.W.kitAny K t [c1, c2] = some (a || b) := by
  unfold PySem.W.kitAny
  rw [h1]
  cases a with
  | true => rfl
  | false =>
    show PySem.W.kitAny K t [c2] = some b
    unfold PySem.W.kitAny
    rw [h2]
    cases b <;> rfl
theorem okAll_rev : ∀ A : List PyData, okAll A.reverse = okAll A
  | [] => rfl
  | x :: r => by
    rw [List.reverse_cons, okAll_append, okAll_rev r, okAll, okAll, okAll, Bool.and_true, Bool.and_comm]
theorem szAll_rev : ∀ A : List PyData, szAll A.reverse = szAll A
  | [] => rfl
  | x :: r => by
    rw [List.reverse_cons, szAll_append, szAll_rev r, szAll, szAll, szAll]
    omega
theorem depthAll_rev : ∀ A : List PyData, PyData.depthAll A.reverse = PyData.depthAll A
  | [] => rfl
  | x :: r => by
    rw [List.reverse_cons, depthAll_append, depthAll_rev r, PyData.depthAll, PyData.depthAll, PyData.depthAll]
    omega
theorem ext_step {G H H1 H2 : Hp} (s : Same H1 H2) : Same (ext G H H1) (ext G H H2) := fun b o hb => by
  obtain ⟨e, q⟩ := ext_out hb
  rcases q with ⟨u, q⟩ | q
  · exact ext_old q (s _ _ e)
  · exact ext_new q (s _ _ e)
theorem insert_nat (xs : List V) (i : Nat) (y : V) : xs.take ((i : Int)).toNat ++ [y] ++ xs.drop ((i : Int)).toNat = xs.take i ++ [y] ++ xs.drop i := by
  rw [Int.toNat_natCast]
theorem ixN_nat {n i : Nat} (h : i < n) : ixN n (i : Int) = some i := by
  unfold ixN
  rw [if_pos (by omega), if_pos (by omega)]
  simp
section
variable {P : Program} {w : World} {K : PySem.W.Frag} {mg : Str → Option Value} {base : Heap}
def spBentL (K : PySem.W.Frag) (n : Nat) : Sp := fun vs H Q _ => ∃ (d l : Addr) (js : List Int) (v : V) (x : PyData) (G : Hp), vs = [.ref d, .ref l, v] ∧ DeckAt H d ∧ H l = some (.lst (js.map V.int)) ∧ js.length ≤ 10 ∧ (∀ z ∈ js, 1 ≤ z ∧ z ≤ 1000000) ∧
  Same G H ∧ G d = none ∧ DF G v x ∧ okD x = true ∧ szD x ≤ 100000 ∧ x.depth < n ∧
  ∀ (v' : V) (x' : PyData) (H' : Hp), DF (ext G H H') v' x' → okD x' = true → szD x' ≤ 2 * szD x + 8000 → x'.depth ≤ x.depth + 2 → DeckAt H' d → But d H H' → Q v' H'
abbrev NB : List Str := ["deck", "line", "thing", "at", "way", "parts"]
theorem scBentL : FnScope NB ["deck", "line", "thing"] (defScope sBent) := ⟨rfl, rfl, rfl, by decide +kernel, rfl, by decide +kernel, by decide +kernel⟩
theorem ok_bentL {f fD fA : Addr} {fd fdD fdA : FuncData} (F : Fun K "_law_bent" "_law_bent" sBent f fd) (bF : L2.Binds K fd ["deck", "line", "thing"] []) (mF : mg "_law_bent" = some (.ref f)) (T : TxtV mg)
    (GD : FnOk P w K mg base CX0 1 fD fdD ["deck", "size"] spDraw) (kD : PySem.W.keepIn K (.ref fD) = true) (bD : L2.Binds K fdD ["deck", "size"] []) (mD : mg "_law_draw" = some (.ref fD))
    (GA : FnOk P w K mg base CX0 3 fA fdA ["deck", "line"] (spAnyL K)) (kA : PySem.W.keepIn K (.ref fA) = true) (bA : L2.Binds K fdA ["deck", "line"] []) (mA : mg "_law_any" = some (.ref fA)) :
    ∀ n : Nat, FnOk P w K mg base CX0 (n + 3) f fd ["deck", "line", "thing"] (spBentL K n)
  | 0 => ⟨fun vs H Q E h => by obtain ⟨_, _, _, _, _, _, _, _, _, _, _, _, _, _, _, _, h, _⟩ := h; exact absurd h (Nat.not_lt_zero _), fun _ _ _ _ _ _ _ _ _ _ _ _ _ h => by obtain ⟨_, _, _, _, _, _, _, _, _, _, _, _, _, _, _, _, h, _⟩ := h; exact absurd h (Nat.not_lt_zero _)⟩
  | n + 1 => by
    have GB := ok_bentL F bF mF T GD kD bD mD GA kA bA mA n
    refine F.ok scBentL (fun vs H Q E h => ?_) (fun cdv A outer s H vs Q E hr h => ?_)
    · obtain ⟨d, l, js, v, x, G, rfl, _⟩ := h
      rfl
    · obtain ⟨d, l, js, v, x, G, rfl, D, hLl, hjl, hjb, hG, hGd, hf, hok, hsz, hdep, k⟩ := h
      have hr1 : Room 1 _ := hr.mono (by omega)
      have hr3 : Room 3 _ := hr.mono (by omega)
      refine ⟨_, pss_cons (ps_if (PW.pt (pw_or (pt_not (pt_val (pe_callB call_isiT (by rfl) T.isi (by decide +kernel) (pa_cons (pv 2) (pa_cons (pe_tup (pa_cons (pe_bltn (v := .ty "tuple") (by rfl) T.tuple boot_tuple rfl) (pa_cons (pe_bltn (v := .ty "list") (by rfl) T.list boot_list rfl) pa_nil))) pa_nil)))))
            (pw_or (pt_cmpR op_eq (pe_callB call_len_seq (by rfl) T.len PySem.boot_len (pa_cons (pv 2) pa_nil)) pe_int (nomark _))
            (pw_or1 (pt_cmpR op_eq (pe_call GD hr1 rfl mD kD bD .nil pass0 (pa_cons (pv 0) (pa_cons pe_int pa_nil))) pe_int (nomark _)))))) (pss_one (ps_ret (pe_call GA hr3 rfl mA kA bA .nil pass0 (pa_cons (pv 0) (pa_cons (pv 1) pa_nil))))) pss_nil)
        (pss_cons (ps_par3 (i := 3) (j := 4) (l := 5) (by rfl) scBentL.nd rfl rfl rfl (by decide) (by decide) (by decide) rfl rfl rfl (pa_cons (pe_call GD hr1 rfl mD kD bD .nil pass0 (pa_cons (pv 0) (pa_cons (pe_callB call_len_seq (by rfl) T.len PySem.boot_len (pa_cons (pv 2) pa_nil)) pa_nil)))
            (pa_cons (pe_call GD hr1 rfl mD kD bD .nil pass0 (pa_cons (pv 0) (pa_cons pe_int pa_nil))) (pa_cons (pe_callTy call_list_of (by rfl) T.list (by decide +kernel) (pa_cons (pv 2) pa_nil)) pa_nil))) (by rfl))
        (pss_cons (ps_if (pt_cmpR op_eq (pv 4) pe_int (nomark _)) (pss_one (ps_expr (pe_bm PySem.F.plainAttrs_list PySem.F.slot_list_pop PySem.F.type_list_pop mt_popAt (pv 5) (pa_cons (pv 3) pa_nil))))
          (pss_one (ps_if (pt_cmpR op_eq (pv 4) pe_int (nomark _)) (pss_one (ps_expr (pe_bm PySem.F.plainAttrs_list PySem.F.slot_list_insert PySem.F.type_list_insert mt_insert (pv 5) (pa_cons (pv 3) (pa_cons (pe_ix ix_list (pv 5) (pv 3) (fun _ _ => rfl)) pa_nil)))))
          (pss_one (ps_if (pt_cmpR op_eq (pv 4) pe_int (nomark _)) (pss_one (ps_expr (pe_bm PySem.F.plainAttrs_list PySem.F.slot_list_insert PySem.F.type_list_insert mt_insert (pv 5) (pa_cons (pv 3) (pa_cons (pe_call GA hr3 rfl mA kA bA .nil pass0 (pa_cons (pv 0) (pa_cons (pv 1) pa_nil))) pa_nil)))))
          (pss_one (ps_if (pt_cmpR op_eq (pv 4) pe_int (nomark _)) (pss_one (ps_expr (pe_bm0 PySem.F.plainAttrs_list PySem.F.slot_list_reverse PySem.F.type_list_reverse mt_reverse (pv 5))))
          (pss_one (ps_if (pt_cmpR op_eq (pv 4) pe_int (nomark _)) (pss_one (ps_ret (pe_ifExp (pt_val (pe_callB call_isi (by rfl) T.isi (by decide +kernel) (pa_cons (pv 2) (pa_cons (pe_bltn (v := .ty "tuple") (by rfl) T.tuple boot_tuple rfl) pa_nil)))) (pv 5) (pe_callTy call_tupleF (by rfl) T.tuple (by decide +kernel) (pa_cons (pv 5) pa_nil)))))
          (pss_one (ps_asg (pe_call GB hr rfl mF F.kp bF .nil pass0 (pa_cons (pv 0) (pa_cons (pv 1) (pa_cons (pe_ix ix_list (pv 5) (pv 3) (fun _ _ => rfl)) pa_nil)))) (pg_sub (pv 5) (pv 3) set_list))))))))))))
        (pss_one (ps_ret (pe_ifExp (pt_val (pe_callB call_isi (by rfl) T.isi (by decide +kernel) (pa_cons (pv 2) (pa_cons (pe_bltn (v := .ty "tuple") (by rfl) T.tuple boot_tuple rfl) pa_nil)))) (pe_callTy call_tupleF (by rfl) T.tuple (by decide +kernel) (pa_cons (pv 5) pa_nil)) (pv 5)))))), ?_⟩
      have any : ∀ (H1 : Hp), DeckAt H1 d → But d H H1 → spAnyL K [.ref d, .ref l] H1 Q E := fun H1 D1 B1 => ⟨d, l, js, rfl, D1, B1.lst D hLl, hjl, hjb, fun v' x' H' hv o z dp D' B' =>
        k v' x' H' (hv.same fun b u hb => by
          obtain ⟨e, q⟩ := ext_out hb
          rcases q with ⟨u2, q⟩ | q
          · cases q
          · exact ext_new (B1.free D1 q) e) o (by omega) (by omega) D' (B1.trans B')⟩
      have h16 := sizeLine_eq
      have kits : ∀ H', But d H H' → ∃ nm : String, TyX K H' v (.type nm) ∧ PySem.W.kitOne K (.type nm) (.type "tuple") = some (isTup x) ∧ PySem.W.kitOne K (.type nm) (.type "list") = some (isLst x) := fun H' B => (((hf.same hG).but D B).dv (K := K)).kit
      refine ⟨_, rfl, ⟨by show 2 ≤ sizeLine; omega, fun tp htp => ?_⟩⟩
      have s0 := Same.new (o := .tup [V.ty "tuple", V.ty "list"]) htp
      have D0 := D.same s0
      obtain ⟨nm, ty, e1, e2⟩ := kits _ (But.of s0)
      refine ⟨_, tp, _, _, _, _, rfl, upd_same, .cons (.ty _) (.cons (.ty _) .nil), ty, kitAny2 e1 e2, _, rfl, ?_⟩
      rcases (show (∃ (a : Addr) (vs : List V) (ds : List PyData) (c : Nat), v = .ref a ∧ (∀ H', But d H H' → SqL K H' a vs ∨ SqT K H' a vs) ∧ DFs G vs ds ∧ okAll ds = true ∧ szD x = szAll ds + c ∧ c ≤ 3 ∧ 2 ≤ c ∧ x.depth = PyData.depthAll ds + 1 ∧ (isTup x || isLst x) = true) ∨ (isTup x || isLst x) = false from by
        cases hf with
        | lst ha hs =>
          rename_i a vs ds
          exact .inl ⟨a, vs, ds, 2, rfl, fun H' B => .inl (SqL.of (B.lst D (hG _ _ ha))), hs, by rw [okD] at hok; exact hok, by rw [szD], by decide, by decide, by rw [PyData.depth], rfl⟩
        | tup ha hs =>
          rename_i a vs ds
          exact .inl ⟨a, vs, ds, 3, rfl, fun H' B => .inr (((ha.same hG).but D B).sq), hs, by rw [okD] at hok; exact hok, by rw [szD], by decide, by decide, by rw [PyData.depth], rfl⟩
        | _ => exact .inr rfl) with ⟨a, vs, ds, c, rfl, hS, hs, hok1, ez, hc3, hc2, ed, hty⟩ | hno
      · rw [hty]
        have hl := hs.length
        have hlen := szAll_len ds
        refine iteF ⟨_, rfl, a, vs, rfl, hS _ (But.of s0), rfl, _, rfl, ?_⟩
        rw [dInt]
        refine ite2 (fun _ => ?_) (fun cn => ?_)
        · exact ⟨_, rfl, _, rfl, any _ D0 (But.of s0)⟩
        have hpos : 0 < vs.length := by
          have : ¬ (((vs.length : Nat) : Int) = 0) := fun q => cn (decide_eq_true q)
          omega
        refine ⟨_, rfl, d, 8, rfl, D0, by decide, by decide, fun r H2 r0 r1 D2 B2 => ⟨rfl, _, rfl, ?_⟩⟩
        have B2' : But d H H2 := (But.of s0).trans B2
        refine ite2 (fun _ => ?_) (fun _ => ?_)
        · exact ⟨_, rfl, _, rfl, any _ D2 B2'⟩
        refine ⟨_, rfl, _, rfl, a, _, rfl, hS _ B2', d, _, rfl, D2, by omega, by omega, fun z H3 z0 z1 D3 B3 => ?_⟩
        obtain ⟨i, rfl⟩ : ∃ m : Nat, z = (m : Int) := ⟨z.toNat, by omega⟩
        refine ⟨_, rfl, d, 9, rfl, D3, by decide, by decide, fun wy H4 w0 w1 D4 B4 => ?_⟩
        have B4' : But d H H4 := (B2'.trans B3).trans B4
        refine ⟨_, rfl, a, vs, rfl, hS _ B4', fun p hp => ⟨_, _, _, rfl, ?_⟩⟩
        have s5 := Same.new (o := .lst vs) hp
        have D5 := D4.same s5
        have B5 : But d H _ := B4'.trans (But.of s5)
        have hp0' : H p = none := B4'.free D4 hp
        have hi : i < ds.length := by omega
        obtain ⟨e0, hx⟩ : ∃ e, ds[i]? = some e := ⟨_, List.getElem?_eq_getElem hi⟩
        have hpart := parted hx
        obtain ⟨A, hA⟩ : ∃ A, A = ds.take i := ⟨_, rfl⟩
        obtain ⟨B, hB⟩ : ∃ B, B = ds.drop (i + 1) := ⟨_, rfl⟩
        rw [← hA, ← hB] at hpart
        have dr0 : ds.drop i = e0 :: B := by
          rw [hB, List.drop_eq_getElem_cons hi]
          rw [List.getElem?_eq_getElem hi] at hx
          rw [Option.some.inj hx]
        have hsz2 : szAll ds = szAll A + (szD e0 + 2 + szAll B) := by rw [hpart, szAll_append, szAll]
        have hdp2 : PyData.depthAll ds = max (PyData.depthAll A) (max e0.depth (PyData.depthAll B)) := by rw [hpart, depthAll_append, PyData.depthAll]
        have hok2 := hok1
        rw [hpart, okAll_append, okAll, Bool.and_eq_true, Bool.and_eq_true] at hok2
        obtain ⟨oA, ox, oB⟩ := hok2
        have hvi : vs[i]? = some vs[i] := List.getElem?_eq_getElem (by omega)
        obtain ⟨e02, hx2, hvx⟩ := hs.at hvi
        rw [hx] at hx2
        obtain rfl := Option.some.inj hx2
        have old : ∀ {H' : Hp}, But d H H' → Same G (ext G H H') := fun B' b o hb => ext_old hb (B' b o (fun e => by rw [e, hGd] at hb; cases hb) (hG b o hb))
        have bt : ∀ {H' Hf : Hp} {o o' : HO}, H' p = some o → But d H H' → Hf = upd H' p o' → But d H Hf := fun hq B' e b u hb hbu => by
          rw [e, upd_ne (ne_of_none hbu hp0')]
          exact B' b u hb hbu
        have dk' : ∀ {H' : Hp} {o o' : HO}, H' p = some o → (∀ x y, o ≠ .dK (dk x y)) → DeckAt H' d → DeckAt (upd H' p o') d := fun hq hn ⟨x, y, hd, r⟩ => ⟨x, y, by rw [upd_ne (ne_of hq hd (hn _ _)).symm]; exact hd, r⟩
        -- what it ends with
        have finL : ∀ (ws : List V) (L : List PyData) (Hf : Hp), Hf p = some (.lst ws) → DFs (ext G H Hf) ws L → okAll L = true → szAll L ≤ 2 * szAll ds + 8000 → PyData.depthAll L ≤ PyData.depthAll ds + 2 → DeckAt Hf d → But d H Hf → Q (.ref p) Hf := fun ws L Hf a1 a2 a3 a4 a5 a6 a7 =>
          k (.ref p) (.list L) Hf (.lst (ext_new hp0' a1) a2) (by rw [okD]; exact a3) (by rw [szD, ez]; omega) (by rw [PyData.depth, ed]; omega) a6 a7
        have finT : ∀ (ws : List V) (L : List PyData) (Hf : Hp), Hf p = some (.lst ws) → DFs (ext G H Hf) ws L → okAll L = true → szAll L ≤ 2 * szAll ds + 8000 → PyData.depthAll L ≤ PyData.depthAll ds + 2 → DeckAt Hf d → But d H Hf → ∀ (q : Addr) (o : Obj), Hf q = none → o.dict = none → Q (.ref q) (upd Hf q (.frz o (.tup ws))) := fun ws L Hf a1 a2 a3 a4 a5 a6 a7 q o hq ho =>
          have sq := Same.new (o := .frz o (.tup ws)) hq
          k (.ref q) (.tuple L) _ (.tup ((FzT.mk ho).ext (a7.free a6 hq)) (a2.same (ext_step sq))) (by rw [okD]; exact a3) (by rw [szD, ez]; omega) (by rw [PyData.depth, ed]; omega) (a6.same sq) (a7.trans (But.of sq))
        have c10 : ∀ m : Nat, (vs.take m).length ≤ vs.length := fun m => by rw [List.length_take]; omega
        have c11 : ∀ m : Nat, (vs.drop m).length ≤ vs.length := fun m => by rw [List.length_drop]; omega
        have i1 := c10 i
        have i3 := c11 i
        -- way == 0
        refine ⟨_, rfl, rfl, _, rfl, ?_⟩
        refine ite2 (fun _ => ?_) (fun _ => ?_)
        · refine ⟨_, rfl, .inl ⟨rfl, _, SqL.of upd_same⟩, _, rfl, p, _, _, i, vs[i], rfl, rfl, upd_same, by omega, by omega, seqIndex_nat (by omega), hvi, ?_⟩
          have Bf := bt (o' := .lst (vs.eraseIdx i)) (upd_same (H := H4) (a := p) (o := .lst vs)) B5 rfl
          have Df := dk' (o' := .lst (vs.eraseIdx i)) (upd_same (H := H4) (a := p) (o := .lst vs)) nl D5
          have dfs : DFs (ext G H (upd (upd H4 p (.lst vs)) p (.lst (vs.eraseIdx i)))) (vs.eraseIdx i) (A ++ B) := by
            have ev := List.eraseIdx_eq_take_drop_succ vs i
            have q : DFs (ext G H (upd (upd H4 p (.lst vs)) p (.lst (vs.eraseIdx i)))) (vs.take i ++ vs.drop (i + 1)) (A ++ B) := by
              rw [hA, hB]
              exact DFs.append ((hs.same (old Bf)).take i) ((hs.same (old Bf)).drop (i + 1))
            rw [← ev] at q
            exact q
          have g3 : okAll (A ++ B) = true := by rw [okAll_append, oA, oB]; rfl
          have g4 : szAll (A ++ B) ≤ 2 * szAll ds + 8000 := by rw [szAll_append]; omega
          have g5 : PyData.depthAll (A ++ B) ≤ PyData.depthAll ds + 2 := by rw [depthAll_append]; omega
          obtain ⟨nm9, ty9, e91, _⟩ := kits _ Bf
          refine ⟨_, rfl, _, _, _, _, _, rfl, .ty _, ty9, e91, _, rfl, ?_⟩
          refine ite2 (fun _ => ?_) (fun _ => ?_)
          · exact ⟨_, rfl, p, _, rfl, SqL.of upd_same, finT _ _ _ upd_same dfs g3 g4 g5 Df Bf⟩
          · exact ⟨_, rfl, finL _ _ _ upd_same dfs g3 g4 g5 Df Bf⟩
        -- way == 1
        refine ⟨_, rfl, rfl, _, rfl, ?_⟩
        refine ite2 (fun _ => ?_) (fun _ => ?_)
        · refine ⟨_, rfl, .inl ⟨rfl, _, SqL.of upd_same⟩, _, rfl, _, rfl, _, rfl, p, _, _, _, rfl, rfl, SqL.of upd_same, atI_nat hvi, p, vs, (i : Int), vs[i], rfl, rfl, upd_same, by omega, by omega, by omega, ?_⟩
          rw [insert_nat]
          have Bf := bt (o' := .lst (vs.take i ++ [vs[i]] ++ vs.drop i)) (upd_same (H := H4) (a := p) (o := .lst vs)) B5 rfl
          have Df := dk' (o' := .lst (vs.take i ++ [vs[i]] ++ vs.drop i)) (upd_same (H := H4) (a := p) (o := .lst vs)) nl D5
          have dfs : DFs (ext G H (upd (upd H4 p (.lst vs)) p (.lst (vs.take i ++ [vs[i]] ++ vs.drop i)))) (vs.take i ++ [vs[i]] ++ vs.drop i) (A ++ [e0] ++ e0 :: B) := by
            rw [hA, ← dr0]
            exact DFs.append (DFs.append ((hs.same (old Bf)).take i) (.cons (hvx.same (old Bf)) .nil)) ((hs.same (old Bf)).drop i)
          have g3 : okAll (A ++ [e0] ++ e0 :: B) = true := by rw [okAll_append, okAll_append, okAll, okAll, okAll, oA, oB, ox]; rfl
          have g4 : szAll (A ++ [e0] ++ e0 :: B) ≤ 2 * szAll ds + 8000 := by rw [szAll_append, szAll_append, szAll, szAll, szAll]; omega
          have g5 : PyData.depthAll (A ++ [e0] ++ e0 :: B) ≤ PyData.depthAll ds + 2 := by rw [depthAll_append, depthAll_append, PyData.depthAll, PyData.depthAll, PyData.depthAll]; omega
          obtain ⟨nm9, ty9, e91, _⟩ := kits _ Bf
          refine ⟨_, rfl, _, _, _, _, _, rfl, .ty _, ty9, e91, _, rfl, ?_⟩
          refine ite2 (fun _ => ?_) (fun _ => ?_)
          · exact ⟨_, rfl, p, _, rfl, SqL.of upd_same, finT _ _ _ upd_same dfs g3 g4 g5 Df Bf⟩
          · exact ⟨_, rfl, finL _ _ _ upd_same dfs g3 g4 g5 Df Bf⟩
        -- way == 2
        refine ⟨_, rfl, rfl, _, rfl, ?_⟩
        refine ite2 (fun _ => ?_) (fun _ => ?_)
        · refine ⟨_, rfl, .inl ⟨rfl, _, SqL.of upd_same⟩, _, rfl, _, rfl, _, rfl, d, l, js, rfl, D5, B5.lst D hLl, hjl, hjb, fun y dy H6 hy oy zy py D6 B6 => ?_⟩
          have hp6 : H6 p = some (.lst vs) := B6.lst D5 upd_same
          refine ⟨p, vs, (i : Int), y, rfl, rfl, hp6, by omega, by omega, by omega, ?_⟩
          rw [insert_nat]
          have Bf := bt (o' := .lst (vs.take i ++ [y] ++ vs.drop i)) hp6 (B5.trans B6) rfl
          have Df := dk' (o' := .lst (vs.take i ++ [y] ++ vs.drop i)) hp6 nl D6
          have hy2 : DF (ext G H (upd H6 p (.lst (vs.take i ++ [y] ++ vs.drop i)))) y dy := hy.same fun b u hb => by
            obtain ⟨e, q⟩ := ext_out hb
            rcases q with ⟨u2, q⟩ | q
            · cases q
            · refine ext_new (B5.free D5 q) ?_
              rw [upd_ne (fun e9 => by rw [e9, upd_same] at q; cases q)]
              exact e
          have dfs : DFs (ext G H (upd H6 p (.lst (vs.take i ++ [y] ++ vs.drop i)))) (vs.take i ++ [y] ++ vs.drop i) (A ++ [dy] ++ e0 :: B) := by
            rw [hA, ← dr0]
            exact DFs.append (DFs.append ((hs.same (old Bf)).take i) (.cons hy2 .nil)) ((hs.same (old Bf)).drop i)
          have g3 : okAll (A ++ [dy] ++ e0 :: B) = true := by rw [okAll_append, okAll_append, okAll, okAll, okAll, oA, oB, ox, oy]; rfl
          have g4 : szAll (A ++ [dy] ++ e0 :: B) ≤ 2 * szAll ds + 8000 := by rw [szAll_append, szAll_append, szAll, szAll, szAll]; omega
          have g5 : PyData.depthAll (A ++ [dy] ++ e0 :: B) ≤ PyData.depthAll ds + 2 := by rw [depthAll_append, depthAll_append, PyData.depthAll, PyData.depthAll, PyData.depthAll]; omega
          obtain ⟨nm9, ty9, e91, _⟩ := kits _ Bf
          refine ⟨_, rfl, _, _, _, _, _, rfl, .ty _, ty9, e91, _, rfl, ?_⟩
          refine ite2 (fun _ => ?_) (fun _ => ?_)
          · exact ⟨_, rfl, p, _, rfl, SqL.of upd_same, finT _ _ _ upd_same dfs g3 g4 g5 Df Bf⟩
          · exact ⟨_, rfl, finL _ _ _ upd_same dfs g3 g4 g5 Df Bf⟩
        -- way == 3
        refine ⟨_, rfl, rfl, _, rfl, ?_⟩
        refine ite2 (fun _ => ?_) (fun _ => ?_)
        · refine ⟨_, rfl, .inl ⟨rfl, _, SqL.of upd_same⟩, p, vs, rfl, rfl, upd_same, ?_⟩
          have Bf := bt (o' := .lst vs.reverse) (upd_same (H := H4) (a := p) (o := .lst vs)) B5 rfl
          have Df := dk' (o' := .lst vs.reverse) (upd_same (H := H4) (a := p) (o := .lst vs)) nl D5
          have dfs : DFs (ext G H (upd (upd H4 p (.lst vs)) p (.lst vs.reverse))) vs.reverse ds.reverse := DFs.reverse (hs.same (old Bf))
          have g3 : okAll ds.reverse = true := by rw [okAll_rev]; exact hok1
          have g4 : szAll ds.reverse ≤ 2 * szAll ds + 8000 := by rw [szAll_rev]; omega
          have g5 : PyData.depthAll ds.reverse ≤ PyData.depthAll ds + 2 := by rw [depthAll_rev]; omega
          obtain ⟨nm9, ty9, e91, _⟩ := kits _ Bf
          refine ⟨_, rfl, _, _, _, _, _, rfl, .ty _, ty9, e91, _, rfl, ?_⟩
          refine ite2 (fun _ => ?_) (fun _ => ?_)
          · exact ⟨_, rfl, p, _, rfl, SqL.of upd_same, finT _ _ _ upd_same dfs g3 g4 g5 Df Bf⟩
          · exact ⟨_, rfl, finL _ _ _ upd_same dfs g3 g4 g5 Df Bf⟩
        -- way == 4
        refine ⟨_, rfl, rfl, _, rfl, ?_⟩
        refine ite2 (fun _ => ?_) (fun _ => ?_)
        · have dfs : DFs (ext G H (upd H4 p (.lst vs))) vs ds := hs.same (old B5)
          obtain ⟨nm9, ty9, e91, _⟩ := kits _ B5
          refine ⟨_, rfl, _, _, _, _, _, rfl, .ty _, ty9, e91, _, rfl, ?_⟩
          refine ite2 (fun _ => ?_) (fun _ => ?_)
          · exact ⟨_, rfl, finL _ _ _ upd_same dfs hok1 (by omega) (by omega) D5 B5⟩
          · exact ⟨_, rfl, p, _, rfl, SqL.of upd_same, finT _ _ _ upd_same dfs hok1 (by omega) (by omega) D5 B5⟩
        -- a part bent
        · refine ⟨_, rfl, _, rfl, _, rfl, _, rfl, p, _, _, _, rfl, rfl, SqL.of upd_same, atI_nat hvi, d, l, js, vs[i], e0, G, rfl, D5, B5.lst D hLl, hjl, hjb, ?_, hGd, hvx, ox, by omega, by omega, fun y dy H6 hy oy zy py D6 B6 => ?_⟩
          · intro b o hb
            exact B5 b o (fun e => by rw [e, hGd] at hb; cases hb) (hG b o hb)
          have hp6 : H6 p = some (.lst vs) := B6.lst D5 upd_same
          refine ⟨_, rfl, _, rfl, p, vs, (i : Int), i, rfl, rfl, hp6, ixN_nat (by omega), ?_⟩
          have Bf := bt (o' := .lst (vs.set i y)) hp6 (B5.trans B6) rfl
          have Df := dk' (o' := .lst (vs.set i y)) hp6 nl D6
          have hGp : G p = none := by
            cases e : G p with
            | none => rfl
            | some u => rw [hG _ _ e] at hp0'; cases hp0'
          have hy2 : DF (ext G H (upd H6 p (.lst (vs.set i y)))) y dy := hy.same fun b u hb => by
            obtain ⟨e, q⟩ := ext_out hb
            have nb : b ≠ p := fun e9 => by
              rcases q with ⟨u2, q⟩ | q
              · rw [e9, hGp] at q; cases q
              · rw [e9, upd_same] at q; cases q
            have e' : upd H6 p (.lst (vs.set i y)) b = some u := by rw [upd_ne nb]; exact e
            rcases q with ⟨u2, q⟩ | q
            · exact ext_old q e'
            · exact ext_new (B5.free D5 q) e'
          have dfs : DFs (ext G H (upd H6 p (.lst (vs.set i y)))) (vs.set i y) (A ++ dy :: B) := by
            have ev : vs.set i y = vs.take i ++ y :: vs.drop (i + 1) := by rw [List.set_eq_take_append_cons_drop, if_pos (by omega)]
            have q : DFs (ext G H (upd H6 p (.lst (vs.set i y)))) (vs.take i ++ y :: vs.drop (i + 1)) (A ++ dy :: B) := by
              rw [hA, hB]
              exact DFs.append ((hs.same (old Bf)).take i) (.cons hy2 ((hs.same (old Bf)).drop (i + 1)))
            rw [← ev] at q
            exact q
          have g3 : okAll (A ++ dy :: B) = true := by rw [okAll_append, okAll, oA, oB, oy]; rfl
          have g4 : szAll (A ++ dy :: B) ≤ 2 * szAll ds + 8000 := by rw [szAll_append, szAll]; omega
          have g5 : PyData.depthAll (A ++ dy :: B) ≤ PyData.depthAll ds + 2 := by rw [depthAll_append, PyData.depthAll]; omega
          obtain ⟨nm9, ty9, e91, _⟩ := kits _ Bf
          refine ⟨_, rfl, _, _, _, _, _, rfl, .ty _, ty9, e91, _, rfl, ?_⟩
          refine ite2 (fun _ => ?_) (fun _ => ?_)
          · exact ⟨_, rfl, p, _, rfl, SqL.of upd_same, finT _ _ _ upd_same dfs g3 g4 g5 Df Bf⟩
          · exact ⟨_, rfl, finL _ _ _ upd_same dfs g3 g4 g5 Df Bf⟩
      · rw [hno]
        exact iteT ⟨_, rfl, _, rfl, any _ D0 (But.of s0)⟩
end
structure Fn (K : PySem.W.Frag) (mg : Str → Option Value) (x : Str) (st : Stmt) (ps : List Str) (f : Addr) (fd : FuncData) : Prop where
  F : Fun K x x st f fd
  b : L2.Binds K fd ps []
  m : mg x = some (.ref f)
theorem few_of_sz {ds : List PyData} (h : szAll ds ≤ 100000) : fewD ds := by
  refine ⟨by have := szAll_len ds; omega, fun hw => ?_⟩
  have e := ints_back ds hw
  rw [e, szAll_ints] at h
  rw [List.length_map] at h
  omega
theorem boolsOk (a b : Bool) : okD (.list [.bool a, .bool b]) = true ∧ (PyData.list [.bool a, .bool b]).depth ≤ 40 ∧ szD (.list [.bool a, .bool b]) ≤ 1000000 := by
  refine ⟨?_, ?_, ?_⟩
  · rw [okD, okAll, okAll, okAll, okD, okD]; rfl
  · rw [PyData.depth, PyData.depthAll, PyData.depthAll, PyData.depthAll, PyData.depth, PyData.depth]; decide
  · rw [szD, szAll, szAll, szAll, szD, szD]; decide
section
variable {P : Program} {w : World} {K : PySem.W.Frag} {mg : Str → Option Value} {base : Heap}
def spToldL (K : PySem.W.Frag) : Sp := fun vs H Q _ => ∃ (l : Addr) (js : List Int) (v : V) (x : PyData), vs = [.ref l, v] ∧ H l = some (.lst (js.map V.int)) ∧ js.length ≤ 10 ∧ (∀ z ∈ js, 1 ≤ z ∧ z ≤ 1000000) ∧
  DF H v x ∧ okD x = true ∧ szD x ≤ 100000 ∧ x.depth ≤ 20 ∧ ∀ H', Same H H' → Q (.bl true) H'
theorem scToldL : FnScope ["line", "thing", "kept", "due"] ["line", "thing"] (defScope sTold) := ⟨rfl, rfl, rfl, by decide +kernel, rfl, by decide +kernel, by decide +kernel⟩
theorem ok_toldL {f fO fM fR fD fMd : Addr} {fd fdO fdM fdR fdD fdMd : FuncData} (F : Fun K "_law_told" "_law_told" sTold f fd) (T : TxtV mg) (hrp : mg "repr" = none)
    (Or' : Fn K mg "is_order" sIsOrder ["value"] fO fdO) (GO : FnOk P w K mg base CX0 4 fO fdO ["value"] (spIsOrder K))
    (Mo : Fn K mg "is_move" sIsMove ["order", "value"] fM fdM) (GM : FnOk P w K mg base CX0 3 fM fdM ["order", "value"] (spIsMove K))
    (Re : Fn K mg "_law_refused" sRefused ["line", "thing"] fR fdR) (GR : FnOk P w K mg base CX0 5 fR fdR ["line", "thing"] (spRefd K))
    (Di : Fn K mg "_law_different" sLawDiff ["things"] fD fdD) (GD : FnOk P w K mg base CX0 2 fD fdD ["things"] (spDif K))
    (Md : Fn K mg "_law_move_due" sMoveDue ["line", "thing"] fMd fdMd) (GMd : FnOk P w K mg base CX0 3 fMd fdMd ["line", "thing"] (spMvDue K)) :
    FnG P w K mg base 6 f fd ["line", "thing"] (spToldL K) := by
  refine FnG.mk' F scToldL (fun vs H Q E h => ?_) (fun cdv A outer s H vs Q E hg hr h => ?_)
  · obtain ⟨l, js, v, x, rfl, _⟩ := h
    rfl
  · obtain ⟨l, js, v, x, rfl, hL, hjl, hjb, hf, hok, hsz, hdep, k⟩ := h
    have hr2 : Room 2 _ := hr.mono (by decide)
    have hr3 : Room 3 _ := hr.mono (by decide)
    have hr4 : Room 4 _ := hr.mono (by decide)
    have h64 := hu64 hr
    refine ⟨_, pss_cons (ps_set (i := 2) scToldL.nd rfl (Or.inl rfl) (pe_callB (call_repr2 hg h64) (by rfl) hrp (by decide +kernel) (pa_cons (pe_tup (pa_cons (pv 0) (pa_cons (pv 1) pa_nil))) pa_nil)))
      (pss_cons (ps_set (i := 3) scToldL.nd rfl (Or.inl rfl) (pe_lst (pa_cons (pe_and (pe_callB call_isi (by rfl) T.isi (by decide +kernel) (pa_cons (pv 1) (pa_cons (pe_bltn (v := .ty "list") (by rfl) T.list boot_list rfl) pa_nil)))
          (pe_one (pe_call GD hr2 rfl Di.m Di.F.kp Di.b .nil pass0 (pa_cons (pv 1) pa_nil)))) (pa_cons (pe_call GMd hr3 rfl Md.m Md.F.kp Md.b .nil pass0 (pa_cons (pv 0) (pa_cons (pv 1) pa_nil))) pa_nil))))
      (pss_cons (ps_if (pt_cmpR op_ne (pe_callB (call_repr2 hg h64) (by rfl) hrp (by decide +kernel) (pa_cons (pe_lst (pa_cons (pe_call GO hr4 rfl Or'.m Or'.F.kp Or'.b .nil pass0 (pa_cons (pv 1) pa_nil)) (pa_cons (pe_call GM hr3 rfl Mo.m Mo.F.kp Mo.b .nil pass0 (pa_cons (pv 0) (pa_cons (pv 1) pa_nil))) pa_nil))) pa_nil))
          (pe_callB (call_repr2 hg h64) (by rfl) hrp (by decide +kernel) (pa_cons (pv 3) pa_nil)) (nomark _)) (pss_one (ps_ret pe_bl)) pss_nil)
      (pss_one (ps_ret (pe_and (pe_or (pe_ix ix_list (pv 3) pe_int (fun _ _ => rfl)) (pe_one (pe_cmpR op_eq (pe_callB (call_repr2 hg h64) (by rfl) hrp (by decide +kernel) (pa_cons (pe_call GR hr rfl Re.m Re.F.kp Re.b .nil pass0 (pa_cons (pv 0) (pa_cons (pv 1) pa_nil))) pa_nil))
          (pe_callB (call_repr2 hg h64) (by rfl) hrp (by decide +kernel) (pa_cons (pe_lst (pa_cons (pv 1) pa_nil)) pa_nil)) (nomark _))))
          (pe_one (pe_cmpR op_eq (pe_callB (call_repr2 hg h64) (by rfl) hrp (by decide +kernel) (pa_cons (pe_tup (pa_cons (pv 0) (pa_cons (pv 1) pa_nil))) pa_nil)) (pv 2) (nomark _)))))))), ?_⟩
    have h16 := sizeLine_eq
    have hdv : ∀ H', Same H H' → DV K H' v x := fun H' s => (hf.same s).dv
    have hlv : ∀ H', Same H H' → DV K H' (.ref l) (.list (js.map .int)) := fun H' s => .lst (SqL.of (s _ _ hL)) (DVs.ints js)
    obtain ⟨X2, hX2⟩ : ∃ X2, X2 = PyData.tuple [.list (js.map .int), x] := ⟨_, rfl⟩
    have o2 : okD X2 = true := by
      rw [hX2, okD, okAll, okAll, okAll, okD, hok, okAll_ints5 js fun z hz => by have := hjb z hz; exact small_abs (by omega) (by omega)]
      rfl
    have d2 : X2.depth ≤ 40 := by
      rw [hX2, PyData.depth, PyData.depthAll, PyData.depthAll, PyData.depthAll, PyData.depth, depthAll_ints5]
      omega
    have z2 : szD X2 ≤ 1000000 := by
      have : szAll (js.map PyData.int) ≤ 3030 := by rw [szAll_ints]; omega
      rw [hX2, szD, szAll, szAll, szAll, szD]
      omega
    have small : smallM x := by
      rintro ds b rfl
      rw [szD, szAll, szD] at hsz
      exact few_of_sz (by omega)
    have few : ∀ ds, x = .list ds → fewD ds := by
      rintro ds rfl
      rw [szD] at hsz
      exact few_of_sz (by omega)
    -- kept
    refine ⟨_, rfl, _, rfl, ⟨by show 2 ≤ sizeLine; omega, fun t1 ht1 => ?_⟩⟩
    have s1 := Same.new (o := .tup [V.ref l, v]) ht1
    refine ⟨_, X2, rfl, by rw [hX2]; exact .tup (SqT.of upd_same) (.cons (hlv _ s1) (.cons (hdv _ s1) .nil)), o2, d2, z2, ?_⟩
    -- due
    obtain ⟨nm, ty, _, e2⟩ := (hdv _ s1).kit
    refine ⟨_, rfl, _, _, _, _, _, rfl, .ty _, ty, e2, _, rfl, ?_⟩
    obtain ⟨mv, hmv⟩ : ∃ mv, mv = isMove js x := ⟨_, rfl⟩
    have o3 : okD (.list [x]) = true := by rw [okD, okAll, okAll, hok]; rfl
    have d3 : (PyData.list [x]).depth ≤ 40 := by rw [PyData.depth, PyData.depthAll, PyData.depthAll]; omega
    have z3 : szD (.list [x]) ≤ 1000000 := by rw [szD, szAll, szAll]; omega
    by_cases hli : ∃ ds, x = .list ds
    · obtain ⟨ds, rfl⟩ := hli
      cases hf with
      | lst ha hs =>
        rename_i a xs
        have hf : DF H (.ref a) (.list ds) := .lst ha hs
        refine iteT ⟨_, rfl, a, xs, ds, rfl, .inl (SqL.of (s1 _ _ ha)), (hs.same s1).dv, (few ds rfl).1, fun H2 s2' => ?_⟩
        have s2 := s1.trans s2'
        obtain ⟨b, hbo⟩ : ∃ b, b = isOrderD (.list ds) := ⟨_, rfl⟩
        have hbo2 : idsL ds = b := hbo.symm
        rw [hbo2]
        refine ⟨_, rfl, _, rfl, l, js, _, _, rfl, SqL.of (s2 _ _ hL), hjb, hf.same s2, small, fun H3 s3 => ?_⟩
        rw [← hmv]
        have s23 := s2.trans s3
        refine ⟨by show 2 ≤ sizeLine; omega, fun q hq => ?_⟩
        have s4 := Same.new (o := .lst [V.bl b, V.bl mv]) hq
        have hq4 : (upd H3 q (.lst [V.bl b, V.bl mv])) q = some (.lst [V.bl b, V.bl mv]) := upd_same
        have s24 := s23.trans s4
        refine ⟨_, rfl, _, _, rfl, hdv _ s24, few, fun H5 s5 => ?_⟩
        rw [← hbo]
        refine ⟨_, rfl, _, rfl, l, js, _, _, rfl, SqL.of ((s24.trans s5) _ _ hL), by omega, hdv _ (s24.trans s5), small, fun H6 s6 => ?_⟩
        rw [← hmv]
        have s26 := (s24.trans s5).trans s6
        refine ⟨by show 2 ≤ sizeLine; omega, fun q2 hq2 => ?_⟩
        have s7 := Same.new (o := .lst [V.bl b, V.bl mv]) hq2
        obtain ⟨y1, y2, y3⟩ := boolsOk b mv
        refine ⟨_, .list [.bool b, .bool mv], rfl, .lst (SqL.of upd_same) (.cons (.bl _) (.cons (.bl _) .nil)), y1, y2, y3, ?_⟩
        refine ⟨_, rfl, _, .list [.bool b, .bool mv], rfl, .lst (SqL.of ((s5.trans (s6.trans s7)) _ _ hq4)) (.cons (.bl _) (.cons (.bl _) .nil)), y1, y2, y3, rfl, _, rfl, ?_⟩
        rw [decide_eq_true rfl]
        refine iteF ?_
        have s8 := s26.trans s7
        have fin : ∀ H9, Same H H9 → ∀ (t9 : Addr), H9 t9 = none → DV K (upd H9 t9 (.tup [V.ref l, V.ref a])) (.ref t9) X2 := fun H9 s9 t9 ht9 => by
          have s10 := s9.trans (Same.new (o := .tup [V.ref l, V.ref a]) ht9)
          rw [hX2]
          exact .tup (SqT.of upd_same) (.cons (hlv _ s10) (.cons (hdv _ s10) .nil))
        refine ⟨_, rfl, q, _, _, _, rfl, rfl, SqL.of ((s5.trans (s6.trans s7)) _ _ hq4), at_of (j := 1) rfl rfl, _, rfl, ?_⟩
        cases mv with
        | true =>
          refine iteT ⟨_, rfl, iteT ?_⟩
          refine ⟨_, rfl, _, rfl, ⟨by show 2 ≤ sizeLine; omega, fun t9 ht9 => ?_⟩⟩
          refine ⟨_, X2, rfl, fin _ s8 t9 ht9, o2, d2, z2, _, rfl, rfl, ?_⟩
          rw [decide_eq_true rfl]
          exact k _ (s8.trans (Same.new ht9))
        | false =>
          refine iteF ?_
          refine ⟨_, rfl, _, rfl, l, js, _, _, rfl, SqL.of (s8 _ _ hL), by omega, hdv _ s8, small, fun p H9 hp s9 hp9 => ?_⟩
          rw [← hmv, if_neg Bool.false_ne_true] at hp9
          have s89 := s8.trans s9
          refine ⟨_, .list [.list ds], rfl, .lst (SqL.of hp9) (.cons (hdv _ s89) .nil), o3, d3, z3, ?_⟩
          refine ⟨_, rfl, ⟨by show 1 ≤ sizeLine; omega, fun q3 hq3 => ?_⟩⟩
          have s10 := s89.trans (Same.new (o := .lst [V.ref a]) hq3)
          refine ⟨_, .list [.list ds], rfl, .lst (SqL.of upd_same) (.cons (hdv _ s10) .nil), o3, d3, z3, rfl, ?_⟩
          rw [decide_eq_true rfl]
          refine ⟨_, rfl, iteT ?_⟩
          refine ⟨_, rfl, _, rfl, ⟨by show 2 ≤ sizeLine; omega, fun t9 ht9 => ?_⟩⟩
          refine ⟨_, X2, rfl, fin _ s10 t9 ht9, o2, d2, z2, _, rfl, rfl, ?_⟩
          rw [decide_eq_true rfl]
          exact k _ (s10.trans (Same.new ht9))
    · have hbo : false = isOrderD x := by
        cases x with
        | list ds => exact absurd ⟨ds, rfl⟩ hli
        | _ => rfl
      have hlf : isLst x = false := by
        cases x with
        | list ds => exact absurd ⟨ds, rfl⟩ hli
        | _ => rfl
      rw [hlf]
      refine iteF ?_
      have s2 := s1
      refine ⟨_, rfl, _, rfl, l, js, v, x, rfl, SqL.of (s2 _ _ hL), hjb, hf.same s2, small, fun H3 s3 => ?_⟩
      rw [← hmv]
      have s23 := s2.trans s3
      refine ⟨by show 2 ≤ sizeLine; omega, fun q hq => ?_⟩
      have s4 := Same.new (o := .lst [V.bl false, V.bl mv]) hq
      have hq4 : (upd H3 q (.lst [V.bl false, V.bl mv])) q = some (.lst [V.bl false, V.bl mv]) := upd_same
      have s24 := s23.trans s4
      refine ⟨_, rfl, v, x, rfl, hdv _ s24, few, fun H5 s5 => ?_⟩
      rw [← hbo]
      refine ⟨_, rfl, _, rfl, l, js, v, x, rfl, SqL.of ((s24.trans s5) _ _ hL), by omega, hdv _ (s24.trans s5), small, fun H6 s6 => ?_⟩
      rw [← hmv]
      have s26 := (s24.trans s5).trans s6
      refine ⟨by show 2 ≤ sizeLine; omega, fun q2 hq2 => ?_⟩
      have s7 := Same.new (o := .lst [V.bl false, V.bl mv]) hq2
      obtain ⟨y1, y2, y3⟩ := boolsOk false mv
      refine ⟨_, .list [.bool false, .bool mv], rfl, .lst (SqL.of upd_same) (.cons (.bl _) (.cons (.bl _) .nil)), y1, y2, y3, ?_⟩
      refine ⟨_, rfl, _, .list [.bool false, .bool mv], rfl, .lst (SqL.of ((s5.trans (s6.trans s7)) _ _ hq4)) (.cons (.bl _) (.cons (.bl _) .nil)), y1, y2, y3, rfl, _, rfl, ?_⟩
      rw [decide_eq_true rfl]
      refine iteF ?_
      have s8 := s26.trans s7
      have fin : ∀ H9, Same H H9 → ∀ (t9 : Addr), H9 t9 = none → DV K (upd H9 t9 (.tup [V.ref l, v])) (.ref t9) X2 := fun H9 s9 t9 ht9 => by
        have s10 := s9.trans (Same.new (o := .tup [V.ref l, v]) ht9)
        rw [hX2]
        exact .tup (SqT.of upd_same) (.cons (hlv _ s10) (.cons (hdv _ s10) .nil))
      refine ⟨_, rfl, q, _, _, _, rfl, rfl, SqL.of ((s5.trans (s6.trans s7)) _ _ hq4), at_of (j := 1) rfl rfl, _, rfl, ?_⟩
      cases mv with
      | true =>
        refine iteT ⟨_, rfl, iteT ?_⟩
        refine ⟨_, rfl, _, rfl, ⟨by show 2 ≤ sizeLine; omega, fun t9 ht9 => ?_⟩⟩
        refine ⟨_, X2, rfl, fin _ s8 t9 ht9, o2, d2, z2, _, rfl, rfl, ?_⟩
        rw [decide_eq_true rfl]
        exact k _ (s8.trans (Same.new ht9))
      | false =>
        refine iteF ?_
        refine ⟨_, rfl, _, rfl, l, js, v, x, rfl, SqL.of (s8 _ _ hL), by omega, hdv _ s8, small, fun p H9 hp s9 hp9 => ?_⟩
        rw [← hmv, if_neg Bool.false_ne_true] at hp9
        have s89 := s8.trans s9
        refine ⟨_, .list [x], rfl, .lst (SqL.of hp9) (.cons (hdv _ s89) .nil), o3, d3, z3, ?_⟩
        refine ⟨_, rfl, ⟨by show 1 ≤ sizeLine; omega, fun q3 hq3 => ?_⟩⟩
        have s10 := s89.trans (Same.new (o := .lst [v]) hq3)
        refine ⟨_, .list [x], rfl, .lst (SqL.of upd_same) (.cons (hdv _ s10) .nil), o3, d3, z3, rfl, ?_⟩
        rw [decide_eq_true rfl]
        refine ⟨_, rfl, iteT ?_⟩
        refine ⟨_, rfl, _, rfl, ⟨by show 2 ≤ sizeLine; omega, fun t9 ht9 => ?_⟩⟩
        refine ⟨_, X2, rfl, fin _ s10 t9 ht9, o2, d2, z2, _, rfl, rfl, ?_⟩
        rw [decide_eq_true rfl]
        exact k _ (s10.trans (Same.new ht9))
end
structure TxtL (mg : Str → Option Value) : Prop where
  range : mg "range" = none
  max : mg "max" = none
  min : mg "min" = none
  tuple : mg "tuple" = none
def hid (d : Addr) (H : Hp) : Hp := fun b => if b = d then none else H b
def hid2 (t d : Addr) (H : Hp) : Hp := fun b => if b = t ∨ b = d then none else H b
theorem hid_but {d : Addr} {H : Hp} : But d H (hid d H) := fun b o hb e => by unfold hid; rw [if_neg hb]; exact e
theorem hid_at {d : Addr} {H : Hp} : hid d H d = none := by unfold hid; rw [if_pos rfl]
theorem hid_some {d b : Addr} {H : Hp} {o : HO} (h : hid d H b = some o) : b ≠ d ∧ H b = some o := by
  unfold hid at h
  split at h
  · cases h
  · rename_i c; exact ⟨c, h⟩
theorem hid2_some {t d b : Addr} {H : Hp} {o : HO} (h : hid2 t d H b = some o) : b ≠ t ∧ b ≠ d ∧ H b = some o := by
  unfold hid2 at h
  split at h
  · cases h
  · rename_i c; exact ⟨fun e => c (.inl e), fun e => c (.inr e), h⟩
theorem hid2_mk {t d b : Addr} {H : Hp} {o : HO} (h1 : b ≠ t) (h2 : b ≠ d) (h : H b = some o) : hid2 t d H b = some o := by
  unfold hid2
  rw [if_neg (fun c => c.elim h1 h2)]
  exact h
theorem hid2_but {t d : Addr} {H H' : Hp} (s : But d H H') : Same (hid2 t d H) (hid2 t d H') := fun b o e => let ⟨a1, a2, a3⟩ := hid2_some e; hid2_mk a1 a2 (s b o a2 a3)
theorem hid2_put {t d : Addr} {H : Hp} {o : HO} : Same (hid2 t d H) (hid2 t d (upd H t o)) := fun b u e => let ⟨a1, a2, a3⟩ := hid2_some e; hid2_mk a1 a2 (by rw [upd_ne a1]; exact a3)
theorem hid2_up {t d : Addr} {H : Hp} : Same (hid2 t d H) H := fun b o e => (hid2_some e).2.2
structure Th5 (x : PyData) : Prop where
  ok : okD x = true
  sz : szD x ≤ 4100
  dep : x.depth ≤ 2
structure Okx (x : PyData) : Prop where
  ok : okD x = true
  sz : szD x ≤ 100000
  dep : x.depth ≤ 20
theorem th_fine {x : PyData} (h : fine5 x = true) : Th5 x := by
  unfold fine5 at h
  rw [Bool.and_eq_true, Bool.and_eq_true] at h
  exact ⟨h.1, by have := of_decide_eq_true h.2.1; omega, of_decide_eq_true h.2.2⟩
theorem th_list {js : List Int} (hb : ∀ z ∈ js, 1 ≤ z ∧ z ≤ 1000000) (hl : js.length ≤ 10) : Th5 (.list (js.map .int)) := by
  have hs : szAll (js.map PyData.int) ≤ 3030 := by rw [szAll_ints]; omega
  refine ⟨?_, ?_, ?_⟩
  · rw [okD]; exact okAll_ints5 js fun z hz => by have := hb z hz; exact small_abs (by omega) (by omega)
  · rw [szD]; omega
  · rw [PyData.depth, depthAll_ints5]; decide
theorem th_move {ks : List Int} {z : Int} (hb : ∀ z ∈ ks, 1 ≤ z ∧ z ≤ 1000000) (hl : ks.length ≤ 10) (hz : 0 ≤ z ∧ z ≤ 1000000) : Th5 (.tuple [.tuple (ks.map .int), .int z]) := by
  have hs : szAll (ks.map PyData.int) ≤ 3030 := by rw [szAll_ints]; omega
  refine ⟨?_, ?_, ?_⟩
  · rw [okD, okAll, okAll, okAll, okD, okD, okAll_ints5 ks fun z hz => by have := hb z hz; exact small_abs (by omega) (by omega), decide_eq_true (small_abs (by omega) (by omega))]; rfl
  · rw [szD, szAll, szAll, szAll, szD, szD]; omega
  · rw [PyData.depth, PyData.depthAll, PyData.depthAll, PyData.depthAll, PyData.depth, PyData.depth, depthAll_ints5]; decide
section
variable {P : Program} {w : World} {K : PySem.W.Frag} {mg : Str → Option Value} {base : Heap} {C : Addr}
def spLaw (K : PySem.W.Frag) : Sp := fun vs H Q _ => ∃ (a : Addr) (ns : List Int), vs = [.ref a] ∧ SqL K H a (ns.map V.int) ∧ ns.length ≤ 63 ∧ (∀ z ∈ ns, Builtin.Int.intBits z ≤ 1048576) ∧ ∀ H', Q (.bl true) H'
abbrev NL : List Str := ["script", "start", "deck", "line", "taken", "left", "thing", "things", "turn", "bent", "own", "caught", "number", "other"]
theorem scLaw : FnScope NL ["script"] (defScope sLaw) := ⟨rfl, rfl, rfl, by decide +kernel, rfl, by decide +kernel, by decide +kernel⟩
theorem ok_law {f fDe fDr fC fI fS fA fB fT fR fO fM : Addr} {fd fdDe fdDr fdC fdI fdS fdA fdB fdT fdR fdO fdM : FuncData} (F : Fun K "law" "law" sLaw f fd) (TD : TxtD mg) (TL : TxtL mg)
    (De : Fn K mg "_law_deck" sDeck ["script", "start"] fDe fdDe) (Dr : Fn K mg "_law_draw" sDraw ["deck", "size"] fDr fdDr) (Ch : Fn K mg "_law_choose" sChoose ["deck", "things"] fC fdC) (Id : Fn K mg "_law_ids" sIds ["deck", "many"] fI fdI)
    (Sh : Fn K mg "_law_shuffled" sShuf ["deck", "things"] fS fdS) (GS : FnOk P w K mg base CX0 2 fS fdS ["deck", "things"] (spShuf K))
    (An : Fn K mg "_law_any" sAny ["deck", "line"] fA fdA) (GA : FnOk P w K mg base CX0 3 fA fdA ["deck", "line"] (spAnyL K))
    (Be : Fn K mg "_law_bent" sBent ["deck", "line", "thing"] fB fdB) (GB : FnOk P w K mg base CX0 8 fB fdB ["deck", "line", "thing"] (spBentL K 5))
    (To : Fn K mg "_law_told" sTold ["line", "thing"] fT fdT) (GT : FnG P w K mg base 6 fT fdT ["line", "thing"] (spToldL K))
    (Re : Fn K mg "_law_refused" sRefused ["line", "thing"] fR fdR) (GR : FnOk P w K mg base CX0 5 fR fdR ["line", "thing"] (spRefd K))
    (Or' : Fn K mg "is_order" sIsOrder ["value"] fO fdO) (GO : FnOk P w K mg base CX0 4 fO fdO ["value"] (spIsOrder K))
    (Mo : Fn K mg "is_move" sIsMove ["order", "value"] fM fdM) (GM : FnOk P w K mg base CX0 3 fM fdM ["order", "value"] (spIsMove K)) : FnG P w K mg base 9 f fd ["script"] (spLaw K) := by
  have GDe : FnOk P w K mg base CX0 1 fDe fdDe ["script", "start"] (spDeck K) := ok_deck De.F TD
  have GDr : FnOk P w K mg base CX0 1 fDr fdDr ["deck", "size"] spDraw := ok_draw Dr.F
  have GC : FnOk P w K mg base CX0 2 fC fdC ["deck", "things"] (spChoose K) := ok_choose Ch.F TD Dr.F Dr.b Dr.m
  have GI : FnOk P w K mg base CX0 3 fI fdI ["deck", "many"] spIds := ok_ids Id.F TD Dr.F Dr.b Dr.m Ch.F Ch.b Ch.m
  refine FnG.mk' F scLaw (fun vs H Q E h => ?_) (fun cdv A outer s H vs Q E hg hr h => ?_)
  · obtain ⟨a, ns, rfl, _⟩ := h
    rfl
  · obtain ⟨a, ns, rfl, hS, hlen, hbits, k⟩ := h
    have hr1 : Room 1 _ := hr.mono (by decide)
    have hr2 : Room 2 _ := hr.mono (by decide)
    have hr3 : Room 3 _ := hr.mono (by decide)
    have hr4 : Room 4 _ := hr.mono (by decide)
    have hr5 : Room 5 _ := hr.mono (by decide)
    have hr6 : Room 6 _ := hr.mono (by decide)
    have h64 := hu64 hr
    refine ⟨_, pss_cons (ps_for PassesOwn.never rfl (pi_range1 rfl TL.range (pa_cons (pe_callB (call_max2 rfl) (by rfl) TL.max (by decide +kernel) (pa_cons pe_int (pa_cons (pe_callB (call_min2 rfl) (by rfl) TL.min (by decide +kernel)
          (pa_cons pe_int (pa_cons (pe_callB call_len_seq (by rfl) TD.len PySem.boot_len (pa_cons (pv 0) pa_nil)) pa_nil))) pa_nil))) pa_nil)) (pg_name (i := 1) scLaw.nd rfl (Or.inl rfl))
        (pss_cons (ps_set (i := 2) scLaw.nd rfl (Or.inl rfl) (pe_call GDe hr1 rfl De.m De.F.kp De.b .nil pass0 (pa_cons (pv 0) (pa_cons (pv 1) pa_nil))))
        (pss_cons (ps_set (i := 3) scLaw.nd rfl (Or.inr rfl) (pe_call GI hr3 rfl Id.m Id.F.kp Id.b .nil pass0 (pa_cons (pv 2) (pa_cons (pe_call GDr hr1 rfl Dr.m Dr.F.kp Dr.b .nil pass0 (pa_cons (pv 2) (pa_cons pe_int pa_nil))) pa_nil))))
        (pss_cons (ps_set (i := 4) scLaw.nd rfl (Or.inr rfl) (pe_callTy call_tupleF (by rfl) TL.tuple (by decide +kernel) (pa_cons (pe_slice sl_list (pe_call GS hr2 rfl Sh.m Sh.F.kp Sh.b .nil pass0 (pa_cons (pv 2) (pa_cons (pv 3) pa_nil))) po_none
              (po_some (pe_call GDr hr1 rfl Dr.m Dr.F.kp Dr.b .nil pass0 (pa_cons (pv 2) (pa_cons pe_int pa_nil))))) pa_nil)))
        (pss_cons (ps_setLc (i := 5) (own := [("number", 12)]) (g := gName 12) rfl scLaw.nd rfl rfl (sw_true rfl rfl rfl (by decide +kernel)) (pi_list (pv 3)) (blkOk_by (N := NL) (sc := defScope sLaw) (by decide +kernel)) (fun _ _ _ _ _ => pg_name (i := 12) scLaw.nd rfl (Or.inl rfl))
              (fun _ _ _ _ _ => pts_one (pt_cmpR (op_notIn_K2 (K := K) rfl) (pv 12) (pv 4) (by rfl))) (fun _ _ _ _ _ => pv 12))
        (pss_one (ps_for PassesOwn.never rfl (pi_list (pe_lst (pa_cons (pv 3) (pa_cons (pe_tupF (pa_cons (pv 4) (pa_cons (pe_call GC hr2 rfl Ch.m Ch.F.kp Ch.b .nil pass0 (pa_cons (pv 2) (pa_cons (pe_op op_cat (pv 5) (pe_lst (pa_cons pe_int pa_nil))) pa_nil))) pa_nil)))
              (pa_cons (pe_tupF (pa_cons (pe_callTy call_tupleF (by rfl) TL.tuple (by decide +kernel) (pa_cons (pv 3) pa_nil)) (pa_cons pe_int pa_nil))) (pa_cons (pe_call GA hr3 rfl An.m An.F.kp An.b .nil pass0 (pa_cons (pv 2) (pa_cons (pv 3) pa_nil))) pa_nil)))))) (pg_name (i := 6) scLaw.nd rfl (Or.inl rfl))
          (pss_cons (ps_set (i := 7) scLaw.nd rfl (Or.inl rfl) (pe_lst (pa_cons (pv 6) pa_nil)))
          (pss_cons (ps_for PassesOwn.never rfl (pi_range1 rfl TL.range (pa_cons pe_int pa_nil)) (pg_name (i := 8) scLaw.nd rfl (Or.inl rfl))
            (pss_cons (ps_set (i := 9) scLaw.nd rfl (Or.inl rfl) (pe_call GB hr rfl Be.m Be.F.kp Be.b .nil pass0 (pa_cons (pv 2) (pa_cons (pv 3) (pa_cons (pv 6) pa_nil)))))
            (pss_one (ps_expr (pe_bm PySem.F.plainAttrs_list PySem.F.slot_list_append PySem.F.type_list_append mt_append (pv 7) (pa_cons (pe_ifExp (pt_cmpR op_gt (pv 8) pe_int (nomark _)) (pe_call GB hr rfl Be.m Be.F.kp Be.b .nil pass0 (pa_cons (pv 2) (pa_cons (pv 3) (pa_cons (pv 9) pa_nil)))) (pv 9)) pa_nil))))))
          (pss_one (ps_if (pt_cmpR op_in_seq pe_bl (pe_lc (own := [("other", 13)]) (g := gName 13) rfl scLaw.nd (pi_list (pv 7)) (blkOk_by (N := NL) (sc := defScope sLaw) (by decide +kernel)) (fun _ _ _ _ _ => pg_name (i := 13) scLaw.nd rfl (Or.inl rfl)) (fun _ _ _ _ _ => pts_nil)
              (fun _ _ _ _ _ => pe_callG (E := E) GT hg hr6 rfl To.m To.F.kp To.b (pa_cons (pv 3) (pa_cons (pv 13) pa_nil)))) (by rfl)) (pss_one (ps_ret pe_bl)) pss_nil)))))))))))
      (pss_cons (ps_set (i := 10) scLaw.nd rfl (Or.inl rfl) (pe_lst (pa_cons (pe_tupF (pa_cons pe_int pa_nil)) (pa_cons pe_int pa_nil))))
      (pss_cons (ps_set (i := 11) scLaw.nd rfl (Or.inl rfl) (pe_call GR hr5 rfl Re.m Re.F.kp Re.b .nil pass0 (pa_cons (pe_lst (pa_cons pe_int pa_nil)) (pa_cons (pv 10) pa_nil))))
      (pss_cons (ps_expr (pe_bm PySem.F.plainAttrs_list PySem.F.slot_list_append PySem.F.type_list_append mt_append (pv 10) (pa_cons pe_int pa_nil)))
      (pss_one (ps_ret (pe_and (pe_cmpR (op_eqD h64) (pv 11) (pe_lst (pa_cons (pe_lst (pa_cons (pe_tup (pa_cons pe_int pa_nil)) (pa_cons pe_int (pa_cons pe_int pa_nil)))) pa_nil)) (nomark _))
        (pe_and (pe_cmpR op_is_bl (pe_call GO hr4 rfl Or'.m Or'.F.kp Or'.b .nil pass0 (pa_cons (pe_lst pa_nil) pa_nil)) pe_bl (nomark _))
        (pe_one (pe_cmpR op_is_bl (pe_call GM hr3 rfl Mo.m Mo.F.kp Mo.b .nil pass0 (pa_cons (pe_lst pa_nil) (pa_cons (pe_tup (pa_cons (pe_tup pa_nil) (pa_cons pe_int pa_nil))) pa_nil))) pe_bl (nomark _)))))))))), ?_⟩
    have h16 : sizeLine = 16777216 := sizeLine_eq
    have nf : ∀ {o : Obj} {u : HO}, ∀ x y, HO.frz o u ≠ .dK (dk x y) := fun _ _ h => by cases h
    obtain ⟨J, hJ, hJ0, hJ6⟩ : ∃ J : Int, J = (if (if (((ns.map V.int).length : Nat) : Int) < 5 then (((ns.map V.int).length : Nat) : Int) else 5) > 2 then (if (((ns.map V.int).length : Nat) : Int) < 5 then (((ns.map V.int).length : Nat) : Int) else 5) else 2) ∧ 0 ≤ J ∧ J ≤ 6 := by
      refine ⟨_, rfl, ?_, ?_⟩
      · split <;> split <;> omega
      · split <;> split <;> omega
    refine ⟨_, rfl, a, _, rfl, .inl hS, _, _, rfl, _, _, rfl, J, by rw [hJ], by omega, by omega, ?_⟩
    refine for_range (lo := 0) (n := J.toNat) (fun i σ H' => (∃ v1 v2 v3 v4 v5 v6 v7 v8 v9 v10 v11 v12 v13 : Option V, σ = [some (.ref a), v1, v2, v3, v4, v5, v6, v7, v8, v9, v10, v11, v12, v13]) ∧ Same H H')
      ⟨⟨none, none, none, none, none, none, none, none, none, none, none, none, none, rfl⟩, Same.refl H⟩ ?_ ?_
    · rintro st σ H0 hst ⟨⟨v1, v2, v3, v4, v5, v6, v7, v8, v9, v10, v11, v12, v13, rfl⟩, s0⟩
      -- deck
      refine ⟨_, rfl, _, rfl, a, ns, _, rfl, Same.sq s0 hS, hlen, hbits, by omega, by omega, fun d Hd hd sd D => ?_⟩
      have hHd : H d = none := Same.free s0 hd
      have sd0 : Same H Hd := s0.trans sd
      -- line
      refine ⟨_, rfl, _, rfl, d, 10, rfl, D, by decide, by decide, fun r1 H1 r10 r11 D1 B1 => ?_⟩
      obtain ⟨m1, rfl⟩ : ∃ m : Nat, r1 = (m : Int) := ⟨r1.toNat, by omega⟩
      refine ⟨d, m1, rfl, D1, by omega, fun l js H2 hl B2 D2 hL hjl hI => ?_⟩
      have hj10 : js.length ≤ 10 := by omega
      have hjb := hI.2
      have F2 : Fs d Hd [(l, .lst (js.map V.int))] H2 := (((Fs.start D).step D1 B1).step D2 B2).add hL nl
      -- taken
      refine ⟨_, rfl, _, rfl, d, l, js, rfl, F2.deck, SqL.of F2.g0, by omega, fun p1 ks H3 hp1 B3 D3 hP1 perm => ?_⟩
      have F3 := F2.step D3 B3
      refine ⟨_, rfl, d, 4, rfl, D3, by decide, by decide, fun t H4 t0 t1 D4 B4 => ⟨t, rfl, ?_⟩⟩
      obtain ⟨t, rfl⟩ : ∃ m : Nat, t = (m : Int) := ⟨t.toNat, by omega⟩
      have F4 := F3.step D4 B4
      have ecut : cutV (ks.map V.int) none (some (t : Int)) = (ks.take t).map V.int := by
        rw [cut_to, List.map_take]
      obtain ⟨T, hT⟩ : ∃ T, T = ks.take t := ⟨_, rfl⟩
      rw [← hT] at ecut
      refine ⟨p1, _, rfl, SqL.of (B4.lst D3 hP1), fun p2 hp2 => ?_⟩
      rw [ecut]
      refine ⟨p2, _, rfl, SqL.of upd_same, fun tk o htk hod => ?_⟩
      have hTb : ∀ z ∈ T, 1 ≤ z ∧ z ≤ 1000000 := fun z hz => hjb z (perm.mem_iff.mp (List.mem_of_mem_take (by rw [hT] at hz; exact hz)))
      have hTl : T.length ≤ 10 := by
        have e2 := perm.length_eq
        rw [hT, List.length_take]
        omega
      have F6 := (F4.skip hp2 (o := .lst (T.map V.int))).new htk (o := .frz o (.tup (T.map V.int))) nf
      obtain ⟨Hx, hHx⟩ : ∃ Hx, Hx = upd (upd H4 p2 (.lst (T.map V.int))) tk (.frz o (.tup (T.map V.int))) := ⟨_, rfl⟩
      rw [← hHx] at F6 ⊢
      have hTk : FzT Hx tk (T.map V.int) := ⟨o, hod, F6.g0⟩
      -- left
      refine ⟨_, rfl, l, rfl, ⟨_, SqL.of F6.g1⟩, fun D' hD' => ?_⟩
      refine lc_list (K := K) (a := l) (xs := js.map V.int) (fun i H' => Same Hx H' ∧ H' D' = some (.lst (((js.take i).filter fun z => decide (z ∉ T)).map V.int))) ⟨Same.new hD', upd_same⟩ (fun i H' _ q => SqL.of (q.1 _ _ F6.g1)) ?_ ?_
      · rintro i x H' hx ⟨s3, hL3⟩
        rw [List.getElem?_map] at hx
        obtain ⟨z, hz2, rfl⟩ : ∃ z, js[i]? = some z ∧ x = V.int z := by
          cases hq2 : js[i]? with
          | none => rw [hq2] at hx; cases hx
          | some z => rw [hq2] at hx; exact ⟨z, rfl, (Option.some.inj hx).symm⟩
        refine ⟨rfl, ?_⟩
        refine ⟨_, rfl, _, rfl, tk, _, rfl, .inr (hTk.same s3).sq, rfl, all_flat _, _, rfl, ?_⟩
        rw [inV_int, take_snoc hz2, List.filter_append]
        have hlen2 := lt_of_some hz2
        by_cases hm : z ∈ T
        · have e1 : (!decide (z ∈ T)) = false := by rw [decide_eq_true hm]; rfl
          show if (!decide (z ∈ T)) = true then _ else _
          rw [e1]
          refine iteF ⟨s3, ?_⟩
          have e2 : [z].filter (fun z => decide (z ∉ T)) = [] := by simp [hm]
          rw [e2, List.append_nil]
          exact hL3
        · have e1 : (!decide (z ∈ T)) = true := by rw [decide_eq_false hm]; rfl
          show if (!decide (z ∈ T)) = true then _ else _
          rw [e1]
          have e2 : [z].filter (fun z => decide (z ∉ T)) = [z] := by simp [hm]
          refine iteT ⟨_, rfl, _, hL3, ?_, ?_, ?_⟩
          · rw [List.length_map]
            have := List.length_filter_le (fun z => decide (z ∉ T)) (js.take i)
            rw [List.length_take] at this
            omega
          · intro b u hb
            rw [upd_ne (ne_of_none hb hD')]
            exact s3 b u hb
          · rw [upd_same, e2, List.map_append]
            rfl
      rintro H7 ⟨s7, hL7⟩
      rw [List.length_map, List.take_length] at hL7
      obtain ⟨lf, hlf⟩ : ∃ lf, lf = js.filter fun z => decide (z ∉ T) := ⟨_, rfl⟩
      rw [← hlf] at hL7
      have hlfl : lf.length ≤ 10 := by
        have := List.length_filter_le (fun z => decide (z ∉ T)) js
        rw [hlf]; omega
      have hlfb : ∀ z ∈ lf, 1 ≤ z ∧ z ≤ 1000000 := fun z hz => hjb z (List.mem_filter.mp (by rw [hlf] at hz; exact hz)).1
      have D7 := F6.deck.same s7
      -- the things
      refine ⟨_, rfl, ?_⟩
      refine ⟨_, rfl, _, rfl, _, rfl, ⟨by show 1 ≤ sizeLine; omega, fun q0 hq0 => ?_⟩⟩
      have u0 := Same.new (o := .lst [V.int 0]) hq0
      refine ⟨D', q0, _, _, rfl, rfl, u0 _ _ hL7, upd_same, by rw [List.length_map]; show _ + 1 ≤ _; omega, fun q1 hq1 => ?_⟩
      have u1 := u0.trans (Same.new (o := .lst (lf.map V.int ++ [V.int 0])) hq1)
      refine ⟨d, q1, _, rfl, D7.same u1, SqL.of upd_same, (by intro z; cases lf <;> cases z), by rw [List.length_append, List.length_map]; show _ + 1 < _; omega, fun vz H8 hvz D8 B8 => ?_⟩
      obtain ⟨z, rfl, hz0, hz1⟩ : ∃ z : Int, vz = .int z ∧ 0 ≤ z ∧ z ≤ 1000000 := by
        rcases List.mem_append.mp hvz with h | h
        · obtain ⟨z, hz, rfl⟩ := List.mem_map.mp h
          have := hlfb z hz
          exact ⟨z, rfl, by omega, by omega⟩
        · rcases List.mem_cons.mp h with e | h
          · exact ⟨0, e, by decide, by decide⟩
          · cases h
      have B8' : But d Hx H8 := (But.of (s7.trans u1)).trans B8
      refine ⟨by show 2 ≤ sizeLine; omega, fun e1 o1 he1 hd1 => ?_⟩
      have w1 := Same.new (o := .frz o1 (.tup [V.ref tk, V.int z])) he1
      have f1 : DF _ (V.ref e1) (.tuple [.tuple (T.map .int), .int z]) := .tup (FzT.mk (H := H8) hd1) (.cons (.tup ((hTk.but F6.deck B8').same w1) (DFs.ints T)) (.cons (.int z) .nil))
      have hL8 := w1 _ _ (B8'.lst F6.deck F6.g1)
      refine ⟨_, rfl, l, _, rfl, SqL.of hL8, fun e2 o2 he2 hd2 => ?_⟩
      have w2 := Same.new (o := .frz o2 (.tup (js.map V.int))) he2
      refine ⟨by show 2 ≤ sizeLine; omega, fun e3 o3 he3 hd3 => ?_⟩
      have w3 := Same.new (o := .frz o3 (.tup [V.ref e2, V.int 0])) he3
      have f3 : DF _ (V.ref e3) (.tuple [.tuple (js.map .int), .int 0]) := .tup (FzT.mk hd3) (.cons (.tup ((FzT.mk hd2).same w3) (DFs.ints js)) (.cons (.int 0) .nil))
      have f1' := f1.same (w2.trans w3)
      have D8' := D8.same (w1.trans (w2.trans w3))
      have B83 : But d Hx _ := B8'.trans (But.of (w1.trans (w2.trans w3)))
      refine ⟨_, rfl, _, rfl, d, l, js, rfl, D8', B83.lst F6.deck F6.g1, hj10, hjb, fun v3' x3 H9 hv3 ok3 sz3 dp3 D9 B9 => ?_⟩
      have hv3' : DF H9 v3' x3 := hv3.same fun b u hb => (ext_out hb).1
      refine ⟨by show 4 ≤ sizeLine; omega, fun lt hlt => ?_⟩
      have w4 := Same.new (o := .lst [V.ref l, V.ref e1, V.ref e3, v3']) hlt
      have Bl : But d Hx _ := (B83.trans B9).trans (But.of w4)
      have Dl := D9.same w4
      obtain ⟨Hl, hHl⟩ : ∃ Hl, Hl = upd H9 lt (.lst [V.ref l, V.ref e1, V.ref e3, v3']) := ⟨_, rfl⟩
      have hLt : Hl lt = some (.lst [V.ref l, V.ref e1, V.ref e3, v3']) := by rw [hHl]; exact upd_same
      rw [← hHl] at w4 Bl Dl ⊢
      have hLl : Hl l = some (.lst (js.map V.int)) := Bl.lst F6.deck F6.g1
      have hDs : DFs Hl [V.ref l, V.ref e1, V.ref e3, v3'] [.list (js.map .int), .tuple [.tuple (T.map .int), .int z], .tuple [.tuple (js.map .int), .int 0], x3] :=
        .cons (.lst hLl (DFs.ints js)) (.cons ((f1'.but D8' B9).same w4) (.cons ((f3.but D8' B9).same w4) (.cons (hv3'.same w4) .nil)))
      have hTh : ∀ x ∈ [PyData.list (js.map .int), .tuple [.tuple (T.map .int), .int z], .tuple [.tuple (js.map .int), .int 0], x3], Th5 x := by
        intro x hx
        rcases List.mem_cons.mp hx with e | hx
        · rw [e]; exact th_list hjb hj10
        rcases List.mem_cons.mp hx with e | hx
        · rw [e]; exact th_move hTb hTl ⟨hz0, hz1⟩
        rcases List.mem_cons.mp hx with e | hx
        · rw [e]; exact th_move hjb hj10 ⟨by decide, by decide⟩
        rcases List.mem_cons.mp hx with e | hx
        · rw [e]; exact ⟨ok3, by omega, dp3⟩
        · cases hx
      refine ⟨lt, rfl, ⟨_, SqL.of hLt⟩, ?_⟩
      refine for_list (K := K) (a := lt) (xs := [V.ref l, V.ref e1, V.ref e3, v3']) (fun i σ H' => (∃ v6 v7 v8 v9 v10 v11 v12 v13 : Option V, σ = [some (.ref a), some (.int (0 + (st : Int))), some (.ref d), some (.ref l), some (.ref tk), some (.ref D'), v6, v7, v8, v9, v10, v11, v12, v13]) ∧ But d Hl H' ∧ DeckAt H' d)
        ⟨⟨_, _, _, _, _, _, _, _, rfl⟩, But.refl d Hl, Dl⟩ (fun i σ H' _ q => SqL.of (q.2.1.lst Dl hLt)) ?_ ?_
      · rintro i v σ H10 hi ⟨⟨v6, v7, v8, v9, v10, v11, v12, v13, rfl⟩, B10, D10⟩
        obtain ⟨x, hx, hvx⟩ := hDs.at hi
        have th := hTh x (List.mem_of_getElem? hx)
        have thz := th.sz
        have thd := th.dep
        refine ⟨_, rfl, ⟨by show 1 ≤ sizeLine; omega, fun tl htl => ?_⟩⟩
        have htl0 : Hl tl = none := B10.free D10 htl
        have s11 := Same.new (o := .lst [v]) htl
        have toH : ∀ {H' : Hp}, But d Hl H' → DF (hid2 tl d H') v x := fun B => hvx.but Dl fun b o hb e => hid2_mk (ne_of_none e htl0) hb (B b o hb e)
        refine ⟨7, rfl, by decide, by decide, ?_⟩
        refine for_range (lo := 0) (n := (7 : Int).toNat) (fun j σ H' => ∃ (v8 v9 v10 v11 v12 v13 : Option V) (ws : List V) (xs : List PyData), σ = [some (.ref a), some (.int (0 + (st : Int))), some (.ref d), some (.ref l), some (.ref tk), some (.ref D'), some v, some (.ref tl), v8, v9, v10, v11, v12, v13] ∧
            But d Hl H' ∧ DeckAt H' d ∧ H' tl = some (.lst ws) ∧ DFs (hid2 tl d H') ws xs ∧ ws.length = j + 1 ∧ ∀ y ∈ xs, Okx y)
          ⟨_, _, _, _, _, _, [v], [x], rfl, B10.trans (But.of s11), D10.same s11, upd_same, .cons (toH (B10.trans (But.of s11))) .nil, rfl, fun y hy => by
            have : y = x := by simpa using hy
            rw [this]
            exact ⟨th.ok, by omega, by omega⟩⟩ ?_ ?_
        · rintro j σ H12 hj ⟨v8, v9, v10, v11, v12, v13, ws, xs, rfl, B12, D12, hTL, hW, hwl, hOk⟩
          have put : ∀ (y : V) (xy : PyData) (H13 : Hp), But d H12 H13 → DeckAt H13 d → DF (hid2 tl d H13) y xy → Okx xy → ∃ (ws' : List V) (xs' : List PyData), But d Hl (upd H13 tl (.lst (ws ++ [y]))) ∧ DeckAt (upd H13 tl (.lst (ws ++ [y]))) d ∧ upd H13 tl (.lst (ws ++ [y])) tl = some (.lst ws') ∧ DFs (hid2 tl d (upd H13 tl (.lst (ws ++ [y])))) ws' xs' ∧ ws'.length = j + 1 + 1 ∧ ∀ y ∈ xs', Okx y := by
            intro y xy H13 B13 D13 hy oy
            have hT13 := B13.lst D12 hTL
            refine ⟨ws ++ [y], xs ++ [xy], fun b u hb e => ?_, ?_, upd_same, ?_, by rw [List.length_append, hwl]; rfl, fun q hq => ?_⟩
            · rw [upd_ne (ne_of_none e htl0)]
              exact B13 b u hb (B12 b u hb e)
            · obtain ⟨c1, c2, hd', r⟩ := D13
              exact ⟨c1, c2, by rw [upd_ne (ne_of hT13 hd' (nl _ _)).symm]; exact hd', r⟩
            · exact DFs.append ((hW.same (hid2_but B13)).same hid2_put) (.cons (hy.same hid2_put) .nil)
            · rcases List.mem_append.mp hq with h | h
              · exact hOk q h
              · have : q = xy := by simpa using h
                rw [this]; exact oy
          have hG1 : Same (hid d Hl) H12 := fun b o e => B12 b o (hid_some e).1 (hid_some e).2
          have hGt : hid d Hl tl = none := by unfold hid; split <;> first | rfl | exact htl0
          refine ⟨_, rfl, _, rfl, _, rfl, d, l, js, v, x, hid d Hl, rfl, D12, B12.lst Dl hLl, hj10, hjb, hG1, hid_at, hvx.but Dl hid_but, th.ok, by omega, by omega, fun y1 x1 H13 hy1 ok1 sz1 dp1 D13 B13 => ?_⟩
          have hT13 := B13.lst D12 hTL
          have nd13 : ∀ {b : Addr}, H12 b = none → b ≠ d := fun e9 q => by
            obtain ⟨c1, c2, hd', _⟩ := D12
            rw [q, hd'] at e9; cases e9
          have g1 : ∀ {b : Addr} {u : HO}, ext (hid d Hl) H12 H13 b = some u → b ≠ tl ∧ b ≠ d ∧ H13 b = some u := fun {b u} hb => by
            obtain ⟨e9, q⟩ := ext_out hb
            rcases q with ⟨u2, q⟩ | q
            · exact ⟨fun e => (by rw [e, hGt] at q; cases q), (hid_some q).1, e9⟩
            · exact ⟨fun e => (by rw [e, hTL] at q; cases q), nd13 q, e9⟩
          refine ⟨_, rfl, .inl ⟨rfl, _, SqL.of hT13⟩, ?_⟩
          refine ⟨_, rfl, _, _, rfl, rfl, _, rfl, ?_⟩
          refine ite2 (fun _ => ?_) (fun _ => ?_)
          · have hGd2 : ext (hid d Hl) H12 H13 d = none := by
              cases e9 : ext (hid d Hl) H12 H13 d with
              | none => rfl
              | some u => exact absurd rfl (g1 e9).2.1
            refine ⟨_, rfl, _, rfl, _, rfl, d, l, js, y1, x1, ext (hid d Hl) H12 H13, rfl, D13, B13.lst D12 (B12.lst Dl hLl), hj10, hjb, fun b o e => (g1 e).2.2, hGd2, hy1, ok1, by omega, by omega, fun y2 x2 H14 hy2 ok2 sz2 dp2 D14 B14 => ?_⟩
            have hT14 := B14.lst D13 hT13
            have g2 : Same (ext (ext (hid d Hl) H12 H13) H13 H14) (hid2 tl d H14) := fun b u hb => by
              obtain ⟨e9, q⟩ := ext_out hb
              rcases q with ⟨u2, q⟩ | q
              · exact hid2_mk (g1 q).1 (g1 q).2.1 e9
              · refine hid2_mk (fun e => by rw [e, hT13] at q; cases q) (fun e => ?_) e9
                obtain ⟨c1, c2, hd', _⟩ := D13
                rw [e, hd'] at q; cases q
            refine ⟨tl, _, _, rfl, rfl, hT14, by omega, ?_⟩
            obtain ⟨ws', xs', b1, b2, b3, b4, b5, b6⟩ := put y2 x2 H14 (B13.trans B14) D14 (hy2.same g2) ⟨ok2, by omega, by omega⟩
            exact ⟨_, _, _, _, _, _, ws', xs', rfl, b1, b2, b3, b4, b5, b6⟩
          · refine ⟨_, rfl, tl, _, _, rfl, rfl, hT13, by omega, ?_⟩
            obtain ⟨ws', xs', b1, b2, b3, b4, b5, b6⟩ := put y1 x1 H13 B13 D13 (hy1.same fun b u hb => hid2_mk (g1 hb).1 (g1 hb).2.1 (g1 hb).2.2) ⟨ok1, by omega, by omega⟩
            exact ⟨_, _, _, _, _, _, ws', xs', rfl, b1, b2, b3, b4, b5, b6⟩
        · rintro σ H12 ⟨v8, v9, v10, v11, v12, v13, ws, xs, rfl, B12, D12, hTL, hW, hwl, hOk⟩
          refine ⟨_, rfl, tl, rfl, ⟨_, SqL.of hTL⟩, fun D2 hD2 => ?_⟩
          refine lc_sameL (ws.map fun _ => V.bl true) (by rw [List.length_map]) (by rw [hwl]; decide) (SqL.of hTL) hD2 (fun i y yy H' R hx hy s1 kR => ⟨rfl, ?_⟩) fun H' s1 hL2 => ?_
          · rw [List.getElem?_map, hx] at hy
            obtain rfl := Option.some.inj hy
            obtain ⟨xy, hxy, hyy⟩ := hW.at hx
            have oy := hOk xy (List.mem_of_getElem? hxy)
            exact ⟨_, rfl, _, rfl, l, js, y, xy, rfl, s1 _ _ (B12.lst Dl hLl), hj10, hjb, (hyy.same hid2_up).same s1, oy.ok, oy.sz, oy.dep, fun H4 s4 => kR H4 s4⟩
          · refine ⟨D2, (ws.map fun _ => true).map V.bl, rfl, .inl (SqL.of (by rw [List.map_map]; exact hL2)), rfl, flat_bl2 _, _, rfl, ?_⟩
            have ein : inV (.bl false) ((ws.map fun _ => true).map V.bl) = false := by
              rw [inV_bl2, List.all_map]
              simp
            show if inV (.bl false) ((ws.map fun _ => true).map V.bl) = true then _ else _
            rw [ein]
            refine iteF ?_
            exact ⟨⟨_, _, _, _, _, _, _, _, rfl⟩, B12.trans (But.of s1), D12.same s1⟩
      · rintro σ H10 ⟨⟨v6, v7, v8, v9, v10, v11, v12, v13, rfl⟩, B10, D10⟩
        refine ⟨⟨_, _, _, _, _, _, _, _, _, _, _, _, _, rfl⟩, fun b u hb => ?_⟩
        have nb := ne_of_none hb hHd
        exact B10 b u nb (Bl b u nb (F6.1 b u nb (sd0 b u hb)))
    · rintro σ H0 ⟨⟨v1, v2, v3, v4, v5, v6, v7, v8, v9, v10, v11, v12, v13, rfl⟩, s0⟩
      refine ⟨by show 1 ≤ sizeLine; omega, fun g1 o1 hg1 hd1 => ?_⟩
      have s1 := Same.new (o := .frz o1 (.tup [V.int 5])) hg1
      refine ⟨by show 2 ≤ sizeLine; omega, fun ow how => ?_⟩
      have s2 := Same.new (o := .lst [V.ref g1, V.int 0]) how
      refine ⟨by show 1 ≤ sizeLine; omega, fun l5 hl5 => ?_⟩
      have s3 := Same.new (o := .lst [V.int 5]) hl5
      have hg3 := (s2.trans s3) _ _ (upd_same (H := H0) (a := g1) (o := .frz o1 (.tup [V.int 5])))
      have ho3 : upd _ l5 (.lst [V.int 5]) ow = some (.lst [V.ref g1, V.int 0]) := s3 _ _ upd_same
      refine ⟨_, rfl, l5, [5], .ref ow, .list [.tuple [.int 5], .int 0], rfl, SqL.of upd_same, by decide, .lst (SqL.of ho3) (.cons (.tup (.inl (.inr ⟨_, hg3⟩)) (.cons (.int 5) .nil)) (.cons (.int 0) .nil)), (fun ds b e => by cases e), fun cp H1 hcp s4 hc1 => ?_⟩
      have em : isMove [5] (.list [.tuple [.int 5], .int 0]) = false := rfl
      rw [em, if_neg Bool.false_ne_true] at hc1
      have ho4 := s4 _ _ ho3
      have hg4 := s4 _ _ hg3
      have ncp : cp ≠ ow := fun e => by rw [e, ho3] at hcp; cases hcp
      have ngw : g1 ≠ ow := ne_of hg4 ho4 (by intro z; cases z)
      refine ⟨_, rfl, .inl ⟨rfl, _, SqL.of ho4⟩, ow, _, _, rfl, rfl, ho4, small1000 (by show 2 ≤ 1000; decide), ?_⟩
      obtain ⟨H5, hH5⟩ : ∃ H5, H5 = upd H1 ow (.lst ([V.ref g1, V.int 0] ++ [V.int 7])) := ⟨_, rfl⟩
      rw [← hH5]
      have c5 : H5 cp = some (.lst [V.ref ow]) := by rw [hH5, upd_ne ncp]; exact hc1
      have o5 : H5 ow = some (.lst [V.ref g1, V.int 0, V.int 7]) := by rw [hH5, upd_same]; rfl
      have g5 : H5 g1 = some (.frz o1 (.tup [V.int 5])) := by rw [hH5, upd_ne ngw]; exact hg4
      refine ⟨_, rfl, ⟨by show 1 ≤ sizeLine; omega, fun a1 ha1 => ⟨by show 3 ≤ sizeLine; omega, fun a2 ha2 => ⟨by show 1 ≤ sizeLine; omega, fun a3 ha3 => ?_⟩⟩⟩⟩
      have t1 := Same.new (o := .tup [V.int 5]) ha1
      have t2 := Same.new (o := .lst [V.ref a1, V.int 0, V.int 7]) ha2
      have t3 := Same.new (o := .lst [V.ref a2]) ha3
      have t := t1.trans (t2.trans t3)
      refine ⟨.list [.list [.tuple [.int 5], .int 0, .int 7]], .list [.list [.tuple [.int 5], .int 0, .int 7]], .lst (SqL.of (t _ _ c5)) (.cons (.lst (SqL.of (t _ _ o5)) (.cons (.tup (.inl (.inr ⟨_, t _ _ g5⟩)) (.cons (.int 5) .nil)) (.cons (.int 0) (.cons (.int 7) .nil)))) .nil),
        .lst (SqL.of upd_same) (.cons (.lst (SqL.of (t3 _ _ upd_same)) (.cons (.tup (SqT.of ((t2.trans t3) _ _ upd_same)) (.cons (.int 5) .nil)) (.cons (.int 0) (.cons (.int 7) .nil)))) .nil), by decide +kernel, by decide +kernel, ?_⟩
      have eq1 : PyData.eqv (.list [.list [.tuple [.int 5], .int 0, .int 7]]) (.list [.list [.tuple [.int 5], .int 0, .int 7]]) = true := by decide +kernel
      rw [eq1]
      refine ⟨_, rfl, iteT ?_⟩
      refine ⟨Nat.zero_le _, fun b1 hb1 => ?_⟩
      refine ⟨.ref b1, .list [], rfl, .lst (SqL.of upd_same) .nil, (fun ds e => by cases e; exact ⟨by decide, fun _ => by decide⟩), fun H6 s6 => ⟨_, _, rfl, rfl, ?_⟩⟩
      have eq2 : decide (isOrderD (.list []) = true) = true := by decide +kernel
      rw [eq2]
      refine ⟨_, rfl, iteT ?_⟩
      refine ⟨Nat.zero_le _, fun b2 hb2 => ⟨Nat.zero_le _, fun b3 hb3 => ⟨by show 2 ≤ sizeLine; omega, fun b4 hb4 => ?_⟩⟩⟩
      have y2 := Same.new (o := .lst []) hb2
      have y3 := Same.new (o := .tup []) hb3
      have y4 := Same.new (o := .tup [V.ref b3, V.int 0]) hb4
      refine ⟨b2, [], .ref b4, .tuple [.tuple [], .int 0], rfl, SqL.of ((y3.trans y4) _ _ upd_same), by decide, .tup (SqT.of upd_same) (.cons (.tup (SqT.of (y4 _ _ upd_same)) .nil) (.cons (.int 0) .nil)), (fun ds b e => by cases e; exact ⟨by decide, fun _ => by decide⟩), fun H7 s7 => ⟨_, _, rfl, rfl, ?_⟩⟩
      have eq3 : decide (isMove [] (.tuple [.tuple [], .int 0]) = false) = true := by decide +kernel
      rw [eq3]
      exact k _
end
/-! ### what the top has written, the head -/
/-- an error of the class at S is what «except S» names -/
theorem exm_own {K : PySem.W.Frag} {S : Addr} (h1 : PySem.W.subIn K (.ref S) (.type "BaseException") = some true) (h2 : PySem.W.isClsIn K S = true) (h3 : PySem.W.typeIn K (.ref S) = some (.type "type")) (h4 : PySem.W.subIn K (.ref S) (.ref S) = some true) :
    PySem.W.exmOne K (.ref S) (.ref S) = some true := by
  have q1 : (PySem.W.subIn K (.ref S) (.type "BaseException") == some true) = true := by rw [h1] <;> rfl
  have q2 : ((PySem.W.clsIn K S).isSome && PySem.W.typeIn K (.ref S) == some (.type "type")) = true := by
    have h2' : (PySem.W.clsIn K S).isSome = true := h2
    rw [h2', h3] <;> rfl
  show (if (PySem.W.subIn K (.ref S) (.type "BaseException") == some true) = true then (if ((PySem.W.clsIn K S).isSome && PySem.W.typeIn K (.ref S) == some (.type "type")) = true then PySem.W.subIn K (.ref S) (.ref S) else none) else none) = some true
  rw [if_pos q1, if_pos q2]
  exact h4
theorem all_mk {l : PySem.W.OpenLaw} {w : World} {K : PySem.W.Frag} {h : Heap} {mg : Str → Option Value} {fa : Addr} (X : K.In h) (G : h.Ns mainGlobals mg) (hfa : mg "law" = some (.ref fa))
    {nm q : Str} {N C C0 fI : Addr} {bs : List Value} {sn : List Str} {sub : List Value} {ab : Bool} {col : Option Bool} {dd : Option Addr} {m0 m1 m2 m3 m5 : Option Value} {odI anI : Option Addr} {slI : Array (Option Value)} {ocI dcI pmI cdI ctI : Value}
    {f1 : Addr} {od1 an1 : Option Addr} {sl1 : Array (Option Value)} {oc1 kV1 dc1 pm1 cd1 ct1 : Value}
    {f2 : Addr} {od2 an2 : Option Addr} {sl2 : Array (Option Value)} {oc2 kV2 dc2 pm2 cd2 ct2 : Value}
    {f3 : Addr} {od3 an3 : Option Addr} {sl3 : Array (Option Value)} {oc3 kV3 dc3 pm3 cd3 ct3 : Value}
    {f4 : Addr} {od4 an4 : Option Addr} {sl4 : Array (Option Value)} {oc4 kV4 dc4 pm4 cd4 ct4 : Value}
    {f5 : Addr} {od5 an5 : Option Addr} {sl5 : Array (Option Value)} {oc5 kV5 dc5 pm5 cd5 ct5 : Value}
    {f6 : Addr} {od6 an6 : Option Addr} {sl6 : Array (Option Value)} {oc6 kV6 dc6 pm6 cd6 ct6 : Value}
    {f7 : Addr} {od7 an7 : Option Addr} {sl7 : Array (Option Value)} {oc7 kV7 dc7 pm7 cd7 ct7 : Value}
    {f8 : Addr} {od8 an8 : Option Addr} {sl8 : Array (Option Value)} {oc8 kV8 dc8 pm8 cd8 ct8 : Value}
    {f9 : Addr} {od9 an9 : Option Addr} {sl9 : Array (Option Value)} {oc9 kV9 dc9 pm9 cd9 ct9 : Value}
    {f10 : Addr} {od10 an10 : Option Addr} {sl10 : Array (Option Value)} {oc10 kV10 dc10 pm10 cd10 ct10 : Value}
    {f11 : Addr} {od11 an11 : Option Addr} {sl11 : Array (Option Value)} {oc11 kV11 dc11 pm11 cd11 ct11 : Value}
    {f12 : Addr} {od12 an12 : Option Addr} {sl12 : Array (Option Value)} {oc12 kV12 dc12 pm12 cd12 ct12 : Value}
    {f13 : Addr} {od13 an13 : Option Addr} {sl13 : Array (Option Value)} {oc13 kV13 dc13 pm13 cd13 ct13 : Value}
    {f14 : Addr} {od14 an14 : Option Addr} {sl14 : Array (Option Value)} {oc14 kV14 dc14 pm14 cd14 ct14 : Value}
    {f15 : Addr} {od15 an15 : Option Addr} {sl15 : Array (Option Value)} {oc15 kV15 dc15 pm15 cd15 ct15 : Value}
    {f16 : Addr} {od16 an16 : Option Addr} {sl16 : Array (Option Value)} {oc16 kV16 dc16 pm16 cd16 ct16 : Value}
    {f17 : Addr} {od17 an17 : Option Addr} {sl17 : Array (Option Value)} {oc17 kV17 dc17 pm17 cd17 ct17 : Value}
    {f18 : Addr} {od18 an18 : Option Addr} {sl18 : Array (Option Value)} {oc18 kV18 dc18 pm18 cd18 ct18 : Value}
    {f19 : Addr} {od19 an19 : Option Addr} {sl19 : Array (Option Value)} {oc19 kV19 dc19 pm19 cd19 ct19 : Value}
    {f20 : Addr} {od20 an20 : Option Addr} {sl20 : Array (Option Value)} {oc20 kV20 dc20 pm20 cd20 ct20 : Value}
    {f21 : Addr} {od21 an21 : Option Addr} {sl21 : Array (Option Value)} {oc21 kV21 dc21 pm21 cd21 ct21 : Value}
    {gt0 : Tok}
    {CR : Addr}
    (aH : PySem.W.nsIn K mainGlobals "HandError" = some (some (.ref C0))) (aC : PySem.W.nsIn K mainGlobals "BadMove" = some (some (.ref C)))
    (xL : K.lookup C = some (excClassObj nm q C N bs [.ref C0, .type "ValueError", .type "Exception", .type "BaseException", .type "object"] true sn sub ab col dd m0 m1 m2 m3 m5 "ValueError.__new__"))
    (sa : PySem.W.findIn K (.ref C) "__setattr__" = some (some (.builtin "object.__setattr__"))) (ga : PySem.W.findIn K (.ref C) "__getattribute__" = some (some (.builtin "BaseException.__getattribute__"))) (gg : PySem.W.findIn K (.ref C) "__getattr__" = some none) (nb : PySem.W.findIn K (.ref C) "value" = some none)
    (aI : PySem.W.findIn K (.ref C) "__init__" = some (some (.ref fI))) (tI : PySem.W.typeIn K (.ref fI) = some (.type "function"))
    (lI : K.lookup fI = some ⟨ocI, odI, .func (PySem.W.fnOf "__init__" "BadMove.__init__" (PySem.LowX.iA ⟨10, 17, 10, 21⟩ ⟨10, 23, 10, 28⟩) (PySem.LowX.iB ⟨11, 8, 11, 12⟩ ⟨11, 8, 11, 18⟩ ⟨11, 21, 11, 26⟩ ⟨11, 8, 11, 26⟩) PySem.LowX.iS .none .none dcI pmI anI cdI ctI), slI⟩) (cI : PySem.W.codeIn K cdI "BadMove.__init__" = true)
    (kC : PySem.W.keepIn K (.ref C) = true) (eC : PySem.W.subIn K (.ref C) (.type "BaseException") = some true) (tC : PySem.W.typeIn K (.ref C) = some (.type "type")) (hC : PySem.W.hasDictIn K C = true) (iC : PySem.W.isClsIn K C = true) (sC : PySem.W.subIn K (.ref C) (.ref C) = some true)
    (a1 : PySem.W.nsIn K mainGlobals "is_whole" = some (some (.ref f1))) (l1 : K.lookup f1 = some ⟨oc1, od1, .func (PySem.W.fnOf "is_whole" "is_whole" (defArgs sWhole) (defBody sWhole) (defScope sWhole) .none kV1 dc1 pm1 an1 cd1 ct1), sl1⟩) (c1 : PySem.W.codeIn K cd1 "is_whole" = true) (k1 : PySem.W.keepIn K (.ref f1) = true)
    (a2 : PySem.W.nsIn K mainGlobals "is_within" = some (some (.ref f2))) (l2 : K.lookup f2 = some ⟨oc2, od2, .func (PySem.W.fnOf "is_within" "is_within" (defArgs sWithin) (defBody sWithin) (defScope sWithin) .none kV2 dc2 pm2 an2 cd2 ct2), sl2⟩) (c2 : PySem.W.codeIn K cd2 "is_within" = true) (k2 : PySem.W.keepIn K (.ref f2) = true)
    (a3 : PySem.W.nsIn K mainGlobals "all_different" = some (some (.ref f3))) (l3 : K.lookup f3 = some ⟨oc3, od3, .func (PySem.W.fnOf "all_different" "all_different" (defArgs sDiff) (defBody sDiff) (defScope sDiff) .none kV3 dc3 pm3 an3 cd3 ct3), sl3⟩) (c3 : PySem.W.codeIn K cd3 "all_different" = true) (k3 : PySem.W.keepIn K (.ref f3) = true)
    (a4 : PySem.W.nsIn K mainGlobals "is_id" = some (some (.ref f4))) (l4 : K.lookup f4 = some ⟨oc4, od4, .func (PySem.W.fnOf "is_id" "is_id" (defArgs sIsId) (defBody sIsId) (defScope sIsId) .none kV4 dc4 pm4 an4 cd4 ct4), sl4⟩) (c4 : PySem.W.codeIn K cd4 "is_id" = true) (k4 : PySem.W.keepIn K (.ref f4) = true)
    (a5 : PySem.W.nsIn K mainGlobals "is_order" = some (some (.ref f5))) (l5 : K.lookup f5 = some ⟨oc5, od5, .func (PySem.W.fnOf "is_order" "is_order" (defArgs sIsOrder) (defBody sIsOrder) (defScope sIsOrder) .none kV5 dc5 pm5 an5 cd5 ct5), sl5⟩) (c5 : PySem.W.codeIn K cd5 "is_order" = true) (k5 : PySem.W.keepIn K (.ref f5) = true)
    (a6 : PySem.W.nsIn K mainGlobals "are_ids_of" = some (some (.ref f6))) (l6 : K.lookup f6 = some ⟨oc6, od6, .func (PySem.W.fnOf "are_ids_of" "are_ids_of" (defArgs sAreIds) (defBody sAreIds) (defScope sAreIds) .none kV6 dc6 pm6 an6 cd6 ct6), sl6⟩) (c6 : PySem.W.codeIn K cd6 "are_ids_of" = true) (k6 : PySem.W.keepIn K (.ref f6) = true)
    (a7 : PySem.W.nsIn K mainGlobals "is_move" = some (some (.ref f7))) (l7 : K.lookup f7 = some ⟨oc7, od7, .func (PySem.W.fnOf "is_move" "is_move" (defArgs sIsMove) (defBody sIsMove) (defScope sIsMove) .none kV7 dc7 pm7 an7 cd7 ct7), sl7⟩) (c7 : PySem.W.codeIn K cd7 "is_move" = true) (k7 : PySem.W.keepIn K (.ref f7) = true)
    (a8 : PySem.W.nsIn K mainGlobals "do_move" = some (some (.ref f8))) (l8 : K.lookup f8 = some ⟨oc8, od8, .func (PySem.W.fnOf "do_move" "do_move" (defArgs sDoMove) (defBody sDoMove) (defScope sDoMove) .none kV8 dc8 pm8 an8 cd8 ct8), sl8⟩) (c8 : PySem.W.codeIn K cd8 "do_move" = true) (k8 : PySem.W.keepIn K (.ref f8) = true)
    (a9 : PySem.W.nsIn K mainGlobals "_law_deck" = some (some (.ref f9))) (l9 : K.lookup f9 = some ⟨oc9, od9, .func (PySem.W.fnOf "_law_deck" "_law_deck" (defArgs sDeck) (defBody sDeck) (defScope sDeck) .none kV9 dc9 pm9 an9 cd9 ct9), sl9⟩) (c9 : PySem.W.codeIn K cd9 "_law_deck" = true) (k9 : PySem.W.keepIn K (.ref f9) = true)
    (a10 : PySem.W.nsIn K mainGlobals "_law_draw" = some (some (.ref f10))) (l10 : K.lookup f10 = some ⟨oc10, od10, .func (PySem.W.fnOf "_law_draw" "_law_draw" (defArgs sDraw) (defBody sDraw) (defScope sDraw) .none kV10 dc10 pm10 an10 cd10 ct10), sl10⟩) (c10 : PySem.W.codeIn K cd10 "_law_draw" = true) (k10 : PySem.W.keepIn K (.ref f10) = true)
    (a11 : PySem.W.nsIn K mainGlobals "_law_choose" = some (some (.ref f11))) (l11 : K.lookup f11 = some ⟨oc11, od11, .func (PySem.W.fnOf "_law_choose" "_law_choose" (defArgs sChoose) (defBody sChoose) (defScope sChoose) .none kV11 dc11 pm11 an11 cd11 ct11), sl11⟩) (c11 : PySem.W.codeIn K cd11 "_law_choose" = true) (k11 : PySem.W.keepIn K (.ref f11) = true)
    (a12 : PySem.W.nsIn K mainGlobals "_law_shuffled" = some (some (.ref f12))) (l12 : K.lookup f12 = some ⟨oc12, od12, .func (PySem.W.fnOf "_law_shuffled" "_law_shuffled" (defArgs sShuf) (defBody sShuf) (defScope sShuf) .none kV12 dc12 pm12 an12 cd12 ct12), sl12⟩) (c12 : PySem.W.codeIn K cd12 "_law_shuffled" = true) (k12 : PySem.W.keepIn K (.ref f12) = true)
    (a13 : PySem.W.nsIn K mainGlobals "_law_ids" = some (some (.ref f13))) (l13 : K.lookup f13 = some ⟨oc13, od13, .func (PySem.W.fnOf "_law_ids" "_law_ids" (defArgs sIds) (defBody sIds) (defScope sIds) .none kV13 dc13 pm13 an13 cd13 ct13), sl13⟩) (c13 : PySem.W.codeIn K cd13 "_law_ids" = true) (k13 : PySem.W.keepIn K (.ref f13) = true)
    (a14 : PySem.W.nsIn K mainGlobals "_law_is_id" = some (some (.ref f14))) (l14 : K.lookup f14 = some ⟨oc14, od14, .func (PySem.W.fnOf "_law_is_id" "_law_is_id" (defArgs sLawIsId) (defBody sLawIsId) (defScope sLawIsId) .none kV14 dc14 pm14 an14 cd14 ct14), sl14⟩) (c14 : PySem.W.codeIn K cd14 "_law_is_id" = true) (k14 : PySem.W.keepIn K (.ref f14) = true)
    (a15 : PySem.W.nsIn K mainGlobals "_law_different" = some (some (.ref f15))) (l15 : K.lookup f15 = some ⟨oc15, od15, .func (PySem.W.fnOf "_law_different" "_law_different" (defArgs sLawDiff) (defBody sLawDiff) (defScope sLawDiff) .none kV15 dc15 pm15 an15 cd15 ct15), sl15⟩) (c15 : PySem.W.codeIn K cd15 "_law_different" = true) (k15 : PySem.W.keepIn K (.ref f15) = true)
    (a16 : PySem.W.nsIn K mainGlobals "_law_move_due" = some (some (.ref f16))) (l16 : K.lookup f16 = some ⟨oc16, od16, .func (PySem.W.fnOf "_law_move_due" "_law_move_due" (defArgs sMoveDue) (defBody sMoveDue) (defScope sMoveDue) .none kV16 dc16 pm16 an16 cd16 ct16), sl16⟩) (c16 : PySem.W.codeIn K cd16 "_law_move_due" = true) (k16 : PySem.W.keepIn K (.ref f16) = true)
    (a17 : PySem.W.nsIn K mainGlobals "_law_any" = some (some (.ref f17))) (l17 : K.lookup f17 = some ⟨oc17, od17, .func (PySem.W.fnOf "_law_any" "_law_any" (defArgs sAny) (defBody sAny) (defScope sAny) .none kV17 dc17 pm17 an17 cd17 ct17), sl17⟩) (c17 : PySem.W.codeIn K cd17 "_law_any" = true) (k17 : PySem.W.keepIn K (.ref f17) = true)
    (a18 : PySem.W.nsIn K mainGlobals "_law_bent" = some (some (.ref f18))) (l18 : K.lookup f18 = some ⟨oc18, od18, .func (PySem.W.fnOf "_law_bent" "_law_bent" (defArgs sBent) (defBody sBent) (defScope sBent) .none kV18 dc18 pm18 an18 cd18 ct18), sl18⟩) (c18 : PySem.W.codeIn K cd18 "_law_bent" = true) (k18 : PySem.W.keepIn K (.ref f18) = true)
    (a19 : PySem.W.nsIn K mainGlobals "_law_refused" = some (some (.ref f19))) (l19 : K.lookup f19 = some ⟨oc19, od19, .func (PySem.W.fnOf "_law_refused" "_law_refused" (defArgs sRefused) (defBody sRefused) (defScope sRefused) .none kV19 dc19 pm19 an19 cd19 ct19), sl19⟩) (c19 : PySem.W.codeIn K cd19 "_law_refused" = true) (k19 : PySem.W.keepIn K (.ref f19) = true)
    (a20 : PySem.W.nsIn K mainGlobals "_law_told" = some (some (.ref f20))) (l20 : K.lookup f20 = some ⟨oc20, od20, .func (PySem.W.fnOf "_law_told" "_law_told" (defArgs sTold) (defBody sTold) (defScope sTold) .none kV20 dc20 pm20 an20 cd20 ct20), sl20⟩) (c20 : PySem.W.codeIn K cd20 "_law_told" = true) (k20 : PySem.W.keepIn K (.ref f20) = true)
    (a21 : PySem.W.nsIn K mainGlobals "law" = some (some (.ref f21))) (l21 : K.lookup f21 = some ⟨oc21, od21, .func (PySem.W.fnOf "law" "law" (defArgs sLaw) (defBody sLaw) (defScope sLaw) .none kV21 dc21 pm21 an21 cd21 ct21), sl21⟩) (c21 : PySem.W.codeIn K cd21 "law" = true) (k21 : PySem.W.keepIn K (.ref f21) = true)
    (z0 : PySem.W.nsIn K mainGlobals "len" = some none)
    (z1 : PySem.W.nsIn K mainGlobals "isinstance" = some none)
    (z2 : PySem.W.nsIn K mainGlobals "int" = some none)
    (z3 : PySem.W.nsIn K mainGlobals "bool" = some none)
    (z4 : PySem.W.nsIn K mainGlobals "tuple" = some none)
    (z5 : PySem.W.nsIn K mainGlobals "set" = some none)
    (z6 : PySem.W.nsIn K mainGlobals "all" = some none)
    (z7 : PySem.W.nsIn K mainGlobals "list" = some none)
    (z8 : PySem.W.nsIn K mainGlobals "range" = some none)
    (z9 : PySem.W.nsIn K mainGlobals "max" = some none)
    (z10 : PySem.W.nsIn K mainGlobals "min" = some none)
    (z11 : PySem.W.nsIn K mainGlobals "repr" = some none)
    (cst0 : PySem.W.nsIn K mainGlobals "GREATEST_ID" = some (some (.int 1000000 gt0)))
    (aR : PySem.W.nsIn K mainGlobals "BadRule" = some (some (.ref CR)))
    (eH : PySem.W.subIn K (.ref C0) (.type "BaseException") = some true)
    (hH : PySem.W.hasDictIn K C0 = true)
    (tH : PySem.W.typeIn K (.ref C0) = some (.type "type"))
    (sH : PySem.W.subIn K (.ref C) (.ref C0) = some true)
    (xa : PySem.W.findIn K (.ref C) "__class__" = some (some (.builtin "object.__class__")))
    (xn : PySem.W.specialIn K (.builtin "object.__class__") "__get__" = some (some (.builtin "getset_descriptor.__get__")))
    (xt : PySem.W.takesIn K (.builtin "object.__class__") = some true)
    (xm : PySem.W.mroIn K C (.type "object") = some true)
    (ky : PySem.W.kitOne K (.ref C) (.ref C) = some true)
    (kn : PySem.W.kitOne K (.ref C) (.ref CR) = some false)
    : ∃ fd : FuncData, (∀ (s : Shared) (v : Value), BindsTo s fd ⟨[v], []⟩ [("script", v)]) ∧ ∀ base : Heap, K.In base → base.Ns mainGlobals mg → FnG l.prog w K mg base 9 fa fd ["script"] (spLaw K) := by
  have e := hfa.symm.trans (PySem.W.mg_of X G a21)
  cases e
  have L : PySem.LowX.LowTxt K mg C fI :=
    { gC := PySem.W.mg_of X G aC, cls := ⟨nm, q, N, bs, _, sn, sub, ab, col, dd, m0, m1, m2, m3, m5, xL, rfl⟩, sa := sa, ga := ga, gg := gg, noN := nb, iC := aI, tC := tI, kC := kC, exC := eC, tyC := tC, hdC := hC, te := exm_own eC iC tC sC,
      fn := ⟨_, _, _, _, _, _, _, _, _, _, _, _, _, _, lI, cI⟩ }
  have n_len := PySem.W.mg_none_of X G z0
  have n_isinstance := PySem.W.mg_none_of X G z1
  have n_int := PySem.W.mg_none_of X G z2
  have n_bool := PySem.W.mg_none_of X G z3
  have n_tuple := PySem.W.mg_none_of X G z4
  have n_set := PySem.W.mg_none_of X G z5
  have n_all := PySem.W.mg_none_of X G z6
  have n_list := PySem.W.mg_none_of X G z7
  have n_range := PySem.W.mg_none_of X G z8
  have n_max := PySem.W.mg_none_of X G z9
  have n_min := PySem.W.mg_none_of X G z10
  have n_repr := PySem.W.mg_none_of X G z11
  have F1 := fun_mk (st := sWhole) l1 c1 k1
  have b1 := F1.binds (ps := ["value"]) fun _ _ _ _ _ _ us hl => match us, hl with | [_], _ => rfl
  have W : Fn K mg "is_whole" sWhole ["value"] f1 _ := ⟨F1, b1, PySem.W.mg_of X G a1⟩
  have F2 := fun_mk (st := sWithin) l2 c2 k2
  have b2 := F2.binds (ps := ["value", "low", "high"]) fun _ _ _ _ _ _ us hl => match us, hl with | [_, _, _], _ => rfl
  have Wi : Fn K mg "is_within" sWithin ["value", "low", "high"] f2 _ := ⟨F2, b2, PySem.W.mg_of X G a2⟩
  have F3 := fun_mk (st := sDiff) l3 c3 k3
  have b3 := F3.binds (ps := ["numbers"]) fun _ _ _ _ _ _ us hl => match us, hl with | [_], _ => rfl
  have D : Fn K mg "all_different" sDiff ["numbers"] f3 _ := ⟨F3, b3, PySem.W.mg_of X G a3⟩
  have F4 := fun_mk (st := sIsId) l4 c4 k4
  have b4 := F4.binds (ps := ["value"]) fun _ _ _ _ _ _ us hl => match us, hl with | [_], _ => rfl
  have II : Fn K mg "is_id" sIsId ["value"] f4 _ := ⟨F4, b4, PySem.W.mg_of X G a4⟩
  have F5 := fun_mk (st := sIsOrder) l5 c5 k5
  have b5 := F5.binds (ps := ["value"]) fun _ _ _ _ _ _ us hl => match us, hl with | [_], _ => rfl
  have Od : Fn K mg "is_order" sIsOrder ["value"] f5 _ := ⟨F5, b5, PySem.W.mg_of X G a5⟩
  have F6 := fun_mk (st := sAreIds) l6 c6 k6
  have b6 := F6.binds (ps := ["order", "value"]) fun _ _ _ _ _ _ us hl => match us, hl with | [_, _], _ => rfl
  have A : Fn K mg "are_ids_of" sAreIds ["order", "value"] f6 _ := ⟨F6, b6, PySem.W.mg_of X G a6⟩
  have F7 := fun_mk (st := sIsMove) l7 c7 k7
  have b7 := F7.binds (ps := ["order", "value"]) fun _ _ _ _ _ _ us hl => match us, hl with | [_, _], _ => rfl
  have M : Fn K mg "is_move" sIsMove ["order", "value"] f7 _ := ⟨F7, b7, PySem.W.mg_of X G a7⟩
  have F8 := fun_mk (st := sDoMove) l8 c8 k8
  have b8 := F8.binds (ps := ["order", "move"]) fun _ _ _ _ _ _ us hl => match us, hl with | [_, _], _ => rfl
  have Do : Fn K mg "do_move" sDoMove ["order", "move"] f8 _ := ⟨F8, b8, PySem.W.mg_of X G a8⟩
  have F9 := fun_mk (st := sDeck) l9 c9 k9
  have b9 := F9.binds (ps := ["script", "start"]) fun _ _ _ _ _ _ us hl => match us, hl with | [_, _], _ => rfl
  have De : Fn K mg "_law_deck" sDeck ["script", "start"] f9 _ := ⟨F9, b9, PySem.W.mg_of X G a9⟩
  have F10 := fun_mk (st := sDraw) l10 c10 k10
  have b10 := F10.binds (ps := ["deck", "size"]) fun _ _ _ _ _ _ us hl => match us, hl with | [_, _], _ => rfl
  have Dr : Fn K mg "_law_draw" sDraw ["deck", "size"] f10 _ := ⟨F10, b10, PySem.W.mg_of X G a10⟩
  have F11 := fun_mk (st := sChoose) l11 c11 k11
  have b11 := F11.binds (ps := ["deck", "things"]) fun _ _ _ _ _ _ us hl => match us, hl with | [_, _], _ => rfl
  have Ch : Fn K mg "_law_choose" sChoose ["deck", "things"] f11 _ := ⟨F11, b11, PySem.W.mg_of X G a11⟩
  have F12 := fun_mk (st := sShuf) l12 c12 k12
  have b12 := F12.binds (ps := ["deck", "things"]) fun _ _ _ _ _ _ us hl => match us, hl with | [_, _], _ => rfl
  have Sh : Fn K mg "_law_shuffled" sShuf ["deck", "things"] f12 _ := ⟨F12, b12, PySem.W.mg_of X G a12⟩
  have F13 := fun_mk (st := sIds) l13 c13 k13
  have b13 := F13.binds (ps := ["deck", "many"]) fun _ _ _ _ _ _ us hl => match us, hl with | [_, _], _ => rfl
  have Id : Fn K mg "_law_ids" sIds ["deck", "many"] f13 _ := ⟨F13, b13, PySem.W.mg_of X G a13⟩
  have F14 := fun_mk (st := sLawIsId) l14 c14 k14
  have b14 := F14.binds (ps := ["thing"]) fun _ _ _ _ _ _ us hl => match us, hl with | [_], _ => rfl
  have LI : Fn K mg "_law_is_id" sLawIsId ["thing"] f14 _ := ⟨F14, b14, PySem.W.mg_of X G a14⟩
  have F15 := fun_mk (st := sLawDiff) l15 c15 k15
  have b15 := F15.binds (ps := ["things"]) fun _ _ _ _ _ _ us hl => match us, hl with | [_], _ => rfl
  have Di : Fn K mg "_law_different" sLawDiff ["things"] f15 _ := ⟨F15, b15, PySem.W.mg_of X G a15⟩
  have F16 := fun_mk (st := sMoveDue) l16 c16 k16
  have b16 := F16.binds (ps := ["line", "thing"]) fun _ _ _ _ _ _ us hl => match us, hl with | [_, _], _ => rfl
  have Md : Fn K mg "_law_move_due" sMoveDue ["line", "thing"] f16 _ := ⟨F16, b16, PySem.W.mg_of X G a16⟩
  have F17 := fun_mk (st := sAny) l17 c17 k17
  have b17 := F17.binds (ps := ["deck", "line"]) fun _ _ _ _ _ _ us hl => match us, hl with | [_, _], _ => rfl
  have An : Fn K mg "_law_any" sAny ["deck", "line"] f17 _ := ⟨F17, b17, PySem.W.mg_of X G a17⟩
  have F18 := fun_mk (st := sBent) l18 c18 k18
  have b18 := F18.binds (ps := ["deck", "line", "thing"]) fun _ _ _ _ _ _ us hl => match us, hl with | [_, _, _], _ => rfl
  have Be : Fn K mg "_law_bent" sBent ["deck", "line", "thing"] f18 _ := ⟨F18, b18, PySem.W.mg_of X G a18⟩
  have F19 := fun_mk (st := sRefused) l19 c19 k19
  have b19 := F19.binds (ps := ["line", "thing"]) fun _ _ _ _ _ _ us hl => match us, hl with | [_, _], _ => rfl
  have Re : Fn K mg "_law_refused" sRefused ["line", "thing"] f19 _ := ⟨F19, b19, PySem.W.mg_of X G a19⟩
  have F20 := fun_mk (st := sTold) l20 c20 k20
  have b20 := F20.binds (ps := ["line", "thing"]) fun _ _ _ _ _ _ us hl => match us, hl with | [_, _], _ => rfl
  have To : Fn K mg "_law_told" sTold ["line", "thing"] f20 _ := ⟨F20, b20, PySem.W.mg_of X G a20⟩
  exact ⟨PySem.W.fnOf "law" "law" (defArgs sLaw) (defBody sLaw) (defScope sLaw) .none kV21 dc21 pm21 an21 cd21 ct21, fun s v => .of_eq rfl, fun base _ _ =>
    (have TV : TxtV mg := ⟨n_len, n_isinstance, n_int, n_bool, n_tuple, n_set, n_all, n_list⟩
    have GWi := ok_within Wi.F TV W.F W.b W.m
    have GII := ok_isId II.F ⟨_, PySem.W.mg_of X G cst0⟩ GWi Wi.F.kp Wi.b Wi.m
    have GOd := ok_isOrder Od.F TV D.F D.b D.m GII II.F.kp II.b II.m
    have GDo := ok_doX Do.F TV L W.F W.b W.m D.F D.b D.m A.F A.b A.m M.F M.b M.m
    have GM := ok_isMove M.F TV W.F W.b W.m D.F D.b D.m A.F A.b A.m
    have GLI := ok_lawId LI.F TV
    have GDi := ok_dif Di.F GLI LI.F.kp LI.b LI.m
    have GMd := ok_mvDue Md.F TV GDi Di.F.kp Di.b Di.m
    have GC := ok_choose Ch.F ⟨n_len⟩ Dr.F Dr.b Dr.m
    have GDr := ok_draw Dr.F
    have GSh := ok_shuf Sh.F ⟨n_len, n_list⟩ Dr.F Dr.b Dr.m
    have GA := ok_anyL An.F n_tuple GC Ch.F.kp Ch.b Ch.m
    have GB := ok_bentL Be.F Be.b Be.m TV GDr Dr.F.kp Dr.b Dr.m GA An.F.kp An.b An.m 5
    have TR : TxtR K mg C C0 CR := ⟨n_isinstance, PySem.W.mg_of X G aH, PySem.W.mg_of X G aR, PySem.W.exm_ref eH hH tH sH, ⟨ga, gg, eC, hC, xa, xn, xt, xm⟩, ky, kn⟩
    have GR := ok_refd Re.F TR L GDo Do.F.kp Do.b Do.m
    have GT := ok_toldL To.F TV n_repr Od GOd M GM Re GR Di GDi Md GMd
    ok_law (fun_mk (st := sLaw) l21 c21 k21) ⟨n_len⟩ ⟨n_range, n_max, n_min, n_tuple⟩ De Dr Ch Id Sh GSh An GA Be GB To GT Re GR Od GOd M GM)⟩
end Hk
open PySem PySem.W PyProof.Rows in
set_option maxRecDepth 100000 in
set_option maxHeartbeats 0 in
theorem PySem.Challenge.cw_handsorted_k05_orders_and_moves_holds : PySem.Challenge.rw_handsorted_k05_orders_and_moves.Holds := by
  w_on; o_law; k_head; (case hw => w_witness2)
  k_fill
  refine Hk.walkG (l := PySem.Challenge.rw_handsorted_k05_orders_and_moves) (n := 63) (k := 9) (x := "script") (sp := Hk.spLaw) rfl (by decide) rfl ⟨rfl, by decide, by decide⟩ (fun w h Y => PySem.W.kIn_of Y) ?F (fun _ _ a ns hl hb hS => ⟨a, ns, rfl, hS, hl, hb, fun _ => rfl⟩)
  case F =>
    intro w mg fa h KX G hmg
    refine' Hk.all_mk KX G hmg ?aH ?aC ?xL ?sa ?ga ?gg ?nb ?aI ?tI ?lI ?cI ?kC ?eC ?tC ?hC ?iC ?sC ?a1 ?l1 ?c1 ?k1 ?a2 ?l2 ?c2 ?k2 ?a3 ?l3 ?c3 ?k3 ?a4 ?l4 ?c4 ?k4 ?a5 ?l5 ?c5 ?k5 ?a6 ?l6 ?c6 ?k6 ?a7 ?l7 ?c7 ?k7 ?a8 ?l8 ?c8 ?k8 ?a9 ?l9 ?c9 ?k9 ?a10 ?l10 ?c10 ?k10 ?a11 ?l11 ?c11 ?k11 ?a12 ?l12 ?c12 ?k12 ?a13 ?l13 ?c13 ?k13 ?a14 ?l14 ?c14 ?k14 ?a15 ?l15 ?c15 ?k15 ?a16 ?l16 ?c16 ?k16 ?a17 ?l17 ?c17 ?k17 ?a18 ?l18 ?c18 ?k18 ?a19 ?l19 ?c19 ?k19 ?a20 ?l20 ?c20 ?k20 ?a21 ?l21 ?c21 ?k21 ?z0 ?z1 ?z2 ?z3 ?z4 ?z5 ?z6 ?z7 ?z8 ?z9 ?z10 ?z11 ?cst0 ?aR ?eH ?hH ?tH ?sH ?xa ?xn ?xt ?xm ?ky ?kn
    (case aH => k_is)
    (case aC => k_is)
    (case xL => k_is)
    (case sa => k_is)
    (case ga => k_is)
    (case gg => k_is)
    (case nb => k_is)
    (case aI => k_is)
    (case tI => k_is)
    (case lI => k_is)
    (case cI => k_is)
    (case kC => k_is)
    (case eC => k_is)
    (case tC => k_is)
    (case hC => k_is)
    (case iC => k_is)
    (case sC => first | rfl | k_is)
    (case a1 => k_is)
    (case l1 => k_is)
    (case c1 => k_is)
    (case k1 => k_is)
    (case a2 => k_is)
    (case l2 => k_is)
    (case c2 => k_is)
    (case k2 => k_is)
    (case a3 => k_is)
    (case l3 => k_is)
    (case c3 => k_is)
    (case k3 => k_is)
    (case a4 => k_is)
    (case l4 => k_is)
    (case c4 => k_is)
    (case k4 => k_is)
    (case a5 => k_is)
    (case l5 => k_is)
    (case c5 => k_is)
    (case k5 => k_is)
    (case a6 => k_is)
    (case l6 => k_is)
    (case c6 => k_is)
    (case k6 => k_is)
    (case a7 => k_is)
    (case l7 => k_is)
    (case c7 => k_is)
    (case k7 => k_is)
    (case a8 => k_is)
    (case l8 => k_is)
    (case c8 => k_is)
    (case k8 => k_is)
    (case a9 => k_is)
    (case l9 => k_is)
    (case c9 => k_is)
    (case k9 => k_is)
    (case a10 => k_is)
    (case l10 => k_is)
    (case c10 => k_is)
    (case k10 => k_is)
    (case a11 => k_is)
    (case l11 => k_is)
    (case c11 => k_is)
    (case k11 => k_is)
    (case a12 => k_is)
    (case l12 => k_is)
    (case c12 => k_is)
    (case k12 => k_is)
    (case a13 => k_is)
    (case l13 => k_is)
    (case c13 => k_is)
    (case k13 => k_is)
    (case a14 => k_is)
    (case l14 => k_is)
    (case c14 => k_is)
    (case k14 => k_is)
    (case a15 => k_is)
    (case l15 => k_is)
    (case c15 => k_is)
    (case k15 => k_is)
    (case a16 => k_is)
    (case l16 => k_is)
    (case c16 => k_is)
    (case k16 => k_is)
    (case a17 => k_is)
    (case l17 => k_is)
    (case c17 => k_is)
    (case k17 => k_is)
    (case a18 => k_is)
    (case l18 => k_is)
    (case c18 => k_is)
    (case k18 => k_is)
    (case a19 => k_is)
    (case l19 => k_is)
    (case c19 => k_is)
    (case k19 => k_is)
    (case a20 => k_is)
    (case l20 => k_is)
    (case c20 => k_is)
    (case k20 => k_is)
    (case a21 => k_is)
    (case l21 => k_is)
    (case c21 => k_is)
    (case k21 => k_is)
    (case z0 => k_is)
    (case z1 => k_is)
    (case z2 => k_is)
    (case z3 => k_is)
    (case z4 => k_is)
    (case z5 => k_is)
    (case z6 => k_is)
    (case z7 => k_is)
    (case z8 => k_is)
    (case z9 => k_is)
    (case z10 => k_is)
    (case z11 => k_is)
    (case cst0 => k_is)
    (case aR => k_is)
    (case eH => k_is)
    (case hH => k_is)
    (case tH => k_is)
    (case sH => first | rfl | k_is)
    (case xa => k_is)
    (case xn => k_is)
    (case xt => k_is)
    (case xm => k_is)
    (case ky => first | rfl | k_is | decide +kernel)
    (case kn => first | rfl | k_is | decide +kernel)

