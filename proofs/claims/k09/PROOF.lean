import PyProof.Rows.All
import Wide.All
import OpenK.AllK
import Wide.FinOn
import HandS.ForMost
import HandS.EndBits
import HandS.Set
import HandS.SetFor
import HandS.IsInst
import KE.KSortedM
import PySem.Challenge.RW_handsorted_k09_whole_moves_taken_back
set_option Elab.async false
set_option linter.all false
set_option maxRecDepth 100000
set_option maxHeartbeats 8000000
namespace Hk
open PySem L2 PySem.Spec PyProof.Rows
def top (i : Nat) : Stmt := PySem.Challenge.pw_handsorted_k09_whole_moves_taken_back.main.body.getD i (.Pass ⟨0, 0, 0, 0⟩)
abbrev sWhole : Stmt := top 4
abbrev sDiff : Stmt := top 5
abbrev sAreIds : Stmt := top 7
abbrev sIsMove : Stmt := top 8
abbrev sDoMove : Stmt := top 9
abbrev sDeck : Stmt := top 11
abbrev sDraw : Stmt := top 12
abbrev sChoose : Stmt := top 13
abbrev sIds : Stmt := top 16
abbrev sLaw : Stmt := top 20
/-! ### numbers of any size -/
def CPowG (i j : Int) : Prop := 0 ≤ j ∧ (Builtin.Int.intBits i : Int) * j ≤ 2 ^ 27
section
variable {X : Cx}
theorem op_mulG : OpR X (binaryOp .Mult) (rI IntMulOk fun i j => .int (i * j)) := opI fun _ _ _ _ _ _ _ hc q => mul_int q hc
theorem op_powG : OpR X (binaryOp .Pow) (rI CPowG fun i j => .int (i ^ j.toNat)) := opI fun _ _ _ _ _ _ _ hc q => pow_int hc.1 hc.2 q
end
theorem mulOk_bits {i j : Int} {a b : Nat} (ha : Builtin.Int.intBits i ≤ a) (hb : Builtin.Int.intBits j ≤ b) (h : a + b ≤ 100000000) : IntMulOk i j := by
  have e : bitsLine = 134217728 := by decide
  unfold IntMulOk
  intro z
  rw [Bool.and_eq_true] at z
  have z2 := z.2
  unfold Builtin.Int.intTooBig at z2
  have z3 := of_decide_eq_true z2
  rw [e] at z3
  omega
theorem bits_le {i : Int} {n : Nat} (h : i.natAbs < 2 ^ n) : Builtin.Int.intBits i ≤ n := intBits_le h
/-- the turn of the deck's loop -/
theorem turn_bits {m e : Int} {k : Nat} (h0 : 0 ≤ m) (h1 : m < 2147483600) (he : Builtin.Int.intBits e ≤ k) (hk : 30 ≤ k) :
    Builtin.Int.intBits (m * 20011 + e * e + 13) ≤ 2 * k + 1 := by
  refine bits_le ?_
  have a1 : e.natAbs < 2 ^ k := Nat.lt_of_lt_of_le (natAbs_lt_pow_bits e) (Nat.pow_le_pow_right (by omega) he)
  have a2 : (e * e).natAbs < 2 ^ (2 * k) := by
    rw [Int.natAbs_mul, Nat.two_mul, Nat.pow_add]
    exact Nat.mul_lt_mul'' a1 a1
  have a3 : (m * 20011 + 13).natAbs < 2 ^ 60 := by
    have : (2 : Nat) ^ 60 = 1152921504606846976 := by decide
    omega
  have a4 : (2 : Nat) ^ 60 ≤ 2 ^ (2 * k) := Nat.pow_le_pow_right (by omega) (by omega)
  have a5 : (2 : Nat) ^ (2 * k + 1) = 2 ^ (2 * k) + 2 ^ (2 * k) := by rw [Nat.pow_succ, Nat.mul_two]
  rw [a5]
  generalize (2 : Nat) ^ (2 * k) = B at *
  generalize e * e = q at *
  omega
/-! ### the deck -/
def dk (x y : Int) : List (Key × V) := [(.inr "digits", .int x), (.inr "mixed", .int y)]
def DeckAt (H : Hp) (d : Addr) : Prop := ∃ x y : Int, H d = some (.dK (dk x y)) ∧ 0 ≤ x ∧ 0 ≤ y ∧ y < 2147483600
/-- all that was tracked is as it was, but what stands at d -/
def But (d : Addr) (H H' : Hp) : Prop := ∀ b o, b ≠ d → H b = some o → H' b = some o
theorem But.refl (d : Addr) (H : Hp) : But d H H := fun _ _ _ h => h
theorem But.trans {d : Addr} {H H1 H2 : Hp} (a : But d H H1) (b : But d H1 H2) : But d H H2 := fun c o n h => b c o n (a c o n h)
theorem But.of {d : Addr} {H H' : Hp} (a : Same H H') : But d H H' := fun c o _ h => a c o h
theorem But.upd {d : Addr} {H : Hp} {o : HO} : But d H (upd H d o) := fun b u n h => by rw [upd_ne n]; exact h
theorem But.new {d p : Addr} {H : Hp} {o : HO} (h : H p = none) : But d H (L2.upd H p o) := fun b u n e => by rw [upd_ne (ne_of_none e h)]; exact e
theorem Same.new {p : Addr} {H : Hp} {o : HO} (h : H p = none) : Same H (L2.upd H p o) := fun b u e => by rw [upd_ne (ne_of_none e h)]; exact e
theorem DeckAt.same {H H' : Hp} {d : Addr} (D : DeckAt H d) (s : Same H H') : DeckAt H' d := let ⟨x, y, h, r⟩ := D; ⟨x, y, s _ _ h, r⟩
theorem dm_ : ¬ (("digits" : Str) = "mixed") := by decide +kernel
theorem md_ : ¬ (("mixed" : Str) = "digits") := by decide +kernel
theorem dk_digits (x y : Int) : valV (dk x y) (Sum.inr "digits" : Key) = some (.int x) := by
  unfold valV dk
  rw [List.find?_cons_of_pos]
  · rfl
  · exact decide_eq_true rfl
theorem dk_mixed (x y : Int) : valV (dk x y) (Sum.inr "mixed" : Key) = some (.int y) := by
  unfold valV dk
  rw [List.find?_cons_of_neg, List.find?_cons_of_pos]
  · rfl
  · exact decide_eq_true rfl
  · intro q
    exact dm_ (Sum.inr.inj (of_decide_eq_true q))
theorem dk_put_digits (x y z : Int) : putK (dk x y) (Sum.inr "digits" : Key) (.int z) = dk z y := by
  unfold putK dk
  have n : ¬ (Sum.inr "mixed" : Key) = (Sum.inr "digits" : Key) := fun q => md_ (Sum.inr.inj q)
  simp only [List.any_cons, decide_true, Bool.true_or, if_true, List.map_cons, List.map_nil, if_neg n]
theorem dk_put_mixed (x y z : Int) : putK (dk x y) (Sum.inr "mixed" : Key) (.int z) = dk x z := by
  unfold putK dk
  have n : ¬ (Sum.inr "digits" : Key) = (Sum.inr "mixed" : Key) := fun q => dm_ (Sum.inr.inj q)
  simp only [List.any_cons, decide_true, Bool.true_or, Bool.or_true, if_true, List.map_cons, List.map_nil, if_neg n]
theorem dk_merge (x y : Int) : mergeK [] [((Sum.inr "digits" : Key), V.int x), ((Sum.inr "mixed" : Key), V.int y)] = dk x y := by
  unfold mergeK putK dk
  have n : ¬ (Sum.inr "digits" : Key) = (Sum.inr "mixed" : Key) := fun q => dm_ (Sum.inr.inj q)
  simp only [List.foldl_cons, List.foldl_nil, List.any_nil, List.nil_append, List.any_cons, decide_eq_false n, Bool.or_self]
  rfl
structure TxtD (mg : Str → Option Value) : Prop where
  len : mg "len" = none
section
variable {P : Program} {w : World} {K : PySem.W.Frag} {mg : Str → Option Value} {base : Heap}
def spDeck (K : PySem.W.Frag) : Sp := fun vs H Q _ => ∃ (a : Addr) (ns : List Int) (st : Int), vs = [.ref a, .int st] ∧ SqL K H a (ns.map V.int) ∧ ns.length ≤ 63 ∧ (∀ z ∈ ns, Builtin.Int.intBits z ≤ 1048576) ∧ 0 ≤ st ∧ st ≤ 63 ∧
  ∀ (d : Addr) (H' : Hp), H d = none → Same H H' → DeckAt H' d → Q (.ref d) H'
theorem scDeck : FnScope ["script", "start", "mixed", "entry", "digits"] ["script", "start"] (defScope sDeck) := ⟨rfl, rfl, rfl, by decide +kernel, rfl, by decide +kernel, by decide +kernel⟩
theorem ok_deck {f : Addr} {fd : FuncData} (F : Fun K "_law_deck" "_law_deck" sDeck f fd) (T : TxtD mg) : FnOk P w K mg base CX0 1 f fd ["script", "start"] (spDeck K) := by
  refine F.ok scDeck (fun vs H Q E h => ?_) (fun cdv A outer s H vs Q E hr h => ?_)
  · obtain ⟨a, ns, st, rfl, _⟩ := h
    rfl
  · obtain ⟨a, ns, st, rfl, hS, hlen, hb, h0, h1, k⟩ := h
    have hu := hu_of hr
    refine ⟨_, pss_cons (ps_set (i := 2) scDeck.nd rfl (Or.inl rfl) (pe_op op_add pe_int (pe_op op_mul (pv 1) pe_int)))
      (pss_cons (ps_for PassesOwn.never rfl (pi_list (pv 0)) (pg_name (i := 3) scDeck.nd rfl (Or.inl rfl))
        (pss_one (ps_set (i := 2) scDeck.nd rfl (Or.inl rfl) (pe_op op_add (pe_op op_mod (pe_op op_powG (pe_op op_add (pe_op op_add (pe_op op_mul (pv 2) pe_int) (pe_op op_mulG (pv 3) (pv 3))) pe_int) pe_int) pe_int) pe_int))))
      (pss_cons (ps_set (i := 4) scDeck.nd rfl (Or.inl rfl) (pe_ifExp (PW.pt (pw_and (pt_cmpR op_lt (pv 1) (pe_callB call_len_seq (by rfl) T.len PySem.boot_len (pa_cons (pv 0) pa_nil)) (nomark _))
          (pw_and1 (pt_cmpR op_ge (pe_ix ix_list (pv 0) (pv 1) (fun _ _ => rfl)) (pe_op op_pow pe_int pe_int) (nomark _)))))
          (pe_op op_sub (pe_ix ix_list (pv 0) (pv 1) (fun _ _ => rfl)) (pe_op op_pow pe_int pe_int)) pe_int))
      (pss_one (ps_ret (pe_disp (pps_cons pe_str (pv 4) (pps_cons pe_str (pv 2) pps_nil)) (by rfl) (by rfl) (fun z => by cases z) (by decide)))))), ?_⟩
    refine ⟨_, rfl, _, _, rfl, rfl, .inr ⟨by decide, by decide⟩, _, _, rfl, rfl, ?_⟩
    refine ⟨_, rfl, a, rfl, ⟨_, hS⟩, for_list (K := K) (a := a) (xs := ns.map V.int) (fun i σ H' => ∃ (m : Int) (v : Option V), σ = [some (.ref a), some (.int st), some (.int m), v, none] ∧ H' = H ∧ 0 ≤ m ∧ m < 2147483600)
      ⟨_, none, rfl, rfl, by omega, by omega⟩ (fun i σ H' _ ⟨_, _, _, e, _⟩ => by rw [e]; exact hS) ?_ ?_⟩
    · rintro i y σ H' hi ⟨m, v, rfl, rfl, m0, m1⟩
      obtain ⟨e, he, rfl⟩ : ∃ e, e ∈ ns ∧ y = V.int e := by
        rw [List.getElem?_map] at hi
        cases q : ns[i]? with
        | none => rw [q] at hi; cases hi
        | some u => rw [q] at hi; exact ⟨u, List.mem_of_getElem? q, (Option.some.inj hi).symm⟩
      have hbits := hb e he
      have hT := turn_bits (k := 1048576) m0 m1 hbits (by decide)
      refine ⟨_, rfl, _, _, rfl, rfl, .inr ⟨by decide, by decide⟩, _, rfl, _, rfl, _, _, rfl, rfl, mulOk_bits hbits hbits (by decide), _, _, rfl, rfl, _, _, rfl, rfl, _, _, rfl, rfl, ⟨by decide, ?_⟩, _, _, rfl, rfl, (by show (0 : Int) < 2147483549; decide), _, _, rfl, rfl, ?_⟩
      · have z : (2 : Int) ^ 27 = 134217728 := by decide
        rw [z]
        generalize Builtin.Int.intBits (m * 20011 + e * e + 13) = B at hT ⊢
        omega
      · refine ⟨_, _, rfl, rfl, ?_, ?_⟩
        · have := Int.emod_nonneg ((m * 20011 + e * e + 13) ^ (2 : Int).toNat) (b := 2147483549) (by decide)
          generalize (m * 20011 + e * e + 13) ^ (2 : Int).toNat % 2147483549 = z at *
          omega
        · have := Int.emod_lt_of_pos ((m * 20011 + e * e + 13) ^ (2 : Int).toNat) (b := 2147483549) (by decide)
          generalize (m * 20011 + e * e + 13) ^ (2 : Int).toNat % 2147483549 = z at *
          omega
    · rintro σ H' ⟨m, v, rfl, rfl, m0, m1⟩
      have fin : ∀ (x : Int) (σ' : L2.St), 0 ≤ x → σ' = [some (.ref a), some (.int st), some (.int m), v, some (.int x)] →
          (tRet (tDisp [(tC (.str "digits"), tVar 4), (tC (.str "mixed"), tVar 2)])) { nx := fun _ H' => Q .non H', rt := Q } σ' H' := by
        rintro x σ' hx rfl
        intro p hp
        refine ⟨_, rfl, _, rfl, upd_same, [((Sum.inr "digits" : Key), V.int x), ((Sum.inr "mixed" : Key), V.int m)], rfl, (by show 2 ≤ 15; decide), ?_⟩
        rw [upd_upd, dk_merge]
        exact k p _ hp (Same.new hp) ⟨x, m, upd_same, hx, m0, m1⟩
      refine ⟨_, rfl, _, rfl, a, _, rfl, .inl hS, _, _, rfl, rfl, _, rfl, ?_⟩
      refine ite2 (fun hlt => ?_) (fun hlt => ?_)
      · have hlt' : st < (ns.map V.int).length := of_decide_eq_true hlt
        rw [List.length_map] at hlt'
        obtain ⟨n, rfl⟩ : ∃ n : Nat, st = (n : Int) := ⟨st.toNat, by omega⟩
        have hn : n < ns.length := by omega
        have hat : (ns.map V.int)[n]? = some (V.int ns[n]) := by rw [List.getElem?_map, List.getElem?_eq_getElem hn]; rfl
        refine ⟨_, rfl, _, rfl, a, _, _, _, rfl, rfl, hS, atI_nat hat, _, _, rfl, rfl, ⟨by decide, by decide, by decide⟩, _, _, rfl, rfl, _, rfl, ?_⟩
        refine ite2 (fun hge => ?_) (fun hge => ?_)
        · have hge' := of_decide_eq_true hge
          refine ⟨_, rfl, _, rfl, a, _, _, _, rfl, rfl, hS, atI_nat hat, _, _, rfl, rfl, ⟨by decide, by decide, by decide⟩, _, _, rfl, rfl, ?_⟩
          exact fin _ _ (by omega) rfl
        · exact fin 0 _ (Int.le_refl _) rfl
      · refine iteF ?_
        exact fin 0 _ (Int.le_refl _) rfl
end
theorem But.seq {d a : Addr} {H H' : Hp} {K : PySem.W.Frag} {xs : List V} (D : DeckAt H d) (s : But d H H') (h : SqL K H a xs) : SqL K H' a xs := by
  obtain ⟨x, y, hd, _⟩ := D
  rcases h with (h | ⟨o, h⟩) | h
  · exact .inl (.inl (s _ _ (ne_of h hd (by intro z; cases z)) h))
  · exact .inl (.inr ⟨o, s _ _ (ne_of h hd (by intro z; cases z)) h⟩)
  · exact .inr h
theorem But.lst {d a : Addr} {H H' : Hp} {xs : List V} (D : DeckAt H d) (s : But d H H') (h : H a = some (.lst xs)) : H' a = some (.lst xs) := by
  obtain ⟨x, y, hd, _⟩ := D
  exact s _ _ (ne_of h hd (by intro z; cases z)) h
theorem But.tup {d a : Addr} {H H' : Hp} {xs : List V} (D : DeckAt H d) (s : But d H H') (h : H a = some (.tup xs)) : H' a = some (.tup xs) := by
  obtain ⟨x, y, hd, _⟩ := D
  exact s _ _ (ne_of h hd (by intro z; cases z)) h
/-- new behind is new ahead -/
theorem But.free {d p : Addr} {H H' : Hp} (D : DeckAt H' d) (s : But d H H') (h : H' p = none) : H p = none := by
  obtain ⟨x, y, hd, _⟩ := D
  cases q : H p with
  | none => rfl
  | some o =>
    have := s _ _ (fun e => by rw [e, hd] at h; cases h) q
    rw [h] at this
    cases this
theorem pow6 : (10 : Int) ^ (6 : Int).toNat = 1000000 := by decide
section
variable {P : Program} {w : World} {K : PySem.W.Frag} {mg : Str → Option Value} {base : Heap}
/-! ### a draw -/
def spDraw : Sp := fun vs H Q _ => ∃ (d : Addr) (n : Int), vs = [.ref d, .int n] ∧ DeckAt H d ∧ 0 < n ∧ n < 1073741824 ∧ ∀ (r : Int) (H' : Hp), 0 ≤ r → r < n → DeckAt H' d → But d H H' → Q (.int r) H'
theorem scDraw : FnScope ["deck", "size", "found"] ["deck", "size"] (defScope sDraw) := ⟨rfl, rfl, rfl, by decide +kernel, rfl, by decide +kernel, by decide +kernel⟩
theorem ok_draw {f : Addr} {fd : FuncData} (F : Fun K "_law_draw" "_law_draw" sDraw f fd) : FnOk P w K mg base CX0 1 f fd ["deck", "size"] spDraw := by
  refine F.ok scDraw (fun vs H Q E h => ?_) (fun cdv A outer s H vs Q E hr h => ?_)
  · obtain ⟨d, n, rfl, _⟩ := h
    rfl
  · obtain ⟨d, n, rfl, ⟨x, y, hd, x0, y0, y1⟩, n0, n1, k⟩ := h
    have hu := hu_of hr
    refine ⟨_, pss_cons (ps_if (pt_cmpR op_ge (pe_dget hu (pv 0) pe_str (fun _ _ => rfl)) (pv 1) (nomark _))
        (pss_cons (ps_set (i := 2) scDraw.nd rfl (Or.inl rfl) (pe_op op_mod (pe_dget hu (pv 0) pe_str (fun _ _ => rfl)) (pv 1)))
        (pss_cons (ps_dput hu (pv 0) pe_str (pe_op op_fdiv (pe_dget hu (pv 0) pe_str (fun _ _ => rfl)) (pv 1)) rfl)
        (pss_one (ps_ret (pv 2))))) pss_nil)
      (pss_cons (ps_dput hu (pv 0) pe_str (pe_op op_mod (pe_op op_add (pe_op op_mul (pe_dget hu (pv 0) pe_str (fun _ _ => rfl)) pe_int) pe_int) pe_int) rfl)
      (pss_one (ps_ret (pe_op op_mod (pe_op op_fdiv (pe_op op_mod (pe_op op_pow (pe_op op_mod (pe_op op_pow (pe_dget hu (pv 0) pe_str (fun _ _ => rfl)) pe_int) pe_int) pe_int) pe_int) pe_int) (pv 1))))), ?_⟩
    have gx : ∀ {H : Hp} {x y : Int}, H d = some (.dK (dk x y)) → DGet H d (.str "digits") (some (.int x)) := fun {H x y} e => by
      have := DGet.k (k := Sum.inr "digits") e
      rw [dk_digits] at this
      exact this
    have gy : ∀ {H : Hp} {x y : Int}, H d = some (.dK (dk x y)) → DGet H d (.str "mixed") (some (.int y)) := fun {H x y} e => by
      have := DGet.k (k := Sum.inr "mixed") e
      rw [dk_mixed] at this
      exact this
    have px : ∀ {H : Hp} {x y z : Int}, H d = some (.dK (dk x y)) → DPut H d (.str "digits") (.int z) (upd H d (.dK (dk z y))) := fun {H x y z} e => by
      have := DPut.k (k := Sum.inr "digits") (v := .int z) e (by show 2 < sizeLine; decide)
      rw [dk_put_digits] at this
      exact this
    have py : ∀ {H : Hp} {x y z : Int}, H d = some (.dK (dk x y)) → DPut H d (.str "mixed") (.int z) (upd H d (.dK (dk x z))) := fun {H x y z} e => by
      have := DPut.k (k := Sum.inr "mixed") (v := .int z) e (by show 2 < sizeLine; decide)
      rw [dk_put_mixed] at this
      exact this
    refine ⟨_, rfl, d, _, rfl, gx hd, _, rfl, _, _, rfl, rfl, _, rfl, ?_⟩
    refine ite2 (fun c => ?_) (fun c => ?_)
    · refine ⟨_, rfl, d, _, rfl, gx hd, _, rfl, _, _, rfl, rfl, n0, ?_⟩
      refine ⟨_, rfl, d, _, rfl, gx hd, _, rfl, _, _, rfl, rfl, ⟨n0, n1⟩, _, rfl, d, _, rfl, px hd, ?_⟩
      exact ⟨_, rfl, k _ _ (Int.emod_nonneg _ (by omega)) (Int.emod_lt_of_pos _ n0) ⟨_, y, upd_same, Int.ediv_nonneg x0 (by omega), y0, y1⟩ But.upd⟩
    · have m0 := Int.emod_nonneg (y * 39373 + 2027) (b := 2147483549) (by decide)
      have m1 := Int.emod_lt_of_pos (y * 39373 + 2027) (b := 2147483549) (by decide)
      refine ⟨_, rfl, d, _, rfl, gy hd, _, _, rfl, rfl, .inr ⟨by decide, by decide⟩, _, _, rfl, rfl, _, _, rfl, rfl, (by show (0 : Int) < 2147483549; decide), _, rfl, d, _, rfl, py hd, ?_⟩
      refine ⟨_, rfl, d, _, rfl, gy upd_same, _, _, rfl, rfl, ⟨by decide, by decide, by omega⟩, _, _, rfl, rfl, (by show (0 : Int) < 2147483423; decide), ?_⟩
      have q0 := Int.emod_nonneg (((y * 39373 + 2027) % 2147483549) ^ (2 : Int).toNat) (b := 2147483423) (by decide)
      have q1 := Int.emod_lt_of_pos (((y * 39373 + 2027) % 2147483549) ^ (2 : Int).toNat) (b := 2147483423) (by decide)
      refine ⟨_, _, rfl, rfl, ⟨by decide, by decide, by omega⟩, _, _, rfl, rfl, (by show (0 : Int) < 998244353; decide), _, _, rfl, rfl, ⟨by decide, by decide⟩, _, rfl, _, _, rfl, rfl, n0, ?_⟩
      exact k _ _ (Int.emod_nonneg _ (by omega)) (Int.emod_lt_of_pos _ n0) ⟨x, _, upd_same, x0, m0, by omega⟩ But.upd
/-! ### one of some things -/
def spChoose (K : PySem.W.Frag) : Sp := fun vs H Q _ => ∃ (d t : Addr) (xs : List V), vs = [.ref d, .ref t] ∧ DeckAt H d ∧ SqL K H t xs ∧ xs ≠ [] ∧ xs.length < 1000000 ∧ ∀ (v : V) (H' : Hp), v ∈ xs → DeckAt H' d → But d H H' → Q v H'
theorem scChoose : FnScope ["deck", "things"] ["deck", "things"] (defScope sChoose) := ⟨rfl, rfl, rfl, by decide +kernel, rfl, by decide +kernel, by decide +kernel⟩
theorem ok_choose {f fD : Addr} {fd fdD : FuncData} (F : Fun K "_law_choose" "_law_choose" sChoose f fd) (T : TxtD mg) (FD : Fun K "_law_draw" "_law_draw" sDraw fD fdD) (bD : Binds K fdD ["deck", "size"] []) (mD : mg "_law_draw" = some (.ref fD)) :
    FnOk P w K mg base CX0 2 f fd ["deck", "things"] (spChoose K) := by
  have GD : FnOk P w K mg base CX0 1 fD fdD ["deck", "size"] spDraw := ok_draw FD
  refine F.ok scChoose (fun vs H Q E h => ?_) (fun cdv A outer s H vs Q E hr h => ?_)
  · obtain ⟨d, t, xs, rfl, _⟩ := h
    rfl
  · obtain ⟨d, t, xs, rfl, D, hS, h0, h1, k⟩ := h
    refine ⟨_, pss_one (ps_ret (pe_ix ix_list (pv 1) (pe_call GD hr rfl mD FD.kp bD .nil pass0 (pa_cons (pv 0) (pa_cons (pe_callB call_len_seq (by rfl) T.len PySem.boot_len (pa_cons (pv 1) pa_nil)) pa_nil))) (fun _ _ => rfl))), ?_⟩
    have hl : 0 < xs.length := List.length_pos_iff.mpr h0
    refine ⟨_, rfl, _, rfl, _, rfl, t, _, rfl, .inl hS, d, _, rfl, D, by omega, by omega, fun r H' r0 r1 D' B => ?_⟩
    obtain ⟨n, rfl⟩ : ∃ n : Nat, r = (n : Int) := ⟨r.toNat, by omega⟩
    have hn : n < xs.length := by omega
    have hat : xs[n]? = some xs[n] := List.getElem?_eq_getElem hn
    exact ⟨t, _, _, _, rfl, rfl, B.seq D hS, atI_nat hat, k _ _ (List.getElem_mem hn) D' B⟩
end
/-! ### the walk through the ids meets a free one -/
theorem len_le_of_sub : ∀ (xs ys : List Int), xs.Nodup → (∀ x ∈ xs, x ∈ ys) → xs.length ≤ ys.length
  | [], _, _, _ => Nat.zero_le _
  | x :: r, ys, hn, hs => by
    have hx : x ∈ ys := hs x List.mem_cons_self
    have hn' := List.nodup_cons.mp hn
    have ih := len_le_of_sub r (ys.erase x) hn'.2 fun z hz => (List.mem_erase_of_ne (fun e => hn'.1 (by rw [← e]; exact hz))).mpr (hs z (List.mem_cons_of_mem _ hz))
    have hl := List.length_erase_of_mem hx
    have : 0 < ys.length := List.length_pos_of_mem hx
    show r.length + 1 ≤ ys.length
    omega
def nx (z : Int) (i : Nat) : Int := (z - 1 + (i : Int)) % 1000000 + 1
theorem nx_zero {z : Int} (h0 : 1 ≤ z) (h1 : z ≤ 1000000) : nx z 0 = z := by unfold nx; omega
theorem nx_succ {z : Int} {i : Nat} : nx z i % 1000000 + 1 = nx z (i + 1) := by unfold nx; omega
theorem nx_lo (z : Int) (i : Nat) : 1 ≤ nx z i := by unfold nx; omega
theorem nx_hi (z : Int) (i : Nat) : nx z i ≤ 1000000 := by unfold nx; omega
theorem nx_inj {z : Int} {i j : Nat} (hi : i < 1000) (hj : j < 1000) (h : nx z i = nx z j) : i = j := by unfold nx at h; omega
theorem nx_few {z : Int} {js : List Int} {t : Nat} (ht : t ≤ 500) (h : ∀ i, i < t → nx z i ∈ js) : t ≤ js.length := by
  have a : ((List.range t).map (nx z)).Nodup := by
    refine List.pairwise_map.mpr ?_
    refine List.Pairwise.imp_of_mem ?_ (List.pairwise_lt_range (n := t))
    intro i j hi hj l e
    have q := nx_inj (by have := List.mem_range.mp hi; omega) (by have := List.mem_range.mp hj; omega) e
    omega
  have b := len_le_of_sub _ js a (fun x hx => by
    obtain ⟨i, hi, rfl⟩ := List.mem_map.mp hx
    exact h i (List.mem_range.mp hi))
  rw [List.length_map, List.length_range] at b
  exact b
theorem eqV_int (i j : Int) : eqV (.int i) (.int j) = decide (i = j) := by
  first
    | rfl
    | simp [eqV]
theorem inV_int (z : Int) (js : List Int) : inV (.int z) (js.map V.int) = decide (z ∈ js) := by
  unfold inV
  rw [List.any_map]
  induction js with
  | nil => rfl
  | cons a r ih =>
    rw [List.any_cons, ih]
    show (eqV (.int a) (.int z) || decide (z ∈ r)) = decide (z ∈ a :: r)
    rw [eqV_int]
    by_cases e : a = z
    · subst e
      simp
    · have e' : ¬ z = a := fun q => e q.symm
      simp [e, e']
theorem all_flat (js : List Int) : (js.map V.int).all flatV = true := by
  induction js with
  | nil => rfl
  | cons a r ih => exact ih
section
variable {P : Program} {w : World} {K : PySem.W.Frag} {mg : Str → Option Value} {base : Heap}
/-- so many different ids -/
def IdsL (js : List Int) : Prop := js.Nodup ∧ ∀ z ∈ js, 1 ≤ z ∧ z ≤ 1000000
def spIds : Sp := fun vs H Q _ => ∃ (d : Addr) (n : Nat), vs = [.ref d, .int n] ∧ DeckAt H d ∧ n ≤ 300 ∧
  ∀ (l : Addr) (js : List Int) (H' : Hp), H l = none → But d H H' → DeckAt H' d → H' l = some (.lst (js.map V.int)) → js.length = n → IdsL js → Q (.ref l) H'
theorem scIds : FnScope ["deck", "many", "found", "number"] ["deck", "many"] (defScope sIds) := ⟨rfl, rfl, rfl, by decide +kernel, rfl, by decide +kernel, by decide +kernel⟩
theorem ok_ids {f fD fC : Addr} {fd fdD fdC : FuncData} (F : Fun K "_law_ids" "_law_ids" sIds f fd) (T : TxtD mg) (FD : Fun K "_law_draw" "_law_draw" sDraw fD fdD) (bD : Binds K fdD ["deck", "size"] []) (mD : mg "_law_draw" = some (.ref fD))
    (FC : Fun K "_law_choose" "_law_choose" sChoose fC fdC) (bC : Binds K fdC ["deck", "things"] []) (mC : mg "_law_choose" = some (.ref fC)) :
    FnOk P w K mg base CX0 3 f fd ["deck", "many"] spIds := by
  have GD : FnOk P w K mg base CX0 1 fD fdD ["deck", "size"] spDraw := ok_draw FD
  have GC : FnOk P w K mg base CX0 2 fC fdC ["deck", "things"] (spChoose K) := ok_choose FC T FD bD mD
  refine F.ok scIds (fun vs H Q E h => ?_) (fun cdv A outer s H vs Q E hr h => ?_)
  · obtain ⟨d, n, rfl, _⟩ := h
    rfl
  · obtain ⟨d, n, rfl, D, n1, k⟩ := h
    have hr1 : Room 1 _ := hr.mono (by decide)
    refine ⟨_, pss_cons (ps_set (i := 2) scIds.nd rfl (Or.inl rfl) (pe_lst pa_nil))
      (pss_cons (ps_while PassesOwn.never (pt_cmpR op_lt (pe_callB call_len_seq (by rfl) T.len PySem.boot_len (pa_cons (pv 2) pa_nil)) (pv 1) (nomark _))
        (pss_cons (ps_set (i := 3) scIds.nd rfl (Or.inl rfl) (pe_call GC hr rfl mC FC.kp bC .nil pass0 (pa_cons (pv 0) (pa_cons (pe_lst
            (pa_cons (pe_op op_add pe_int (pe_call GD hr1 rfl mD FD.kp bD .nil pass0 (pa_cons (pv 0) (pa_cons pe_int pa_nil))))
            (pa_cons (pe_op op_add pe_int (pe_call GD hr1 rfl mD FD.kp bD .nil pass0 (pa_cons (pv 0) (pa_cons (pe_op op_pow pe_int pe_int) pa_nil))))
            (pa_cons (pe_op op_sub (pe_op op_pow pe_int pe_int) (pe_callB call_len_seq (by rfl) T.len PySem.boot_len (pa_cons (pv 2) pa_nil))) pa_nil)))) pa_nil))))
        (pss_cons (ps_while PassesOwn.never (pt_cmpR op_in_seq (pv 3) (pv 2) (by rfl))
          (pss_one (ps_set (i := 3) scIds.nd rfl (Or.inl rfl) (pe_op op_add (pe_op op_mod (pv 3) (pe_op op_pow pe_int pe_int)) pe_int))))
        (pss_one (ps_expr (pe_bm PySem.F.plainAttrs_list PySem.F.slot_list_append PySem.F.type_list_append mt_append (pv 2) (pa_cons (pv 3) pa_nil)))))))
      (pss_one (ps_ret (pv 2)))), ?_⟩
    refine ⟨Nat.zero_le _, fun l hl => ?_⟩
    have nld : l ≠ d := fun e => by obtain ⟨_, _, hd, _⟩ := D; rw [e, hd] at hl; cases hl
    refine ⟨fun m σ H' => ∃ (js : List Int) (v : Option V), σ = [some (.ref d), some (.int n), some (.ref l), v] ∧ m = n - js.length ∧ js.length ≤ n ∧ IdsL js ∧ H' l = some (.lst (js.map V.int)) ∧ DeckAt H' d ∧ But d H H',
      ⟨_, [], none, rfl, rfl, Nat.zero_le _, ⟨List.nodup_nil, fun z h => by cases h⟩, upd_same, D.same (Same.new hl), But.new hl⟩, ?_⟩
    rintro m σ H1 ⟨js, v, rfl, rfl, hlen, hI, hL, D1, B1⟩
    refine ⟨_, rfl, l, _, rfl, .inl (SqL.of hL), _, rfl, _, _, rfl, rfl, _, rfl, ?_⟩
    refine ite2 (fun c => ?_) (fun c => ?_)
    · have c' : ((js.map V.int).length : Int) < n := of_decide_eq_true c
      rw [List.length_map] at c'
      have c2 : js.length < n := by omega
      refine ⟨fun σ' H' => ∃ m', m' < n - js.length ∧ ∃ (js : List Int) (v : Option V), σ' = [some (.ref d), some (.int n), some (.ref l), v] ∧ m' = n - js.length ∧ js.length ≤ n ∧ IdsL js ∧ H' l = some (.lst (js.map V.int)) ∧ DeckAt H' d ∧ But d H H', fun _ _ z => z, ?_⟩
      -- number = _law_choose(deck, [..])
      refine ⟨_, rfl, ?_⟩
      refine ⟨_, rfl, d, 30, rfl, D1, by decide, by decide, fun r1 H2 r10 r11 D2 B2 => ?_⟩
      refine ⟨_, _, rfl, rfl, _, rfl, _, _, rfl, rfl, ⟨by decide, by decide, by decide⟩, d, _, rfl, D2, (by rw [pow6]; decide), (by rw [pow6]; decide), fun r2 H3 r20 r21 D3 B3 => ?_⟩
      rw [pow6] at r21
      have hL3 : H3 l = some (.lst (js.map V.int)) := B3.lst D2 (B2.lst D1 hL)
      refine ⟨_, _, rfl, rfl, _, _, rfl, rfl, ⟨by decide, by decide, by decide⟩, _, rfl, l, _, rfl, .inl (SqL.of hL3), _, _, rfl, rfl, ?_⟩
      refine ⟨by show 3 ≤ sizeLine; decide, fun p hp => ?_⟩
      have D4 : ∀ o, DeckAt (upd H3 p o) d := fun o => D3.same (Same.new hp)
      refine ⟨d, p, _, rfl, D4 _, SqL.of upd_same, (by intro z; cases z), (by show 3 < 1000000; decide), fun v H4 hv D5 B5 => ?_⟩
      have hL4 : H4 l = some (.lst (js.map V.int)) := B5.lst (D4 _) (by rw [upd_ne (ne_of_none hL3 hp)]; exact hL3)
      obtain ⟨z, rfl, z0, z1⟩ : ∃ z : Int, v = .int z ∧ 1 ≤ z ∧ z ≤ 1000000 := by
        rw [pow6, List.length_map] at hv
        rcases List.mem_cons.mp hv with e | hv
        · exact ⟨_, e, by omega, by omega⟩
        rcases List.mem_cons.mp hv with e | hv
        · exact ⟨_, e, by omega, by omega⟩
        rcases List.mem_cons.mp hv with e | hv
        · exact ⟨_, e, by omega, by omega⟩
        · cases hv
      -- while number in found
      refine ⟨fun m σ' H' => ∃ t : Nat, σ' = [some (.ref d), some (.int n), some (.ref l), some (.int (nx z t))] ∧ m = 400 - t ∧ H' = H4 ∧ (∀ i, i < t → nx z i ∈ js) ∧ t ≤ 400,
        ⟨_, 0, by rw [nx_zero z0 z1]; rfl, rfl, rfl, (fun i h => by omega), by omega⟩, ?_⟩
      rintro m σ' H' ⟨t, rfl, rfl, rfl, ht, ht4⟩
      refine ⟨_, rfl, _, rfl, l, _, rfl, .inl (SqL.of hL4), rfl, all_flat js, _, rfl, ?_⟩
      rw [inV_int]
      refine ite2 (fun c => ?_) (fun c => ?_)
      · have hz : nx z t ∈ js := of_decide_eq_true c
        have few := nx_few (z := z) (js := js) (t := t + 1) (by omega) (fun i hi => by
          by_cases e : i = t
          · rw [e]; exact hz
          · exact ht i (by omega))
        refine ⟨fun σ'' H'' => ∃ m', m' < 400 - t ∧ ∃ t : Nat, σ'' = [some (.ref d), some (.int n), some (.ref l), some (.int (nx z t))] ∧ m' = 400 - t ∧ H'' = H' ∧ (∀ i, i < t → nx z i ∈ js) ∧ t ≤ 400, fun _ _ q => q, ?_⟩
        refine ⟨_, rfl, _, _, rfl, rfl, ⟨by decide, by decide, by decide⟩, _, _, rfl, rfl, (by show (0 : Int) < 10 ^ (6 : Int).toNat; rw [pow6]; decide), _, _, rfl, rfl, ?_⟩
        refine ⟨400 - (t + 1), by omega, t + 1, ?_, rfl, rfl, fun i hi => ?_, by omega⟩
        · rw [pow6]
          show [some (V.ref d), some (V.int n), some (V.ref l), some (V.int (nx z t % 1000000 + 1))] = _
          rw [nx_succ]
        · by_cases e : i = t
          · rw [e]; exact hz
          · exact ht i (by omega)
      · have hz : nx z t ∉ js := fun q => c (decide_eq_true q)
        refine ⟨_, rfl, .inl ⟨rfl, _, SqL.of hL4⟩, _, rfl, l, _, _, rfl, rfl, hL4, (by rw [List.length_map]; exact small1000 (by omega)), ?_⟩
        refine ⟨n - (js.length + 1), by omega, js ++ [nx z t], some (.int (nx z t)), rfl, by rw [List.length_append]; rfl, by rw [List.length_append]; exact c2, ⟨?_, ?_⟩, ?_, ?_, ?_⟩
        · refine List.nodup_append.mpr ⟨hI.1, by simp, ?_⟩
          intro a ha b hb e
          have : b = nx z t := by simpa using hb
          rw [e, this] at ha
          exact hz ha
        · intro y hy
          rcases List.mem_append.mp hy with h | h
          · exact hI.2 y h
          · have : y = nx z t := by simpa using h
            rw [this]
            exact ⟨nx_lo _ _, nx_hi _ _⟩
        · rw [upd_same, List.map_append]; rfl
        · obtain ⟨x, y, hd, r⟩ := D5
          exact ⟨x, y, by rw [upd_ne nld.symm]; exact hd, r⟩
        · intro b o hb e
          have nb : b ≠ l := ne_of_none e hl
          rw [upd_ne nb]
          have e4 := B3 b o hb (B2 b o hb (B1 b o hb e))
          exact B5 b o hb (by rw [upd_ne (ne_of_none e4 hp)]; exact e4)
    · have c' : ¬ ((js.map V.int).length : Int) < n := fun q => c (decide_eq_true q)
      rw [List.length_map] at c'
      exact ⟨_, rfl, k l js H1 hl B1 D1 hL (by omega) hI⟩
end
/-! ### sets of ints -/
/-- S is the set of the ints ns, n their number -/
def SetIs (ns : List Int) (S : Int → Bool) (n : Nat) : Prop := (∀ k, S k = decide (k ∈ ns)) ∧ ∃ L : List Int, L.Nodup ∧ L.length = n ∧ ∀ k, k ∈ L ↔ k ∈ ns
theorem shorter : ∀ ns : List Int, ¬ ns.Nodup → ∃ ms : List Int, ms.length < ns.length ∧ ∀ k ∈ ns, k ∈ ms
  | [], h => absurd List.nodup_nil h
  | a :: r, h => by
    by_cases ha : a ∈ r
    · exact ⟨r, Nat.lt_succ_self _, fun k hk => by
        rcases List.mem_cons.mp hk with e | e
        · rw [e]; exact ha
        · exact e⟩
    · have hr : ¬ r.Nodup := fun q => h (List.nodup_cons.mpr ⟨ha, q⟩)
      obtain ⟨ms, h1, h2⟩ := shorter r hr
      exact ⟨a :: ms, Nat.succ_lt_succ h1, fun k hk => by
        rcases List.mem_cons.mp hk with e | e
        · rw [e]; exact List.mem_cons_self
        · exact List.mem_cons_of_mem _ (h2 k e)⟩
theorem SetIs.count {ns : List Int} {S : Int → Bool} {n : Nat} (h : SetIs ns S n) : ((n : Int) = (ns.length : Int)) ↔ ns.Nodup := by
  obtain ⟨_, L, h1, h2, h3⟩ := h
  have a := len_le_of_sub L ns h1 fun k hk => (h3 k).mp hk
  constructor
  · intro e
    by_cases hN : ns.Nodup
    · exact hN
    · obtain ⟨ms, m1, m2⟩ := shorter ns hN
      have b := len_le_of_sub L ms h1 fun k hk => m2 k ((h3 k).mp hk)
      omega
  · intro hN
    have b := len_le_of_sub ns L hN fun k hk => (h3 k).mpr hk
    omega
theorem firstMet_nodup (val : Nat → Int) : ∀ i, (firstMet val i).Nodup
  | 0 => by rw [firstMet_zero]; exact List.nodup_nil
  | i + 1 => by
    rw [firstMet_succ]
    unfold step_dedup
    have ih := firstMet_nodup val i
    split
    · exact ih
    · rename_i h
      refine List.nodup_append.mpr ⟨ih, by simp, ?_⟩
      intro a ha b hb e
      have : b = val i := by simpa using hb
      refine h (List.any_eq_true.mpr ⟨a, ha, ?_⟩)
      rw [e, this]
      simp
theorem getD_range (ns : List Int) : (List.range ns.length).map (fun i => ns.getD i 0) = ns := by
  apply List.ext_getElem
  · simp
  · intro i h1 h2
    simp [List.getD, h2]
theorem firstMet_mem (ns : List Int) (k : Int) : k ∈ firstMet (fun i => ns.getD i 0) ns.length ↔ k ∈ ns := by
  have h := firstMet_any (fun i => ns.getD i 0) ns.length k
  rw [getD_range] at h
  have e : ∀ l : List Int, (l.any (· == k) = true) ↔ k ∈ l := fun l => by
    rw [List.any_eq_true]
    constructor
    · rintro ⟨x, hx, q⟩
      have : x = k := by simpa using q
      rw [← this]; exact hx
    · intro hk
      exact ⟨k, hk, by simp⟩
  rw [← e, ← e, h]
def rSetI (K : PySem.W.Frag) : List V → Hp → VK → Prop := fun xs H Q => ∃ (p : Addr) (ns : List Int), xs = [.ref p] ∧ (SqL K H p (ns.map V.int) ∨ SqT K H p (ns.map V.int)) ∧ ns.length ≤ 4000 ∧
  ∀ (q : Addr) (S : Int → Bool) (n : Nat), H q = none → SetIs ns S n → n ≤ ns.length → Q (.ref q) (upd H q (.set S n))
section
variable {X : Cx}
theorem cr_setI (hc : X.calm = true) : CallR X (.type "set") (rSetI X.K) := by
  intro pins s σ H xs us Q I r h
  obtain ⟨p, ns, rfl, hq, hlen, k⟩ := h
  rw [Vals.ref1 r]
  have hs : scanBound = 4096 := rfl
  rcases hq with hq | hq
  · obtain ⟨its, rv, pl, hz⟩ := I.list hq
    have hl := rv.length
    rw [List.length_map] at hl
    refine call_set_list (I.ok.hd hc) pl.isList (ns := ns) (Vals.ints rv) (by rw [List.size_toArray, hs]; omega) fun h' tk R kk => ?_
    have esz : its.toArray.size = ns.length := by rw [List.size_toArray]; omega
    rw [esz] at R
    have hn := firstMet_mem ns
    have hset : SetIs ns (fun k' => (firstMet (fun i => ns.getD i 0) ns.length).any (· == k')) (firstMet (fun i => ns.getD i 0) ns.length).length := by
      refine ⟨fun k => ?_, _, firstMet_nodup _ _, rfl, hn⟩
      rw [Bool.eq_iff_iff, decide_eq_true_iff, ← hn k, List.any_eq_true]
      constructor
      · rintro ⟨x, hx, q⟩
        have : x = k := by simpa using q
        rw [← this]; exact hx
      · intro hk
        exact ⟨k, hk, by simp⟩
    have I' := I.laid (a := s.heap.objs.size) (o := .set _ _) (h' := h') (t' := tk) (fun b u e => kk b u (Heap.lt_size e) e) (Nat.le_refl _) R
    exact ⟨.ref _, _, I', rfl, k _ _ _ (I.hok.fresh (Nat.le_refl _)) hset (firstMet_length_le _ _)⟩
  · obtain ⟨its, rv, pl, hz⟩ := I.tuple hq
    have hl := rv.length
    rw [List.length_map] at hl
    refine call_set_tupI ns (I.ok.hd hc) pl (Vals.ints rv) (by rw [hs]; omega) fun h' tk c R hle kk => ?_
    have hset : SetIs ns (fun j => decide (j ∈ ns)) c := by
      obtain ⟨o, es, ep, t, h1, h2, h3, h4, h5, h6, h7, h8, h9, _⟩ := id R
      refine ⟨fun k => rfl, es.toList.map keyOf, h5, ?_, fun k => ?_⟩
      · rw [List.length_map, ← h9]; rfl
      · rw [← h6 k, decide_eq_true_iff]
    have I' := I.laid (a := s.heap.objs.size) (o := .set _ _) (h' := h') (t' := tk) (fun b u e => kk b u e) (Nat.le_refl _) (SetR.setOf R)
    exact ⟨.ref _, _, I', rfl, k _ _ _ (I.hok.fresh (Nat.le_refl _)) hset hle⟩
def rInSet (neg : Bool) : R2 := fun x y H Q => ∃ (k : Int) (a : Addr) (S : Int → Bool) (n : Nat), x = .int k ∧ y = .ref a ∧ H a = some (.set S n) ∧ Q (.bl (if neg then !S k else S k)) H
theorem op_inSet : OpR X (compareOp .In) (rInSet false) := by
  intro pins s σ H x y v u Q I rx ry h
  obtain ⟨k, a, S, n, rfl, rfl, ha, q⟩ := h
  cases ry
  obtain ⟨t, rfl⟩ := rx
  exact wpAny_inSet_of (knd := intKind X.prog X.w) (k := k) (by first | rfl | simp [intKind, Value.isInt]) rfl (I.hok a _ ha) ⟨.bl (S k), H, I.tok _, rfl, q⟩
theorem op_notInSet : OpR X (compareOp .NotIn) (rInSet true) := by
  intro pins s σ H x y v u Q I rx ry h
  obtain ⟨k, a, S, n, rfl, rfl, ha, q⟩ := h
  cases ry
  obtain ⟨t, rfl⟩ := rx
  exact wpAny_notInSet_of (knd := intKind X.prog X.w) (k := k) (by first | rfl | simp [intKind, Value.isInt]) rfl (I.hok a _ ha) ⟨.bl (!S k), H, I.tok _, rfl, q⟩
theorem call_lenSet : CallR X (.builtin "len") (fun xs H Q => ∃ a S n, xs = [.ref a] ∧ H a = some (.set S n) ∧ Q (.int n) H) := by
  intro pins s σ H xs us Q I r h
  obtain ⟨a, S, n, rfl, ha, q⟩ := h
  rw [Vals.ref1 r]
  obtain ⟨o, es, ep, t, h1, h2, h3, h4, h5, h6, h7, h8⟩ := I.hok a _ ha
  have hs : scanBound = 4096 := rfl
  refine call_len_set h1 h2 h3 h7 (by omega) ?_
  rw [h8]
  exact ⟨.int n, H, (I.tok (s.toks + 1 + 1)), ⟨_, rfl⟩, q⟩
end
/-! ### data in the heap: flat things, lists, tuples, the empty dict -/
mutual
inductive DV (K : PySem.W.Frag) (H : Hp) : V → PyData → Prop
  | non : DV K H .non .none
  | bl (b : Bool) : DV K H (.bl b) (.bool b)
  | int (i : Int) : DV K H (.int i) (.int i)
  | str (x : Str) : DV K H (.str x) (.str x)
  | lst {a : Addr} {xs : List V} {ds : List PyData} : SqL K H a xs → DVs K H xs ds → DV K H (.ref a) (.list ds)
  | tup {a : Addr} {xs : List V} {ds : List PyData} : SqT K H a xs → DVs K H xs ds → DV K H (.ref a) (.tuple ds)
  | dk0 {a : Addr} : H a = some (.dK []) → DV K H (.ref a) (.dict [])
inductive DVs (K : PySem.W.Frag) (H : Hp) : List V → List PyData → Prop
  | nil : DVs K H [] []
  | cons {v : V} {vs : List V} {d : PyData} {ds : List PyData} : DV K H v d → DVs K H vs ds → DVs K H (v :: vs) (d :: ds)
end
section
variable {K : PySem.W.Frag} {H H' : Hp}
theorem DVs.length {vs : List V} {ds : List PyData} (h : DVs K H vs ds) : vs.length = ds.length := by
  induction vs generalizing ds with
  | nil => cases h; rfl
  | cons v r ih => cases h with | cons _ t => exact congrArg Nat.succ (ih t)
theorem DVs.at {vs : List V} {ds : List PyData} (h : DVs K H vs ds) : ∀ {i : Nat} {v : V}, vs[i]? = some v → ∃ d, ds[i]? = some d ∧ DV K H v d := by
  induction vs generalizing ds with
  | nil => intro i v e; simp at e
  | cons v r ih =>
    cases h with
    | cons p t =>
      intro i u e
      cases i with
      | zero => simp at e; subst e; exact ⟨_, rfl, p⟩
      | succ i => simp at e; obtain ⟨d, h1, h2⟩ := ih t e; exact ⟨d, by simpa using h1, h2⟩
theorem Same.sq {a : Addr} {xs : List V} (e : Same H H') (h : SqL K H a xs) : SqL K H' a xs := e.seq h
theorem Same.tq {a : Addr} {xs : List V} (e : Same H H') (h : SqT K H a xs) : SqT K H' a xs := by
  rcases h with (h | ⟨o, h⟩) | h
  · exact .inl (.inl (e _ _ h))
  · exact .inl (.inr ⟨o, e _ _ h⟩)
  · exact .inr h
mutual
theorem DV.same (e : Same H H') : ∀ {d : PyData} {v : V}, DV K H v d → DV K H' v d
  | _, _, .non => .non
  | _, _, .bl b => .bl b
  | _, _, .int i => .int i
  | _, _, .str x => .str x
  | _, _, .lst h t => .lst (Same.sq e h) (DVs.same e t)
  | _, _, .tup h t => .tup (Same.tq e h) (DVs.same e t)
  | _, _, .dk0 h => .dk0 (e _ _ h)
theorem DVs.same (e : Same H H') : ∀ {ds : List PyData} {vs : List V}, DVs K H vs ds → DVs K H' vs ds
  | _, _, .nil => .nil
  | _, _, .cons p t => .cons (DV.same e p) (DVs.same e t)
end
/-- a value's built-in type by its name -/
def TyD (K : PySem.W.Frag) (H : Hp) (x : V) : Prop := ∃ nm : String, TyX K H x (.type nm) ∧ ((nm = "NoneType" ∧ x = .non) ∨ (nm = "bool" ∧ ∃ b, x = .bl b) ∨ (nm = "int" ∧ ∃ i, x = .int i) ∨ (nm = "str" ∧ ∃ z, x = .str z) ∨
  (nm = "list" ∧ ∃ a, x = .ref a) ∨ (nm = "tuple" ∧ ∃ a, x = .ref a) ∨ (nm = "dict" ∧ ∃ a, x = .ref a))
theorem tyL {a : Addr} {xs : List V} (h : SqL K H a xs) : TyX K H (.ref a) (.type "list") := by
  rcases h with (h | ⟨o, h⟩) | ⟨o, _, _, h, c, _⟩
  · exact .base (.lst h)
  · exact .base (.frz h)
  · exact .kList h c
theorem tyT {a : Addr} {xs : List V} (h : SqT K H a xs) : TyX K H (.ref a) (.type "tuple") := by
  rcases h with (h | ⟨o, h⟩) | ⟨o, _, _, h, c, _⟩
  · exact .base (.tup h)
  · exact .fTuple h
  · exact .kTuple h c
theorem DV.ty {v : V} {d : PyData} (h : DV K H v d) : TyD K H v := by
  cases h with
  | non => exact ⟨_, .base .non, .inl ⟨rfl, rfl⟩⟩
  | bl b => exact ⟨_, .base (.bl b), .inr (.inl ⟨rfl, b, rfl⟩)⟩
  | int i => exact ⟨_, .base (.int i), .inr (.inr (.inl ⟨rfl, i, rfl⟩))⟩
  | str x => exact ⟨_, .base (.str x), .inr (.inr (.inr (.inl ⟨rfl, x, rfl⟩)))⟩
  | lst h t => exact ⟨_, tyL h, .inr (.inr (.inr (.inr (.inl ⟨rfl, _, rfl⟩))))⟩
  | tup h t => exact ⟨_, tyT h, .inr (.inr (.inr (.inr (.inr (.inl ⟨rfl, _, rfl⟩)))))⟩
  | dk0 h => exact ⟨_, .base (.dK h), .inr (.inr (.inr (.inr (.inr (.inr ⟨rfl, _, rfl⟩)))))⟩
end
def wholeV : V → Bool
  | .int _ => true
  | _ => false
def wholeD : PyData → Bool
  | .int _ => true
  | _ => false
theorem DV.whole {K : PySem.W.Frag} {H : Hp} {v : V} {d : PyData} (h : DV K H v d) : wholeV v = wholeD d := by cases h <;> rfl
structure TxtV (mg : Str → Option Value) : Prop where
  len : mg "len" = none
  isi : mg "isinstance" = none
  int : mg "int" = none
  bool : mg "bool" = none
  tuple : mg "tuple" = none
  set : mg "set" = none
  all : mg "all" = none
  list : mg "list" = none
section
variable {P : Program} {w : World} {K : PySem.W.Frag} {mg : Str → Option Value} {base : Heap}
/-! ### is_whole -/
def spWhole (K : PySem.W.Frag) : Sp := fun vs H Q _ => ∃ x : V, vs = [x] ∧ TyD K H x ∧ Q (.bl (wholeV x)) H
theorem scWhole : FnScope ["value"] ["value"] (defScope sWhole) := ⟨rfl, rfl, rfl, by decide +kernel, rfl, by decide +kernel, by decide +kernel⟩
theorem ok_whole {f : Addr} {fd : FuncData} (F : Fun K "is_whole" "is_whole" sWhole f fd) (T : TxtV mg) : FnOk P w K mg base CX0 1 f fd ["value"] (spWhole K) := by
  refine F.ok scWhole (fun vs H Q E h => ?_) (fun cdv A outer s H vs Q E hr h => ?_)
  · obtain ⟨x, rfl, _⟩ := h
    rfl
  · obtain ⟨x, rfl, ⟨nm, ty, hn⟩, k⟩ := h
    refine ⟨_, pss_one (ps_ret (pe_and (pe_callB call_isi (by rfl) T.isi (by decide +kernel) (pa_cons (pv 0) (pa_cons (pe_bltn (v := .ty "int") (by rfl) T.int boot_int rfl) pa_nil)))
      (pe_one (pe_not (pe_callB call_isi (by rfl) T.isi (by decide +kernel) (pa_cons (pv 0) (pa_cons (pe_bltn (v := .ty "bool") (by rfl) T.bool boot_bool rfl) pa_nil))))))), ?_⟩
    refine ⟨_, rfl, ?_⟩
    rcases hn with ⟨rfl, rfl⟩ | ⟨rfl, b, rfl⟩ | ⟨rfl, i, rfl⟩ | ⟨rfl, z, rfl⟩ | ⟨rfl, a, rfl⟩ | ⟨rfl, a, rfl⟩ | ⟨rfl, a, rfl⟩
    · exact ⟨_, _, _, _, false, rfl, .ty _, ty, kit_ty (by decide +kernel), _, rfl, iteF k⟩
    · exact ⟨_, _, _, _, true, rfl, .ty _, ty, kit_ty (by decide +kernel), _, rfl, iteT ⟨_, rfl, _, _, _, _, true, rfl, .ty _, ty, kit_ty (by decide +kernel), _, rfl, k⟩⟩
    · exact ⟨_, _, _, _, true, rfl, .ty _, ty, kit_ty (by decide +kernel), _, rfl, iteT ⟨_, rfl, _, _, _, _, false, rfl, .ty _, ty, kit_ty (by decide +kernel), _, rfl, k⟩⟩
    · exact ⟨_, _, _, _, false, rfl, .ty _, ty, kit_ty (by decide +kernel), _, rfl, iteF k⟩
    · exact ⟨_, _, _, _, false, rfl, .ty _, ty, kit_ty (by decide +kernel), _, rfl, iteF k⟩
    · exact ⟨_, _, _, _, false, rfl, .ty _, ty, kit_ty (by decide +kernel), _, rfl, iteF k⟩
    · exact ⟨_, _, _, _, false, rfl, .ty _, ty, kit_ty (by decide +kernel), _, rfl, iteF k⟩
/-! ### all_different -/
def spDiff (K : PySem.W.Frag) : Sp := fun vs H Q _ => ∃ (p : Addr) (ns : List Int), vs = [.ref p] ∧ (SqL K H p (ns.map V.int) ∨ SqT K H p (ns.map V.int)) ∧ ns.length ≤ 4000 ∧ ∀ H', Same H H' → Q (.bl (decide ns.Nodup)) H'
theorem scDiff : FnScope ["numbers"] ["numbers"] (defScope sDiff) := ⟨rfl, rfl, rfl, by decide +kernel, rfl, by decide +kernel, by decide +kernel⟩
theorem ok_diff {f : Addr} {fd : FuncData} (F : Fun K "all_different" "all_different" sDiff f fd) (T : TxtV mg) : FnOk P w K mg base CX0 1 f fd ["numbers"] (spDiff K) := by
  refine F.ok scDiff (fun vs H Q E h => ?_) (fun cdv A outer s H vs Q E hr h => ?_)
  · obtain ⟨p, ns, rfl, _⟩ := h
    rfl
  · obtain ⟨p, ns, rfl, hS, hlen, k⟩ := h
    refine ⟨_, pss_one (ps_ret (pe_cmpR op_eq (pe_callB call_lenSet (by rfl) T.len PySem.boot_len (pa_cons (pe_callTy (cr_setI rfl) (by rfl) T.set (by decide +kernel) (pa_cons (pv 0) pa_nil)) pa_nil))
      (pe_callB call_len_seq (by rfl) T.len PySem.boot_len (pa_cons (pv 0) pa_nil)) (nomark _))), ?_⟩
    refine ⟨_, rfl, p, ns, rfl, hS, hlen, fun q S n hq hI hn => ?_⟩
    have e : Same H (upd H q (.set S n)) := Same.new hq
    refine ⟨q, S, n, rfl, upd_same, _, rfl, p, _, rfl, hS.imp (Same.sq e) (Same.tq e), rfl, ?_⟩
    have c := hI.count
    have r : decide (V.int (n : Int) = V.int ((ns.map V.int).length : Int)) = decide ns.Nodup := by
      rw [dec_int, List.length_map]
      by_cases hN : ns.Nodup
      · rw [decide_eq_true hN, c.mpr hN]; simp
      · rw [decide_eq_false hN]
        have : ¬ ((n : Int) = (ns.length : Int)) := fun q => hN (c.mp q)
        simpa using this
    show Q (V.bl (decide (V.int (n : Int) = V.int ((ns.map V.int).length : Int)))) _
    rw [r]
    exact k _ e
end
def isTup : PyData → Bool
  | .tuple _ => true
  | _ => false
def isLst : PyData → Bool
  | .list _ => true
  | _ => false
theorem kb1 : kitB "NoneType" "tuple" = some false := by decide +kernel
theorem kb2 : kitB "NoneType" "list" = some false := by decide +kernel
theorem kb3 : kitB "bool" "tuple" = some false := by decide +kernel
theorem kb4 : kitB "bool" "list" = some false := by decide +kernel
theorem kb5 : kitB "int" "tuple" = some false := by decide +kernel
theorem kb6 : kitB "int" "list" = some false := by decide +kernel
theorem kb7 : kitB "str" "tuple" = some false := by decide +kernel
theorem kb8 : kitB "str" "list" = some false := by decide +kernel
theorem kb9 : kitB "list" "tuple" = some false := by decide +kernel
theorem kb10 : kitB "list" "list" = some true := by decide +kernel
theorem kb11 : kitB "tuple" "tuple" = some true := by decide +kernel
theorem kb12 : kitB "tuple" "list" = some false := by decide +kernel
theorem kb13 : kitB "dict" "tuple" = some false := by decide +kernel
theorem kb14 : kitB "dict" "list" = some false := by decide +kernel
theorem DV.kit {K : PySem.W.Frag} {H : Hp} {v : V} {d : PyData} (h : DV K H v d) : ∃ nm : String, TyX K H v (.type nm) ∧ PySem.W.kitOne K (.type nm) (.type "tuple") = some (isTup d) ∧ PySem.W.kitOne K (.type nm) (.type "list") = some (isLst d) := by
  cases h with
  | non => exact ⟨_, .base .non, kit_ty kb1, kit_ty kb2⟩
  | bl b => exact ⟨_, .base (.bl b), kit_ty kb3, kit_ty kb4⟩
  | int i => exact ⟨_, .base (.int i), kit_ty kb5, kit_ty kb6⟩
  | str x => exact ⟨_, .base (.str x), kit_ty kb7, kit_ty kb8⟩
  | lst h t => exact ⟨_, tyL h, kit_ty kb9, kit_ty kb10⟩
  | tup h t => exact ⟨_, tyT h, kit_ty kb11, kit_ty kb12⟩
  | dk0 h => exact ⟨_, .base (.dK h), kit_ty kb13, kit_ty kb14⟩
/-! ### the plain functions -/
def intOf : PyData → Int
  | .int i => i
  | _ => 0
def areIdsL (js : List Int) (ds : List PyData) : Bool := !ds.isEmpty && ds.all wholeD && (ds.map intOf).all (fun k => decide (k ∈ js)) && decide (ds.map intOf).Nodup
def areIds (js : List Int) : PyData → Bool
  | .tuple ds => areIdsL js ds
  | _ => false
theorem whole_all {K : PySem.W.Frag} {H : Hp} : ∀ {ds : List PyData} {vs : List V}, DVs K H vs ds → ds.all wholeD = true → vs = (ds.map intOf).map V.int
  | _, _, .nil, _ => rfl
  | d :: ds, v :: vs, .cons p t, h => by
    rw [List.all_cons, Bool.and_eq_true] at h
    rw [List.map_cons, List.map_cons, ← whole_all t h.2]
    cases p <;> first | rfl | (exact absurd h.1 (by intro q; cases q))
theorem DVs.wholes {K : PySem.W.Frag} {H : Hp} {ds : List PyData} {vs : List V} (h : DVs K H vs ds) {i : Nat} {v : V} (e : vs[i]? = some v) : ∃ d, ds[i]? = some d ∧ wholeV v = wholeD d ∧ TyD K H v := by
  obtain ⟨d, h1, h2⟩ := h.at e
  exact ⟨d, h1, h2.whole, h2.ty⟩
theorem take_snoc {α : Type} {l : List α} {i : Nat} {x : α} (h : l[i]? = some x) : l.take (i + 1) = l.take i ++ [x] := by
  rw [List.take_succ, h]; rfl
theorem lt_of_some {α : Type} {l : List α} {i : Nat} {x : α} (h : l[i]? = some x) : i < l.length := (List.getElem?_eq_some_iff.mp h).1
section
variable {P : Program} {w : World} {K : PySem.W.Frag} {mg : Str → Option Value} {base : Heap}
def spAreIds (K : PySem.W.Frag) : Sp := fun vs H Q _ => ∃ (o : Addr) (js : List Int) (v : V) (d : PyData), vs = [.ref o, v] ∧ SqL K H o (js.map V.int) ∧ js.length ≤ 4000 ∧ DV K H v d ∧ (∀ ds, d = .tuple ds → ds.length ≤ 4000) ∧
  ∀ H', Same H H' → Q (.bl (areIds js d)) H'
theorem scAreIds : FnScope ["order", "value", "known", "row_id"] ["order", "value"] (defScope sAreIds) := ⟨rfl, rfl, rfl, by decide +kernel, rfl, by decide +kernel, by decide +kernel⟩
theorem ok_areIds {f fW fD : Addr} {fd fdW fdD : FuncData} (F : Fun K "are_ids_of" "are_ids_of" sAreIds f fd) (T : TxtV mg) (FW : Fun K "is_whole" "is_whole" sWhole fW fdW) (bW : Binds K fdW ["value"] []) (mW : mg "is_whole" = some (.ref fW))
    (FD : Fun K "all_different" "all_different" sDiff fD fdD) (bD : Binds K fdD ["numbers"] []) (mD : mg "all_different" = some (.ref fD)) : FnOk P w K mg base CX0 2 f fd ["order", "value"] (spAreIds K) := by
  have GW : FnOk P w K mg base CX0 1 fW fdW ["value"] (spWhole K) := ok_whole FW T
  have GD : FnOk P w K mg base CX0 1 fD fdD ["numbers"] (spDiff K) := ok_diff FD T
  refine F.ok scAreIds (fun vs H Q E h => ?_) (fun cdv A outer s H vs Q E hr h => ?_)
  · obtain ⟨o, js, v, d, rfl, _⟩ := h
    rfl
  · obtain ⟨o, js, v, d, rfl, hO, hj, hd, hdl, k⟩ := h
    refine ⟨_, pss_cons (ps_if (PW.pt (pw_or (pt_not (pt_val (pe_callB call_isi (by rfl) T.isi (by decide +kernel) (pa_cons (pv 1) (pa_cons (pe_bltn (v := .ty "tuple") (by rfl) T.tuple boot_tuple rfl) pa_nil)))))
          (pw_or1 (pt_cmpR op_eq (pe_callB call_len_seq (by rfl) T.len PySem.boot_len (pa_cons (pv 1) pa_nil)) pe_int (nomark _))))) (pss_one (ps_ret pe_bl)) pss_nil)
      (pss_cons (ps_if (pt_not (pt_val (pe_callB (cr_all rfl) (by rfl) T.all (by decide +kernel) (pa_cons
          (pe_lc (own := [("row_id", 3)]) (g := gName 3) rfl scAreIds.nd (pi_tup (pv 1)) (blkOk_by (N := ["order", "value", "known", "row_id"]) (sc := defScope sAreIds) (by decide +kernel)) (fun _ _ _ _ _ => pg_name (i := 3) scAreIds.nd rfl (Or.inl rfl)) (fun _ _ _ _ _ => pts_nil)
            (fun _ _ _ _ _ => pe_call GW hr rfl mW FW.kp bW .nil pass0 (pa_cons (pv 3) pa_nil))) pa_nil)))) (pss_one (ps_ret pe_bl)) pss_nil)
      (pss_cons (ps_set (i := 2) scAreIds.nd rfl (Or.inr rfl) (pe_callTy (cr_setI rfl) (by rfl) T.set (by decide +kernel) (pa_cons (pv 0) pa_nil)))
      (pss_one (ps_ret (pe_and (pe_callB (cr_all rfl) (by rfl) T.all (by decide +kernel) (pa_cons
          (pe_lc (own := [("row_id", 3)]) (g := gName 3) rfl scAreIds.nd (pi_tup (pv 1)) (blkOk_by (N := ["order", "value", "known", "row_id"]) (sc := defScope sAreIds) (by decide +kernel)) (fun _ _ _ _ _ => pg_name (i := 3) scAreIds.nd rfl (Or.inl rfl)) (fun _ _ _ _ _ => pts_nil)
            (fun _ _ _ _ _ => pe_cmpR op_inSet (pv 3) (pv 2) (by rfl))) pa_nil)) (pe_one (pe_call GD hr rfl mD FD.kp bD .nil pass0 (pa_cons (pv 1) pa_nil)))))))), ?_⟩
    obtain ⟨nm, ty, k1, k2⟩ := hd.kit
    refine ⟨_, rfl, _, _, _, _, _, rfl, .ty _, ty, k1, _, rfl, ?_⟩
    cases hd with
    | tup hT hs =>
      rename_i a vs ds
      refine iteF ?_
      refine ⟨_, rfl, a, _, rfl, .inr hT, rfl, _, rfl, ?_⟩
      have hl := hs.length
      have hdl' := hdl ds rfl
      by_cases h0 : ds = []
      · subst h0
        have : vs = [] := List.length_eq_zero_iff.mp hl
        subst this
        exact iteT (k H (Same.refl H))
      have hz : decide (V.int ((vs.length : Nat) : Int) = V.int 0) = false := by
        rw [dec_int]
        have : 0 < ds.length := List.length_pos_iff.mpr h0
        have : ¬ (((vs.length : Nat) : Int) = 0) := by omega
        simpa using this
      rw [hz]
      refine iteF ?_
      -- all([is_whole(row_id) for row_id in value])
      refine ⟨_, rfl, a, rfl, ⟨_, hT⟩, fun D hD => ?_⟩
      refine lc_tup (K := K) (a := a) (xs := vs) (fun i H' => Same H H' ∧ H' D = some (.lst ((ds.take i).map fun d => V.bl (wholeD d)))) ⟨Same.new hD, upd_same⟩ (fun i H' _ q => Same.tq q.1 hT) ?_ ?_
      · rintro i x H' hx ⟨s1, hL⟩
        obtain ⟨d, hd, hw, hty⟩ := hs.wholes hx
        refine ⟨rfl, ?_⟩
        obtain ⟨e, he, hv⟩ := hs.at hx
        refine ⟨_, rfl, x, rfl, (hv.same s1).ty, ?_⟩
        refine ⟨_, hL, ?_, ?_, ?_⟩
        · rw [List.length_map, List.length_take]
          exact Nat.lt_of_le_of_lt (by omega : _ ≤ 4000) (by decide)
        · intro b u hb
          rw [upd_ne (ne_of_none hb hD)]
          exact s1 b u hb
        · rw [upd_same, take_snoc hd, List.map_append]
          show some (HO.lst (_ ++ [V.bl (wholeV x)])) = some (HO.lst (_ ++ [V.bl (wholeD d)]))
          rw [hw]
      · rintro H1 ⟨s1, hL⟩
        rw [hl, List.take_length] at hL
        refine ⟨D, ds.map wholeD, rfl, SqL.of (by rw [List.map_map]; exact hL), _, rfl, ?_⟩
        have eall : (ds.map wholeD).all id = ds.all wholeD := by rw [List.all_map]; rfl
        rw [eall]
        cases hA : ds.all wholeD with
        | false =>
          refine iteT ?_
          have e : areIds js (.tuple ds) = false := by
            show areIdsL js ds = false
            unfold areIdsL
            rw [hA]
            simp
          have := k H1 s1
          rw [e] at this
          exact this
        | true =>
          refine iteF ?_
          have ev := whole_all hs hA
          have lenN : (ds.map intOf).length ≤ 4000 := by rw [List.length_map]; exact hdl'
          -- known = set(order)
          refine ⟨_, rfl, o, js, rfl, .inl (Same.sq s1 hO), hj, fun q S n hq hS hn => ?_⟩
          have s2 : Same H (upd H1 q (.set S n)) := s1.trans (Same.new hq)
          refine ⟨_, rfl, a, rfl, ⟨_, Same.tq s2 hT⟩, fun D2 hD2 => ?_⟩
          refine lc_tup (K := K) (a := a) (xs := vs) (fun i H' => Same (upd H1 q (.set S n)) H' ∧ H' D2 = some (.lst (((ds.map intOf).take i).map fun z => V.bl (decide (z ∈ js))))) ⟨Same.new hD2, upd_same⟩ (fun i H' _ q => Same.tq (s2.trans q.1) hT) ?_ ?_
          · rintro i x H' hx ⟨s3, hL3⟩
            rw [ev, List.getElem?_map] at hx
            obtain ⟨z, hz2, rfl⟩ : ∃ z, (ds.map intOf)[i]? = some z ∧ x = V.int z := by
              cases hq2 : (ds.map intOf)[i]? with
              | none => rw [hq2] at hx; cases hx
              | some z => rw [hq2] at hx; exact ⟨z, rfl, (Option.some.inj hx).symm⟩
            refine ⟨rfl, ?_⟩
            refine ⟨_, rfl, _, rfl, z, q, S, n, rfl, rfl, s3 _ _ upd_same, ?_⟩
            refine ⟨_, hL3, ?_, ?_, ?_⟩
            · rw [List.length_map, List.length_take]
              exact Nat.lt_of_le_of_lt (by omega : _ ≤ 4000) (by decide)
            · intro b u hb
              rw [upd_ne (ne_of_none hb hD2)]
              exact s3 b u hb
            · rw [upd_same, take_snoc hz2, List.map_append]
              show some (HO.lst (_ ++ [V.bl (S z)])) = some (HO.lst (_ ++ [V.bl (decide (z ∈ js))]))
              rw [hS.1 z]
          · rintro H3 ⟨s3, hL3⟩
            have hv2 : vs.length = (ds.map intOf).length := by rw [List.length_map]; exact hl
            rw [hv2, List.take_length] at hL3
            have s4 : Same H H3 := s2.trans s3
            refine ⟨D2, (ds.map intOf).map fun z => decide (z ∈ js), rfl, SqL.of (by rw [List.map_map]; exact hL3), _, rfl, ?_⟩
            have eall2 : ((ds.map intOf).map fun z => decide (z ∈ js)).all id = (ds.map intOf).all fun z => decide (z ∈ js) := by rw [List.all_map]; rfl
            rw [eall2]
            have e0 : ds.isEmpty = false := by cases ds with | nil => exact absurd rfl h0 | cons _ _ => rfl
            have e : areIds js (.tuple ds) = ((ds.map intOf).all (fun z => decide (z ∈ js)) && decide (ds.map intOf).Nodup) := by
              show areIdsL js ds = _
              unfold areIdsL
              rw [hA, e0]
              simp
            cases hB : (ds.map intOf).all fun z => decide (z ∈ js) with
            | false =>
              refine iteF ?_
              have := k H3 s4
              rw [e, hB] at this
              exact this
            | true =>
              refine iteT ?_
              refine ⟨_, rfl, a, ds.map intOf, rfl, .inr (by rw [← ev]; exact Same.tq s4 hT), lenN, fun H5 s5 => ?_⟩
              have := k H5 (s4.trans s5)
              rw [e, hB] at this
              exact this
    | _ => exact iteT (k H (Same.refl H))
end
/-! ### moves, plainly -/
def idsOf : PyData → List Int
  | .tuple ds => ds.map intOf
  | _ => []
def isMove2 (js : List Int) (i b : PyData) : Bool := areIds js i && wholeD b && (decide (intOf b = 0) || (decide (intOf b ∈ js) && !decide (intOf b ∈ idsOf i)))
def isMove (js : List Int) : PyData → Bool
  | .tuple [i, b] => isMove2 js i b
  | _ => false
/-- the order behind a move -/
def doMove (js ks : List Int) (b : Int) : List Int :=
  ((js.filter fun k => decide (k ∉ ks)).take (if b = 0 then 0 else (js.filter fun k => decide (k ∉ ks)).idxOf b + 1)) ++ ks ++ ((js.filter fun k => decide (k ∉ ks)).drop (if b = 0 then 0 else (js.filter fun k => decide (k ∉ ks)).idxOf b + 1))
theorem cut_to (xs : List V) (k : Nat) : cutV xs none (some (k : Int)) = xs.take k := by
  unfold cutV
  rw [HT.sIx_none, HT.sIx_nat, List.drop_zero, Nat.sub_zero]
  rcases Nat.le_total k xs.length with h | h
  · rw [Nat.min_eq_left h]
  · rw [Nat.min_eq_right h, List.take_length, List.take_of_length_le h]
theorem cut_from (xs : List V) (k : Nat) : cutV xs (some (k : Int)) none = xs.drop k := by
  unfold cutV
  rw [HT.sIx_none, HT.sIx_nat]
  rcases Nat.le_total k xs.length with h | h
  · rw [Nat.min_eq_left h, ← List.length_drop, List.take_length]
  · rw [Nat.min_eq_right h, Nat.sub_self, List.take_zero, List.drop_of_length_le h]
theorem idx_at {js : List Int} {b : Int} (h : b ∈ js) : js[js.idxOf b]? = some b := by
  have := List.idxOf_lt_length_of_mem h
  rw [List.getElem?_eq_getElem this]
  exact congrArg some (List.getElem_idxOf this)
theorem idx_first {js : List Int} {b : Int} : ∀ {m : Nat} {z : Int}, m < js.idxOf b → js[m]? = some z → ¬ z = b := by
  induction js with
  | nil => intro m z h e; simp at e
  | cons a r ih =>
    intro m z h e
    by_cases hab : a = b
    · subst hab
      simp at h
    · have hb : (a == b) = false := by simpa using hab
      rw [List.idxOf_cons, hb, cond_false] at h
      cases m with
      | zero => simp at e; rw [← e]; exact hab
      | succ m => simp at e; exact ih (by omega) e
section
variable {P : Program} {w : World} {K : PySem.W.Frag} {mg : Str → Option Value} {base : Heap}
def spIsMove (K : PySem.W.Frag) : Sp := fun vs H Q _ => ∃ (o : Addr) (js : List Int) (v : V) (d : PyData), vs = [.ref o, v] ∧ SqL K H o (js.map V.int) ∧ js.length ≤ 4000 ∧ DV K H v d ∧ (∀ ds b, d = .tuple [.tuple ds, b] → ds.length ≤ 4000) ∧
  ∀ H', Same H H' → Q (.bl (isMove js d)) H'
theorem scIsMove : FnScope ["order", "value", "ids", "behind"] ["order", "value"] (defScope sIsMove) := ⟨rfl, rfl, rfl, by decide +kernel, rfl, by decide +kernel, by decide +kernel⟩
theorem ok_isMove {f fA fW fD : Addr} {fd fdA fdW fdD : FuncData} (F : Fun K "is_move" "is_move" sIsMove f fd) (T : TxtV mg) (FW : Fun K "is_whole" "is_whole" sWhole fW fdW) (bW : Binds K fdW ["value"] []) (mW : mg "is_whole" = some (.ref fW))
    (FD : Fun K "all_different" "all_different" sDiff fD fdD) (bD : Binds K fdD ["numbers"] []) (mD : mg "all_different" = some (.ref fD))
    (FA : Fun K "are_ids_of" "are_ids_of" sAreIds fA fdA) (bA : Binds K fdA ["order", "value"] []) (mA : mg "are_ids_of" = some (.ref fA)) : FnOk P w K mg base CX0 3 f fd ["order", "value"] (spIsMove K) := by
  have GW : FnOk P w K mg base CX0 1 fW fdW ["value"] (spWhole K) := ok_whole FW T
  have GA : FnOk P w K mg base CX0 2 fA fdA ["order", "value"] (spAreIds K) := ok_areIds FA T FW bW mW FD bD mD
  refine F.ok scIsMove (fun vs H Q E h => ?_) (fun cdv A outer s H vs Q E hr h => ?_)
  · obtain ⟨o, js, v, d, rfl, _⟩ := h
    rfl
  · obtain ⟨o, js, v, d, rfl, hO, hj, hd, hdl, k⟩ := h
    have hr1 : Room 1 _ := hr.mono (by decide)
    refine ⟨_, pss_cons (ps_if (PW.pt (pw_or (pt_not (pt_val (pe_callB call_isi (by rfl) T.isi (by decide +kernel) (pa_cons (pv 1) (pa_cons (pe_bltn (v := .ty "tuple") (by rfl) T.tuple boot_tuple rfl) pa_nil)))))
          (pw_or1 (pt_cmpR op_ne (pe_callB call_len_seq (by rfl) T.len PySem.boot_len (pa_cons (pv 1) pa_nil)) pe_int (nomark _))))) (pss_one (ps_ret pe_bl)) pss_nil)
      (pss_cons (ps_asg (pv 1) (pg_tup (by rfl) (pgs_cons (pg_name (i := 2) scIsMove.nd rfl (Or.inl rfl)) (pgs_cons (pg_name (i := 3) scIsMove.nd rfl (Or.inl rfl)) pgs_nil))))
      (pss_cons (ps_if (PW.pt (pw_or (pt_not (pt_val (pe_call GA hr rfl mA FA.kp bA .nil pass0 (pa_cons (pv 0) (pa_cons (pv 2) pa_nil))))) (pw_or1 (pt_not (pt_val (pe_call GW hr1 rfl mW FW.kp bW .nil pass0 (pa_cons (pv 3) pa_nil))))))) (pss_one (ps_ret pe_bl)) pss_nil)
      (pss_one (ps_ret (pe_or (pe_cmpR op_eq (pv 3) pe_int (nomark _)) (pe_one (pe_and (pe_cmpR op_in_seq (pv 3) (pv 0) (by rfl)) (pe_one (pe_cmpR op_notIn_seq (pv 3) (pv 2) (by rfl)))))))))), ?_⟩
    obtain ⟨nm, ty, k1, k2⟩ := hd.kit
    refine ⟨_, rfl, _, _, _, _, _, rfl, .ty _, ty, k1, _, rfl, ?_⟩
    have no : isMove js d = false → Q (.bl false) H := fun e => by
      have := k H (Same.refl H)
      rw [e] at this
      exact this
    cases hd with
    | tup hT hs =>
      rename_i a vs ds
      refine iteF ?_
      refine ⟨_, rfl, a, _, rfl, .inr hT, rfl, _, rfl, ?_⟩
      have hl := hs.length
      by_cases h2 : ds.length = 2
      · obtain ⟨di, db, rfl⟩ : ∃ di db, ds = [di, db] := match ds, h2 with | [x, y], _ => ⟨x, y, rfl⟩
        cases hs with
        | cons pi t =>
          cases t with
          | cons pb t2 =>
            cases t2
            rename_i vi vb
            have hz : (!decide (V.int (([vi, vb].length : Nat) : Int) = V.int 2)) = false := rfl
            rw [hz]
            refine iteF ?_
            refine ⟨_, rfl, a, _, rfl, hT, rfl, vi, [vb], rfl, vb, [], rfl, rfl, ?_⟩
            refine ⟨_, rfl, _, rfl, o, js, vi, di, rfl, hO, hj, pi, (fun ds e => hdl ds db (by rw [e])), fun H1 s1 => ⟨_, rfl, ?_⟩⟩
            have kk : ∀ H', Same H H' → Q (.bl (isMove2 js di db)) H' := k
            cases hA : areIds js di with
            | false =>
              have := kk H1 s1
              unfold isMove2 at this
              rw [hA] at this
              exact iteT this
            | true =>
              refine iteF ?_
              refine ⟨_, rfl, vb, rfl, (pb.same s1).ty, _, rfl, ?_⟩
              rw [pb.whole]
              cases hB : wholeD db with
              | false =>
                have := kk H1 s1
                unfold isMove2 at this
                rw [hA, hB] at this
                exact iteT this
              | true =>
                refine iteF ?_
                obtain ⟨b, rfl⟩ : ∃ b, db = .int b := by cases db <;> first | exact ⟨_, rfl⟩ | cases hB
                cases pb
                have fin := kk H1 s1
                have e2 : isMove2 js di (.int b) = (areIds js di && true && (decide (b = 0) || (decide (b ∈ js) && !decide (b ∈ idsOf di)))) := rfl
                rw [e2, hA, Bool.true_and, Bool.true_and] at fin
                refine ⟨_, rfl, rfl, _, rfl, ?_⟩
                rw [show decide (V.int b = V.int 0) = decide (b = 0) from by rw [dec_int]; rfl]
                cases h0 : decide (b = 0) with
                | true =>
                  rw [h0] at fin
                  exact iteT fin
                | false =>
                  rw [h0] at fin
                  refine iteF ?_
                  refine ⟨_, rfl, _, rfl, o, _, rfl, .inl (Same.sq s1 hO), rfl, all_flat js, _, rfl, ?_⟩
                  rw [inV_int]
                  show if decide (b ∈ js) = true then _ else _
                  cases h1 : decide (b ∈ js) with
                  | false =>
                    rw [h1] at fin
                    exact iteF fin
                  | true =>
                    rw [h1] at fin
                    refine iteT ?_
                    obtain ⟨es, rfl, hall⟩ : ∃ es, di = .tuple es ∧ es.all wholeD = true := by
                      cases di with
                      | tuple es =>
                        have hA' : areIdsL js es = true := hA
                        unfold areIdsL at hA'
                        simp only [Bool.and_eq_true] at hA'
                        exact ⟨es, rfl, hA'.1.1.2⟩
                      | _ => cases hA
                    cases pi with
                    | tup hTi hsi =>
                      have ev := whole_all hsi hall
                      subst ev
                      refine ⟨_, rfl, _, rfl, _, _, rfl, .inr (Same.tq s1 hTi), rfl, all_flat _, ?_⟩
                      rw [inV_int]
                      exact fin
      · have hz : (!decide (V.int ((vs.length : Nat) : Int) = V.int 2)) = true := by
          rw [dec_int]
          have : ¬ (((vs.length : Nat) : Int) = 2) := by omega
          simpa using this
        rw [hz]
        refine iteT (no ?_)
        match ds, h2 with
        | [], _ => rfl
        | [_], _ => rfl
        | [_, _], h2 => exact absurd rfl h2
        | _ :: _ :: _ :: _, _ => rfl
    | _ => exact iteT (no rfl)
end
/-- a move, plainly -/
def MoveOk (js ks : List Int) (b : Int) : Prop := ks ≠ [] ∧ (∀ k ∈ ks, k ∈ js) ∧ ks.Nodup ∧ (b = 0 ∨ (b ∈ js ∧ b ∉ ks))
theorem all_whole (ks : List Int) : (ks.map PyData.int).all wholeD = true := by
  induction ks with
  | nil => rfl
  | cons a r ih => exact ih
theorem ints_of_map (ks : List Int) : (ks.map PyData.int).map intOf = ks := by
  induction ks with
  | nil => rfl
  | cons a r ih => exact congrArg (a :: ·) ih
theorem MoveOk.isMove {js ks : List Int} {b : Int} (h : MoveOk js ks b) : isMove js (.tuple [.tuple (ks.map .int), .int b]) = true := by
  show isMove2 js (.tuple (ks.map .int)) (.int b) = true
  have e2 : isMove2 js (.tuple (ks.map .int)) (.int b) = (areIdsL js (ks.map .int) && true && (decide (b = 0) || (decide (b ∈ js) && !decide (b ∈ (ks.map PyData.int).map intOf)))) := rfl
  rw [e2]
  unfold areIdsL
  rw [all_whole, ints_of_map]
  obtain ⟨h1, h2, h3, h4⟩ := h
  have a1 : (ks.map PyData.int).isEmpty = false := by cases ks with | nil => exact absurd rfl h1 | cons _ _ => rfl
  have a2 : (ks.all fun k => decide (k ∈ js)) = true := List.all_eq_true.mpr fun k hk => decide_eq_true (h2 k hk)
  rw [a1, a2, decide_eq_true h3]
  rcases h4 with h4 | ⟨h4, h5⟩
  · rw [decide_eq_true h4]; rfl
  · rw [decide_eq_true h4, decide_eq_false h5]; simp
theorem DVs.ints {K : PySem.W.Frag} {H : Hp} : ∀ ks : List Int, DVs K H (ks.map V.int) (ks.map PyData.int)
  | [] => .nil
  | k :: r => .cons (.int k) (DVs.ints r)
theorem filter_int (js ks : List Int) (i : Nat) {z : Int} (h : js[i]? = some z) : (js.take (i + 1)).filter (fun k => decide (k ∉ ks)) = if z ∈ ks then (js.take i).filter (fun k => decide (k ∉ ks)) else (js.take i).filter (fun k => decide (k ∉ ks)) ++ [z] := by
  rw [take_snoc h, List.filter_append]
  by_cases hz : z ∈ ks
  · rw [if_pos hz]
    simp [hz]
  · rw [if_neg hz]
    simp [hz]
section
variable {P : Program} {w : World} {K : PySem.W.Frag} {mg : Str → Option Value} {base : Heap}
def spDo (K : PySem.W.Frag) : Sp := fun vs H Q _ => ∃ (o m i : Addr) (js ks : List Int) (b : Int), vs = [.ref o, .ref m] ∧ SqL K H o (js.map V.int) ∧ SqT K H m [.ref i, .int b] ∧ SqT K H i (ks.map V.int) ∧ js.length ≤ 4000 ∧ ks.length ≤ 4000 ∧ MoveOk js ks b ∧
  ∀ (p : Addr) (H' : Hp), H p = none → Same H H' → H' p = some (.lst ((doMove js ks b).map V.int)) → Q (.ref p) H'
theorem scDo : FnScope ["order", "move", "ids", "behind", "taken", "rest", "at", "row_id"] ["order", "move"] (defScope sDoMove) := ⟨rfl, rfl, rfl, by decide +kernel, rfl, by decide +kernel, by decide +kernel⟩
theorem ok_do {f fM fA fW fD : Addr} {fd fdM fdA fdW fdD : FuncData} (F : Fun K "do_move" "do_move" sDoMove f fd) (T : TxtV mg) (FW : Fun K "is_whole" "is_whole" sWhole fW fdW) (bW : Binds K fdW ["value"] []) (mW : mg "is_whole" = some (.ref fW))
    (FD : Fun K "all_different" "all_different" sDiff fD fdD) (bD : Binds K fdD ["numbers"] []) (mD : mg "all_different" = some (.ref fD))
    (FA : Fun K "are_ids_of" "are_ids_of" sAreIds fA fdA) (bA : Binds K fdA ["order", "value"] []) (mA : mg "are_ids_of" = some (.ref fA))
    (FM : Fun K "is_move" "is_move" sIsMove fM fdM) (bM : Binds K fdM ["order", "value"] []) (mM : mg "is_move" = some (.ref fM)) : FnOk P w K mg base CX0 4 f fd ["order", "move"] (spDo K) := by
  have GM : FnOk P w K mg base CX0 3 fM fdM ["order", "value"] (spIsMove K) := ok_isMove FM T FW bW mW FD bD mD FA bA mA
  refine F.ok scDo (fun vs H Q E h => ?_) (fun cdv A outer s H vs Q E hr h => ?_)
  · obtain ⟨o, m, i, js, ks, b, rfl, _⟩ := h
    rfl
  · obtain ⟨o, m, i, js, ks, b, rfl, hO, hM, hI, hj, hk, ok, k⟩ := h
    refine ⟨_, pss_cons (ps_if (pt_not (pt_val (pe_call GM hr rfl mM FM.kp bM .nil pass0 (pa_cons (pv 0) (pa_cons (pv 1) pa_nil))))) (pss_one ps_never) pss_nil)
      (pss_cons (ps_asg (pv 1) (pg_tup (by rfl) (pgs_cons (pg_name (i := 2) scDo.nd rfl (Or.inl rfl)) (pgs_cons (pg_name (i := 3) scDo.nd rfl (Or.inl rfl)) pgs_nil))))
      (pss_cons (ps_set (i := 4) scDo.nd rfl (Or.inr rfl) (pe_callTy (cr_setI rfl) (by rfl) T.set (by decide +kernel) (pa_cons (pv 2) pa_nil)))
      (pss_cons (ps_setLc (i := 5) (own := [("row_id", 7)]) (g := gName 7) rfl scDo.nd rfl rfl (sw_true rfl rfl rfl (by decide +kernel)) (pi_list (pv 0)) (blkOk_by (N := ["order", "move", "ids", "behind", "taken", "rest", "at", "row_id"]) (sc := defScope sDoMove) (by decide +kernel)) (fun _ _ _ _ _ => pg_name (i := 7) scDo.nd rfl (Or.inl rfl))
          (fun _ _ _ _ _ => pts_one (pt_cmpR op_notInSet (pv 7) (pv 4) (by rfl))) (fun _ _ _ _ _ => pv 7))
      (pss_cons (ps_set (i := 6) scDo.nd rfl (Or.inl rfl) (pe_ifExp (pt_cmpR op_eq (pv 3) pe_int (nomark _)) pe_int (pe_op op_add (pe_bm PySem.F.plainAttrs_list PySem.F.slot_list_index PySem.F.type_list_index mt_index (pv 5) (pa_cons (pv 3) pa_nil)) pe_int)))
      (pss_one (ps_ret (pe_op op_cat (pe_op op_cat (pe_slice sl_list (pv 5) po_none (po_some (pv 6))) (pe_callTy call_list_of (by rfl) T.list (by decide +kernel) (pa_cons (pv 2) pa_nil))) (pe_slice sl_list (pv 5) (po_some (pv 6)) po_none)))))))), ?_⟩
    refine ⟨_, rfl, _, rfl, o, js, .ref m, .tuple [.tuple (ks.map .int), .int b], rfl, hO, hj, .tup hM (.cons (.tup hI (DVs.ints ks)) (.cons (.int b) .nil)), ?_, fun H1 s1 => ⟨_, rfl, ?_⟩⟩
    · intro ds b' e
      injection e with e
      injection e with e1 _
      injection e1 with e1
      rw [← e1, List.length_map]
      exact hk
    rw [ok.isMove]
    refine iteF ?_
    refine ⟨_, rfl, m, _, rfl, Same.tq s1 hM, rfl, _, _, rfl, _, _, rfl, rfl, ?_⟩
    -- taken = set(ids)
    refine ⟨_, rfl, i, ks, rfl, .inr (Same.tq s1 hI), hk, fun q S n hq hS hn => ?_⟩
    have s2 : Same H (upd H1 q (.set S n)) := s1.trans (Same.new hq)
    refine ⟨_, rfl, o, rfl, ⟨_, Same.sq s2 hO⟩, fun D hD => ?_⟩
    refine lc_list (K := K) (a := o) (xs := js.map V.int) (fun i H' => Same (upd H1 q (.set S n)) H' ∧ H' D = some (.lst (((js.take i).filter fun k => decide (k ∉ ks)).map V.int))) ⟨Same.new hD, upd_same⟩ (fun i H' _ q => Same.sq (s2.trans q.1) hO) ?_ ?_
    · rintro i x H' hx ⟨s3, hL⟩
      rw [List.getElem?_map] at hx
      obtain ⟨z, hz2, rfl⟩ : ∃ z, js[i]? = some z ∧ x = V.int z := by
        cases hq2 : js[i]? with
        | none => rw [hq2] at hx; cases hx
        | some z => rw [hq2] at hx; exact ⟨z, rfl, (Option.some.inj hx).symm⟩
      refine ⟨rfl, ?_⟩
      refine ⟨_, rfl, _, rfl, z, q, S, n, rfl, rfl, s3 _ _ upd_same, _, rfl, ?_⟩
      show if (!S z) = true then _ else _
      rw [hS.1 z]
      have hf := filter_int js ks i hz2
      refine ite2 (fun c => ?_) (fun c => ?_)
      · have hz : z ∉ ks := by simpa using c
        rw [if_neg hz] at hf
        refine ⟨_, rfl, _, hL, ?_, ?_, ?_⟩
        · rw [List.length_map]
          have := List.length_filter_le (fun k => decide (k ∉ ks)) (js.take i)
          have : (js.take i).length ≤ js.length := by rw [List.length_take]; omega
          exact Nat.lt_of_le_of_lt (by omega : _ ≤ 4000) (by decide)
        · intro b u hb
          rw [upd_ne (ne_of_none hb hD)]
          exact s3 b u hb
        · rw [upd_same, hf, List.map_append]
          rfl
      · have hz : z ∈ ks := by simpa using c
        rw [if_pos hz] at hf
        exact ⟨s3, by rw [hf]; exact hL⟩
    · rintro H3 ⟨s3, hL⟩
      rw [List.length_map, List.take_length] at hL
      have s4 : Same H H3 := s2.trans s3
      have hlen : (js.filter fun k => decide (k ∉ ks)).length ≤ 4000 := Nat.le_trans (List.length_filter_le _ _) hj
      generalize hR : (js.filter fun k => decide (k ∉ ks)) = R at *
      have fin : ∀ (at' : Nat) (σ' : L2.St), at' = (if b = 0 then 0 else R.idxOf b + 1) → σ' = [some (.ref o), some (.ref m), some (.ref i), some (.int b), some (.ref q), some (.ref D), some (.int at'), none] →
          (tRet (tOp rCat (tOp rCat (tSl (rSlL K) (tVar 5) tNoPart (tPart (tVar 6))) (tCB (fun xs H Q => ∃ p ys, xs = [.ref p] ∧ (SqL K H p ys ∨ SqT K H p ys) ∧ ∀ l, H l = none → Q (.ref l) (upd H l (.lst ys))) (tCons (tVar 2) tNil))) (tSl (rSlL K) (tVar 5) (tPart (tVar 6)) tNoPart))) { nx := fun _ H' => Q .non H', rt := Q } σ' H3 := by
        rintro at' σ' hat rfl
        have l1 := cutV_length (R.map V.int) none (some (at' : Int))
        have l2 := cutV_length (R.map V.int) (some (at' : Int)) none
        rw [List.length_map] at l1 l2
        have e16 : sizeLine = 16777216 := sizeLine_eq
        refine ⟨_, rfl, _, rfl, _, rfl, D, _, rfl, SqL.of hL, fun p1 hp1 => ?_⟩
        have t1 := Same.new (o := .lst (cutV (R.map V.int) none (some (at' : Int)))) hp1
        refine ⟨_, rfl, i, _, rfl, .inr (Same.tq (s4.trans t1) hI), fun l hl => ?_⟩
        have t2 := Same.new (o := .lst (ks.map V.int)) hl
        refine ⟨p1, l, _, _, rfl, rfl, t2 _ _ upd_same, upd_same, (by rw [List.length_map, e16]; omega), fun p2 hp2 => ?_⟩
        have t3 := Same.new (o := .lst (cutV (R.map V.int) none (some (at' : Int)) ++ ks.map V.int)) hp2
        refine ⟨_, rfl, _, rfl, _, rfl, D, _, rfl, SqL.of (t3 _ _ (t2 _ _ (t1 _ _ hL))), fun p3 hp3 => ?_⟩
        have t4 := Same.new (o := .lst (cutV (R.map V.int) (some (at' : Int)) none)) hp3
        refine ⟨p2, p3, _, _, rfl, rfl, t4 _ _ upd_same, upd_same, (by rw [List.length_append, List.length_map, e16]; omega), fun p4 hp4 => ?_⟩
        have t5 := Same.new (o := .lst ((cutV (R.map V.int) none (some (at' : Int)) ++ ks.map V.int) ++ cutV (R.map V.int) (some (at' : Int)) none)) hp4
        have sAll : Same H _ := s4.trans (t1.trans (t2.trans (t3.trans (t4.trans t5))))
        have sB : Same H _ := s4.trans (t1.trans (t2.trans (t3.trans t4)))
        refine k p4 _ (sB.free hp4) sAll ?_
        rw [upd_same, cut_to, cut_from]
        unfold doMove
        rw [hR, ← hat, List.map_append, List.map_append, List.map_take, List.map_drop]
      refine ⟨_, rfl, rfl, _, rfl, ?_⟩
      rw [show decide (V.int b = V.int 0) = decide (b = 0) from by rw [dec_int]; rfl]
      refine ite2 (fun c => ?_) (fun c => ?_)
      · have hb : b = 0 := of_decide_eq_true c
        exact fin 0 _ (by rw [if_pos hb]) rfl
      · have hb : ¬ b = 0 := fun e => c (decide_eq_true e)
        have hmem : b ∈ R := by
          rcases ok.2.2.2 with h | ⟨h1, h2⟩
          · exact absurd h hb
          · rw [← hR]
            exact List.mem_filter.mpr ⟨h1, decide_eq_true h2⟩
        refine ⟨_, rfl, .inl ⟨rfl, _, SqL.of hL⟩, _, rfl, D, _, .int b, R.idxOf b, .int b, rfl, rfl, SqL.of hL, rfl, all_flat R, ?_, ?_, ?_, ?_⟩
        · rw [List.getElem?_map, idx_at hmem]; rfl
        · rw [eqV_int]; exact decide_eq_true rfl
        · intro m' z' hm hz
          rw [List.getElem?_map] at hz
          cases hq2 : R[m']? with
          | none => rw [hq2] at hz; cases hz
          | some z =>
            rw [hq2] at hz
            have : z' = V.int z := (Option.some.inj hz).symm
            rw [this, eqV_int]
            exact decide_eq_false (idx_first hm hq2)
        · refine ⟨_, _, rfl, rfl, ?_⟩
          exact fin (R.idxOf b + 1) _ (by rw [if_neg hb]) rfl
end
/-! ### moves: the mathematics -/
/-- S falls apart behind a (at the top, if a is 0) -/
def Cut (S : List Int) (a : Int) (S1 S2 : List Int) : Prop := S = S1 ++ S2 ∧ ((a = 0 ∧ S1 = []) ∨ (a ≠ 0 ∧ ∃ S0, S1 = S0 ++ [a] ∧ a ∉ S0))
theorem mem_of_filter {p : Int → Bool} {l : List Int} {a : Int} (h : a ∈ l.filter p) : a ∈ l := (List.mem_filter.mp h).1
theorem Cut.at {S S1 S2 : List Int} {a : Int} (h : Cut S a S1 S2) : (if a = 0 then 0 else S.idxOf a + 1) = S1.length := by
  obtain ⟨rfl, ⟨h0, rfl⟩ | ⟨h0, S0, rfl, hn⟩⟩ := h
  · rw [if_pos h0]; rfl
  · rw [if_neg h0, List.append_assoc, List.idxOf_append, if_neg hn]
    simp
theorem Cut.take {S S1 S2 : List Int} {a : Int} (h : Cut S a S1 S2) : S.take (if a = 0 then 0 else S.idxOf a + 1) = S1 := by
  rw [h.at, h.1]
  simp
theorem Cut.drop {S S1 S2 : List Int} {a : Int} (h : Cut S a S1 S2) : S.drop (if a = 0 then 0 else S.idxOf a + 1) = S2 := by
  rw [h.at, h.1]
  simp
theorem Cut.ex {S : List Int} {a : Int} (h : a = 0 ∨ a ∈ S) (h0 : ∀ z ∈ S, z ≠ 0) : ∃ S1 S2, Cut S a S1 S2 := by
  by_cases ha : a = 0
  · exact ⟨[], S, rfl, .inl ⟨ha, rfl⟩⟩
  · have hm : a ∈ S := h.resolve_left ha
    refine ⟨S.take (S.idxOf a) ++ [a], S.drop (S.idxOf a + 1), ?_, .inr ⟨ha, _, rfl, ?_⟩⟩
    · have hl := List.idxOf_lt_length_of_mem hm
      have e := List.getElem_idxOf hl
      have := List.take_append_drop (S.idxOf a) S
      rw [List.append_assoc]
      conv => lhs; rw [← this]
      congr 1
      rw [List.drop_eq_getElem_cons hl, e]
      rfl
    · intro hmem
      obtain ⟨i, hi, e⟩ := List.getElem_of_mem hmem
      have hi2 : i < S.idxOf a := by
        rw [List.length_take] at hi
        omega
      rw [List.getElem_take] at e
      exact idx_first hi2 (List.getElem?_eq_getElem (by have := List.idxOf_lt_length_of_mem hm; omega)) e
theorem Cut.filter {S S1 S2 : List Int} {a : Int} (h : Cut S a S1 S2) {p : Int → Bool} (hp : a ≠ 0 → p a = true) : Cut (S.filter p) a (S1.filter p) (S2.filter p) := by
  obtain ⟨rfl, ⟨h0, rfl⟩ | ⟨h0, S0, rfl, hn⟩⟩ := h
  · exact ⟨by rw [List.filter_append], .inl ⟨h0, rfl⟩⟩
  · refine ⟨by rw [List.filter_append], .inr ⟨h0, S0.filter p, ?_, fun q => hn (mem_of_filter q)⟩⟩
    rw [List.filter_append]
    simp [hp h0]
abbrev without (js ks : List Int) : List Int := js.filter fun k => decide (k ∉ ks)
theorem doMove_cut {js ks S1 S2 : List Int} {a : Int} (h : Cut (without js ks) a S1 S2) : doMove js ks a = S1 ++ ks ++ S2 := by
  unfold doMove
  rw [h.take, h.drop]
theorem without_nil (js : List Int) : without js [] = js := by
  unfold without
  rw [List.filter_eq_self]
  intro k _
  simp
theorem doMove_nil (js : List Int) (a : Int) : doMove js [] a = js := by
  unfold doMove
  rw [show (js.filter fun k => decide (k ∉ ([] : List Int))) = js from without_nil js, List.append_nil, List.take_append_drop]
theorem mem_doMove {js ks : List Int} {a k : Int} (hs : ∀ z ∈ ks, z ∈ js) : k ∈ doMove js ks a ↔ k ∈ js := by
  have e : k ∈ doMove js ks a ↔ k ∈ without js ks ∨ k ∈ ks := by
    unfold doMove
    rw [List.mem_append, List.mem_append]
    constructor
    · rintro ((h | h) | h)
      · exact .inl (List.mem_of_mem_take h)
      · exact .inr h
      · exact .inl (List.mem_of_mem_drop h)
    · rintro (h | h)
      · rw [← List.take_append_drop (if a = 0 then 0 else (without js ks).idxOf a + 1) (without js ks)] at h
        rcases List.mem_append.mp h with h | h
        · exact .inl (.inl h)
        · exact .inr h
      · exact .inl (.inr h)
  rw [e]
  constructor
  · rintro (h | h)
    · exact mem_of_filter h
    · exact hs k h
  · intro h
    by_cases hk : k ∈ ks
    · exact .inr hk
    · exact .inl (List.mem_filter.mpr ⟨h, decide_eq_true hk⟩)
theorem nodup_doMove {js ks : List Int} {a : Int} (hj : js.Nodup) (hk : ks.Nodup) : (doMove js ks a).Nodup := by
  have hw : (without js ks).Nodup := List.Nodup.sublist List.filter_sublist hj
  rw [← List.take_append_drop (if a = 0 then 0 else (without js ks).idxOf a + 1) (without js ks)] at hw
  obtain ⟨h1, h2, h3⟩ := List.nodup_append.mp hw
  have dis : ∀ z ∈ without js ks, z ∉ ks := fun z hz => of_decide_eq_true (List.mem_filter.mp hz).2
  unfold doMove
  refine List.nodup_append.mpr ⟨List.nodup_append.mpr ⟨h1, hk, fun x hx y hy e => ?_⟩, h2, fun x hx y hy e => ?_⟩
  · exact dis x (List.mem_of_mem_take hx) (by rw [e]; exact hy)
  · rcases List.mem_append.mp hx with hx | hx
    · exact h3 x hx y hy e
    · exact dis y (List.mem_of_mem_drop hy) (by rw [← e]; exact hx)
theorem without_doMove {js ks : List Int} {a : Int} : without (doMove js ks a) ks = without js ks := by
  have idem : ∀ l : List Int, (∀ z ∈ l, z ∉ ks) → without l ks = l := fun l h => by
    unfold without
    rw [List.filter_eq_self]
    intro k hk
    exact decide_eq_true (h k hk)
  have dis : ∀ z ∈ without js ks, z ∉ ks := fun z hz => of_decide_eq_true (List.mem_filter.mp hz).2
  have none : without ks ks = [] := by
    unfold without
    rw [List.filter_eq_nil_iff]
    intro k hk
    simp [hk]
  unfold doMove
  show without _ ks = _
  unfold without at none idem ⊢
  rw [List.filter_append, List.filter_append, none, List.append_nil, idem _ fun z hz => dis z (List.mem_of_mem_take hz), idem _ fun z hz => dis z (List.mem_of_mem_drop hz), List.take_append_drop]
/-- ids moved one by one -/
theorem doMove_one {js U : List Int} {x a l : Int} (hj : ∀ z ∈ js, z ≠ 0) (hU : (U ++ [x]).Nodup) (hx : x ∈ js) (ha : a = 0 ∨ (a ∈ js ∧ a ∉ U ++ [x])) (hl : (U = [] ∧ l = a) ∨ ∃ U0, U = U0 ++ [l]) (hs : ∀ z ∈ U, z ∈ js) :
    doMove (doMove js U a) [x] l = doMove js (U ++ [x]) a := by
  rcases hl with ⟨rfl, rfl⟩ | ⟨U0, rfl⟩
  · rw [doMove_nil, List.nil_append]
  · have hUn := List.nodup_append.mp hU
    have xU : x ∉ U0 ++ [l] := fun h => hUn.2.2 x h x (by simp) rfl
    have haS : a = 0 ∨ a ∈ without js (U0 ++ [l]) := ha.imp id fun h => List.mem_filter.mpr ⟨h.1, decide_eq_true fun q => h.2 (List.mem_append_left _ q)⟩
    obtain ⟨S1, S2, hc⟩ := Cut.ex haS fun z hz => hj z (mem_of_filter hz)
    rw [doMove_cut hc]
    have ax : a ≠ 0 → decide (a ∉ [x]) = true := fun h => by
      have := (ha.resolve_left h).2
      refine decide_eq_true fun q => this (List.mem_append_right _ q)
    have hc2 := hc.filter (p := fun k => decide (k ∉ [x])) ax
    have e2 : (without js (U0 ++ [l])).filter (fun k => decide (k ∉ [x])) = without js ((U0 ++ [l]) ++ [x]) := by
      unfold without
      rw [List.filter_filter]
      congr 1
      funext k
      by_cases h1 : k ∈ U0 ++ [l] <;> by_cases h2 : k ∈ [x] <;> simp_all
    rw [e2] at hc2
    rw [doMove_cut hc2]
    have eU : (U0 ++ [l]).filter (fun k => decide (k ∉ [x])) = U0 ++ [l] := by
      rw [List.filter_eq_self]
      intro k hk
      refine decide_eq_true fun q => xU ?_
      have : k = x := by simpa using q
      rw [← this]; exact hk
    have dis : ∀ z ∈ S1, z ∉ U0 ++ [l] := fun z hz => by
      have : z ∈ without js (U0 ++ [l]) := by rw [hc.1]; exact List.mem_append_left _ hz
      exact of_decide_eq_true (List.mem_filter.mp this).2
    have hl0 : l ≠ 0 := hj l (hs l (by simp))
    have hc3 : Cut (without (S1 ++ (U0 ++ [l]) ++ S2) [x]) l (S1.filter (fun k => decide (k ∉ [x])) ++ (U0 ++ [l])) (S2.filter fun k => decide (k ∉ [x])) := by
      refine ⟨?_, .inr ⟨hl0, S1.filter (fun k => decide (k ∉ [x])) ++ U0, by rw [List.append_assoc], fun q => ?_⟩⟩
      · show ((S1 ++ (U0 ++ [l])) ++ S2).filter (fun k => decide (k ∉ [x])) = _
        rw [List.filter_append, List.filter_append (l₁ := S1), eU]
      · rcases List.mem_append.mp q with q | q
        · exact dis l (mem_of_filter q) (by simp)
        · exact (List.nodup_append.mp hUn.1).2.2 l q l (by simp) rfl
    rw [doMove_cut hc3]
    simp only [List.append_assoc]
/-! ### ids that stand directly behind each other -/
theorem without_mid {A T B : List Int} (h : (A ++ T ++ B).Nodup) : without (A ++ T ++ B) T = A ++ B := by
  obtain ⟨h1, h2, h3⟩ := List.nodup_append.mp h
  obtain ⟨h4, h5, h6⟩ := List.nodup_append.mp h1
  have a1 : A.filter (fun k => decide (k ∉ T)) = A := by
    rw [List.filter_eq_self]
    intro k hk
    exact decide_eq_true fun q => h6 k hk k q rfl
  have a2 : B.filter (fun k => decide (k ∉ T)) = B := by
    rw [List.filter_eq_self]
    intro k hk
    exact decide_eq_true fun q => h3 k (List.mem_append_right _ q) k hk rfl
  have a3 : T.filter (fun k => decide (k ∉ T)) = [] := by
    rw [List.filter_eq_nil_iff]
    intro k hk
    simp [hk]
  show (A ++ T ++ B).filter (fun k => decide (k ∉ T)) = A ++ B
  rw [List.filter_append, List.filter_append, a1, a2, a3, List.append_nil]
/-- back to where they stood -/
theorem back {A T B xs : List Int} {b : Int} (h : (A ++ T ++ B).Nodup) (hb : (b = 0 ∧ A = []) ∨ (b ≠ 0 ∧ ∃ A0, A = A0 ++ [b])) (hx : without xs T = A ++ B) : doMove xs T b = A ++ T ++ B := by
  refine doMove_cut (S1 := A) (S2 := B) ⟨hx, hb.imp id fun ⟨h0, A0, e⟩ => ⟨h0, A0, e, fun q => ?_⟩⟩
  subst e
  have hA := (List.nodup_append.mp (List.nodup_append.mp h).1).1
  exact (List.nodup_append.mp hA).2.2 b q b (by simp) rfl
theorem perm_mid {A T B R1 R2 : List Int} (e : A ++ B = R1 ++ R2) : (R1 ++ T ++ R2).Perm (A ++ T ++ B) := by
  have p : ∀ X Y : List Int, (X ++ T ++ Y).Perm (T ++ (X ++ Y)) := fun X Y => by
    rw [← List.append_assoc]
    exact List.Perm.append_right Y List.perm_append_comm
  refine (p R1 R2).trans ?_
  rw [← e]
  exact (p A B).symm
theorem eqvAll_ints : ∀ xs ys : List Int, PyData.eqvAll (xs.map .int) (ys.map .int) = decide (xs = ys)
  | [], [] => by simp [PyData.eqvAll]
  | [], _ :: _ => by simp [PyData.eqvAll]
  | _ :: _, [] => by simp [PyData.eqvAll]
  | x :: xs, y :: ys => by
    rw [List.map_cons, List.map_cons, PyData.eqvAll, eqvAll_ints xs ys, PyData.eqv]
    by_cases h : x = y
    · subst h
      simp
    · simp [h]
theorem canLay_ints : ∀ xs : List Int, PyData.canLayAll0 (xs.map .int) = true
  | [] => by rw [List.map_nil, PyData.canLayAll0]
  | x :: xs => by rw [List.map_cons, PyData.canLayAll0, canLay_ints xs, PyData.canLay0]; rfl
theorem depthAll_ints : ∀ xs : List Int, PyData.depthAll (xs.map .int) ≤ 1
  | [] => by rw [List.map_nil, PyData.depthAll]; omega
  | x :: xs => by
    have := depthAll_ints xs
    rw [List.map_cons, PyData.depthAll, PyData.depth]
    omega
theorem shaped_ints (xs : List Int) : SeqAt.shaped (.list (xs.map .int)) = true := by
  unfold SeqAt.shaped
  rw [Bool.and_eq_true]
  refine ⟨?_, decide_eq_true ?_⟩
  · rw [PyData.canLay0]; exact canLay_ints xs
  · have := depthAll_ints xs
    rw [PyData.depth]
    omega
theorem DpAll.ints {K : PySem.W.Frag} {H : Hp} : ∀ xs : List Int, DpAll K H (xs.map V.int) (xs.map .int)
  | [] => .nil
  | x :: xs => .cons (.int x) (DpAll.ints xs)
def rEqL (K : PySem.W.Frag) : R2 := fun x y H Q => ∃ (p q : Addr) (xs ys : List Int), x = .ref p ∧ y = .ref q ∧ SqL K H p (xs.map V.int) ∧ SqL K H q (ys.map V.int) ∧ Q (.bl (decide (xs = ys))) H
def rNeL (K : PySem.W.Frag) : R2 := fun x y H Q => ∃ (p q : Addr) (xs ys : List Int), x = .ref p ∧ y = .ref q ∧ SqL K H p (xs.map V.int) ∧ SqL K H q (ys.map V.int) ∧ Q (.bl (!decide (xs = ys))) H
section
variable {X : Cx}
theorem op_eqL (hu : X.A.units + 64 < cLine) : OpR X (compareOp .Eq) (rEqL X.K) := by
  intro pins s σ H x y v u Q I rx ry h
  obtain ⟨p, q, xs, ys, rfl, rfl, h1, h2, k⟩ := h
  refine op_eqD hu pins s σ H _ _ v u Q I rx ry ⟨_, _, .lst h1 (DpAll.ints xs), .lst h2 (DpAll.ints ys), shaped_ints xs, shaped_ints ys, ?_⟩
  rw [PyData.eqv, eqvAll_ints]
  exact k
theorem op_neL (hu : X.A.units + 64 < cLine) : OpR X (compareOp .NotEq) (rNeL X.K) := by
  intro pins s σ H x y v u Q I rx ry h
  obtain ⟨p, q, xs, ys, rfl, rfl, h1, h2, k⟩ := h
  refine op_neD hu pins s σ H _ _ v u Q I rx ry ⟨_, _, .lst h1 (DpAll.ints xs), .lst h2 (DpAll.ints ys), shaped_ints xs, shaped_ints ys, ?_⟩
  rw [PyData.eqv, eqvAll_ints]
  exact k
end
theorem hu64 {A : Around} {k : Nat} (hr : Room k A) : A.units + 64 < cLine := by have := hr.un; omega
/-- behind Hd: all as it was but the deck at d, and these objects stand -/
def Fs (d : Addr) (Hd : Hp) (fs : List (Addr × HO)) (H' : Hp) : Prop := But d Hd H' ∧ DeckAt H' d ∧ ∀ p ∈ fs, p.1 ≠ d ∧ H' p.1 = some p.2
section
variable {d p p0 p1 p2 p3 p4 p5 : Addr} {Hd H1 H2 : Hp} {fs : List (Addr × HO)} {o o0 o1 o2 o3 o4 o5 : HO}
theorem Fs.start (D : DeckAt Hd d) : Fs d Hd [] Hd := ⟨But.refl _ _, D, fun _ h => by cases h⟩
theorem Fs.step (F : Fs d Hd fs H1) (D : DeckAt H2 d) (B : But d H1 H2) : Fs d Hd fs H2 := ⟨F.1.trans B, D, fun q hq => ⟨(F.2.2 q hq).1, B _ _ (F.2.2 q hq).1 (F.2.2 q hq).2⟩⟩
theorem Fs.same (F : Fs d Hd fs H1) (s : Same H1 H2) : Fs d Hd fs H2 := F.step (F.2.1.same s) (But.of s)
theorem Fs.add (F : Fs d Hd fs H1) (h : H1 p = some o) (n : ∀ x y, o ≠ .dK (dk x y)) : Fs d Hd ((p, o) :: fs) H1 := ⟨F.1, F.2.1, fun q hq => by
  rcases List.mem_cons.mp hq with e | e
  · subst e
    obtain ⟨x, y, hd, _⟩ := F.2.1
    exact ⟨ne_of h hd (n x y), h⟩
  · exact F.2.2 q e⟩
theorem Fs.new (F : Fs d Hd fs H1) (h : H1 p = none) (n : ∀ x y, o ≠ .dK (dk x y)) : Fs d Hd ((p, o) :: fs) (upd H1 p o) := (F.same (Same.new h)).add upd_same n
theorem Fs.skip (F : Fs d Hd fs H1) (h : H1 p = none) : Fs d Hd fs (upd H1 p o) := F.same (Same.new h)
theorem Fs.tail (F : Fs d Hd ((p, o) :: fs) H1) : Fs d Hd fs H1 := ⟨F.1, F.2.1, fun q hq => F.2.2 q (List.mem_cons_of_mem _ hq)⟩
theorem Fs.deck (F : Fs d Hd fs H1) : DeckAt H1 d := F.2.1
theorem Fs.g0 (F : Fs d Hd ((p0, o0) :: fs) H1) : H1 p0 = some o0 := (F.2.2 _ List.mem_cons_self).2
theorem Fs.g1 (F : Fs d Hd ((p0, o0) :: (p1, o1) :: fs) H1) : H1 p1 = some o1 := F.tail.g0
theorem Fs.g2 (F : Fs d Hd ((p0, o0) :: (p1, o1) :: (p2, o2) :: fs) H1) : H1 p2 = some o2 := F.tail.g1
theorem Fs.g3 (F : Fs d Hd ((p0, o0) :: (p1, o1) :: (p2, o2) :: (p3, o3) :: fs) H1) : H1 p3 = some o3 := F.tail.g2
theorem Fs.g4 (F : Fs d Hd ((p0, o0) :: (p1, o1) :: (p2, o2) :: (p3, o3) :: (p4, o4) :: fs) H1) : H1 p4 = some o4 := F.tail.g3
/-- what stood ahead of the deck stands -/
theorem Fs.old {H : Hp} (F : Fs d Hd fs H1) (hd : H d = none) (s : Same H Hd) : Same H H1 := fun b u h => F.1 b u (ne_of_none h hd) (s b u h)
end
theorem nl {xs : List V} : ∀ x y, HO.lst xs ≠ .dK (dk x y) := fun _ _ h => by cases h
theorem nt {xs : List V} : ∀ x y, HO.tup xs ≠ .dK (dk x y) := fun _ _ h => by cases h
theorem cut_mid (js : List Int) {f t : Nat} (h : f < js.length) : cutV (js.map V.int) (some (f : Int)) (some ((f : Int) + 1 + (t : Int))) = ((js.drop f).take (t + 1)).map V.int := by
  unfold cutV
  have e : (f : Int) + 1 + (t : Int) = ((f + 1 + t : Nat) : Int) := by omega
  rw [e, HT.sIx_nat, HT.sIx_nat, List.length_map, Nat.min_eq_left (by omega : f ≤ js.length), List.map_take, List.map_drop]
  rcases Nat.le_total (f + 1 + t) js.length with q | q
  · rw [Nat.min_eq_left q]
    congr 1
    omega
  · rw [Nat.min_eq_right q, List.take_of_length_le, List.take_of_length_le]
    · rw [List.length_drop, List.length_map]; omega
    · rw [List.length_drop, List.length_map]; omega
structure Turn9 (js T : List Int) (an bf : Int) : Prop where
  ok : MoveOk js T an
  ok1 : MoveOk (doMove js T an) T bf
  ok2 : MoveOk js T bf
  eq1 : doMove (doMove js T an) T bf = js
  eq2 : doMove js T bf = js
  perm : (doMove js T an).Perm js
theorem turn9 {js T : List Int} {f t : Nat} {an bf : Int} (hI : IdsL js) (hT : T = (js.drop f).take (t + 1)) (hf : f < js.length) (hb : (0 :: js)[f]? = some bf) (han : an = 0 ∨ an ∈ without js T) : Turn9 js T an bf := by
  have e : js = js.take f ++ T ++ (js.drop f).drop (t + 1) := by rw [hT, List.append_assoc, List.take_append_drop, List.take_append_drop]
  generalize hA : js.take f = A at e
  generalize (js.drop f).drop (t + 1) = B at e
  have nz : ∀ z ∈ js, z ≠ 0 := fun z hz => by have := (hI.2 z hz).1; omega
  have hn : (A ++ T ++ B).Nodup := by rw [← e]; exact hI.1
  have hb2 : (bf = 0 ∧ A = []) ∨ (bf ≠ 0 ∧ ∃ A0, A = A0 ++ [bf]) := by
    cases f with
    | zero =>
      simp at hb
      exact .inl ⟨hb.symm, by rw [← hA]; rfl⟩
    | succ g =>
      have hb' : js[g]? = some bf := by simpa using hb
      refine .inr ⟨nz bf (List.mem_of_getElem? hb'), js.take g, ?_⟩
      rw [← hA, take_snoc hb']
  have hw : without js T = A ++ B := by
    have := without_mid hn
    rw [← e] at this
    exact this
  have Tne : T ≠ [] := by
    rw [hT]
    intro q
    have := congrArg List.length q
    rw [List.length_take, List.length_drop] at this
    simp at this
    omega
  have Tsub : ∀ k ∈ T, k ∈ js := fun k hk => by rw [e]; exact List.mem_append_left _ (List.mem_append_right _ hk)
  have Tn : T.Nodup := (List.nodup_append.mp (List.nodup_append.mp hn).1).2.1
  have ok : MoveOk js T an := ⟨Tne, Tsub, Tn, han.imp id fun h => ⟨mem_of_filter h, of_decide_eq_true (List.mem_filter.mp h).2⟩⟩
  have bfT : bf = 0 ∨ (bf ∈ js ∧ bf ∉ T) := by
    rcases hb2 with ⟨h, _⟩ | ⟨h, A0, hA0⟩
    · exact .inl h
    · have hbA : bf ∈ A := by rw [hA0]; simp
      refine .inr ⟨by rw [e]; exact List.mem_append_left _ (List.mem_append_left _ hbA), fun q => (List.nodup_append.mp (List.nodup_append.mp hn).1).2.2 bf hbA bf q rfl⟩
  refine ⟨ok, ⟨Tne, fun k hk => (mem_doMove Tsub).mpr (Tsub k hk), Tn, bfT.imp id fun h => ⟨(mem_doMove Tsub).mpr h.1, h.2⟩⟩, ⟨Tne, Tsub, Tn, bfT⟩, ?_, ?_, ?_⟩
  · have := back hn hb2 (xs := doMove js T an) (by rw [without_doMove, hw])
    rw [← e] at this
    exact this
  · have := back hn hb2 (xs := js) hw
    rw [← e] at this
    exact this
  · obtain ⟨S1, S2, hc⟩ := Cut.ex (S := without js T) han fun z hz => nz z (mem_of_filter hz)
    rw [doMove_cut hc]
    have := perm_mid (T := T) (hw.symm.trans hc.1)
    rw [← e] at this
    exact this
/-- one by one -/
theorem one9 {js T : List Int} {an z la : Int} {i : Nat} (hI : IdsL js) (ok : MoveOk js T an) (hz : T[i]? = some z) (hla : (i = 0 ∧ la = an) ∨ ∃ j, i = j + 1 ∧ T[j]? = some la) :
    MoveOk (doMove js (T.take i) an) [z] la ∧ doMove (doMove js (T.take i) an) [z] la = doMove js (T.take (i + 1)) an := by
  obtain ⟨Tne, Tsub, Tn, ha⟩ := ok
  have nz : ∀ z ∈ js, z ≠ 0 := fun z hz => by have := (hI.2 z hz).1; omega
  have e := take_snoc hz
  have hUn : (T.take i ++ [z]).Nodup := by rw [← e]; exact List.Nodup.sublist (List.take_sublist _ _) Tn
  have hUs : ∀ k ∈ T.take i, k ∈ js := fun k hk => Tsub k (List.mem_of_mem_take hk)
  have hzT : z ∈ T := List.mem_of_getElem? hz
  have hl2 : (T.take i = [] ∧ la = an) ∨ ∃ U0, T.take i = U0 ++ [la] := by
    rcases hla with ⟨rfl, h⟩ | ⟨j, rfl, h⟩
    · exact .inl ⟨by simp, h⟩
    · exact .inr ⟨T.take j, take_snoc h⟩
  refine ⟨⟨by simp, fun k hk => ?_, by simp, ?_⟩, ?_⟩
  · have : k = z := by simpa using hk
    rw [this]
    exact (mem_doMove hUs).mpr (Tsub z hzT)
  · rcases hla with ⟨rfl, rfl⟩ | ⟨j, rfl, h⟩
    · refine ha.imp id fun h => ⟨(mem_doMove hUs).mpr h.1, fun q => h.2 ?_⟩
      have : la = z := by simpa using q
      rw [this]; exact hzT
    · refine .inr ⟨(mem_doMove hUs).mpr (Tsub la (List.mem_of_getElem? h)), fun q => ?_⟩
      have e2 : la = z := by simpa using q
      subst e2
      have := L2.nd_ix Tn h hz
      omega
  · rw [e]
    refine doMove_one nz hUn (Tsub z hzT) (ha.imp id fun h => ⟨h.1, fun q => h.2 ?_⟩) hl2 hUs
    rcases List.mem_append.mp q with q | q
    · exact List.mem_of_mem_take q
    · have : an = z := by simpa using q
      rw [this]; exact hzT
structure TxtL (mg : Str → Option Value) : Prop where
  range : mg "range" = none
  max : mg "max" = none
  min : mg "min" = none
  sorted : mg "sorted" = none
theorem op_notIn_K {X : Cx} {K : PySem.W.Frag} (h : X.K = K) : OpR X (compareOp .NotIn) (rIn K true) := by
  subst h
  exact op_notIn_seq
structure Fn (K : PySem.W.Frag) (mg : Str → Option Value) (x : Str) (st : Stmt) (ps : List Str) (f : Addr) (fd : FuncData) : Prop where
  F : Fun K x x st f fd
  b : Binds K fd ps []
  m : mg x = some (.ref f)
section
variable {P : Program} {w : World} {K : PySem.W.Frag} {mg : Str → Option Value} {base : Heap}
def spLaw (K : PySem.W.Frag) : Sp := fun vs H Q _ => ∃ (a : Addr) (ns : List Int), vs = [.ref a] ∧ SqL K H a (ns.map V.int) ∧ ns.length ≤ 63 ∧ (∀ z ∈ ns, Builtin.Int.intBits z ≤ 1048576) ∧ ∀ H', Q (.bl true) H'
theorem scLaw : FnScope ["script", "start", "deck", "line", "turn", "first", "taken", "before", "number", "left", "anchor", "moved", "single", "last"] ["script"] (defScope sLaw) := ⟨rfl, rfl, rfl, by decide +kernel, rfl, by decide +kernel, by decide +kernel⟩
theorem ok_law {f fDe fDr fC fI fDo : Addr} {fd fdDe fdDr fdC fdI fdDo : FuncData} (F : Fun K "law" "law" sLaw f fd) (TV : TxtV mg) (TD : TxtD mg) (TL : TxtL mg)
    (De : Fn K mg "_law_deck" sDeck ["script", "start"] fDe fdDe) (Dr : Fn K mg "_law_draw" sDraw ["deck", "size"] fDr fdDr) (Ch : Fn K mg "_law_choose" sChoose ["deck", "things"] fC fdC) (Id : Fn K mg "_law_ids" sIds ["deck", "many"] fI fdI)
    (Do : Fn K mg "do_move" sDoMove ["order", "move"] fDo fdDo) (GO : FnOk P w K mg base CX0 4 fDo fdDo ["order", "move"] (spDo K)) : FnOk P w K mg base CX0 5 f fd ["script"] (spLaw K) := by
  have GDe : FnOk P w K mg base CX0 1 fDe fdDe ["script", "start"] (spDeck K) := ok_deck De.F TD
  have GDr : FnOk P w K mg base CX0 1 fDr fdDr ["deck", "size"] spDraw := ok_draw Dr.F
  have GC : FnOk P w K mg base CX0 2 fC fdC ["deck", "things"] (spChoose K) := ok_choose Ch.F TD Dr.F Dr.b Dr.m
  have GI : FnOk P w K mg base CX0 3 fI fdI ["deck", "many"] spIds := ok_ids Id.F TD Dr.F Dr.b Dr.m Ch.F Ch.b Ch.m
  refine F.ok scLaw (fun vs H Q E h => ?_) (fun cdv A outer s H vs Q E hr h => ?_)
  · obtain ⟨a, ns, rfl, _⟩ := h
    rfl
  · obtain ⟨a, ns, rfl, hS, hlen, hbits, k⟩ := h
    have hr1 : Room 1 _ := hr.mono (by decide)
    have hr2 : Room 2 _ := hr.mono (by decide)
    have hr3 : Room 3 _ := hr.mono (by decide)
    have h64 := hu64 hr
    refine ⟨_, pss_cons (ps_for PassesOwn.never rfl (pi_range1 rfl TL.range (pa_cons (pe_callB (call_max2 rfl) (by rfl) TL.max (by decide +kernel) (pa_cons pe_int (pa_cons (pe_callB (call_min2 rfl) (by rfl) TL.min (by decide +kernel)
          (pa_cons pe_int (pa_cons (pe_callB call_len_seq (by rfl) TD.len PySem.boot_len (pa_cons (pv 0) pa_nil)) pa_nil))) pa_nil))) pa_nil)) (pg_name (i := 1) scLaw.nd rfl (Or.inl rfl))
        (pss_cons (ps_set (i := 2) scLaw.nd rfl (Or.inl rfl) (pe_call GDe hr1 rfl De.m De.F.kp De.b .nil pass0 (pa_cons (pv 0) (pa_cons (pv 1) pa_nil))))
        (pss_cons (ps_set (i := 3) scLaw.nd rfl (Or.inl rfl) (pe_call GI hr3 rfl Id.m Id.F.kp Id.b .nil pass0 (pa_cons (pv 2) (pa_cons (pe_op op_add pe_int (pe_call GDr hr1 rfl Dr.m Dr.F.kp Dr.b .nil pass0 (pa_cons (pv 2) (pa_cons pe_int pa_nil)))) pa_nil))))
        (pss_one (ps_for PassesOwn.never rfl (pi_range1 rfl TL.range (pa_cons pe_int pa_nil)) (pg_name (i := 4) scLaw.nd rfl (Or.inl rfl))
          (pss_cons (ps_set (i := 5) scLaw.nd rfl (Or.inl rfl) (pe_call GDr hr1 rfl Dr.m Dr.F.kp Dr.b .nil pass0 (pa_cons (pv 2) (pa_cons (pe_callB call_len_seq (by rfl) TD.len PySem.boot_len (pa_cons (pv 3) pa_nil)) pa_nil))))
          (pss_cons (ps_set (i := 6) scLaw.nd rfl (Or.inr rfl) (pe_callTy call_tuple_of (by rfl) TV.tuple boot_tuple (pa_cons (pe_slice sl_list (pv 3) (po_some (pv 5)) (po_some (pe_op op_add (pe_op op_add (pv 5) pe_int) (pe_call GDr hr1 rfl Dr.m Dr.F.kp Dr.b .nil pass0 (pa_cons (pv 2) (pa_cons pe_int pa_nil)))))) pa_nil)))
          (pss_cons (ps_set (i := 7) scLaw.nd rfl (Or.inl rfl) (pe_ix ix_list (pe_op op_cat (pe_lst (pa_cons pe_int pa_nil)) (pv 3)) (pv 5) (fun _ _ => rfl)))
          (pss_cons (ps_setLc (i := 9) (own := [("number", 8)]) (g := gName 8) rfl scLaw.nd rfl rfl (sw_true rfl rfl rfl (by decide +kernel)) (pi_list (pv 3)) (blkOk_by (N := ["script", "start", "deck", "line", "turn", "first", "taken", "before", "number", "left", "anchor", "moved", "single", "last"]) (sc := defScope sLaw) (by decide +kernel)) (fun _ _ _ _ _ => pg_name (i := 8) scLaw.nd rfl (Or.inl rfl))
              (fun _ _ _ _ _ => pts_one (pt_cmpR (op_notIn_K (K := K) rfl) (pv 8) (pv 6) (by rfl))) (fun _ _ _ _ _ => pv 8))
          (pss_cons (ps_set (i := 10) scLaw.nd rfl (Or.inl rfl) (pe_call GC hr2 rfl Ch.m Ch.F.kp Ch.b .nil pass0 (pa_cons (pv 2) (pa_cons (pe_op op_cat (pv 9) (pe_lst (pa_cons pe_int pa_nil))) pa_nil))))
          (pss_cons (ps_set (i := 11) scLaw.nd rfl (Or.inl rfl) (pe_call GO hr rfl Do.m Do.F.kp Do.b .nil pass0 (pa_cons (pv 3) (pa_cons (pe_tup (pa_cons (pv 6) (pa_cons (pv 10) pa_nil))) pa_nil))))
          (pss_cons (ps_if (PW.pt (pw_or (pt_cmpR (op_neL h64) (pe_call GO hr rfl Do.m Do.F.kp Do.b .nil pass0 (pa_cons (pv 11) (pa_cons (pe_tup (pa_cons (pv 6) (pa_cons (pv 7) pa_nil))) pa_nil))) (pv 3) (nomark _))
              (pw_or1 (pt_cmpR (op_neL h64) (pe_call GO hr rfl Do.m Do.F.kp Do.b .nil pass0 (pa_cons (pv 3) (pa_cons (pe_tup (pa_cons (pv 6) (pa_cons (pv 7) pa_nil))) pa_nil))) (pv 3) (nomark _))))) (pss_one (ps_ret pe_bl)) pss_nil)
          (pss_cons (ps_if (PW.pt (pw_or (pt_cmpR (op_neL h64) (pe_lc (own := [("number", 8)]) (g := gName 8) rfl scLaw.nd (pi_list (pv 11)) (blkOk_by (N := ["script", "start", "deck", "line", "turn", "first", "taken", "before", "number", "left", "anchor", "moved", "single", "last"]) (sc := defScope sLaw) (by decide +kernel)) (fun _ _ _ _ _ => pg_name (i := 8) scLaw.nd rfl (Or.inl rfl))
              (fun _ _ _ _ _ => pts_one (pt_cmpR (op_notIn_K (K := K) rfl) (pv 8) (pv 6) (by rfl))) (fun _ _ _ _ _ => pv 8)) (pv 9) (nomark _))
              (pw_or1 (pt_cmpR (op_neL h64) (pe_callB cr_sorted (by rfl) TL.sorted (by decide +kernel) (pa_cons (pv 11) pa_nil)) (pe_callB cr_sorted (by rfl) TL.sorted (by decide +kernel) (pa_cons (pv 3) pa_nil)) (nomark _))))) (pss_one (ps_ret pe_bl)) pss_nil)
          (pss_cons (ps_par (i := 12) (j := 13) (by rfl) scLaw.nd rfl rfl (by decide) rfl rfl (pa_cons (pv 3) (pa_cons (pv 10) pa_nil)) (by rfl))
          (pss_cons (ps_for PassesOwn.never rfl (pi_tup (pv 6)) (pg_name (i := 8) scLaw.nd rfl (Or.inl rfl))
            (pss_cons (ps_set (i := 12) scLaw.nd rfl (Or.inl rfl) (pe_call GO hr rfl Do.m Do.F.kp Do.b .nil pass0 (pa_cons (pv 12) (pa_cons (pe_tup (pa_cons (pe_tup (pa_cons (pv 8) pa_nil)) (pa_cons (pv 13) pa_nil))) pa_nil))))
            (pss_one (ps_set (i := 13) scLaw.nd rfl (Or.inl rfl) (pv 8)))))
          (pss_one (ps_if (pt_cmpR (op_neL h64) (pv 12) (pv 11) (nomark _)) (pss_one (ps_ret pe_bl)) pss_nil)))))))))))))))))
      (pss_one (ps_ret pe_bl)), ?_⟩
    have h16 : sizeLine = 16777216 := sizeLine_eq
    obtain ⟨J, hJ, hJ0, hJ6⟩ : ∃ J : Int, J = (if (if (((ns.map V.int).length : Nat) : Int) < 6 then (((ns.map V.int).length : Nat) : Int) else 6) > 2 then (if (((ns.map V.int).length : Nat) : Int) < 6 then (((ns.map V.int).length : Nat) : Int) else 6) else 2) ∧ 0 ≤ J ∧ J ≤ 6 := by
      refine ⟨_, rfl, ?_, ?_⟩
      · split <;> split <;> omega
      · split <;> split <;> omega
    refine ⟨_, rfl, a, _, rfl, .inl hS, _, _, rfl, _, _, rfl, J, by rw [hJ], by omega, by omega, ?_⟩
    refine for_range (lo := 0) (n := J.toNat) (fun i σ H' => (∃ v1 v2 v3 v4 v5 v6 v7 v8 v9 v10 v11 v12 v13 : Option V, σ = [some (.ref a), v1, v2, v3, v4, v5, v6, v7, v8, v9, v10, v11, v12, v13]) ∧ Same H H')
      ⟨⟨none, none, none, none, none, none, none, none, none, none, none, none, none, rfl⟩, Same.refl H⟩ ?_ ?_
    · rintro st σ H0 hst ⟨⟨v1, v2, v3, v4, v5, v6, v7, v8, v9, v10, v11, v12, v13, rfl⟩, s0⟩
      -- deck
      refine ⟨_, rfl, _, rfl, a, ns, _, rfl, Same.sq s0 hS, hlen, hbits, by omega, by omega, fun d Hd hd sd D => ?_⟩
      -- line
      refine ⟨_, rfl, _, rfl, d, 9, rfl, D, by decide, by decide, fun r1 H1 r10 r11 D1 B1 => ?_⟩
      obtain ⟨m1, rfl⟩ : ∃ m : Nat, r1 = (m : Int) := ⟨r1.toNat, by omega⟩
      refine ⟨_, _, rfl, rfl, d, 2 + m1, ?_, D1, by omega, fun l js H2 hl B2 D2 hL hjl hI => ?_⟩
      · show [V.ref d, V.int (2 + (m1 : Int))] = [V.ref d, V.int ((2 + m1 : Nat) : Int)]
        rw [Int.natCast_add]
        rfl
      have F2 : Fs d Hd [(l, .lst (js.map V.int))] H2 := (((Fs.start D).step D1 B1).step D2 B2).add hL nl
      have hHd : H d = none := Same.free s0 hd
      have sd0 : Same H Hd := s0.trans sd
      refine ⟨4, rfl, by decide, by decide, ?_⟩
      refine for_range (lo := 0) (n := 4) (fun i σ H' => (∃ v4 v5 v6 v7 v8 v9 v10 v11 v12 v13 : Option V, σ = [some (.ref a), some (.int (0 + (st : Int))), some (.ref d), some (.ref l), v4, v5, v6, v7, v8, v9, v10, v11, v12, v13]) ∧ Fs d Hd [(l, .lst (js.map V.int))] H')
        ⟨⟨_, _, _, _, _, _, _, _, _, _, rfl⟩, F2⟩ ?_ ?_
      · rintro turn σ H3 hturn ⟨⟨v4, v5, v6, v7, v8, v9, v10, v11, v12, v13, rfl⟩, F3⟩
        have hjpos : 0 < (js.map V.int).length := by rw [List.length_map]; omega
        have hj10 : js.length ≤ 12 := by omega
        -- first
        refine ⟨_, rfl, _, rfl, l, _, rfl, .inl (SqL.of F3.g0), d, _, rfl, F3.deck, by omega, by rw [List.length_map]; omega, fun r2 H4 r20 r21 D4 B4 => ?_⟩
        rw [List.length_map] at r21
        obtain ⟨f', rfl⟩ : ∃ m : Nat, r2 = (m : Int) := ⟨r2.toNat, by omega⟩
        have hf : f' < js.length := by omega
        have F4 := F3.step D4 B4
        -- taken
        refine ⟨_, rfl, _, rfl, _, rfl, _, rfl, _, _, rfl, rfl, _, rfl, d, 3, rfl, F4.deck, by decide, by decide, fun r3 H5 r30 r31 D5 B5 => ?_⟩
        obtain ⟨t, rfl⟩ : ∃ m : Nat, r3 = (m : Int) := ⟨r3.toNat, by omega⟩
        have F5 := F4.step D5 B5
        refine ⟨_, _, rfl, rfl, _, rfl, l, _, rfl, SqL.of F5.g0, fun p1 hp1 => ⟨p1, _, rfl, .inl ⟨SqL.of upd_same, fun tk htk => ?_⟩⟩⟩
        have ecut := cut_mid js (t := t) hf
        obtain ⟨T, hT⟩ : ∃ T, T = (js.drop f').take (t + 1) := ⟨_, rfl⟩
        rw [← hT] at ecut
        have hTlen : T.length ≤ 12 := by rw [hT, List.length_take, List.length_drop]; omega
        rw [ecut] at htk ⊢
        have F6 := (F5.skip hp1 (o := .lst (T.map V.int))).new htk (o := .tup (T.map V.int)) nt
        -- before
        refine ⟨by show 1 ≤ sizeLine; decide, fun p2 hp2 => ?_⟩
        have F7 := F6.skip hp2 (o := .lst [.int 0])
        refine ⟨_, rfl, p2, l, _, _, rfl, rfl, upd_same, F7.g1, by rw [List.length_map, h16]; show 1 + js.length ≤ 16777216; omega, fun p3 hp3 => ?_⟩
        have F8 := F7.skip hp3 (o := .lst ([.int 0] ++ js.map V.int))
        obtain ⟨bf, hbf⟩ : ∃ bf, (0 :: js)[f']? = some bf := ⟨(0 :: js)[f']'(by simp; omega), List.getElem?_eq_getElem _⟩
        have hbv : ([V.int 0] ++ js.map V.int)[f']? = some (.int bf) := by
          show ((0 :: js).map V.int)[f']? = _
          rw [List.getElem?_map, hbf]
          rfl
        refine ⟨_, rfl, p3, _, _, _, rfl, rfl, SqL.of upd_same, atI_nat hbv, ?_⟩
        -- left
        refine ⟨_, rfl, l, rfl, ⟨_, SqL.of F8.g1⟩, fun D' hD' => ?_⟩
        refine lc_list (K := K) (a := l) (xs := js.map V.int) (fun i H' => Fs d Hd [(tk, .tup (T.map V.int)), (l, .lst (js.map V.int))] H' ∧ H' D' = some (.lst ((without (js.take i) T).map V.int))) ⟨F8.skip hD', upd_same⟩ (fun i H' _ q => SqL.of q.1.g1) ?_ ?_
        · rintro i x H' hx ⟨F9, hL9⟩
          rw [List.getElem?_map] at hx
          obtain ⟨z, hz2, rfl⟩ : ∃ z, js[i]? = some z ∧ x = V.int z := by
            cases hq2 : js[i]? with
            | none => rw [hq2] at hx; cases hx
            | some z => rw [hq2] at hx; exact ⟨z, rfl, (Option.some.inj hx).symm⟩
          refine ⟨rfl, ?_⟩
          refine ⟨_, rfl, _, rfl, tk, _, rfl, .inr (SqT.of F9.g0), rfl, all_flat T, _, rfl, ?_⟩
          rw [inV_int]
          have hff := filter_int js T i hz2
          refine ite2 (fun c => ?_) (fun c => ?_)
          · have hz : z ∉ T := by simpa using c
            rw [if_neg hz] at hff
            refine ⟨_, rfl, _, hL9, ?_, ?_, ?_⟩
            · rw [List.length_map, h16]
              have : (without (js.take i) T).length ≤ (js.take i).length := List.length_filter_le _ _
              have : (js.take i).length ≤ js.length := by rw [List.length_take]; omega
              omega
            · obtain ⟨f1, f2, f3⟩ := F9
              have nd : D' ≠ d := by
                obtain ⟨x, y, q, _⟩ := f2
                exact ne_of hL9 q (nl _ _)
              refine ⟨fun b o hb hh => ?_, ?_, fun p hp => ⟨(f3 p hp).1, ?_⟩⟩
              · have := f1 b o hb hh
                by_cases hbD : b = D'
                · subst hbD
                  have q2 := F8.1 b o hb hh
                  rw [hD'] at q2; cases q2
                · rw [upd_ne hbD]; exact this
              · obtain ⟨x, y, q, r⟩ := f2
                exact ⟨x, y, by rw [upd_ne nd.symm]; exact q, r⟩
              · have q1 := (f3 p hp).2
                have q2 := (F8.2.2 p hp).2
                rw [upd_ne (ne_of_none q2 hD')]
                exact q1
            · rw [upd_same]
              show some (HO.lst (_ ++ [V.int z])) = some (HO.lst ((without (js.take (i + 1)) T).map V.int))
              rw [show without (js.take (i + 1)) T = _ from hff, List.map_append]
              rfl
          · have hz : z ∈ T := by simpa using c
            rw [if_pos hz] at hff
            exact ⟨F9, by rw [show without (js.take (i + 1)) T = _ from hff]; exact hL9⟩
        · rintro H9 ⟨F9, hL9⟩
          rw [List.length_map, List.take_length] at hL9
          have F9' := F9.add hL9 nl
          have hleft : (without js T).length ≤ 12 := Nat.le_trans (List.length_filter_le _ _) hj10
          -- anchor
          refine ⟨_, rfl, _, rfl, by show 1 ≤ sizeLine; decide, fun p4 hp4 => ?_⟩
          have F10 := F9'.skip hp4 (o := .lst [.int 0])
          refine ⟨D', p4, _, _, rfl, rfl, F10.g0, upd_same, by rw [List.length_map, h16]; show (without js T).length + 1 ≤ 16777216; omega, fun p5 hp5 => ?_⟩
          have F11 := F10.skip hp5 (o := .lst ((without js T).map V.int ++ [.int 0]))
          refine ⟨d, p5, _, rfl, F11.deck, SqL.of upd_same, by simp, by rw [List.length_append, List.length_map]; show (without js T).length + 1 < 1000000; omega, fun v H12 hv D12 B12 => ?_⟩
          have F12 := F11.step D12 B12
          obtain ⟨an, rfl, han⟩ : ∃ an : Int, v = .int an ∧ (an = 0 ∨ an ∈ without js T) := by
            rcases List.mem_append.mp hv with h | h
            · obtain ⟨an, h1, h2⟩ := List.mem_map.mp h
              exact ⟨an, h2.symm, .inr h1⟩
            · have : v = .int 0 := by simpa using h
              exact ⟨0, this, .inl rfl⟩
          have M := turn9 (t := t) hI hT hf hbf han
          -- moved
          refine ⟨_, rfl, _, rfl, _, rfl, by show 2 ≤ sizeLine; decide, fun m1' hm1 => ?_⟩
          have F13 := F12.skip hm1 (o := .tup [.ref tk, .int an])
          refine ⟨l, m1', tk, js, T, an, rfl, SqL.of F13.g2, SqT.of upd_same, SqT.of F13.g1, by omega, by omega, M.ok, fun mv H14 hmv s14 hM14 => ?_⟩
          have F14 := (F13.same s14).add hM14 nl
          have hMlen : (doMove js T an).length = js.length := M.perm.length_eq
          -- if do_move(moved, (taken, before)) != line or do_move(line, (taken, before)) != line
          refine ⟨_, rfl, _, rfl, _, rfl, by show 2 ≤ sizeLine; decide, fun m2 hm2 => ?_⟩
          have F15 := F14.skip hm2 (o := .tup [.ref tk, .int bf])
          refine ⟨mv, m2, tk, doMove js T an, T, bf, rfl, SqL.of F15.g0, SqT.of upd_same, SqT.of F15.g2, by omega, by omega, M.ok1, fun r5 H16 hr5 s16 hM16 => ?_⟩
          have F16 := F15.same s16
          refine ⟨_, rfl, r5, l, _, js, rfl, rfl, SqL.of hM16, SqL.of F16.g3, _, rfl, ?_⟩
          refine iteNS M.eq1 ?_
          refine ⟨_, rfl, _, rfl, _, rfl, by show 2 ≤ sizeLine; decide, fun m3 hm3 => ?_⟩
          have F17 := F16.skip hm3 (o := .tup [.ref tk, .int bf])
          refine ⟨l, m3, tk, js, T, bf, rfl, SqL.of F17.g3, SqT.of upd_same, SqT.of F17.g2, by omega, by omega, M.ok2, fun r6 H18 hr6 s18 hM18 => ?_⟩
          have F18 := F17.same s18
          refine ⟨_, rfl, r6, l, _, js, rfl, rfl, SqL.of hM18, SqL.of F18.g3, _, rfl, ?_⟩
          refine iteNS M.eq2 ?_
          -- if [number for number in moved if number not in taken] != left or sorted(moved) != sorted(line)
          refine ⟨_, rfl, mv, rfl, ⟨_, SqL.of F18.g0⟩, fun D2' hD2' => ?_⟩
          refine lc_list (K := K) (a := mv) (xs := (doMove js T an).map V.int) (fun i H' => Fs d Hd [(mv, .lst ((doMove js T an).map V.int)), (D', .lst ((without js T).map V.int)), (tk, .tup (T.map V.int)), (l, .lst (js.map V.int))] H' ∧ H' D2' = some (.lst ((without ((doMove js T an).take i) T).map V.int))) ⟨F18.skip hD2', upd_same⟩ (fun i H' _ q => SqL.of q.1.g0) ?_ ?_
          · rintro i x H' hx ⟨F9, hL9⟩
            rw [List.getElem?_map] at hx
            obtain ⟨z, hz2, rfl⟩ : ∃ z, (doMove js T an)[i]? = some z ∧ x = V.int z := by
              cases hq2 : (doMove js T an)[i]? with
              | none => rw [hq2] at hx; cases hx
              | some z => rw [hq2] at hx; exact ⟨z, rfl, (Option.some.inj hx).symm⟩
            refine ⟨rfl, ?_⟩
            refine ⟨_, rfl, _, rfl, tk, _, rfl, .inr (SqT.of F9.g2), rfl, all_flat T, _, rfl, ?_⟩
            rw [inV_int]
            have hff := filter_int (doMove js T an) T i hz2
            refine ite2 (fun c => ?_) (fun c => ?_)
            · have hz : z ∉ T := by simpa using c
              rw [if_neg hz] at hff
              refine ⟨_, rfl, _, hL9, ?_, ?_, ?_⟩
              · rw [List.length_map, h16]
                have : (without ((doMove js T an).take i) T).length ≤ ((doMove js T an).take i).length := List.length_filter_le _ _
                have : ((doMove js T an).take i).length ≤ (doMove js T an).length := by rw [List.length_take]; omega
                omega
              · obtain ⟨f1, f2, f3⟩ := F9
                have nd : D2' ≠ d := by
                  obtain ⟨x, y, q, _⟩ := f2
                  exact ne_of hL9 q (nl _ _)
                refine ⟨fun b o hb hh => ?_, ?_, fun p hp => ⟨(f3 p hp).1, ?_⟩⟩
                · have := f1 b o hb hh
                  by_cases hbD : b = D2'
                  · subst hbD
                    have q2 := F18.1 b o hb hh
                    rw [hD2'] at q2; cases q2
                  · rw [upd_ne hbD]; exact this
                · obtain ⟨x, y, q, r⟩ := f2
                  exact ⟨x, y, by rw [upd_ne nd.symm]; exact q, r⟩
                · have q1 := (f3 p hp).2
                  have q2 := (F18.2.2 p hp).2
                  rw [upd_ne (ne_of_none q2 hD2')]
                  exact q1
              · rw [upd_same]
                show some (HO.lst (_ ++ [V.int z])) = some (HO.lst ((without ((doMove js T an).take (i + 1)) T).map V.int))
                rw [show without ((doMove js T an).take (i + 1)) T = _ from hff, List.map_append]
                rfl
            · have hz : z ∈ T := by simpa using c
              rw [if_pos hz] at hff
              exact ⟨F9, by rw [show without ((doMove js T an).take (i + 1)) T = _ from hff]; exact hL9⟩
          · rintro H19 ⟨F19, hL19⟩
            rw [List.length_map, List.take_length, without_doMove] at hL19
            refine ⟨_, rfl, D2', D', _, _, rfl, rfl, SqL.of hL19, SqL.of F19.g1, _, rfl, ?_⟩
            refine iteNS rfl ?_
            refine ⟨_, rfl, mv, _, rfl, SqL.of F19.g0, by omega, fun ns1 q1 hp1' hs1 hq1 => ?_⟩
            have F20 := F19.new hq1 (o := .lst (ns1.map V.int)) nl
            refine ⟨_, rfl, l, _, rfl, SqL.of F20.g4, by omega, fun ns2 q2 hp2' hs2 hq2 => ?_⟩
            have F21 := F20.skip hq2 (o := .lst (ns2.map V.int))
            refine ⟨q1, q2, _, _, rfl, rfl, SqL.of F21.g0, SqL.of upd_same, _, rfl, ?_⟩
            refine iteNS (PySem.W.ksm_same (hp1'.trans (M.perm.trans hp2'.symm)) hs1 hs2) ?_
            -- single, last = line, anchor
            refine ⟨_, rfl, _, rfl, _, _, rfl, ?_⟩
            refine ⟨_, rfl, tk, rfl, ⟨_, SqT.of F21.tail.g2⟩, ?_⟩
            refine for_tup (K := K) (a := tk) (xs := T.map V.int) (fun i σ H' => (∃ (v4 v8 : Option V) (sg : Addr) (la : Int), σ = [some (.ref a), some (.int (0 + (st : Int))), some (.ref d), some (.ref l), v4, some (.int (f' : Int)), some (.ref tk), some (.int bf), v8, some (.ref D'), some (.int an), some (.ref mv), some (.ref sg), some (.int la)] ∧
                H' sg = some (.lst ((doMove js (T.take i) an).map V.int)) ∧ ((i = 0 ∧ la = an) ∨ ∃ j, i = j + 1 ∧ T[j]? = some la)) ∧ Fs d Hd [(mv, .lst ((doMove js T an).map V.int)), (D', .lst ((without js T).map V.int)), (tk, .tup (T.map V.int)), (l, .lst (js.map V.int))] H')
              ⟨⟨_, _, l, an, rfl, ?_, .inl ⟨rfl, rfl⟩⟩, F21.tail⟩ (fun i σ H' _ q => SqT.of q.2.g2) ?_ ?_
            · rw [List.take_zero, doMove_nil]; exact F21.tail.g3
            · rintro i x σ H22 hx ⟨⟨v4', v8', sg, la, rfl, hsg, hla⟩, F22⟩
              rw [List.getElem?_map] at hx
              obtain ⟨z, hz2, rfl⟩ : ∃ z, T[i]? = some z ∧ x = V.int z := by
                cases hq2 : T[i]? with
                | none => rw [hq2] at hx; cases hx
                | some z => rw [hq2] at hx; exact ⟨z, rfl, (Option.some.inj hx).symm⟩
              obtain ⟨ok9, eq9⟩ := one9 hI M.ok hz2 hla
              have len9 : (doMove js (T.take i) an).length ≤ 4000 := by
                have n1 : (doMove js (T.take i) an).Nodup := nodup_doMove hI.1 (List.Nodup.sublist (List.take_sublist _ _) M.ok.2.2.1)
                have := len_le_of_sub _ js n1 fun k hk => (mem_doMove fun q hq => M.ok.2.1 q (List.mem_of_mem_take hq)).mp hk
                omega
              refine ⟨_, rfl, _, rfl, by show 1 ≤ sizeLine; decide, fun t1 ht1 => ?_⟩
              have F23 := F22.new ht1 (o := .tup [.int z]) nt
              have hsg1 := Same.new (o := .tup [.int z]) ht1 _ _ hsg
              refine ⟨_, rfl, by show 2 ≤ sizeLine; decide, fun t2 ht2 => ?_⟩
              have F24 := F23.skip ht2 (o := .tup [.ref t1, .int la])
              have hsg2 := Same.new (o := .tup [.ref t1, .int la]) ht2 _ _ hsg1
              refine ⟨sg, t2, t1, doMove js (T.take i) an, [z], la, rfl, SqL.of hsg2, SqT.of upd_same, SqT.of F24.g0, len9, by show 1 ≤ 4000; decide, ok9, fun sg' H25 hsg' s25 hM25 => ?_⟩
              have F25 := F24.tail.same s25
              refine ⟨_, rfl, ⟨_, _, sg', z, rfl, ?_, .inr ⟨i, rfl, hz2⟩⟩, F25⟩
              rw [← eq9]
              exact hM25
            · rintro σ H22 ⟨⟨v4', v8', sg, la, rfl, hsg, hla⟩, F22⟩
              rw [List.length_map, List.take_length] at hsg
              refine ⟨_, rfl, _, rfl, sg, mv, _, _, rfl, rfl, SqL.of hsg, SqL.of F22.g0, _, rfl, ?_⟩
              refine iteNS rfl ?_
              exact ⟨⟨_, _, _, _, _, _, _, _, _, _, rfl⟩, F22.tail.tail.tail⟩
      · rintro σ H3 ⟨⟨v4, v5, v6, v7, v8, v9, v10, v11, v12, v13, rfl⟩, F3⟩
        exact ⟨⟨_, _, _, _, _, _, _, _, _, _, _, _, _, rfl⟩, F3.old hHd sd0⟩
    · rintro σ H0 ⟨⟨v1, v2, v3, v4, v5, v6, v7, v8, v9, v10, v11, v12, v13, rfl⟩, s0⟩
      exact k _
end
/-! ### what the top has written, the head -/
theorem all_mk {l : PySem.W.OpenLaw} {w : World} {K : PySem.W.Frag} {h : Heap} {mg : Str → Option Value} {fa : Addr} (X : K.In h) (G : h.Ns mainGlobals mg) (hfa : mg "law" = some (.ref fa))
    {f1 : Addr} {od1 an1 : Option Addr} {sl1 : Array (Option Value)} {oc1 kV1 dc1 pm1 cd1 ct1 : Value} {f2 : Addr} {od2 an2 : Option Addr} {sl2 : Array (Option Value)} {oc2 kV2 dc2 pm2 cd2 ct2 : Value} {f3 : Addr} {od3 an3 : Option Addr} {sl3 : Array (Option Value)} {oc3 kV3 dc3 pm3 cd3 ct3 : Value} {f4 : Addr} {od4 an4 : Option Addr} {sl4 : Array (Option Value)} {oc4 kV4 dc4 pm4 cd4 ct4 : Value} {f5 : Addr} {od5 an5 : Option Addr} {sl5 : Array (Option Value)} {oc5 kV5 dc5 pm5 cd5 ct5 : Value} {f6 : Addr} {od6 an6 : Option Addr} {sl6 : Array (Option Value)} {oc6 kV6 dc6 pm6 cd6 ct6 : Value} {f7 : Addr} {od7 an7 : Option Addr} {sl7 : Array (Option Value)} {oc7 kV7 dc7 pm7 cd7 ct7 : Value} {f8 : Addr} {od8 an8 : Option Addr} {sl8 : Array (Option Value)} {oc8 kV8 dc8 pm8 cd8 ct8 : Value} {f9 : Addr} {od9 an9 : Option Addr} {sl9 : Array (Option Value)} {oc9 kV9 dc9 pm9 cd9 ct9 : Value} {f10 : Addr} {od10 an10 : Option Addr} {sl10 : Array (Option Value)} {oc10 kV10 dc10 pm10 cd10 ct10 : Value}
    (a1 : PySem.W.nsIn K mainGlobals "is_whole" = some (some (.ref f1))) (l1 : K.lookup f1 = some ⟨oc1, od1, .func (PySem.W.fnOf "is_whole" "is_whole" (defArgs sWhole) (defBody sWhole) (defScope sWhole) .none kV1 dc1 pm1 an1 cd1 ct1), sl1⟩) (c1 : PySem.W.codeIn K cd1 "is_whole" = true) (k1 : PySem.W.keepIn K (.ref f1) = true)
    (a2 : PySem.W.nsIn K mainGlobals "all_different" = some (some (.ref f2))) (l2 : K.lookup f2 = some ⟨oc2, od2, .func (PySem.W.fnOf "all_different" "all_different" (defArgs sDiff) (defBody sDiff) (defScope sDiff) .none kV2 dc2 pm2 an2 cd2 ct2), sl2⟩) (c2 : PySem.W.codeIn K cd2 "all_different" = true) (k2 : PySem.W.keepIn K (.ref f2) = true)
    (a3 : PySem.W.nsIn K mainGlobals "are_ids_of" = some (some (.ref f3))) (l3 : K.lookup f3 = some ⟨oc3, od3, .func (PySem.W.fnOf "are_ids_of" "are_ids_of" (defArgs sAreIds) (defBody sAreIds) (defScope sAreIds) .none kV3 dc3 pm3 an3 cd3 ct3), sl3⟩) (c3 : PySem.W.codeIn K cd3 "are_ids_of" = true) (k3 : PySem.W.keepIn K (.ref f3) = true)
    (a4 : PySem.W.nsIn K mainGlobals "is_move" = some (some (.ref f4))) (l4 : K.lookup f4 = some ⟨oc4, od4, .func (PySem.W.fnOf "is_move" "is_move" (defArgs sIsMove) (defBody sIsMove) (defScope sIsMove) .none kV4 dc4 pm4 an4 cd4 ct4), sl4⟩) (c4 : PySem.W.codeIn K cd4 "is_move" = true) (k4 : PySem.W.keepIn K (.ref f4) = true)
    (a5 : PySem.W.nsIn K mainGlobals "do_move" = some (some (.ref f5))) (l5 : K.lookup f5 = some ⟨oc5, od5, .func (PySem.W.fnOf "do_move" "do_move" (defArgs sDoMove) (defBody sDoMove) (defScope sDoMove) .none kV5 dc5 pm5 an5 cd5 ct5), sl5⟩) (c5 : PySem.W.codeIn K cd5 "do_move" = true) (k5 : PySem.W.keepIn K (.ref f5) = true)
    (a6 : PySem.W.nsIn K mainGlobals "_law_deck" = some (some (.ref f6))) (l6 : K.lookup f6 = some ⟨oc6, od6, .func (PySem.W.fnOf "_law_deck" "_law_deck" (defArgs sDeck) (defBody sDeck) (defScope sDeck) .none kV6 dc6 pm6 an6 cd6 ct6), sl6⟩) (c6 : PySem.W.codeIn K cd6 "_law_deck" = true) (k6 : PySem.W.keepIn K (.ref f6) = true)
    (a7 : PySem.W.nsIn K mainGlobals "_law_draw" = some (some (.ref f7))) (l7 : K.lookup f7 = some ⟨oc7, od7, .func (PySem.W.fnOf "_law_draw" "_law_draw" (defArgs sDraw) (defBody sDraw) (defScope sDraw) .none kV7 dc7 pm7 an7 cd7 ct7), sl7⟩) (c7 : PySem.W.codeIn K cd7 "_law_draw" = true) (k7 : PySem.W.keepIn K (.ref f7) = true)
    (a8 : PySem.W.nsIn K mainGlobals "_law_choose" = some (some (.ref f8))) (l8 : K.lookup f8 = some ⟨oc8, od8, .func (PySem.W.fnOf "_law_choose" "_law_choose" (defArgs sChoose) (defBody sChoose) (defScope sChoose) .none kV8 dc8 pm8 an8 cd8 ct8), sl8⟩) (c8 : PySem.W.codeIn K cd8 "_law_choose" = true) (k8 : PySem.W.keepIn K (.ref f8) = true)
    (a9 : PySem.W.nsIn K mainGlobals "_law_ids" = some (some (.ref f9))) (l9 : K.lookup f9 = some ⟨oc9, od9, .func (PySem.W.fnOf "_law_ids" "_law_ids" (defArgs sIds) (defBody sIds) (defScope sIds) .none kV9 dc9 pm9 an9 cd9 ct9), sl9⟩) (c9 : PySem.W.codeIn K cd9 "_law_ids" = true) (k9 : PySem.W.keepIn K (.ref f9) = true)
    (a10 : PySem.W.nsIn K mainGlobals "law" = some (some (.ref f10))) (l10 : K.lookup f10 = some ⟨oc10, od10, .func (PySem.W.fnOf "law" "law" (defArgs sLaw) (defBody sLaw) (defScope sLaw) .none kV10 dc10 pm10 an10 cd10 ct10), sl10⟩) (c10 : PySem.W.codeIn K cd10 "law" = true) (k10 : PySem.W.keepIn K (.ref f10) = true)
    (z0 : PySem.W.nsIn K mainGlobals "len" = some none)
    (z1 : PySem.W.nsIn K mainGlobals "isinstance" = some none)
    (z2 : PySem.W.nsIn K mainGlobals "int" = some none)
    (z3 : PySem.W.nsIn K mainGlobals "bool" = some none)
    (z4 : PySem.W.nsIn K mainGlobals "tuple" = some none)
    (z5 : PySem.W.nsIn K mainGlobals "set" = some none)
    (z6 : PySem.W.nsIn K mainGlobals "all" = some none)
    (z7 : PySem.W.nsIn K mainGlobals "list" = some none)
    (z8 : PySem.W.nsIn K mainGlobals "range" = some none)
    (z9 : PySem.W.nsIn K mainGlobals "max" = some none)
    (z10 : PySem.W.nsIn K mainGlobals "min" = some none)
    (z11 : PySem.W.nsIn K mainGlobals "sorted" = some none)
    : ∃ fd : FuncData, (∀ (s : Shared) (v : Value), BindsTo s fd ⟨[v], []⟩ [("script", v)]) ∧ ∀ base : Heap, K.In base → base.Ns mainGlobals mg → FnOk l.prog w K mg base CX0 5 fa fd ["script"] (spLaw K) := by
  have e := hfa.symm.trans (PySem.W.mg_of X G a10)
  cases e
  have n_len := PySem.W.mg_none_of X G z0
  have n_isinstance := PySem.W.mg_none_of X G z1
  have n_int := PySem.W.mg_none_of X G z2
  have n_bool := PySem.W.mg_none_of X G z3
  have n_tuple := PySem.W.mg_none_of X G z4
  have n_set := PySem.W.mg_none_of X G z5
  have n_all := PySem.W.mg_none_of X G z6
  have n_list := PySem.W.mg_none_of X G z7
  have n_range := PySem.W.mg_none_of X G z8
  have n_max := PySem.W.mg_none_of X G z9
  have n_min := PySem.W.mg_none_of X G z10
  have n_sorted := PySem.W.mg_none_of X G z11
  have F1 := fun_mk (st := sWhole) l1 c1 k1
  have b1 := F1.binds (ps := ["value"]) fun _ _ _ _ _ _ us hl => match us, hl with | [_], _ => rfl
  have W : Fn K mg "is_whole" sWhole ["value"] f1 _ := ⟨F1, b1, PySem.W.mg_of X G a1⟩
  have F2 := fun_mk (st := sDiff) l2 c2 k2
  have b2 := F2.binds (ps := ["numbers"]) fun _ _ _ _ _ _ us hl => match us, hl with | [_], _ => rfl
  have D : Fn K mg "all_different" sDiff ["numbers"] f2 _ := ⟨F2, b2, PySem.W.mg_of X G a2⟩
  have F3 := fun_mk (st := sAreIds) l3 c3 k3
  have b3 := F3.binds (ps := ["order", "value"]) fun _ _ _ _ _ _ us hl => match us, hl with | [_, _], _ => rfl
  have A : Fn K mg "are_ids_of" sAreIds ["order", "value"] f3 _ := ⟨F3, b3, PySem.W.mg_of X G a3⟩
  have F4 := fun_mk (st := sIsMove) l4 c4 k4
  have b4 := F4.binds (ps := ["order", "value"]) fun _ _ _ _ _ _ us hl => match us, hl with | [_, _], _ => rfl
  have M : Fn K mg "is_move" sIsMove ["order", "value"] f4 _ := ⟨F4, b4, PySem.W.mg_of X G a4⟩
  have F5 := fun_mk (st := sDoMove) l5 c5 k5
  have b5 := F5.binds (ps := ["order", "move"]) fun _ _ _ _ _ _ us hl => match us, hl with | [_, _], _ => rfl
  have Do : Fn K mg "do_move" sDoMove ["order", "move"] f5 _ := ⟨F5, b5, PySem.W.mg_of X G a5⟩
  have F6 := fun_mk (st := sDeck) l6 c6 k6
  have b6 := F6.binds (ps := ["script", "start"]) fun _ _ _ _ _ _ us hl => match us, hl with | [_, _], _ => rfl
  have De : Fn K mg "_law_deck" sDeck ["script", "start"] f6 _ := ⟨F6, b6, PySem.W.mg_of X G a6⟩
  have F7 := fun_mk (st := sDraw) l7 c7 k7
  have b7 := F7.binds (ps := ["deck", "size"]) fun _ _ _ _ _ _ us hl => match us, hl with | [_, _], _ => rfl
  have Dr : Fn K mg "_law_draw" sDraw ["deck", "size"] f7 _ := ⟨F7, b7, PySem.W.mg_of X G a7⟩
  have F8 := fun_mk (st := sChoose) l8 c8 k8
  have b8 := F8.binds (ps := ["deck", "things"]) fun _ _ _ _ _ _ us hl => match us, hl with | [_, _], _ => rfl
  have Ch : Fn K mg "_law_choose" sChoose ["deck", "things"] f8 _ := ⟨F8, b8, PySem.W.mg_of X G a8⟩
  have F9 := fun_mk (st := sIds) l9 c9 k9
  have b9 := F9.binds (ps := ["deck", "many"]) fun _ _ _ _ _ _ us hl => match us, hl with | [_, _], _ => rfl
  have Id : Fn K mg "_law_ids" sIds ["deck", "many"] f9 _ := ⟨F9, b9, PySem.W.mg_of X G a9⟩
  exact ⟨PySem.W.fnOf "law" "law" (defArgs sLaw) (defBody sLaw) (defScope sLaw) .none kV10 dc10 pm10 an10 cd10 ct10, fun s v => .of_eq rfl, fun base _ _ =>
    (have TV : TxtV mg := ⟨n_len, n_isinstance, n_int, n_bool, n_tuple, n_set, n_all, n_list⟩
    ok_law (fun_mk (st := sLaw) l10 c10 k10) TV ⟨n_len⟩ ⟨n_range, n_max, n_min, n_sorted⟩ De Dr Ch Id Do (ok_do Do.F TV W.F W.b W.m D.F D.b D.m A.F A.b A.m M.F M.b M.m))⟩
end Hk
open PySem PySem.W PyProof.Rows in
set_option maxRecDepth 100000 in
set_option maxHeartbeats 0 in
theorem PySem.Challenge.cw_handsorted_k09_whole_moves_taken_back_holds : PySem.Challenge.rw_handsorted_k09_whole_moves_taken_back.Holds := by
  w_on; o_law; k_head; (case hw => w_witness2)
  k_fill
  refine L2.walk_ofB (l := PySem.Challenge.rw_handsorted_k09_whole_moves_taken_back) (n := 63) (k := 5) (x := "script") (CX := fun _ => L2.CX0) (sp := fun w => Hk.spLaw _) rfl (by decide) rfl ⟨rfl, by decide, by decide⟩ (fun w h Y => PySem.W.kIn_of Y) ?F (fun _ _ a ns hl hb _ hS => ⟨a, ns, rfl, hS, hl, hb, fun _ => rfl⟩) (fun _ _ _ _ _ z => z)
  case F =>
    intro w mg fa h KX G hmg
    refine' Hk.all_mk KX G hmg ?a1 ?l1 ?c1 ?k1 ?a2 ?l2 ?c2 ?k2 ?a3 ?l3 ?c3 ?k3 ?a4 ?l4 ?c4 ?k4 ?a5 ?l5 ?c5 ?k5 ?a6 ?l6 ?c6 ?k6 ?a7 ?l7 ?c7 ?k7 ?a8 ?l8 ?c8 ?k8 ?a9 ?l9 ?c9 ?k9 ?a10 ?l10 ?c10 ?k10 ?z0 ?z1 ?z2 ?z3 ?z4 ?z5 ?z6 ?z7 ?z8 ?z9 ?z10 ?z11
    (case a1 => k_is)
    (case l1 => k_is)
    (case c1 => k_is)
    (case k1 => k_is)
    (case a2 => k_is)
    (case l2 => k_is)
    (case c2 => k_is)
    (case k2 => k_is)
    (case a3 => k_is)
    (case l3 => k_is)
    (case c3 => k_is)
    (case k3 => k_is)
    (case a4 => k_is)
    (case l4 => k_is)
    (case c4 => k_is)
    (case k4 => k_is)
    (case a5 => k_is)
    (case l5 => k_is)
    (case c5 => k_is)
    (case k5 => k_is)
    (case a6 => k_is)
    (case l6 => k_is)
    (case c6 => k_is)
    (case k6 => k_is)
    (case a7 => k_is)
    (case l7 => k_is)
    (case c7 => k_is)
    (case k7 => k_is)
    (case a8 => k_is)
    (case l8 => k_is)
    (case c8 => k_is)
    (case k8 => k_is)
    (case a9 => k_is)
    (case l9 => k_is)
    (case c9 => k_is)
    (case k9 => k_is)
    (case a10 => k_is)
    (case l10 => k_is)
    (case c10 => k_is)
    (case k10 => k_is)
    (case z0 => k_is)
    (case z1 => k_is)
    (case z2 => k_is)
    (case z3 => k_is)
    (case z4 => k_is)
    (case z5 => k_is)
    (case z6 => k_is)
    (case z7 => k_is)
    (case z8 => k_is)
    (case z9 => k_is)
    (case z10 => k_is)
    (case z11 => k_is)

