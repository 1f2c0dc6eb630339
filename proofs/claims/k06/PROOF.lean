import PyProof.Rows.All
import Wide.All
import OpenK.AllK
import Wide.FinOn
import HandS.ForMost
import HandS.EndBits
import HandS.Set
import HandS.SetFor
import HandS.IsInst
import KE.KSortedM
import PyProof.ReprRoads
import PyProof.EqAt
import PyProof.EqKinds
import PyProof.TupleCall
import Open.SpecLaws
import KE.OsGo
import HandS.ForExc
import HandS.Star
import HandS.Style
import PySem.Challenge.RW_handsorted_k06_moves_done
set_option Elab.async false
set_option linter.all false
set_option maxRecDepth 100000
set_option maxHeartbeats 8000000
namespace Hk
open PySem L2 PySem.Spec PyProof.Rows
def top (i : Nat) : Stmt := PySem.Challenge.pw_handsorted_k06_moves_done.main.body.getD i (.Pass ⟨0, 0, 0, 0⟩)
abbrev sWhole : Stmt := top 4
abbrev sDiff : Stmt := top 5
abbrev sAreIds : Stmt := top 7
abbrev sIsMove : Stmt := top 8
abbrev sDoMove : Stmt := top 9
abbrev sDoMoves : Stmt := top 10
abbrev sDeck : Stmt := top 12
abbrev sDraw : Stmt := top 13
abbrev sChoose : Stmt := top 14
abbrev sShuf : Stmt := top 15
abbrev sFields : Stmt := top 16
abbrev sIds : Stmt := top 17
abbrev sRule : Stmt := top 18
abbrev sSign : Stmt := top 19
abbrev sSorted : Stmt := top 20
abbrev sDone : Stmt := top 21
abbrev sAllDone : Stmt := top 22
abbrev sLaw : Stmt := top 23
/-! ### numbers of any size -/
def CPowG (i j : Int) : Prop := 0 ≤ j ∧ (Builtin.Int.intBits i : Int) * j ≤ 2 ^ 27
section
variable {X : Cx}
theorem op_mulG : OpR X (binaryOp .Mult) (rI IntMulOk fun i j => .int (i * j)) := opI fun _ _ _ _ _ _ _ hc q => mul_int q hc
theorem op_powG : OpR X (binaryOp .Pow) (rI CPowG fun i j => .int (i ^ j.toNat)) := opI fun _ _ _ _ _ _ _ hc q => pow_int hc.1 hc.2 q
end
theorem mulOk_bits {i j : Int} {a b : Nat} (ha : Builtin.Int.intBits i ≤ a) (hb : Builtin.Int.intBits j ≤ b) (h : a + b ≤ 100000000) : IntMulOk i j := by
  have e : bitsLine = 134217728 := by decide
  unfold IntMulOk
  intro z
  rw [Bool.and_eq_true] at z
  have z2 := z.2
  unfold Builtin.Int.intTooBig at z2
  have z3 := of_decide_eq_true z2
  rw [e] at z3
  omega
theorem bits_le {i : Int} {n : Nat} (h : i.natAbs < 2 ^ n) : Builtin.Int.intBits i ≤ n := intBits_le h
/-- the turn of the deck's loop -/
theorem turn_bits {m e : Int} {k : Nat} (h0 : 0 ≤ m) (h1 : m < 2147483600) (he : Builtin.Int.intBits e ≤ k) (hk : 30 ≤ k) :
    Builtin.Int.intBits (m * 20011 + e * e + 13) ≤ 2 * k + 1 := by
  refine bits_le ?_
  have a1 : e.natAbs < 2 ^ k := Nat.lt_of_lt_of_le (natAbs_lt_pow_bits e) (Nat.pow_le_pow_right (by omega) he)
  have a2 : (e * e).natAbs < 2 ^ (2 * k) := by
    rw [Int.natAbs_mul, Nat.two_mul, Nat.pow_add]
    exact Nat.mul_lt_mul'' a1 a1
  have a3 : (m * 20011 + 13).natAbs < 2 ^ 60 := by
    have : (2 : Nat) ^ 60 = 1152921504606846976 := by decide
    omega
  have a4 : (2 : Nat) ^ 60 ≤ 2 ^ (2 * k) := Nat.pow_le_pow_right (by omega) (by omega)
  have a5 : (2 : Nat) ^ (2 * k + 1) = 2 ^ (2 * k) + 2 ^ (2 * k) := by rw [Nat.pow_succ, Nat.mul_two]
  rw [a5]
  generalize (2 : Nat) ^ (2 * k) = B at *
  generalize e * e = q at *
  omega
/-! ### the deck -/
def dk (x y : Int) : List (Key × V) := [(.inr "digits", .int x), (.inr "mixed", .int y)]
def DeckAt (H : Hp) (d : Addr) : Prop := ∃ x y : Int, H d = some (.dK (dk x y)) ∧ 0 ≤ x ∧ 0 ≤ y ∧ y < 2147483600
/-- all that was tracked is as it was, but what stands at d -/
def But (d : Addr) (H H' : Hp) : Prop := ∀ b o, b ≠ d → H b = some o → H' b = some o
theorem But.refl (d : Addr) (H : Hp) : But d H H := fun _ _ _ h => h
theorem But.trans {d : Addr} {H H1 H2 : Hp} (a : But d H H1) (b : But d H1 H2) : But d H H2 := fun c o n h => b c o n (a c o n h)
theorem But.of {d : Addr} {H H' : Hp} (a : Same H H') : But d H H' := fun c o _ h => a c o h
theorem But.upd {d : Addr} {H : Hp} {o : HO} : But d H (upd H d o) := fun b u n h => by rw [upd_ne n]; exact h
theorem But.new {d p : Addr} {H : Hp} {o : HO} (h : H p = none) : But d H (L2.upd H p o) := fun b u n e => by rw [upd_ne (ne_of_none e h)]; exact e
theorem Same.new {p : Addr} {H : Hp} {o : HO} (h : H p = none) : Same H (L2.upd H p o) := fun b u e => by rw [upd_ne (ne_of_none e h)]; exact e
theorem DeckAt.same {H H' : Hp} {d : Addr} (D : DeckAt H d) (s : Same H H') : DeckAt H' d := let ⟨x, y, h, r⟩ := D; ⟨x, y, s _ _ h, r⟩
theorem dm_ : ¬ (("digits" : Str) = "mixed") := by decide +kernel
theorem md_ : ¬ (("mixed" : Str) = "digits") := by decide +kernel
theorem dk_digits (x y : Int) : valV (dk x y) (Sum.inr "digits" : Key) = some (.int x) := by
  unfold valV dk
  rw [List.find?_cons_of_pos]
  · rfl
  · exact decide_eq_true rfl
theorem dk_mixed (x y : Int) : valV (dk x y) (Sum.inr "mixed" : Key) = some (.int y) := by
  unfold valV dk
  rw [List.find?_cons_of_neg, List.find?_cons_of_pos]
  · rfl
  · exact decide_eq_true rfl
  · intro q
    exact dm_ (Sum.inr.inj (of_decide_eq_true q))
theorem dk_put_digits (x y z : Int) : putK (dk x y) (Sum.inr "digits" : Key) (.int z) = dk z y := by
  unfold putK dk
  have n : ¬ (Sum.inr "mixed" : Key) = (Sum.inr "digits" : Key) := fun q => md_ (Sum.inr.inj q)
  simp only [List.any_cons, decide_true, Bool.true_or, if_true, List.map_cons, List.map_nil, if_neg n]
theorem dk_put_mixed (x y z : Int) : putK (dk x y) (Sum.inr "mixed" : Key) (.int z) = dk x z := by
  unfold putK dk
  have n : ¬ (Sum.inr "digits" : Key) = (Sum.inr "mixed" : Key) := fun q => dm_ (Sum.inr.inj q)
  simp only [List.any_cons, decide_true, Bool.true_or, Bool.or_true, if_true, List.map_cons, List.map_nil, if_neg n]
theorem dk_merge (x y : Int) : mergeK [] [((Sum.inr "digits" : Key), V.int x), ((Sum.inr "mixed" : Key), V.int y)] = dk x y := by
  unfold mergeK putK dk
  have n : ¬ (Sum.inr "digits" : Key) = (Sum.inr "mixed" : Key) := fun q => dm_ (Sum.inr.inj q)
  simp only [List.foldl_cons, List.foldl_nil, List.any_nil, List.nil_append, List.any_cons, decide_eq_false n, Bool.or_self]
  rfl
structure TxtD (mg : Str → Option Value) : Prop where
  len : mg "len" = none
section
variable {P : Program} {w : World} {K : PySem.W.Frag} {mg : Str → Option Value} {base : Heap}
def spDeck (K : PySem.W.Frag) : Sp := fun vs H Q _ => ∃ (a : Addr) (ns : List Int) (st : Int), vs = [.ref a, .int st] ∧ SqL K H a (ns.map V.int) ∧ ns.length ≤ 63 ∧ (∀ z ∈ ns, Builtin.Int.intBits z ≤ 1048576) ∧ 0 ≤ st ∧ st ≤ 63 ∧
  ∀ (d : Addr) (H' : Hp), H d = none → Same H H' → DeckAt H' d → Q (.ref d) H'
theorem scDeck : FnScope ["script", "start", "mixed", "entry", "digits"] ["script", "start"] (defScope sDeck) := ⟨rfl, rfl, rfl, by decide +kernel, rfl, by decide +kernel, by decide +kernel⟩
theorem ok_deck {f : Addr} {fd : FuncData} (F : Fun K "_law_deck" "_law_deck" sDeck f fd) (T : TxtD mg) : FnOk P w K mg base CX0 1 f fd ["script", "start"] (spDeck K) := by
  refine F.ok scDeck (fun vs H Q E h => ?_) (fun cdv A outer s H vs Q E hr h => ?_)
  · obtain ⟨a, ns, st, rfl, _⟩ := h
    rfl
  · obtain ⟨a, ns, st, rfl, hS, hlen, hb, h0, h1, k⟩ := h
    have hu := hu_of hr
    refine ⟨_, pss_cons (ps_set (i := 2) scDeck.nd rfl (Or.inl rfl) (pe_op op_add pe_int (pe_op op_mul (pv 1) pe_int)))
      (pss_cons (ps_for PassesOwn.never rfl (pi_list (pv 0)) (pg_name (i := 3) scDeck.nd rfl (Or.inl rfl))
        (pss_one (ps_set (i := 2) scDeck.nd rfl (Or.inl rfl) (pe_op op_add (pe_op op_mod (pe_op op_powG (pe_op op_add (pe_op op_add (pe_op op_mul (pv 2) pe_int) (pe_op op_mulG (pv 3) (pv 3))) pe_int) pe_int) pe_int) pe_int))))
      (pss_cons (ps_set (i := 4) scDeck.nd rfl (Or.inl rfl) (pe_ifExp (PW.pt (pw_and (pt_cmpR op_lt (pv 1) (pe_callB call_len_seq (by rfl) T.len PySem.boot_len (pa_cons (pv 0) pa_nil)) (nomark _))
          (pw_and1 (pt_cmpR op_ge (pe_ix ix_list (pv 0) (pv 1) (fun _ _ => rfl)) (pe_op op_pow pe_int pe_int) (nomark _)))))
          (pe_op op_sub (pe_ix ix_list (pv 0) (pv 1) (fun _ _ => rfl)) (pe_op op_pow pe_int pe_int)) pe_int))
      (pss_one (ps_ret (pe_disp (pps_cons pe_str (pv 4) (pps_cons pe_str (pv 2) pps_nil)) (by rfl) (by rfl) (fun z => by cases z) (by decide)))))), ?_⟩
    refine ⟨_, rfl, _, _, rfl, rfl, .inr ⟨by decide, by decide⟩, _, _, rfl, rfl, ?_⟩
    refine ⟨_, rfl, a, rfl, ⟨_, hS⟩, for_list (K := K) (a := a) (xs := ns.map V.int) (fun i σ H' => ∃ (m : Int) (v : Option V), σ = [some (.ref a), some (.int st), some (.int m), v, none] ∧ H' = H ∧ 0 ≤ m ∧ m < 2147483600)
      ⟨_, none, rfl, rfl, by omega, by omega⟩ (fun i σ H' _ ⟨_, _, _, e, _⟩ => by rw [e]; exact hS) ?_ ?_⟩
    · rintro i y σ H' hi ⟨m, v, rfl, rfl, m0, m1⟩
      obtain ⟨e, he, rfl⟩ : ∃ e, e ∈ ns ∧ y = V.int e := by
        rw [List.getElem?_map] at hi
        cases q : ns[i]? with
        | none => rw [q] at hi; cases hi
        | some u => rw [q] at hi; exact ⟨u, List.mem_of_getElem? q, (Option.some.inj hi).symm⟩
      have hbits := hb e he
      have hT := turn_bits (k := 1048576) m0 m1 hbits (by decide)
      refine ⟨_, rfl, _, _, rfl, rfl, .inr ⟨by decide, by decide⟩, _, rfl, _, rfl, _, _, rfl, rfl, mulOk_bits hbits hbits (by decide), _, _, rfl, rfl, _, _, rfl, rfl, _, _, rfl, rfl, ⟨by decide, ?_⟩, _, _, rfl, rfl, (by show (0 : Int) < 2147483549; decide), _, _, rfl, rfl, ?_⟩
      · have z : (2 : Int) ^ 27 = 134217728 := by decide
        rw [z]
        generalize Builtin.Int.intBits (m * 20011 + e * e + 13) = B at hT ⊢
        omega
      · refine ⟨_, _, rfl, rfl, ?_, ?_⟩
        · have := Int.emod_nonneg ((m * 20011 + e * e + 13) ^ (2 : Int).toNat) (b := 2147483549) (by decide)
          generalize (m * 20011 + e * e + 13) ^ (2 : Int).toNat % 2147483549 = z at *
          omega
        · have := Int.emod_lt_of_pos ((m * 20011 + e * e + 13) ^ (2 : Int).toNat) (b := 2147483549) (by decide)
          generalize (m * 20011 + e * e + 13) ^ (2 : Int).toNat % 2147483549 = z at *
          omega
    · rintro σ H' ⟨m, v, rfl, rfl, m0, m1⟩
      have fin : ∀ (x : Int) (σ' : L2.St), 0 ≤ x → σ' = [some (.ref a), some (.int st), some (.int m), v, some (.int x)] →
          (tRet (tDisp [(tC (.str "digits"), tVar 4), (tC (.str "mixed"), tVar 2)])) { nx := fun _ H' => Q .non H', rt := Q } σ' H' := by
        rintro x σ' hx rfl
        intro p hp
        refine ⟨_, rfl, _, rfl, upd_same, [((Sum.inr "digits" : Key), V.int x), ((Sum.inr "mixed" : Key), V.int m)], rfl, (by show 2 ≤ 15; decide), ?_⟩
        rw [upd_upd, dk_merge]
        exact k p _ hp (Same.new hp) ⟨x, m, upd_same, hx, m0, m1⟩
      refine ⟨_, rfl, _, rfl, a, _, rfl, .inl hS, _, _, rfl, rfl, _, rfl, ?_⟩
      refine ite2 (fun hlt => ?_) (fun hlt => ?_)
      · have hlt' : st < (ns.map V.int).length := of_decide_eq_true hlt
        rw [List.length_map] at hlt'
        obtain ⟨n, rfl⟩ : ∃ n : Nat, st = (n : Int) := ⟨st.toNat, by omega⟩
        have hn : n < ns.length := by omega
        have hat : (ns.map V.int)[n]? = some (V.int ns[n]) := by rw [List.getElem?_map, List.getElem?_eq_getElem hn]; rfl
        refine ⟨_, rfl, _, rfl, a, _, _, _, rfl, rfl, hS, atI_nat hat, _, _, rfl, rfl, ⟨by decide, by decide, by decide⟩, _, _, rfl, rfl, _, rfl, ?_⟩
        refine ite2 (fun hge => ?_) (fun hge => ?_)
        · have hge' := of_decide_eq_true hge
          refine ⟨_, rfl, _, rfl, a, _, _, _, rfl, rfl, hS, atI_nat hat, _, _, rfl, rfl, ⟨by decide, by decide, by decide⟩, _, _, rfl, rfl, ?_⟩
          exact fin _ _ (by omega) rfl
        · exact fin 0 _ (Int.le_refl _) rfl
      · refine iteF ?_
        exact fin 0 _ (Int.le_refl _) rfl
end
theorem But.seq {d a : Addr} {H H' : Hp} {K : PySem.W.Frag} {xs : List V} (D : DeckAt H d) (s : But d H H') (h : SqL K H a xs) : SqL K H' a xs := by
  obtain ⟨x, y, hd, _⟩ := D
  rcases h with (h | ⟨o, h⟩) | h
  · exact .inl (.inl (s _ _ (ne_of h hd (by intro z; cases z)) h))
  · exact .inl (.inr ⟨o, s _ _ (ne_of h hd (by intro z; cases z)) h⟩)
  · exact .inr h
theorem But.lst {d a : Addr} {H H' : Hp} {xs : List V} (D : DeckAt H d) (s : But d H H') (h : H a = some (.lst xs)) : H' a = some (.lst xs) := by
  obtain ⟨x, y, hd, _⟩ := D
  exact s _ _ (ne_of h hd (by intro z; cases z)) h
theorem But.tup {d a : Addr} {H H' : Hp} {xs : List V} (D : DeckAt H d) (s : But d H H') (h : H a = some (.tup xs)) : H' a = some (.tup xs) := by
  obtain ⟨x, y, hd, _⟩ := D
  exact s _ _ (ne_of h hd (by intro z; cases z)) h
/-- new behind is new ahead -/
theorem But.free {d p : Addr} {H H' : Hp} (D : DeckAt H' d) (s : But d H H') (h : H' p = none) : H p = none := by
  obtain ⟨x, y, hd, _⟩ := D
  cases q : H p with
  | none => rfl
  | some o =>
    have := s _ _ (fun e => by rw [e, hd] at h; cases h) q
    rw [h] at this
    cases this
theorem pow6 : (10 : Int) ^ (6 : Int).toNat = 1000000 := by decide
section
variable {P : Program} {w : World} {K : PySem.W.Frag} {mg : Str → Option Value} {base : Heap}
/-! ### a draw -/
def spDraw : Sp := fun vs H Q _ => ∃ (d : Addr) (n : Int), vs = [.ref d, .int n] ∧ DeckAt H d ∧ 0 < n ∧ n < 1073741824 ∧ ∀ (r : Int) (H' : Hp), 0 ≤ r → r < n → DeckAt H' d → But d H H' → Q (.int r) H'
theorem scDraw : FnScope ["deck", "size", "found"] ["deck", "size"] (defScope sDraw) := ⟨rfl, rfl, rfl, by decide +kernel, rfl, by decide +kernel, by decide +kernel⟩
theorem ok_draw {f : Addr} {fd : FuncData} (F : Fun K "_law_draw" "_law_draw" sDraw f fd) : FnOk P w K mg base CX0 1 f fd ["deck", "size"] spDraw := by
  refine F.ok scDraw (fun vs H Q E h => ?_) (fun cdv A outer s H vs Q E hr h => ?_)
  · obtain ⟨d, n, rfl, _⟩ := h
    rfl
  · obtain ⟨d, n, rfl, ⟨x, y, hd, x0, y0, y1⟩, n0, n1, k⟩ := h
    have hu := hu_of hr
    refine ⟨_, pss_cons (ps_if (pt_cmpR op_ge (pe_dget hu (pv 0) pe_str (fun _ _ => rfl)) (pv 1) (nomark _))
        (pss_cons (ps_set (i := 2) scDraw.nd rfl (Or.inl rfl) (pe_op op_mod (pe_dget hu (pv 0) pe_str (fun _ _ => rfl)) (pv 1)))
        (pss_cons (ps_dput hu (pv 0) pe_str (pe_op op_fdiv (pe_dget hu (pv 0) pe_str (fun _ _ => rfl)) (pv 1)) rfl)
        (pss_one (ps_ret (pv 2))))) pss_nil)
      (pss_cons (ps_dput hu (pv 0) pe_str (pe_op op_mod (pe_op op_add (pe_op op_mul (pe_dget hu (pv 0) pe_str (fun _ _ => rfl)) pe_int) pe_int) pe_int) rfl)
      (pss_one (ps_ret (pe_op op_mod (pe_op op_fdiv (pe_op op_mod (pe_op op_pow (pe_op op_mod (pe_op op_pow (pe_dget hu (pv 0) pe_str (fun _ _ => rfl)) pe_int) pe_int) pe_int) pe_int) pe_int) (pv 1))))), ?_⟩
    have gx : ∀ {H : Hp} {x y : Int}, H d = some (.dK (dk x y)) → DGet H d (.str "digits") (some (.int x)) := fun {H x y} e => by
      have := DGet.k (k := Sum.inr "digits") e
      rw [dk_digits] at this
      exact this
    have gy : ∀ {H : Hp} {x y : Int}, H d = some (.dK (dk x y)) → DGet H d (.str "mixed") (some (.int y)) := fun {H x y} e => by
      have := DGet.k (k := Sum.inr "mixed") e
      rw [dk_mixed] at this
      exact this
    have px : ∀ {H : Hp} {x y z : Int}, H d = some (.dK (dk x y)) → DPut H d (.str "digits") (.int z) (upd H d (.dK (dk z y))) := fun {H x y z} e => by
      have := DPut.k (k := Sum.inr "digits") (v := .int z) e (by show 2 < sizeLine; decide)
      rw [dk_put_digits] at this
      exact this
    have py : ∀ {H : Hp} {x y z : Int}, H d = some (.dK (dk x y)) → DPut H d (.str "mixed") (.int z) (upd H d (.dK (dk x z))) := fun {H x y z} e => by
      have := DPut.k (k := Sum.inr "mixed") (v := .int z) e (by show 2 < sizeLine; decide)
      rw [dk_put_mixed] at this
      exact this
    refine ⟨_, rfl, d, _, rfl, gx hd, _, rfl, _, _, rfl, rfl, _, rfl, ?_⟩
    refine ite2 (fun c => ?_) (fun c => ?_)
    · refine ⟨_, rfl, d, _, rfl, gx hd, _, rfl, _, _, rfl, rfl, n0, ?_⟩
      refine ⟨_, rfl, d, _, rfl, gx hd, _, rfl, _, _, rfl, rfl, ⟨n0, n1⟩, _, rfl, d, _, rfl, px hd, ?_⟩
      exact ⟨_, rfl, k _ _ (Int.emod_nonneg _ (by omega)) (Int.emod_lt_of_pos _ n0) ⟨_, y, upd_same, Int.ediv_nonneg x0 (by omega), y0, y1⟩ But.upd⟩
    · have m0 := Int.emod_nonneg (y * 39373 + 2027) (b := 2147483549) (by decide)
      have m1 := Int.emod_lt_of_pos (y * 39373 + 2027) (b := 2147483549) (by decide)
      refine ⟨_, rfl, d, _, rfl, gy hd, _, _, rfl, rfl, .inr ⟨by decide, by decide⟩, _, _, rfl, rfl, _, _, rfl, rfl, (by show (0 : Int) < 2147483549; decide), _, rfl, d, _, rfl, py hd, ?_⟩
      refine ⟨_, rfl, d, _, rfl, gy upd_same, _, _, rfl, rfl, ⟨by decide, by decide, by omega⟩, _, _, rfl, rfl, (by show (0 : Int) < 2147483423; decide), ?_⟩
      have q0 := Int.emod_nonneg (((y * 39373 + 2027) % 2147483549) ^ (2 : Int).toNat) (b := 2147483423) (by decide)
      have q1 := Int.emod_lt_of_pos (((y * 39373 + 2027) % 2147483549) ^ (2 : Int).toNat) (b := 2147483423) (by decide)
      refine ⟨_, _, rfl, rfl, ⟨by decide, by decide, by omega⟩, _, _, rfl, rfl, (by show (0 : Int) < 998244353; decide), _, _, rfl, rfl, ⟨by decide, by decide⟩, _, rfl, _, _, rfl, rfl, n0, ?_⟩
      exact k _ _ (Int.emod_nonneg _ (by omega)) (Int.emod_lt_of_pos _ n0) ⟨x, _, upd_same, x0, m0, by omega⟩ But.upd
/-! ### one of some things -/
def spChoose (K : PySem.W.Frag) : Sp := fun vs H Q _ => ∃ (d t : Addr) (xs : List V), vs = [.ref d, .ref t] ∧ DeckAt H d ∧ SqL K H t xs ∧ xs ≠ [] ∧ xs.length < 1000000 ∧ ∀ (v : V) (H' : Hp), v ∈ xs → DeckAt H' d → But d H H' → Q v H'
theorem scChoose : FnScope ["deck", "things"] ["deck", "things"] (defScope sChoose) := ⟨rfl, rfl, rfl, by decide +kernel, rfl, by decide +kernel, by decide +kernel⟩
theorem ok_choose {f fD : Addr} {fd fdD : FuncData} (F : Fun K "_law_choose" "_law_choose" sChoose f fd) (T : TxtD mg) (FD : Fun K "_law_draw" "_law_draw" sDraw fD fdD) (bD : Binds K fdD ["deck", "size"] []) (mD : mg "_law_draw" = some (.ref fD)) :
    FnOk P w K mg base CX0 2 f fd ["deck", "things"] (spChoose K) := by
  have GD : FnOk P w K mg base CX0 1 fD fdD ["deck", "size"] spDraw := ok_draw FD
  refine F.ok scChoose (fun vs H Q E h => ?_) (fun cdv A outer s H vs Q E hr h => ?_)
  · obtain ⟨d, t, xs, rfl, _⟩ := h
    rfl
  · obtain ⟨d, t, xs, rfl, D, hS, h0, h1, k⟩ := h
    refine ⟨_, pss_one (ps_ret (pe_ix ix_list (pv 1) (pe_call GD hr rfl mD FD.kp bD .nil pass0 (pa_cons (pv 0) (pa_cons (pe_callB call_len_seq (by rfl) T.len PySem.boot_len (pa_cons (pv 1) pa_nil)) pa_nil))) (fun _ _ => rfl))), ?_⟩
    have hl : 0 < xs.length := List.length_pos_iff.mpr h0
    refine ⟨_, rfl, _, rfl, _, rfl, t, _, rfl, .inl hS, d, _, rfl, D, by omega, by omega, fun r H' r0 r1 D' B => ?_⟩
    obtain ⟨n, rfl⟩ : ∃ n : Nat, r = (n : Int) := ⟨r.toNat, by omega⟩
    have hn : n < xs.length := by omega
    have hat : xs[n]? = some xs[n] := List.getElem?_eq_getElem hn
    exact ⟨t, _, _, _, rfl, rfl, B.seq D hS, atI_nat hat, k _ _ (List.getElem_mem hn) D' B⟩
end
/-! ### the walk through the ids meets a free one -/
theorem len_le_of_sub : ∀ (xs ys : List Int), xs.Nodup → (∀ x ∈ xs, x ∈ ys) → xs.length ≤ ys.length
  | [], _, _, _ => Nat.zero_le _
  | x :: r, ys, hn, hs => by
    have hx : x ∈ ys := hs x List.mem_cons_self
    have hn' := List.nodup_cons.mp hn
    have ih := len_le_of_sub r (ys.erase x) hn'.2 fun z hz => (List.mem_erase_of_ne (fun e => hn'.1 (by rw [← e]; exact hz))).mpr (hs z (List.mem_cons_of_mem _ hz))
    have hl := List.length_erase_of_mem hx
    have : 0 < ys.length := List.length_pos_of_mem hx
    show r.length + 1 ≤ ys.length
    omega
def nx (z : Int) (i : Nat) : Int := (z - 1 + (i : Int)) % 1000000 + 1
theorem nx_zero {z : Int} (h0 : 1 ≤ z) (h1 : z ≤ 1000000) : nx z 0 = z := by unfold nx; omega
theorem nx_succ {z : Int} {i : Nat} : nx z i % 1000000 + 1 = nx z (i + 1) := by unfold nx; omega
theorem nx_lo (z : Int) (i : Nat) : 1 ≤ nx z i := by unfold nx; omega
theorem nx_hi (z : Int) (i : Nat) : nx z i ≤ 1000000 := by unfold nx; omega
theorem nx_inj {z : Int} {i j : Nat} (hi : i < 1000) (hj : j < 1000) (h : nx z i = nx z j) : i = j := by unfold nx at h; omega
theorem nx_few {z : Int} {js : List Int} {t : Nat} (ht : t ≤ 500) (h : ∀ i, i < t → nx z i ∈ js) : t ≤ js.length := by
  have a : ((List.range t).map (nx z)).Nodup := by
    refine List.pairwise_map.mpr ?_
    refine List.Pairwise.imp_of_mem ?_ (List.pairwise_lt_range (n := t))
    intro i j hi hj l e
    have q := nx_inj (by have := List.mem_range.mp hi; omega) (by have := List.mem_range.mp hj; omega) e
    omega
  have b := len_le_of_sub _ js a (fun x hx => by
    obtain ⟨i, hi, rfl⟩ := List.mem_map.mp hx
    exact h i (List.mem_range.mp hi))
  rw [List.length_map, List.length_range] at b
  exact b
theorem eqV_int (i j : Int) : eqV (.int i) (.int j) = decide (i = j) := by
  first
    | rfl
    | simp [eqV]
theorem inV_int (z : Int) (js : List Int) : inV (.int z) (js.map V.int) = decide (z ∈ js) := by
  unfold inV
  rw [List.any_map]
  induction js with
  | nil => rfl
  | cons a r ih =>
    rw [List.any_cons, ih]
    show (eqV (.int a) (.int z) || decide (z ∈ r)) = decide (z ∈ a :: r)
    rw [eqV_int]
    by_cases e : a = z
    · subst e
      simp
    · have e' : ¬ z = a := fun q => e q.symm
      simp [e, e']
theorem all_flat (js : List Int) : (js.map V.int).all flatV = true := by
  induction js with
  | nil => rfl
  | cons a r ih => exact ih
section
variable {P : Program} {w : World} {K : PySem.W.Frag} {mg : Str → Option Value} {base : Heap}
/-- so many different ids -/
def IdsL (js : List Int) : Prop := js.Nodup ∧ ∀ z ∈ js, 1 ≤ z ∧ z ≤ 1000000
def spIds : Sp := fun vs H Q _ => ∃ (d : Addr) (n : Nat), vs = [.ref d, .int n] ∧ DeckAt H d ∧ n ≤ 300 ∧
  ∀ (l : Addr) (js : List Int) (H' : Hp), H l = none → But d H H' → DeckAt H' d → H' l = some (.lst (js.map V.int)) → js.length = n → IdsL js → Q (.ref l) H'
theorem scIds : FnScope ["deck", "many", "found", "number"] ["deck", "many"] (defScope sIds) := ⟨rfl, rfl, rfl, by decide +kernel, rfl, by decide +kernel, by decide +kernel⟩
theorem ok_ids {f fD fC : Addr} {fd fdD fdC : FuncData} (F : Fun K "_law_ids" "_law_ids" sIds f fd) (T : TxtD mg) (FD : Fun K "_law_draw" "_law_draw" sDraw fD fdD) (bD : Binds K fdD ["deck", "size"] []) (mD : mg "_law_draw" = some (.ref fD))
    (FC : Fun K "_law_choose" "_law_choose" sChoose fC fdC) (bC : Binds K fdC ["deck", "things"] []) (mC : mg "_law_choose" = some (.ref fC)) :
    FnOk P w K mg base CX0 3 f fd ["deck", "many"] spIds := by
  have GD : FnOk P w K mg base CX0 1 fD fdD ["deck", "size"] spDraw := ok_draw FD
  have GC : FnOk P w K mg base CX0 2 fC fdC ["deck", "things"] (spChoose K) := ok_choose FC T FD bD mD
  refine F.ok scIds (fun vs H Q E h => ?_) (fun cdv A outer s H vs Q E hr h => ?_)
  · obtain ⟨d, n, rfl, _⟩ := h
    rfl
  · obtain ⟨d, n, rfl, D, n1, k⟩ := h
    have hr1 : Room 1 _ := hr.mono (by decide)
    refine ⟨_, pss_cons (ps_set (i := 2) scIds.nd rfl (Or.inl rfl) (pe_lst pa_nil))
      (pss_cons (ps_while PassesOwn.never (pt_cmpR op_lt (pe_callB call_len_seq (by rfl) T.len PySem.boot_len (pa_cons (pv 2) pa_nil)) (pv 1) (nomark _))
        (pss_cons (ps_set (i := 3) scIds.nd rfl (Or.inl rfl) (pe_call GC hr rfl mC FC.kp bC .nil pass0 (pa_cons (pv 0) (pa_cons (pe_lst
            (pa_cons (pe_op op_add pe_int (pe_call GD hr1 rfl mD FD.kp bD .nil pass0 (pa_cons (pv 0) (pa_cons pe_int pa_nil))))
            (pa_cons (pe_op op_add pe_int (pe_call GD hr1 rfl mD FD.kp bD .nil pass0 (pa_cons (pv 0) (pa_cons (pe_op op_pow pe_int pe_int) pa_nil))))
            (pa_cons (pe_op op_sub (pe_op op_pow pe_int pe_int) (pe_callB call_len_seq (by rfl) T.len PySem.boot_len (pa_cons (pv 2) pa_nil))) pa_nil)))) pa_nil))))
        (pss_cons (ps_while PassesOwn.never (pt_cmpR op_in_seq (pv 3) (pv 2) (by rfl))
          (pss_one (ps_set (i := 3) scIds.nd rfl (Or.inl rfl) (pe_op op_add (pe_op op_mod (pv 3) (pe_op op_pow pe_int pe_int)) pe_int))))
        (pss_one (ps_expr (pe_bm PySem.F.plainAttrs_list PySem.F.slot_list_append PySem.F.type_list_append mt_append (pv 2) (pa_cons (pv 3) pa_nil)))))))
      (pss_one (ps_ret (pv 2)))), ?_⟩
    refine ⟨Nat.zero_le _, fun l hl => ?_⟩
    have nld : l ≠ d := fun e => by obtain ⟨_, _, hd, _⟩ := D; rw [e, hd] at hl; cases hl
    refine ⟨fun m σ H' => ∃ (js : List Int) (v : Option V), σ = [some (.ref d), some (.int n), some (.ref l), v] ∧ m = n - js.length ∧ js.length ≤ n ∧ IdsL js ∧ H' l = some (.lst (js.map V.int)) ∧ DeckAt H' d ∧ But d H H',
      ⟨_, [], none, rfl, rfl, Nat.zero_le _, ⟨List.nodup_nil, fun z h => by cases h⟩, upd_same, D.same (Same.new hl), But.new hl⟩, ?_⟩
    rintro m σ H1 ⟨js, v, rfl, rfl, hlen, hI, hL, D1, B1⟩
    refine ⟨_, rfl, l, _, rfl, .inl (SqL.of hL), _, rfl, _, _, rfl, rfl, _, rfl, ?_⟩
    refine ite2 (fun c => ?_) (fun c => ?_)
    · have c' : ((js.map V.int).length : Int) < n := of_decide_eq_true c
      rw [List.length_map] at c'
      have c2 : js.length < n := by omega
      refine ⟨fun σ' H' => ∃ m', m' < n - js.length ∧ ∃ (js : List Int) (v : Option V), σ' = [some (.ref d), some (.int n), some (.ref l), v] ∧ m' = n - js.length ∧ js.length ≤ n ∧ IdsL js ∧ H' l = some (.lst (js.map V.int)) ∧ DeckAt H' d ∧ But d H H', fun _ _ z => z, ?_⟩
      -- number = _law_choose(deck, [..])
      refine ⟨_, rfl, ?_⟩
      refine ⟨_, rfl, d, 30, rfl, D1, by decide, by decide, fun r1 H2 r10 r11 D2 B2 => ?_⟩
      refine ⟨_, _, rfl, rfl, _, rfl, _, _, rfl, rfl, ⟨by decide, by decide, by decide⟩, d, _, rfl, D2, (by rw [pow6]; decide), (by rw [pow6]; decide), fun r2 H3 r20 r21 D3 B3 => ?_⟩
      rw [pow6] at r21
      have hL3 : H3 l = some (.lst (js.map V.int)) := B3.lst D2 (B2.lst D1 hL)
      refine ⟨_, _, rfl, rfl, _, _, rfl, rfl, ⟨by decide, by decide, by decide⟩, _, rfl, l, _, rfl, .inl (SqL.of hL3), _, _, rfl, rfl, ?_⟩
      refine ⟨by show 3 ≤ sizeLine; decide, fun p hp => ?_⟩
      have D4 : ∀ o, DeckAt (upd H3 p o) d := fun o => D3.same (Same.new hp)
      refine ⟨d, p, _, rfl, D4 _, SqL.of upd_same, (by intro z; cases z), (by show 3 < 1000000; decide), fun v H4 hv D5 B5 => ?_⟩
      have hL4 : H4 l = some (.lst (js.map V.int)) := B5.lst (D4 _) (by rw [upd_ne (ne_of_none hL3 hp)]; exact hL3)
      obtain ⟨z, rfl, z0, z1⟩ : ∃ z : Int, v = .int z ∧ 1 ≤ z ∧ z ≤ 1000000 := by
        rw [pow6, List.length_map] at hv
        rcases List.mem_cons.mp hv with e | hv
        · exact ⟨_, e, by omega, by omega⟩
        rcases List.mem_cons.mp hv with e | hv
        · exact ⟨_, e, by omega, by omega⟩
        rcases List.mem_cons.mp hv with e | hv
        · exact ⟨_, e, by omega, by omega⟩
        · cases hv
      -- while number in found
      refine ⟨fun m σ' H' => ∃ t : Nat, σ' = [some (.ref d), some (.int n), some (.ref l), some (.int (nx z t))] ∧ m = 400 - t ∧ H' = H4 ∧ (∀ i, i < t → nx z i ∈ js) ∧ t ≤ 400,
        ⟨_, 0, by rw [nx_zero z0 z1]; rfl, rfl, rfl, (fun i h => by omega), by omega⟩, ?_⟩
      rintro m σ' H' ⟨t, rfl, rfl, rfl, ht, ht4⟩
      refine ⟨_, rfl, _, rfl, l, _, rfl, .inl (SqL.of hL4), rfl, all_flat js, _, rfl, ?_⟩
      rw [inV_int]
      refine ite2 (fun c => ?_) (fun c => ?_)
      · have hz : nx z t ∈ js := of_decide_eq_true c
        have few := nx_few (z := z) (js := js) (t := t + 1) (by omega) (fun i hi => by
          by_cases e : i = t
          · rw [e]; exact hz
          · exact ht i (by omega))
        refine ⟨fun σ'' H'' => ∃ m', m' < 400 - t ∧ ∃ t : Nat, σ'' = [some (.ref d), some (.int n), some (.ref l), some (.int (nx z t))] ∧ m' = 400 - t ∧ H'' = H' ∧ (∀ i, i < t → nx z i ∈ js) ∧ t ≤ 400, fun _ _ q => q, ?_⟩
        refine ⟨_, rfl, _, _, rfl, rfl, ⟨by decide, by decide, by decide⟩, _, _, rfl, rfl, (by show (0 : Int) < 10 ^ (6 : Int).toNat; rw [pow6]; decide), _, _, rfl, rfl, ?_⟩
        refine ⟨400 - (t + 1), by omega, t + 1, ?_, rfl, rfl, fun i hi => ?_, by omega⟩
        · rw [pow6]
          show [some (V.ref d), some (V.int n), some (V.ref l), some (V.int (nx z t % 1000000 + 1))] = _
          rw [nx_succ]
        · by_cases e : i = t
          · rw [e]; exact hz
          · exact ht i (by omega)
      · have hz : nx z t ∉ js := fun q => c (decide_eq_true q)
        refine ⟨_, rfl, .inl ⟨rfl, _, SqL.of hL4⟩, _, rfl, l, _, _, rfl, rfl, hL4, (by rw [List.length_map]; exact small1000 (by omega)), ?_⟩
        refine ⟨n - (js.length + 1), by omega, js ++ [nx z t], some (.int (nx z t)), rfl, by rw [List.length_append]; rfl, by rw [List.length_append]; exact c2, ⟨?_, ?_⟩, ?_, ?_, ?_⟩
        · refine List.nodup_append.mpr ⟨hI.1, by simp, ?_⟩
          intro a ha b hb e
          have : b = nx z t := by simpa using hb
          rw [e, this] at ha
          exact hz ha
        · intro y hy
          rcases List.mem_append.mp hy with h | h
          · exact hI.2 y h
          · have : y = nx z t := by simpa using h
            rw [this]
            exact ⟨nx_lo _ _, nx_hi _ _⟩
        · rw [upd_same, List.map_append]; rfl
        · obtain ⟨x, y, hd, r⟩ := D5
          exact ⟨x, y, by rw [upd_ne nld.symm]; exact hd, r⟩
        · intro b o hb e
          have nb : b ≠ l := ne_of_none e hl
          rw [upd_ne nb]
          have e4 := B3 b o hb (B2 b o hb (B1 b o hb e))
          exact B5 b o hb (by rw [upd_ne (ne_of_none e4 hp)]; exact e4)
    · have c' : ¬ ((js.map V.int).length : Int) < n := fun q => c (decide_eq_true q)
      rw [List.length_map] at c'
      exact ⟨_, rfl, k l js H1 hl B1 D1 hL (by omega) hI⟩
end
/-! ### sets of ints -/
/-- S is the set of the ints ns, n their number -/
def SetIs (ns : List Int) (S : Int → Bool) (n : Nat) : Prop := (∀ k, S k = decide (k ∈ ns)) ∧ ∃ L : List Int, L.Nodup ∧ L.length = n ∧ ∀ k, k ∈ L ↔ k ∈ ns
theorem shorter : ∀ ns : List Int, ¬ ns.Nodup → ∃ ms : List Int, ms.length < ns.length ∧ ∀ k ∈ ns, k ∈ ms
  | [], h => absurd List.nodup_nil h
  | a :: r, h => by
    by_cases ha : a ∈ r
    · exact ⟨r, Nat.lt_succ_self _, fun k hk => by
        rcases List.mem_cons.mp hk with e | e
        · rw [e]; exact ha
        · exact e⟩
    · have hr : ¬ r.Nodup := fun q => h (List.nodup_cons.mpr ⟨ha, q⟩)
      obtain ⟨ms, h1, h2⟩ := shorter r hr
      exact ⟨a :: ms, Nat.succ_lt_succ h1, fun k hk => by
        rcases List.mem_cons.mp hk with e | e
        · rw [e]; exact List.mem_cons_self
        · exact List.mem_cons_of_mem _ (h2 k e)⟩
theorem SetIs.count {ns : List Int} {S : Int → Bool} {n : Nat} (h : SetIs ns S n) : ((n : Int) = (ns.length : Int)) ↔ ns.Nodup := by
  obtain ⟨_, L, h1, h2, h3⟩ := h
  have a := len_le_of_sub L ns h1 fun k hk => (h3 k).mp hk
  constructor
  · intro e
    by_cases hN : ns.Nodup
    · exact hN
    · obtain ⟨ms, m1, m2⟩ := shorter ns hN
      have b := len_le_of_sub L ms h1 fun k hk => m2 k ((h3 k).mp hk)
      omega
  · intro hN
    have b := len_le_of_sub ns L hN fun k hk => (h3 k).mpr hk
    omega
theorem firstMet_nodup (val : Nat → Int) : ∀ i, (firstMet val i).Nodup
  | 0 => by rw [firstMet_zero]; exact List.nodup_nil
  | i + 1 => by
    rw [firstMet_succ]
    unfold step_dedup
    have ih := firstMet_nodup val i
    split
    · exact ih
    · rename_i h
      refine List.nodup_append.mpr ⟨ih, by simp, ?_⟩
      intro a ha b hb e
      have : b = val i := by simpa using hb
      refine h (List.any_eq_true.mpr ⟨a, ha, ?_⟩)
      rw [e, this]
      simp
theorem getD_range (ns : List Int) : (List.range ns.length).map (fun i => ns.getD i 0) = ns := by
  apply List.ext_getElem
  · simp
  · intro i h1 h2
    simp [List.getD, h2]
theorem firstMet_mem (ns : List Int) (k : Int) : k ∈ firstMet (fun i => ns.getD i 0) ns.length ↔ k ∈ ns := by
  have h := firstMet_any (fun i => ns.getD i 0) ns.length k
  rw [getD_range] at h
  have e : ∀ l : List Int, (l.any (· == k) = true) ↔ k ∈ l := fun l => by
    rw [List.any_eq_true]
    constructor
    · rintro ⟨x, hx, q⟩
      have : x = k := by simpa using q
      rw [← this]; exact hx
    · intro hk
      exact ⟨k, hk, by simp⟩
  rw [← e, ← e, h]
def rSetI (K : PySem.W.Frag) : List V → Hp → VK → Prop := fun xs H Q => ∃ (p : Addr) (ns : List Int), xs = [.ref p] ∧ (SqL K H p (ns.map V.int) ∨ SqT K H p (ns.map V.int)) ∧ ns.length ≤ 4000 ∧
  ∀ (q : Addr) (S : Int → Bool) (n : Nat), H q = none → SetIs ns S n → n ≤ ns.length → Q (.ref q) (upd H q (.set S n))
section
variable {X : Cx}
theorem cr_setI (hc : X.calm = true) : CallR X (.type "set") (rSetI X.K) := by
  intro pins s σ H xs us Q I r h
  obtain ⟨p, ns, rfl, hq, hlen, k⟩ := h
  rw [Vals.ref1 r]
  have hs : scanBound = 4096 := rfl
  rcases hq with hq | hq
  · obtain ⟨its, rv, pl, hz⟩ := I.list hq
    have hl := rv.length
    rw [List.length_map] at hl
    refine call_set_list (I.ok.hd hc) pl.isList (ns := ns) (Vals.ints rv) (by rw [List.size_toArray, hs]; omega) fun h' tk R kk => ?_
    have esz : its.toArray.size = ns.length := by rw [List.size_toArray]; omega
    rw [esz] at R
    have hn := firstMet_mem ns
    have hset : SetIs ns (fun k' => (firstMet (fun i => ns.getD i 0) ns.length).any (· == k')) (firstMet (fun i => ns.getD i 0) ns.length).length := by
      refine ⟨fun k => ?_, _, firstMet_nodup _ _, rfl, hn⟩
      rw [Bool.eq_iff_iff, decide_eq_true_iff, ← hn k, List.any_eq_true]
      constructor
      · rintro ⟨x, hx, q⟩
        have : x = k := by simpa using q
        rw [← this]; exact hx
      · intro hk
        exact ⟨k, hk, by simp⟩
    have I' := I.laid (a := s.heap.objs.size) (o := .set _ _) (h' := h') (t' := tk) (fun b u e => kk b u (Heap.lt_size e) e) (Nat.le_refl _) R
    exact ⟨.ref _, _, I', rfl, k _ _ _ (I.hok.fresh (Nat.le_refl _)) hset (firstMet_length_le _ _)⟩
  · obtain ⟨its, rv, pl, hz⟩ := I.tuple hq
    have hl := rv.length
    rw [List.length_map] at hl
    refine call_set_tupI ns (I.ok.hd hc) pl (Vals.ints rv) (by rw [hs]; omega) fun h' tk c R hle kk => ?_
    have hset : SetIs ns (fun j => decide (j ∈ ns)) c := by
      obtain ⟨o, es, ep, t, h1, h2, h3, h4, h5, h6, h7, h8, h9, _⟩ := id R
      refine ⟨fun k => rfl, es.toList.map keyOf, h5, ?_, fun k => ?_⟩
      · rw [List.length_map, ← h9]; rfl
      · rw [← h6 k, decide_eq_true_iff]
    have I' := I.laid (a := s.heap.objs.size) (o := .set _ _) (h' := h') (t' := tk) (fun b u e => kk b u e) (Nat.le_refl _) (SetR.setOf R)
    exact ⟨.ref _, _, I', rfl, k _ _ _ (I.hok.fresh (Nat.le_refl _)) hset hle⟩
def rInSet (neg : Bool) : R2 := fun x y H Q => ∃ (k : Int) (a : Addr) (S : Int → Bool) (n : Nat), x = .int k ∧ y = .ref a ∧ H a = some (.set S n) ∧ Q (.bl (if neg then !S k else S k)) H
theorem op_inSet : OpR X (compareOp .In) (rInSet false) := by
  intro pins s σ H x y v u Q I rx ry h
  obtain ⟨k, a, S, n, rfl, rfl, ha, q⟩ := h
  cases ry
  obtain ⟨t, rfl⟩ := rx
  exact wpAny_inSet_of (knd := intKind X.prog X.w) (k := k) (by first | rfl | simp [intKind, Value.isInt]) rfl (I.hok a _ ha) ⟨.bl (S k), H, I.tok _, rfl, q⟩
theorem op_notInSet : OpR X (compareOp .NotIn) (rInSet true) := by
  intro pins s σ H x y v u Q I rx ry h
  obtain ⟨k, a, S, n, rfl, rfl, ha, q⟩ := h
  cases ry
  obtain ⟨t, rfl⟩ := rx
  exact wpAny_notInSet_of (knd := intKind X.prog X.w) (k := k) (by first | rfl | simp [intKind, Value.isInt]) rfl (I.hok a _ ha) ⟨.bl (!S k), H, I.tok _, rfl, q⟩
theorem call_lenSet : CallR X (.builtin "len") (fun xs H Q => ∃ a S n, xs = [.ref a] ∧ H a = some (.set S n) ∧ Q (.int n) H) := by
  intro pins s σ H xs us Q I r h
  obtain ⟨a, S, n, rfl, ha, q⟩ := h
  rw [Vals.ref1 r]
  obtain ⟨o, es, ep, t, h1, h2, h3, h4, h5, h6, h7, h8⟩ := I.hok a _ ha
  have hs : scanBound = 4096 := rfl
  refine call_len_set h1 h2 h3 h7 (by omega) ?_
  rw [h8]
  exact ⟨.int n, H, (I.tok (s.toks + 1 + 1)), ⟨_, rfl⟩, q⟩
end
/-! ### data in the heap: flat things, lists, tuples, the empty dict -/
mutual
inductive DV (K : PySem.W.Frag) (H : Hp) : V → PyData → Prop
  | non : DV K H .non .none
  | bl (b : Bool) : DV K H (.bl b) (.bool b)
  | int (i : Int) : DV K H (.int i) (.int i)
  | str (x : Str) : DV K H (.str x) (.str x)
  | lst {a : Addr} {xs : List V} {ds : List PyData} : SqL K H a xs → DVs K H xs ds → DV K H (.ref a) (.list ds)
  | tup {a : Addr} {xs : List V} {ds : List PyData} : SqT K H a xs → DVs K H xs ds → DV K H (.ref a) (.tuple ds)
  | dk0 {a : Addr} : H a = some (.dK []) → DV K H (.ref a) (.dict [])
inductive DVs (K : PySem.W.Frag) (H : Hp) : List V → List PyData → Prop
  | nil : DVs K H [] []
  | cons {v : V} {vs : List V} {d : PyData} {ds : List PyData} : DV K H v d → DVs K H vs ds → DVs K H (v :: vs) (d :: ds)
end
section
variable {K : PySem.W.Frag} {H H' : Hp}
theorem DVs.length {vs : List V} {ds : List PyData} (h : DVs K H vs ds) : vs.length = ds.length := by
  induction vs generalizing ds with
  | nil => cases h; rfl
  | cons v r ih => cases h with | cons _ t => exact congrArg Nat.succ (ih t)
theorem DVs.at {vs : List V} {ds : List PyData} (h : DVs K H vs ds) : ∀ {i : Nat} {v : V}, vs[i]? = some v → ∃ d, ds[i]? = some d ∧ DV K H v d := by
  induction vs generalizing ds with
  | nil => intro i v e; simp at e
  | cons v r ih =>
    cases h with
    | cons p t =>
      intro i u e
      cases i with
      | zero => simp at e; subst e; exact ⟨_, rfl, p⟩
      | succ i => simp at e; obtain ⟨d, h1, h2⟩ := ih t e; exact ⟨d, by simpa using h1, h2⟩
theorem Same.sq {a : Addr} {xs : List V} (e : Same H H') (h : SqL K H a xs) : SqL K H' a xs := e.seq h
theorem Same.tq {a : Addr} {xs : List V} (e : Same H H') (h : SqT K H a xs) : SqT K H' a xs := by
  rcases h with (h | ⟨o, h⟩) | h
  · exact .inl (.inl (e _ _ h))
  · exact .inl (.inr ⟨o, e _ _ h⟩)
  · exact .inr h
mutual
theorem DV.same (e : Same H H') : ∀ {d : PyData} {v : V}, DV K H v d → DV K H' v d
  | _, _, .non => .non
  | _, _, .bl b => .bl b
  | _, _, .int i => .int i
  | _, _, .str x => .str x
  | _, _, .lst h t => .lst (Same.sq e h) (DVs.same e t)
  | _, _, .tup h t => .tup (Same.tq e h) (DVs.same e t)
  | _, _, .dk0 h => .dk0 (e _ _ h)
theorem DVs.same (e : Same H H') : ∀ {ds : List PyData} {vs : List V}, DVs K H vs ds → DVs K H' vs ds
  | _, _, .nil => .nil
  | _, _, .cons p t => .cons (DV.same e p) (DVs.same e t)
end
/-- a value's built-in type by its name -/
def TyD (K : PySem.W.Frag) (H : Hp) (x : V) : Prop := ∃ nm : String, TyX K H x (.type nm) ∧ ((nm = "NoneType" ∧ x = .non) ∨ (nm = "bool" ∧ ∃ b, x = .bl b) ∨ (nm = "int" ∧ ∃ i, x = .int i) ∨ (nm = "str" ∧ ∃ z, x = .str z) ∨
  (nm = "list" ∧ ∃ a, x = .ref a) ∨ (nm = "tuple" ∧ ∃ a, x = .ref a) ∨ (nm = "dict" ∧ ∃ a, x = .ref a))
theorem tyL {a : Addr} {xs : List V} (h : SqL K H a xs) : TyX K H (.ref a) (.type "list") := by
  rcases h with (h | ⟨o, h⟩) | ⟨o, _, _, h, c, _⟩
  · exact .base (.lst h)
  · exact .base (.frz h)
  · exact .kList h c
theorem tyT {a : Addr} {xs : List V} (h : SqT K H a xs) : TyX K H (.ref a) (.type "tuple") := by
  rcases h with (h | ⟨o, h⟩) | ⟨o, _, _, h, c, _⟩
  · exact .base (.tup h)
  · exact .fTuple h
  · exact .kTuple h c
theorem DV.ty {v : V} {d : PyData} (h : DV K H v d) : TyD K H v := by
  cases h with
  | non => exact ⟨_, .base .non, .inl ⟨rfl, rfl⟩⟩
  | bl b => exact ⟨_, .base (.bl b), .inr (.inl ⟨rfl, b, rfl⟩)⟩
  | int i => exact ⟨_, .base (.int i), .inr (.inr (.inl ⟨rfl, i, rfl⟩))⟩
  | str x => exact ⟨_, .base (.str x), .inr (.inr (.inr (.inl ⟨rfl, x, rfl⟩)))⟩
  | lst h t => exact ⟨_, tyL h, .inr (.inr (.inr (.inr (.inl ⟨rfl, _, rfl⟩))))⟩
  | tup h t => exact ⟨_, tyT h, .inr (.inr (.inr (.inr (.inr (.inl ⟨rfl, _, rfl⟩)))))⟩
  | dk0 h => exact ⟨_, .base (.dK h), .inr (.inr (.inr (.inr (.inr (.inr ⟨rfl, _, rfl⟩)))))⟩
end
def wholeV : V → Bool
  | .int _ => true
  | _ => false
def wholeD : PyData → Bool
  | .int _ => true
  | _ => false
theorem DV.whole {K : PySem.W.Frag} {H : Hp} {v : V} {d : PyData} (h : DV K H v d) : wholeV v = wholeD d := by cases h <;> rfl
structure TxtV (mg : Str → Option Value) : Prop where
  len : mg "len" = none
  isi : mg "isinstance" = none
  int : mg "int" = none
  bool : mg "bool" = none
  tuple : mg "tuple" = none
  set : mg "set" = none
  all : mg "all" = none
  list : mg "list" = none
section
variable {P : Program} {w : World} {K : PySem.W.Frag} {mg : Str → Option Value} {base : Heap}
/-! ### is_whole -/
def spWhole (K : PySem.W.Frag) : Sp := fun vs H Q _ => ∃ x : V, vs = [x] ∧ TyD K H x ∧ Q (.bl (wholeV x)) H
theorem scWhole : FnScope ["value"] ["value"] (defScope sWhole) := ⟨rfl, rfl, rfl, by decide +kernel, rfl, by decide +kernel, by decide +kernel⟩
theorem ok_whole {f : Addr} {fd : FuncData} (F : Fun K "is_whole" "is_whole" sWhole f fd) (T : TxtV mg) : FnOk P w K mg base CX0 1 f fd ["value"] (spWhole K) := by
  refine F.ok scWhole (fun vs H Q E h => ?_) (fun cdv A outer s H vs Q E hr h => ?_)
  · obtain ⟨x, rfl, _⟩ := h
    rfl
  · obtain ⟨x, rfl, ⟨nm, ty, hn⟩, k⟩ := h
    refine ⟨_, pss_one (ps_ret (pe_and (pe_callB call_isi (by rfl) T.isi (by decide +kernel) (pa_cons (pv 0) (pa_cons (pe_bltn (v := .ty "int") (by rfl) T.int boot_int rfl) pa_nil)))
      (pe_one (pe_not (pe_callB call_isi (by rfl) T.isi (by decide +kernel) (pa_cons (pv 0) (pa_cons (pe_bltn (v := .ty "bool") (by rfl) T.bool boot_bool rfl) pa_nil))))))), ?_⟩
    refine ⟨_, rfl, ?_⟩
    rcases hn with ⟨rfl, rfl⟩ | ⟨rfl, b, rfl⟩ | ⟨rfl, i, rfl⟩ | ⟨rfl, z, rfl⟩ | ⟨rfl, a, rfl⟩ | ⟨rfl, a, rfl⟩ | ⟨rfl, a, rfl⟩
    · exact ⟨_, _, _, _, false, rfl, .ty _, ty, kit_ty (by decide +kernel), _, rfl, iteF k⟩
    · exact ⟨_, _, _, _, true, rfl, .ty _, ty, kit_ty (by decide +kernel), _, rfl, iteT ⟨_, rfl, _, _, _, _, true, rfl, .ty _, ty, kit_ty (by decide +kernel), _, rfl, k⟩⟩
    · exact ⟨_, _, _, _, true, rfl, .ty _, ty, kit_ty (by decide +kernel), _, rfl, iteT ⟨_, rfl, _, _, _, _, false, rfl, .ty _, ty, kit_ty (by decide +kernel), _, rfl, k⟩⟩
    · exact ⟨_, _, _, _, false, rfl, .ty _, ty, kit_ty (by decide +kernel), _, rfl, iteF k⟩
    · exact ⟨_, _, _, _, false, rfl, .ty _, ty, kit_ty (by decide +kernel), _, rfl, iteF k⟩
    · exact ⟨_, _, _, _, false, rfl, .ty _, ty, kit_ty (by decide +kernel), _, rfl, iteF k⟩
    · exact ⟨_, _, _, _, false, rfl, .ty _, ty, kit_ty (by decide +kernel), _, rfl, iteF k⟩
/-! ### all_different -/
def spDiff (K : PySem.W.Frag) : Sp := fun vs H Q _ => ∃ (p : Addr) (ns : List Int), vs = [.ref p] ∧ (SqL K H p (ns.map V.int) ∨ SqT K H p (ns.map V.int)) ∧ ns.length ≤ 4000 ∧ ∀ H', Same H H' → Q (.bl (decide ns.Nodup)) H'
theorem scDiff : FnScope ["numbers"] ["numbers"] (defScope sDiff) := ⟨rfl, rfl, rfl, by decide +kernel, rfl, by decide +kernel, by decide +kernel⟩
theorem ok_diff {f : Addr} {fd : FuncData} (F : Fun K "all_different" "all_different" sDiff f fd) (T : TxtV mg) : FnOk P w K mg base CX0 1 f fd ["numbers"] (spDiff K) := by
  refine F.ok scDiff (fun vs H Q E h => ?_) (fun cdv A outer s H vs Q E hr h => ?_)
  · obtain ⟨p, ns, rfl, _⟩ := h
    rfl
  · obtain ⟨p, ns, rfl, hS, hlen, k⟩ := h
    refine ⟨_, pss_one (ps_ret (pe_cmpR op_eq (pe_callB call_lenSet (by rfl) T.len PySem.boot_len (pa_cons (pe_callTy (cr_setI rfl) (by rfl) T.set (by decide +kernel) (pa_cons (pv 0) pa_nil)) pa_nil))
      (pe_callB call_len_seq (by rfl) T.len PySem.boot_len (pa_cons (pv 0) pa_nil)) (nomark _))), ?_⟩
    refine ⟨_, rfl, p, ns, rfl, hS, hlen, fun q S n hq hI hn => ?_⟩
    have e : Same H (upd H q (.set S n)) := Same.new hq
    refine ⟨q, S, n, rfl, upd_same, _, rfl, p, _, rfl, hS.imp (Same.sq e) (Same.tq e), rfl, ?_⟩
    have c := hI.count
    have r : decide (V.int (n : Int) = V.int ((ns.map V.int).length : Int)) = decide ns.Nodup := by
      rw [dec_int, List.length_map]
      by_cases hN : ns.Nodup
      · rw [decide_eq_true hN, c.mpr hN]; simp
      · rw [decide_eq_false hN]
        have : ¬ ((n : Int) = (ns.length : Int)) := fun q => hN (c.mp q)
        simpa using this
    show Q (V.bl (decide (V.int (n : Int) = V.int ((ns.map V.int).length : Int)))) _
    rw [r]
    exact k _ e
end
def isTup : PyData → Bool
  | .tuple _ => true
  | _ => false
def isLst : PyData → Bool
  | .list _ => true
  | _ => false
theorem kb1 : kitB "NoneType" "tuple" = some false := by decide +kernel
theorem kb2 : kitB "NoneType" "list" = some false := by decide +kernel
theorem kb3 : kitB "bool" "tuple" = some false := by decide +kernel
theorem kb4 : kitB "bool" "list" = some false := by decide +kernel
theorem kb5 : kitB "int" "tuple" = some false := by decide +kernel
theorem kb6 : kitB "int" "list" = some false := by decide +kernel
theorem kb7 : kitB "str" "tuple" = some false := by decide +kernel
theorem kb8 : kitB "str" "list" = some false := by decide +kernel
theorem kb9 : kitB "list" "tuple" = some false := by decide +kernel
theorem kb10 : kitB "list" "list" = some true := by decide +kernel
theorem kb11 : kitB "tuple" "tuple" = some true := by decide +kernel
theorem kb12 : kitB "tuple" "list" = some false := by decide +kernel
theorem kb13 : kitB "dict" "tuple" = some false := by decide +kernel
theorem kb14 : kitB "dict" "list" = some false := by decide +kernel
theorem DV.kit {K : PySem.W.Frag} {H : Hp} {v : V} {d : PyData} (h : DV K H v d) : ∃ nm : String, TyX K H v (.type nm) ∧ PySem.W.kitOne K (.type nm) (.type "tuple") = some (isTup d) ∧ PySem.W.kitOne K (.type nm) (.type "list") = some (isLst d) := by
  cases h with
  | non => exact ⟨_, .base .non, kit_ty kb1, kit_ty kb2⟩
  | bl b => exact ⟨_, .base (.bl b), kit_ty kb3, kit_ty kb4⟩
  | int i => exact ⟨_, .base (.int i), kit_ty kb5, kit_ty kb6⟩
  | str x => exact ⟨_, .base (.str x), kit_ty kb7, kit_ty kb8⟩
  | lst h t => exact ⟨_, tyL h, kit_ty kb9, kit_ty kb10⟩
  | tup h t => exact ⟨_, tyT h, kit_ty kb11, kit_ty kb12⟩
  | dk0 h => exact ⟨_, .base (.dK h), kit_ty kb13, kit_ty kb14⟩
/-! ### the plain functions -/
def intOf : PyData → Int
  | .int i => i
  | _ => 0
def areIdsL (js : List Int) (ds : List PyData) : Bool := !ds.isEmpty && ds.all wholeD && (ds.map intOf).all (fun k => decide (k ∈ js)) && decide (ds.map intOf).Nodup
def areIds (js : List Int) : PyData → Bool
  | .tuple ds => areIdsL js ds
  | _ => false
theorem whole_all {K : PySem.W.Frag} {H : Hp} : ∀ {ds : List PyData} {vs : List V}, DVs K H vs ds → ds.all wholeD = true → vs = (ds.map intOf).map V.int
  | _, _, .nil, _ => rfl
  | d :: ds, v :: vs, .cons p t, h => by
    rw [List.all_cons, Bool.and_eq_true] at h
    rw [List.map_cons, List.map_cons, ← whole_all t h.2]
    cases p <;> first | rfl | (exact absurd h.1 (by intro q; cases q))
theorem DVs.wholes {K : PySem.W.Frag} {H : Hp} {ds : List PyData} {vs : List V} (h : DVs K H vs ds) {i : Nat} {v : V} (e : vs[i]? = some v) : ∃ d, ds[i]? = some d ∧ wholeV v = wholeD d ∧ TyD K H v := by
  obtain ⟨d, h1, h2⟩ := h.at e
  exact ⟨d, h1, h2.whole, h2.ty⟩
theorem take_snoc {α : Type} {l : List α} {i : Nat} {x : α} (h : l[i]? = some x) : l.take (i + 1) = l.take i ++ [x] := by
  rw [List.take_succ, h]; rfl
theorem lt_of_some {α : Type} {l : List α} {i : Nat} {x : α} (h : l[i]? = some x) : i < l.length := (List.getElem?_eq_some_iff.mp h).1
section
variable {P : Program} {w : World} {K : PySem.W.Frag} {mg : Str → Option Value} {base : Heap}
def spAreIds (K : PySem.W.Frag) : Sp := fun vs H Q _ => ∃ (o : Addr) (js : List Int) (v : V) (d : PyData), vs = [.ref o, v] ∧ SqL K H o (js.map V.int) ∧ js.length ≤ 4000 ∧ DV K H v d ∧ (∀ ds, d = .tuple ds → ds.length ≤ 4000) ∧
  ∀ H', Same H H' → Q (.bl (areIds js d)) H'
theorem scAreIds : FnScope ["order", "value", "known", "row_id"] ["order", "value"] (defScope sAreIds) := ⟨rfl, rfl, rfl, by decide +kernel, rfl, by decide +kernel, by decide +kernel⟩
theorem ok_areIds {f fW fD : Addr} {fd fdW fdD : FuncData} (F : Fun K "are_ids_of" "are_ids_of" sAreIds f fd) (T : TxtV mg) (FW : Fun K "is_whole" "is_whole" sWhole fW fdW) (bW : Binds K fdW ["value"] []) (mW : mg "is_whole" = some (.ref fW))
    (FD : Fun K "all_different" "all_different" sDiff fD fdD) (bD : Binds K fdD ["numbers"] []) (mD : mg "all_different" = some (.ref fD)) : FnOk P w K mg base CX0 2 f fd ["order", "value"] (spAreIds K) := by
  have GW : FnOk P w K mg base CX0 1 fW fdW ["value"] (spWhole K) := ok_whole FW T
  have GD : FnOk P w K mg base CX0 1 fD fdD ["numbers"] (spDiff K) := ok_diff FD T
  refine F.ok scAreIds (fun vs H Q E h => ?_) (fun cdv A outer s H vs Q E hr h => ?_)
  · obtain ⟨o, js, v, d, rfl, _⟩ := h
    rfl
  · obtain ⟨o, js, v, d, rfl, hO, hj, hd, hdl, k⟩ := h
    refine ⟨_, pss_cons (ps_if (PW.pt (pw_or (pt_not (pt_val (pe_callB call_isi (by rfl) T.isi (by decide +kernel) (pa_cons (pv 1) (pa_cons (pe_bltn (v := .ty "tuple") (by rfl) T.tuple boot_tuple rfl) pa_nil)))))
          (pw_or1 (pt_cmpR op_eq (pe_callB call_len_seq (by rfl) T.len PySem.boot_len (pa_cons (pv 1) pa_nil)) pe_int (nomark _))))) (pss_one (ps_ret pe_bl)) pss_nil)
      (pss_cons (ps_if (pt_not (pt_val (pe_callB (cr_all rfl) (by rfl) T.all (by decide +kernel) (pa_cons
          (pe_lc (own := [("row_id", 3)]) (g := gName 3) rfl scAreIds.nd (pi_tup (pv 1)) (blkOk_by (N := ["order", "value", "known", "row_id"]) (sc := defScope sAreIds) (by decide +kernel)) (fun _ _ _ _ _ => pg_name (i := 3) scAreIds.nd rfl (Or.inl rfl)) (fun _ _ _ _ _ => pts_nil)
            (fun _ _ _ _ _ => pe_call GW hr rfl mW FW.kp bW .nil pass0 (pa_cons (pv 3) pa_nil))) pa_nil)))) (pss_one (ps_ret pe_bl)) pss_nil)
      (pss_cons (ps_set (i := 2) scAreIds.nd rfl (Or.inr rfl) (pe_callTy (cr_setI rfl) (by rfl) T.set (by decide +kernel) (pa_cons (pv 0) pa_nil)))
      (pss_one (ps_ret (pe_and (pe_callB (cr_all rfl) (by rfl) T.all (by decide +kernel) (pa_cons
          (pe_lc (own := [("row_id", 3)]) (g := gName 3) rfl scAreIds.nd (pi_tup (pv 1)) (blkOk_by (N := ["order", "value", "known", "row_id"]) (sc := defScope sAreIds) (by decide +kernel)) (fun _ _ _ _ _ => pg_name (i := 3) scAreIds.nd rfl (Or.inl rfl)) (fun _ _ _ _ _ => pts_nil)
            (fun _ _ _ _ _ => pe_cmpR op_inSet (pv 3) (pv 2) (by rfl))) pa_nil)) (pe_one (pe_call GD hr rfl mD FD.kp bD .nil pass0 (pa_cons (pv 1) pa_nil)))))))), ?_⟩
    obtain ⟨nm, ty, k1, k2⟩ := hd.kit
    refine ⟨_, rfl, _, _, _, _, _, rfl, .ty _, ty, k1, _, rfl, ?_⟩
    cases hd with
    | tup hT hs =>
      rename_i a vs ds
      refine iteF ?_
      refine ⟨_, rfl, a, _, rfl, .inr hT, rfl, _, rfl, ?_⟩
      have hl := hs.length
      have hdl' := hdl ds rfl
      by_cases h0 : ds = []
      · subst h0
        have : vs = [] := List.length_eq_zero_iff.mp hl
        subst this
        exact iteT (k H (Same.refl H))
      have hz : decide (V.int ((vs.length : Nat) : Int) = V.int 0) = false := by
        rw [dec_int]
        have : 0 < ds.length := List.length_pos_iff.mpr h0
        have : ¬ (((vs.length : Nat) : Int) = 0) := by omega
        simpa using this
      rw [hz]
      refine iteF ?_
      -- all([is_whole(row_id) for row_id in value])
      refine ⟨_, rfl, a, rfl, ⟨_, hT⟩, fun D hD => ?_⟩
      refine lc_tup (K := K) (a := a) (xs := vs) (fun i H' => Same H H' ∧ H' D = some (.lst ((ds.take i).map fun d => V.bl (wholeD d)))) ⟨Same.new hD, upd_same⟩ (fun i H' _ q => Same.tq q.1 hT) ?_ ?_
      · rintro i x H' hx ⟨s1, hL⟩
        obtain ⟨d, hd, hw, hty⟩ := hs.wholes hx
        refine ⟨rfl, ?_⟩
        obtain ⟨e, he, hv⟩ := hs.at hx
        refine ⟨_, rfl, x, rfl, (hv.same s1).ty, ?_⟩
        refine ⟨_, hL, ?_, ?_, ?_⟩
        · rw [List.length_map, List.length_take]
          exact Nat.lt_of_le_of_lt (by omega : _ ≤ 4000) (by decide)
        · intro b u hb
          rw [upd_ne (ne_of_none hb hD)]
          exact s1 b u hb
        · rw [upd_same, take_snoc hd, List.map_append]
          show some (HO.lst (_ ++ [V.bl (wholeV x)])) = some (HO.lst (_ ++ [V.bl (wholeD d)]))
          rw [hw]
      · rintro H1 ⟨s1, hL⟩
        rw [hl, List.take_length] at hL
        refine ⟨D, ds.map wholeD, rfl, SqL.of (by rw [List.map_map]; exact hL), _, rfl, ?_⟩
        have eall : (ds.map wholeD).all id = ds.all wholeD := by rw [List.all_map]; rfl
        rw [eall]
        cases hA : ds.all wholeD with
        | false =>
          refine iteT ?_
          have e : areIds js (.tuple ds) = false := by
            show areIdsL js ds = false
            unfold areIdsL
            rw [hA]
            simp
          have := k H1 s1
          rw [e] at this
          exact this
        | true =>
          refine iteF ?_
          have ev := whole_all hs hA
          have lenN : (ds.map intOf).length ≤ 4000 := by rw [List.length_map]; exact hdl'
          -- known = set(order)
          refine ⟨_, rfl, o, js, rfl, .inl (Same.sq s1 hO), hj, fun q S n hq hS hn => ?_⟩
          have s2 : Same H (upd H1 q (.set S n)) := s1.trans (Same.new hq)
          refine ⟨_, rfl, a, rfl, ⟨_, Same.tq s2 hT⟩, fun D2 hD2 => ?_⟩
          refine lc_tup (K := K) (a := a) (xs := vs) (fun i H' => Same (upd H1 q (.set S n)) H' ∧ H' D2 = some (.lst (((ds.map intOf).take i).map fun z => V.bl (decide (z ∈ js))))) ⟨Same.new hD2, upd_same⟩ (fun i H' _ q => Same.tq (s2.trans q.1) hT) ?_ ?_
          · rintro i x H' hx ⟨s3, hL3⟩
            rw [ev, List.getElem?_map] at hx
            obtain ⟨z, hz2, rfl⟩ : ∃ z, (ds.map intOf)[i]? = some z ∧ x = V.int z := by
              cases hq2 : (ds.map intOf)[i]? with
              | none => rw [hq2] at hx; cases hx
              | some z => rw [hq2] at hx; exact ⟨z, rfl, (Option.some.inj hx).symm⟩
            refine ⟨rfl, ?_⟩
            refine ⟨_, rfl, _, rfl, z, q, S, n, rfl, rfl, s3 _ _ upd_same, ?_⟩
            refine ⟨_, hL3, ?_, ?_, ?_⟩
            · rw [List.length_map, List.length_take]
              exact Nat.lt_of_le_of_lt (by omega : _ ≤ 4000) (by decide)
            · intro b u hb
              rw [upd_ne (ne_of_none hb hD2)]
              exact s3 b u hb
            · rw [upd_same, take_snoc hz2, List.map_append]
              show some (HO.lst (_ ++ [V.bl (S z)])) = some (HO.lst (_ ++ [V.bl (decide (z ∈ js))]))
              rw [hS.1 z]
          · rintro H3 ⟨s3, hL3⟩
            have hv2 : vs.length = (ds.map intOf).length := by rw [List.length_map]; exact hl
            rw [hv2, List.take_length] at hL3
            have s4 : Same H H3 := s2.trans s3
            refine ⟨D2, (ds.map intOf).map fun z => decide (z ∈ js), rfl, SqL.of (by rw [List.map_map]; exact hL3), _, rfl, ?_⟩
            have eall2 : ((ds.map intOf).map fun z => decide (z ∈ js)).all id = (ds.map intOf).all fun z => decide (z ∈ js) := by rw [List.all_map]; rfl
            rw [eall2]
            have e0 : ds.isEmpty = false := by cases ds with | nil => exact absurd rfl h0 | cons _ _ => rfl
            have e : areIds js (.tuple ds) = ((ds.map intOf).all (fun z => decide (z ∈ js)) && decide (ds.map intOf).Nodup) := by
              show areIdsL js ds = _
              unfold areIdsL
              rw [hA, e0]
              simp
            cases hB : (ds.map intOf).all fun z => decide (z ∈ js) with
            | false =>
              refine iteF ?_
              have := k H3 s4
              rw [e, hB] at this
              exact this
            | true =>
              refine iteT ?_
              refine ⟨_, rfl, a, ds.map intOf, rfl, .inr (by rw [← ev]; exact Same.tq s4 hT), lenN, fun H5 s5 => ?_⟩
              have := k H5 (s4.trans s5)
              rw [e, hB] at this
              exact this
    | _ => exact iteT (k H (Same.refl H))
end
/-! ### moves, plainly -/
def idsOf : PyData → List Int
  | .tuple ds => ds.map intOf
  | _ => []
def isMove2 (js : List Int) (i b : PyData) : Bool := areIds js i && wholeD b && (decide (intOf b = 0) || (decide (intOf b ∈ js) && !decide (intOf b ∈ idsOf i)))
def isMove (js : List Int) : PyData → Bool
  | .tuple [i, b] => isMove2 js i b
  | _ => false
/-- the order behind a move -/
def doMove (js ks : List Int) (b : Int) : List Int :=
  ((js.filter fun k => decide (k ∉ ks)).take (if b = 0 then 0 else (js.filter fun k => decide (k ∉ ks)).idxOf b + 1)) ++ ks ++ ((js.filter fun k => decide (k ∉ ks)).drop (if b = 0 then 0 else (js.filter fun k => decide (k ∉ ks)).idxOf b + 1))
theorem cut_to (xs : List V) (k : Nat) : cutV xs none (some (k : Int)) = xs.take k := by
  unfold cutV
  rw [HT.sIx_none, HT.sIx_nat, List.drop_zero, Nat.sub_zero]
  rcases Nat.le_total k xs.length with h | h
  · rw [Nat.min_eq_left h]
  · rw [Nat.min_eq_right h, List.take_length, List.take_of_length_le h]
theorem cut_from (xs : List V) (k : Nat) : cutV xs (some (k : Int)) none = xs.drop k := by
  unfold cutV
  rw [HT.sIx_none, HT.sIx_nat]
  rcases Nat.le_total k xs.length with h | h
  · rw [Nat.min_eq_left h, ← List.length_drop, List.take_length]
  · rw [Nat.min_eq_right h, Nat.sub_self, List.take_zero, List.drop_of_length_le h]
theorem idx_at {js : List Int} {b : Int} (h : b ∈ js) : js[js.idxOf b]? = some b := by
  have := List.idxOf_lt_length_of_mem h
  rw [List.getElem?_eq_getElem this]
  exact congrArg some (List.getElem_idxOf this)
theorem idx_first {js : List Int} {b : Int} : ∀ {m : Nat} {z : Int}, m < js.idxOf b → js[m]? = some z → ¬ z = b := by
  induction js with
  | nil => intro m z h e; simp at e
  | cons a r ih =>
    intro m z h e
    by_cases hab : a = b
    · subst hab
      simp at h
    · have hb : (a == b) = false := by simpa using hab
      rw [List.idxOf_cons, hb, cond_false] at h
      cases m with
      | zero => simp at e; rw [← e]; exact hab
      | succ m => simp at e; exact ih (by omega) e
section
variable {P : Program} {w : World} {K : PySem.W.Frag} {mg : Str → Option Value} {base : Heap}
def spIsMove (K : PySem.W.Frag) : Sp := fun vs H Q _ => ∃ (o : Addr) (js : List Int) (v : V) (d : PyData), vs = [.ref o, v] ∧ SqL K H o (js.map V.int) ∧ js.length ≤ 4000 ∧ DV K H v d ∧ (∀ ds b, d = .tuple [.tuple ds, b] → ds.length ≤ 4000) ∧
  ∀ H', Same H H' → Q (.bl (isMove js d)) H'
theorem scIsMove : FnScope ["order", "value", "ids", "behind"] ["order", "value"] (defScope sIsMove) := ⟨rfl, rfl, rfl, by decide +kernel, rfl, by decide +kernel, by decide +kernel⟩
theorem ok_isMove {f fA fW fD : Addr} {fd fdA fdW fdD : FuncData} (F : Fun K "is_move" "is_move" sIsMove f fd) (T : TxtV mg) (FW : Fun K "is_whole" "is_whole" sWhole fW fdW) (bW : Binds K fdW ["value"] []) (mW : mg "is_whole" = some (.ref fW))
    (FD : Fun K "all_different" "all_different" sDiff fD fdD) (bD : Binds K fdD ["numbers"] []) (mD : mg "all_different" = some (.ref fD))
    (FA : Fun K "are_ids_of" "are_ids_of" sAreIds fA fdA) (bA : Binds K fdA ["order", "value"] []) (mA : mg "are_ids_of" = some (.ref fA)) : FnOk P w K mg base CX0 3 f fd ["order", "value"] (spIsMove K) := by
  have GW : FnOk P w K mg base CX0 1 fW fdW ["value"] (spWhole K) := ok_whole FW T
  have GA : FnOk P w K mg base CX0 2 fA fdA ["order", "value"] (spAreIds K) := ok_areIds FA T FW bW mW FD bD mD
  refine F.ok scIsMove (fun vs H Q E h => ?_) (fun cdv A outer s H vs Q E hr h => ?_)
  · obtain ⟨o, js, v, d, rfl, _⟩ := h
    rfl
  · obtain ⟨o, js, v, d, rfl, hO, hj, hd, hdl, k⟩ := h
    have hr1 : Room 1 _ := hr.mono (by decide)
    refine ⟨_, pss_cons (ps_if (PW.pt (pw_or (pt_not (pt_val (pe_callB call_isi (by rfl) T.isi (by decide +kernel) (pa_cons (pv 1) (pa_cons (pe_bltn (v := .ty "tuple") (by rfl) T.tuple boot_tuple rfl) pa_nil)))))
          (pw_or1 (pt_cmpR op_ne (pe_callB call_len_seq (by rfl) T.len PySem.boot_len (pa_cons (pv 1) pa_nil)) pe_int (nomark _))))) (pss_one (ps_ret pe_bl)) pss_nil)
      (pss_cons (ps_asg (pv 1) (pg_tup (by rfl) (pgs_cons (pg_name (i := 2) scIsMove.nd rfl (Or.inl rfl)) (pgs_cons (pg_name (i := 3) scIsMove.nd rfl (Or.inl rfl)) pgs_nil))))
      (pss_cons (ps_if (PW.pt (pw_or (pt_not (pt_val (pe_call GA hr rfl mA FA.kp bA .nil pass0 (pa_cons (pv 0) (pa_cons (pv 2) pa_nil))))) (pw_or1 (pt_not (pt_val (pe_call GW hr1 rfl mW FW.kp bW .nil pass0 (pa_cons (pv 3) pa_nil))))))) (pss_one (ps_ret pe_bl)) pss_nil)
      (pss_one (ps_ret (pe_or (pe_cmpR op_eq (pv 3) pe_int (nomark _)) (pe_one (pe_and (pe_cmpR op_in_seq (pv 3) (pv 0) (by rfl)) (pe_one (pe_cmpR op_notIn_seq (pv 3) (pv 2) (by rfl)))))))))), ?_⟩
    obtain ⟨nm, ty, k1, k2⟩ := hd.kit
    refine ⟨_, rfl, _, _, _, _, _, rfl, .ty _, ty, k1, _, rfl, ?_⟩
    have no : isMove js d = false → Q (.bl false) H := fun e => by
      have := k H (Same.refl H)
      rw [e] at this
      exact this
    cases hd with
    | tup hT hs =>
      rename_i a vs ds
      refine iteF ?_
      refine ⟨_, rfl, a, _, rfl, .inr hT, rfl, _, rfl, ?_⟩
      have hl := hs.length
      by_cases h2 : ds.length = 2
      · obtain ⟨di, db, rfl⟩ : ∃ di db, ds = [di, db] := match ds, h2 with | [x, y], _ => ⟨x, y, rfl⟩
        cases hs with
        | cons pi t =>
          cases t with
          | cons pb t2 =>
            cases t2
            rename_i vi vb
            have hz : (!decide (V.int (([vi, vb].length : Nat) : Int) = V.int 2)) = false := rfl
            rw [hz]
            refine iteF ?_
            refine ⟨_, rfl, a, _, rfl, hT, rfl, vi, [vb], rfl, vb, [], rfl, rfl, ?_⟩
            refine ⟨_, rfl, _, rfl, o, js, vi, di, rfl, hO, hj, pi, (fun ds e => hdl ds db (by rw [e])), fun H1 s1 => ⟨_, rfl, ?_⟩⟩
            have kk : ∀ H', Same H H' → Q (.bl (isMove2 js di db)) H' := k
            cases hA : areIds js di with
            | false =>
              have := kk H1 s1
              unfold isMove2 at this
              rw [hA] at this
              exact iteT this
            | true =>
              refine iteF ?_
              refine ⟨_, rfl, vb, rfl, (pb.same s1).ty, _, rfl, ?_⟩
              rw [pb.whole]
              cases hB : wholeD db with
              | false =>
                have := kk H1 s1
                unfold isMove2 at this
                rw [hA, hB] at this
                exact iteT this
              | true =>
                refine iteF ?_
                obtain ⟨b, rfl⟩ : ∃ b, db = .int b := by cases db <;> first | exact ⟨_, rfl⟩ | cases hB
                cases pb
                have fin := kk H1 s1
                have e2 : isMove2 js di (.int b) = (areIds js di && true && (decide (b = 0) || (decide (b ∈ js) && !decide (b ∈ idsOf di)))) := rfl
                rw [e2, hA, Bool.true_and, Bool.true_and] at fin
                refine ⟨_, rfl, rfl, _, rfl, ?_⟩
                rw [show decide (V.int b = V.int 0) = decide (b = 0) from by rw [dec_int]; rfl]
                cases h0 : decide (b = 0) with
                | true =>
                  rw [h0] at fin
                  exact iteT fin
                | false =>
                  rw [h0] at fin
                  refine iteF ?_
                  refine ⟨_, rfl, _, rfl, o, _, rfl, .inl (Same.sq s1 hO), rfl, all_flat js, _, rfl, ?_⟩
                  rw [inV_int]
                  show if decide (b ∈ js) = true then _ else _
                  cases h1 : decide (b ∈ js) with
                  | false =>
                    rw [h1] at fin
                    exact iteF fin
                  | true =>
                    rw [h1] at fin
                    refine iteT ?_
                    obtain ⟨es, rfl, hall⟩ : ∃ es, di = .tuple es ∧ es.all wholeD = true := by
                      cases di with
                      | tuple es =>
                        have hA' : areIdsL js es = true := hA
                        unfold areIdsL at hA'
                        simp only [Bool.and_eq_true] at hA'
                        exact ⟨es, rfl, hA'.1.1.2⟩
                      | _ => cases hA
                    cases pi with
                    | tup hTi hsi =>
                      have ev := whole_all hsi hall
                      subst ev
                      refine ⟨_, rfl, _, rfl, _, _, rfl, .inr (Same.tq s1 hTi), rfl, all_flat _, ?_⟩
                      rw [inV_int]
                      exact fin
      · have hz : (!decide (V.int ((vs.length : Nat) : Int) = V.int 2)) = true := by
          rw [dec_int]
          have : ¬ (((vs.length : Nat) : Int) = 2) := by omega
          simpa using this
        rw [hz]
        refine iteT (no ?_)
        match ds, h2 with
        | [], _ => rfl
        | [_], _ => rfl
        | [_, _], h2 => exact absurd rfl h2
        | _ :: _ :: _ :: _, _ => rfl
    | _ => exact iteT (no rfl)
end
/-- a move, plainly -/
def MoveOk (js ks : List Int) (b : Int) : Prop := ks ≠ [] ∧ (∀ k ∈ ks, k ∈ js) ∧ ks.Nodup ∧ (b = 0 ∨ (b ∈ js ∧ b ∉ ks))
theorem all_whole (ks : List Int) : (ks.map PyData.int).all wholeD = true := by
  induction ks with
  | nil => rfl
  | cons a r ih => exact ih
theorem ints_of_map (ks : List Int) : (ks.map PyData.int).map intOf = ks := by
  induction ks with
  | nil => rfl
  | cons a r ih => exact congrArg (a :: ·) ih
theorem MoveOk.isMove {js ks : List Int} {b : Int} (h : MoveOk js ks b) : isMove js (.tuple [.tuple (ks.map .int), .int b]) = true := by
  show isMove2 js (.tuple (ks.map .int)) (.int b) = true
  have e2 : isMove2 js (.tuple (ks.map .int)) (.int b) = (areIdsL js (ks.map .int) && true && (decide (b = 0) || (decide (b ∈ js) && !decide (b ∈ (ks.map PyData.int).map intOf)))) := rfl
  rw [e2]
  unfold areIdsL
  rw [all_whole, ints_of_map]
  obtain ⟨h1, h2, h3, h4⟩ := h
  have a1 : (ks.map PyData.int).isEmpty = false := by cases ks with | nil => exact absurd rfl h1 | cons _ _ => rfl
  have a2 : (ks.all fun k => decide (k ∈ js)) = true := List.all_eq_true.mpr fun k hk => decide_eq_true (h2 k hk)
  rw [a1, a2, decide_eq_true h3]
  rcases h4 with h4 | ⟨h4, h5⟩
  · rw [decide_eq_true h4]; rfl
  · rw [decide_eq_true h4, decide_eq_false h5]; simp
theorem DVs.ints {K : PySem.W.Frag} {H : Hp} : ∀ ks : List Int, DVs K H (ks.map V.int) (ks.map PyData.int)
  | [] => .nil
  | k :: r => .cons (.int k) (DVs.ints r)
theorem filter_int (js ks : List Int) (i : Nat) {z : Int} (h : js[i]? = some z) : (js.take (i + 1)).filter (fun k => decide (k ∉ ks)) = if z ∈ ks then (js.take i).filter (fun k => decide (k ∉ ks)) else (js.take i).filter (fun k => decide (k ∉ ks)) ++ [z] := by
  rw [take_snoc h, List.filter_append]
  by_cases hz : z ∈ ks
  · rw [if_pos hz]
    simp [hz]
  · rw [if_neg hz]
    simp [hz]
section
variable {P : Program} {w : World} {K : PySem.W.Frag} {mg : Str → Option Value} {base : Heap}
def spDo (K : PySem.W.Frag) : Sp := fun vs H Q _ => ∃ (o m i : Addr) (js ks : List Int) (b : Int), vs = [.ref o, .ref m] ∧ SqL K H o (js.map V.int) ∧ SqT K H m [.ref i, .int b] ∧ SqT K H i (ks.map V.int) ∧ js.length ≤ 4000 ∧ ks.length ≤ 4000 ∧ MoveOk js ks b ∧
  ∀ (p : Addr) (H' : Hp), H p = none → Same H H' → H' p = some (.lst ((doMove js ks b).map V.int)) → Q (.ref p) H'
theorem scDo : FnScope ["order", "move", "ids", "behind", "taken", "rest", "at", "row_id"] ["order", "move"] (defScope sDoMove) := ⟨rfl, rfl, rfl, by decide +kernel, rfl, by decide +kernel, by decide +kernel⟩
theorem ok_do {f fM fA fW fD : Addr} {fd fdM fdA fdW fdD : FuncData} (F : Fun K "do_move" "do_move" sDoMove f fd) (T : TxtV mg) (FW : Fun K "is_whole" "is_whole" sWhole fW fdW) (bW : Binds K fdW ["value"] []) (mW : mg "is_whole" = some (.ref fW))
    (FD : Fun K "all_different" "all_different" sDiff fD fdD) (bD : Binds K fdD ["numbers"] []) (mD : mg "all_different" = some (.ref fD))
    (FA : Fun K "are_ids_of" "are_ids_of" sAreIds fA fdA) (bA : Binds K fdA ["order", "value"] []) (mA : mg "are_ids_of" = some (.ref fA))
    (FM : Fun K "is_move" "is_move" sIsMove fM fdM) (bM : Binds K fdM ["order", "value"] []) (mM : mg "is_move" = some (.ref fM)) : FnOk P w K mg base CX0 4 f fd ["order", "move"] (spDo K) := by
  have GM : FnOk P w K mg base CX0 3 fM fdM ["order", "value"] (spIsMove K) := ok_isMove FM T FW bW mW FD bD mD FA bA mA
  refine F.ok scDo (fun vs H Q E h => ?_) (fun cdv A outer s H vs Q E hr h => ?_)
  · obtain ⟨o, m, i, js, ks, b, rfl, _⟩ := h
    rfl
  · obtain ⟨o, m, i, js, ks, b, rfl, hO, hM, hI, hj, hk, ok, k⟩ := h
    refine ⟨_, pss_cons (ps_if (pt_not (pt_val (pe_call GM hr rfl mM FM.kp bM .nil pass0 (pa_cons (pv 0) (pa_cons (pv 1) pa_nil))))) (pss_one ps_never) pss_nil)
      (pss_cons (ps_asg (pv 1) (pg_tup (by rfl) (pgs_cons (pg_name (i := 2) scDo.nd rfl (Or.inl rfl)) (pgs_cons (pg_name (i := 3) scDo.nd rfl (Or.inl rfl)) pgs_nil))))
      (pss_cons (ps_set (i := 4) scDo.nd rfl (Or.inr rfl) (pe_callTy (cr_setI rfl) (by rfl) T.set (by decide +kernel) (pa_cons (pv 2) pa_nil)))
      (pss_cons (ps_setLc (i := 5) (own := [("row_id", 7)]) (g := gName 7) rfl scDo.nd rfl rfl (sw_true rfl rfl rfl (by decide +kernel)) (pi_list (pv 0)) (blkOk_by (N := ["order", "move", "ids", "behind", "taken", "rest", "at", "row_id"]) (sc := defScope sDoMove) (by decide +kernel)) (fun _ _ _ _ _ => pg_name (i := 7) scDo.nd rfl (Or.inl rfl))
          (fun _ _ _ _ _ => pts_one (pt_cmpR op_notInSet (pv 7) (pv 4) (by rfl))) (fun _ _ _ _ _ => pv 7))
      (pss_cons (ps_set (i := 6) scDo.nd rfl (Or.inl rfl) (pe_ifExp (pt_cmpR op_eq (pv 3) pe_int (nomark _)) pe_int (pe_op op_add (pe_bm PySem.F.plainAttrs_list PySem.F.slot_list_index PySem.F.type_list_index mt_index (pv 5) (pa_cons (pv 3) pa_nil)) pe_int)))
      (pss_one (ps_ret (pe_op op_cat (pe_op op_cat (pe_slice sl_list (pv 5) po_none (po_some (pv 6))) (pe_callTy call_list_of (by rfl) T.list (by decide +kernel) (pa_cons (pv 2) pa_nil))) (pe_slice sl_list (pv 5) (po_some (pv 6)) po_none)))))))), ?_⟩
    refine ⟨_, rfl, _, rfl, o, js, .ref m, .tuple [.tuple (ks.map .int), .int b], rfl, hO, hj, .tup hM (.cons (.tup hI (DVs.ints ks)) (.cons (.int b) .nil)), ?_, fun H1 s1 => ⟨_, rfl, ?_⟩⟩
    · intro ds b' e
      injection e with e
      injection e with e1 _
      injection e1 with e1
      rw [← e1, List.length_map]
      exact hk
    rw [ok.isMove]
    refine iteF ?_
    refine ⟨_, rfl, m, _, rfl, Same.tq s1 hM, rfl, _, _, rfl, _, _, rfl, rfl, ?_⟩
    -- taken = set(ids)
    refine ⟨_, rfl, i, ks, rfl, .inr (Same.tq s1 hI), hk, fun q S n hq hS hn => ?_⟩
    have s2 : Same H (upd H1 q (.set S n)) := s1.trans (Same.new hq)
    refine ⟨_, rfl, o, rfl, ⟨_, Same.sq s2 hO⟩, fun D hD => ?_⟩
    refine lc_list (K := K) (a := o) (xs := js.map V.int) (fun i H' => Same (upd H1 q (.set S n)) H' ∧ H' D = some (.lst (((js.take i).filter fun k => decide (k ∉ ks)).map V.int))) ⟨Same.new hD, upd_same⟩ (fun i H' _ q => Same.sq (s2.trans q.1) hO) ?_ ?_
    · rintro i x H' hx ⟨s3, hL⟩
      rw [List.getElem?_map] at hx
      obtain ⟨z, hz2, rfl⟩ : ∃ z, js[i]? = some z ∧ x = V.int z := by
        cases hq2 : js[i]? with
        | none => rw [hq2] at hx; cases hx
        | some z => rw [hq2] at hx; exact ⟨z, rfl, (Option.some.inj hx).symm⟩
      refine ⟨rfl, ?_⟩
      refine ⟨_, rfl, _, rfl, z, q, S, n, rfl, rfl, s3 _ _ upd_same, _, rfl, ?_⟩
      show if (!S z) = true then _ else _
      rw [hS.1 z]
      have hf := filter_int js ks i hz2
      refine ite2 (fun c => ?_) (fun c => ?_)
      · have hz : z ∉ ks := by simpa using c
        rw [if_neg hz] at hf
        refine ⟨_, rfl, _, hL, ?_, ?_, ?_⟩
        · rw [List.length_map]
          have := List.length_filter_le (fun k => decide (k ∉ ks)) (js.take i)
          have : (js.take i).length ≤ js.length := by rw [List.length_take]; omega
          exact Nat.lt_of_le_of_lt (by omega : _ ≤ 4000) (by decide)
        · intro b u hb
          rw [upd_ne (ne_of_none hb hD)]
          exact s3 b u hb
        · rw [upd_same, hf, List.map_append]
          rfl
      · have hz : z ∈ ks := by simpa using c
        rw [if_pos hz] at hf
        exact ⟨s3, by rw [hf]; exact hL⟩
    · rintro H3 ⟨s3, hL⟩
      rw [List.length_map, List.take_length] at hL
      have s4 : Same H H3 := s2.trans s3
      have hlen : (js.filter fun k => decide (k ∉ ks)).length ≤ 4000 := Nat.le_trans (List.length_filter_le _ _) hj
      generalize hR : (js.filter fun k => decide (k ∉ ks)) = R at *
      have fin : ∀ (at' : Nat) (σ' : L2.St), at' = (if b = 0 then 0 else R.idxOf b + 1) → σ' = [some (.ref o), some (.ref m), some (.ref i), some (.int b), some (.ref q), some (.ref D), some (.int at'), none] →
          (tRet (tOp rCat (tOp rCat (tSl (rSlL K) (tVar 5) tNoPart (tPart (tVar 6))) (tCB (fun xs H Q => ∃ p ys, xs = [.ref p] ∧ (SqL K H p ys ∨ SqT K H p ys) ∧ ∀ l, H l = none → Q (.ref l) (upd H l (.lst ys))) (tCons (tVar 2) tNil))) (tSl (rSlL K) (tVar 5) (tPart (tVar 6)) tNoPart))) { nx := fun _ H' => Q .non H', rt := Q } σ' H3 := by
        rintro at' σ' hat rfl
        have l1 := cutV_length (R.map V.int) none (some (at' : Int))
        have l2 := cutV_length (R.map V.int) (some (at' : Int)) none
        rw [List.length_map] at l1 l2
        have e16 : sizeLine = 16777216 := sizeLine_eq
        refine ⟨_, rfl, _, rfl, _, rfl, D, _, rfl, SqL.of hL, fun p1 hp1 => ?_⟩
        have t1 := Same.new (o := .lst (cutV (R.map V.int) none (some (at' : Int)))) hp1
        refine ⟨_, rfl, i, _, rfl, .inr (Same.tq (s4.trans t1) hI), fun l hl => ?_⟩
        have t2 := Same.new (o := .lst (ks.map V.int)) hl
        refine ⟨p1, l, _, _, rfl, rfl, t2 _ _ upd_same, upd_same, (by rw [List.length_map, e16]; omega), fun p2 hp2 => ?_⟩
        have t3 := Same.new (o := .lst (cutV (R.map V.int) none (some (at' : Int)) ++ ks.map V.int)) hp2
        refine ⟨_, rfl, _, rfl, _, rfl, D, _, rfl, SqL.of (t3 _ _ (t2 _ _ (t1 _ _ hL))), fun p3 hp3 => ?_⟩
        have t4 := Same.new (o := .lst (cutV (R.map V.int) (some (at' : Int)) none)) hp3
        refine ⟨p2, p3, _, _, rfl, rfl, t4 _ _ upd_same, upd_same, (by rw [List.length_append, List.length_map, e16]; omega), fun p4 hp4 => ?_⟩
        have t5 := Same.new (o := .lst ((cutV (R.map V.int) none (some (at' : Int)) ++ ks.map V.int) ++ cutV (R.map V.int) (some (at' : Int)) none)) hp4
        have sAll : Same H _ := s4.trans (t1.trans (t2.trans (t3.trans (t4.trans t5))))
        have sB : Same H _ := s4.trans (t1.trans (t2.trans (t3.trans t4)))
        refine k p4 _ (sB.free hp4) sAll ?_
        rw [upd_same, cut_to, cut_from]
        unfold doMove
        rw [hR, ← hat, List.map_append, List.map_append, List.map_take, List.map_drop]
      refine ⟨_, rfl, rfl, _, rfl, ?_⟩
      rw [show decide (V.int b = V.int 0) = decide (b = 0) from by rw [dec_int]; rfl]
      refine ite2 (fun c => ?_) (fun c => ?_)
      · have hb : b = 0 := of_decide_eq_true c
        exact fin 0 _ (by rw [if_pos hb]) rfl
      · have hb : ¬ b = 0 := fun e => c (decide_eq_true e)
        have hmem : b ∈ R := by
          rcases ok.2.2.2 with h | ⟨h1, h2⟩
          · exact absurd h hb
          · rw [← hR]
            exact List.mem_filter.mpr ⟨h1, decide_eq_true h2⟩
        refine ⟨_, rfl, .inl ⟨rfl, _, SqL.of hL⟩, _, rfl, D, _, .int b, R.idxOf b, .int b, rfl, rfl, SqL.of hL, rfl, all_flat R, ?_, ?_, ?_, ?_⟩
        · rw [List.getElem?_map, idx_at hmem]; rfl
        · rw [eqV_int]; exact decide_eq_true rfl
        · intro m' z' hm hz
          rw [List.getElem?_map] at hz
          cases hq2 : R[m']? with
          | none => rw [hq2] at hz; cases hz
          | some z =>
            rw [hq2] at hz
            have : z' = V.int z := (Option.some.inj hz).symm
            rw [this, eqV_int]
            exact decide_eq_false (idx_first hm hq2)
        · refine ⟨_, _, rfl, rfl, ?_⟩
          exact fin (R.idxOf b + 1) _ (by rw [if_neg hb]) rfl
end
/-! ### moves: the mathematics -/
/-- S falls apart behind a (at the top, if a is 0) -/
def Cut (S : List Int) (a : Int) (S1 S2 : List Int) : Prop := S = S1 ++ S2 ∧ ((a = 0 ∧ S1 = []) ∨ (a ≠ 0 ∧ ∃ S0, S1 = S0 ++ [a] ∧ a ∉ S0))
theorem mem_of_filter {p : Int → Bool} {l : List Int} {a : Int} (h : a ∈ l.filter p) : a ∈ l := (List.mem_filter.mp h).1
theorem Cut.at {S S1 S2 : List Int} {a : Int} (h : Cut S a S1 S2) : (if a = 0 then 0 else S.idxOf a + 1) = S1.length := by
  obtain ⟨rfl, ⟨h0, rfl⟩ | ⟨h0, S0, rfl, hn⟩⟩ := h
  · rw [if_pos h0]; rfl
  · rw [if_neg h0, List.append_assoc, List.idxOf_append, if_neg hn]
    simp
theorem Cut.take {S S1 S2 : List Int} {a : Int} (h : Cut S a S1 S2) : S.take (if a = 0 then 0 else S.idxOf a + 1) = S1 := by
  rw [h.at, h.1]
  simp
theorem Cut.drop {S S1 S2 : List Int} {a : Int} (h : Cut S a S1 S2) : S.drop (if a = 0 then 0 else S.idxOf a + 1) = S2 := by
  rw [h.at, h.1]
  simp
theorem Cut.ex {S : List Int} {a : Int} (h : a = 0 ∨ a ∈ S) (h0 : ∀ z ∈ S, z ≠ 0) : ∃ S1 S2, Cut S a S1 S2 := by
  by_cases ha : a = 0
  · exact ⟨[], S, rfl, .inl ⟨ha, rfl⟩⟩
  · have hm : a ∈ S := h.resolve_left ha
    refine ⟨S.take (S.idxOf a) ++ [a], S.drop (S.idxOf a + 1), ?_, .inr ⟨ha, _, rfl, ?_⟩⟩
    · have hl := List.idxOf_lt_length_of_mem hm
      have e := List.getElem_idxOf hl
      have := List.take_append_drop (S.idxOf a) S
      rw [List.append_assoc]
      conv => lhs; rw [← this]
      congr 1
      rw [List.drop_eq_getElem_cons hl, e]
      rfl
    · intro hmem
      obtain ⟨i, hi, e⟩ := List.getElem_of_mem hmem
      have hi2 : i < S.idxOf a := by
        rw [List.length_take] at hi
        omega
      rw [List.getElem_take] at e
      exact idx_first hi2 (List.getElem?_eq_getElem (by have := List.idxOf_lt_length_of_mem hm; omega)) e
theorem Cut.filter {S S1 S2 : List Int} {a : Int} (h : Cut S a S1 S2) {p : Int → Bool} (hp : a ≠ 0 → p a = true) : Cut (S.filter p) a (S1.filter p) (S2.filter p) := by
  obtain ⟨rfl, ⟨h0, rfl⟩ | ⟨h0, S0, rfl, hn⟩⟩ := h
  · exact ⟨by rw [List.filter_append], .inl ⟨h0, rfl⟩⟩
  · refine ⟨by rw [List.filter_append], .inr ⟨h0, S0.filter p, ?_, fun q => hn (mem_of_filter q)⟩⟩
    rw [List.filter_append]
    simp [hp h0]
abbrev without (js ks : List Int) : List Int := js.filter fun k => decide (k ∉ ks)
theorem doMove_cut {js ks S1 S2 : List Int} {a : Int} (h : Cut (without js ks) a S1 S2) : doMove js ks a = S1 ++ ks ++ S2 := by
  unfold doMove
  rw [h.take, h.drop]
theorem without_nil (js : List Int) : without js [] = js := by
  unfold without
  rw [List.filter_eq_self]
  intro k _
  simp
theorem doMove_nil (js : List Int) (a : Int) : doMove js [] a = js := by
  unfold doMove
  rw [show (js.filter fun k => decide (k ∉ ([] : List Int))) = js from without_nil js, List.append_nil, List.take_append_drop]
theorem mem_doMove {js ks : List Int} {a k : Int} (hs : ∀ z ∈ ks, z ∈ js) : k ∈ doMove js ks a ↔ k ∈ js := by
  have e : k ∈ doMove js ks a ↔ k ∈ without js ks ∨ k ∈ ks := by
    unfold doMove
    rw [List.mem_append, List.mem_append]
    constructor
    · rintro ((h | h) | h)
      · exact .inl (List.mem_of_mem_take h)
      · exact .inr h
      · exact .inl (List.mem_of_mem_drop h)
    · rintro (h | h)
      · rw [← List.take_append_drop (if a = 0 then 0 else (without js ks).idxOf a + 1) (without js ks)] at h
        rcases List.mem_append.mp h with h | h
        · exact .inl (.inl h)
        · exact .inr h
      · exact .inl (.inr h)
  rw [e]
  constructor
  · rintro (h | h)
    · exact mem_of_filter h
    · exact hs k h
  · intro h
    by_cases hk : k ∈ ks
    · exact .inr hk
    · exact .inl (List.mem_filter.mpr ⟨h, decide_eq_true hk⟩)
theorem nodup_doMove {js ks : List Int} {a : Int} (hj : js.Nodup) (hk : ks.Nodup) : (doMove js ks a).Nodup := by
  have hw : (without js ks).Nodup := List.Nodup.sublist List.filter_sublist hj
  rw [← List.take_append_drop (if a = 0 then 0 else (without js ks).idxOf a + 1) (without js ks)] at hw
  obtain ⟨h1, h2, h3⟩ := List.nodup_append.mp hw
  have dis : ∀ z ∈ without js ks, z ∉ ks := fun z hz => of_decide_eq_true (List.mem_filter.mp hz).2
  unfold doMove
  refine List.nodup_append.mpr ⟨List.nodup_append.mpr ⟨h1, hk, fun x hx y hy e => ?_⟩, h2, fun x hx y hy e => ?_⟩
  · exact dis x (List.mem_of_mem_take hx) (by rw [e]; exact hy)
  · rcases List.mem_append.mp hx with hx | hx
    · exact h3 x hx y hy e
    · exact dis y (List.mem_of_mem_drop hy) (by rw [← e]; exact hx)
theorem without_doMove {js ks : List Int} {a : Int} : without (doMove js ks a) ks = without js ks := by
  have idem : ∀ l : List Int, (∀ z ∈ l, z ∉ ks) → without l ks = l := fun l h => by
    unfold without
    rw [List.filter_eq_self]
    intro k hk
    exact decide_eq_true (h k hk)
  have dis : ∀ z ∈ without js ks, z ∉ ks := fun z hz => of_decide_eq_true (List.mem_filter.mp hz).2
  have none : without ks ks = [] := by
    unfold without
    rw [List.filter_eq_nil_iff]
    intro k hk
    simp [hk]
  unfold doMove
  show without _ ks = _
  unfold without at none idem ⊢
  rw [List.filter_append, List.filter_append, none, List.append_nil, idem _ fun z hz => dis z (List.mem_of_mem_take hz), idem _ fun z hz => dis z (List.mem_of_mem_drop hz), List.take_append_drop]
/-- ids moved one by one -/
theorem doMove_one {js U : List Int} {x a l : Int} (hj : ∀ z ∈ js, z ≠ 0) (hU : (U ++ [x]).Nodup) (hx : x ∈ js) (ha : a = 0 ∨ (a ∈ js ∧ a ∉ U ++ [x])) (hl : (U = [] ∧ l = a) ∨ ∃ U0, U = U0 ++ [l]) (hs : ∀ z ∈ U, z ∈ js) :
    doMove (doMove js U a) [x] l = doMove js (U ++ [x]) a := by
  rcases hl with ⟨rfl, rfl⟩ | ⟨U0, rfl⟩
  · rw [doMove_nil, List.nil_append]
  · have hUn := List.nodup_append.mp hU
    have xU : x ∉ U0 ++ [l] := fun h => hUn.2.2 x h x (by simp) rfl
    have haS : a = 0 ∨ a ∈ without js (U0 ++ [l]) := ha.imp id fun h => List.mem_filter.mpr ⟨h.1, decide_eq_true fun q => h.2 (List.mem_append_left _ q)⟩
    obtain ⟨S1, S2, hc⟩ := Cut.ex haS fun z hz => hj z (mem_of_filter hz)
    rw [doMove_cut hc]
    have ax : a ≠ 0 → decide (a ∉ [x]) = true := fun h => by
      have := (ha.resolve_left h).2
      refine decide_eq_true fun q => this (List.mem_append_right _ q)
    have hc2 := hc.filter (p := fun k => decide (k ∉ [x])) ax
    have e2 : (without js (U0 ++ [l])).filter (fun k => decide (k ∉ [x])) = without js ((U0 ++ [l]) ++ [x]) := by
      unfold without
      rw [List.filter_filter]
      congr 1
      funext k
      by_cases h1 : k ∈ U0 ++ [l] <;> by_cases h2 : k ∈ [x] <;> simp_all
    rw [e2] at hc2
    rw [doMove_cut hc2]
    have eU : (U0 ++ [l]).filter (fun k => decide (k ∉ [x])) = U0 ++ [l] := by
      rw [List.filter_eq_self]
      intro k hk
      refine decide_eq_true fun q => xU ?_
      have : k = x := by simpa using q
      rw [← this]; exact hk
    have dis : ∀ z ∈ S1, z ∉ U0 ++ [l] := fun z hz => by
      have : z ∈ without js (U0 ++ [l]) := by rw [hc.1]; exact List.mem_append_left _ hz
      exact of_decide_eq_true (List.mem_filter.mp this).2
    have hl0 : l ≠ 0 := hj l (hs l (by simp))
    have hc3 : Cut (without (S1 ++ (U0 ++ [l]) ++ S2) [x]) l (S1.filter (fun k => decide (k ∉ [x])) ++ (U0 ++ [l])) (S2.filter fun k => decide (k ∉ [x])) := by
      refine ⟨?_, .inr ⟨hl0, S1.filter (fun k => decide (k ∉ [x])) ++ U0, by rw [List.append_assoc], fun q => ?_⟩⟩
      · show ((S1 ++ (U0 ++ [l])) ++ S2).filter (fun k => decide (k ∉ [x])) = _
        rw [List.filter_append, List.filter_append (l₁ := S1), eU]
      · rcases List.mem_append.mp q with q | q
        · exact dis l (mem_of_filter q) (by simp)
        · exact (List.nodup_append.mp hUn.1).2.2 l q l (by simp) rfl
    rw [doMove_cut hc3]
    simp only [List.append_assoc]
/-! ### ids that stand directly behind each other -/
theorem without_mid {A T B : List Int} (h : (A ++ T ++ B).Nodup) : without (A ++ T ++ B) T = A ++ B := by
  obtain ⟨h1, h2, h3⟩ := List.nodup_append.mp h
  obtain ⟨h4, h5, h6⟩ := List.nodup_append.mp h1
  have a1 : A.filter (fun k => decide (k ∉ T)) = A := by
    rw [List.filter_eq_self]
    intro k hk
    exact decide_eq_true fun q => h6 k hk k q rfl
  have a2 : B.filter (fun k => decide (k ∉ T)) = B := by
    rw [List.filter_eq_self]
    intro k hk
    exact decide_eq_true fun q => h3 k (List.mem_append_right _ q) k hk rfl
  have a3 : T.filter (fun k => decide (k ∉ T)) = [] := by
    rw [List.filter_eq_nil_iff]
    intro k hk
    simp [hk]
  show (A ++ T ++ B).filter (fun k => decide (k ∉ T)) = A ++ B
  rw [List.filter_append, List.filter_append, a1, a2, a3, List.append_nil]
/-- back to where they stood -/
theorem back {A T B xs : List Int} {b : Int} (h : (A ++ T ++ B).Nodup) (hb : (b = 0 ∧ A = []) ∨ (b ≠ 0 ∧ ∃ A0, A = A0 ++ [b])) (hx : without xs T = A ++ B) : doMove xs T b = A ++ T ++ B := by
  refine doMove_cut (S1 := A) (S2 := B) ⟨hx, hb.imp id fun ⟨h0, A0, e⟩ => ⟨h0, A0, e, fun q => ?_⟩⟩
  subst e
  have hA := (List.nodup_append.mp (List.nodup_append.mp h).1).1
  exact (List.nodup_append.mp hA).2.2 b q b (by simp) rfl
theorem perm_mid {A T B R1 R2 : List Int} (e : A ++ B = R1 ++ R2) : (R1 ++ T ++ R2).Perm (A ++ T ++ B) := by
  have p : ∀ X Y : List Int, (X ++ T ++ Y).Perm (T ++ (X ++ Y)) := fun X Y => by
    rw [← List.append_assoc]
    exact List.Perm.append_right Y List.perm_append_comm
  refine (p R1 R2).trans ?_
  rw [← e]
  exact (p A B).symm
theorem eqvAll_ints : ∀ xs ys : List Int, PyData.eqvAll (xs.map .int) (ys.map .int) = decide (xs = ys)
  | [], [] => by simp [PyData.eqvAll]
  | [], _ :: _ => by simp [PyData.eqvAll]
  | _ :: _, [] => by simp [PyData.eqvAll]
  | x :: xs, y :: ys => by
    rw [List.map_cons, List.map_cons, PyData.eqvAll, eqvAll_ints xs ys, PyData.eqv]
    by_cases h : x = y
    · subst h
      simp
    · simp [h]
theorem canLay_ints : ∀ xs : List Int, PyData.canLayAll0 (xs.map .int) = true
  | [] => by rw [List.map_nil, PyData.canLayAll0]
  | x :: xs => by rw [List.map_cons, PyData.canLayAll0, canLay_ints xs, PyData.canLay0]; rfl
theorem depthAll_ints : ∀ xs : List Int, PyData.depthAll (xs.map .int) ≤ 1
  | [] => by rw [List.map_nil, PyData.depthAll]; omega
  | x :: xs => by
    have := depthAll_ints xs
    rw [List.map_cons, PyData.depthAll, PyData.depth]
    omega
theorem shaped_ints (xs : List Int) : SeqAt.shaped (.list (xs.map .int)) = true := by
  unfold SeqAt.shaped
  rw [Bool.and_eq_true]
  refine ⟨?_, decide_eq_true ?_⟩
  · rw [PyData.canLay0]; exact canLay_ints xs
  · have := depthAll_ints xs
    rw [PyData.depth]
    omega
theorem DpAll.ints {K : PySem.W.Frag} {H : Hp} : ∀ xs : List Int, DpAll K H (xs.map V.int) (xs.map .int)
  | [] => .nil
  | x :: xs => .cons (.int x) (DpAll.ints xs)
def rEqL (K : PySem.W.Frag) : R2 := fun x y H Q => ∃ (p q : Addr) (xs ys : List Int), x = .ref p ∧ y = .ref q ∧ SqL K H p (xs.map V.int) ∧ SqL K H q (ys.map V.int) ∧ Q (.bl (decide (xs = ys))) H
def rNeL (K : PySem.W.Frag) : R2 := fun x y H Q => ∃ (p q : Addr) (xs ys : List Int), x = .ref p ∧ y = .ref q ∧ SqL K H p (xs.map V.int) ∧ SqL K H q (ys.map V.int) ∧ Q (.bl (!decide (xs = ys))) H
section
variable {X : Cx}
theorem op_eqL (hu : X.A.units + 64 < cLine) : OpR X (compareOp .Eq) (rEqL X.K) := by
  intro pins s σ H x y v u Q I rx ry h
  obtain ⟨p, q, xs, ys, rfl, rfl, h1, h2, k⟩ := h
  refine op_eqD hu pins s σ H _ _ v u Q I rx ry ⟨_, _, .lst h1 (DpAll.ints xs), .lst h2 (DpAll.ints ys), shaped_ints xs, shaped_ints ys, ?_⟩
  rw [PyData.eqv, eqvAll_ints]
  exact k
theorem op_neL (hu : X.A.units + 64 < cLine) : OpR X (compareOp .NotEq) (rNeL X.K) := by
  intro pins s σ H x y v u Q I rx ry h
  obtain ⟨p, q, xs, ys, rfl, rfl, h1, h2, k⟩ := h
  refine op_neD hu pins s σ H _ _ v u Q I rx ry ⟨_, _, .lst h1 (DpAll.ints xs), .lst h2 (DpAll.ints ys), shaped_ints xs, shaped_ints ys, ?_⟩
  rw [PyData.eqv, eqvAll_ints]
  exact k
end
theorem hu64 {A : Around} {k : Nat} (hr : Room k A) : A.units + 64 < cLine := by have := hr.un; omega
/-- behind Hd: all as it was but the deck at d, and these objects stand -/
def Fs (d : Addr) (Hd : Hp) (fs : List (Addr × HO)) (H' : Hp) : Prop := But d Hd H' ∧ DeckAt H' d ∧ ∀ p ∈ fs, p.1 ≠ d ∧ H' p.1 = some p.2
section
variable {d p p0 p1 p2 p3 p4 p5 : Addr} {Hd H1 H2 : Hp} {fs : List (Addr × HO)} {o o0 o1 o2 o3 o4 o5 : HO}
theorem Fs.start (D : DeckAt Hd d) : Fs d Hd [] Hd := ⟨But.refl _ _, D, fun _ h => by cases h⟩
theorem Fs.step (F : Fs d Hd fs H1) (D : DeckAt H2 d) (B : But d H1 H2) : Fs d Hd fs H2 := ⟨F.1.trans B, D, fun q hq => ⟨(F.2.2 q hq).1, B _ _ (F.2.2 q hq).1 (F.2.2 q hq).2⟩⟩
theorem Fs.same (F : Fs d Hd fs H1) (s : Same H1 H2) : Fs d Hd fs H2 := F.step (F.2.1.same s) (But.of s)
theorem Fs.add (F : Fs d Hd fs H1) (h : H1 p = some o) (n : ∀ x y, o ≠ .dK (dk x y)) : Fs d Hd ((p, o) :: fs) H1 := ⟨F.1, F.2.1, fun q hq => by
  rcases List.mem_cons.mp hq with e | e
  · subst e
    obtain ⟨x, y, hd, _⟩ := F.2.1
    exact ⟨ne_of h hd (n x y), h⟩
  · exact F.2.2 q e⟩
theorem Fs.new (F : Fs d Hd fs H1) (h : H1 p = none) (n : ∀ x y, o ≠ .dK (dk x y)) : Fs d Hd ((p, o) :: fs) (upd H1 p o) := (F.same (Same.new h)).add upd_same n
theorem Fs.skip (F : Fs d Hd fs H1) (h : H1 p = none) : Fs d Hd fs (upd H1 p o) := F.same (Same.new h)
theorem Fs.tail (F : Fs d Hd ((p, o) :: fs) H1) : Fs d Hd fs H1 := ⟨F.1, F.2.1, fun q hq => F.2.2 q (List.mem_cons_of_mem _ hq)⟩
theorem Fs.deck (F : Fs d Hd fs H1) : DeckAt H1 d := F.2.1
theorem Fs.g0 (F : Fs d Hd ((p0, o0) :: fs) H1) : H1 p0 = some o0 := (F.2.2 _ List.mem_cons_self).2
theorem Fs.g1 (F : Fs d Hd ((p0, o0) :: (p1, o1) :: fs) H1) : H1 p1 = some o1 := F.tail.g0
theorem Fs.g2 (F : Fs d Hd ((p0, o0) :: (p1, o1) :: (p2, o2) :: fs) H1) : H1 p2 = some o2 := F.tail.g1
theorem Fs.g3 (F : Fs d Hd ((p0, o0) :: (p1, o1) :: (p2, o2) :: (p3, o3) :: fs) H1) : H1 p3 = some o3 := F.tail.g2
theorem Fs.g4 (F : Fs d Hd ((p0, o0) :: (p1, o1) :: (p2, o2) :: (p3, o3) :: (p4, o4) :: fs) H1) : H1 p4 = some o4 := F.tail.g3
/-- what stood ahead of the deck stands -/
theorem Fs.old {H : Hp} (F : Fs d Hd fs H1) (hd : H d = none) (s : Same H Hd) : Same H H1 := fun b u h => F.1 b u (ne_of_none h hd) (s b u h)
end
theorem nl {xs : List V} : ∀ x y, HO.lst xs ≠ .dK (dk x y) := fun _ _ h => by cases h
theorem nt {xs : List V} : ∀ x y, HO.tup xs ≠ .dK (dk x y) := fun _ _ h => by cases h
theorem cut_mid (js : List Int) {f t : Nat} (h : f < js.length) : cutV (js.map V.int) (some (f : Int)) (some ((f : Int) + 1 + (t : Int))) = ((js.drop f).take (t + 1)).map V.int := by
  unfold cutV
  have e : (f : Int) + 1 + (t : Int) = ((f + 1 + t : Nat) : Int) := by omega
  rw [e, HT.sIx_nat, HT.sIx_nat, List.length_map, Nat.min_eq_left (by omega : f ≤ js.length), List.map_take, List.map_drop]
  rcases Nat.le_total (f + 1 + t) js.length with q | q
  · rw [Nat.min_eq_left q]
    congr 1
    omega
  · rw [Nat.min_eq_right q, List.take_of_length_le, List.take_of_length_le]
    · rw [List.length_drop, List.length_map]; omega
    · rw [List.length_drop, List.length_map]; omega
/-! ### defs that are called where no repr is under way (their context's guards are known to be none) -/
/-- the promise of a def, wherever no guard stands -/
structure FnG (P : Program) (w : World) (K : PySem.W.Frag) (mg : Str → Option Value) (base : Heap) (k : Nat) (f : Addr) (fd : FuncData) (ps : List Str) (sp : Sp) : Prop where
  len : ∀ vs H Q E, sp vs H Q E → vs.length = ps.length
  go : ∀ {A : Around} {outer : List Env} {s : Shared} {H : Hp} {args : Args} {us : List Value} {vs : List V} {Q : VK} {E : XK}, A.guards = some [] → Room k A → Env0 P w K mg base A outer s H →
    BindsTo s fd args (ps.zip us) → Vals vs us → sp vs H Q E → codeAny (model P w) A (.call (.ref f) args) (CR CX0 outer P w H s Q E) s
section
variable {P : Program} {w : World} {K : PySem.W.Frag} {mg : Str → Option Value} {base : Heap}
/-- by its body -/
theorem FnG.mk' {x qual : Str} {st : Stmt} {f : Addr} {fd : FuncData} {N ps : List Str} {k : Nat} {sp : Sp} (F : Fun K x qual st f fd) (S : FnScope N ps (defScope st)) (len : ∀ vs H Q E, sp vs H Q E → vs.length = ps.length)
    (body : ∀ (cdv : Value) (A : Around) (outer : List Env) (s : Shared) (H : Hp) (vs : List V) (Q : VK) (E : XK), (A.deeper (envOfC qual (defScope st) s.heap.objs.size f cdv)).guards = some [] → Room k (A.deeper (envOfC qual (defScope st) s.heap.objs.size f cdv)) → sp vs H Q E →
      ∃ t, PSs (cxOf CX0 P w K mg base N qual (defScope st) f cdv A outer s H E).nox (defBody st) t ∧ t { nx := fun _ H' => Q .non H', rt := Q } (start N vs) H) : FnG P w K mg base (k + 1) f fd ps sp := by
  obtain ⟨oc, od, kV, doc, pm, an, cdv, ct, osl, rfl, lk, hcd⟩ := F.ex
  refine ⟨len, ?_⟩
  intro A outer s H args us vs Q E hg hr en hb rel hsp
  have kept : ∀ b o, base.get? b = some o → s.heap.get? b = some o := fun b o q => (en.bs b o q).1
  have inK := en.mod.kin.keeps kept
  refine codeAny_call_function hr.depth (inK _ _ lk) rfl S.co S.gen rfl (PySem.W.codeRec_of inK hcd) (hb _ _ _ _ ?_)
  have kinds : ∀ q ∈ ps.zip us, (defScope st).names.lookup q.1 = some .local ∨ ((defScope st).names.lookup q.1 = some .cell ∧ ((cellsFrom (s.heap.objs.size + 1) (defScope st).names []).lookup q.1).isSome = true) := by
    rintro ⟨n, v⟩ hq
    exact (S.par n (List.of_mem_zip hq).1).elim .inl fun c => .inr ⟨c, PySem.W.cellsFrom_some _ _ _ (.inl c)⟩
  refine wpAny_newFunctionEnv_cells S.kind kinds fun env he s1 ic => ?_
  subst he
  obtain ⟨t, ht, hq⟩ := body cdv A outer s H vs Q E hg (hr.deeper _) hsp
  have I0 := inv_start (CX := CX0) (E := E) S hr.hd en (len _ _ _ _ hsp) rel ic
  refine ⟨(en.mod.nolimit.keeps kept).keeps ic.toInCall.keep, codeAny_func ?_⟩
  refine wpAny_mono (ht.nox.run [] s1 _ H _ I0 hq) ?_ fun _ _ z => z
  rintro (_ | _ | _ | u) s' hs
  · obtain ⟨σ', H', J, q⟩ := hs
    exact ⟨.non, H', J.os, J.bare, J.base, J.hok, rfl, q⟩
  · obtain ⟨_, _, _, q⟩ := hs
    exact q.elim
  · obtain ⟨_, _, _, q⟩ := hs
    exact q.elim
  · obtain ⟨v, σ', H', J, rv, q⟩ := hs
    exact ⟨v, H', J.os, J.bare, J.base, J.hok, rv, q⟩
end
section
variable {X : Cx} {k : Nat} {f : Addr} {fd : FuncData} {ps : List Str} {sp : Sp} {E : XK} {x : Str} {p pos : Pos} {e : Expr} {es : List Expr} {t : TA}
/-- such a def called by its name -/
theorem pe_callG (F : FnG X.prog X.w X.K X.mg X.base k f fd ps sp) (hg : X.A.guards = some []) (hr : Room k X.A) (hx : Gl X x) (hm : X.mg x = some (.ref f)) (hk : PySem.W.keepIn X.K (.ref f) = true) (hb : L2.Binds X.K fd ps [])
    (ha : PA X (e :: es) t) (hdb : (x == ("__debug__" : Str)) = false := by decide) (he : starEach (e :: es) X.env = (false, eval e X.env) :: starEach es X.env := by rfl) (hpl : (backTo pos (starEach es X.env)).any (·.1) = false := by rfl) :
    PE X (.Call (.Name x p) (e :: es) [] pos) (tCall sp [] E t) := by
  constructor
  intro pins s σ H Q I h
  have run : ∀ {us : List Value} {vs : List V} {H1 : Hp} {s1 : Shared}, Inv X pins σ H1 s1 → Vals vs us → sp (vs ++ []) H1 Q E → wpAny (model X.prog X.w) X.A (call (.ref f) us) (EP X pins σ Q) X.xe s1 := by
    intro us vs H1 s1 I1 r q
    rw [List.append_nil] at q
    have hl : us.length = ps.length := by rw [← r.length]; exact F.len _ _ _ _ q
    have bt := hb s1 us I1.kIn (by rw [List.append_nil]; exact hl)
    rw [List.append_nil] at bt
    refine wpAny_call (codeAny_mono (F.go hg hr I1.env0 bt r q) ?_)
    rintro (_ | (_ | _ | _ | u)) s2 z
    · exact z.elim
    · exact z.elim
    · exact z.elim
    · exact z.elim
    · exact I1.after z
  refine wpAny_Call_Name_kw (ld_glob I hx hm ?_ hdb)
  exact PySem.W.callWith_K (h₀ := X.base) I.ok.mod.kin hk (thn (ha.run pos pins s σ H _ I h) fun us s1 ⟨vs, H1, I1, r, q⟩ => ⟨I1.kIn, run I1 r q⟩) he hpl
end
/-! ### the end of a law whose def is such a def -/
/-- the heap of which nothing is known but the script -/
def justScript (K : PySem.W.Frag) (a : Addr) (vs : List Value) (ns : List Int) : Hp := fun b =>
  if b = a ∧ K.lookup a = none then some (.frz { cls := .type "list", data := .seq vs.toArray } (.lst (ns.map V.int))) else none
section
variable {P : Program} {w : World} {K : PySem.W.Frag} {mg mb : Str → Option Value} {k : Nat} {fa a : Addr} {fd : FuncData} {x : Str} {sp : Sp} {s₁ : Shared} {vs : List Value} {ns : List Int}
theorem js_out {b : Addr} (h : b ≠ a) : justScript K a vs ns b = none := if_neg fun z => h z.1
theorem js_some {b : Addr} {u : HO} (h : justScript K a vs ns b = some u) : b = a ∧ K.lookup a = none ∧ u = .frz { cls := .type "list", data := .seq vs.toArray } (.lst (ns.map V.int)) := by
  unfold justScript at h
  split at h
  · rename_i c
    exact ⟨c.1, c.2, (Option.some.inj h).symm⟩
  · cases h
theorem lawG (KX : K.In s₁.heap) (hns : s₁.heap.Ns mainGlobals mg) (hb : s₁.heap.Ns builtinsNs mb) (hbb : ∀ x : Str, x ≠ "__name__" → mb x = bootBuiltins x) (hlim : s₁.heap.NoLimit) (hg : s₁.gens = #[])
    (ha : s₁.heap.get? a = some { cls := .type "list", data := .seq vs.toArray }) (hi : IntsAre vs ns) (hl : ns.length ≤ sizeLine) (hr : Room k callerA)
    (F : ∀ base : Heap, K.In base → base.Ns mainGlobals mg → FnG P w K mg base k fa fd [x] sp) (hbind : ∀ (s : Shared) (u : Value), BindsTo s fd ⟨[u], []⟩ [(x, u)])
    (hsp : ∀ H : Hp, Only H → SqL K H a (ns.map V.int) → sp [.ref a] H (fun v _ => v = .bl true) fun _ _ _ => False) :
    codeAny (model P w) callerA (.call (.ref fa) ⟨[.ref a], []⟩) (fun r s' => r = .ok (.ret (.bool true)) ∧ OldK s₁.heap s'.heap ∧ s'.os = s₁.os ∧ AllBare s'.gens) s₁ := by
  have rv := L2.vals_ints hi
  have hlen := hi.length
  obtain ⟨H, hH⟩ : ∃ H, H = justScript K a vs ns := ⟨_, rfl⟩
  have hcases : ∀ b, H b = none ∨ (b = a ∧ K.lookup a = none ∧ H b = some (.frz { cls := .type "list", data := .seq vs.toArray } (.lst (ns.map V.int)))) := by
    intro b
    cases q : H b with
    | none => exact .inl rfl
    | some u =>
      rw [hH] at q
      obtain ⟨h1, h2, h3⟩ := js_some q
      exact .inr ⟨h1, h2, by rw [h3]⟩
  have only : Only H := fun b => (hcases b).imp id fun z => ⟨_, _, z.2.2⟩
  have list : SqL K H a (ns.map V.int) := by
    cases hk : K.lookup a with
    | none => exact .inl (.inr ⟨{ cls := .type "list", data := .seq vs.toArray }, by rw [hH]; exact if_pos ⟨rfl, hk⟩⟩)
    | some o =>
      have q := KX a o hk
      rw [ha] at q
      obtain rfl := Option.some.inj q
      exact .inr ⟨_, vs.toArray, _, hk, rfl, rfl, rfl, by rw [List.size_toArray, hlen]; exact hl, rv⟩
  have held : HOk P w H s₁.heap := by
    intro b u q
    rcases hcases b with z | ⟨rfl, _, z⟩
    · rw [z] at q; cases q
    · rw [z] at q
      obtain rfl := Option.some.inj q
      exact ⟨ha, by rw [List.length_map]; exact hl, vs, _, rv, ha⟩
  -- the rest of the heap, in which the module's facts stand
  have stay : ∀ {b : Addr} {o : Obj}, s₁.heap.get? b = some o → (b = a → K.lookup a ≠ none) → (hidT s₁.heap H).get? b = some o := by
    intro b o e n
    refine hidT_get e ?_
    rcases hcases b with z | ⟨e1, e2, _⟩
    · exact z
    · exact absurd e2 (n e1)
  have names : ∀ {b : Addr} {m : Str → Option Value}, s₁.heap.Ns b m → (hidT s₁.heap H).Ns b m := by
    rintro b m ⟨o, es, ep, e, d, r⟩
    refine ⟨o, es, ep, stay e ?_, d, r⟩
    rintro rfl
    rw [ha] at e
    obtain rfl := Option.some.inj e
    exact absurd d (by intro z; cases z)
  have kin : K.In (hidT s₁.heap H) := fun b o e => stay (KX b o e) fun q => by rw [← q, e]; exact fun z => by cases z
  obtain ⟨mc, l1, l2⟩ := hlim
  have mod : Mod K mg (hidT s₁.heap H) := ⟨kin, names hns, ⟨mb, names hb, hbb⟩, ⟨mc, names l1, l2⟩⟩
  have env : Env0 P w K mg (hidT s₁.heap H) callerA [] s₁ H := ⟨rfl, mod, fun b o e => of_hidT e, Nat.le_of_eq (hidT_size _ _), trivial, fun b z => (by exact absurd (show b ∈ ([] : List Addr) from z) (by simp)), held, .of_eq hg⟩
  have vr : Vals [V.ref a] [Value.ref a] := .cons (show RelV (.ref a) (.ref a) from rfl) .nil
  refine codeAny_mono ((F _ kin (names hns)).go (us := [.ref a]) rfl hr env (hbind s₁ (.ref a)) vr (hsp H only list)) ?_
  rintro (_ | (_ | _ | _ | u)) s' z
  · exact z.elim
  · exact z.elim
  · exact z.elim
  · exact z.elim
  · obtain ⟨v, H', os, bare, un, ok', r', q⟩ := z
    have q1 : v = .bl true := q
    subst q1
    have q2 : u = Value.bool true := r'
    subst q2
    refine ⟨rfl, OldK.of_keep fun b o e => ?_, os, bare⟩
    rcases hcases b with z | ⟨e1, _, z⟩
    · exact un.keep b o e z (fun z => absurd (show b ∈ ([] : List Addr) from z) (by simp)) (by simp)
    · obtain ⟨g, _⟩ := ok' b _ (un.frzs b _ _ z)
      obtain ⟨g0, _⟩ := held b _ z
      rw [g0] at e
      rw [← Option.some.inj e]
      exact g
end
theorem walkG {l : PySem.W.OpenLaw} {n k : Nat} {q : Program} {loose : List Str} {XP : (Str → Option Value) → Heap → Prop} {YP : World → Heap → Prop} {d : DefRec} {K : Params → PySem.W.Frag} {sp : PySem.W.Frag → Sp} {x : Str}
    (hn : l.most = some n) (hn2 : n ≤ sizeLine) (hdf : d.params.defaults = []) (hr : Room k callerA) (hY : ∀ (w : World) (h : Heap), YP w h → (K w.params).In h)
    (F : ∀ (w : World) (mg : Str → Option Value) (fa : Addr) (h : Heap), (K w.params).In h → h.Ns mainGlobals mg → mg d.name = some (.ref fa) →
      ∃ fd : FuncData, (∀ (s : Shared) (u : Value), BindsTo s fd ⟨[u], []⟩ [(x, u)]) ∧ ∀ base : Heap, (K w.params).In base → base.Ns mainGlobals mg → FnG l.prog w (K w.params) mg base k fa fd [x] (sp (K w.params)))
    (hsp : ∀ (K : PySem.W.Frag) (H : Hp) (a : Addr) (ns : List Int), ns.length ≤ n → (∀ z ∈ ns, Builtin.Int.intBits z ≤ 1048576) → SqL K H a (ns.map V.int) → sp K [.ref a] H (fun v _ => v = .bl true) fun _ _ _ => False) :
    PySem.W.WalkO q loose XP YP l.row.toRowW d [] (fun f vs => PySem.call f vs) := by
  refine Att.attach_callB hn hdf ?_
  intro w s₀ s₁ mg mb fa o pm cd doc a vs ns G Y ho hd hcd hmg hobj hints hlen hbits hg
  obtain ⟨fd, hb, hF⟩ := F w mg fa _ (hY w _ Y) G.T.g hmg
  exact lawG (hY w _ Y) G.T.g G.T.b G.T.builtins G.T.nolimit hg hobj hints (Nat.le_trans hlen hn2) hr hF hb fun H _ hS => hsp _ H a ns hlen hbits hS
/-! ### repr of data -/
mutual
/-- how long its text is at most -/
def szD : PyData → Nat
  | .none => 4
  | .bool _ => 5
  | .int _ => 301
  | .str x => (reprText x).length
  | .list xs => szAll xs + 2
  | .tuple xs => szAll xs + 3
  | .dict _ => 2
def szAll : List PyData → Nat
  | [] => 0
  | x :: xs => szD x + 2 + szAll xs
end
mutual
/-- ints of moderate size, no dict -/
def modD : PyData → Bool
  | .none | .bool _ | .str _ => true
  | .int i => decide (i.natAbs < 2 ^ 300)
  | .list xs | .tuple xs => modAll xs
  | .dict _ => false
def modAll : List PyData → Bool
  | [] => true
  | x :: xs => modD x && modAll xs
end
theorem log_of {i : Int} (h : i.natAbs < 2 ^ 300) : i.natAbs.log2 < 300 := PySem.Flt.log2_lt_of (by decide) h
mutual
theorem showable_of : ∀ d : PyData, modD d = true → d.showable = true
  | .none, _ => by rw [PyData.showable]
  | .bool _, _ => by rw [PyData.showable]
  | .str _, _ => by rw [PyData.showable]
  | .int i, h => by
    rw [modD] at h
    rw [PyData.showable]
    have := log_of (of_decide_eq_true h)
    exact decide_eq_true (by omega)
  | .list xs, h => by
    rw [modD] at h
    rw [PyData.showable]
    exact showableAll_of xs h
  | .tuple xs, h => by
    rw [modD] at h
    rw [PyData.showable]
    exact showableAll_of xs h
  | .dict _, h => by rw [modD] at h; cases h
theorem showableAll_of : ∀ xs : List PyData, modAll xs = true → PyData.showableAll xs = true
  | [], _ => by rw [PyData.showableAll]
  | x :: xs, h => by
    rw [modAll, Bool.and_eq_true] at h
    rw [PyData.showableAll, showable_of x h.1, showableAll_of xs h.2]
    rfl
end
mutual
theorem nodict_of : ∀ d : PyData, modD d = true → d.hasDict = false
  | .none, _ => by rw [PyData.hasDict]
  | .bool _, _ => by rw [PyData.hasDict]
  | .str _, _ => by rw [PyData.hasDict]
  | .int i, h => by rw [PyData.hasDict]
  | .list xs, h => by
    rw [modD] at h
    rw [PyData.hasDict]
    exact nodictAll_of xs h
  | .tuple xs, h => by
    rw [modD] at h
    rw [PyData.hasDict]
    exact nodictAll_of xs h
  | .dict _, h => by rw [modD] at h; cases h
theorem nodictAll_of : ∀ xs : List PyData, modAll xs = true → PyData.hasDictAll xs = false
  | [], _ => by rw [PyData.hasDictAll]
  | x :: xs, h => by
    rw [modAll, Bool.and_eq_true] at h
    rw [PyData.hasDictAll, nodict_of x h.1, nodictAll_of xs h.2]
    rfl
end
def pile : List Str → Nat
  | [] => 0
  | t :: r => t.length + 2 + pile r
theorem textFrom_le : ∀ (ts : List Str) (k : Nat) (acc : Str), (textFrom k acc ts).length ≤ acc.length + pile ts
  | [], k, acc => by show acc.length ≤ acc.length + 0; omega
  | t :: r, k, acc => by
    have ih := textFrom_le r (k + 1) (acc ++ (if k > 0 then ", " else "" : String) ++ t)
    have e : (acc ++ (if k > 0 then ", " else "" : String) ++ t).length ≤ acc.length + 2 + t.length := by
      rw [strLen_append, strLen_append]
      split
      · show acc.length + 2 + t.length ≤ _; omega
      · show acc.length + 0 + t.length ≤ _; omega
    show (textFrom (k + 1) (acc ++ (if k > 0 then ", " else "" : String) ++ t) r).length ≤ acc.length + (t.length + 2 + pile r)
    omega
theorem listText_le (ts : List Str) : (listText ts).length ≤ pile ts + 2 := by
  unfold listText
  have h := textFrom_le ts 0 "["
  rw [strLen_append]
  have e1 : (("[" : String) : Str).length = 1 := rfl
  have e2 : (("]" : String) : Str).length = 1 := rfl
  rw [e2]
  rw [e1] at h
  omega
theorem join_le : ∀ ts : List Str, (Str.join ", " ts).length ≤ pile ts
  | [] => Nat.zero_le _
  | [x] => by show x.length ≤ x.length + 2 + 0; omega
  | x :: y :: r => by
    have ih := join_le (y :: r)
    show (x ++ ", " ++ Str.join ", " (y :: r)).length ≤ x.length + 2 + pile (y :: r)
    rw [strLen_append, strLen_append]
    have e2 : ((", " : String) : Str).length = 2 := rfl
    rw [e2]
    omega
theorem tupleText_le (ts : List Str) : (tupleText ts).length ≤ pile ts + 3 := by
  unfold tupleText
  have h := join_le ts
  rw [strLen_append, strLen_append]
  have e1 : (("(" : String) : Str).length = 1 := rfl
  have e2 : ((if ts.length == 1 then ",)" else ")" : String) : Str).length ≤ 2 := by
    split
    · exact Nat.le_refl _
    · exact Nat.le_succ _
  rw [e1]
  omega
mutual
theorem shown_le : ∀ d : PyData, modD d = true → d.shown.length ≤ szD d
  | .none, _ => by rw [PyData.shown, szD]; decide
  | .bool b, _ => by rw [PyData.shown, szD]; cases b <;> decide
  | .str x, _ => by rw [PyData.shown, szD]; exact Nat.le_refl _
  | .int i, h => by
    rw [modD] at h
    rw [PyData.shown, szD]
    have := int_text_length_le (k := 300) (by decide) (log_of (of_decide_eq_true h))
    have e : (Str.ofString (toString i)).length = (toString i).length := PySem.ofString_length _
    rw [e]
    omega
  | .list xs, h => by
    rw [modD] at h
    rw [PyData.shown, szD]
    have := listText_le (PyData.shownAll xs)
    have := shownAll_le xs h
    omega
  | .tuple xs, h => by
    rw [modD] at h
    rw [PyData.shown, szD]
    have := tupleText_le (PyData.shownAll xs)
    have := shownAll_le xs h
    omega
  | .dict _, h => by rw [modD] at h; cases h
theorem shownAll_le : ∀ xs : List PyData, modAll xs = true → pile (PyData.shownAll xs) ≤ szAll xs
  | [], _ => by rw [PyData.shownAll, szAll]; exact Nat.le_refl _
  | x :: xs, h => by
    rw [modAll, Bool.and_eq_true] at h
    have h1 := shown_le x h.1
    have h2 := shownAll_le xs h.2
    rw [PyData.shownAll, szAll]
    show x.shown.length + 2 + pile (PyData.shownAll xs) ≤ _
    omega
end
/-! ### data of the heap is read -/
section
variable {X : Cx} {pins : List (Addr × Obj)} {σ : L2.St} {H : Hp} {s : Shared}
mutual
theorem DV.reads (I : Inv X pins σ H s) : ∀ (d : PyData) (v : V) (u : Value), DV X.K H v d → RelV v u → ∃ as, Reads s.heap u d as
  | .none, _, _, .non, r => ⟨_, (show _ = Value.none from r) ▸ Reads.none⟩
  | .bool b, _, _, .bl _, r => ⟨_, (show _ = Value.bool b from r) ▸ Reads.bool b⟩
  | .int i, _, _, .int _, r => by
    obtain ⟨t, q⟩ := r
    rw [q]
    exact ⟨_, Reads.int i t⟩
  | .str x, _, _, .str _, r => by
    obtain ⟨t, q⟩ := r
    rw [q]
    exact ⟨_, Reads.str x t⟩
  | .list ds, _, u, .lst h t, r => by
    have r' : u = Value.ref _ := r
    subst r'
    obtain ⟨its, rv, ⟨o, n, ho, hc, _, hd⟩, _⟩ := I.list h
    obtain ⟨as, hr⟩ := DVs.reads I ds _ its t rv
    exact ⟨_, Reads.list ho hc hd hr⟩
  | .tuple ds, _, u, .tup h t, r => by
    have r' : u = Value.ref _ := r
    subst r'
    obtain ⟨its, rv, ⟨o, ho, hc, n, hd⟩, _⟩ := I.tuple h
    obtain ⟨as, hr⟩ := DVs.reads I ds _ its t rv
    exact ⟨_, Reads.tuple ho hc hd hr⟩
  | .dict _, _, u, .dk0 h, r => by
    have r' : u = Value.ref _ := r
    subst r'
    obtain ⟨_, _, vs, rel, o, es, ep, h1, h2, h3, h4⟩ := I.hok _ _ h
    cases rel
    have e0 : es.toList = [] := by
      have h5 := h4.2.1
      generalize es.toList = l at h5 ⊢
      cases h5
      rfl
    refine ⟨_, Reads.dict (as := []) (bs := []) h1 h2.1 h3 ?_ ?_⟩
    · rw [e0]; exact ReadsAll.nil
    · rw [e0]; exact ReadsAll.nil
theorem DVs.reads (I : Inv X pins σ H s) : ∀ (ds : List PyData) (vs : List V) (us : List Value), DVs X.K H vs ds → Vals vs us → ∃ as, ReadsAll s.heap us ds as
  | [], _, _, .nil, r => by
    cases r
    exact ⟨_, ReadsAll.nil⟩
  | d :: ds, _, _, .cons h1 h2, r => by
    cases r with
    | cons r1 r2 =>
      obtain ⟨as, q1⟩ := DV.reads I d _ _ h1 r1
      obtain ⟨bs, q2⟩ := DVs.reads I ds _ _ h2 r2
      exact ⟨_, ReadsAll.cons q1 q2⟩
end
/-- repr of a list or a tuple -/
def rRepr (K : PySem.W.Frag) : List V → Hp → VK → Prop := fun xs H Q => ∃ (a : Addr) (d : PyData), xs = [.ref a] ∧ DV K H (.ref a) d ∧ modD d = true ∧ d.depth ≤ 40 ∧ szD d ≤ 1000000 ∧ Q (.str d.shown) H
theorem call_repr (hg : X.A.guards = some []) (hu : X.A.units + 64 < cLine) : CallR X (.builtin "repr") (rRepr X.K) := by
  intro pins s σ H xs us Q I r h
  obtain ⟨a, d, rfl, hd, hm, hdep, hsz, q⟩ := h
  rw [Vals.ref1 r]
  obtain ⟨as, hr⟩ := DV.reads I d (.ref a) (.ref a) hd rfl
  have hl : d.shown.length ≤ sizeLine := by
    have := shown_le d hm
    rw [sizeLine_eq]
    omega
  exact repr_of_reads' hr (showable_of d hm) (fun z => by rw [nodict_of d hm] at z; cases z) hg (by omega) (fun _ _ e => e) (fun h' u tk kk => ⟨.str d.shown, H, I.kept kk, ⟨_, rfl⟩, q⟩) hl
end
end Hk
/-! # A well: each item is drawn while there is enough; where there is not, an own error tells by how much it falls short; it is caught, and what lacks is added up. A PROGRAM AGAINST A FUNCTION OF PLAIN LEAN, by hand (skel/30_by_hand tells the words and the parts; here what an own error with a field of its own wants more). -/
namespace PySem
namespace LowX
open PySem.W PySem.Calls PyProof.Rows PySem.HandSPX
/-! ### the text of __init__ -/
def iA (p1 p2 : Pos) : Arguments := { posonlyargs := [], args := [{ arg := "self", annotation := none, pos := p1 }, { arg := "value", annotation := none, pos := p2 }], vararg := none, kwonlyargs := [], kw_defaults := [], kwarg := none, defaults := [] }
def iB (q1 q2 q3 q4 : Pos) : List Stmt := [.Assign [.Attribute (.Name "self" q1) "value" q2] (.Name "value" q3) q4]
def iS : Scope := { kind := .function, names := [(PySem.Str.ofString "self", .local), (PySem.Str.ofString "value", .local)], isGenerator := false, isCoroutine := false, more := [] }
/-- what the written part says of Low, at C, and of its __init__, at fI -/
structure LowTxt (K : Frag) (mg : Str → Option Value) (C fI : Addr) : Prop where
  gC : mg "BadMove" = some (.ref C)
  cls : ∃ nm q N bs bm sn sub ab col dd k0 k1 k2 k3 k5, K.lookup C = some (excClassObj nm q C N bs bm true sn sub ab col dd k0 k1 k2 k3 k5 "ValueError.__new__") ∧ refsVE bm = true
  sa : findIn K (.ref C) "__setattr__" = some (some (.builtin "object.__setattr__"))
  ga : findIn K (.ref C) "__getattribute__" = some (some (.builtin "BaseException.__getattribute__"))
  gg : findIn K (.ref C) "__getattr__" = some none
  noN : findIn K (.ref C) "value" = some none
  iC : findIn K (.ref C) "__init__" = some (some (.ref fI))
  tC : typeIn K (.ref fI) = some (.type "function")
  kC : keepIn K (.ref C) = true
  exC : subIn K (.ref C) (.type "BaseException") = some true
  tyC : typeIn K (.ref C) = some (.type "type")
  hdC : hasDictIn K C = true
  te : exmOne K (.ref C) (.ref C) = some true
  fn : ∃ (oc : Value) (od : Option Addr) (doc pm : Value) (an : Option Addr) (cdv ct : Value) (osl : Array (Option Value)) (p1 p2 q1 q2 q3 q4 : Pos),
    K.lookup fI = some ⟨oc, od, .func (fnOf "__init__" "BadMove.__init__" (iA p1 p2) (iB q1 q2 q3 q4) iS .none .none doc pm an cdv ct), osl⟩ ∧ codeIn K cdv "BadMove.__init__" = true
theorem one_size (v : Value) : [v].length ≤ sizeLine := by
  rw [sizeLine_eq]
  exact (by decide : 1 ≤ 16777216)
theorem kept_but {K : Frag} {h h' : Heap} {x : Addr} (X : K.In h) (hx : K.lookup x = none) (k : ∀ b o, b ≠ x → h.get? b = some o → h'.get? b = some o) : K.In h' := fun a o e =>
  k a o (fun z => by rw [z, hx] at e; cases e) (X a o e)
theorem ldC {M : Model} {s : Shared} {name : Str} {scope : Scope} {L a : Addr} {cd : Value} {m : Str → Option Value} {x : Str} {pos : Pos} {v : Value} {Q : Value → Shared → Prop} {A : Around} {E : Value → Shared → Prop} (hn : s.heap.Ns L m) (hv : m x = some v) (h : Q v s)
    (hk : scope.kind = .function := by rfl) (hl : (envOfC name scope L a cd).kindOf x = some .local := by rfl) (hd : (x == ("__debug__" : Str)) = false := by decide) :
    wpAny M A (eval (.Name x pos) (envOfC name scope L a cd)) Q E s := wpAny_Name (wpAny_loadName_local hk hl hn hv h) hd
/-- what __init__ leaves of a fresh exception at x -/
structure InitEnd (h h' : Heap) (x C dx t1 : Addr) (v : Value) : Prop where
  keep : ∀ b o, b ≠ x → h.get? b = some o → h'.get? b = some o
  obj : h'.get? x = some { cls := .ref C, dict := some dx, data := .fields #[.ref t1, .none, .none, .none, .bool false, .none] }
  dbig : h.objs.size ≤ dx
  dne : dx ≠ x
  ns : h'.Ns1 dx (fun y => if y = "value" then some v else none)
/-- a made Low -/
structure OwnMade (h h' : Heap) (e C d : Addr) (v : Value) : Prop where
  keep : ∀ b o, h.get? b = some o → h'.get? b = some o
  new : h.objs.size ≤ e
  obj : ∃ oe vs, h'.get? e = some oe ∧ oe.cls = .ref C ∧ oe.dict = some d ∧ oe.data = .fields vs ∧ vs[1]? = some .none
  dbig : h.objs.size ≤ d
  dne : d ≠ e
  ns : h'.Ns1 d (fun y => if y = "value" then some v else none)
section
variable {prog : Program} {w : World} {A : Around} {E : Value → Shared → Prop} {R : Result → Shared → Prop} {s : Shared} {K : Frag} {mg : Str → Option Value} {C fI : Addr}
theorem low_init (T : LowTxt K mg C fI) {x t0 : Addr} {v : Value} (X : K.In s.heap) (hlim : s.heap.NoLimit) (hx : s.heap.get? x = some (excO C t0)) (hnx : K.lookup x = none) (hroom : A.depth < recursionLimit)
    (hq : ∀ h' tk dx, InitEnd s.heap h' x C dx t0 v → R (.ok (.ret .none)) { s with heap := h', toks := tk }) :
    codeAny (model prog w) A (.call (.ref fI) ⟨[.ref x, v], []⟩) R s := by
  obtain ⟨oc, od, doc, pm, an, cdv, ct, osl, p1, p2, q1, q2, q3, q4, ho, hcd⟩ := T.fn
  obtain ⟨nm, q, N, bs, bm, sn, sub, ab, col, dd, k0, k1, k2, k3, k5, hC, hbm⟩ := T.cls
  have hcl : clsIn K C = some { name := nm, bases := bs, mro := .ref C :: bm, ns := N, qualname := q, hasDict := true, slotNames := sn, subclasses := sub, abstract := ab, collection := col, hasDel := false } := by unfold clsIn; rw [hC] <;> rfl
  refine Att.call_fn (binds := [("self", .ref x), ("value", v)]) X hlim ho hcd hroom (BindsTo.of_eq (by first | rfl | with_unfolding_all rfl)) (by first | rfl | decide | with_unfolding_all rfl) (fun s₁ IC => ?_) rfl rfl rfl
  obtain ⟨h₁, tk₁, rfl⟩ := IC.toInCall.same
  have k : ∀ b o, s.heap.get? b = some o → h₁.get? b = some o := IC.toInCall.keep
  have hn := IC.toInCall.ns
  have hxL : s.heap.objs.size ≠ x := Nat.ne_of_gt (Heap.lt_size hx)
  have X₁ : K.In h₁ := X.keeps k
  have hx₁ := k _ _ hx
  -- self.by = by
  show wpAny _ _ (execs _ _) _ _ _
  refine wpAny_execs_cons (plainObj_wpAny_Assign_Attribute ?_)
  refine ldC (v := v) hn (by first | rfl | with_unfolding_all rfl | kernel_rfl) (ldC (v := .ref x) hn (by first | rfl | with_unfolding_all rfl | kernel_rfl) ?_)
  refine set_plain X₁ (ox := excO C t0) (od := none) ⟨hx₁, rfl, rfl, trivial⟩ T.sa ?_
  refine exc_osa X₁ hx₁ hcl (show refsVE (.ref C :: bm) = true from hbm) rfl T.noN (fun h₃ tk₃ dx k₃ dn dne hx₃ hn₃ => ?_)
  show wpAny _ _ (execs _ _) _ _ _
  have z : s.heap.objs.size < h₁.objs.size := hn.lt
  exact wpAny_execs_nil (hq h₃ tk₃ dx ⟨fun b o hb e => k₃ b o hb (k b o e), hx₃, Nat.le_of_lt (Nat.lt_of_lt_of_le z dn), dne, hn₃⟩)
theorem low_made (T : LowTxt K mg C fI) {v : Value} (X : K.In s.heap) (hlim : s.heap.NoLimit) (hroom : A.depth + 1 < recursionLimit)
    (hq : ∀ h' tk e d, OwnMade s.heap h' e C d v → R (.ok (.ret (.ref e))) { s with heap := h', toks := tk }) :
    codeAny (model prog w) A (.call (.ref C) ⟨[v], []⟩) R s := by
  obtain ⟨nm, q, N, bs, bm, sn, sub, ab, col, dd, k0, k1, k2, k3, k5, hC, hbm⟩ := T.cls
  obtain ⟨hp, g, dr, tk, os⟩ := s
  have k : ∀ b o, hp.get? b = some o → ((hp.push (kdv_tup [v])).push (excO C hp.objs.size)).get? b = some o := fun b o e => Heap.get?_push_of_some _ (Heap.get?_push_of_some _ e)
  have hget : ((hp.push (kdv_tup [v])).push (excO C hp.objs.size)).get? (hp.objs.size + 1) = some (excO C hp.objs.size) := by heap_get
  have hnx : K.lookup (hp.objs.size + 1) = none := by
    cases e : K.lookup (hp.objs.size + 1) with
    | none => rfl
    | some o =>
      have z : hp.get? (hp.objs.size + 1) = some o := X _ _ e
      exact absurd (Nat.lt_of_succ_lt (Heap.lt_size z)) (Nat.lt_irrefl _)
  refine call_own F.excBase_ValueError (fun X => refsVE_contains X bm hbm) (X _ _ hC) (looks_findIn X T.iC) (fun self => bind_fn X self T.tC) (one_size v) ?_
  refine low_init (s := ⟨(hp.push (kdv_tup [v])).push (excO C hp.objs.size), g, dr, tk, os⟩) T (X.keeps k) (hlim.keeps k) hget hnx ?_ fun h' tk' dx ⟨k', hx, dn, dne, hns⟩ => ?_
  · show A.depth + 1 < recursionLimit
    exact hroom
  · have old : ∀ b o, hp.get? b = some o → h'.get? b = some o := fun b o e => k' b o (Nat.ne_of_lt (Nat.lt_succ_of_lt (Heap.lt_size e))) (k b o e)
    have z : hp.objs.size + 1 + 1 ≤ dx := by
      first
        | (simpa only [Heap.size_push] using dn)
        | exact dn
        | (have q := dn; rw [Heap.size_push, Heap.size_push] at q; exact q)
    exact ⟨rfl, hq h' tk' (hp.objs.size + 1) dx ⟨old, Nat.le_succ _, ⟨_, _, hx, rfl, rfl, rfl, rfl⟩, Nat.le_trans (Nat.le_trans (Nat.le_succ _) (Nat.le_succ _)) z, dne, hns⟩⟩
end
end LowX
end PySem
namespace L2
open PySem PySem.Spec PyProof.Rows
theorem relO_low {v : V} {v' : Value} (r : RelV v v') (f : Str) : RelO (List.lookup f [(("value" : Str), v)]) (if f = "value" then some v' else none) := by
  by_cases hw : f = "value"
  · subst hw
    rw [if_pos rfl]
    have q : List.lookup ("value" : Str) [(("value" : Str), v)] = some v := by simp [List.lookup]
    rw [q]
    exact r
  · rw [if_neg hw]
    have qw : (f == ("value" : Str)) = false := by simpa using hw
    have q2 : List.lookup f [(("value" : Str), v)] = none := by simp [List.lookup, qw]
    rw [q2]
    trivial
section
variable {X : Cx} {C fI : Addr}
/-- Low(e) -/
def tMkLow (C : Addr) (ta : TA) : St → Hp → XK → Prop := fun σ H Q => ta σ H fun vs H1 => ∃ v, vs = [v] ∧ ∀ d, H1 d = none → Q (.ref C) (some d) (upd H1 d (.xd [(("value" : Str), v)]))
theorem pmk_low {a : Expr} {ta : TA} {p pos : Pos} {k : Nat} (T : PySem.LowX.LowTxt X.K X.mg C fI) (hr : Room k X.A) (ha : PA X [a] ta) (hg : Gl X "BadMove" := by rfl)
    (he : starEach (a :: []) X.env = (false, eval a X.env) :: starEach [] X.env := by rfl) (hpl : (backTo pos (starEach [] X.env)).any (·.1) = false := by rfl) :
    PMk X (.Call (.Name "BadMove" p) [a] [] pos) (tMkLow C ta) := by
  intro pins s σ H Q I h
  refine wpAny_Call_Name_kw (ld_glob I hg T.gC ?_)
  refine PySem.W.callWith_K (h₀ := X.base) I.ok.mod.kin T.kC (thn (ha.run pos pins s σ H _ I h) fun us s1 hh => ?_) he hpl
  obtain ⟨vs, H1, I1, r1, v, ev, q1⟩ := hh
  subst ev
  refine ⟨I1.kIn, ?_⟩
  cases r1 with
  | cons rv rn =>
    rename_i v' us'
    cases rn
    show wpAny _ _ (call (.ref C) [v']) _ _ _
    have hlim := I1.nolimit
    obtain ⟨hp, g, dr, tk, os⟩ := s1
    refine wpAny_call (PySem.LowX.low_made T I1.kIn hlim (by have := hr.dp; omega) fun h' tk' e d M => ?_)
    show MkP X pins σ Q (.ref e) ⟨h', g, dr, tk', os⟩
    obtain ⟨oe, fv, hoe, hc, hd, hdat, h1⟩ := M.obj
    have hns := M.ns
    obtain ⟨G', g1, g2⟩ := restrict h' fun b => decide (b ≠ e)
    have gk : ∀ b, b ≠ e → G'.get? b = h'.get? b := fun b hb => g1 b (decide_eq_true hb)
    have ge : G'.get? e = none := g2 e (by simp)
    have old : ∀ b o, hp.get? b = some o → G'.get? b = some o := fun b o q => (gk b (Nat.ne_of_lt (Nat.lt_of_lt_of_le (Heap.lt_size q) M.new))).trans (M.keep b o q)
    have ob : ObjOk X.prog X.w (upd H1 d (.xd [(("value" : Str), v)])) G' d (.xd [(("value" : Str), v)]) :=
      ⟨_, hns.at (fun o q => (gk d M.dne).trans q), fun f => relO_low rv f⟩
    have J : Inv X pins σ (upd H1 d (.xd [(("value" : Str), v)])) ⟨G', g, dr, tk', os⟩ := I1.laid (t' := tk') old M.dbig ob
    refine ⟨e, oe, fv, ⟨G', g, dr, tk', os⟩, _, .ref C, some d, rfl, J, fun b o q => ?_, ge, hoe, ⟨hc, hd⟩, hdat, h1, ?_, rfl, I1.bare, raises_own T.exC T.tyC, q1 d (I1.hok.fresh M.dbig)⟩
    · by_cases hb : b = e
      · have q' : G'.get? b = some o := q
        rw [hb, ge] at q'; cases q'
      · exact (gk b hb).symm.trans q
    · rw [upd_ne (Ne.symm M.dne)]
      exact I1.hok.fresh M.new
/-- raise Low(e) -/
def tRaiseLow (C : Addr) (W : WX) (ta : TA) : TS := fun _ σ H => tMkLow C ta σ H fun cls d H' => W cls d σ H'
theorem ps_raiseLow {a : Expr} {ta : TA} {W : WX} {p pos pos2 : Pos} {k : Nat} (hc : X.calm = true) (T : PySem.LowX.LowTxt X.K X.mg C fI) (hr : Room k X.A) (tk : Takes X W) (ha : PA X [a] ta) (hg : Gl X "BadMove" := by rfl)
    (he : starEach (a :: []) X.env = (false, eval a X.env) :: starEach [] X.env := by rfl) (hpl : (backTo pos (starEach [] X.env)).any (·.1) = false := by rfl) :
    PS X (.Raise (some (.Call (.Name "BadMove" p) [a] [] pos)) none pos2) (tRaiseLow C W ta) := ps_raise hc tk (pmk_low T hr ha hg he hpl)
/-- low.by, low the exception that the suite holds (at a; its class cls, its dict d) -/
def tByLow (C : Addr) (a : Addr) (cls : Value) (d : Option Addr) (te : TE) : TE := fun σ H Q => te σ H fun x H1 => x = .ref a ∧ cls = .ref C ∧ ∃ (dd : Addr) (v : V), d = some dd ∧ H1 dd = some (.xd [(("value" : Str), v)]) ∧ Q v H1
theorem pe_byLow {a : Addr} {oe : Obj} {cls : Value} {d : Option Addr} {pn : List (Addr × Obj)} {e : Expr} {te : TE} {pos : Pos} (T : PySem.LowX.LowTxt X.K X.mg C fI) (hz : Zc cls d oe) (hf : ∃ vs, oe.data = .fields vs) (he : PE (X.suite a ((a, oe) :: pn)) e te)
    (hb : attributeBase e "value" X.env (eval e X.env) = eval e X.env := by rfl) :
    PE (X.suite a ((a, oe) :: pn)) (.Attribute e "value" pos) (tByLow C a cls d te) := by
  refine ⟨fun pins s σ H Q I h => ?_⟩
  refine attr_of hb (thn (he.run pins s σ H _ I h) fun u s1 hh => ?_)
  obtain ⟨x, H1, I1, rx, ex, ec, dd, v, ed, ea, q⟩ := hh
  subst ex
  obtain rfl : u = Value.ref a := rx
  subst ec
  subst ed
  obtain ⟨ha, _⟩ := I1.pin (a, oe) (List.mem_append_left _ List.mem_cons_self)
  obtain ⟨vs, hd⟩ := hf
  have hx : ObjOk X.prog X.w H1 s1.heap dd (.xd [(("value" : Str), v)]) := I1.hok dd _ ea
  obtain ⟨mA, hns, hr⟩ := hx
  obtain ⟨od, ho, hl⟩ := lookIn_ns hns
  have l : List.lookup ("value" : Str) [(("value" : Str), v)] = some v := by simp [List.lookup]
  obtain ⟨u, hu, ru⟩ := RelO.some_of (v := v) (o := mA "value") (by rw [← l]; exact hr "value")
  have J : PySem.W.InstAt s1.heap a oe C (some od) := ⟨ha, hz.1, by unfold PySem.W.notCls; rw [hd] <;> rfl, by rw [hz.2]; exact ho⟩
  exact HandSPX.exc_get I1.kIn J T.ga T.gg T.exC (PySem.W.findObj_own T.hdC T.noN rfl (by rw [hl, hu])) (handed_of ru) ⟨v, H1, I1.tok _, ru, q⟩
end
end L2
namespace Hk
open PySem L2 PySem.Spec PyProof.Rows
/-! ### what a value does as a move -/
def doMoveD (js : List Int) : PyData → List Int
  | .tuple [i, b] => doMove js (idsOf i) (intOf b)
  | _ => js
theorem ints_back : ∀ es : List PyData, es.all wholeD = true → es = (es.map intOf).map .int
  | [], _ => rfl
  | e :: r, h => by
    rw [List.all_cons, Bool.and_eq_true] at h
    obtain ⟨y, rfl⟩ : ∃ y, e = .int y := by cases e <;> first | exact ⟨_, rfl⟩ | cases h.1
    show PyData.int y :: r = PyData.int y :: (r.map intOf).map .int
    rw [← ints_back r h.2]
theorem isMove_is {js : List Int} {d : PyData} (h : isMove js d = true) : ∃ ks b, d = .tuple [.tuple (ks.map .int), .int b] ∧ MoveOk js ks b ∧ doMoveD js d = doMove js ks b := by
  have two : ∃ i b, d = .tuple [i, b] := by
    match d, h with
    | .tuple [i, b], _ => exact ⟨i, b, rfl⟩
    | .tuple [], h => cases h
    | .tuple [_], h => cases h
    | .tuple (_ :: _ :: _ :: _), h => cases h
    | .none, h => cases h
    | .bool _, h => cases h
    | .int _, h => cases h
    | .str _, h => cases h
    | .list _, h => cases h
    | .dict _, h => cases h
  obtain ⟨i, b, rfl⟩ := two
  have h2 : isMove2 js i b = true := h
  unfold isMove2 at h2
  simp only [Bool.and_eq_true] at h2
  obtain ⟨⟨hA, hB⟩, hC⟩ := h2
  obtain ⟨z, rfl⟩ : ∃ z, b = .int z := by cases b <;> first | exact ⟨_, rfl⟩ | cases hB
  cases i with
  | tuple es =>
    have hA' : areIdsL js es = true := hA
    unfold areIdsL at hA'
    simp only [Bool.and_eq_true] at hA'
    obtain ⟨⟨⟨a1, a2⟩, a3⟩, a4⟩ := hA'
    have ees := ints_back es a2
    refine ⟨es.map intOf, z, by rw [← ees], ⟨?_, ?_, of_decide_eq_true a4, ?_⟩, rfl⟩
    · intro q
      have : es = [] := List.map_eq_nil_iff.mp q
      rw [this] at a1; cases a1
    · intro k hk
      exact of_decide_eq_true (List.all_eq_true.mp a3 k hk)
    · have hC' : (decide (z = 0) || (decide (z ∈ js) && !decide (z ∈ es.map intOf))) = true := hC
      rw [Bool.or_eq_true, Bool.and_eq_true] at hC'
      rcases hC' with q | ⟨q1, q2⟩
      · exact .inl (of_decide_eq_true q)
      · exact .inr ⟨of_decide_eq_true q1, by simpa using q2⟩
  | _ => cases hA
/-- the tuple of a value that is a move -/
theorem DV.move {K : PySem.W.Frag} {H : Hp} {v : V} {js ks : List Int} {b : Int} (h : DV K H v (.tuple [.tuple (ks.map .int), .int b])) : ∃ m i, v = .ref m ∧ SqT K H m [.ref i, .int b] ∧ SqT K H i (ks.map V.int) := by
  cases h with
  | tup h1 h2 =>
    cases h2 with
    | cons p t =>
      cases t with
      | cons q t2 =>
        cases t2
        cases q
        cases p with
        | tup h3 h4 =>
          have e := whole_all h4 (all_whole ks)
          rw [ints_of_map] at e
          subst e
          exact ⟨_, _, rfl, h1, h3⟩
def smallM (d : PyData) : Prop := ∀ ds b, d = .tuple [.tuple ds, b] → ds.length ≤ 4000
section
variable {P : Program} {w : World} {K : PySem.W.Frag} {mg : Str → Option Value} {base : Heap} {C fI : Addr}
def ValE (C : Addr) (v : V) (H : Hp) (E : XK) : Prop := ∀ e H', Same H H' → H' e = none → E (.ref C) (some e) (upd H' e (.xd [("value", v)]))
def spDoX (K : PySem.W.Frag) (C : Addr) : Sp := fun vs H Q E => ∃ (o : Addr) (js : List Int) (v : V) (d : PyData), vs = [.ref o, v] ∧ SqL K H o (js.map V.int) ∧ js.length ≤ 4000 ∧ DV K H v d ∧ smallM d ∧
  (isMove js d = true → ∀ (p : Addr) (H' : Hp), H p = none → Same H H' → H' p = some (.lst ((doMoveD js d).map V.int)) → Q (.ref p) H') ∧ (isMove js d = false → ValE C v H E)
theorem ok_doX {f fM fA fW fD : Addr} {fd fdM fdA fdW fdD : FuncData} (F : Fun K "do_move" "do_move" sDoMove f fd) (T : TxtV mg) (L : PySem.LowX.LowTxt K mg C fI) (FW : Fun K "is_whole" "is_whole" sWhole fW fdW) (bW : L2.Binds K fdW ["value"] []) (mW : mg "is_whole" = some (.ref fW))
    (FD : Fun K "all_different" "all_different" sDiff fD fdD) (bD : L2.Binds K fdD ["numbers"] []) (mD : mg "all_different" = some (.ref fD))
    (FA : Fun K "are_ids_of" "are_ids_of" sAreIds fA fdA) (bA : L2.Binds K fdA ["order", "value"] []) (mA : mg "are_ids_of" = some (.ref fA))
    (FM : Fun K "is_move" "is_move" sIsMove fM fdM) (bM : L2.Binds K fdM ["order", "value"] []) (mM : mg "is_move" = some (.ref fM)) : FnOk P w K mg base (L2.CX P w) 4 f fd ["order", "move"] (spDoX K C) := by
  have GM : FnOk P w K mg base CX0 3 fM fdM ["order", "value"] (spIsMove K) := ok_isMove FM T FW bW mW FD bD mD FA bA mA
  refine F.okX scDo (fun vs H Q E h => ?_) (fun cdv A outer s H vs Q E hr h => ?_)
  · obtain ⟨o, js, v, d, rfl, _⟩ := h
    rfl
  · obtain ⟨o, js, v, d, rfl, hO, hj, hd, hsm, k, kE⟩ := h
    refine ⟨_, pss_cons (ps_if (pt_not (pt_val (pe_call GM hr rfl mM FM.kp bM .nil pass0 (pa_cons (pv 0) (pa_cons (pv 1) pa_nil))))) (pss_one (ps_raiseLow rfl L hr (takes_of rfl rfl rfl rfl) (by exact (pa_cons (pv 1) pa_nil)))) pss_nil)
      (pss_cons (ps_asg (pv 1) (pg_tup (by rfl) (pgs_cons (pg_name (i := 2) scDo.nd rfl (Or.inl rfl)) (pgs_cons (pg_name (i := 3) scDo.nd rfl (Or.inl rfl)) pgs_nil))))
      (pss_cons (ps_set (i := 4) scDo.nd rfl (Or.inr rfl) (pe_callTy (cr_setI rfl) (by rfl) T.set (by decide +kernel) (pa_cons (pv 2) pa_nil)))
      (pss_cons (ps_setLc (i := 5) (own := [("row_id", 7)]) (g := gName 7) rfl scDo.nd rfl rfl (sw_true rfl rfl rfl (by decide +kernel)) (pi_list (pv 0)) (blkOk_by (N := ["order", "move", "ids", "behind", "taken", "rest", "at", "row_id"]) (sc := defScope sDoMove) (by decide +kernel)) (fun _ _ _ _ _ => pg_name (i := 7) scDo.nd rfl (Or.inl rfl))
          (fun _ _ _ _ _ => pts_one (pt_cmpR op_notInSet (pv 7) (pv 4) (by rfl))) (fun _ _ _ _ _ => pv 7))
      (pss_cons (ps_set (i := 6) scDo.nd rfl (Or.inl rfl) (pe_ifExp (pt_cmpR op_eq (pv 3) pe_int (nomark _)) pe_int (pe_op op_add (pe_bm PySem.F.plainAttrs_list PySem.F.slot_list_index PySem.F.type_list_index mt_index (pv 5) (pa_cons (pv 3) pa_nil)) pe_int)))
      (pss_one (ps_ret (pe_op op_cat (pe_op op_cat (pe_slice sl_list (pv 5) po_none (po_some (pv 6))) (pe_callTy call_list_of (by rfl) T.list (by decide +kernel) (pa_cons (pv 2) pa_nil))) (pe_slice sl_list (pv 5) (po_some (pv 6)) po_none)))))))), ?_⟩
    refine ⟨_, rfl, _, rfl, o, js, v, d, rfl, hO, hj, hd, hsm, fun H1 s1 => ⟨_, rfl, ?_⟩⟩
    cases hm : isMove js d with
    | false =>
      refine iteT ?_
      exact ⟨_, rfl, _, rfl, fun e he => kE hm e H1 s1 he⟩
    | true =>
      refine iteF ?_
      obtain ⟨ks, b, rfl, ok, ed⟩ := isMove_is hm
      obtain ⟨m, i, rfl, hM, hI⟩ := hd.move (js := js)
      have hk : ks.length ≤ 4000 := by have := hsm _ _ rfl; rw [List.length_map] at this; exact this
      refine ⟨_, rfl, m, _, rfl, Same.tq s1 hM, rfl, _, _, rfl, _, _, rfl, rfl, ?_⟩
      -- taken = set(ids)
      refine ⟨_, rfl, i, ks, rfl, .inr (Same.tq s1 hI), hk, fun q S n hq hS hn => ?_⟩
      have s2 : Same H (upd H1 q (.set S n)) := s1.trans (Same.new hq)
      refine ⟨_, rfl, o, rfl, ⟨_, Same.sq s2 hO⟩, fun D hD => ?_⟩
      refine lc_list (K := K) (a := o) (xs := js.map V.int) (fun i H' => Same (upd H1 q (.set S n)) H' ∧ H' D = some (.lst (((js.take i).filter fun k => decide (k ∉ ks)).map V.int))) ⟨Same.new hD, upd_same⟩ (fun i H' _ q => Same.sq (s2.trans q.1) hO) ?_ ?_
      · rintro i x H' hx ⟨s3, hL⟩
        rw [List.getElem?_map] at hx
        obtain ⟨z, hz2, rfl⟩ : ∃ z, js[i]? = some z ∧ x = V.int z := by
          cases hq2 : js[i]? with
          | none => rw [hq2] at hx; cases hx
          | some z => rw [hq2] at hx; exact ⟨z, rfl, (Option.some.inj hx).symm⟩
        refine ⟨rfl, ?_⟩
        refine ⟨_, rfl, _, rfl, z, q, S, n, rfl, rfl, s3 _ _ upd_same, _, rfl, ?_⟩
        show if (!S z) = true then _ else _
        rw [hS.1 z]
        have hf := filter_int js ks i hz2
        refine ite2 (fun c => ?_) (fun c => ?_)
        · have hz : z ∉ ks := by simpa using c
          rw [if_neg hz] at hf
          refine ⟨_, rfl, _, hL, ?_, ?_, ?_⟩
          · rw [List.length_map]
            have := List.length_filter_le (fun k => decide (k ∉ ks)) (js.take i)
            have : (js.take i).length ≤ js.length := by rw [List.length_take]; omega
            exact Nat.lt_of_le_of_lt (by omega : _ ≤ 4000) (by decide)
          · intro b u hb
            rw [upd_ne (ne_of_none hb hD)]
            exact s3 b u hb
          · rw [upd_same, hf, List.map_append]
            rfl
        · have hz : z ∈ ks := by simpa using c
          rw [if_pos hz] at hf
          exact ⟨s3, by rw [hf]; exact hL⟩
      · rintro H3 ⟨s3, hL⟩
        rw [List.length_map, List.take_length] at hL
        have s4 : Same H H3 := s2.trans s3
        have hlen : (js.filter fun k => decide (k ∉ ks)).length ≤ 4000 := Nat.le_trans (List.length_filter_le _ _) hj
        rw [ed] at k
        generalize hR : (js.filter fun k => decide (k ∉ ks)) = R at *
        have fin : ∀ (at' : Nat) (σ' : L2.St), at' = (if b = 0 then 0 else R.idxOf b + 1) → σ' = [some (.ref o), some (.ref m), some (.ref i), some (.int b), some (.ref q), some (.ref D), some (.int at'), none] →
            (tRet (tOp rCat (tOp rCat (tSl (rSlL K) (tVar 5) tNoPart (tPart (tVar 6))) (tCB (fun xs H Q => ∃ p ys, xs = [.ref p] ∧ (SqL K H p ys ∨ SqT K H p ys) ∧ ∀ l, H l = none → Q (.ref l) (upd H l (.lst ys))) (tCons (tVar 2) tNil))) (tSl (rSlL K) (tVar 5) (tPart (tVar 6)) tNoPart))) { nx := fun _ H' => Q .non H', rt := Q } σ' H3 := by
          rintro at' σ' hat rfl
          have l1 := cutV_length (R.map V.int) none (some (at' : Int))
          have l2 := cutV_length (R.map V.int) (some (at' : Int)) none
          rw [List.length_map] at l1 l2
          have e16 : sizeLine = 16777216 := sizeLine_eq
          refine ⟨_, rfl, _, rfl, _, rfl, D, _, rfl, SqL.of hL, fun p1 hp1 => ?_⟩
          have t1 := Same.new (o := .lst (cutV (R.map V.int) none (some (at' : Int)))) hp1
          refine ⟨_, rfl, i, _, rfl, .inr (Same.tq (s4.trans t1) hI), fun l hl => ?_⟩
          have t2 := Same.new (o := .lst (ks.map V.int)) hl
          refine ⟨p1, l, _, _, rfl, rfl, t2 _ _ upd_same, upd_same, (by rw [List.length_map, e16]; omega), fun p2 hp2 => ?_⟩
          have t3 := Same.new (o := .lst (cutV (R.map V.int) none (some (at' : Int)) ++ ks.map V.int)) hp2
          refine ⟨_, rfl, _, rfl, _, rfl, D, _, rfl, SqL.of (t3 _ _ (t2 _ _ (t1 _ _ hL))), fun p3 hp3 => ?_⟩
          have t4 := Same.new (o := .lst (cutV (R.map V.int) (some (at' : Int)) none)) hp3
          refine ⟨p2, p3, _, _, rfl, rfl, t4 _ _ upd_same, upd_same, (by rw [List.length_append, List.length_map, e16]; omega), fun p4 hp4 => ?_⟩
          have t5 := Same.new (o := .lst ((cutV (R.map V.int) none (some (at' : Int)) ++ ks.map V.int) ++ cutV (R.map V.int) (some (at' : Int)) none)) hp4
          have sAll : Same H _ := s4.trans (t1.trans (t2.trans (t3.trans (t4.trans t5))))
          have sB : Same H _ := s4.trans (t1.trans (t2.trans (t3.trans t4)))
          refine k hm p4 _ (sB.free hp4) sAll ?_
          rw [upd_same, cut_to, cut_from]
          unfold doMove
          rw [hR, ← hat, List.map_append, List.map_append, List.map_take, List.map_drop]
        refine ⟨_, rfl, rfl, _, rfl, ?_⟩
        rw [show decide (V.int b = V.int 0) = decide (b = 0) from by rw [dec_int]; rfl]
        refine ite2 (fun c => ?_) (fun c => ?_)
        · have hb : b = 0 := of_decide_eq_true c
          exact fin 0 _ (by rw [if_pos hb]) rfl
        · have hb : ¬ b = 0 := fun e => c (decide_eq_true e)
          have hmem : b ∈ R := by
            rcases ok.2.2.2 with h | ⟨h1, h2⟩
            · exact absurd h hb
            · rw [← hR]
              exact List.mem_filter.mpr ⟨h1, decide_eq_true h2⟩
          refine ⟨_, rfl, .inl ⟨rfl, _, SqL.of hL⟩, _, rfl, D, _, .int b, R.idxOf b, .int b, rfl, rfl, SqL.of hL, rfl, all_flat R, ?_, ?_, ?_, ?_⟩
          · rw [List.getElem?_map, idx_at hmem]; rfl
          · rw [eqV_int]; exact decide_eq_true rfl
          · intro m' z' hm hz
            rw [List.getElem?_map] at hz
            cases hq2 : R[m']? with
            | none => rw [hq2] at hz; cases hz
            | some z =>
              rw [hq2] at hz
              have : z' = V.int z := (Option.some.inj hz).symm
              rw [this, eqV_int]
              exact decide_eq_false (idx_first hm hq2)
          · refine ⟨_, _, rfl, rfl, ?_⟩
            exact fin (R.idxOf b + 1) _ (by rw [if_neg hb]) rfl
/-! ### do_moves -/
def movesAll (js : List Int) (ds : List PyData) : List Int := ds.foldl doMoveD js
def movesOk (js : List Int) : List PyData → Bool
  | [] => true
  | d :: r => isMove js d && movesOk (doMoveD js d) r
theorem movesOk_snoc : ∀ (ds : List PyData) (js : List Int) (d : PyData), movesOk js (ds ++ [d]) = (movesOk js ds && isMove (movesAll js ds) d)
  | [], js, d => by simp [movesOk, movesAll]
  | e :: r, js, d => by
    show (isMove js e && movesOk (doMoveD js e) (r ++ [d])) = (isMove js e && movesOk (doMoveD js e) r && isMove (movesAll (doMoveD js e) r) d)
    rw [movesOk_snoc r]
    rw [Bool.and_assoc]
theorem movesAll_snoc (ds : List PyData) (js : List Int) (d : PyData) : movesAll js (ds ++ [d]) = doMoveD (movesAll js ds) d := by
  unfold movesAll
  rw [List.foldl_append]
  rfl
/-- a move keeps the ids -/
theorem doMoveD_ids {js : List Int} {d : PyData} (h : isMove js d = true) (hj : js.Nodup) : (doMoveD js d).Nodup ∧ ∀ k, k ∈ doMoveD js d ↔ k ∈ js := by
  obtain ⟨ks, b, rfl, ok, e⟩ := isMove_is h
  rw [e]
  exact ⟨nodup_doMove hj ok.2.2.1, fun k => mem_doMove ok.2.1⟩
theorem movesAll_ids : ∀ (ds : List PyData) {js : List Int}, movesOk js ds = true → js.Nodup → (movesAll js ds).Nodup ∧ ∀ k, k ∈ movesAll js ds ↔ k ∈ js
  | [], js, _, hj => ⟨hj, fun k => Iff.rfl⟩
  | d :: r, js, h, hj => by
    have h' : (isMove js d && movesOk (doMoveD js d) r) = true := h
    rw [Bool.and_eq_true] at h'
    obtain ⟨n1, m1⟩ := doMoveD_ids h'.1 hj
    obtain ⟨n2, m2⟩ := movesAll_ids r h'.2 n1
    exact ⟨n2, fun k => (m2 k).trans (m1 k)⟩
theorem movesAll_len {ds : List PyData} {js : List Int} (h : movesOk js ds = true) (hj : js.Nodup) : (movesAll js ds).length ≤ js.length := by
  obtain ⟨n, m⟩ := movesAll_ids ds h hj
  exact len_le_of_sub _ _ n fun k hk => (m k).mp hk
def spMoves (K : PySem.W.Frag) (C : Addr) : Sp := fun vs H Q E => ∃ (o t : Addr) (js : List Int) (ws : List V) (ds : List PyData), vs = [.ref o, .ref t] ∧ SqL K H o (js.map V.int) ∧ js.length ≤ 4000 ∧ js.Nodup ∧ SqT K H t ws ∧ DVs K H ws ds ∧ (∀ d ∈ ds, smallM d) ∧
  (movesOk js ds = true → ∀ (p : Addr) (H' : Hp), H p = none → Same H H' → H' p = some (.lst ((movesAll js ds).map V.int)) → Q (.ref p) H') ∧
  (∀ (i : Nat) (v : V) (d : PyData), ws[i]? = some v → ds[i]? = some d → movesOk js (ds.take i) = true → isMove (movesAll js (ds.take i)) d = false → ValE C v H E)
theorem scMoves : FnScope ["order", "moves", "result", "move"] ((["order"] : List Str) ++ [("moves" : Str)]) (defScope sDoMoves) := ⟨rfl, rfl, rfl, by decide +kernel, rfl, by decide +kernel, by decide +kernel⟩
theorem ok_moves {f fD : Addr} {fd fdD : FuncData} (F : Fun K "do_moves" "do_moves" sDoMoves f fd) (T : TxtV mg) (GD : FnOk P w K mg base (L2.CX P w) 4 fD fdD ["order", "move"] (spDoX K C)) (mD : mg "do_move" = some (.ref fD)) (kD : PySem.W.keepIn K (.ref fD) = true) (bD : L2.Binds K fdD ["order", "move"] [])
    (hb : ∀ us rest : List Value, us.length = ([("order" : Str)]).length → bindArgs fd ⟨us ++ rest, []⟩ = (newTuple rest >>= fun t => pure ([("order" : Str)].zip us ++ [(("moves" : Str), t)]))) :
    FnR P w K mg base (L2.CX P w) 5 f (fun vs H Q E => ∃ ws rest, vs = ws ++ rest ∧ ws.length = (["order"] : List Str).length ∧ rest.length ≤ sizeLine ∧ ∀ p, H p = Option.none → spMoves K C (ws ++ [V.ref p]) (upd H p (.tup rest)) Q E) := by
  obtain ⟨oc, od, kV, doc, pm, an, cdv, ct, osl, rfl, lk, hcd⟩ := F.ex
  refine StX.fn_star (ps := ["order"]) (N := ["order", "moves", "result", "move"]) lk hcd scMoves StX.cxUp hb ?_
  intro A outer s H vs Q E hr h
  obtain ⟨o, t, js, ws, ds, rfl, hO, hj, hn, hT, hD, hsm, k, kE⟩ := h
  refine ⟨_, pss_cons (ps_set (i := 2) scMoves.nd rfl (Or.inl rfl) (pe_callTy call_list_of (by rfl) T.list (by decide +kernel) (pa_cons (pv 0) pa_nil)))
    (pss_cons (ps_for (passes_of rfl) rfl (pi_tup (pv 1)) (pg_name (i := 3) scMoves.nd rfl (Or.inl rfl))
      (pss_one (ps_set (i := 2) scMoves.nd rfl (Or.inl rfl) (pe_call GD hr rfl mD kD bD .nil (passes_call (takes_of rfl rfl rfl rfl) (fun _ _ _ _ h => h)) (pa_cons (pv 2) (pa_cons (pv 3) pa_nil))))))
    (pss_one (ps_ret (pv 2)))), ?_⟩
  refine ⟨_, rfl, o, _, rfl, .inl hO, fun p hp => ?_⟩
  refine ⟨_, rfl, t, rfl, ⟨_, Same.tq (Same.new hp) hT⟩, ?_⟩
  refine for_tup (K := K) (a := t) (xs := ws) (fun i σ H' => ∃ (r : Addr) (v : Option V), σ = [some (.ref o), some (.ref t), some (.ref r), v] ∧ movesOk js (ds.take i) = true ∧ H r = none ∧ Same H H' ∧ H' r = some (.lst ((movesAll js (ds.take i)).map V.int)))
    ⟨p, none, rfl, by rw [List.take_zero]; rfl, hp, Same.new hp, by rw [upd_same, List.take_zero]; rfl⟩ (fun i σ H' _ ⟨_, _, _, _, _, s1, _⟩ => Same.tq s1 hT) ?_ ?_
  · rintro i x σ H1 hx ⟨r, v, rfl, hok, hr0, s1, hL⟩
    obtain ⟨d, hd, hdv⟩ := hD.at hx
    have hdm := List.mem_of_getElem? hd
    have hlen := movesAll_len hok hn
    refine ⟨_, rfl, _, rfl, r, movesAll js (ds.take i), x, d, rfl, SqL.of hL, by omega, hdv.same s1, hsm d hdm, fun hm p' H2 hp' s2 hL2 => ?_, fun hm => ?_⟩
    · refine ⟨p', _, rfl, ?_, s1.free hp', s1.trans s2, ?_⟩
      · rw [take_snoc hd, movesOk_snoc, hok, hm]; rfl
      · rw [take_snoc hd, movesAll_snoc]; exact hL2
    · intro e H2 s2 he
      exact kE i x d hx hd hok hm e H2 (s1.trans s2) he
  · rintro σ H1 ⟨r, v, rfl, hok, hr0, s1, hL⟩
    rw [hD.length, List.take_length] at hok hL
    exact ⟨_, rfl, k hok r H1 hr0 s1 hL⟩
end
theorem seqIndex_nat {k n : Nat} (h : k < n) : seqIndex? (k : Int) n = some k := by
  unfold seqIndex?
  have h1 : ¬ ((k : Int) < 0) := by omega
  simp only [h1, if_false]
  have h2 : (decide (0 ≤ (k : Int)) && decide ((k : Int) < (n : Int))) = true := by
    rw [Bool.and_eq_true]
    exact ⟨decide_eq_true (by omega), decide_eq_true (by omega)⟩
  rw [if_pos h2]
  simp
theorem erase_map (js : List Int) (k : Nat) : (js.map V.int).eraseIdx k = (js.eraseIdx k).map V.int := by
  exact L2.erase_mapI js k
section
variable {P : Program} {w : World} {K : PySem.W.Frag} {mg : Str → Option Value} {base : Heap}
/-! ### the things in a drawn sequence -/
def spShuf (K : PySem.W.Frag) : Sp := fun vs H Q _ => ∃ (d t : Addr) (js : List Int), vs = [.ref d, .ref t] ∧ DeckAt H d ∧ SqL K H t (js.map V.int) ∧ js.length ≤ 300 ∧
  ∀ (p : Addr) (ks : List Int) (H' : Hp), H p = none → But d H H' → DeckAt H' d → H' p = some (.lst (ks.map V.int)) → ks.Perm js → Q (.ref p) H'
structure TxtS (mg : Str → Option Value) : Prop where
  len : mg "len" = none
  list : mg "list" = none
theorem scShuf : FnScope ["deck", "things", "left", "found"] ["deck", "things"] (defScope sShuf) := ⟨rfl, rfl, rfl, by decide +kernel, rfl, by decide +kernel, by decide +kernel⟩
theorem ok_shuf {f fD : Addr} {fd fdD : FuncData} (F : Fun K "_law_shuffled" "_law_shuffled" sShuf f fd) (T : TxtS mg) (FD : Fun K "_law_draw" "_law_draw" sDraw fD fdD) (bD : L2.Binds K fdD ["deck", "size"] []) (mD : mg "_law_draw" = some (.ref fD)) :
    FnOk P w K mg base CX0 2 f fd ["deck", "things"] (spShuf K) := by
  have GD : FnOk P w K mg base CX0 1 fD fdD ["deck", "size"] spDraw := ok_draw FD
  refine F.ok scShuf (fun vs H Q E h => ?_) (fun cdv A outer s H vs Q E hr h => ?_)
  · obtain ⟨d, t, js, rfl, _⟩ := h
    rfl
  · obtain ⟨d, t, js, rfl, D, hT, hj, k⟩ := h
    have h64 := hu64 hr
    refine ⟨_, pss_cons (ps_par (i := 2) (j := 3) (by rfl) scShuf.nd rfl rfl (by decide) rfl rfl (pa_cons (pe_callTy call_list_of (by rfl) T.list (by decide +kernel) (pa_cons (pv 1) pa_nil)) (pa_cons (pe_lst pa_nil) pa_nil)) (by rfl))
      (pss_cons (ps_while PassesOwn.never (pt_cmpR (op_neL h64) (pv 2) (pe_lst pa_nil) (nomark _))
        (pss_one (ps_expr (pe_bm PySem.F.plainAttrs_list PySem.F.slot_list_append PySem.F.type_list_append mt_append (pv 3) (pa_cons
          (pe_bm PySem.F.plainAttrs_list PySem.F.slot_list_pop PySem.F.type_list_pop mt_popAt (pv 2) (pa_cons (pe_call GD hr rfl mD FD.kp bD .nil pass0 (pa_cons (pv 0) (pa_cons (pe_callB call_len_seq (by rfl) T.len PySem.boot_len (pa_cons (pv 2) pa_nil)) pa_nil))) pa_nil)) pa_nil)))))
      (pss_one (ps_ret (pv 3)))), ?_⟩
    refine ⟨_, rfl, t, _, rfl, .inl hT, fun l hl => ?_⟩
    have F1 : Fs d H [(l, .lst (js.map V.int))] _ := (Fs.start D).new hl nl
    refine ⟨Nat.zero_le _, fun r hr' => ?_⟩
    have F2 := F1.new hr' (o := .lst []) nl
    have hr0 : H r = none := Same.free (Same.new (o := .lst (js.map V.int)) hl) hr'
    have nlr : l ≠ r := ne_of_none F1.g0 hr'
    refine ⟨_, _, rfl, ?_⟩
    refine ⟨fun m σ H' => ∃ (ls fs : List Int), σ = [some (.ref d), some (.ref t), some (.ref l), some (.ref r)] ∧ m = ls.length ∧ (fs ++ ls).Perm js ∧ But d H H' ∧ DeckAt H' d ∧ H' l = some (.lst (ls.map V.int)) ∧ H' r = some (.lst (fs.map V.int)),
      ⟨_, js, [], rfl, rfl, List.Perm.refl _, F2.1, F2.deck, F2.g1, F2.g0⟩, ?_⟩
    rintro m σ H1 ⟨ls, fs, rfl, rfl, hp, B1, D1, hL, hR⟩
    have hlen : fs.length + ls.length = js.length := by have := hp.length_eq; rw [List.length_append] at this; exact this
    refine ⟨_, rfl, Nat.zero_le _, fun q hq => ?_⟩
    have s2 : Same H1 (upd H1 q (.lst [])) := Same.new hq
    refine ⟨l, q, ls, [], rfl, rfl, SqL.of (s2 _ _ hL), SqL.of upd_same, _, rfl, ?_⟩
    by_cases h0 : ls = []
    · subst h0
      refine iteF ?_
      rw [List.append_nil] at hp
      exact ⟨_, rfl, k r fs _ hr0 (B1.trans (But.of s2)) (D1.same s2) (s2 _ _ hR) hp⟩
    · rw [decide_eq_false h0]
      refine iteT ?_
      have hpos : 0 < ls.length := List.length_pos_iff.mpr h0
      refine ⟨fun σ' H' => ∃ m', m' < ls.length ∧ ∃ (ls fs : List Int), σ' = [some (.ref d), some (.ref t), some (.ref l), some (.ref r)] ∧ m' = ls.length ∧ (fs ++ ls).Perm js ∧ But d H H' ∧ DeckAt H' d ∧ H' l = some (.lst (ls.map V.int)) ∧ H' r = some (.lst (fs.map V.int)), fun _ _ z => z, ?_⟩
      have D2 := D1.same s2
      refine ⟨_, rfl, .inl ⟨rfl, _, SqL.of (s2 _ _ hR)⟩, _, rfl, .inl ⟨rfl, _, SqL.of (s2 _ _ hL)⟩, _, rfl, _, rfl, l, _, rfl, .inl (SqL.of (s2 _ _ hL)), d, _, rfl, D2, by rw [List.length_map]; omega, by rw [List.length_map]; omega, fun z H3 z0 z1 D3 B3 => ?_⟩
      rw [List.length_map] at z1
      obtain ⟨i, rfl⟩ : ∃ m : Nat, z = (m : Int) := ⟨z.toNat, by omega⟩
      have hi : i < ls.length := by omega
      have hL3 := B3.lst D2 (s2 _ _ hL)
      have hR3 := B3.lst D2 (s2 _ _ hR)
      have hy : ls[i]? = some ls[i] := List.getElem?_eq_getElem hi
      refine ⟨l, _, _, i, .int ls[i], rfl, rfl, hL3, by omega, by omega, seqIndex_nat (by rw [List.length_map]; exact hi), by rw [List.getElem?_map, hy]; rfl, ?_⟩
      rw [erase_map]
      have hR4 : upd H3 l (.lst ((ls.eraseIdx i).map V.int)) r = some (.lst (fs.map V.int)) := by rw [upd_ne nlr.symm]; exact hR3
      refine ⟨r, _, _, rfl, rfl, hR4, by rw [List.length_map]; exact small1000 (by omega), ?_⟩
      have hel : (ls.eraseIdx i).length + 1 = ls.length := by rw [List.length_eraseIdx_of_lt hi]; omega
      refine ⟨(ls.eraseIdx i).length, by omega, ls.eraseIdx i, fs ++ [ls[i]], rfl, rfl, ?_, ?_, ?_, ?_, ?_⟩
      · rw [List.append_assoc]
        exact (List.Perm.append_left fs (L2.erase_perm ls i _ hy)).trans hp
      · intro b o hb e
        have nbl : b ≠ l := ne_of_none e hl
        have nbr : b ≠ r := ne_of_none e hr0
        rw [upd_ne nbr, upd_ne nbl]
        exact B3 b o hb (s2 _ _ (B1 b o hb e))
      · obtain ⟨x, y, hd, rr⟩ := D3
        have n1 : d ≠ l := (ne_of hL3 hd (nl _ _)).symm
        have n2 : d ≠ r := (ne_of hR3 hd (nl _ _)).symm
        exact ⟨x, y, by rw [upd_ne n2, upd_ne n1]; exact hd, rr⟩
      · rw [upd_ne nlr, upd_same]
      · rw [upd_same, List.map_append]; rfl
end
/-! ### the law's own move, id by id -/
def doneStep (ks : List Int) (b : Int) (acc : List Int) (n : Int) : List Int := if n ∈ ks then acc else if n = b then acc ++ [n] ++ ks else acc ++ [n]
theorem done_fold (ks : List Int) (b : Int) : ∀ (xs acc : List Int), xs.foldl (doneStep ks b) acc = acc ++ (without xs ks).flatMap fun n => if n = b then n :: ks else [n]
  | [], acc => by simp [without]
  | n :: r, acc => by
    rw [List.foldl_cons, done_fold ks b r]
    unfold doneStep without
    by_cases h : n ∈ ks
    · simp [h]
    · by_cases hb : n = b
      · subst hb
        simp [h]
      · simp [h, hb]
theorem flat_none (ks : List Int) {b : Int} : ∀ xs : List Int, b ∉ xs → (xs.flatMap fun n => if n = b then n :: ks else [n]) = xs
  | [], _ => rfl
  | n :: r, h => by
    have h1 : n ≠ b := fun e => h (by rw [e]; exact List.mem_cons_self)
    rw [List.flatMap_cons, if_neg h1, flat_none ks r fun q => h (List.mem_cons_of_mem _ q)]
    rfl
theorem done_is {js ks : List Int} {b : Int} (hj : js.Nodup) (nz : ∀ z ∈ js, z ≠ 0) (ok : MoveOk js ks b) : js.foldl (doneStep ks b) (if b = 0 then ks else []) = doMove js ks b := by
  rw [done_fold]
  have hb : b = 0 ∨ b ∈ without js ks := ok.2.2.2.imp id fun h => List.mem_filter.mpr ⟨h.1, decide_eq_true h.2⟩
  obtain ⟨S1, S2, hc⟩ := Cut.ex hb fun z hz => nz z (mem_of_filter hz)
  rw [doMove_cut hc]
  have hn : (without js ks).Nodup := List.Nodup.sublist List.filter_sublist hj
  rw [hc.1] at hn ⊢
  rcases hc.2 with ⟨h0, h1⟩ | ⟨h0, S0, h1, h2⟩
  · subst h1
    rw [if_pos h0, List.nil_append, List.nil_append, flat_none]
    intro q
    have : b ∈ without js ks := by rw [hc.1]; exact q
    exact nz b (mem_of_filter this) h0
  · subst h1
    have hn2 := List.nodup_append.mp hn
    have nb2 : b ∉ S2 := fun q => hn2.2.2 b (by simp) b q rfl
    rw [if_neg h0, List.nil_append, List.flatMap_append, List.flatMap_append, flat_none ks S0 h2, flat_none ks S2 nb2]
    simp
section
variable {P : Program} {w : World} {K : PySem.W.Frag} {mg : Str → Option Value} {base : Heap}
def spDone (K : PySem.W.Frag) : Sp := fun vs H Q _ => ∃ (o m i : Addr) (js ks : List Int) (b : Int), vs = [.ref o, .ref m] ∧ SqL K H o (js.map V.int) ∧ SqT K H m [.ref i, .int b] ∧ SqT K H i (ks.map V.int) ∧ js.length ≤ 300 ∧ ks.length ≤ 300 ∧ js.Nodup ∧ (∀ z ∈ js, z ≠ 0) ∧ MoveOk js ks b ∧
  ∀ (p : Addr) (H' : Hp), H p = none → Same H H' → H' p = some (.lst ((doMove js ks b).map V.int)) → Q (.ref p) H'
theorem scDone : FnScope ["line", "move", "found", "number"] ["line", "move"] (defScope sDone) := ⟨rfl, rfl, rfl, by decide +kernel, rfl, by decide +kernel, by decide +kernel⟩
theorem ok_done {f : Addr} {fd : FuncData} (F : Fun K "_law_done" "_law_done" sDone f fd) (T : mg "list" = none) : FnOk P w K mg base CX0 1 f fd ["line", "move"] (spDone K) := by
  refine F.ok scDone (fun vs H Q E h => ?_) (fun cdv A outer s H vs Q E hr h => ?_)
  · obtain ⟨o, m, i, js, ks, b, rfl, _⟩ := h
    rfl
  · obtain ⟨o, m, i, js, ks, b, rfl, hO, hM, hI, hj, hk, hn, nz, ok, k⟩ := h
    refine ⟨_, pss_cons (ps_set (i := 2) scDone.nd rfl (Or.inl rfl) (pe_ifExp (pt_cmpR op_eq (pe_ix ix_tup (pv 1) pe_int (fun _ _ => rfl)) pe_int (nomark _)) (pe_callTy call_list_of (by rfl) T (by decide +kernel) (pa_cons (pe_ix ix_tup (pv 1) pe_int (fun _ _ => rfl)) pa_nil)) (pe_lst pa_nil)))
      (pss_cons (ps_for PassesOwn.never rfl (pi_list (pv 0)) (pg_name (i := 3) scDone.nd rfl (Or.inl rfl))
        (pss_one (ps_if (pt_cmpR op_notIn_seq (pv 3) (pe_ix ix_tup (pv 1) pe_int (fun _ _ => rfl)) (by rfl))
          (pss_cons (ps_expr (pe_bm PySem.F.plainAttrs_list PySem.F.slot_list_append PySem.F.type_list_append mt_append (pv 2) (pa_cons (pv 3) pa_nil)))
          (pss_one (ps_if (pt_cmpR op_eq (pv 3) (pe_ix ix_tup (pv 1) pe_int (fun _ _ => rfl)) (nomark _)) (pss_one (ps_set (i := 2) scDone.nd rfl (Or.inl rfl) (pe_op op_cat (pv 2) (pe_callTy call_list_of (by rfl) T (by decide +kernel) (pa_cons (pe_ix ix_tup (pv 1) pe_int (fun _ _ => rfl)) pa_nil))))) pss_nil))) pss_nil)))
      (pss_one (ps_ret (pv 2)))), ?_⟩
    have at1 : atI [V.ref i, V.int b] 1 = some (.int b) := at_of (j := 1) rfl rfl
    have at0 : atI [V.ref i, V.int b] 0 = some (.ref i) := at_of (j := 0) rfl rfl
    have h16 : sizeLine = 16777216 := sizeLine_eq
    have loop : ∀ (r : Addr) (H0 : Hp) (σ0 : L2.St) (tb : TS), H r = none → Same H H0 → H0 r = some (.lst ((if b = 0 then ks else []).map V.int)) → σ0 = [some (.ref o), some (.ref m), some (.ref r), none] →
        (∀ (i' : Nat) (z : Int) (σ : L2.St) (H' : Hp) (N : L2.St → Hp → Prop) (bk : L2.St → Hp → Prop), js[i']? = some z → (∃ (r : Addr) (v : Option V), σ = [some (.ref o), some (.ref m), some (.ref r), v] ∧ H r = none ∧ Same H H' ∧ H' r = some (.lst (((js.take i').foldl (doneStep ks b) (if b = 0 then ks else [])).map V.int))) →
          (∀ (σ2 : L2.St) (H2 : Hp), (∃ (r : Addr) (v : Option V), σ2 = [some (.ref o), some (.ref m), some (.ref r), v] ∧ H r = none ∧ Same H H2 ∧ H2 r = some (.lst (((js.take (i' + 1)).foldl (doneStep ks b) (if b = 0 then ks else [])).map V.int))) → N σ2 H2) →
          tb { nx := N, rt := Q, ct := N, bk := bk } (σ.set 3 (some (.int z))) H') →
        (tSeq (tFor (iList K (tVar 0)) (gName 3) tb) (tRet (tVar 2))) { nx := fun _ H' => Q .non H', rt := Q } σ0 H0 := by
      rintro r H0 σ0 tb hr0 s0 hL rfl turn
      refine ⟨_, rfl, o, rfl, ⟨_, Same.sq s0 hO⟩, ?_⟩
      refine for_list (K := K) (a := o) (xs := js.map V.int) (fun i' σ H' => ∃ (r : Addr) (v : Option V), σ = [some (.ref o), some (.ref m), some (.ref r), v] ∧ H r = none ∧ Same H H' ∧ H' r = some (.lst (((js.take i').foldl (doneStep ks b) (if b = 0 then ks else [])).map V.int)))
        ⟨r, none, rfl, hr0, s0, hL⟩ (fun i σ H' _ ⟨_, _, _, _, s1, _⟩ => Same.sq s1 hO) ?_ ?_
      · intro i' x σ H' hx hw
        rw [List.getElem?_map] at hx
        obtain ⟨z, hz, rfl⟩ : ∃ z, js[i']? = some z ∧ x = V.int z := by
          cases hq2 : js[i']? with
          | none => rw [hq2] at hx; cases hx
          | some z => rw [hq2] at hx; exact ⟨z, rfl, (Option.some.inj hx).symm⟩
        exact turn i' z σ H' _ _ hz hw fun _ _ h => h
      · rintro σ H' ⟨r, v, rfl, hr0, s1, hL⟩
        rw [List.length_map, List.take_length, done_is hn nz ok] at hL
        exact ⟨_, rfl, k r H' hr0 s1 hL⟩
    have step : ∀ (i' : Nat) (z : Int), js[i']? = some z → (js.take (i' + 1)).foldl (doneStep ks b) (if b = 0 then ks else []) = doneStep ks b ((js.take i').foldl (doneStep ks b) (if b = 0 then ks else [])) z := fun i' z hz => by
      rw [take_snoc hz, List.foldl_append]; rfl
    have len : ∀ i', ((js.take i').foldl (doneStep ks b) (if b = 0 then ks else [])).length ≤ 301 * (300 + 1) + 300 := by
      intro i'
      have h : ∀ (xs acc : List Int), (xs.foldl (doneStep ks b) acc).length ≤ acc.length + xs.length * 301 := by
        intro xs
        induction xs with
        | nil => intro acc; simp
        | cons x r ih =>
          intro acc
          have := ih (doneStep ks b acc x)
          have h2 : (doneStep ks b acc x).length ≤ acc.length + 301 := by
            unfold doneStep
            split
            · omega
            · split
              · rw [List.length_append, List.length_append, List.length_singleton]; omega
              · rw [List.length_append, List.length_singleton]; omega
          rw [List.foldl_cons, List.length_cons]
          omega
      have h1 := h (js.take i') (if b = 0 then ks else [])
      have h2 : (js.take i').length ≤ 300 := by rw [List.length_take]; omega
      have h3 : (if b = 0 then ks else []).length ≤ 300 := by
        split
        · exact hk
        · exact Nat.zero_le _
      have h4 : (js.take i').length * 301 ≤ 300 * 301 := Nat.mul_le_mul_right _ h2
      omega
    refine ⟨_, rfl, m, _, _, _, rfl, rfl, hM, at1, rfl, _, rfl, ?_⟩
    rw [show decide (V.int b = V.int 0) = decide (b = 0) from by rw [dec_int]; rfl]
    refine ite2 (fun c => ?_) (fun c => ?_)
    · have hb : b = 0 := of_decide_eq_true c
      refine ⟨_, rfl, m, _, _, _, rfl, rfl, hM, at0, i, _, rfl, .inr hI, fun r hr0 => ?_⟩
      refine loop r _ _ _ hr0 (Same.new hr0) (by rw [upd_same, if_pos hb]) rfl ?_
      rintro i' z σ H' N bk hz ⟨r, v, rfl, hr0, s1, hL⟩ hN
      have e := step i' z hz
      have hl := len i'
      refine ⟨_, rfl, _, rfl, m, _, _, _, rfl, rfl, Same.tq s1 hM, at0, i, _, rfl, .inr (Same.tq s1 hI), rfl, all_flat ks, _, rfl, ?_⟩
      rw [inV_int]
      refine ite2 (fun c => ?_) (fun c => ?_)
      · have hzk : z ∉ ks := by simpa using c
        refine ⟨_, rfl, .inl ⟨rfl, _, SqL.of hL⟩, _, rfl, r, _, _, rfl, rfl, hL, by rw [List.length_map, h16]; omega, ?_⟩
        have s2 : Same H (upd H' r (.lst (((js.take i').foldl (doneStep ks b) (if b = 0 then ks else [])).map V.int ++ [.int z]))) := fun q u hq => by
          rw [upd_ne (ne_of_none hq hr0)]; exact s1 q u hq
        refine ⟨_, rfl, _, rfl, m, _, _, _, rfl, rfl, Same.tq s2 hM, at1, rfl, _, rfl, ?_⟩
        rw [show decide (V.int z = V.int b) = decide (z = b) from by rw [dec_int]; rfl]
        refine ite2 (fun c2 => ?_) (fun c2 => ?_)
        · have hzb : z = b := of_decide_eq_true c2
          refine ⟨_, rfl, _, rfl, m, _, _, _, rfl, rfl, Same.tq s2 hM, at0, i, _, rfl, .inr (Same.tq s2 hI), fun l hl2 => ?_⟩
          have s3 := Same.new (o := .lst (ks.map V.int)) hl2
          refine ⟨r, l, _, _, rfl, rfl, s3 _ _ upd_same, upd_same, by rw [List.length_append, List.length_map, List.length_map, h16]; show _ + 1 + _ ≤ _; omega, fun p hp => ?_⟩
          refine hN _ _ ⟨p, _, rfl, (s2.trans s3).free hp, (s2.trans s3).trans (Same.new hp), ?_⟩
          rw [upd_same, e]
          unfold doneStep
          rw [if_neg hzk, if_pos hzb, List.map_append, List.map_append]
          rfl
        · have hzb : ¬ z = b := fun q => c2 (decide_eq_true q)
          refine hN _ _ ⟨r, _, rfl, hr0, s2, ?_⟩
          rw [upd_same, e]
          unfold doneStep
          rw [if_neg hzk, if_neg hzb, List.map_append]
          rfl
      · have hzk : z ∈ ks := by simpa using c
        refine hN _ _ ⟨r, _, rfl, hr0, s1, ?_⟩
        rw [e]
        unfold doneStep
        rw [if_pos hzk]
        exact hL
    · have hb : ¬ b = 0 := fun q => c (decide_eq_true q)
      refine ⟨Nat.zero_le _, fun r hr0 => ?_⟩
      refine loop r _ _ _ hr0 (Same.new hr0) (by rw [upd_same, if_neg hb]; rfl) rfl ?_
      rintro i' z σ H' N bk hz ⟨r, v, rfl, hr0, s1, hL⟩ hN
      have e := step i' z hz
      have hl := len i'
      refine ⟨_, rfl, _, rfl, m, _, _, _, rfl, rfl, Same.tq s1 hM, at0, i, _, rfl, .inr (Same.tq s1 hI), rfl, all_flat ks, _, rfl, ?_⟩
      rw [inV_int]
      refine ite2 (fun c => ?_) (fun c => ?_)
      · have hzk : z ∉ ks := by simpa using c
        refine ⟨_, rfl, .inl ⟨rfl, _, SqL.of hL⟩, _, rfl, r, _, _, rfl, rfl, hL, by rw [List.length_map, h16]; omega, ?_⟩
        have s2 : Same H (upd H' r (.lst (((js.take i').foldl (doneStep ks b) (if b = 0 then ks else [])).map V.int ++ [.int z]))) := fun q u hq => by
          rw [upd_ne (ne_of_none hq hr0)]; exact s1 q u hq
        refine ⟨_, rfl, _, rfl, m, _, _, _, rfl, rfl, Same.tq s2 hM, at1, rfl, _, rfl, ?_⟩
        rw [show decide (V.int z = V.int b) = decide (z = b) from by rw [dec_int]; rfl]
        refine ite2 (fun c2 => ?_) (fun c2 => ?_)
        · have hzb : z = b := of_decide_eq_true c2
          refine ⟨_, rfl, _, rfl, m, _, _, _, rfl, rfl, Same.tq s2 hM, at0, i, _, rfl, .inr (Same.tq s2 hI), fun l hl2 => ?_⟩
          have s3 := Same.new (o := .lst (ks.map V.int)) hl2
          refine ⟨r, l, _, _, rfl, rfl, s3 _ _ upd_same, upd_same, by rw [List.length_append, List.length_map, List.length_map, h16]; show _ + 1 + _ ≤ _; omega, fun p hp => ?_⟩
          refine hN _ _ ⟨p, _, rfl, (s2.trans s3).free hp, (s2.trans s3).trans (Same.new hp), ?_⟩
          rw [upd_same, e]
          unfold doneStep
          rw [if_neg hzk, if_pos hzb, List.map_append, List.map_append]
          rfl
        · have hzb : ¬ z = b := fun q => c2 (decide_eq_true q)
          refine hN _ _ ⟨r, _, rfl, hr0, s2, ?_⟩
          rw [upd_same, e]
          unfold doneStep
          rw [if_neg hzk, if_neg hzb, List.map_append]
          rfl
      · have hzk : z ∈ ks := by simpa using c
        refine hN _ _ ⟨r, _, rfl, hr0, s1, ?_⟩
        rw [e]
        unfold doneStep
        rw [if_pos hzk]
        exact hL
end
section
variable {X : Cx} {CX : CXT} {k : Nat} {f : Addr} {sp : Sp} {E : L2.St → XK} {x : Str} {p pos : Pos} {e : Expr} {es : List Expr} {t : TA}
/-- a def with a star parameter, called within a try -/
theorem pe_callRS (F : FnR X.prog X.w X.K X.mg X.base CX k f sp) (hr : Room k X.A) (hg : Gl X x) (hm : X.mg x = some (.ref f)) (hk : PySem.W.keepIn X.K (.ref f) = true) (hx : ∀ σ, PassesAt CX X σ (E σ))
    (ha : PA X (e :: es) t) (hdb : (x == ("__debug__" : Str)) = false := by decide) (he : starEach (e :: es) X.env = (false, eval e X.env) :: starEach es X.env := by rfl) (hpl : (backTo pos (starEach es X.env)).any (·.1) = false := by rfl) :
    PE X (.Call (.Name x p) (e :: es) [] pos) (tCallS sp E t) := by
  constructor
  intro pins s σ H Q I h
  refine wpAny_Call_Name_kw (ld_glob I hg hm ?_ hdb)
  refine PySem.W.callWith_K (h₀ := X.base) I.ok.mod.kin hk (thn (ha.run pos pins s σ H _ I h) fun us s1 ⟨vs, H1, I1, r, q⟩ => ⟨I1.kIn, ?_⟩) he hpl
  refine wpAny_call (codeAny_mono (F X.A X.stack s1 H1 us vs Q (E σ) hr I1.env0 r q) ?_)
  rintro (z | (_ | _ | _ | u)) s2 hq
  · exact hx σ pins H1 s1 z s2 I1 hq
  · exact hq.elim
  · exact hq.elim
  · exact hq.elim
  · exact I1.after hq
end
section
variable {P : Program} {w : World} {K : PySem.W.Frag} {mg : Str → Option Value} {base : Heap} {C fI : Addr}
theorem ix_list_K {X : Cx} {K : PySem.W.Frag} (h : X.K = K) : IxR X (rIxL K) := by
  subst h
  exact ix_list
theorem call_len_K {X : Cx} {K : PySem.W.Frag} (h : X.K = K) : CallR X (.builtin "len") (fun xs H Q => ∃ p ys, xs = [.ref p] ∧ (SqL K H p ys ∨ SqT K H p ys) ∧ Q (.int ys.length) H) := by
  subst h
  exact call_len_seq
def spAllDone (K : PySem.W.Frag) : Sp := fun vs H Q _ => ∃ (o t : Addr) (js : List Int) (ws : List V) (ds : List PyData), vs = [.ref o, .ref t] ∧ SqL K H o (js.map V.int) ∧ js.length ≤ 4000 ∧ js.Nodup ∧ SqL K H t ws ∧ DVs K H ws ds ∧ ws.length ≤ 6 ∧ (∀ d ∈ ds, smallM d) ∧
  (movesOk js ds = true → ∀ (p : Addr) (H' : Hp), H p = none → Same H H' → H' p = some (.lst ((movesAll js ds).map V.int)) → Q (.ref p) H') ∧
  (∀ (i : Nat) (v : V) (d : PyData), ws[i]? = some v → ds[i]? = some d → movesOk js (ds.take i) = true → isMove (movesAll js (ds.take i)) d = false → ∀ (p : Addr) (H' : Hp), H p = none → Same H H' → H' p = some (.tup [v]) → Q (.ref p) H')
theorem scAllDone : FnScope ["line", "moves", "e"] ["line", "moves"] (defScope sAllDone) := ⟨rfl, rfl, rfl, by decide +kernel, rfl, by decide +kernel, by decide +kernel⟩
theorem ok_allDone {f fM : Addr} {fd : FuncData} (F : Fun K "_law_all_done" "_law_all_done" sAllDone f fd) (T : mg "len" = none) (L : PySem.LowX.LowTxt K mg C fI)
    (GM : FnR P w K mg base (L2.CX P w) 5 fM (fun vs H Q E => ∃ ws rest, vs = ws ++ rest ∧ ws.length = ([("order" : Str)]).length ∧ rest.length ≤ sizeLine ∧ ∀ p, H p = Option.none → spMoves K C (ws ++ [V.ref p]) (upd H p (.tup rest)) Q E))
    (mM : mg "do_moves" = some (.ref fM)) (kM : PySem.W.keepIn K (.ref fM) = true) : FnOk P w K mg base CX0 6 f fd ["line", "moves"] (spAllDone K) := by
  refine F.ok scAllDone (fun vs H Q E h => ?_) (fun cdv A outer s H vs Q E hr h => ?_)
  · obtain ⟨o, t, js, ws, ds, rfl, _⟩ := h
    rfl
  · obtain ⟨o, t, js, ws, ds, rfl, hO, hj, hn, hT, hD, hlen, hsm, k, kE⟩ := h
    refine ⟨_, pss_one (ps_try_as (i := 2) (Wout := fun _ _ _ _ => False) rfl rfl scAllDone.nd rfl rfl ⟨rfl, by decide, Or.inl L.gC⟩ takes0
        (fun W pn xe tk _ => (pss_cons (ps_if (pt_cmpR op_eq (pe_callB (call_len_K (K := K) rfl) (by rfl) T PySem.boot_len (pa_cons (pv 1) pa_nil)) pe_int (nomark _)) (pss_one (ps_ret (pe_callRS GM hr rfl mM kM (fun σ => passAt tk σ) (by exact (pa_cons (pv 0) pa_nil))))) pss_nil)
          (pss_cons (ps_if (pt_cmpR op_eq (pe_callB (call_len_K (K := K) rfl) (by rfl) T PySem.boot_len (pa_cons (pv 1) pa_nil)) pe_int (nomark _)) (pss_one (ps_ret (pe_callRS GM hr rfl mM kM (fun σ => passAt tk σ) (by exact (pa_cons (pv 0) (pa_cons (pe_ix (ix_list_K (K := K) rfl) (pv 1) pe_int (fun _ _ => rfl)) pa_nil)))))) pss_nil)
          (pss_cons (ps_if (pt_cmpR op_eq (pe_callB (call_len_K (K := K) rfl) (by rfl) T PySem.boot_len (pa_cons (pv 1) pa_nil)) pe_int (nomark _)) (pss_one (ps_ret (pe_callRS GM hr rfl mM kM (fun σ => passAt tk σ) (by exact (pa_cons (pv 0) (pa_cons (pe_ix (ix_list_K (K := K) rfl) (pv 1) pe_int (fun _ _ => rfl)) (pa_cons (pe_ix (ix_list_K (K := K) rfl) (pv 1) pe_int (fun _ _ => rfl)) pa_nil))))))) pss_nil)
          (pss_cons (ps_if (pt_cmpR op_eq (pe_callB (call_len_K (K := K) rfl) (by rfl) T PySem.boot_len (pa_cons (pv 1) pa_nil)) pe_int (nomark _)) (pss_one (ps_ret (pe_callRS GM hr rfl mM kM (fun σ => passAt tk σ) (by exact (pa_cons (pv 0) (pa_cons (pe_ix (ix_list_K (K := K) rfl) (pv 1) pe_int (fun _ _ => rfl)) (pa_cons (pe_ix (ix_list_K (K := K) rfl) (pv 1) pe_int (fun _ _ => rfl)) (pa_cons (pe_ix (ix_list_K (K := K) rfl) (pv 1) pe_int (fun _ _ => rfl)) pa_nil)))))))) pss_nil)
          (pss_cons (ps_if (pt_cmpR op_eq (pe_callB (call_len_K (K := K) rfl) (by rfl) T PySem.boot_len (pa_cons (pv 1) pa_nil)) pe_int (nomark _)) (pss_one (ps_ret (pe_callRS GM hr rfl mM kM (fun σ => passAt tk σ) (by exact (pa_cons (pv 0) (pa_cons (pe_ix (ix_list_K (K := K) rfl) (pv 1) pe_int (fun _ _ => rfl)) (pa_cons (pe_ix (ix_list_K (K := K) rfl) (pv 1) pe_int (fun _ _ => rfl)) (pa_cons (pe_ix (ix_list_K (K := K) rfl) (pv 1) pe_int (fun _ _ => rfl)) (pa_cons (pe_ix (ix_list_K (K := K) rfl) (pv 1) pe_int (fun _ _ => rfl)) pa_nil))))))))) pss_nil)
          (pss_cons (ps_if (pt_cmpR op_eq (pe_callB (call_len_K (K := K) rfl) (by rfl) T PySem.boot_len (pa_cons (pv 1) pa_nil)) pe_int (nomark _)) (pss_one (ps_ret (pe_callRS GM hr rfl mM kM (fun σ => passAt tk σ) (by exact (pa_cons (pv 0) (pa_cons (pe_ix (ix_list_K (K := K) rfl) (pv 1) pe_int (fun _ _ => rfl)) (pa_cons (pe_ix (ix_list_K (K := K) rfl) (pv 1) pe_int (fun _ _ => rfl)) (pa_cons (pe_ix (ix_list_K (K := K) rfl) (pv 1) pe_int (fun _ _ => rfl)) (pa_cons (pe_ix (ix_list_K (K := K) rfl) (pv 1) pe_int (fun _ _ => rfl)) (pa_cons (pe_ix (ix_list_K (K := K) rfl) (pv 1) pe_int (fun _ _ => rfl)) pa_nil)))))))))) pss_nil)
          (pss_one (ps_ret (pe_callRS GM hr rfl mM kM (fun σ => passAt tk σ) (by exact (pa_cons (pv 0) (pa_cons (pe_ix (ix_list_K (K := K) rfl) (pv 1) pe_int (fun _ _ => rfl)) (pa_cons (pe_ix (ix_list_K (K := K) rfl) (pv 1) pe_int (fun _ _ => rfl)) (pa_cons (pe_ix (ix_list_K (K := K) rfl) (pv 1) pe_int (fun _ _ => rfl)) (pa_cons (pe_ix (ix_list_K (K := K) rfl) (pv 1) pe_int (fun _ _ => rfl)) (pa_cons (pe_ix (ix_list_K (K := K) rfl) (pv 1) pe_int (fun _ _ => rfl)) (pa_cons (pe_ix (ix_list_K (K := K) rfl) (pv 1) pe_int (fun _ _ => rfl)) pa_nil))))))))))))))))))
        (fun a oe cls d pn hz hf => pss_one (ps_ret (by exact (pe_tup (pa_cons (pe_byLow L hz hf (pv 2)) pa_nil)))))), ?_⟩
    have fin : ∀ (args : List V) (p : Addr) (E' : XK) (Q' : VK), args = ws → H p = none → (∀ (q : Addr) (H' : Hp), H q = none → Same H H' → (movesOk js ds = true ∧ H' q = some (.lst ((movesAll js ds).map V.int))) → Q' (.ref q) H') →
        (∀ (i : Nat) (v : V) (d : PyData), ws[i]? = some v → ds[i]? = some d → movesOk js (ds.take i) = true → isMove (movesAll js (ds.take i)) d = false → ∀ (e : Addr) (H' : Hp), Same H H' → H' e = none → E' (.ref C) (some e) (upd H' e (.xd [("value", v)]))) →
        spMoves K C ([V.ref o] ++ [V.ref p]) (upd H p (.tup args)) Q' E' := by
      rintro args p E' Q' rfl hp hQ hE
      have s1 := Same.new (o := .tup args) hp
      exact ⟨o, p, js, args, ds, rfl, Same.sq s1 hO, hj, hn, SqT.of upd_same, DVs.same s1 hD, hsm, fun hok q H' hq hs hL => hQ q H' (Same.free s1 hq) (s1.trans hs) ⟨hok, hL⟩, fun i v d hi hdi hok hbad e H' hs he => hE i v d hi hdi hok hbad e H' (s1.trans hs) he⟩
    have out : ∀ (i : Nat) (v : V) (d : PyData), ws[i]? = some v → ds[i]? = some d → movesOk js (ds.take i) = true → isMove (movesAll js (ds.take i)) d = false → ∀ (e : Addr) (H' : Hp), Same H H' → H' e = none → ∀ (p2 : Addr), (upd H' e (.xd [("value", v)])) p2 = none → Q (.ref p2) (upd (upd H' e (.xd [("value", v)])) p2 (.tup [v])) := by
      intro i v d hi hdi hok hbad e H' hs he p2 hp2
      have s2 := hs.trans (Same.new (o := .xd [("value", v)]) he)
      exact kE i v d hi hdi hok hbad p2 _ (s2.free hp2) (s2.trans (Same.new hp2)) upd_same
    clear kE
    rcases ws with _ | ⟨a0, _ | ⟨a1, _ | ⟨a2, _ | ⟨a3, _ | ⟨a4, _ | ⟨a5, _ | ⟨a6, r⟩⟩⟩⟩⟩⟩⟩
    · refine ⟨_, rfl, t, _, rfl, .inl hT, rfl, _, rfl, iteT ?_⟩
      refine ⟨_, rfl, [.ref o], [], rfl, rfl, (by show 0 ≤ sizeLine; decide), fun p hp => fin [] p _ _ rfl hp (fun q H' hq hs z => k z.1 q H' hq hs z.2) fun i v d hi hdi hok hbad e H' hs he => ?_⟩
      refine ⟨true, L.te, fun _ a0' _ => ?_, fun q => Bool.noConfusion q⟩
      exact ⟨_, rfl, rfl, rfl, e, v, rfl, upd_same, by show 1 ≤ sizeLine; decide, fun p2 hp2 => out i v d hi hdi hok hbad e H' hs he p2 hp2⟩
    · refine ⟨_, rfl, t, _, rfl, .inl hT, rfl, _, rfl, iteF ?_⟩
      refine ⟨_, rfl, t, _, rfl, .inl hT, rfl, _, rfl, iteT ?_⟩
      refine ⟨_, rfl, _, rfl, t, _, _, _, rfl, rfl, hT, at_of (j := 0) rfl rfl, [.ref o], [a0], rfl, rfl, (by show 1 ≤ sizeLine; decide), fun p hp => fin [a0] p _ _ rfl hp (fun q H' hq hs z => k z.1 q H' hq hs z.2) fun i v d hi hdi hok hbad e H' hs he => ?_⟩
      refine ⟨true, L.te, fun _ a0' _ => ?_, fun q => Bool.noConfusion q⟩
      exact ⟨_, rfl, rfl, rfl, e, v, rfl, upd_same, by show 1 ≤ sizeLine; decide, fun p2 hp2 => out i v d hi hdi hok hbad e H' hs he p2 hp2⟩
    · refine ⟨_, rfl, t, _, rfl, .inl hT, rfl, _, rfl, iteF ?_⟩
      refine ⟨_, rfl, t, _, rfl, .inl hT, rfl, _, rfl, iteF ?_⟩
      refine ⟨_, rfl, t, _, rfl, .inl hT, rfl, _, rfl, iteT ?_⟩
      refine ⟨_, rfl, _, rfl, t, _, _, _, rfl, rfl, hT, at_of (j := 0) rfl rfl, _, rfl, t, _, _, _, rfl, rfl, hT, at_of (j := 1) rfl rfl, [.ref o], [a0, a1], rfl, rfl, (by show 2 ≤ sizeLine; decide), fun p hp => fin [a0, a1] p _ _ rfl hp (fun q H' hq hs z => k z.1 q H' hq hs z.2) fun i v d hi hdi hok hbad e H' hs he => ?_⟩
      refine ⟨true, L.te, fun _ a0' _ => ?_, fun q => Bool.noConfusion q⟩
      exact ⟨_, rfl, rfl, rfl, e, v, rfl, upd_same, by show 1 ≤ sizeLine; decide, fun p2 hp2 => out i v d hi hdi hok hbad e H' hs he p2 hp2⟩
    · refine ⟨_, rfl, t, _, rfl, .inl hT, rfl, _, rfl, iteF ?_⟩
      refine ⟨_, rfl, t, _, rfl, .inl hT, rfl, _, rfl, iteF ?_⟩
      refine ⟨_, rfl, t, _, rfl, .inl hT, rfl, _, rfl, iteF ?_⟩
      refine ⟨_, rfl, t, _, rfl, .inl hT, rfl, _, rfl, iteT ?_⟩
      refine ⟨_, rfl, _, rfl, t, _, _, _, rfl, rfl, hT, at_of (j := 0) rfl rfl, _, rfl, t, _, _, _, rfl, rfl, hT, at_of (j := 1) rfl rfl, _, rfl, t, _, _, _, rfl, rfl, hT, at_of (j := 2) rfl rfl, [.ref o], [a0, a1, a2], rfl, rfl, (by show 3 ≤ sizeLine; decide), fun p hp => fin [a0, a1, a2] p _ _ rfl hp (fun q H' hq hs z => k z.1 q H' hq hs z.2) fun i v d hi hdi hok hbad e H' hs he => ?_⟩
      refine ⟨true, L.te, fun _ a0' _ => ?_, fun q => Bool.noConfusion q⟩
      exact ⟨_, rfl, rfl, rfl, e, v, rfl, upd_same, by show 1 ≤ sizeLine; decide, fun p2 hp2 => out i v d hi hdi hok hbad e H' hs he p2 hp2⟩
    · refine ⟨_, rfl, t, _, rfl, .inl hT, rfl, _, rfl, iteF ?_⟩
      refine ⟨_, rfl, t, _, rfl, .inl hT, rfl, _, rfl, iteF ?_⟩
      refine ⟨_, rfl, t, _, rfl, .inl hT, rfl, _, rfl, iteF ?_⟩
      refine ⟨_, rfl, t, _, rfl, .inl hT, rfl, _, rfl, iteF ?_⟩
      refine ⟨_, rfl, t, _, rfl, .inl hT, rfl, _, rfl, iteT ?_⟩
      refine ⟨_, rfl, _, rfl, t, _, _, _, rfl, rfl, hT, at_of (j := 0) rfl rfl, _, rfl, t, _, _, _, rfl, rfl, hT, at_of (j := 1) rfl rfl, _, rfl, t, _, _, _, rfl, rfl, hT, at_of (j := 2) rfl rfl, _, rfl, t, _, _, _, rfl, rfl, hT, at_of (j := 3) rfl rfl, [.ref o], [a0, a1, a2, a3], rfl, rfl, (by show 4 ≤ sizeLine; decide), fun p hp => fin [a0, a1, a2, a3] p _ _ rfl hp (fun q H' hq hs z => k z.1 q H' hq hs z.2) fun i v d hi hdi hok hbad e H' hs he => ?_⟩
      refine ⟨true, L.te, fun _ a0' _ => ?_, fun q => Bool.noConfusion q⟩
      exact ⟨_, rfl, rfl, rfl, e, v, rfl, upd_same, by show 1 ≤ sizeLine; decide, fun p2 hp2 => out i v d hi hdi hok hbad e H' hs he p2 hp2⟩
    · refine ⟨_, rfl, t, _, rfl, .inl hT, rfl, _, rfl, iteF ?_⟩
      refine ⟨_, rfl, t, _, rfl, .inl hT, rfl, _, rfl, iteF ?_⟩
      refine ⟨_, rfl, t, _, rfl, .inl hT, rfl, _, rfl, iteF ?_⟩
      refine ⟨_, rfl, t, _, rfl, .inl hT, rfl, _, rfl, iteF ?_⟩
      refine ⟨_, rfl, t, _, rfl, .inl hT, rfl, _, rfl, iteF ?_⟩
      refine ⟨_, rfl, t, _, rfl, .inl hT, rfl, _, rfl, iteT ?_⟩
      refine ⟨_, rfl, _, rfl, t, _, _, _, rfl, rfl, hT, at_of (j := 0) rfl rfl, _, rfl, t, _, _, _, rfl, rfl, hT, at_of (j := 1) rfl rfl, _, rfl, t, _, _, _, rfl, rfl, hT, at_of (j := 2) rfl rfl, _, rfl, t, _, _, _, rfl, rfl, hT, at_of (j := 3) rfl rfl, _, rfl, t, _, _, _, rfl, rfl, hT, at_of (j := 4) rfl rfl, [.ref o], [a0, a1, a2, a3, a4], rfl, rfl, (by show 5 ≤ sizeLine; decide), fun p hp => fin [a0, a1, a2, a3, a4] p _ _ rfl hp (fun q H' hq hs z => k z.1 q H' hq hs z.2) fun i v d hi hdi hok hbad e H' hs he => ?_⟩
      refine ⟨true, L.te, fun _ a0' _ => ?_, fun q => Bool.noConfusion q⟩
      exact ⟨_, rfl, rfl, rfl, e, v, rfl, upd_same, by show 1 ≤ sizeLine; decide, fun p2 hp2 => out i v d hi hdi hok hbad e H' hs he p2 hp2⟩
    · refine ⟨_, rfl, t, _, rfl, .inl hT, rfl, _, rfl, iteF ?_⟩
      refine ⟨_, rfl, t, _, rfl, .inl hT, rfl, _, rfl, iteF ?_⟩
      refine ⟨_, rfl, t, _, rfl, .inl hT, rfl, _, rfl, iteF ?_⟩
      refine ⟨_, rfl, t, _, rfl, .inl hT, rfl, _, rfl, iteF ?_⟩
      refine ⟨_, rfl, t, _, rfl, .inl hT, rfl, _, rfl, iteF ?_⟩
      refine ⟨_, rfl, t, _, rfl, .inl hT, rfl, _, rfl, iteF ?_⟩
      refine ⟨_, rfl, _, rfl, t, _, _, _, rfl, rfl, hT, at_of (j := 0) rfl rfl, _, rfl, t, _, _, _, rfl, rfl, hT, at_of (j := 1) rfl rfl, _, rfl, t, _, _, _, rfl, rfl, hT, at_of (j := 2) rfl rfl, _, rfl, t, _, _, _, rfl, rfl, hT, at_of (j := 3) rfl rfl, _, rfl, t, _, _, _, rfl, rfl, hT, at_of (j := 4) rfl rfl, _, rfl, t, _, _, _, rfl, rfl, hT, at_of (j := 5) rfl rfl, [.ref o], [a0, a1, a2, a3, a4, a5], rfl, rfl, (by show 6 ≤ sizeLine; decide), fun p hp => fin [a0, a1, a2, a3, a4, a5] p _ _ rfl hp (fun q H' hq hs z => k z.1 q H' hq hs z.2) fun i v d hi hdi hok hbad e H' hs he => ?_⟩
      refine ⟨true, L.te, fun _ a0' _ => ?_, fun q => Bool.noConfusion q⟩
      exact ⟨_, rfl, rfl, rfl, e, v, rfl, upd_same, by show 1 ≤ sizeLine; decide, fun p2 hp2 => out i v d hi hdi hok hbad e H' hs he p2 hp2⟩
    · exact absurd hlen (by simp)
end
/-! ### data that cannot change: flat things and tuples of such -/
mutual
inductive DT (H : Hp) : V → PyData → Prop
  | non : DT H .non .none
  | bl (b : Bool) : DT H (.bl b) (.bool b)
  | int (i : Int) : DT H (.int i) (.int i)
  | str (x : Str) : DT H (.str x) (.str x)
  | tup {a : Addr} {xs : List V} {ds : List PyData} : H a = some (.tup xs) → DTs H xs ds → DT H (.ref a) (.tuple ds)
inductive DTs (H : Hp) : List V → List PyData → Prop
  | nil : DTs H [] []
  | cons {v : V} {vs : List V} {d : PyData} {ds : List PyData} : DT H v d → DTs H vs ds → DTs H (v :: vs) (d :: ds)
end
/-- the tuples stand -/
def KeepT (H H' : Hp) : Prop := ∀ a xs, H a = some (.tup xs) → H' a = some (.tup xs)
theorem KeepT.refl (H : Hp) : KeepT H H := fun _ _ h => h
theorem KeepT.trans {H H1 H2 : Hp} (a : KeepT H H1) (b : KeepT H1 H2) : KeepT H H2 := fun c xs h => b c xs (a c xs h)
theorem KeepT.same {H H' : Hp} (s : Same H H') : KeepT H H' := fun a xs h => s a _ h
theorem KeepT.but {d : Addr} {H H' : Hp} (D : DeckAt H d) (s : But d H H') : KeepT H H' := fun a xs h => s.tup D h
theorem KeepT.put {x : Addr} {H : Hp} {ys : List V} {o : HO} (h : H x = some (.lst ys)) : KeepT H (upd H x o) := fun a xs e => by
  rw [upd_ne (ne_of e h (by intro z; cases z))]
  exact e
theorem KeepT.new {x : Addr} {H : Hp} {o : HO} (h : H x = none) : KeepT H (upd H x o) := KeepT.same (Same.new h)
mutual
theorem DT.keep {H H' : Hp} (e : KeepT H H') : ∀ {d : PyData} {v : V}, DT H v d → DT H' v d
  | _, _, .non => .non
  | _, _, .bl b => .bl b
  | _, _, .int i => .int i
  | _, _, .str x => .str x
  | _, _, .tup h t => .tup (e _ _ h) (DTs.keep e t)
theorem DTs.keep {H H' : Hp} (e : KeepT H H') : ∀ {ds : List PyData} {vs : List V}, DTs H vs ds → DTs H' vs ds
  | _, _, .nil => .nil
  | _, _, .cons p t => .cons (DT.keep e p) (DTs.keep e t)
end
mutual
theorem DT.dv {K : PySem.W.Frag} {H : Hp} : ∀ {d : PyData} {v : V}, DT H v d → DV K H v d
  | _, _, .non => .non
  | _, _, .bl b => .bl b
  | _, _, .int i => .int i
  | _, _, .str x => .str x
  | _, _, .tup h t => .tup (SqT.of h) (DTs.dv t)
theorem DTs.dv {K : PySem.W.Frag} {H : Hp} : ∀ {ds : List PyData} {vs : List V}, DTs H vs ds → DVs K H vs ds
  | _, _, .nil => .nil
  | _, _, .cons p t => .cons (DT.dv p) (DTs.dv t)
end
theorem DTs.ints {H : Hp} : ∀ ks : List Int, DTs H (ks.map V.int) (ks.map PyData.int)
  | [] => .nil
  | k :: r => .cons (.int k) (DTs.ints r)
theorem DTs.append {H : Hp} : ∀ {vs ws : List V} {ds es : List PyData}, DTs H vs ds → DTs H ws es → DTs H (vs ++ ws) (ds ++ es)
  | _, _, _, _, .nil, h => h
  | _, _, _, _, .cons p t, h => .cons p (DTs.append t h)
theorem DTs.take {H : Hp} : ∀ {vs : List V} {ds : List PyData} (n : Nat), DTs H vs ds → DTs H (vs.take n) (ds.take n)
  | _, _, 0, _ => .nil
  | _, _, _ + 1, .nil => .nil
  | _, _, n + 1, .cons p t => .cons p (DTs.take n t)
theorem DTs.length {H : Hp} : ∀ {vs : List V} {ds : List PyData}, DTs H vs ds → vs.length = ds.length
  | _, _, .nil => rfl
  | _, _, .cons _ t => congrArg Nat.succ (DTs.length t)
theorem DTs.none {H : Hp} : ∀ n : Nat, DTs H (List.replicate n V.non) (List.replicate n PyData.none)
  | 0 => .nil
  | n + 1 => .cons .non (DTs.none n)
/-! ### lists of ids as data -/
theorem modAll_ints : ∀ xs : List Int, (∀ z ∈ xs, z.natAbs < 2 ^ 300) → modAll (xs.map .int) = true
  | [], _ => by rw [List.map_nil, modAll]
  | x :: r, h => by
    rw [List.map_cons, modAll, modD, modAll_ints r fun z hz => h z (List.mem_cons_of_mem _ hz), decide_eq_true (h x List.mem_cons_self)]
    rfl
theorem szAll_ints : ∀ xs : List Int, szAll (xs.map .int) = xs.length * 303
  | [] => by rw [List.map_nil, szAll]; rfl
  | x :: r => by
    rw [List.map_cons, szAll, szD, szAll_ints r, List.length_cons]
    omega
theorem small_abs {z : Int} (h : -1000000000000 ≤ z) (h2 : z ≤ 1000000000000) : z.natAbs < 2 ^ 300 := by
  have : (1000000000001 : Nat) ≤ 2 ^ 300 := Nat.le_trans (by decide : 1000000000001 ≤ 2 ^ 50) (Nat.pow_le_pow_right (by decide) (by decide))
  generalize (2 : Nat) ^ 300 = B at *
  omega
structure Rok (d : PyData) : Prop where
  m : modD d = true
  dep : d.depth ≤ 40
  sz : szD d ≤ 1000000
theorem rok_ids {xs : List Int} (h : ∀ z ∈ xs, 1 ≤ z ∧ z ≤ 1000000) (hl : xs.length ≤ 300) : Rok (.list (xs.map .int)) := by
  refine ⟨?_, ?_, ?_⟩
  · rw [modD]
    exact modAll_ints xs fun z hz => by have := h z hz; exact small_abs (by omega) (by omega)
  · have := depthAll_ints xs
    rw [PyData.depth]
    omega
  · rw [szD, szAll_ints]
    omega
/-- changing one more object -/
theorem Fs.put {d x : Addr} {Hd H1 : Hp} {fs : List (Addr × HO)} {o : HO} (F : Fs d Hd fs H1) (h0 : Hd x = none) (hd : x ≠ d) (hn : ∀ p ∈ fs, p.1 ≠ x) : Fs d Hd fs (upd H1 x o) := by
  obtain ⟨f1, ⟨a, b, q, r⟩, f3⟩ := F
  refine ⟨fun c u hc e => ?_, ⟨a, b, by rw [upd_ne hd.symm]; exact q, r⟩, fun p hp => ⟨(f3 p hp).1, by rw [upd_ne (hn p hp)]; exact (f3 p hp).2⟩⟩
  rw [upd_ne (ne_of_none e h0)]
  exact f1 c u hc e
theorem Fs.apart {d x : Addr} {Hd H1 : Hp} {fs : List (Addr × HO)} (F : Fs d Hd fs H1) (h : H1 x = none) : Hd x = none ∧ x ≠ d ∧ ∀ p ∈ fs, p.1 ≠ x := by
  obtain ⟨f1, ⟨a, b, q, r⟩, f3⟩ := F
  have hd : x ≠ d := fun e => by rw [e, q] at h; cases h
  refine ⟨?_, hd, fun p hp => ne_of_none (f3 p hp).2 h⟩
  cases e : Hd x with
  | none => rfl
  | some u =>
    have := f1 x u hd e
    rw [h] at this; cases this
theorem movesAll_append (xs ys : List PyData) (js : List Int) : movesAll js (xs ++ ys) = movesAll (movesAll js xs) ys := by
  unfold movesAll
  rw [List.foldl_append]
theorem movesOk_append : ∀ (xs ys : List PyData) (js : List Int), movesOk js (xs ++ ys) = (movesOk js xs && movesOk (movesAll js xs) ys)
  | [], ys, js => by simp [movesOk, movesAll]
  | x :: r, ys, js => by
    show (isMove js x && movesOk (doMoveD js x) (r ++ ys)) = (isMove js x && movesOk (doMoveD js x) r && movesOk (movesAll (doMoveD js x) r) ys)
    rw [movesOk_append r, Bool.and_assoc]
theorem movesOk_at {ds : List PyData} {js : List Int} {i : Nat} {d : PyData} (h : movesOk js ds = true) (hd : ds[i]? = some d) : isMove (movesAll js (ds.take i)) d = true := by
  have e : ds = ds.take (i + 1) ++ ds.drop (i + 1) := (List.take_append_drop _ _).symm
  rw [e, take_snoc hd, movesOk_append, movesOk_snoc] at h
  simp only [Bool.and_eq_true] at h
  exact h.1.2
theorem movesOk_take {ds : List PyData} {js : List Int} (n : Nat) (h : movesOk js ds = true) : movesOk js (ds.take n) = true := by
  have e : ds = ds.take n ++ ds.drop n := (List.take_append_drop _ _).symm
  rw [e, movesOk_append, Bool.and_eq_true] at h
  exact h.1
/-- no move of an order with these ids -/
def NoMove (js : List Int) (d : PyData) : Prop := ∀ xs : List Int, (∀ k, k ∈ xs ↔ k ∈ js) → isMove xs d = false
theorem bad_at {A N : List PyData} {d e : PyData} {js : List Int} {i : Nat} (hj : js.Nodup) (hA : movesOk js A = true) (hb : NoMove js d) (he : (A ++ [d] ++ N)[i]? = some e) (hok : movesOk js ((A ++ [d] ++ N).take i) = true)
    (hbad : isMove (movesAll js ((A ++ [d] ++ N).take i)) e = false) : i = A.length := by
  rcases Nat.lt_trichotomy i A.length with h | h | h
  · have e1 : A[i]? = some e := by rw [List.append_assoc, List.getElem?_append_left h] at he; exact he
    have e2 : (A ++ [d] ++ N).take i = A.take i := by rw [List.append_assoc, List.take_append_of_le_length (by omega)]
    rw [e2, movesOk_at hA e1] at hbad
    cases hbad
  · exact h
  · have e2 : (A ++ [d] ++ N).take i = (A ++ [d]) ++ N.take (i - (A.length + 1)) := by
      rw [List.take_append, List.take_of_length_le (by rw [List.length_append, List.length_singleton]; omega), List.length_append, List.length_singleton]
    rw [e2, movesOk_append, movesOk_snoc, hb _ (movesAll_ids A hA hj).2] at hok
    simp at hok
theorem bad_never {A N : List PyData} {d : PyData} {js : List Int} (hj : js.Nodup) (hA : movesOk js A = true) (hb : NoMove js d) : movesOk js (A ++ [d] ++ N) = false := by
  rw [movesOk_append, movesOk_snoc, hb _ (movesAll_ids A hA hj).2]
  simp
theorem rep_flat {α : Type} (x : α) : ∀ n : Nat, (List.replicate n [x]).flatten = List.replicate n x
  | 0 => rfl
  | n + 1 => by rw [List.replicate_succ, List.flatten_cons, rep_flat x n, List.replicate_succ]; rfl
/-! ### the five that are no moves -/
theorem no1 (js : List Int) : NoMove js (.tuple [.tuple [], .int 0]) := fun xs _ => rfl
theorem no2 (js : List Int) (z : Int) (hz : z ≠ 0) : NoMove js (.tuple [.tuple [.int z], .int z]) := fun xs _ => by
  show isMove2 xs (.tuple [.int z]) (.int z) = false
  have e : isMove2 xs (.tuple [.int z]) (.int z) = (areIds xs (.tuple [.int z]) && true && (decide (z = 0) || (decide (z ∈ xs) && !decide (z ∈ [z])))) := rfl
  rw [e]
  simp [hz]
theorem no3 (js : List Int) (h : ∀ z ∈ js, z ≤ 1000000) : NoMove js (.tuple [.tuple [.int 1000001], .int 0]) := fun xs hx => by
  have n : ¬ ((1000001 : Int) ∈ xs) := fun q => by have := h _ ((hx _).mp q); omega
  have e : isMove xs (.tuple [.tuple [.int 1000001], .int 0]) = ((!([PyData.int 1000001]).isEmpty && ([PyData.int 1000001]).all wholeD && ([(1000001 : Int)]).all (fun k => decide (k ∈ xs)) && decide ([(1000001 : Int)]).Nodup) && true && (decide ((0 : Int) = 0) || (decide ((0 : Int) ∈ xs) && !decide ((0 : Int) ∈ [(1000001 : Int)])))) := rfl
  rw [e]
  simp [n]
theorem no4 (js : List Int) : NoMove js .none := fun _ _ => rfl
theorem no5 (js : List Int) (z : Int) : NoMove js (.tuple [.tuple [.int z, .int z], .int 0]) := fun xs _ => by
  have e : isMove xs (.tuple [.tuple [.int z, .int z], .int 0]) = ((!([PyData.int z, .int z]).isEmpty && ([PyData.int z, .int z]).all wholeD && ([z, z]).all (fun k => decide (k ∈ xs)) && decide ([z, z]).Nodup) && true && (decide ((0 : Int) = 0) || (decide ((0 : Int) ∈ xs) && !decide ((0 : Int) ∈ [z, z])))) := rfl
  rw [e]
  simp
theorem rok_none : Rok (.tuple [.none]) := ⟨by simp [modD, modAll], by simp [PyData.depth, PyData.depthAll], by simp [szD, szAll]⟩
theorem rok_one {z b : Int} (h1 : z.natAbs < 2 ^ 300) (h2 : b.natAbs < 2 ^ 300) : Rok (.tuple [.tuple [.tuple [.int z], .int b]]) :=
  ⟨by simp only [modD, modAll, decide_eq_true h1, decide_eq_true h2]; rfl, by simp [PyData.depth, PyData.depthAll], by simp [szD, szAll]⟩
theorem rok_two {z y b : Int} (h1 : z.natAbs < 2 ^ 300) (h3 : y.natAbs < 2 ^ 300) (h2 : b.natAbs < 2 ^ 300) : Rok (.tuple [.tuple [.tuple [.int z, .int y], .int b]]) :=
  ⟨by simp only [modD, modAll, decide_eq_true h1, decide_eq_true h2, decide_eq_true h3]; rfl, by simp [PyData.depth, PyData.depthAll], by simp [szD, szAll]⟩
theorem rok_nil {b : Int} (h2 : b.natAbs < 2 ^ 300) : Rok (.tuple [.tuple [.tuple [], .int b]]) :=
  ⟨by simp only [modD, modAll, decide_eq_true h2]; rfl, by simp [PyData.depth, PyData.depthAll], by simp [szD, szAll]⟩
theorem smallM_of {d : PyData} (h : ∀ ds b, d = .tuple [.tuple ds, b] → ds.length ≤ 4000) : smallM d := h
/-- the list of moves at mo -/
def MoAt (mo : Addr) (ws : List V) (ds : List PyData) (H : Hp) : Prop := H mo = some (.lst ws) ∧ DTs H ws ds
theorem MoAt.same {mo : Addr} {ws : List V} {ds : List PyData} {H H' : Hp} (h : MoAt mo ws ds H) (s : Same H H') : MoAt mo ws ds H' := ⟨s _ _ h.1, h.2.keep (KeepT.same s)⟩
theorem MoAt.but {mo d : Addr} {ws : List V} {ds : List PyData} {H H' : Hp} (h : MoAt mo ws ds H) (D : DeckAt H d) (s : But d H H') : MoAt mo ws ds H' := ⟨s.lst D h.1, h.2.keep (KeepT.but D s)⟩
theorem MoAt.put {mo x : Addr} {ws ys : List V} {ds : List PyData} {H : Hp} {o : HO} (h : MoAt mo ws ds H) (n : mo ≠ x) (hx : H x = some (.lst ys)) : MoAt mo ws ds (upd H x o) := ⟨by rw [upd_ne n]; exact h.1, h.2.keep (KeepT.put hx)⟩
structure TxtL (mg : Str → Option Value) : Prop where
  range : mg "range" = none
  max : mg "max" = none
  min : mg "min" = none
  repr : mg "repr" = none
  list : mg "list" = none
  tuple : mg "tuple" = none
  len : mg "len" = none
theorem op_notIn_K {X : Cx} {K : PySem.W.Frag} (h : X.K = K) : OpR X (compareOp .NotIn) (rIn K true) := by
  subst h
  exact op_notIn_seq
structure Fn (K : PySem.W.Frag) (mg : Str → Option Value) (x : Str) (st : Stmt) (ps : List Str) (f : Addr) (fd : FuncData) : Prop where
  F : Fun K x x st f fd
  b : L2.Binds K fd ps []
  m : mg x = some (.ref f)
section
variable {P : Program} {w : World} {K : PySem.W.Frag} {mg : Str → Option Value} {base : Heap} {C : Addr}
def spLaw (K : PySem.W.Frag) : Sp := fun vs H Q _ => ∃ (a : Addr) (ns : List Int), vs = [.ref a] ∧ SqL K H a (ns.map V.int) ∧ ns.length ≤ 63 ∧ (∀ z ∈ ns, Builtin.Int.intBits z ≤ 1048576) ∧ ∀ H', Q (.bl true) H'
abbrev NL : List Str := ["script", "start", "deck", "line", "kept", "found", "moves", "turn", "taken", "left", "move", "due", "again", "told", "bad", "number"]
theorem scLaw : FnScope NL ["script"] (defScope sLaw) := ⟨rfl, rfl, rfl, by decide +kernel, rfl, by decide +kernel, by decide +kernel⟩
theorem ok_law {f fDe fDr fC fI fS fDn fDo fAD : Addr} {fd fdDe fdDr fdC fdI fdS fdDn fdDo fdAD : FuncData} (F : Fun K "law" "law" sLaw f fd) (TD : TxtD mg) (TL : TxtL mg)
    (De : Fn K mg "_law_deck" sDeck ["script", "start"] fDe fdDe) (Dr : Fn K mg "_law_draw" sDraw ["deck", "size"] fDr fdDr) (Ch : Fn K mg "_law_choose" sChoose ["deck", "things"] fC fdC) (Id : Fn K mg "_law_ids" sIds ["deck", "many"] fI fdI)
    (Sh : Fn K mg "_law_shuffled" sShuf ["deck", "things"] fS fdS) (Dn : Fn K mg "_law_done" sDone ["line", "move"] fDn fdDn) (Do : Fn K mg "do_move" sDoMove ["order", "move"] fDo fdDo) (GO : FnOk P w K mg base (L2.CX P w) 4 fDo fdDo ["order", "move"] (spDoX K C))
    (AD : Fn K mg "_law_all_done" sAllDone ["line", "moves"] fAD fdAD) (GA : FnOk P w K mg base CX0 6 fAD fdAD ["line", "moves"] (spAllDone K)) : FnG P w K mg base 7 f fd ["script"] (spLaw K) := by
  have GDe : FnOk P w K mg base CX0 1 fDe fdDe ["script", "start"] (spDeck K) := ok_deck De.F TD
  have GDr : FnOk P w K mg base CX0 1 fDr fdDr ["deck", "size"] spDraw := ok_draw Dr.F
  have GC : FnOk P w K mg base CX0 2 fC fdC ["deck", "things"] (spChoose K) := ok_choose Ch.F TD Dr.F Dr.b Dr.m
  have GI : FnOk P w K mg base CX0 3 fI fdI ["deck", "many"] spIds := ok_ids Id.F TD Dr.F Dr.b Dr.m Ch.F Ch.b Ch.m
  have GS : FnOk P w K mg base CX0 2 fS fdS ["deck", "things"] (spShuf K) := ok_shuf Sh.F ⟨TL.len, TL.list⟩ Dr.F Dr.b Dr.m
  have GN : FnOk P w K mg base CX0 1 fDn fdDn ["line", "move"] (spDone K) := ok_done Dn.F TL.list
  refine FnG.mk' F scLaw (fun vs H Q E h => ?_) (fun cdv A outer s H vs Q E hg hr h => ?_)
  · obtain ⟨a, ns, rfl, _⟩ := h
    rfl
  · obtain ⟨a, ns, rfl, hS, hlen, hbits, k⟩ := h
    have hr1 : Room 1 _ := hr.mono (by decide)
    have hr2 : Room 2 _ := hr.mono (by decide)
    have hr3 : Room 3 _ := hr.mono (by decide)
    have hr4 : Room 4 _ := hr.mono (by decide)
    have h64 := hu64 hr
    refine ⟨_, pss_cons (ps_for PassesOwn.never rfl (pi_range1 rfl TL.range (pa_cons (pe_callB (call_max2 rfl) (by rfl) TL.max (by decide +kernel) (pa_cons pe_int (pa_cons (pe_callB (call_min2 rfl) (by rfl) TL.min (by decide +kernel)
          (pa_cons pe_int (pa_cons (pe_callB call_len_seq (by rfl) TD.len PySem.boot_len (pa_cons (pv 0) pa_nil)) pa_nil))) pa_nil))) pa_nil)) (pg_name (i := 1) scLaw.nd rfl (Or.inl rfl))
        (pss_cons (ps_set (i := 2) scLaw.nd rfl (Or.inl rfl) (pe_call GDe hr1 rfl De.m De.F.kp De.b .nil pass0 (pa_cons (pv 0) (pa_cons (pv 1) pa_nil))))
        (pss_cons (ps_set (i := 3) scLaw.nd rfl (Or.inl rfl) (pe_call GI hr3 rfl Id.m Id.F.kp Id.b .nil pass0 (pa_cons (pv 2) (pa_cons (pe_op op_add pe_int (pe_call GDr hr1 rfl Dr.m Dr.F.kp Dr.b .nil pass0 (pa_cons (pv 2) (pa_cons pe_int pa_nil)))) pa_nil))))
        (pss_cons (ps_par3 (i := 4) (j := 5) (l := 6) (by rfl) scLaw.nd rfl rfl rfl (by decide) (by decide) (by decide) rfl rfl rfl (pa_cons (pe_callTy call_list_of (by rfl) TL.list (by decide +kernel) (pa_cons (pv 3) pa_nil)) (pa_cons (pe_callTy call_list_of (by rfl) TL.list (by decide +kernel) (pa_cons (pv 3) pa_nil)) (pa_cons (pe_lst pa_nil) pa_nil))) (by rfl))
        (pss_cons (ps_for PassesOwn.never rfl (pi_range1 rfl TL.range (pa_cons (pe_call GDr hr1 rfl Dr.m Dr.F.kp Dr.b .nil pass0 (pa_cons (pv 2) (pa_cons pe_int pa_nil))) pa_nil)) (pg_name (i := 7) scLaw.nd rfl (Or.inl rfl))
          (pss_cons (ps_set (i := 8) scLaw.nd rfl (Or.inr rfl) (pe_callTy call_tuple_of (by rfl) TL.tuple (by decide +kernel) (pa_cons (pe_slice sl_list (pe_call GS hr2 rfl Sh.m Sh.F.kp Sh.b .nil pass0 (pa_cons (pv 2) (pa_cons (pv 3) pa_nil))) po_none
              (po_some (pe_op op_add pe_int (pe_call GDr hr1 rfl Dr.m Dr.F.kp Dr.b .nil pass0 (pa_cons (pv 2) (pa_cons pe_int pa_nil)))))) pa_nil)))
          (pss_cons (ps_setLc (i := 9) (own := [("number", 15)]) (g := gName 15) rfl scLaw.nd rfl rfl (sw_true rfl rfl rfl (by decide +kernel)) (pi_list (pv 3)) (blkOk_by (N := NL) (sc := defScope sLaw) (by decide +kernel)) (fun _ _ _ _ _ => pg_name (i := 15) scLaw.nd rfl (Or.inl rfl))
              (fun _ _ _ _ _ => pts_one (pt_cmpR (op_notIn_K (K := K) rfl) (pv 15) (pv 8) (by rfl))) (fun _ _ _ _ _ => pv 15))
          (pss_cons (ps_set (i := 10) scLaw.nd rfl (Or.inl rfl) (pe_tup (pa_cons (pv 8) (pa_cons (pe_call GC hr2 rfl Ch.m Ch.F.kp Ch.b .nil pass0 (pa_cons (pv 2) (pa_cons (pe_op op_cat (pv 9) (pe_lst (pa_cons pe_int pa_nil))) pa_nil))) pa_nil))))
          (pss_cons (ps_set (i := 11) scLaw.nd rfl (Or.inl rfl) (pe_call GN hr1 rfl Dn.m Dn.F.kp Dn.b .nil pass0 (pa_cons (pv 5) (pa_cons (pv 10) pa_nil))))
          (pss_cons (ps_for PassesOwn.never rfl (pi_range1 rfl TL.range (pa_cons pe_int pa_nil)) (pg_name (i := 12) scLaw.nd rfl (Or.inl rfl))
            (pss_cons (ps_set (i := 13) scLaw.nd rfl (Or.inl rfl) (pe_call GO hr4 rfl Do.m Do.F.kp Do.b .nil passL (pa_cons (pv 5) (pa_cons (pv 10) pa_nil))))
            (pss_cons (ps_if (pt_cmpR op_ne (pe_callB (call_repr hg h64) (by rfl) TL.repr (by decide +kernel) (pa_cons (pv 13) pa_nil)) (pe_callB (call_repr hg h64) (by rfl) TL.repr (by decide +kernel) (pa_cons (pv 11) pa_nil)) (nomark _)) (pss_one (ps_ret pe_bl)) pss_nil)
            (pss_one (ps_expr (pe_bm PySem.F.plainAttrs_list PySem.F.slot_list_append PySem.F.type_list_append mt_append (pv 13) (pa_cons pe_int pa_nil)))))))
          (pss_cons (ps_set (i := 5) scLaw.nd rfl (Or.inl rfl) (pv 11))
          (pss_one (ps_expr (pe_bm PySem.F.plainAttrs_list PySem.F.slot_list_append PySem.F.type_list_append mt_append (pv 6) (pa_cons (pv 10) pa_nil)))))))))))
        (pss_cons (ps_for PassesOwn.never rfl (pi_range1 rfl TL.range (pa_cons pe_int pa_nil)) (pg_name (i := 12) scLaw.nd rfl (Or.inl rfl))
            (pss_cons (ps_set (i := 13) scLaw.nd rfl (Or.inl rfl) (pe_call GA hr rfl AD.m AD.F.kp AD.b .nil pass0 (pa_cons (pv 3) (pa_cons (pv 6) pa_nil))))
            (pss_cons (ps_if (PW.pt (pw_or (pt_cmpR op_ne (pe_callB (call_repr hg h64) (by rfl) TL.repr (by decide +kernel) (pa_cons (pv 13) pa_nil)) (pe_callB (call_repr hg h64) (by rfl) TL.repr (by decide +kernel) (pa_cons (pv 5) pa_nil)) (nomark _))
                (pw_or1 (pt_cmpR (op_neL h64) (pv 3) (pv 4) (nomark _))))) (pss_one (ps_ret pe_bl)) pss_nil)
            (pss_one (ps_expr (pe_bm PySem.F.plainAttrs_list PySem.F.slot_list_append PySem.F.type_list_append mt_append (pv 13) (pa_cons pe_int pa_nil)))))))
        (pss_cons (ps_set (i := 14) scLaw.nd rfl (Or.inl rfl) (pe_call GC hr2 rfl Ch.m Ch.F.kp Ch.b .nil pass0 (pa_cons (pv 2) (pa_cons (pe_lst
            (pa_cons (pe_tup (pa_cons (pe_tup pa_nil) (pa_cons pe_int pa_nil)))
            (pa_cons (pe_tup (pa_cons (pe_tup (pa_cons (pe_ix ix_list (pv 3) pe_int (fun _ _ => rfl)) pa_nil)) (pa_cons (pe_ix ix_list (pv 3) pe_int (fun _ _ => rfl)) pa_nil)))
            (pa_cons (pe_tup (pa_cons (pe_tup (pa_cons (pe_op op_add (pe_op op_pow pe_int pe_int) pe_int) pa_nil)) (pa_cons pe_int pa_nil)))
            (pa_cons pe_non
            (pa_cons (pe_tup (pa_cons (pe_tup (pa_cons (pe_ix ix_list (pv 3) pe_int (fun _ _ => rfl)) (pa_cons (pe_ix ix_list (pv 3) pe_int (fun _ _ => rfl)) pa_nil))) (pa_cons pe_int pa_nil))) pa_nil)))))) pa_nil))))
        (pss_cons (ps_set (i := 6) scLaw.nd rfl (Or.inl rfl) (pe_op op_cat (pe_op op_cat (pe_slice sl_list (pv 6) po_none (po_some (pe_call GDr hr1 rfl Dr.m Dr.F.kp Dr.b .nil pass0 (pa_cons (pv 2) (pa_cons pe_int pa_nil))))) (pe_lst (pa_cons (pv 14) pa_nil)))
            (pe_op op_rep (pe_lst (pa_cons pe_non pa_nil)) (pe_call GDr hr1 rfl Dr.m Dr.F.kp Dr.b .nil pass0 (pa_cons (pv 2) (pa_cons pe_int pa_nil))))))
        (pss_one (ps_if (PW.pt (pw_or (pt_cmpR op_ne (pe_callB (call_repr hg h64) (by rfl) TL.repr (by decide +kernel) (pa_cons (pe_call GA hr rfl AD.m AD.F.kp AD.b .nil pass0 (pa_cons (pv 3) (pa_cons (pv 6) pa_nil))) pa_nil)) (pe_callB (call_repr hg h64) (by rfl) TL.repr (by decide +kernel) (pa_cons (pe_tup (pa_cons (pv 14) pa_nil)) pa_nil)) (nomark _))
                (pw_or1 (pt_cmpR (op_neL h64) (pv 3) (pv 4) (nomark _))))) (pss_one (ps_ret pe_bl)) pss_nil))))))))))
      (pss_one (ps_ret pe_bl)), ?_⟩
    have h16 : sizeLine = 16777216 := sizeLine_eq
    obtain ⟨J, hJ, hJ0, hJ6⟩ : ∃ J : Int, J = (if (if (((ns.map V.int).length : Nat) : Int) < 6 then (((ns.map V.int).length : Nat) : Int) else 6) > 2 then (if (((ns.map V.int).length : Nat) : Int) < 6 then (((ns.map V.int).length : Nat) : Int) else 6) else 2) ∧ 0 ≤ J ∧ J ≤ 6 := by
      refine ⟨_, rfl, ?_, ?_⟩
      · split <;> split <;> omega
      · split <;> split <;> omega
    refine ⟨_, rfl, a, _, rfl, .inl hS, _, _, rfl, _, _, rfl, J, by rw [hJ], by omega, by omega, ?_⟩
    refine for_range (lo := 0) (n := J.toNat) (fun i σ H' => (∃ v1 v2 v3 v4 v5 v6 v7 v8 v9 v10 v11 v12 v13 v14 v15 : Option V, σ = [some (.ref a), v1, v2, v3, v4, v5, v6, v7, v8, v9, v10, v11, v12, v13, v14, v15]) ∧ Same H H')
      ⟨⟨none, none, none, none, none, none, none, none, none, none, none, none, none, none, none, rfl⟩, Same.refl H⟩ ?_ ?_
    · rintro st σ H0 hst ⟨⟨v1, v2, v3, v4, v5, v6, v7, v8, v9, v10, v11, v12, v13, v14, v15, rfl⟩, s0⟩
      -- deck
      refine ⟨_, rfl, _, rfl, a, ns, _, rfl, Same.sq s0 hS, hlen, hbits, by omega, by omega, fun d Hd hd sd D => ?_⟩
      -- line
      refine ⟨_, rfl, _, rfl, d, 9, rfl, D, by decide, by decide, fun r1 H1 r10 r11 D1 B1 => ?_⟩
      obtain ⟨m1, rfl⟩ : ∃ m : Nat, r1 = (m : Int) := ⟨r1.toNat, by omega⟩
      refine ⟨_, _, rfl, rfl, d, 1 + m1, ?_, D1, by omega, fun l js H2 hl B2 D2 hL hjl hI => ?_⟩
      · show [V.ref d, V.int (1 + (m1 : Int))] = [V.ref d, V.int ((1 + m1 : Nat) : Int)]
        rw [Int.natCast_add]
        rfl
      have F2 : Fs d Hd [(l, .lst (js.map V.int))] H2 := (((Fs.start D).step D1 B1).step D2 B2).add hL nl
      have hHd : H d = none := Same.free s0 hd
      have sd0 : Same H Hd := s0.trans sd
      have nz : ∀ z ∈ js, z ≠ 0 := fun z hz => by have := (hI.2 z hz).1; omega
      have hj10 : js.length ≤ 10 := by omega
      -- kept, found, moves
      refine ⟨_, rfl, l, _, rfl, .inl (SqL.of F2.g0), fun kp hkp => ?_⟩
      have F3 := F2.new hkp (o := .lst (js.map V.int)) nl
      refine ⟨_, rfl, l, _, rfl, .inl (SqL.of F3.g1), fun fo0 hfo0 => ?_⟩
      have F4 := F3.new hfo0 (o := .lst (js.map V.int)) nl
      refine ⟨Nat.zero_le _, fun mo hmo => ?_⟩
      obtain ⟨hmo0, hmod, hmon⟩ := F4.apart hmo
      have F5 := F4.skip hmo (o := .lst [])
      have nkp : kp ≠ mo := hmon (kp, .lst (js.map V.int)) (by simp)
      have nll : l ≠ mo := hmon (l, .lst (js.map V.int)) (by simp)
      have M5 : MoAt mo [] [] (upd (upd (upd H2 kp (.lst (js.map V.int))) fo0 (.lst (js.map V.int))) mo (.lst [])) := ⟨upd_same, .nil⟩
      refine ⟨_, _, _, rfl, ?_⟩
      -- the turns
      refine ⟨_, rfl, d, 7, rfl, F5.deck, by decide, by decide, fun r7 H6 r70 r71 D6 B6 => ⟨r7, rfl, by omega, by omega, ?_⟩⟩
      refine for_range (lo := 0) (n := r7.toNat) (fun i σ H' => ∃ (fo : Addr) (ws : List V) (ds : List PyData) (v7 v8 v9 v10 v11 v12 v13 v14 v15 : Option V), σ = [some (.ref a), some (.int (0 + (st : Int))), some (.ref d), some (.ref l), some (.ref kp), some (.ref fo), some (.ref mo), v7, v8, v9, v10, v11, v12, v13, v14, v15] ∧
          Fs d Hd [(fo, .lst ((movesAll js ds).map V.int)), (kp, .lst (js.map V.int)), (l, .lst (js.map V.int))] H' ∧ MoAt mo ws ds H' ∧ movesOk js ds = true ∧ ws.length = i ∧ mo ≠ fo ∧ ∀ e ∈ ds, smallM e)
        ⟨fo0, [], [], _, _, _, _, _, _, _, _, _, rfl, F5.step D6 B6, M5.but F5.deck B6, rfl, rfl, (hmon (fo0, .lst (js.map V.int)) (by simp)).symm, fun e he => by cases he⟩ ?_ ?_
      · rintro i σ H7 hi ⟨fo, ws, ds, v7, v8, v9, v10, v11, v12, v13, v14, v15, rfl, F7, M7, hok, hwl, nfo, hsm⟩
        have hids := movesAll_ids ds hok hI.1
        have hfl := movesAll_len hok hI.1
        -- taken
        refine ⟨_, rfl, _, rfl, d, l, js, rfl, F7.deck, SqL.of F7.g2, by omega, fun p1 ks H8 hp1 B8 D8 hP1 perm => ?_⟩
        have F8 := F7.step D8 B8
        have M8 := M7.but F7.deck B8
        refine ⟨_, rfl, d, 3, rfl, D8, by decide, by decide, fun t H9 t0 t1 D9 B9 => ?_⟩
        obtain ⟨t, rfl⟩ : ∃ m : Nat, t = (m : Int) := ⟨t.toNat, by omega⟩
        have F9 := F8.step D9 B9
        have M9 := M8.but D8 B9
        refine ⟨_, _, rfl, rfl, _, rfl, p1, _, rfl, SqL.of (B9.lst D8 hP1), fun p2 hp2 => ⟨p2, _, rfl, .inl ⟨SqL.of upd_same, fun tk htk => ?_⟩⟩⟩
        have ecut : cutV (ks.map V.int) none (some (1 + (t : Int))) = (ks.take (1 + t)).map V.int := by
          have := cut_to (ks.map V.int) (1 + t)
          rw [Int.natCast_add] at this
          rw [List.map_take]
          exact this
        obtain ⟨T, hT⟩ : ∃ T, T = ks.take (1 + t) := ⟨_, rfl⟩
        rw [← hT] at ecut
        rw [ecut] at htk ⊢
        have hkn : ks.Nodup := perm.nodup_iff.mpr hI.1
        have hTn : T.Nodup := by rw [hT]; exact List.Nodup.sublist (List.take_sublist _ _) hkn
        have hTs : ∀ k ∈ T, k ∈ js := fun k hk => perm.mem_iff.mp (List.mem_of_mem_take (by rw [hT] at hk; exact hk))
        have hTe : T ≠ [] := by
          intro q
          have e1 := congrArg List.length q
          have e2 := perm.length_eq
          rw [hT, List.length_take, List.length_nil] at e1
          omega
        have hTl : T.length ≤ 10 := by
          have e2 := perm.length_eq
          rw [hT, List.length_take]
          omega
        have s10 := Same.new (o := .lst (T.map V.int)) hp2
        have F10 := (F9.same s10).new htk (o := .tup (T.map V.int)) nt
        have M10 := (M9.same s10).same (Same.new (o := .tup (T.map V.int)) htk)
        -- left
        refine ⟨_, rfl, l, rfl, ⟨_, SqL.of F10.g3⟩, fun D' hD' => ?_⟩
        obtain ⟨hD0, hDd, hDn⟩ := F10.apart hD'
        have nmoD : mo ≠ D' := ne_of_none M10.1 hD'
        refine lc_list (K := K) (a := l) (xs := js.map V.int) (fun i H' => Fs d Hd [(tk, .tup (T.map V.int)), (fo, .lst ((movesAll js ds).map V.int)), (kp, .lst (js.map V.int)), (l, .lst (js.map V.int))] H' ∧ MoAt mo ws ds H' ∧ H' D' = some (.lst ((without (js.take i) T).map V.int)))
          ⟨F10.skip hD', M10.same (Same.new hD'), upd_same⟩ (fun i H' _ q => SqL.of q.1.g3) ?_ ?_
        · rintro i' x H' hx ⟨F11, M11, hL11⟩
          rw [List.getElem?_map] at hx
          obtain ⟨z, hz2, rfl⟩ : ∃ z, js[i']? = some z ∧ x = V.int z := by
            cases hq2 : js[i']? with
            | none => rw [hq2] at hx; cases hx
            | some z => rw [hq2] at hx; exact ⟨z, rfl, (Option.some.inj hx).symm⟩
          refine ⟨rfl, ?_⟩
          refine ⟨_, rfl, _, rfl, tk, _, rfl, .inr (SqT.of F11.g0), rfl, all_flat T, _, rfl, ?_⟩
          rw [inV_int]
          have hff := filter_int js T i' hz2
          refine ite2 (fun c => ?_) (fun c => ?_)
          · have hz : z ∉ T := by simpa using c
            rw [if_neg hz] at hff
            refine ⟨_, rfl, _, hL11, ?_, F11.put hD0 hDd hDn, M11.put nmoD hL11, ?_⟩
            · rw [List.length_map, h16]
              have : (without (js.take i') T).length ≤ (js.take i').length := List.length_filter_le _ _
              have : (js.take i').length ≤ js.length := by rw [List.length_take]; omega
              omega
            · rw [upd_same]
              show some (HO.lst (_ ++ [V.int z])) = some (HO.lst ((without (js.take (i' + 1)) T).map V.int))
              rw [show without (js.take (i' + 1)) T = _ from hff, List.map_append]
              rfl
          · have hz : z ∈ T := by simpa using c
            rw [if_pos hz] at hff
            exact ⟨F11, M11, by rw [show without (js.take (i' + 1)) T = _ from hff]; exact hL11⟩
        · rintro H11 ⟨F11, M11, hL11⟩
          rw [List.length_map, List.take_length] at hL11
          have hleft : (without js T).length ≤ 10 := Nat.le_trans (List.length_filter_le _ _) hj10
          have F11' := F11.add hL11 nl
          -- move
          refine ⟨_, rfl, _, rfl, _, rfl, by show 1 ≤ sizeLine; decide, fun p4 hp4 => ?_⟩
          have F12 := F11'.skip hp4 (o := .lst [.int 0])
          have M12 := M11.same (Same.new (o := .lst [.int 0]) hp4)
          refine ⟨D', p4, _, _, rfl, rfl, F12.g0, upd_same, by rw [List.length_map, h16]; show (without js T).length + 1 ≤ 16777216; omega, fun p5 hp5 => ?_⟩
          have F13 := F12.skip hp5 (o := .lst ((without js T).map V.int ++ [.int 0]))
          have M13 := M12.same (Same.new (o := .lst ((without js T).map V.int ++ [.int 0])) hp5)
          refine ⟨d, p5, _, rfl, F13.deck, SqL.of upd_same, by simp, by rw [List.length_append, List.length_map]; show (without js T).length + 1 < 1000000; omega, fun v H14 hv D14 B14 => ?_⟩
          have F14 := (F13.step D14 B14).tail
          have M14 := M13.but F13.deck B14
          obtain ⟨an, rfl, han⟩ : ∃ an : Int, v = .int an ∧ (an = 0 ∨ an ∈ without js T) := by
            rcases List.mem_append.mp hv with h | h
            · obtain ⟨an, h1, h2⟩ := List.mem_map.mp h
              exact ⟨an, h2.symm, .inr h1⟩
            · have : v = .int 0 := by simpa using h
              exact ⟨0, this, .inl rfl⟩
          refine ⟨by show 2 ≤ sizeLine; decide, fun mv hmv => ?_⟩
          have F15 := F14.new hmv (o := .tup [.ref tk, .int an]) nt
          have M15 := M14.same (Same.new (o := .tup [.ref tk, .int an]) hmv)
          have ok : MoveOk (movesAll js ds) T an := ⟨hTe, fun k hk => (hids.2 k).mpr (hTs k hk), hTn, han.imp id fun h => ⟨(hids.2 an).mpr (mem_of_filter h), of_decide_eq_true (List.mem_filter.mp h).2⟩⟩
          have hdt : ∀ {H' : Hp}, H' mv = some (.tup [.ref tk, .int an]) → H' tk = some (.tup (T.map V.int)) → DT H' (.ref mv) (.tuple [.tuple (T.map .int), .int an]) := fun h1 h2 => .tup h1 (.cons (.tup h2 (DTs.ints T)) (.cons (.int an) .nil))
          have hsmv : smallM (.tuple [.tuple (T.map .int), .int an]) := fun es b e => by
            injection e with e
            injection e with e1 _
            injection e1 with e1
            rw [← e1, List.length_map]
            omega
          have hdo : doMoveD (movesAll js ds) (.tuple [.tuple (T.map .int), .int an]) = doMove (movesAll js ds) T an := by
            show doMove (movesAll js ds) ((T.map PyData.int).map intOf) an = _
            rw [ints_of_map]
          have hok2 : movesOk js (ds ++ [.tuple [.tuple (T.map .int), .int an]]) = true := by rw [movesOk_snoc, hok, ok.isMove]; rfl
          have hall2 : movesAll js (ds ++ [.tuple [.tuple (T.map .int), .int an]]) = doMove (movesAll js ds) T an := by rw [movesAll_snoc, hdo]
          have hnew : (doMove (movesAll js ds) T an).length ≤ 10 := by
            have := movesAll_len hok2 hI.1
            rw [hall2] at this
            omega
          have hnewI : ∀ z ∈ doMove (movesAll js ds) T an, 1 ≤ z ∧ z ≤ 1000000 := fun z hz => hI.2 z ((hids.2 z).mp ((mem_doMove ok.2.1).mp hz))
          -- due
          refine ⟨_, rfl, _, rfl, fo, mv, tk, movesAll js ds, T, an, rfl, SqL.of F15.g2, SqT.of F15.g0, SqT.of F15.g1, by omega, by omega, hids.1, fun z hz => nz z ((hids.2 z).mp hz), ok, fun du H16 hdu s16 hL16 => ?_⟩
          have F16 := (F15.same s16).add hL16 nl
          have M16 := M15.same s16
          have nmodu : mo ≠ du := ne_of_none M15.1 hdu
          refine ⟨2, rfl, by decide, by decide, ?_⟩
          refine for_range (lo := 0) (n := 2) (fun j σ H' => (∃ v12 v13 v15 : Option V, σ = [some (.ref a), some (.int (0 + (st : Int))), some (.ref d), some (.ref l), some (.ref kp), some (.ref fo), some (.ref mo), some (.int (0 + (i : Int))), some (.ref tk), some (.ref D'), some (.ref mv), some (.ref du), v12, v13, v14, v15]) ∧
              Fs d Hd [(du, .lst ((doMove (movesAll js ds) T an).map V.int)), (mv, .tup [.ref tk, .int an]), (tk, .tup (T.map V.int)), (fo, .lst ((movesAll js ds).map V.int)), (kp, .lst (js.map V.int)), (l, .lst (js.map V.int))] H' ∧ MoAt mo ws ds H')
            ⟨⟨_, _, _, rfl⟩, F16, M16⟩ ?_ ?_
          · rintro j σ H17 hj ⟨⟨v12', v13', v15', rfl⟩, F17, M17⟩
            refine ⟨_, rfl, _, rfl, fo, movesAll js ds, .ref mv, _, rfl, SqL.of F17.g3, by omega, (hdt F17.g1 F17.g2).dv, hsmv, fun _ p H18 hp s18 hL18 => ?_, fun hf => ?_⟩
            · rw [hdo] at hL18
              obtain ⟨hp0, hpd, hpn⟩ := F17.apart hp
              have F18 := F17.same s18
              have M18 := M17.same s18
              have nmop : mo ≠ p := ne_of_none M17.1 hp
              have rk := rok_ids hnewI (by omega)
              refine ⟨_, rfl, p, _, rfl, .lst (SqL.of hL18) (DVs.ints _), rk.m, rk.dep, rk.sz, _, rfl, du, _, rfl, .lst (SqL.of F18.g0) (DVs.ints _), rk.m, rk.dep, rk.sz, rfl, _, rfl, iteNS rfl ?_⟩
              refine ⟨_, rfl, .inl ⟨rfl, _, SqL.of hL18⟩, p, _, _, rfl, rfl, hL18, by rw [List.length_map, h16]; omega, ?_⟩
              exact ⟨⟨_, _, _, rfl⟩, F18.put hp0 hpd hpn, M18.put nmop hL18⟩
            · rw [ok.isMove] at hf; cases hf
          · rintro σ H17 ⟨⟨v12', v13', v15', rfl⟩, F17, M17⟩
            refine ⟨_, rfl, _, rfl, .inl ⟨rfl, _, SqL.of M17.1⟩, _, rfl, mo, _, _, rfl, rfl, M17.1, by rw [h16]; omega, ?_⟩
            refine ⟨du, ws ++ [.ref mv], ds ++ [.tuple [.tuple (T.map .int), .int an]], _, _, _, _, _, _, _, _, _, rfl, ?_, ⟨upd_same, ?_⟩, hok2, ?_, nmodu, ?_⟩
            · rw [hall2]
              have F19 : Fs d Hd [(du, .lst ((doMove (movesAll js ds) T an).map V.int)), (kp, .lst (js.map V.int)), (l, .lst (js.map V.int))] H17 := ⟨F17.1, F17.2.1, fun q hq => F17.2.2 q (by
                rcases List.mem_cons.mp hq with e | e
                · rw [e]; simp
                · rcases List.mem_cons.mp e with e | e
                  · rw [e]; simp
                  · have : q = (l, HO.lst (js.map V.int)) := by simpa using e
                    rw [this]; simp)⟩
              refine F19.put hmo0 hmod ?_
              intro q hq
              rcases List.mem_cons.mp hq with e | e
              · rw [e]; exact nmodu.symm
              · rcases List.mem_cons.mp e with e | e
                · rw [e]; exact nkp
                · have : q = (l, HO.lst (js.map V.int)) := by simpa using e
                  rw [this]; exact nll
            · exact DTs.append (M17.2.keep (KeepT.put M17.1)) (.cons ((hdt F17.g1 F17.g2).keep (KeepT.put M17.1)) .nil)
            · rw [List.length_append, List.length_singleton, hwl]
            · intro e he
              rcases List.mem_append.mp he with q | q
              · exact hsm e q
              · have : e = .tuple [.tuple (T.map .int), .int an] := by simpa using q
                rw [this]; exact hsmv
      · rintro σ H7 ⟨fo, ws, ds, v7, v8, v9, v10, v11, v12, v13, v14, v15, rfl, F7, M7, hok, hwl, nfo, hsm⟩
        have hids := movesAll_ids ds hok hI.1
        have hfl := movesAll_len hok hI.1
        have hw6 : ws.length ≤ 6 := by omega
        have rk := rok_ids (fun z hz => hI.2 z ((hids.2 z).mp hz)) (by omega : (movesAll js ds).length ≤ 300)
        have hjp : 0 < js.length := by omega
        have hj0 : (js.map V.int)[0]? = some (.int js[0]) := by rw [List.getElem?_map, List.getElem?_eq_getElem hjp]; rfl
        have hz0 := hI.2 js[0] (List.getElem_mem hjp)
        refine ⟨2, rfl, by decide, by decide, ?_⟩
        refine for_range (lo := 0) (n := 2) (fun j σ H' => (∃ v7 v8 v9 v10 v11 v12 v13 v14 v15 : Option V, σ = [some (.ref a), some (.int (0 + (st : Int))), some (.ref d), some (.ref l), some (.ref kp), some (.ref fo), some (.ref mo), v7, v8, v9, v10, v11, v12, v13, v14, v15]) ∧
            Fs d Hd [(fo, .lst ((movesAll js ds).map V.int)), (kp, .lst (js.map V.int)), (l, .lst (js.map V.int))] H' ∧ MoAt mo ws ds H')
          ⟨⟨_, _, _, _, _, _, _, _, _, rfl⟩, F7, M7⟩ ?_ ?_
        · rintro j σ H17 hj ⟨⟨v7', v8', v9', v10', v11', v12', v13', v14', v15', rfl⟩, F17, M17⟩
          refine ⟨_, rfl, _, rfl, l, mo, js, ws, ds, rfl, SqL.of F17.g2, by omega, hI.1, SqL.of M17.1, M17.2.dv, hw6, hsm, fun _ p H18 hp s18 hL18 => ?_, fun i' v' d' _ hd' _ hf => ?_⟩
          · obtain ⟨hp0, hpd, hpn⟩ := F17.apart hp
            have F18 := F17.same s18
            have M18 := M17.same s18
            have nmop : mo ≠ p := ne_of_none M17.1 hp
            refine ⟨_, rfl, p, _, rfl, .lst (SqL.of hL18) (DVs.ints _), rk.m, rk.dep, rk.sz, _, rfl, fo, _, rfl, .lst (SqL.of F18.g0) (DVs.ints _), rk.m, rk.dep, rk.sz, rfl, _, rfl, iteNS rfl ?_⟩
            refine ⟨_, rfl, _, rfl, l, kp, js, js, rfl, rfl, SqL.of F18.g2, SqL.of F18.g1, _, rfl, iteNS rfl ?_⟩
            refine ⟨_, rfl, .inl ⟨rfl, _, SqL.of hL18⟩, p, _, _, rfl, rfl, hL18, by rw [List.length_map, h16]; omega, ?_⟩
            exact ⟨⟨_, _, _, _, _, _, _, _, _, rfl⟩, F18.put hp0 hpd hpn, M18.put nmop hL18⟩
          · rw [movesOk_at hok hd'] at hf; cases hf
        · rintro σ H17 ⟨⟨v7', v8', v9', v10', v11', v12', v13', v14', v15', rfl⟩, F17, M17⟩
          -- bad
          refine ⟨_, rfl, Nat.zero_le _, fun t1 ht1 => ⟨by show 2 ≤ sizeLine; decide, fun t2 ht2 => ?_⟩⟩
          have s1 := Same.new (o := .tup []) ht1
          have s2 := Same.new (o := .tup [.ref t1, .int 0]) ht2
          have G2 := (F17.same s1).same s2
          refine ⟨_, rfl, l, _, _, _, rfl, rfl, SqL.of G2.g2, at_of (j := 0) rfl hj0, by show 1 ≤ sizeLine; decide, fun t3 ht3 => ?_⟩
          have s3 := Same.new (o := .tup [.int js[0]]) ht3
          have G3 := G2.same s3
          refine ⟨_, rfl, l, _, _, _, rfl, rfl, SqL.of G3.g2, at_of (j := 0) rfl hj0, by show 2 ≤ sizeLine; decide, fun t4 ht4 => ?_⟩
          have s4 := Same.new (o := .tup [.ref t3, .int js[0]]) ht4
          have G4 := G3.same s4
          refine ⟨_, _, rfl, rfl, ⟨by decide, by decide, by decide⟩, _, _, rfl, rfl, by show 1 ≤ sizeLine; decide, fun t5 ht5 => ⟨by show 2 ≤ sizeLine; decide, fun t6 ht6 => ?_⟩⟩
          rw [pow6] at ht6 ⊢
          have s5 := Same.new (o := .tup [.int 1000001]) ht5
          have s6 := Same.new (o := .tup [.ref t5, .int 0]) ht6
          have G6 := (G4.same s5).same s6
          refine ⟨_, rfl, l, _, _, _, rfl, rfl, SqL.of G6.g2, at_of (j := 0) rfl hj0, _, rfl, l, _, _, _, rfl, rfl, SqL.of G6.g2, at_of (j := 0) rfl hj0, by show 2 ≤ sizeLine; decide, fun t7 ht7 => ⟨by show 2 ≤ sizeLine; decide, fun t8 ht8 => ?_⟩⟩
          have s7 := Same.new (o := .tup [.int js[0], .int js[0]]) ht7
          have s8 := Same.new (o := .tup [.ref t7, .int 0]) ht8
          refine ⟨by show 5 ≤ sizeLine; decide, fun p9 hp9 => ?_⟩
          have s9 := Same.new (o := .lst [.ref t2, .ref t4, .ref t6, .non, .ref t8]) hp9
          have sAll := s1.trans (s2.trans (s3.trans (s4.trans (s5.trans (s6.trans (s7.trans (s8.trans s9)))))))
          have F18 := F17.same sAll
          have M18 := M17.same sAll
          refine ⟨d, p9, _, rfl, F18.deck, SqL.of upd_same, by simp, by show 5 < 1000000; decide, fun bv H19 hbv D19 B19 => ?_⟩
          have F19 := F18.step D19 B19
          have M19 := M18.but F18.deck B19
          have kt := KeepT.but F18.deck B19
          obtain ⟨bd, hbd, hno, hrk, hsb⟩ : ∃ bd, DT H19 bv bd ∧ NoMove js bd ∧ Rok (.tuple [bd]) ∧ smallM bd := by
            have b1 : ∀ {z : Int}, 1 ≤ z ∧ z ≤ 1000000 → z.natAbs < 2 ^ 300 := fun h => small_abs (by omega) (by omega)
            rcases List.mem_cons.mp hbv with e | hbv
            · subst e
              refine ⟨_, DT.keep kt (.tup ((s3.trans (s4.trans (s5.trans (s6.trans (s7.trans (s8.trans s9)))))) _ _ upd_same) (.cons (.tup ((s2.trans (s3.trans (s4.trans (s5.trans (s6.trans (s7.trans (s8.trans s9))))))) _ _ upd_same) .nil) (.cons (.int 0) .nil))), no1 js, rok_nil (small_abs (by decide) (by decide)), fun es b e => ?_⟩
              injection e with e; injection e with e1 _; injection e1 with e1; rw [← e1]; decide
            rcases List.mem_cons.mp hbv with e | hbv
            · subst e
              refine ⟨_, DT.keep kt (.tup ((s5.trans (s6.trans (s7.trans (s8.trans s9)))) _ _ upd_same) (.cons (.tup ((s4.trans (s5.trans (s6.trans (s7.trans (s8.trans s9))))) _ _ upd_same) (.cons (.int js[0]) .nil)) (.cons (.int js[0]) .nil))), no2 js _ (by omega), rok_one (b1 hz0) (b1 hz0), fun es b e => ?_⟩
              injection e with e; injection e with e1 _; injection e1 with e1; rw [← e1]; show 1 ≤ 4000; decide
            rcases List.mem_cons.mp hbv with e | hbv
            · subst e
              refine ⟨_, DT.keep kt (.tup ((s7.trans (s8.trans s9)) _ _ upd_same) (.cons (.tup ((s6.trans (s7.trans (s8.trans s9))) _ _ upd_same) (.cons (.int 1000001) .nil)) (.cons (.int 0) .nil))), no3 js fun z hz => (hI.2 z hz).2, rok_one (small_abs (by decide) (by decide)) (small_abs (by decide) (by decide)), fun es b e => ?_⟩
              injection e with e; injection e with e1 _; injection e1 with e1; rw [← e1]; decide
            rcases List.mem_cons.mp hbv with e | hbv
            · subst e
              exact ⟨_, .non, no4 js, rok_none, fun es b e => by cases e⟩
            rcases List.mem_cons.mp hbv with e | hbv
            · subst e
              refine ⟨_, DT.keep kt (.tup (s9 _ _ upd_same) (.cons (.tup ((s8.trans s9) _ _ upd_same) (.cons (.int js[0]) (.cons (.int js[0]) .nil))) (.cons (.int 0) .nil))), no5 js _, rok_two (b1 hz0) (b1 hz0) (small_abs (by decide) (by decide)), fun es b e => ?_⟩
              injection e with e; injection e with e1 _; injection e1 with e1; rw [← e1]; show 2 ≤ 4000; decide
            · cases hbv
          -- moves = moves[:..] + [bad] + [None] * ..
          refine ⟨_, rfl, _, rfl, d, 3, rfl, D19, by decide, by decide, fun q1 H20 q10 q11 D20 B20 => ?_⟩
          obtain ⟨q1, rfl⟩ : ∃ m : Nat, q1 = (m : Int) := ⟨q1.toNat, by omega⟩
          have F20 := F19.step D20 B20
          have M20 := M19.but D19 B20
          have hb20 := hbd.keep (KeepT.but D19 B20)
          refine ⟨_, rfl, mo, _, rfl, SqL.of M20.1, fun n1 hn1 => ?_⟩
          have u1 := Same.new (o := .lst (cutV ws none (some (q1 : Int)))) hn1
          refine ⟨_, rfl, by show 1 ≤ sizeLine; decide, fun n2 hn2 => ?_⟩
          have u2 := Same.new (o := .lst [bv]) hn2
          have lcut := cutV_length ws none (some (q1 : Int))
          refine ⟨n1, n2, _, _, rfl, rfl, u2 _ _ upd_same, upd_same, by rw [h16]; show _ + 1 ≤ _; omega, fun n3 hn3 => ?_⟩
          have u3 := Same.new (o := .lst (cutV ws none (some (q1 : Int)) ++ [bv])) hn3
          refine ⟨by show 1 ≤ sizeLine; decide, fun n4 hn4 => ?_⟩
          have u4 := Same.new (o := .lst [.non]) hn4
          have uA := u1.trans (u2.trans (u3.trans u4))
          have F21 := F20.same uA
          have M21 := M20.same uA
          have hb21 := hb20.keep (KeepT.same uA)
          refine ⟨_, rfl, d, 2, rfl, F21.deck, by decide, by decide, fun q2 H22 q20 q21 D22 B22 => ?_⟩
          obtain ⟨q2, rfl⟩ : ∃ m : Nat, q2 = (m : Int) := ⟨q2.toNat, by omega⟩
          have F22 := F21.step D22 B22
          have M22 := M21.but F21.deck B22
          have hb22 := hb21.keep (KeepT.but F21.deck B22)
          have h4' := B22.lst F21.deck (upd_same (H := _) (a := n4) (o := .lst [.non]))
          have h3' := B22.lst F21.deck (u4 _ _ upd_same)
          refine ⟨n4, _, _, rfl, rfl, h4', by omega, by omega, by rw [h16]; show 1 * _ ≤ _; simp; omega, fun n5 hn5 => ?_⟩
          have u5 := Same.new (o := .lst (List.replicate (q2 : Int).toNat [V.non]).flatten) hn5
          have erep : (List.replicate (q2 : Int).toNat [V.non]).flatten = List.replicate q2 V.non := by rw [Int.toNat_natCast, rep_flat]
          refine ⟨n3, n5, _, _, rfl, rfl, u5 _ _ h3', upd_same, by rw [erep, List.length_append, List.length_replicate, h16]; show _ + 1 + _ ≤ _; omega, fun n6 hn6 => ?_⟩
          have u6 := Same.new (o := .lst ((cutV ws none (some (q1 : Int)) ++ [bv]) ++ (List.replicate (q2 : Int).toNat [V.non]).flatten)) hn6
          have u56 := u5.trans u6
          have F23 := F22.same u56
          have M23 := M22.same u56
          have hb23 := hb22.keep (KeepT.same u56)
          have hcut : cutV ws none (some (q1 : Int)) = ws.take q1 := cut_to ws q1
          have hdts := DTs.append (DTs.append (M23.2.take q1) (.cons hb23 .nil)) (DTs.none q2)
          have hA := movesOk_take q1 hok
          have hw3 : (ws.take q1).length ≤ 2 := by rw [List.length_take]; omega
          -- if repr(_law_all_done(line, moves)) != repr((bad,)) or line != kept
          refine ⟨_, rfl, _, rfl, l, n6, js, ws.take q1 ++ [bv] ++ List.replicate q2 V.non, ds.take q1 ++ [bd] ++ List.replicate q2 .none, rfl, SqL.of F23.g2, by omega, hI.1, SqL.of (by rw [← hcut, ← erep]; exact upd_same), hdts.dv, ?_, ?_, fun hf => ?_, fun i' v' d' hv' hd' hok' hbad' p H24 hp s24 hp24 => ?_⟩
          · rw [List.length_append, List.length_append, List.length_replicate]
            show _ + 1 + _ ≤ 6
            omega
          · intro e he
            rcases List.mem_append.mp he with he | he
            · rcases List.mem_append.mp he with he | he
              · exact hsm e (List.mem_of_mem_take he)
              · have : e = bd := by simpa using he
                rw [this]; exact hsb
            · have : e = .none := List.eq_of_mem_replicate he
              rw [this]
              intro es b e; cases e
          · rw [bad_never hI.1 hA hno] at hf; cases hf
          · have hi' := bad_at hI.1 hA hno hd' hok' hbad'
            have hwd := (M23.2.take q1).length
            have ev : v' = bv := by
              rw [hi', ← hwd, List.append_assoc, List.getElem?_append_right (Nat.le_refl _), Nat.sub_self] at hv'
              exact (Option.some.inj hv').symm
            subst ev
            have F24 := F23.same s24
            have hb24 := hb23.keep (KeepT.same s24)
            refine ⟨p, _, rfl, .tup (SqT.of hp24) (.cons hb24.dv .nil), hrk.m, hrk.dep, hrk.sz, _, rfl, by show 1 ≤ sizeLine; decide, fun t9 ht9 => ?_⟩
            have s25 := Same.new (o := .tup [v']) ht9
            have F25 := F24.same s25
            refine ⟨t9, _, rfl, .tup (SqT.of upd_same) (.cons (hb24.keep (KeepT.same s25)).dv .nil), hrk.m, hrk.dep, hrk.sz, rfl, _, rfl, iteNS rfl ?_⟩
            refine ⟨_, rfl, _, rfl, l, kp, js, js, rfl, rfl, SqL.of F25.g2, SqL.of F25.g1, _, rfl, iteNS rfl ?_⟩
            exact ⟨⟨_, _, _, _, _, _, _, _, _, _, _, _, _, _, _, rfl⟩, F25.old hHd sd0⟩
    · rintro σ H0 ⟨⟨v1, v2, v3, v4, v5, v6, v7, v8, v9, v10, v11, v12, v13, v14, v15, rfl⟩, s0⟩
      exact k _
end
/-! ### what the top has written, the head -/
/-- an error of the class at S is what «except S» names -/
theorem exm_own {K : PySem.W.Frag} {S : Addr} (h1 : PySem.W.subIn K (.ref S) (.type "BaseException") = some true) (h2 : PySem.W.isClsIn K S = true) (h3 : PySem.W.typeIn K (.ref S) = some (.type "type")) (h4 : PySem.W.subIn K (.ref S) (.ref S) = some true) :
    PySem.W.exmOne K (.ref S) (.ref S) = some true := by
  have q1 : (PySem.W.subIn K (.ref S) (.type "BaseException") == some true) = true := by rw [h1] <;> rfl
  have q2 : ((PySem.W.clsIn K S).isSome && PySem.W.typeIn K (.ref S) == some (.type "type")) = true := by
    have h2' : (PySem.W.clsIn K S).isSome = true := h2
    rw [h2', h3] <;> rfl
  show (if (PySem.W.subIn K (.ref S) (.type "BaseException") == some true) = true then (if ((PySem.W.clsIn K S).isSome && PySem.W.typeIn K (.ref S) == some (.type "type")) = true then PySem.W.subIn K (.ref S) (.ref S) else none) else none) = some true
  rw [if_pos q1, if_pos q2]
  exact h4
theorem all_mk {l : PySem.W.OpenLaw} {w : World} {K : PySem.W.Frag} {h : Heap} {mg : Str → Option Value} {fa : Addr} (X : K.In h) (G : h.Ns mainGlobals mg) (hfa : mg "law" = some (.ref fa))
    {nm q : Str} {N C C0 fI : Addr} {bs : List Value} {sn : List Str} {sub : List Value} {ab : Bool} {col : Option Bool} {dd : Option Addr} {m0 m1 m2 m3 m5 : Option Value} {odI anI : Option Addr} {slI : Array (Option Value)} {ocI dcI pmI cdI ctI : Value}
    {f1 : Addr} {od1 an1 : Option Addr} {sl1 : Array (Option Value)} {oc1 kV1 dc1 pm1 cd1 ct1 : Value}
    {f2 : Addr} {od2 an2 : Option Addr} {sl2 : Array (Option Value)} {oc2 kV2 dc2 pm2 cd2 ct2 : Value}
    {f3 : Addr} {od3 an3 : Option Addr} {sl3 : Array (Option Value)} {oc3 kV3 dc3 pm3 cd3 ct3 : Value}
    {f4 : Addr} {od4 an4 : Option Addr} {sl4 : Array (Option Value)} {oc4 kV4 dc4 pm4 cd4 ct4 : Value}
    {f5 : Addr} {od5 an5 : Option Addr} {sl5 : Array (Option Value)} {oc5 kV5 dc5 pm5 cd5 ct5 : Value}
    {f6 : Addr} {od6 an6 : Option Addr} {sl6 : Array (Option Value)} {oc6 kV6 dc6 pm6 cd6 ct6 : Value}
    {f7 : Addr} {od7 an7 : Option Addr} {sl7 : Array (Option Value)} {oc7 kV7 dc7 pm7 cd7 ct7 : Value}
    {f8 : Addr} {od8 an8 : Option Addr} {sl8 : Array (Option Value)} {oc8 kV8 dc8 pm8 cd8 ct8 : Value}
    {f9 : Addr} {od9 an9 : Option Addr} {sl9 : Array (Option Value)} {oc9 kV9 dc9 pm9 cd9 ct9 : Value}
    {f10 : Addr} {od10 an10 : Option Addr} {sl10 : Array (Option Value)} {oc10 kV10 dc10 pm10 cd10 ct10 : Value}
    {f11 : Addr} {od11 an11 : Option Addr} {sl11 : Array (Option Value)} {oc11 kV11 dc11 pm11 cd11 ct11 : Value}
    {f12 : Addr} {od12 an12 : Option Addr} {sl12 : Array (Option Value)} {oc12 kV12 dc12 pm12 cd12 ct12 : Value}
    {f13 : Addr} {od13 an13 : Option Addr} {sl13 : Array (Option Value)} {oc13 kV13 dc13 pm13 cd13 ct13 : Value}
    {f14 : Addr} {od14 an14 : Option Addr} {sl14 : Array (Option Value)} {oc14 kV14 dc14 pm14 cd14 ct14 : Value}
    (aH : PySem.W.nsIn K mainGlobals "HandError" = some (some (.ref C0))) (aC : PySem.W.nsIn K mainGlobals "BadMove" = some (some (.ref C)))
    (xL : K.lookup C = some (excClassObj nm q C N bs [.ref C0, .type "ValueError", .type "Exception", .type "BaseException", .type "object"] true sn sub ab col dd m0 m1 m2 m3 m5 "ValueError.__new__"))
    (sa : PySem.W.findIn K (.ref C) "__setattr__" = some (some (.builtin "object.__setattr__"))) (ga : PySem.W.findIn K (.ref C) "__getattribute__" = some (some (.builtin "BaseException.__getattribute__"))) (gg : PySem.W.findIn K (.ref C) "__getattr__" = some none) (nb : PySem.W.findIn K (.ref C) "value" = some none)
    (aI : PySem.W.findIn K (.ref C) "__init__" = some (some (.ref fI))) (tI : PySem.W.typeIn K (.ref fI) = some (.type "function"))
    (lI : K.lookup fI = some ⟨ocI, odI, .func (PySem.W.fnOf "__init__" "BadMove.__init__" (PySem.LowX.iA ⟨6, 17, 6, 21⟩ ⟨6, 23, 6, 28⟩) (PySem.LowX.iB ⟨7, 8, 7, 12⟩ ⟨7, 8, 7, 18⟩ ⟨7, 21, 7, 26⟩ ⟨7, 8, 7, 26⟩) PySem.LowX.iS .none .none dcI pmI anI cdI ctI), slI⟩) (cI : PySem.W.codeIn K cdI "BadMove.__init__" = true)
    (kC : PySem.W.keepIn K (.ref C) = true) (eC : PySem.W.subIn K (.ref C) (.type "BaseException") = some true) (tC : PySem.W.typeIn K (.ref C) = some (.type "type")) (hC : PySem.W.hasDictIn K C = true) (iC : PySem.W.isClsIn K C = true) (sC : PySem.W.subIn K (.ref C) (.ref C) = some true)
    (a1 : PySem.W.nsIn K mainGlobals "is_whole" = some (some (.ref f1))) (l1 : K.lookup f1 = some ⟨oc1, od1, .func (PySem.W.fnOf "is_whole" "is_whole" (defArgs sWhole) (defBody sWhole) (defScope sWhole) .none kV1 dc1 pm1 an1 cd1 ct1), sl1⟩) (c1 : PySem.W.codeIn K cd1 "is_whole" = true) (k1 : PySem.W.keepIn K (.ref f1) = true)
    (a2 : PySem.W.nsIn K mainGlobals "all_different" = some (some (.ref f2))) (l2 : K.lookup f2 = some ⟨oc2, od2, .func (PySem.W.fnOf "all_different" "all_different" (defArgs sDiff) (defBody sDiff) (defScope sDiff) .none kV2 dc2 pm2 an2 cd2 ct2), sl2⟩) (c2 : PySem.W.codeIn K cd2 "all_different" = true) (k2 : PySem.W.keepIn K (.ref f2) = true)
    (a3 : PySem.W.nsIn K mainGlobals "are_ids_of" = some (some (.ref f3))) (l3 : K.lookup f3 = some ⟨oc3, od3, .func (PySem.W.fnOf "are_ids_of" "are_ids_of" (defArgs sAreIds) (defBody sAreIds) (defScope sAreIds) .none kV3 dc3 pm3 an3 cd3 ct3), sl3⟩) (c3 : PySem.W.codeIn K cd3 "are_ids_of" = true) (k3 : PySem.W.keepIn K (.ref f3) = true)
    (a4 : PySem.W.nsIn K mainGlobals "is_move" = some (some (.ref f4))) (l4 : K.lookup f4 = some ⟨oc4, od4, .func (PySem.W.fnOf "is_move" "is_move" (defArgs sIsMove) (defBody sIsMove) (defScope sIsMove) .none kV4 dc4 pm4 an4 cd4 ct4), sl4⟩) (c4 : PySem.W.codeIn K cd4 "is_move" = true) (k4 : PySem.W.keepIn K (.ref f4) = true)
    (a5 : PySem.W.nsIn K mainGlobals "do_move" = some (some (.ref f5))) (l5 : K.lookup f5 = some ⟨oc5, od5, .func (PySem.W.fnOf "do_move" "do_move" (defArgs sDoMove) (defBody sDoMove) (defScope sDoMove) .none kV5 dc5 pm5 an5 cd5 ct5), sl5⟩) (c5 : PySem.W.codeIn K cd5 "do_move" = true) (k5 : PySem.W.keepIn K (.ref f5) = true)
    (a6 : PySem.W.nsIn K mainGlobals "do_moves" = some (some (.ref f6))) (l6 : K.lookup f6 = some ⟨oc6, od6, .func (PySem.W.fnOf "do_moves" "do_moves" (defArgs sDoMoves) (defBody sDoMoves) (defScope sDoMoves) .none kV6 dc6 pm6 an6 cd6 ct6), sl6⟩) (c6 : PySem.W.codeIn K cd6 "do_moves" = true) (k6 : PySem.W.keepIn K (.ref f6) = true)
    (a7 : PySem.W.nsIn K mainGlobals "_law_deck" = some (some (.ref f7))) (l7 : K.lookup f7 = some ⟨oc7, od7, .func (PySem.W.fnOf "_law_deck" "_law_deck" (defArgs sDeck) (defBody sDeck) (defScope sDeck) .none kV7 dc7 pm7 an7 cd7 ct7), sl7⟩) (c7 : PySem.W.codeIn K cd7 "_law_deck" = true) (k7 : PySem.W.keepIn K (.ref f7) = true)
    (a8 : PySem.W.nsIn K mainGlobals "_law_draw" = some (some (.ref f8))) (l8 : K.lookup f8 = some ⟨oc8, od8, .func (PySem.W.fnOf "_law_draw" "_law_draw" (defArgs sDraw) (defBody sDraw) (defScope sDraw) .none kV8 dc8 pm8 an8 cd8 ct8), sl8⟩) (c8 : PySem.W.codeIn K cd8 "_law_draw" = true) (k8 : PySem.W.keepIn K (.ref f8) = true)
    (a9 : PySem.W.nsIn K mainGlobals "_law_choose" = some (some (.ref f9))) (l9 : K.lookup f9 = some ⟨oc9, od9, .func (PySem.W.fnOf "_law_choose" "_law_choose" (defArgs sChoose) (defBody sChoose) (defScope sChoose) .none kV9 dc9 pm9 an9 cd9 ct9), sl9⟩) (c9 : PySem.W.codeIn K cd9 "_law_choose" = true) (k9 : PySem.W.keepIn K (.ref f9) = true)
    (a10 : PySem.W.nsIn K mainGlobals "_law_shuffled" = some (some (.ref f10))) (l10 : K.lookup f10 = some ⟨oc10, od10, .func (PySem.W.fnOf "_law_shuffled" "_law_shuffled" (defArgs sShuf) (defBody sShuf) (defScope sShuf) .none kV10 dc10 pm10 an10 cd10 ct10), sl10⟩) (c10 : PySem.W.codeIn K cd10 "_law_shuffled" = true) (k10 : PySem.W.keepIn K (.ref f10) = true)
    (a11 : PySem.W.nsIn K mainGlobals "_law_ids" = some (some (.ref f11))) (l11 : K.lookup f11 = some ⟨oc11, od11, .func (PySem.W.fnOf "_law_ids" "_law_ids" (defArgs sIds) (defBody sIds) (defScope sIds) .none kV11 dc11 pm11 an11 cd11 ct11), sl11⟩) (c11 : PySem.W.codeIn K cd11 "_law_ids" = true) (k11 : PySem.W.keepIn K (.ref f11) = true)
    (a12 : PySem.W.nsIn K mainGlobals "_law_done" = some (some (.ref f12))) (l12 : K.lookup f12 = some ⟨oc12, od12, .func (PySem.W.fnOf "_law_done" "_law_done" (defArgs sDone) (defBody sDone) (defScope sDone) .none kV12 dc12 pm12 an12 cd12 ct12), sl12⟩) (c12 : PySem.W.codeIn K cd12 "_law_done" = true) (k12 : PySem.W.keepIn K (.ref f12) = true)
    (a13 : PySem.W.nsIn K mainGlobals "_law_all_done" = some (some (.ref f13))) (l13 : K.lookup f13 = some ⟨oc13, od13, .func (PySem.W.fnOf "_law_all_done" "_law_all_done" (defArgs sAllDone) (defBody sAllDone) (defScope sAllDone) .none kV13 dc13 pm13 an13 cd13 ct13), sl13⟩) (c13 : PySem.W.codeIn K cd13 "_law_all_done" = true) (k13 : PySem.W.keepIn K (.ref f13) = true)
    (a14 : PySem.W.nsIn K mainGlobals "law" = some (some (.ref f14))) (l14 : K.lookup f14 = some ⟨oc14, od14, .func (PySem.W.fnOf "law" "law" (defArgs sLaw) (defBody sLaw) (defScope sLaw) .none kV14 dc14 pm14 an14 cd14 ct14), sl14⟩) (c14 : PySem.W.codeIn K cd14 "law" = true) (k14 : PySem.W.keepIn K (.ref f14) = true)
    (z0 : PySem.W.nsIn K mainGlobals "len" = some none)
    (z1 : PySem.W.nsIn K mainGlobals "isinstance" = some none)
    (z2 : PySem.W.nsIn K mainGlobals "int" = some none)
    (z3 : PySem.W.nsIn K mainGlobals "bool" = some none)
    (z4 : PySem.W.nsIn K mainGlobals "tuple" = some none)
    (z5 : PySem.W.nsIn K mainGlobals "set" = some none)
    (z6 : PySem.W.nsIn K mainGlobals "all" = some none)
    (z7 : PySem.W.nsIn K mainGlobals "list" = some none)
    (z8 : PySem.W.nsIn K mainGlobals "range" = some none)
    (z9 : PySem.W.nsIn K mainGlobals "max" = some none)
    (z10 : PySem.W.nsIn K mainGlobals "min" = some none)
    (z11 : PySem.W.nsIn K mainGlobals "repr" = some none)
    : ∃ fd : FuncData, (∀ (s : Shared) (v : Value), BindsTo s fd ⟨[v], []⟩ [("script", v)]) ∧ ∀ base : Heap, K.In base → base.Ns mainGlobals mg → FnG l.prog w K mg base 7 fa fd ["script"] (spLaw K) := by
  have e := hfa.symm.trans (PySem.W.mg_of X G a14)
  cases e
  have L : PySem.LowX.LowTxt K mg C fI :=
    { gC := PySem.W.mg_of X G aC, cls := ⟨nm, q, N, bs, _, sn, sub, ab, col, dd, m0, m1, m2, m3, m5, xL, rfl⟩, sa := sa, ga := ga, gg := gg, noN := nb, iC := aI, tC := tI, kC := kC, exC := eC, tyC := tC, hdC := hC, te := exm_own eC iC tC sC,
      fn := ⟨_, _, _, _, _, _, _, _, _, _, _, _, _, _, lI, cI⟩ }
  have n_len := PySem.W.mg_none_of X G z0
  have n_isinstance := PySem.W.mg_none_of X G z1
  have n_int := PySem.W.mg_none_of X G z2
  have n_bool := PySem.W.mg_none_of X G z3
  have n_tuple := PySem.W.mg_none_of X G z4
  have n_set := PySem.W.mg_none_of X G z5
  have n_all := PySem.W.mg_none_of X G z6
  have n_list := PySem.W.mg_none_of X G z7
  have n_range := PySem.W.mg_none_of X G z8
  have n_max := PySem.W.mg_none_of X G z9
  have n_min := PySem.W.mg_none_of X G z10
  have n_repr := PySem.W.mg_none_of X G z11
  have F1 := fun_mk (st := sWhole) l1 c1 k1
  have b1 := F1.binds (ps := ["value"]) fun _ _ _ _ _ _ us hl => match us, hl with | [_], _ => rfl
  have W : Fn K mg "is_whole" sWhole ["value"] f1 _ := ⟨F1, b1, PySem.W.mg_of X G a1⟩
  have F2 := fun_mk (st := sDiff) l2 c2 k2
  have b2 := F2.binds (ps := ["numbers"]) fun _ _ _ _ _ _ us hl => match us, hl with | [_], _ => rfl
  have D : Fn K mg "all_different" sDiff ["numbers"] f2 _ := ⟨F2, b2, PySem.W.mg_of X G a2⟩
  have F3 := fun_mk (st := sAreIds) l3 c3 k3
  have b3 := F3.binds (ps := ["order", "value"]) fun _ _ _ _ _ _ us hl => match us, hl with | [_, _], _ => rfl
  have A : Fn K mg "are_ids_of" sAreIds ["order", "value"] f3 _ := ⟨F3, b3, PySem.W.mg_of X G a3⟩
  have F4 := fun_mk (st := sIsMove) l4 c4 k4
  have b4 := F4.binds (ps := ["order", "value"]) fun _ _ _ _ _ _ us hl => match us, hl with | [_, _], _ => rfl
  have M : Fn K mg "is_move" sIsMove ["order", "value"] f4 _ := ⟨F4, b4, PySem.W.mg_of X G a4⟩
  have F5 := fun_mk (st := sDoMove) l5 c5 k5
  have b5 := F5.binds (ps := ["order", "move"]) fun _ _ _ _ _ _ us hl => match us, hl with | [_, _], _ => rfl
  have Do : Fn K mg "do_move" sDoMove ["order", "move"] f5 _ := ⟨F5, b5, PySem.W.mg_of X G a5⟩
  have F6 := fun_mk (st := sDoMoves) l6 c6 k6
  have m_Ms := PySem.W.mg_of X G a6
  have F_Ms := F6
  have F7 := fun_mk (st := sDeck) l7 c7 k7
  have b7 := F7.binds (ps := ["script", "start"]) fun _ _ _ _ _ _ us hl => match us, hl with | [_, _], _ => rfl
  have De : Fn K mg "_law_deck" sDeck ["script", "start"] f7 _ := ⟨F7, b7, PySem.W.mg_of X G a7⟩
  have F8 := fun_mk (st := sDraw) l8 c8 k8
  have b8 := F8.binds (ps := ["deck", "size"]) fun _ _ _ _ _ _ us hl => match us, hl with | [_, _], _ => rfl
  have Dr : Fn K mg "_law_draw" sDraw ["deck", "size"] f8 _ := ⟨F8, b8, PySem.W.mg_of X G a8⟩
  have F9 := fun_mk (st := sChoose) l9 c9 k9
  have b9 := F9.binds (ps := ["deck", "things"]) fun _ _ _ _ _ _ us hl => match us, hl with | [_, _], _ => rfl
  have Ch : Fn K mg "_law_choose" sChoose ["deck", "things"] f9 _ := ⟨F9, b9, PySem.W.mg_of X G a9⟩
  have F10 := fun_mk (st := sShuf) l10 c10 k10
  have b10 := F10.binds (ps := ["deck", "things"]) fun _ _ _ _ _ _ us hl => match us, hl with | [_, _], _ => rfl
  have Sh : Fn K mg "_law_shuffled" sShuf ["deck", "things"] f10 _ := ⟨F10, b10, PySem.W.mg_of X G a10⟩
  have F11 := fun_mk (st := sIds) l11 c11 k11
  have b11 := F11.binds (ps := ["deck", "many"]) fun _ _ _ _ _ _ us hl => match us, hl with | [_, _], _ => rfl
  have Id : Fn K mg "_law_ids" sIds ["deck", "many"] f11 _ := ⟨F11, b11, PySem.W.mg_of X G a11⟩
  have F12 := fun_mk (st := sDone) l12 c12 k12
  have b12 := F12.binds (ps := ["line", "move"]) fun _ _ _ _ _ _ us hl => match us, hl with | [_, _], _ => rfl
  have Dn : Fn K mg "_law_done" sDone ["line", "move"] f12 _ := ⟨F12, b12, PySem.W.mg_of X G a12⟩
  have F13 := fun_mk (st := sAllDone) l13 c13 k13
  have b13 := F13.binds (ps := ["line", "moves"]) fun _ _ _ _ _ _ us hl => match us, hl with | [_, _], _ => rfl
  have AD : Fn K mg "_law_all_done" sAllDone ["line", "moves"] f13 _ := ⟨F13, b13, PySem.W.mg_of X G a13⟩
  exact ⟨PySem.W.fnOf "law" "law" (defArgs sLaw) (defBody sLaw) (defScope sLaw) .none kV14 dc14 pm14 an14 cd14 ct14, fun s v => .of_eq rfl, fun base _ _ =>
    (have TV : TxtV mg := ⟨n_len, n_isinstance, n_int, n_bool, n_tuple, n_set, n_all, n_list⟩
    have GO := ok_doX Do.F TV L W.F W.b W.m D.F D.b D.m A.F A.b A.m M.F M.b M.m
    have GM := ok_moves F_Ms TV GO Do.m Do.F.kp Do.b (fun us rest hl => StX.bind_star1 (B := fun us => bindArgs _ ⟨us, []⟩) (fun a => by rfl) (fun a r rs => by rfl) us rest hl)
    ok_law (fun_mk (st := sLaw) l14 c14 k14) ⟨n_len⟩ ⟨n_range, n_max, n_min, n_repr, n_list, n_tuple, n_len⟩ De Dr Ch Id Sh Dn Do GO AD (ok_allDone AD.F n_len L GM m_Ms F_Ms.kp))⟩
end Hk
open PySem PySem.W PyProof.Rows in
set_option maxRecDepth 100000 in
set_option maxHeartbeats 0 in
theorem PySem.Challenge.cw_handsorted_k06_moves_done_holds : PySem.Challenge.rw_handsorted_k06_moves_done.Holds := by
  w_on; o_law; k_head; (case hw => w_witness2)
  k_fill
  refine Hk.walkG (l := PySem.Challenge.rw_handsorted_k06_moves_done) (n := 63) (k := 7) (x := "script") (sp := Hk.spLaw) rfl (by decide) rfl ⟨rfl, by decide, by decide⟩ (fun w h Y => PySem.W.kIn_of Y) ?F (fun _ _ a ns hl hb hS => ⟨a, ns, rfl, hS, hl, hb, fun _ => rfl⟩)
  case F =>
    intro w mg fa h KX G hmg
    refine' Hk.all_mk KX G hmg ?aH ?aC ?xL ?sa ?ga ?gg ?nb ?aI ?tI ?lI ?cI ?kC ?eC ?tC ?hC ?iC ?sC ?a1 ?l1 ?c1 ?k1 ?a2 ?l2 ?c2 ?k2 ?a3 ?l3 ?c3 ?k3 ?a4 ?l4 ?c4 ?k4 ?a5 ?l5 ?c5 ?k5 ?a6 ?l6 ?c6 ?k6 ?a7 ?l7 ?c7 ?k7 ?a8 ?l8 ?c8 ?k8 ?a9 ?l9 ?c9 ?k9 ?a10 ?l10 ?c10 ?k10 ?a11 ?l11 ?c11 ?k11 ?a12 ?l12 ?c12 ?k12 ?a13 ?l13 ?c13 ?k13 ?a14 ?l14 ?c14 ?k14 ?z0 ?z1 ?z2 ?z3 ?z4 ?z5 ?z6 ?z7 ?z8 ?z9 ?z10 ?z11
    (case aH => k_is)
    (case aC => k_is)
    (case xL => k_is)
    (case sa => k_is)
    (case ga => k_is)
    (case gg => k_is)
    (case nb => k_is)
    (case aI => k_is)
    (case tI => k_is)
    (case lI => k_is)
    (case cI => k_is)
    (case kC => k_is)
    (case eC => k_is)
    (case tC => k_is)
    (case hC => k_is)
    (case iC => k_is)
    (case sC => first | rfl | k_is)
    (case a1 => k_is)
    (case l1 => k_is)
    (case c1 => k_is)
    (case k1 => k_is)
    (case a2 => k_is)
    (case l2 => k_is)
    (case c2 => k_is)
    (case k2 => k_is)
    (case a3 => k_is)
    (case l3 => k_is)
    (case c3 => k_is)
    (case k3 => k_is)
    (case a4 => k_is)
    (case l4 => k_is)
    (case c4 => k_is)
    (case k4 => k_is)
    (case a5 => k_is)
    (case l5 => k_is)
    (case c5 => k_is)
    (case k5 => k_is)
    (case a6 => k_is)
    (case l6 => k_is)
    (case c6 => k_is)
    (case k6 => k_is)
    (case a7 => k_is)
    (case l7 => k_is)
    (case c7 => k_is)
    (case k7 => k_is)
    (case a8 => k_is)
    (case l8 => k_is)
    (case c8 => k_is)
    (case k8 => k_is)
    (case a9 => k_is)
    (case l9 => k_is)
    (case c9 => k_is)
    (case k9 => k_is)
    (case a10 => k_is)
    (case l10 => k_is)
    (case c10 => k_is)
    (case k10 => k_is)
    (case a11 => k_is)
    (case l11 => k_is)
    (case c11 => k_is)
    (case k11 => k_is)
    (case a12 => k_is)
    (case l12 => k_is)
    (case c12 => k_is)
    (case k12 => k_is)
    (case a13 => k_is)
    (case l13 => k_is)
    (case c13 => k_is)
    (case k13 => k_is)
    (case a14 => k_is)
    (case l14 => k_is)
    (case c14 => k_is)
    (case k14 => k_is)
    (case z0 => k_is)
    (case z1 => k_is)
    (case z2 => k_is)
    (case z3 => k_is)
    (case z4 => k_is)
    (case z5 => k_is)
    (case z6 => k_is)
    (case z7 => k_is)
    (case z8 => k_is)
    (case z9 => k_is)
    (case z10 => k_is)
    (case z11 => k_is)

