import PyProof.Rows.All
import Wide.All
import OpenK.AllK
import Wide.FinOn
import HandS.Base
import HandS.Call
import HandS.List
import HandS.Comp
import HandS.Ends
import HandS.Dict
import HandS.Iter
import HandS.Words
import HandS.WordsList
import HandS.WordsDict
import HandS.Set
import HandS.SetFor
import HandS.IsInst
import HandS.EndBits
import PyProof.ReprRoads
import HandS.Style
import HandS.SetKeys
import KE.SortData
import KE.DataCmp
import KE.KDictZip
import KE.KTurns
import HandS.Walk
import HandS.DictComp
import HandS.SortKw
import KE.DataMinMax
import HandS.Sort
import HandS.DictSubView
import HandS.Defaults
import HandS.ListItems
import HandS.DictTup
import KE.KItemsList
import PyProof.Rows.CallKwBuiltin
import KE.SortCalls
import PyProof.Rows.SortWalk
import HandS.GenList
import HandS.ForMost
import HandS.Conv
import HandS.Strs
import PySem.Challenge.RW_handsorted_k41_moved_ids_and_conflicts
set_option Elab.async false
set_option linter.all false
set_option maxRecDepth 100000
set_option maxHeartbeats 8000000
namespace Hk
open PySem L2 PySem.Spec PyProof.Rows
def top (i : Nat) : Stmt := PySem.Challenge.pw_handsorted_k41_moved_ids_and_conflicts.main.body.getD i (.Pass ⟨0, 0, 0, 0⟩)
abbrev sPlaces : Stmt := top 1
abbrev sNeigh : Stmt := top 2
abbrev sFull : Stmt := top 4
abbrev sTops : Stmt := top 6
abbrev sFavs : Stmt := top 7
abbrev sBest : Stmt := top 8
abbrev sAmong : Stmt := top 10
abbrev sWithout : Stmt := top 11
abbrev sMovedIds : Stmt := top 12
abbrev sConf : Stmt := top 13
abbrev sDeck : Stmt := top 15
abbrev sDraw : Stmt := top 16
abbrev sChoose : Stmt := top 17
abbrev sShuf : Stmt := top 18
abbrev sIds : Stmt := top 19
abbrev sNear : Stmt := top 20
abbrev sSide : Stmt := top 21
abbrev sWeights : Stmt := top 22
abbrev sWeight : Stmt := top 23
abbrev sSubsets : Stmt := top 24
abbrev sLawBest : Stmt := top 25
abbrev sMoved : Stmt := top 26
abbrev sBehind : Stmt := top 27
abbrev sLawConf : Stmt := top 28
abbrev sLaw : Stmt := top 29
/-! ### numbers of any size -/
def CPowG (i j : Int) : Prop := 0 ≤ j ∧ (Builtin.Int.intBits i : Int) * j ≤ 2 ^ 27
section
variable {X : Cx}
theorem op_mulG : OpR X (binaryOp .Mult) (rI IntMulOk fun i j => .int (i * j)) := opI fun _ _ _ _ _ _ _ hc q => mul_int q hc
theorem op_powG : OpR X (binaryOp .Pow) (rI CPowG fun i j => .int (i ^ j.toNat)) := opI fun _ _ _ _ _ _ _ hc q => pow_int hc.1 hc.2 q
end
theorem mulOk_bits {i j : Int} {a b : Nat} (ha : Builtin.Int.intBits i ≤ a) (hb : Builtin.Int.intBits j ≤ b) (h : a + b ≤ 100000000) : IntMulOk i j := by
  have e : bitsLine = 134217728 := by decide
  unfold IntMulOk
  intro z
  rw [Bool.and_eq_true] at z
  have z2 := z.2
  unfold Builtin.Int.intTooBig at z2
  have z3 := of_decide_eq_true z2
  rw [e] at z3
  omega
theorem bits_le {i : Int} {n : Nat} (h : i.natAbs < 2 ^ n) : Builtin.Int.intBits i ≤ n := intBits_le h
/-- the turn of the deck's loop -/
theorem turn_bits {m e : Int} {k : Nat} (h0 : 0 ≤ m) (h1 : m < 2147483600) (he : Builtin.Int.intBits e ≤ k) (hk : 30 ≤ k) :
    Builtin.Int.intBits (m * 20011 + e * e + 13) ≤ 2 * k + 1 := by
  refine bits_le ?_
  have a1 : e.natAbs < 2 ^ k := Nat.lt_of_lt_of_le (natAbs_lt_pow_bits e) (Nat.pow_le_pow_right (by omega) he)
  have a2 : (e * e).natAbs < 2 ^ (2 * k) := by
    rw [Int.natAbs_mul, Nat.two_mul, Nat.pow_add]
    exact Nat.mul_lt_mul'' a1 a1
  have a3 : (m * 20011 + 13).natAbs < 2 ^ 60 := by
    have : (2 : Nat) ^ 60 = 1152921504606846976 := by decide
    omega
  have a4 : (2 : Nat) ^ 60 ≤ 2 ^ (2 * k) := Nat.pow_le_pow_right (by omega) (by omega)
  have a5 : (2 : Nat) ^ (2 * k + 1) = 2 ^ (2 * k) + 2 ^ (2 * k) := by rw [Nat.pow_succ, Nat.mul_two]
  rw [a5]
  generalize (2 : Nat) ^ (2 * k) = B at *
  generalize e * e = q at *
  omega
/-! ### the stream: a deck that is a list -/
def dkS (x y : Int) : List V := [.int x, .int y]
def DeckAt (H : Hp) (d : Addr) : Prop := ∃ x y : Int, H d = some (.lst (dkS x y)) ∧ 0 ≤ x ∧ 0 ≤ y ∧ y < 2147483648
/-- all that was tracked is as it was, but what stands at d -/
def But (d : Addr) (H H' : Hp) : Prop := ∀ b o, b ≠ d → H b = some o → H' b = some o
theorem But.refl (d : Addr) (H : Hp) : But d H H := fun _ _ _ h => h
theorem But.trans {d : Addr} {H H1 H2 : Hp} (a : But d H H1) (b : But d H1 H2) : But d H H2 := fun c o n h => b c o n (a c o n h)
theorem But.of {d : Addr} {H H' : Hp} (a : Same H H') : But d H H' := fun c o _ h => a c o h
theorem But.upd {d : Addr} {H : Hp} {o : HO} : But d H (upd H d o) := fun b u n h => by rw [upd_ne n]; exact h
theorem But.new {d p : Addr} {H : Hp} {o : HO} (h : H p = none) : But d H (L2.upd H p o) := fun b u n e => by rw [upd_ne (ne_of_none e h)]; exact e
theorem Same.new {p : Addr} {H : Hp} {o : HO} (h : H p = none) : Same H (L2.upd H p o) := fun b u e => by rw [upd_ne (ne_of_none e h)]; exact e
theorem DeckAt.same {H H' : Hp} {d : Addr} (D : DeckAt H d) (s : Same H H') : DeckAt H' d := let ⟨x, y, h, r⟩ := D; ⟨x, y, s _ _ h, r⟩
theorem DeckAt.ne {H : Hp} {d p : Addr} (D : DeckAt H d) (h : H p = none) : p ≠ d := by
  obtain ⟨x, y, hd, _⟩ := D
  exact (ne_of_none hd h).symm
/-- the turn of the stream's loop -/
theorem turn_bitsS {m e : Int} {k : Nat} (h0 : 0 ≤ m) (h1 : m < 2147483648) (he : Builtin.Int.intBits e ≤ k) (hk : 60 ≤ k) : Builtin.Int.intBits (m * 40127 + e) ≤ k + 1 := by
  refine bits_le ?_
  have a1 : e.natAbs < 2 ^ k := Nat.lt_of_lt_of_le (natAbs_lt_pow_bits e) (Nat.pow_le_pow_right (by omega) he)
  have a3 : (m * 40127).natAbs < 2 ^ 60 := by
    have : (2 : Nat) ^ 60 = 1152921504606846976 := by decide
    omega
  have a4 : (2 : Nat) ^ 60 ≤ 2 ^ k := Nat.pow_le_pow_right (by omega) hk
  rw [Nat.pow_succ]
  generalize (2 : Nat) ^ k = B at *
  omega
structure TxtD (mg : Str → Option Value) : Prop where
  len : mg "len" = none
section
variable {P : Program} {w : World} {K : PySem.W.Frag} {mg : Str → Option Value} {base : Heap}
def spDeck (K : PySem.W.Frag) : Sp := fun vs H Q _ => ∃ (a : Addr) (ns : List Int) (st : Int), vs = [.ref a, .int st] ∧ SqL K H a (ns.map V.int) ∧ ns.length ≤ 63 ∧ (∀ z ∈ ns, Builtin.Int.intBits z ≤ 1048576) ∧ 0 ≤ st ∧ st ≤ 63 ∧
  ∀ (d : Addr) (H' : Hp), H d = none → Same H H' → DeckAt H' d → Q (.ref d) H'
theorem scDeck : FnScope ["script", "start", "seed", "entry", "digits"] ["script", "start"] (defScope sDeck) := ⟨rfl, rfl, rfl, by decide +kernel, rfl, by decide +kernel, by decide +kernel⟩
theorem ok_deck {f : Addr} {fd : FuncData} (F : Fun K "_law_stream" "_law_stream" sDeck f fd) (T : TxtD mg) : FnOk P w K mg base CX0 1 f fd ["script", "start"] (spDeck K) := by
  refine F.ok scDeck (fun vs H Q E h => ?_) (fun cdv A outer s H vs Q E hr h => ?_)
  · obtain ⟨a, ns, st, rfl, _⟩ := h
    rfl
  · obtain ⟨a, ns, st, rfl, hS, hlen, hb, h0, h1, k⟩ := h
    have hu := hu_of hr
    refine ⟨_, pss_cons (ps_set (i := 2) scDeck.nd rfl (Or.inl rfl) (pe_op op_add pe_int (pv 1)))
      (pss_cons (ps_for PassesOwn.never rfl (pi_list (pv 0)) (pg_name (i := 3) scDeck.nd rfl (Or.inl rfl))
        (pss_one (ps_set (i := 2) scDeck.nd rfl (Or.inl rfl) (pe_op op_add (pe_op op_mod (pe_op op_powG (pe_op op_add (pe_op op_mul (pv 2) pe_int) (pv 3)) pe_int) pe_int) pe_int))))
      (pss_cons (ps_set (i := 4) scDeck.nd rfl (Or.inl rfl) pe_int)
      (pss_cons (ps_if (PW.pt (pw_and (pt_cmpR op_lt (pv 1) (pe_callB call_len_seq (by rfl) T.len PySem.boot_len (pa_cons (pv 0) pa_nil)) (nomark _))
          (pw_and1 (pt_cmpR op_ge (pe_ix ix_list (pv 0) (pv 1) (fun _ _ => rfl)) (pe_op op_pow pe_int pe_int) (nomark _)))))
          (pss_one (ps_set (i := 4) scDeck.nd rfl (Or.inl rfl) (pe_op op_sub (pe_ix ix_list (pv 0) (pv 1) (fun _ _ => rfl)) (pe_op op_pow pe_int pe_int)))) pss_nil)
      (pss_one (ps_ret (pe_lst (pa_cons (pv 4) (pa_cons (pv 2) pa_nil)))))))), ?_⟩
    refine ⟨_, rfl, _, _, rfl, rfl, ?_⟩
    refine ⟨_, rfl, a, rfl, ⟨_, hS⟩, for_list (K := K) (a := a) (xs := ns.map V.int) (fun i σ H' => ∃ (m : Int) (v : Option V), σ = [some (.ref a), some (.int st), some (.int m), v, none] ∧ H' = H ∧ 0 ≤ m ∧ m < 2147483648)
      ⟨_, none, rfl, rfl, by omega, by omega⟩ (fun i σ H' _ ⟨_, _, _, e, _⟩ => by rw [e]; exact hS) ?_ ?_⟩
    · rintro i y σ H' hi ⟨m, v, rfl, rfl, m0, m1⟩
      obtain ⟨e, he, rfl⟩ : ∃ e, e ∈ ns ∧ y = V.int e := by
        rw [List.getElem?_map] at hi
        cases q : ns[i]? with
        | none => rw [q] at hi; cases hi
        | some u => rw [q] at hi; exact ⟨u, List.mem_of_getElem? q, (Option.some.inj hi).symm⟩
      have hbits := hb e he
      have hT := turn_bitsS (k := 1048576) m0 m1 hbits (by decide)
      refine ⟨_, rfl, _, _, rfl, rfl, .inr ⟨by decide, by decide⟩, _, rfl, _, _, rfl, rfl, _, _, rfl, rfl, ⟨by decide, ?_⟩, _, _, rfl, rfl, (by show (0 : Int) < 2147483629; decide), _, _, rfl, rfl, ?_⟩
      · have z : (2 : Int) ^ 27 = 134217728 := by decide
        rw [z]
        generalize Builtin.Int.intBits (m * 40127 + e) = B at hT ⊢
        omega
      · refine ⟨_, _, rfl, rfl, ?_, ?_⟩
        · have := Int.emod_nonneg ((m * 40127 + e) ^ (3 : Int).toNat) (b := 2147483629) (by decide)
          generalize (m * 40127 + e) ^ (3 : Int).toNat % 2147483629 = z at *
          omega
        · have := Int.emod_lt_of_pos ((m * 40127 + e) ^ (3 : Int).toNat) (b := 2147483629) (by decide)
          generalize (m * 40127 + e) ^ (3 : Int).toNat % 2147483629 = z at *
          omega
    · rintro σ H' ⟨m, v, rfl, rfl, m0, m1⟩
      have fin : ∀ (x : Int) (σ' : L2.St), 0 ≤ x → σ' = [some (.ref a), some (.int st), some (.int m), v, some (.int x)] →
          (tRet (tLst (tCons (tVar 4) (tCons (tVar 2) tNil)))) { nx := fun _ H' => Q .non H', rt := Q } σ' H' := by
        rintro x σ' hx rfl
        refine ⟨_, rfl, _, rfl, by show 2 ≤ sizeLine; decide, fun p hp => ?_⟩
        exact k p _ hp (Same.new hp) ⟨x, m, upd_same, hx, m0, m1⟩
      refine ⟨_, rfl, _, rfl, a, _, rfl, .inl hS, _, _, rfl, rfl, _, rfl, ?_⟩
      refine ite2 (fun hlt => ?_) (fun hlt => ?_)
      · have hlt' : st < (ns.map V.int).length := of_decide_eq_true hlt
        rw [List.length_map] at hlt'
        obtain ⟨n, rfl⟩ : ∃ n : Nat, st = (n : Int) := ⟨st.toNat, by omega⟩
        have hn : n < ns.length := by omega
        have hat : (ns.map V.int)[n]? = some (V.int ns[n]) := by rw [List.getElem?_map, List.getElem?_eq_getElem hn]; rfl
        refine ⟨_, rfl, _, rfl, a, _, _, _, rfl, rfl, hS, atI_nat hat, _, _, rfl, rfl, ⟨by decide, by decide, by decide⟩, _, _, rfl, rfl, _, rfl, ?_⟩
        refine ite2 (fun hge => ?_) (fun hge => ?_)
        · have hge' := of_decide_eq_true hge
          refine ⟨_, rfl, _, rfl, a, _, _, _, rfl, rfl, hS, atI_nat hat, _, _, rfl, rfl, ⟨by decide, by decide, by decide⟩, _, _, rfl, rfl, ?_⟩
          exact fin _ _ (by omega) rfl
        · exact fin 0 _ (Int.le_refl _) rfl
      · refine iteF ?_
        exact fin 0 _ (Int.le_refl _) rfl
end
theorem But.seq {d a : Addr} {H H' : Hp} {K : PySem.W.Frag} {xs : List V} (n : a ≠ d) (s : But d H H') (h : SqL K H a xs) : SqL K H' a xs := by
  rcases h with (h | ⟨o, h⟩) | h
  · exact .inl (.inl (s _ _ n h))
  · exact .inl (.inr ⟨o, s _ _ n h⟩)
  · exact .inr h
theorem But.lst {d a : Addr} {H H' : Hp} {xs : List V} (n : a ≠ d) (s : But d H H') (h : H a = some (.lst xs)) : H' a = some (.lst xs) := s _ _ n h
theorem But.tup {d a : Addr} {H H' : Hp} {xs : List V} (D : DeckAt H d) (s : But d H H') (h : H a = some (.tup xs)) : H' a = some (.tup xs) := by
  obtain ⟨x, y, hd, _⟩ := D
  exact s _ _ (ne_of h hd (by intro z; cases z)) h
/-- new behind is new ahead -/
theorem But.free {d p : Addr} {H H' : Hp} (D : DeckAt H' d) (s : But d H H') (h : H' p = none) : H p = none := by
  obtain ⟨x, y, hd, _⟩ := D
  cases q : H p with
  | none => rfl
  | some o =>
    have := s _ _ (fun e => by rw [e, hd] at h; cases h) q
    rw [h] at this
    cases this
theorem pow6 : (10 : Int) ^ (6 : Int).toNat = 1000000 := by decide
section
variable {P : Program} {w : World} {K : PySem.W.Frag} {mg : Str → Option Value} {base : Heap}
/-! ### a draw -/
def spDraw : Sp := fun vs H Q _ => ∃ (d : Addr) (n : Int), vs = [.ref d, .int n] ∧ DeckAt H d ∧ 0 < n ∧ n < 1073741824 ∧ ∀ (r : Int) (H' : Hp), 0 ≤ r → r < n → DeckAt H' d → But d H H' → Q (.int r) H'
theorem scDraw : FnScope ["stream", "size", "found"] ["stream", "size"] (defScope sDraw) := ⟨rfl, rfl, rfl, by decide +kernel, rfl, by decide +kernel, by decide +kernel⟩
theorem ok_draw {f : Addr} {fd : FuncData} (F : Fun K "_law_draw" "_law_draw" sDraw f fd) : FnOk P w K mg base CX0 1 f fd ["stream", "size"] spDraw := by
  refine F.ok scDraw (fun vs H Q E h => ?_) (fun cdv A outer s H vs Q E hr h => ?_)
  · obtain ⟨d, n, rfl, _⟩ := h
    rfl
  · obtain ⟨d, n, rfl, ⟨x, y, hd, x0, y0, y1⟩, n0, n1, k⟩ := h
    have hu := hu_of hr
    refine ⟨_, pss_cons (ps_if (pt_cmpR op_ge (pe_ix ix_list (pv 0) pe_int (fun _ _ => rfl)) (pv 1) (nomark _))
        (pss_cons (ps_set (i := 2) scDraw.nd rfl (Or.inl rfl) (pe_op op_mod (pe_ix ix_list (pv 0) pe_int (fun _ _ => rfl)) (pv 1)))
        (pss_cons (ps_asg (pe_op op_fdiv (pe_ix ix_list (pv 0) pe_int (fun _ _ => rfl)) (pv 1)) (pg_sub (pv 0) pe_int set_list))
        (pss_one (ps_ret (pv 2))))) pss_nil)
      (pss_cons (ps_asg (pe_op op_mod (pe_op op_add (pe_op op_mul (pe_ix ix_list (pv 0) pe_int (fun _ _ => rfl)) pe_int) pe_int) pe_int) (pg_sub (pv 0) pe_int set_list))
      (pss_one (ps_ret (pe_op op_mod (pe_op op_fdiv (pe_op op_mod (pe_op op_powG (pe_op op_mod (pe_op op_powG (pe_ix ix_list (pv 0) pe_int (fun _ _ => rfl)) pe_int) pe_int) pe_int) pe_int) pe_int) (pv 1))))), ?_⟩
    have z27 : (2 : Int) ^ 27 = 134217728 := by decide
    have bits : ∀ q : Int, 0 ≤ q → q < 2147483648 → (Builtin.Int.intBits q : Int) ≤ 31 := fun q q0 q1 => by
      have := bits_le (i := q) (n := 31) (by have : (2 : Nat) ^ 31 = 2147483648 := by decide
                                             omega)
      omega
    refine ⟨_, rfl, d, _, 0, _, rfl, rfl, SqL.of hd, rfl, _, rfl, _, _, rfl, rfl, _, rfl, ?_⟩
    refine ite2 (fun c => ?_) (fun c => ?_)
    · refine ⟨_, rfl, d, _, 0, _, rfl, rfl, SqL.of hd, rfl, _, rfl, _, _, rfl, rfl, n0, ?_⟩
      refine ⟨_, rfl, d, _, 0, _, rfl, rfl, SqL.of hd, rfl, _, rfl, _, _, rfl, rfl, ⟨n0, n1⟩, _, rfl, d, _, 0, 0, rfl, rfl, hd, rfl, ?_⟩
      exact ⟨_, rfl, k _ _ (Int.emod_nonneg _ (by omega)) (Int.emod_lt_of_pos _ n0) ⟨_, y, upd_same, Int.ediv_nonneg x0 (by omega), y0, y1⟩ But.upd⟩
    · have m0 := Int.emod_nonneg (y * 48271 + 12345) (b := 2147483647) (by decide)
      have m1 := Int.emod_lt_of_pos (y * 48271 + 12345) (b := 2147483647) (by decide)
      refine ⟨_, rfl, d, _, 1, _, rfl, rfl, SqL.of hd, rfl, _, _, rfl, rfl, .inr ⟨by omega, by omega⟩, _, _, rfl, rfl, _, _, rfl, rfl, (by show (0 : Int) < 2147483647; decide), _, rfl, d, _, 1, 1, rfl, rfl, hd, rfl, ?_⟩
      have hy2 : upd H d (.lst ((dkS x y).set 1 (.int ((y * 48271 + 12345) % 2147483647)))) d = some (.lst (dkS x ((y * 48271 + 12345) % 2147483647))) := upd_same
      refine ⟨_, rfl, d, _, 1, _, rfl, rfl, SqL.of hy2, rfl, _, _, rfl, rfl, ⟨by decide, ?_⟩, _, _, rfl, rfl, (by show (0 : Int) < 2147483629; decide), ?_⟩
      · rw [z27]
        have := bits _ m0 (by omega)
        generalize (Builtin.Int.intBits ((y * 48271 + 12345) % 2147483647) : Int) = B at *
        omega
      have q0 := Int.emod_nonneg (((y * 48271 + 12345) % 2147483647) ^ (3 : Int).toNat) (b := 2147483629) (by decide)
      have q1 := Int.emod_lt_of_pos (((y * 48271 + 12345) % 2147483647) ^ (3 : Int).toNat) (b := 2147483629) (by decide)
      refine ⟨_, _, rfl, rfl, ⟨by decide, ?_⟩, _, _, rfl, rfl, (by show (0 : Int) < 1000000007; decide), _, _, rfl, rfl, ⟨by decide, by decide⟩, _, rfl, _, _, rfl, rfl, n0, ?_⟩
      · rw [z27]
        have := bits _ q0 (by omega)
        generalize (Builtin.Int.intBits (((y * 48271 + 12345) % 2147483647) ^ (3 : Int).toNat % 2147483629) : Int) = B at *
        omega
      exact k _ _ (Int.emod_nonneg _ (by omega)) (Int.emod_lt_of_pos _ n0) ⟨x, _, upd_same, x0, m0, by omega⟩ But.upd
/-! ### one of some things -/
def spChoose (K : PySem.W.Frag) : Sp := fun vs H Q _ => ∃ (d t : Addr) (xs : List V), vs = [.ref d, .ref t] ∧ DeckAt H d ∧ t ≠ d ∧ SqL K H t xs ∧ xs ≠ [] ∧ xs.length < 1000000 ∧ ∀ (v : V) (H' : Hp), v ∈ xs → DeckAt H' d → But d H H' → Q v H'
theorem scChoose : FnScope ["stream", "items"] ["stream", "items"] (defScope sChoose) := ⟨rfl, rfl, rfl, by decide +kernel, rfl, by decide +kernel, by decide +kernel⟩
theorem ok_choose {f fD : Addr} {fd fdD : FuncData} (F : Fun K "_law_choose" "_law_choose" sChoose f fd) (T : TxtD mg) (FD : Fun K "_law_draw" "_law_draw" sDraw fD fdD) (bD : Binds K fdD ["stream", "size"] []) (mD : mg "_law_draw" = some (.ref fD)) :
    FnOk P w K mg base CX0 2 f fd ["stream", "items"] (spChoose K) := by
  have GD : FnOk P w K mg base CX0 1 fD fdD ["stream", "size"] spDraw := ok_draw FD
  refine F.ok scChoose (fun vs H Q E h => ?_) (fun cdv A outer s H vs Q E hr h => ?_)
  · obtain ⟨d, t, xs, rfl, _⟩ := h
    rfl
  · obtain ⟨d, t, xs, rfl, D, hne, hS, h0, h1, k⟩ := h
    refine ⟨_, pss_one (ps_ret (pe_ix ix_list (pv 1) (pe_call GD hr rfl mD FD.kp bD .nil pass0 (pa_cons (pv 0) (pa_cons (pe_callB call_len_seq (by rfl) T.len PySem.boot_len (pa_cons (pv 1) pa_nil)) pa_nil))) (fun _ _ => rfl))), ?_⟩
    have hl : 0 < xs.length := List.length_pos_iff.mpr h0
    refine ⟨_, rfl, _, rfl, _, rfl, t, _, rfl, .inl hS, d, _, rfl, D, by omega, by omega, fun r H' r0 r1 D' B => ?_⟩
    obtain ⟨n, rfl⟩ : ∃ n : Nat, r = (n : Int) := ⟨r.toNat, by omega⟩
    have hn : n < xs.length := by omega
    have hat : xs[n]? = some xs[n] := List.getElem?_eq_getElem hn
    exact ⟨t, _, _, _, rfl, rfl, B.seq hne hS, atI_nat hat, k _ _ (List.getElem_mem hn) D' B⟩
end
/-! ### the walk through the ids meets a free one -/
theorem len_le_of_sub : ∀ (xs ys : List Int), xs.Nodup → (∀ x ∈ xs, x ∈ ys) → xs.length ≤ ys.length
  | [], _, _, _ => Nat.zero_le _
  | x :: r, ys, hn, hs => by
    have hx : x ∈ ys := hs x List.mem_cons_self
    have hn' := List.nodup_cons.mp hn
    have ih := len_le_of_sub r (ys.erase x) hn'.2 fun z hz => (List.mem_erase_of_ne (fun e => hn'.1 (by rw [← e]; exact hz))).mpr (hs z (List.mem_cons_of_mem _ hz))
    have hl := List.length_erase_of_mem hx
    have : 0 < ys.length := List.length_pos_of_mem hx
    show r.length + 1 ≤ ys.length
    omega
def nx (z : Int) (i : Nat) : Int := (z - 1 + (i : Int)) % 1000000 + 1
theorem nx_zero {z : Int} (h0 : 1 ≤ z) (h1 : z ≤ 1000000) : nx z 0 = z := by unfold nx; omega
theorem nx_succ {z : Int} {i : Nat} : nx z i % 1000000 + 1 = nx z (i + 1) := by unfold nx; omega
theorem nx_lo (z : Int) (i : Nat) : 1 ≤ nx z i := by unfold nx; omega
theorem nx_hi (z : Int) (i : Nat) : nx z i ≤ 1000000 := by unfold nx; omega
theorem nx_inj {z : Int} {i j : Nat} (hi : i < 1000) (hj : j < 1000) (h : nx z i = nx z j) : i = j := by unfold nx at h; omega
theorem nx_few {z : Int} {js : List Int} {t : Nat} (ht : t ≤ 500) (h : ∀ i, i < t → nx z i ∈ js) : t ≤ js.length := by
  have a : ((List.range t).map (nx z)).Nodup := by
    refine List.pairwise_map.mpr ?_
    refine List.Pairwise.imp_of_mem ?_ (List.pairwise_lt_range (n := t))
    intro i j hi hj l e
    have q := nx_inj (by have := List.mem_range.mp hi; omega) (by have := List.mem_range.mp hj; omega) e
    omega
  have b := len_le_of_sub _ js a (fun x hx => by
    obtain ⟨i, hi, rfl⟩ := List.mem_map.mp hx
    exact h i (List.mem_range.mp hi))
  rw [List.length_map, List.length_range] at b
  exact b
theorem eqV_int (i j : Int) : eqV (.int i) (.int j) = decide (i = j) := by
  first
    | rfl
    | simp [eqV]
theorem inV_int (z : Int) (js : List Int) : inV (.int z) (js.map V.int) = decide (z ∈ js) := by
  unfold inV
  rw [List.any_map]
  induction js with
  | nil => rfl
  | cons a r ih =>
    rw [List.any_cons, ih]
    show (eqV (.int a) (.int z) || decide (z ∈ r)) = decide (z ∈ a :: r)
    rw [eqV_int]
    by_cases e : a = z
    · subst e
      simp
    · have e' : ¬ z = a := fun q => e q.symm
      simp [e, e']
theorem all_flat (js : List Int) : (js.map V.int).all flatV = true := by
  induction js with
  | nil => rfl
  | cons a r ih => exact ih
/-! ### sets of ints -/
/-- S is the set of the ints ns, n their number -/
def SetIs (ns : List Int) (S : Int → Bool) (n : Nat) : Prop := (∀ k, S k = decide (k ∈ ns)) ∧ ∃ L : List Int, L.Nodup ∧ L.length = n ∧ ∀ k, k ∈ L ↔ k ∈ ns
theorem shorter : ∀ ns : List Int, ¬ ns.Nodup → ∃ ms : List Int, ms.length < ns.length ∧ ∀ k ∈ ns, k ∈ ms
  | [], h => absurd List.nodup_nil h
  | a :: r, h => by
    by_cases ha : a ∈ r
    · exact ⟨r, Nat.lt_succ_self _, fun k hk => by
        rcases List.mem_cons.mp hk with e | e
        · rw [e]; exact ha
        · exact e⟩
    · have hr : ¬ r.Nodup := fun q => h (List.nodup_cons.mpr ⟨ha, q⟩)
      obtain ⟨ms, h1, h2⟩ := shorter r hr
      exact ⟨a :: ms, Nat.succ_lt_succ h1, fun k hk => by
        rcases List.mem_cons.mp hk with e | e
        · rw [e]; exact List.mem_cons_self
        · exact List.mem_cons_of_mem _ (h2 k e)⟩
theorem SetIs.count {ns : List Int} {S : Int → Bool} {n : Nat} (h : SetIs ns S n) : ((n : Int) = (ns.length : Int)) ↔ ns.Nodup := by
  obtain ⟨_, L, h1, h2, h3⟩ := h
  have a := len_le_of_sub L ns h1 fun k hk => (h3 k).mp hk
  constructor
  · intro e
    by_cases hN : ns.Nodup
    · exact hN
    · obtain ⟨ms, m1, m2⟩ := shorter ns hN
      have b := len_le_of_sub L ms h1 fun k hk => m2 k ((h3 k).mp hk)
      omega
  · intro hN
    have b := len_le_of_sub ns L hN fun k hk => (h3 k).mpr hk
    omega
theorem firstMet_nodup (val : Nat → Int) : ∀ i, (firstMet val i).Nodup
  | 0 => by rw [firstMet_zero]; exact List.nodup_nil
  | i + 1 => by
    rw [firstMet_succ]
    unfold step_dedup
    have ih := firstMet_nodup val i
    split
    · exact ih
    · rename_i h
      refine List.nodup_append.mpr ⟨ih, by simp, ?_⟩
      intro a ha b hb e
      have : b = val i := by simpa using hb
      refine h (List.any_eq_true.mpr ⟨a, ha, ?_⟩)
      rw [e, this]
      simp
theorem getD_range (ns : List Int) : (List.range ns.length).map (fun i => ns.getD i 0) = ns := by
  apply List.ext_getElem
  · simp
  · intro i h1 h2
    simp [List.getD, h2]
theorem firstMet_mem (ns : List Int) (k : Int) : k ∈ firstMet (fun i => ns.getD i 0) ns.length ↔ k ∈ ns := by
  have h := firstMet_any (fun i => ns.getD i 0) ns.length k
  rw [getD_range] at h
  have e : ∀ l : List Int, (l.any (· == k) = true) ↔ k ∈ l := fun l => by
    rw [List.any_eq_true]
    constructor
    · rintro ⟨x, hx, q⟩
      have : x = k := by simpa using q
      rw [← this]; exact hx
    · intro hk
      exact ⟨k, hk, by simp⟩
  rw [← e, ← e, h]
def rSetI (K : PySem.W.Frag) : List V → Hp → VK → Prop := fun xs H Q => ∃ (p : Addr) (ns : List Int), xs = [.ref p] ∧ (SqL K H p (ns.map V.int) ∨ SqT K H p (ns.map V.int)) ∧ ns.length ≤ 4000 ∧
  ∀ (q : Addr) (S : Int → Bool) (n : Nat), H q = none → SetIs ns S n → n ≤ ns.length → Q (.ref q) (upd H q (.set S n))
section
variable {X : Cx}
theorem cr_setI (hc : X.calm = true) : CallR X (.type "set") (rSetI X.K) := by
  intro pins s σ H xs us Q I r h
  obtain ⟨p, ns, rfl, hq, hlen, k⟩ := h
  rw [Vals.ref1 r]
  have hs : scanBound = 4096 := rfl
  rcases hq with hq | hq
  · obtain ⟨its, rv, pl, hz⟩ := I.list hq
    have hl := rv.length
    rw [List.length_map] at hl
    refine call_set_list (I.ok.hd hc) pl.isList (ns := ns) (Vals.ints rv) (by rw [List.size_toArray, hs]; omega) fun h' tk R kk => ?_
    have esz : its.toArray.size = ns.length := by rw [List.size_toArray]; omega
    rw [esz] at R
    have hn := firstMet_mem ns
    have hset : SetIs ns (fun k' => (firstMet (fun i => ns.getD i 0) ns.length).any (· == k')) (firstMet (fun i => ns.getD i 0) ns.length).length := by
      refine ⟨fun k => ?_, _, firstMet_nodup _ _, rfl, hn⟩
      rw [Bool.eq_iff_iff, decide_eq_true_iff, ← hn k, List.any_eq_true]
      constructor
      · rintro ⟨x, hx, q⟩
        have : x = k := by simpa using q
        rw [← this]; exact hx
      · intro hk
        exact ⟨k, hk, by simp⟩
    have I' := I.laid (a := s.heap.objs.size) (o := .set _ _) (h' := h') (t' := tk) (fun b u e => kk b u (Heap.lt_size e) e) (Nat.le_refl _) R
    exact ⟨.ref _, _, I', rfl, k _ _ _ (I.hok.fresh (Nat.le_refl _)) hset (firstMet_length_le _ _)⟩
  · obtain ⟨its, rv, pl, hz⟩ := I.tuple hq
    have hl := rv.length
    rw [List.length_map] at hl
    refine call_set_tupI ns (I.ok.hd hc) pl (Vals.ints rv) (by rw [hs]; omega) fun h' tk c R hle kk => ?_
    have hset : SetIs ns (fun j => decide (j ∈ ns)) c := by
      obtain ⟨o, es, ep, t, h1, h2, h3, h4, h5, h6, h7, h8, h9, _⟩ := id R
      refine ⟨fun k => rfl, es.toList.map keyOf, h5, ?_, fun k => ?_⟩
      · rw [List.length_map, ← h9]; rfl
      · rw [← h6 k, decide_eq_true_iff]
    have I' := I.laid (a := s.heap.objs.size) (o := .set _ _) (h' := h') (t' := tk) (fun b u e => kk b u e) (Nat.le_refl _) (SetR.setOf R)
    exact ⟨.ref _, _, I', rfl, k _ _ _ (I.hok.fresh (Nat.le_refl _)) hset hle⟩
def rInSet (neg : Bool) : R2 := fun x y H Q => ∃ (k : Int) (a : Addr) (S : Int → Bool) (n : Nat), x = .int k ∧ y = .ref a ∧ H a = some (.set S n) ∧ Q (.bl (if neg then !S k else S k)) H
theorem op_inSet : OpR X (compareOp .In) (rInSet false) := by
  intro pins s σ H x y v u Q I rx ry h
  obtain ⟨k, a, S, n, rfl, rfl, ha, q⟩ := h
  cases ry
  obtain ⟨t, rfl⟩ := rx
  exact wpAny_inSet_of (knd := PySem.intKind X.prog X.w) (k := k) (by first | rfl | simp [PySem.intKind, Value.isInt]) rfl (I.hok a _ ha) ⟨.bl (S k), H, I.tok _, rfl, q⟩
theorem op_notInSet : OpR X (compareOp .NotIn) (rInSet true) := by
  intro pins s σ H x y v u Q I rx ry h
  obtain ⟨k, a, S, n, rfl, rfl, ha, q⟩ := h
  cases ry
  obtain ⟨t, rfl⟩ := rx
  exact wpAny_notInSet_of (knd := PySem.intKind X.prog X.w) (k := k) (by first | rfl | simp [PySem.intKind, Value.isInt]) rfl (I.hok a _ ha) ⟨.bl (!S k), H, I.tok _, rfl, q⟩
theorem call_lenSet : CallR X (.builtin "len") (fun xs H Q => ∃ a S n, xs = [.ref a] ∧ H a = some (.set S n) ∧ Q (.int n) H) := by
  intro pins s σ H xs us Q I r h
  obtain ⟨a, S, n, rfl, ha, q⟩ := h
  rw [Vals.ref1 r]
  obtain ⟨o, es, ep, t, h1, h2, h3, h4, h5, h6, h7, h8⟩ := I.hok a _ ha
  have hs : scanBound = 4096 := rfl
  refine call_len_set h1 h2 h3 h7 (by omega) ?_
  rw [h8]
  exact ⟨.int n, H, (I.tok (s.toks + 1 + 1)), ⟨_, rfl⟩, q⟩
end
/-! ### data in the heap: flat things, lists, tuples, the empty dict -/
mutual
inductive DV (K : PySem.W.Frag) (H : Hp) : V → PyData → Prop
  | non : DV K H .non .none
  | bl (b : Bool) : DV K H (.bl b) (.bool b)
  | int (i : Int) : DV K H (.int i) (.int i)
  | str (x : Str) : DV K H (.str x) (.str x)
  | lst {a : Addr} {xs : List V} {ds : List PyData} : SqL K H a xs → DVs K H xs ds → DV K H (.ref a) (.list ds)
  | tup {a : Addr} {xs : List V} {ds : List PyData} : SqT K H a xs → DVs K H xs ds → DV K H (.ref a) (.tuple ds)
  | dk0 {a : Addr} : H a = some (.dK []) → DV K H (.ref a) (.dict [])
inductive DVs (K : PySem.W.Frag) (H : Hp) : List V → List PyData → Prop
  | nil : DVs K H [] []
  | cons {v : V} {vs : List V} {d : PyData} {ds : List PyData} : DV K H v d → DVs K H vs ds → DVs K H (v :: vs) (d :: ds)
end
section
variable {K : PySem.W.Frag} {H H' : Hp}
theorem DVs.length {vs : List V} {ds : List PyData} (h : DVs K H vs ds) : vs.length = ds.length := by
  induction vs generalizing ds with
  | nil => cases h; rfl
  | cons v r ih => cases h with | cons _ t => exact congrArg Nat.succ (ih t)
theorem DVs.at {vs : List V} {ds : List PyData} (h : DVs K H vs ds) : ∀ {i : Nat} {v : V}, vs[i]? = some v → ∃ d, ds[i]? = some d ∧ DV K H v d := by
  induction vs generalizing ds with
  | nil => intro i v e; simp at e
  | cons v r ih =>
    cases h with
    | cons p t =>
      intro i u e
      cases i with
      | zero => simp at e; subst e; exact ⟨_, rfl, p⟩
      | succ i => simp at e; obtain ⟨d, h1, h2⟩ := ih t e; exact ⟨d, by simpa using h1, h2⟩
theorem Same.sq {a : Addr} {xs : List V} (e : Same H H') (h : SqL K H a xs) : SqL K H' a xs := e.seq h
theorem Same.tq {a : Addr} {xs : List V} (e : Same H H') (h : SqT K H a xs) : SqT K H' a xs := by
  rcases h with (h | ⟨o, h⟩) | h
  · exact .inl (.inl (e _ _ h))
  · exact .inl (.inr ⟨o, e _ _ h⟩)
  · exact .inr h
mutual
theorem DV.same (e : Same H H') : ∀ {d : PyData} {v : V}, DV K H v d → DV K H' v d
  | _, _, .non => .non
  | _, _, .bl b => .bl b
  | _, _, .int i => .int i
  | _, _, .str x => .str x
  | _, _, .lst h t => .lst (Same.sq e h) (DVs.same e t)
  | _, _, .tup h t => .tup (Same.tq e h) (DVs.same e t)
  | _, _, .dk0 h => .dk0 (e _ _ h)
theorem DVs.same (e : Same H H') : ∀ {ds : List PyData} {vs : List V}, DVs K H vs ds → DVs K H' vs ds
  | _, _, .nil => .nil
  | _, _, .cons p t => .cons (DV.same e p) (DVs.same e t)
end
/-- a value's built-in type by its name -/
def TyD (K : PySem.W.Frag) (H : Hp) (x : V) : Prop := ∃ nm : String, TyX K H x (.type nm) ∧ ((nm = "NoneType" ∧ x = .non) ∨ (nm = "bool" ∧ ∃ b, x = .bl b) ∨ (nm = "int" ∧ ∃ i, x = .int i) ∨ (nm = "str" ∧ ∃ z, x = .str z) ∨
  (nm = "list" ∧ ∃ a, x = .ref a) ∨ (nm = "tuple" ∧ ∃ a, x = .ref a) ∨ (nm = "dict" ∧ ∃ a, x = .ref a))
theorem tyL {a : Addr} {xs : List V} (h : SqL K H a xs) : TyX K H (.ref a) (.type "list") := by
  rcases h with (h | ⟨o, h⟩) | ⟨o, _, _, h, c, _⟩
  · exact .base (.lst h)
  · exact .base (.frz h)
  · exact .kList h c
theorem tyT {a : Addr} {xs : List V} (h : SqT K H a xs) : TyX K H (.ref a) (.type "tuple") := by
  rcases h with (h | ⟨o, h⟩) | ⟨o, _, _, h, c, _⟩
  · exact .base (.tup h)
  · exact .fTuple h
  · exact .kTuple h c
theorem DV.ty {v : V} {d : PyData} (h : DV K H v d) : TyD K H v := by
  cases h with
  | non => exact ⟨_, .base .non, .inl ⟨rfl, rfl⟩⟩
  | bl b => exact ⟨_, .base (.bl b), .inr (.inl ⟨rfl, b, rfl⟩)⟩
  | int i => exact ⟨_, .base (.int i), .inr (.inr (.inl ⟨rfl, i, rfl⟩))⟩
  | str x => exact ⟨_, .base (.str x), .inr (.inr (.inr (.inl ⟨rfl, x, rfl⟩)))⟩
  | lst h t => exact ⟨_, tyL h, .inr (.inr (.inr (.inr (.inl ⟨rfl, _, rfl⟩))))⟩
  | tup h t => exact ⟨_, tyT h, .inr (.inr (.inr (.inr (.inr (.inl ⟨rfl, _, rfl⟩)))))⟩
  | dk0 h => exact ⟨_, .base (.dK h), .inr (.inr (.inr (.inr (.inr (.inr ⟨rfl, _, rfl⟩)))))⟩
end
def wholeV : V → Bool
  | .int _ => true
  | _ => false
def wholeD : PyData → Bool
  | .int _ => true
  | _ => false
theorem DV.whole {K : PySem.W.Frag} {H : Hp} {v : V} {d : PyData} (h : DV K H v d) : wholeV v = wholeD d := by cases h <;> rfl
structure TxtV (mg : Str → Option Value) : Prop where
  len : mg "len" = none
  isi : mg "isinstance" = none
  int : mg "int" = none
  bool : mg "bool" = none
  tuple : mg "tuple" = none
  set : mg "set" = none
  all : mg "all" = none
  list : mg "list" = none
def isTup : PyData → Bool
  | .tuple _ => true
  | _ => false
def isLst : PyData → Bool
  | .list _ => true
  | _ => false
theorem kb1 : kitB "NoneType" "tuple" = some false := by decide +kernel
theorem kb2 : kitB "NoneType" "list" = some false := by decide +kernel
theorem kb3 : kitB "bool" "tuple" = some false := by decide +kernel
theorem kb4 : kitB "bool" "list" = some false := by decide +kernel
theorem kb5 : kitB "int" "tuple" = some false := by decide +kernel
theorem kb6 : kitB "int" "list" = some false := by decide +kernel
theorem kb7 : kitB "str" "tuple" = some false := by decide +kernel
theorem kb8 : kitB "str" "list" = some false := by decide +kernel
theorem kb9 : kitB "list" "tuple" = some false := by decide +kernel
theorem kb10 : kitB "list" "list" = some true := by decide +kernel
theorem kb11 : kitB "tuple" "tuple" = some true := by decide +kernel
theorem kb12 : kitB "tuple" "list" = some false := by decide +kernel
theorem kb13 : kitB "dict" "tuple" = some false := by decide +kernel
theorem kb14 : kitB "dict" "list" = some false := by decide +kernel
theorem DV.kit {K : PySem.W.Frag} {H : Hp} {v : V} {d : PyData} (h : DV K H v d) : ∃ nm : String, TyX K H v (.type nm) ∧ PySem.W.kitOne K (.type nm) (.type "tuple") = some (isTup d) ∧ PySem.W.kitOne K (.type nm) (.type "list") = some (isLst d) := by
  cases h with
  | non => exact ⟨_, .base .non, kit_ty kb1, kit_ty kb2⟩
  | bl b => exact ⟨_, .base (.bl b), kit_ty kb3, kit_ty kb4⟩
  | int i => exact ⟨_, .base (.int i), kit_ty kb5, kit_ty kb6⟩
  | str x => exact ⟨_, .base (.str x), kit_ty kb7, kit_ty kb8⟩
  | lst h t => exact ⟨_, tyL h, kit_ty kb9, kit_ty kb10⟩
  | tup h t => exact ⟨_, tyT h, kit_ty kb11, kit_ty kb12⟩
  | dk0 h => exact ⟨_, .base (.dK h), kit_ty kb13, kit_ty kb14⟩
/-! ### the plain functions -/
def intOf : PyData → Int
  | .int i => i
  | _ => 0
theorem whole_all {K : PySem.W.Frag} {H : Hp} : ∀ {ds : List PyData} {vs : List V}, DVs K H vs ds → ds.all wholeD = true → vs = (ds.map intOf).map V.int
  | _, _, .nil, _ => rfl
  | d :: ds, v :: vs, .cons p t, h => by
    rw [List.all_cons, Bool.and_eq_true] at h
    rw [List.map_cons, List.map_cons, ← whole_all t h.2]
    cases p <;> first | rfl | (exact absurd h.1 (by intro q; cases q))
theorem DVs.wholes {K : PySem.W.Frag} {H : Hp} {ds : List PyData} {vs : List V} (h : DVs K H vs ds) {i : Nat} {v : V} (e : vs[i]? = some v) : ∃ d, ds[i]? = some d ∧ wholeV v = wholeD d ∧ TyD K H v := by
  obtain ⟨d, h1, h2⟩ := h.at e
  exact ⟨d, h1, h2.whole, h2.ty⟩
theorem take_snoc {α : Type} {l : List α} {i : Nat} {x : α} (h : l[i]? = some x) : l.take (i + 1) = l.take i ++ [x] := by
  rw [List.take_succ, h]; rfl
theorem lt_of_some {α : Type} {l : List α} {i : Nat} {x : α} (h : l[i]? = some x) : i < l.length := (List.getElem?_eq_some_iff.mp h).1
theorem cut_to (xs : List V) (k : Nat) : cutV xs none (some (k : Int)) = xs.take k := by
  unfold cutV
  rw [HT.sIx_none, HT.sIx_nat, List.drop_zero, Nat.sub_zero]
  rcases Nat.le_total k xs.length with h | h
  · rw [Nat.min_eq_left h]
  · rw [Nat.min_eq_right h, List.take_length, List.take_of_length_le h]
theorem cut_from (xs : List V) (k : Nat) : cutV xs (some (k : Int)) none = xs.drop k := by
  unfold cutV
  rw [HT.sIx_none, HT.sIx_nat]
  rcases Nat.le_total k xs.length with h | h
  · rw [Nat.min_eq_left h, ← List.length_drop, List.take_length]
  · rw [Nat.min_eq_right h, Nat.sub_self, List.take_zero, List.drop_of_length_le h]
theorem eqvAll_ints : ∀ xs ys : List Int, PyData.eqvAll (xs.map .int) (ys.map .int) = decide (xs = ys)
  | [], [] => by simp [PyData.eqvAll]
  | [], _ :: _ => by simp [PyData.eqvAll]
  | _ :: _, [] => by simp [PyData.eqvAll]
  | x :: xs, y :: ys => by
    rw [List.map_cons, List.map_cons, PyData.eqvAll, eqvAll_ints xs ys, PyData.eqv]
    by_cases h : x = y
    · subst h
      simp
    · simp [h]
theorem canLay_ints : ∀ xs : List Int, PyData.canLayAll0 (xs.map .int) = true
  | [] => by rw [List.map_nil, PyData.canLayAll0]
  | x :: xs => by rw [List.map_cons, PyData.canLayAll0, canLay_ints xs, PyData.canLay0]; rfl
theorem depthAll_ints : ∀ xs : List Int, PyData.depthAll (xs.map .int) ≤ 1
  | [] => by rw [List.map_nil, PyData.depthAll]; omega
  | x :: xs => by
    have := depthAll_ints xs
    rw [List.map_cons, PyData.depthAll, PyData.depth]
    omega
theorem shaped_ints (xs : List Int) : SeqAt.shaped (.list (xs.map .int)) = true := by
  unfold SeqAt.shaped
  rw [Bool.and_eq_true]
  refine ⟨?_, decide_eq_true ?_⟩
  · rw [PyData.canLay0]; exact canLay_ints xs
  · have := depthAll_ints xs
    rw [PyData.depth]
    omega
theorem DpAll.ints {K : PySem.W.Frag} {H : Hp} : ∀ xs : List Int, DpAll K H (xs.map V.int) (xs.map .int)
  | [] => .nil
  | x :: xs => .cons (.int x) (DpAll.ints xs)
def rEqL (K : PySem.W.Frag) : R2 := fun x y H Q => ∃ (p q : Addr) (xs ys : List Int), x = .ref p ∧ y = .ref q ∧ SqL K H p (xs.map V.int) ∧ SqL K H q (ys.map V.int) ∧ Q (.bl (decide (xs = ys))) H
def rNeL (K : PySem.W.Frag) : R2 := fun x y H Q => ∃ (p q : Addr) (xs ys : List Int), x = .ref p ∧ y = .ref q ∧ SqL K H p (xs.map V.int) ∧ SqL K H q (ys.map V.int) ∧ Q (.bl (!decide (xs = ys))) H
section
variable {X : Cx}
theorem op_eqL (hu : X.A.units + 64 < cLine) : OpR X (compareOp .Eq) (rEqL X.K) := by
  intro pins s σ H x y v u Q I rx ry h
  obtain ⟨p, q, xs, ys, rfl, rfl, h1, h2, k⟩ := h
  refine op_eqD hu pins s σ H _ _ v u Q I rx ry ⟨_, _, .lst h1 (DpAll.ints xs), .lst h2 (DpAll.ints ys), shaped_ints xs, shaped_ints ys, ?_⟩
  rw [PyData.eqv, eqvAll_ints]
  exact k
theorem op_neL (hu : X.A.units + 64 < cLine) : OpR X (compareOp .NotEq) (rNeL X.K) := by
  intro pins s σ H x y v u Q I rx ry h
  obtain ⟨p, q, xs, ys, rfl, rfl, h1, h2, k⟩ := h
  refine op_neD hu pins s σ H _ _ v u Q I rx ry ⟨_, _, .lst h1 (DpAll.ints xs), .lst h2 (DpAll.ints ys), shaped_ints xs, shaped_ints ys, ?_⟩
  rw [PyData.eqv, eqvAll_ints]
  exact k
end
theorem hu64 {A : Around} {k : Nat} (hr : Room k A) : A.units + 64 < cLine := by have := hr.un; omega
/-- behind Hd: all as it was but the deck at d, and these objects stand -/
def Fs (d : Addr) (Hd : Hp) (fs : List (Addr × HO)) (H' : Hp) : Prop := But d Hd H' ∧ DeckAt H' d ∧ ∀ p ∈ fs, p.1 ≠ d ∧ H' p.1 = some p.2
section
variable {d p p0 p1 p2 p3 p4 p5 : Addr} {Hd H1 H2 : Hp} {fs : List (Addr × HO)} {o o0 o1 o2 o3 o4 o5 : HO}
theorem Fs.start (D : DeckAt Hd d) : Fs d Hd [] Hd := ⟨But.refl _ _, D, fun _ h => by cases h⟩
theorem Fs.step (F : Fs d Hd fs H1) (D : DeckAt H2 d) (B : But d H1 H2) : Fs d Hd fs H2 := ⟨F.1.trans B, D, fun q hq => ⟨(F.2.2 q hq).1, B _ _ (F.2.2 q hq).1 (F.2.2 q hq).2⟩⟩
theorem Fs.same (F : Fs d Hd fs H1) (s : Same H1 H2) : Fs d Hd fs H2 := F.step (F.2.1.same s) (But.of s)
theorem Fs.add (F : Fs d Hd fs H1) (h : H1 p = some o) (n : p ≠ d) : Fs d Hd ((p, o) :: fs) H1 := ⟨F.1, F.2.1, fun q hq => by
  rcases List.mem_cons.mp hq with e | e
  · subst e
    exact ⟨n, h⟩
  · exact F.2.2 q e⟩
theorem Fs.new (F : Fs d Hd fs H1) (h : H1 p = none) : Fs d Hd ((p, o) :: fs) (upd H1 p o) := (F.same (Same.new h)).add upd_same (F.2.1.ne h)
theorem Fs.skip (F : Fs d Hd fs H1) (h : H1 p = none) : Fs d Hd fs (upd H1 p o) := F.same (Same.new h)
theorem Fs.tail (F : Fs d Hd ((p, o) :: fs) H1) : Fs d Hd fs H1 := ⟨F.1, F.2.1, fun q hq => F.2.2 q (List.mem_cons_of_mem _ hq)⟩
theorem Fs.deck (F : Fs d Hd fs H1) : DeckAt H1 d := F.2.1
theorem Fs.g0 (F : Fs d Hd ((p0, o0) :: fs) H1) : H1 p0 = some o0 := (F.2.2 _ List.mem_cons_self).2
theorem Fs.g1 (F : Fs d Hd ((p0, o0) :: (p1, o1) :: fs) H1) : H1 p1 = some o1 := F.tail.g0
theorem Fs.g2 (F : Fs d Hd ((p0, o0) :: (p1, o1) :: (p2, o2) :: fs) H1) : H1 p2 = some o2 := F.tail.g1
theorem Fs.g3 (F : Fs d Hd ((p0, o0) :: (p1, o1) :: (p2, o2) :: (p3, o3) :: fs) H1) : H1 p3 = some o3 := F.tail.g2
theorem Fs.g4 (F : Fs d Hd ((p0, o0) :: (p1, o1) :: (p2, o2) :: (p3, o3) :: (p4, o4) :: fs) H1) : H1 p4 = some o4 := F.tail.g3
theorem Fs.n0 (F : Fs d Hd ((p0, o0) :: fs) H1) : p0 ≠ d := (F.2.2 _ List.mem_cons_self).1
theorem Fs.n1 (F : Fs d Hd ((p0, o0) :: (p1, o1) :: fs) H1) : p1 ≠ d := F.tail.n0
theorem Fs.n2 (F : Fs d Hd ((p0, o0) :: (p1, o1) :: (p2, o2) :: fs) H1) : p2 ≠ d := F.tail.n1
theorem Fs.n3 (F : Fs d Hd ((p0, o0) :: (p1, o1) :: (p2, o2) :: (p3, o3) :: fs) H1) : p3 ≠ d := F.tail.n2
/-- the first of them is another thing now -/
theorem Fs.set0 {o' : HO} (F : Fs d Hd [(p, o)] H1) (h : Hd p = none) : Fs d Hd [(p, o')] (upd H1 p o') := by
  refine ⟨fun b u hb e => by rw [upd_ne (ne_of_none e h)]; exact F.1 b u hb e, ?_, fun q hq => ?_⟩
  · obtain ⟨x, y, hd, r⟩ := F.2.1
    exact ⟨x, y, by rw [upd_ne F.n0.symm]; exact hd, r⟩
  · rw [List.mem_singleton.mp hq]
    exact ⟨F.n0, upd_same⟩
theorem Fs.free (F : Fs d Hd fs H1) (h : H1 p = none) : Hd p = none := by
  cases q : Hd p with
  | none => rfl
  | some u =>
    have n := F.2.1.ne h
    have := F.1 _ _ n q
    rw [h] at this
    cases this
/-- what stood ahead of the deck stands -/
theorem Fs.old {H : Hp} (F : Fs d Hd fs H1) (hd : H d = none) (s : Same H Hd) : Same H H1 := fun b u h => F.1 b u (ne_of_none h hd) (s b u h)
end
theorem cut_mid (js : List Int) {f t : Nat} (h : f < js.length) : cutV (js.map V.int) (some (f : Int)) (some ((f : Int) + 1 + (t : Int))) = ((js.drop f).take (t + 1)).map V.int := by
  unfold cutV
  have e : (f : Int) + 1 + (t : Int) = ((f + 1 + t : Nat) : Int) := by omega
  rw [e, HT.sIx_nat, HT.sIx_nat, List.length_map, Nat.min_eq_left (by omega : f ≤ js.length), List.map_take, List.map_drop]
  rcases Nat.le_total (f + 1 + t) js.length with q | q
  · rw [Nat.min_eq_left q]
    congr 1
    omega
  · rw [Nat.min_eq_right q, List.take_of_length_le, List.take_of_length_le]
    · rw [List.length_drop, List.length_map]; omega
    · rw [List.length_drop, List.length_map]; omega
/-! ### defs that are called where no repr is under way (their context's guards are known to be none) -/
/-- the promise of a def, wherever no guard stands -/
structure FnG (P : Program) (w : World) (K : PySem.W.Frag) (mg : Str → Option Value) (base : Heap) (k : Nat) (f : Addr) (fd : FuncData) (ps : List Str) (sp : Sp) : Prop where
  len : ∀ vs H Q E, sp vs H Q E → vs.length = ps.length
  go : ∀ {A : Around} {outer : List Env} {s : Shared} {H : Hp} {args : Args} {us : List Value} {vs : List V} {Q : VK} {E : XK}, A.guards = some [] → Room k A → Env0 P w K mg base A outer s H →
    BindsTo s fd args (ps.zip us) → Vals vs us → sp vs H Q E → codeAny (model P w) A (.call (.ref f) args) (CR CX0 outer P w H s Q E) s
section
variable {P : Program} {w : World} {K : PySem.W.Frag} {mg : Str → Option Value} {base : Heap}
/-- by its body -/
theorem FnG.mk' {x qual : Str} {st : Stmt} {f : Addr} {fd : FuncData} {N ps : List Str} {k : Nat} {sp : Sp} (F : Fun K x qual st f fd) (S : FnScope N ps (defScope st)) (len : ∀ vs H Q E, sp vs H Q E → vs.length = ps.length)
    (body : ∀ (cdv : Value) (A : Around) (outer : List Env) (s : Shared) (H : Hp) (vs : List V) (Q : VK) (E : XK), (A.deeper (envOfC qual (defScope st) s.heap.objs.size f cdv)).guards = some [] → Room k (A.deeper (envOfC qual (defScope st) s.heap.objs.size f cdv)) → sp vs H Q E →
      ∃ t, PSs (cxOf CX0 P w K mg base N qual (defScope st) f cdv A outer s H E).nox (defBody st) t ∧ t { nx := fun _ H' => Q .non H', rt := Q } (start N vs) H) : FnG P w K mg base (k + 1) f fd ps sp := by
  obtain ⟨oc, od, kV, doc, pm, an, cdv, ct, osl, rfl, lk, hcd⟩ := F.ex
  refine ⟨len, ?_⟩
  intro A outer s H args us vs Q E hg hr en hb rel hsp
  have kept : ∀ b o, base.get? b = some o → s.heap.get? b = some o := fun b o q => (en.bs b o q).1
  have inK := en.mod.kin.keeps kept
  refine codeAny_call_function hr.depth (inK _ _ lk) rfl S.co S.gen rfl (PySem.W.codeRec_of inK hcd) (hb _ _ _ _ ?_)
  have kinds : ∀ q ∈ ps.zip us, (defScope st).names.lookup q.1 = some .local ∨ ((defScope st).names.lookup q.1 = some .cell ∧ ((cellsFrom (s.heap.objs.size + 1) (defScope st).names []).lookup q.1).isSome = true) := by
    rintro ⟨n, v⟩ hq
    exact (S.par n (List.of_mem_zip hq).1).elim .inl fun c => .inr ⟨c, PySem.W.cellsFrom_some _ _ _ (.inl c)⟩
  refine wpAny_newFunctionEnv_cells S.kind kinds fun env he s1 ic => ?_
  subst he
  obtain ⟨t, ht, hq⟩ := body cdv A outer s H vs Q E hg (hr.deeper _) hsp
  have I0 := inv_start (CX := CX0) (E := E) S hr.hd en (len _ _ _ _ hsp) rel ic
  refine ⟨(en.mod.nolimit.keeps kept).keeps ic.toInCall.keep, codeAny_func ?_⟩
  refine wpAny_mono (ht.nox.run [] s1 _ H _ I0 hq) ?_ fun _ _ z => z
  rintro (_ | _ | _ | u) s' hs
  · obtain ⟨σ', H', J, q⟩ := hs
    exact ⟨.non, H', J.os, J.bare, J.base, J.hok, rfl, q⟩
  · obtain ⟨_, _, _, q⟩ := hs
    exact q.elim
  · obtain ⟨_, _, _, q⟩ := hs
    exact q.elim
  · obtain ⟨v, σ', H', J, rv, q⟩ := hs
    exact ⟨v, H', J.os, J.bare, J.base, J.hok, rv, q⟩
end
section
variable {X : Cx} {k : Nat} {f : Addr} {fd : FuncData} {ps : List Str} {sp : Sp} {E : XK} {x : Str} {p pos : Pos} {e : Expr} {es : List Expr} {t : TA}
/-- such a def called by its name -/
theorem pe_callG (F : FnG X.prog X.w X.K X.mg X.base k f fd ps sp) (hg : X.A.guards = some []) (hr : Room k X.A) (hx : Gl X x) (hm : X.mg x = some (.ref f)) (hk : PySem.W.keepIn X.K (.ref f) = true) (hb : L2.Binds X.K fd ps [])
    (ha : PA X (e :: es) t) (hdb : (x == ("__debug__" : Str)) = false := by decide) (he : starEach (e :: es) X.env = (false, eval e X.env) :: starEach es X.env := by rfl) (hpl : (backTo pos (starEach es X.env)).any (·.1) = false := by rfl) :
    PE X (.Call (.Name x p) (e :: es) [] pos) (tCall sp [] E t) := by
  constructor
  intro pins s σ H Q I h
  have run : ∀ {us : List Value} {vs : List V} {H1 : Hp} {s1 : Shared}, Inv X pins σ H1 s1 → Vals vs us → sp (vs ++ []) H1 Q E → wpAny (model X.prog X.w) X.A (call (.ref f) us) (EP X pins σ Q) X.xe s1 := by
    intro us vs H1 s1 I1 r q
    rw [List.append_nil] at q
    have hl : us.length = ps.length := by rw [← r.length]; exact F.len _ _ _ _ q
    have bt := hb s1 us I1.kIn (by rw [List.append_nil]; exact hl)
    rw [List.append_nil] at bt
    refine wpAny_call (codeAny_mono (F.go hg hr I1.env0 bt r q) ?_)
    rintro (_ | (_ | _ | _ | u)) s2 z
    · exact z.elim
    · exact z.elim
    · exact z.elim
    · exact z.elim
    · exact I1.after z
  refine wpAny_Call_Name_kw (ld_glob I hx hm ?_ hdb)
  exact PySem.W.callWith_K (h₀ := X.base) I.ok.mod.kin hk (thn (ha.run pos pins s σ H _ I h) fun us s1 ⟨vs, H1, I1, r, q⟩ => ⟨I1.kIn, run I1 r q⟩) he hpl
end
/-! ### the end of a law whose def is such a def -/
/-- the heap of which nothing is known but the script -/
def justScript (K : PySem.W.Frag) (a : Addr) (vs : List Value) (ns : List Int) : Hp := fun b =>
  if b = a ∧ K.lookup a = none then some (.frz { cls := .type "list", data := .seq vs.toArray } (.lst (ns.map V.int))) else none
section
variable {P : Program} {w : World} {K : PySem.W.Frag} {mg mb : Str → Option Value} {k : Nat} {fa a : Addr} {fd : FuncData} {x : Str} {sp : Sp} {s₁ : Shared} {vs : List Value} {ns : List Int}
theorem js_out {b : Addr} (h : b ≠ a) : justScript K a vs ns b = none := if_neg fun z => h z.1
theorem js_some {b : Addr} {u : HO} (h : justScript K a vs ns b = some u) : b = a ∧ K.lookup a = none ∧ u = .frz { cls := .type "list", data := .seq vs.toArray } (.lst (ns.map V.int)) := by
  unfold justScript at h
  split at h
  · rename_i c
    exact ⟨c.1, c.2, (Option.some.inj h).symm⟩
  · cases h
theorem lawG (KX : K.In s₁.heap) (hns : s₁.heap.Ns mainGlobals mg) (hb : s₁.heap.Ns builtinsNs mb) (hbb : ∀ x : Str, x ≠ "__name__" → mb x = bootBuiltins x) (hlim : s₁.heap.NoLimit) (hg : s₁.gens = #[])
    (ha : s₁.heap.get? a = some { cls := .type "list", data := .seq vs.toArray }) (hi : IntsAre vs ns) (hl : ns.length ≤ sizeLine) (hr : Room k callerA)
    (F : ∀ base : Heap, K.In base → base.Ns mainGlobals mg → FnG P w K mg base k fa fd [x] sp) (hbind : ∀ (s : Shared) (u : Value), BindsTo s fd ⟨[u], []⟩ [(x, u)])
    (hsp : ∀ H : Hp, Only H → SqL K H a (ns.map V.int) → sp [.ref a] H (fun v _ => v = .bl true) fun _ _ _ => False) :
    codeAny (model P w) callerA (.call (.ref fa) ⟨[.ref a], []⟩) (fun r s' => r = .ok (.ret (.bool true)) ∧ OldK s₁.heap s'.heap ∧ s'.os = s₁.os ∧ AllBare s'.gens) s₁ := by
  have rv := L2.vals_ints hi
  have hlen := hi.length
  obtain ⟨H, hH⟩ : ∃ H, H = justScript K a vs ns := ⟨_, rfl⟩
  have hcases : ∀ b, H b = none ∨ (b = a ∧ K.lookup a = none ∧ H b = some (.frz { cls := .type "list", data := .seq vs.toArray } (.lst (ns.map V.int)))) := by
    intro b
    cases q : H b with
    | none => exact .inl rfl
    | some u =>
      rw [hH] at q
      obtain ⟨h1, h2, h3⟩ := js_some q
      exact .inr ⟨h1, h2, by rw [h3]⟩
  have only : Only H := fun b => (hcases b).imp id fun z => ⟨_, _, z.2.2⟩
  have list : SqL K H a (ns.map V.int) := by
    cases hk : K.lookup a with
    | none => exact .inl (.inr ⟨{ cls := .type "list", data := .seq vs.toArray }, by rw [hH]; exact if_pos ⟨rfl, hk⟩⟩)
    | some o =>
      have q := KX a o hk
      rw [ha] at q
      obtain rfl := Option.some.inj q
      exact .inr ⟨_, vs.toArray, _, hk, rfl, rfl, rfl, by rw [List.size_toArray, hlen]; exact hl, rv⟩
  have held : HOk P w H s₁.heap := by
    intro b u q
    rcases hcases b with z | ⟨rfl, _, z⟩
    · rw [z] at q; cases q
    · rw [z] at q
      obtain rfl := Option.some.inj q
      exact ⟨ha, by rw [List.length_map]; exact hl, vs, _, rv, ha⟩
  -- the rest of the heap, in which the module's facts stand
  have stay : ∀ {b : Addr} {o : Obj}, s₁.heap.get? b = some o → (b = a → K.lookup a ≠ none) → (hidT s₁.heap H).get? b = some o := by
    intro b o e n
    refine hidT_get e ?_
    rcases hcases b with z | ⟨e1, e2, _⟩
    · exact z
    · exact absurd e2 (n e1)
  have names : ∀ {b : Addr} {m : Str → Option Value}, s₁.heap.Ns b m → (hidT s₁.heap H).Ns b m := by
    rintro b m ⟨o, es, ep, e, d, r⟩
    refine ⟨o, es, ep, stay e ?_, d, r⟩
    rintro rfl
    rw [ha] at e
    obtain rfl := Option.some.inj e
    exact absurd d (by intro z; cases z)
  have kin : K.In (hidT s₁.heap H) := fun b o e => stay (KX b o e) fun q => by rw [← q, e]; exact fun z => by cases z
  obtain ⟨mc, l1, l2⟩ := hlim
  have mod : Mod K mg (hidT s₁.heap H) := ⟨kin, names hns, ⟨mb, names hb, hbb⟩, ⟨mc, names l1, l2⟩⟩
  have env : Env0 P w K mg (hidT s₁.heap H) callerA [] s₁ H := ⟨rfl, mod, fun b o e => of_hidT e, Nat.le_of_eq (hidT_size _ _), trivial, fun b z => (by exact absurd (show b ∈ ([] : List Addr) from z) (by simp)), held, .of_eq hg⟩
  have vr : Vals [V.ref a] [Value.ref a] := .cons (show RelV (.ref a) (.ref a) from rfl) .nil
  refine codeAny_mono ((F _ kin (names hns)).go (us := [.ref a]) rfl hr env (hbind s₁ (.ref a)) vr (hsp H only list)) ?_
  rintro (_ | (_ | _ | _ | u)) s' z
  · exact z.elim
  · exact z.elim
  · exact z.elim
  · exact z.elim
  · obtain ⟨v, H', os, bare, un, ok', r', q⟩ := z
    have q1 : v = .bl true := q
    subst q1
    have q2 : u = Value.bool true := r'
    subst q2
    refine ⟨rfl, OldK.of_keep fun b o e => ?_, os, bare⟩
    rcases hcases b with z | ⟨e1, _, z⟩
    · exact un.keep b o e z (fun z => absurd (show b ∈ ([] : List Addr) from z) (by simp)) (by simp)
    · obtain ⟨g, _⟩ := ok' b _ (un.frzs b _ _ z)
      obtain ⟨g0, _⟩ := held b _ z
      rw [g0] at e
      rw [← Option.some.inj e]
      exact g
end
theorem walkG {l : PySem.W.OpenLaw} {n k : Nat} {q : Program} {loose : List Str} {XP : (Str → Option Value) → Heap → Prop} {YP : World → Heap → Prop} {d : DefRec} {K : Params → PySem.W.Frag} {sp : PySem.W.Frag → Sp} {x : Str}
    (hn : l.most = some n) (hn2 : n ≤ sizeLine) (hdf : d.params.defaults = []) (hr : Room k callerA) (hY : ∀ (w : World) (h : Heap), YP w h → (K w.params).In h)
    (F : ∀ (w : World) (mg : Str → Option Value) (fa : Addr) (h : Heap), (K w.params).In h → h.Ns mainGlobals mg → mg d.name = some (.ref fa) →
      ∃ fd : FuncData, (∀ (s : Shared) (u : Value), BindsTo s fd ⟨[u], []⟩ [(x, u)]) ∧ ∀ base : Heap, (K w.params).In base → base.Ns mainGlobals mg → FnG l.prog w (K w.params) mg base k fa fd [x] (sp (K w.params)))
    (hsp : ∀ (K : PySem.W.Frag) (H : Hp) (a : Addr) (ns : List Int), ns.length ≤ n → (∀ z ∈ ns, Builtin.Int.intBits z ≤ 1048576) → SqL K H a (ns.map V.int) → sp K [.ref a] H (fun v _ => v = .bl true) fun _ _ _ => False) :
    PySem.W.WalkO q loose XP YP l.row.toRowW d [] (fun f vs => PySem.call f vs) := by
  refine Att.attach_callB hn hdf ?_
  intro w s₀ s₁ mg mb fa o pm cd doc a vs ns G Y ho hd hcd hmg hobj hints hlen hbits hg
  obtain ⟨fd, hb, hF⟩ := F w mg fa _ (hY w _ Y) G.T.g hmg
  exact lawG (hY w _ Y) G.T.g G.T.b G.T.builtins G.T.nolimit hg hobj hints (Nat.le_trans hlen hn2) hr hF hb fun H _ hS => hsp _ H a ns hlen hbits hS
/-! ### repr of data -/
mutual
/-- how long its text is at most -/
def szD : PyData → Nat
  | .none => 4
  | .bool _ => 5
  | .int _ => 301
  | .str x => (reprText x).length
  | .list xs => szAll xs + 2
  | .tuple xs => szAll xs + 3
  | .dict _ => 2
def szAll : List PyData → Nat
  | [] => 0
  | x :: xs => szD x + 2 + szAll xs
end
mutual
/-- ints of moderate size, no dict -/
def modD : PyData → Bool
  | .none | .bool _ | .str _ => true
  | .int i => decide (i.natAbs < 2 ^ 300)
  | .list xs | .tuple xs => modAll xs
  | .dict _ => false
def modAll : List PyData → Bool
  | [] => true
  | x :: xs => modD x && modAll xs
end
theorem log_of {i : Int} (h : i.natAbs < 2 ^ 300) : i.natAbs.log2 < 300 := PySem.Flt.log2_lt_of (by decide) h
mutual
theorem showable_of : ∀ d : PyData, modD d = true → d.showable = true
  | .none, _ => by rw [PyData.showable]
  | .bool _, _ => by rw [PyData.showable]
  | .str _, _ => by rw [PyData.showable]
  | .int i, h => by
    rw [modD] at h
    rw [PyData.showable]
    have := log_of (of_decide_eq_true h)
    exact decide_eq_true (by omega)
  | .list xs, h => by
    rw [modD] at h
    rw [PyData.showable]
    exact showableAll_of xs h
  | .tuple xs, h => by
    rw [modD] at h
    rw [PyData.showable]
    exact showableAll_of xs h
  | .dict _, h => by rw [modD] at h; cases h
theorem showableAll_of : ∀ xs : List PyData, modAll xs = true → PyData.showableAll xs = true
  | [], _ => by rw [PyData.showableAll]
  | x :: xs, h => by
    rw [modAll, Bool.and_eq_true] at h
    rw [PyData.showableAll, showable_of x h.1, showableAll_of xs h.2]
    rfl
end
mutual
theorem nodict_of : ∀ d : PyData, modD d = true → d.hasDict = false
  | .none, _ => by rw [PyData.hasDict]
  | .bool _, _ => by rw [PyData.hasDict]
  | .str _, _ => by rw [PyData.hasDict]
  | .int i, h => by rw [PyData.hasDict]
  | .list xs, h => by
    rw [modD] at h
    rw [PyData.hasDict]
    exact nodictAll_of xs h
  | .tuple xs, h => by
    rw [modD] at h
    rw [PyData.hasDict]
    exact nodictAll_of xs h
  | .dict _, h => by rw [modD] at h; cases h
theorem nodictAll_of : ∀ xs : List PyData, modAll xs = true → PyData.hasDictAll xs = false
  | [], _ => by rw [PyData.hasDictAll]
  | x :: xs, h => by
    rw [modAll, Bool.and_eq_true] at h
    rw [PyData.hasDictAll, nodict_of x h.1, nodictAll_of xs h.2]
    rfl
end
def pile : List Str → Nat
  | [] => 0
  | t :: r => t.length + 2 + pile r
theorem textFrom_le : ∀ (ts : List Str) (k : Nat) (acc : Str), (textFrom k acc ts).length ≤ acc.length + pile ts
  | [], k, acc => by show acc.length ≤ acc.length + 0; omega
  | t :: r, k, acc => by
    have ih := textFrom_le r (k + 1) (acc ++ (if k > 0 then ", " else "" : String) ++ t)
    have e : (acc ++ (if k > 0 then ", " else "" : String) ++ t).length ≤ acc.length + 2 + t.length := by
      rw [strLen_append, strLen_append]
      split
      · show acc.length + 2 + t.length ≤ _; omega
      · show acc.length + 0 + t.length ≤ _; omega
    show (textFrom (k + 1) (acc ++ (if k > 0 then ", " else "" : String) ++ t) r).length ≤ acc.length + (t.length + 2 + pile r)
    omega
theorem listText_le (ts : List Str) : (listText ts).length ≤ pile ts + 2 := by
  unfold listText
  have h := textFrom_le ts 0 "["
  rw [strLen_append]
  have e1 : (("[" : String) : Str).length = 1 := rfl
  have e2 : (("]" : String) : Str).length = 1 := rfl
  rw [e2]
  rw [e1] at h
  omega
theorem join_le : ∀ ts : List Str, (Str.join ", " ts).length ≤ pile ts
  | [] => Nat.zero_le _
  | [x] => by show x.length ≤ x.length + 2 + 0; omega
  | x :: y :: r => by
    have ih := join_le (y :: r)
    show (x ++ ", " ++ Str.join ", " (y :: r)).length ≤ x.length + 2 + pile (y :: r)
    rw [strLen_append, strLen_append]
    have e2 : ((", " : String) : Str).length = 2 := rfl
    rw [e2]
    omega
theorem tupleText_le (ts : List Str) : (tupleText ts).length ≤ pile ts + 3 := by
  unfold tupleText
  have h := join_le ts
  rw [strLen_append, strLen_append]
  have e1 : (("(" : String) : Str).length = 1 := rfl
  have e2 : ((if ts.length == 1 then ",)" else ")" : String) : Str).length ≤ 2 := by
    split
    · exact Nat.le_refl _
    · exact Nat.le_succ _
  rw [e1]
  omega
mutual
theorem shown_le : ∀ d : PyData, modD d = true → d.shown.length ≤ szD d
  | .none, _ => by rw [PyData.shown, szD]; decide
  | .bool b, _ => by rw [PyData.shown, szD]; cases b <;> decide
  | .str x, _ => by rw [PyData.shown, szD]; exact Nat.le_refl _
  | .int i, h => by
    rw [modD] at h
    rw [PyData.shown, szD]
    have := int_text_length_le (k := 300) (by decide) (log_of (of_decide_eq_true h))
    have e : (Str.ofString (toString i)).length = (toString i).length := PySem.ofString_length _
    rw [e]
    omega
  | .list xs, h => by
    rw [modD] at h
    rw [PyData.shown, szD]
    have := listText_le (PyData.shownAll xs)
    have := shownAll_le xs h
    omega
  | .tuple xs, h => by
    rw [modD] at h
    rw [PyData.shown, szD]
    have := tupleText_le (PyData.shownAll xs)
    have := shownAll_le xs h
    omega
  | .dict _, h => by rw [modD] at h; cases h
theorem shownAll_le : ∀ xs : List PyData, modAll xs = true → pile (PyData.shownAll xs) ≤ szAll xs
  | [], _ => by rw [PyData.shownAll, szAll]; exact Nat.le_refl _
  | x :: xs, h => by
    rw [modAll, Bool.and_eq_true] at h
    have h1 := shown_le x h.1
    have h2 := shownAll_le xs h.2
    rw [PyData.shownAll, szAll]
    show x.shown.length + 2 + pile (PyData.shownAll xs) ≤ _
    omega
end
/-! ### data of the heap is read -/
section
variable {X : Cx} {pins : List (Addr × Obj)} {σ : L2.St} {H : Hp} {s : Shared}
mutual
theorem DV.reads (I : Inv X pins σ H s) : ∀ (d : PyData) (v : V) (u : Value), DV X.K H v d → RelV v u → ∃ as, Reads s.heap u d as
  | .none, _, _, .non, r => ⟨_, (show _ = Value.none from r) ▸ Reads.none⟩
  | .bool b, _, _, .bl _, r => ⟨_, (show _ = Value.bool b from r) ▸ Reads.bool b⟩
  | .int i, _, _, .int _, r => by
    obtain ⟨t, q⟩ := r
    rw [q]
    exact ⟨_, Reads.int i t⟩
  | .str x, _, _, .str _, r => by
    obtain ⟨t, q⟩ := r
    rw [q]
    exact ⟨_, Reads.str x t⟩
  | .list ds, _, u, .lst h t, r => by
    have r' : u = Value.ref _ := r
    subst r'
    obtain ⟨its, rv, ⟨o, n, ho, hc, _, hd⟩, _⟩ := I.list h
    obtain ⟨as, hr⟩ := DVs.reads I ds _ its t rv
    exact ⟨_, Reads.list ho hc hd hr⟩
  | .tuple ds, _, u, .tup h t, r => by
    have r' : u = Value.ref _ := r
    subst r'
    obtain ⟨its, rv, ⟨o, ho, hc, n, hd⟩, _⟩ := I.tuple h
    obtain ⟨as, hr⟩ := DVs.reads I ds _ its t rv
    exact ⟨_, Reads.tuple ho hc hd hr⟩
  | .dict _, _, u, .dk0 h, r => by
    have r' : u = Value.ref _ := r
    subst r'
    obtain ⟨_, _, vs, rel, o, es, ep, h1, h2, h3, h4⟩ := I.hok _ _ h
    cases rel
    have e0 : es.toList = [] := by
      have h5 := h4.2.1
      generalize es.toList = l at h5 ⊢
      cases h5
      rfl
    refine ⟨_, Reads.dict (as := []) (bs := []) h1 h2.1 h3 ?_ ?_⟩
    · rw [e0]; exact ReadsAll.nil
    · rw [e0]; exact ReadsAll.nil
theorem DVs.reads (I : Inv X pins σ H s) : ∀ (ds : List PyData) (vs : List V) (us : List Value), DVs X.K H vs ds → Vals vs us → ∃ as, ReadsAll s.heap us ds as
  | [], _, _, .nil, r => by
    cases r
    exact ⟨_, ReadsAll.nil⟩
  | d :: ds, _, _, .cons h1 h2, r => by
    cases r with
    | cons r1 r2 =>
      obtain ⟨as, q1⟩ := DV.reads I d _ _ h1 r1
      obtain ⟨bs, q2⟩ := DVs.reads I ds _ _ h2 r2
      exact ⟨_, ReadsAll.cons q1 q2⟩
end
/-- repr of a list or a tuple -/
def rRepr (K : PySem.W.Frag) : List V → Hp → VK → Prop := fun xs H Q => ∃ (a : Addr) (d : PyData), xs = [.ref a] ∧ DV K H (.ref a) d ∧ modD d = true ∧ d.depth ≤ 40 ∧ szD d ≤ 1000000 ∧ Q (.str d.shown) H
theorem call_repr (hg : X.A.guards = some []) (hu : X.A.units + 64 < cLine) : CallR X (.builtin "repr") (rRepr X.K) := by
  intro pins s σ H xs us Q I r h
  obtain ⟨a, d, rfl, hd, hm, hdep, hsz, q⟩ := h
  rw [Vals.ref1 r]
  obtain ⟨as, hr⟩ := DV.reads I d (.ref a) (.ref a) hd rfl
  have hl : d.shown.length ≤ sizeLine := by
    have := shown_le d hm
    rw [sizeLine_eq]
    omega
  exact repr_of_reads' hr (showable_of d hm) (fun z => by rw [nodict_of d hm] at z; cases z) hg (by omega) (fun _ _ e => e) (fun h' u tk kk => ⟨.str d.shown, H, I.kept kk, ⟨_, rfl⟩, q⟩) hl
end
/-! ### data that cannot change: flat things and tuples of such -/
mutual
inductive DT (H : Hp) : V → PyData → Prop
  | non : DT H .non .none
  | bl (b : Bool) : DT H (.bl b) (.bool b)
  | int (i : Int) : DT H (.int i) (.int i)
  | str (x : Str) : DT H (.str x) (.str x)
  | tup {a : Addr} {xs : List V} {ds : List PyData} : H a = some (.tup xs) → DTs H xs ds → DT H (.ref a) (.tuple ds)
inductive DTs (H : Hp) : List V → List PyData → Prop
  | nil : DTs H [] []
  | cons {v : V} {vs : List V} {d : PyData} {ds : List PyData} : DT H v d → DTs H vs ds → DTs H (v :: vs) (d :: ds)
end
/-- the tuples stand -/
def KeepT (H H' : Hp) : Prop := ∀ a xs, H a = some (.tup xs) → H' a = some (.tup xs)
theorem KeepT.refl (H : Hp) : KeepT H H := fun _ _ h => h
theorem KeepT.trans {H H1 H2 : Hp} (a : KeepT H H1) (b : KeepT H1 H2) : KeepT H H2 := fun c xs h => b c xs (a c xs h)
theorem KeepT.same {H H' : Hp} (s : Same H H') : KeepT H H' := fun a xs h => s a _ h
theorem KeepT.but {d : Addr} {H H' : Hp} (D : DeckAt H d) (s : But d H H') : KeepT H H' := fun a xs h => s.tup D h
theorem KeepT.put {x : Addr} {H : Hp} {ys : List V} {o : HO} (h : H x = some (.lst ys)) : KeepT H (upd H x o) := fun a xs e => by
  rw [upd_ne (ne_of e h (by intro z; cases z))]
  exact e
theorem KeepT.new {x : Addr} {H : Hp} {o : HO} (h : H x = none) : KeepT H (upd H x o) := KeepT.same (Same.new h)
mutual
theorem DT.keep {H H' : Hp} (e : KeepT H H') : ∀ {d : PyData} {v : V}, DT H v d → DT H' v d
  | _, _, .non => .non
  | _, _, .bl b => .bl b
  | _, _, .int i => .int i
  | _, _, .str x => .str x
  | _, _, .tup h t => .tup (e _ _ h) (DTs.keep e t)
theorem DTs.keep {H H' : Hp} (e : KeepT H H') : ∀ {ds : List PyData} {vs : List V}, DTs H vs ds → DTs H' vs ds
  | _, _, .nil => .nil
  | _, _, .cons p t => .cons (DT.keep e p) (DTs.keep e t)
end
mutual
theorem DT.dv {K : PySem.W.Frag} {H : Hp} : ∀ {d : PyData} {v : V}, DT H v d → DV K H v d
  | _, _, .non => .non
  | _, _, .bl b => .bl b
  | _, _, .int i => .int i
  | _, _, .str x => .str x
  | _, _, .tup h t => .tup (SqT.of h) (DTs.dv t)
theorem DTs.dv {K : PySem.W.Frag} {H : Hp} : ∀ {ds : List PyData} {vs : List V}, DTs H vs ds → DVs K H vs ds
  | _, _, .nil => .nil
  | _, _, .cons p t => .cons (DT.dv p) (DTs.dv t)
end
theorem DTs.ints {H : Hp} : ∀ ks : List Int, DTs H (ks.map V.int) (ks.map PyData.int)
  | [] => .nil
  | k :: r => .cons (.int k) (DTs.ints r)
theorem DTs.append {H : Hp} : ∀ {vs ws : List V} {ds es : List PyData}, DTs H vs ds → DTs H ws es → DTs H (vs ++ ws) (ds ++ es)
  | _, _, _, _, .nil, h => h
  | _, _, _, _, .cons p t, h => .cons p (DTs.append t h)
theorem DTs.take {H : Hp} : ∀ {vs : List V} {ds : List PyData} (n : Nat), DTs H vs ds → DTs H (vs.take n) (ds.take n)
  | _, _, 0, _ => .nil
  | _, _, _ + 1, .nil => .nil
  | _, _, n + 1, .cons p t => .cons p (DTs.take n t)
theorem DTs.length {H : Hp} : ∀ {vs : List V} {ds : List PyData}, DTs H vs ds → vs.length = ds.length
  | _, _, .nil => rfl
  | _, _, .cons _ t => congrArg Nat.succ (DTs.length t)
theorem DTs.none {H : Hp} : ∀ n : Nat, DTs H (List.replicate n V.non) (List.replicate n PyData.none)
  | 0 => .nil
  | n + 1 => .cons .non (DTs.none n)
/-! ### lists of ids as data -/
theorem modAll_ints : ∀ xs : List Int, (∀ z ∈ xs, z.natAbs < 2 ^ 300) → modAll (xs.map .int) = true
  | [], _ => by rw [List.map_nil, modAll]
  | x :: r, h => by
    rw [List.map_cons, modAll, modD, modAll_ints r fun z hz => h z (List.mem_cons_of_mem _ hz), decide_eq_true (h x List.mem_cons_self)]
    rfl
theorem szAll_ints : ∀ xs : List Int, szAll (xs.map .int) = xs.length * 303
  | [] => by rw [List.map_nil, szAll]; rfl
  | x :: r => by
    rw [List.map_cons, szAll, szD, szAll_ints r, List.length_cons]
    omega
theorem small_abs {z : Int} (h : -1000000000000 ≤ z) (h2 : z ≤ 1000000000000) : z.natAbs < 2 ^ 300 := by
  have : (1000000000001 : Nat) ≤ 2 ^ 300 := Nat.le_trans (by decide : 1000000000001 ≤ 2 ^ 50) (Nat.pow_le_pow_right (by decide) (by decide))
  generalize (2 : Nat) ^ 300 = B at *
  omega
structure Rok (d : PyData) : Prop where
  m : modD d = true
  dep : d.depth ≤ 40
  sz : szD d ≤ 1000000
theorem rok_ids {xs : List Int} (h : ∀ z ∈ xs, 1 ≤ z ∧ z ≤ 1000000) (hl : xs.length ≤ 300) : Rok (.list (xs.map .int)) := by
  refine ⟨?_, ?_, ?_⟩
  · rw [modD]
    exact modAll_ints xs fun z hz => by have := h z hz; exact small_abs (by omega) (by omega)
  · have := depthAll_ints xs
    rw [PyData.depth]
    omega
  · rw [szD, szAll_ints]
    omega
/-- changing one more object -/
theorem Fs.put {d x : Addr} {Hd H1 : Hp} {fs : List (Addr × HO)} {o : HO} (F : Fs d Hd fs H1) (h0 : Hd x = none) (hd : x ≠ d) (hn : ∀ p ∈ fs, p.1 ≠ x) : Fs d Hd fs (upd H1 x o) := by
  obtain ⟨f1, ⟨a, b, q, r⟩, f3⟩ := F
  refine ⟨fun c u hc e => ?_, ⟨a, b, by rw [upd_ne hd.symm]; exact q, r⟩, fun p hp => ⟨(f3 p hp).1, by rw [upd_ne (hn p hp)]; exact (f3 p hp).2⟩⟩
  rw [upd_ne (ne_of_none e h0)]
  exact f1 c u hc e
theorem Fs.apart {d x : Addr} {Hd H1 : Hp} {fs : List (Addr × HO)} (F : Fs d Hd fs H1) (h : H1 x = none) : Hd x = none ∧ x ≠ d ∧ ∀ p ∈ fs, p.1 ≠ x := by
  obtain ⟨f1, ⟨a, b, q, r⟩, f3⟩ := F
  have hd : x ≠ d := fun e => by rw [e, q] at h; cases h
  refine ⟨?_, hd, fun p hp => ne_of_none (f3 p hp).2 h⟩
  cases e : Hd x with
  | none => rfl
  | some u =>
    have := f1 x u hd e
    rw [h] at this; cases this
/-! ### a list of lists of ints -/
def RowsAt (H : Hp) (a : Addr) (rows : List (List Int)) : Prop := ∃ ps : List Addr, H a = some (.lst (ps.map V.ref)) ∧ ps.length = rows.length ∧ (∀ (i : Nat) (p : Addr) (r : List Int), ps[i]? = some p → rows[i]? = some r → H p = some (.lst (r.map V.int)) ∧ p ≠ a)
theorem same_but {A B C : Hp} {d : Addr} (s : Same A B) (n : A d = none) (b : But d B C) : Same A C := fun p o e => b p o (ne_of_none e n) (s p o e)
theorem DVs.rows {K : PySem.W.Frag} {H : Hp} : ∀ {ps : List Addr} {rows : List (List Int)}, ps.length = rows.length → (∀ (i : Nat) (p : Addr) (r : List Int), ps[i]? = some p → rows[i]? = some r → H p = some (.lst (r.map V.int))) → DVs K H (ps.map V.ref) (rows.map fun r => .list (r.map .int))
  | [], [], _, _ => .nil
  | [], _ :: _, h, _ => by cases h
  | _ :: _, [], h, _ => by cases h
  | p :: ps, r :: rows, hl, h => .cons (.lst (SqL.of (h 0 p r rfl rfl)) (DVs.intsR r)) (DVs.rows (Nat.succ.inj hl) fun i q t h1 h2 => h (i + 1) q t h1 h2)
where
  DVs.intsR {K : PySem.W.Frag} {H : Hp} : ∀ ks : List Int, DVs K H (ks.map V.int) (ks.map PyData.int)
    | [] => .nil
    | k :: r => .cons (.int k) (DVs.intsR r)
theorem RowsAt.dv {K : PySem.W.Frag} {H : Hp} {a : Addr} {rows : List (List Int)} (R : RowsAt H a rows) : DV K H (.ref a) (.list (rows.map fun r => .list (r.map .int))) := by
  obtain ⟨ps, h1, h2, h3⟩ := R
  exact .lst (SqL.of h1) (DVs.rows h2 fun i p r e1 e2 => (h3 i p r e1 e2).1)
theorem RowsAt.nil {H : Hp} {a : Addr} (h : H a = some (.lst [])) : RowsAt H a [] := ⟨[], h, rfl, fun i p r e _ => by simp at e⟩
theorem RowsAt.same {H H' : Hp} {a : Addr} {rows : List (List Int)} (R : RowsAt H a rows) (s : Same H H') : RowsAt H' a rows := by
  obtain ⟨ps, h1, h2, h3⟩ := R
  exact ⟨ps, s _ _ h1, h2, fun i p r e1 e2 => ⟨s _ _ (h3 i p r e1 e2).1, (h3 i p r e1 e2).2⟩⟩
theorem RowsAt.but {H H' : Hp} {a d : Addr} {rows : List (List Int)} (R : RowsAt H a rows) (s : But d H H') (n : H d = none) : RowsAt H' a rows := R.same fun b o e => s b o (ne_of_none e n) e
/-- one more behind it -/
theorem RowsAt.push {H : Hp} {a p : Addr} {rows : List (List Int)} {r : List Int} (R : RowsAt H a rows) (hp : H p = some (.lst (r.map V.int))) (hne : p ≠ a) :
    ∃ xs, H a = some (.lst xs) ∧ xs.length = rows.length ∧ RowsAt (upd H a (.lst (xs ++ [.ref p]))) a (rows ++ [r]) := by
  obtain ⟨ps, h1, h2, h3⟩ := R
  refine ⟨ps.map V.ref, h1, by rw [List.length_map, h2], ps ++ [p], ?_, ?_, fun i q t e1 e2 => ?_⟩
  · rw [upd_same, List.map_append]; rfl
  · rw [List.length_append, List.length_append, h2]; rfl
  · by_cases hi : i < ps.length
    · rw [List.getElem?_append_left hi] at e1
      rw [List.getElem?_append_left (by omega)] at e2
      obtain ⟨z1, z2⟩ := h3 i q t e1 e2
      exact ⟨by rw [upd_ne z2]; exact z1, z2⟩
    · rw [List.getElem?_append_right (by omega)] at e1
      rw [List.getElem?_append_right (by omega)] at e2
      have hj : i - ps.length = 0 := by
        cases z : i - ps.length with
        | zero => rfl
        | succ m => rw [z] at e1; simp at e1
      rw [hj] at e1
      rw [show i - rows.length = 0 by omega] at e2
      simp at e1 e2
      subst e1; subst e2
      exact ⟨by rw [upd_ne hne]; exact hp, hne⟩
theorem rok_rows {rows : List (List Int)} (h : ∀ r ∈ rows, r.length ≤ 10 ∧ ∀ z ∈ r, 0 ≤ z ∧ z ≤ 1000000) (hl : rows.length ≤ 20) : Rok (.list (rows.map fun r => .list (r.map .int))) := by
  have hm : modAll (rows.map fun r => .list (r.map .int)) = true ∧ PyData.depthAll (rows.map fun r => .list (r.map .int)) ≤ 10 ∧ szAll (rows.map fun r => .list (r.map .int)) ≤ rows.length * 4000 := by
    clear hl
    induction rows with
    | nil => exact ⟨by rw [List.map_nil, modAll], by rw [List.map_nil, PyData.depthAll]; decide, by rw [List.map_nil, szAll]; omega⟩
    | cons r rows ih =>
      obtain ⟨i1, i2, i3⟩ := ih fun r hr => h r (List.mem_cons_of_mem _ hr)
      obtain ⟨j1, j2⟩ := h r List.mem_cons_self
      refine ⟨?_, ?_, ?_⟩
      · rw [List.map_cons, modAll, modD, modAll_ints r fun z hz => small_abs (by have := j2 z hz; omega) (by have := j2 z hz; omega), i1]; rfl
      · have := depthAll_ints r
        rw [List.map_cons, PyData.depthAll, PyData.depth]
        omega
      · rw [List.map_cons, szAll, szD, szAll_ints, List.length_cons]
        omega
  obtain ⟨m1, m2, m3⟩ := hm
  refine ⟨?_, ?_, ?_⟩
  · rw [modD]; exact m1
  · rw [PyData.depth]; omega
  · rw [szD]; omega
/-! ### pins as a forest: what is laid out is what is sorted by the places of the anchors -/
structure Forest (base : List Int) (p : Int → Option Int) (r : Int → Nat) (N : Nat) : Prop where
  nd : base.Nodup
  nz : ∀ x ∈ base, x ≠ 0
  lt : ∀ x ∈ base, r x < N
  anc : ∀ x ∈ base, ∀ a, p x = some a → a = 0 ∨ (a ∈ base ∧ r a < r x)
def kidsOf (base : List Int) (p : Int → Option Int) (a : Int) : List Int := base.filter fun x => p x == some a
def looseOf (base : List Int) (p : Int → Option Int) : List Int := base.filter fun x => p x == none
def dfsN (base : List Int) (p : Int → Option Int) : Nat → Int → List Int
  | 0, x => [x]
  | n + 1, x => x :: (kidsOf base p x).flatMap (dfsN base p n)
def ixI (base : List Int) (x : Int) : Int := (base.idxOf x : Nat)
def pathN (base : List Int) (p : Int → Option Int) : Nat → Int → List Int
  | 0, x => match p x with
    | none => [1, ixI base x]
    | some a => if a = 0 then [0, ixI base x] else []
  | m + 1, x => match p x with
    | none => [1, ixI base x]
    | some a => if a = 0 then [0, ixI base x] else pathN base p m a ++ [ixI base x]
theorem pathN_none {base : List Int} {p : Int → Option Int} {x : Int} (h : p x = none) : ∀ n, pathN base p n x = [1, ixI base x]
  | 0 => by rw [pathN, h]
  | n + 1 => by rw [pathN, h]
theorem pathN_top {base : List Int} {p : Int → Option Int} {x : Int} (h : p x = some 0) : ∀ n, pathN base p n x = [0, ixI base x]
  | 0 => by rw [pathN, h]; exact if_pos rfl
  | n + 1 => by rw [pathN, h]; exact if_pos rfl
theorem pathN_step {base : List Int} {p : Int → Option Int} {x a : Int} (h : p x = some a) (ha : a ≠ 0) (n : Nat) : pathN base p (n + 1) x = pathN base p n a ++ [ixI base x] := by
  rw [pathN, h]
  exact if_neg ha
theorem mem_kids {base : List Int} {p : Int → Option Int} {a x : Int} : x ∈ kidsOf base p a ↔ x ∈ base ∧ p x = some a := by
  unfold kidsOf
  rw [List.mem_filter, beq_iff_eq]
theorem mem_loose {base : List Int} {p : Int → Option Int} {x : Int} : x ∈ looseOf base p ↔ x ∈ base ∧ p x = none := by
  unfold looseOf
  rw [List.mem_filter, beq_iff_eq]
theorem app_lt (a : List Int) {x : Int} {s : List Int} : a < a ++ x :: s := by
  induction a with
  | nil => exact List.nil_lt_cons _ _
  | cons y r ih => rw [List.cons_append]; exact List.cons_lt_cons_iff.mpr (.inr ⟨rfl, ih⟩)
theorem app_lt2 (a : List Int) {b c : List Int} (h : b < c) : a ++ b < a ++ c := by
  induction a with
  | nil => exact h
  | cons y r ih => rw [List.cons_append, List.cons_append]; exact List.cons_lt_cons_iff.mpr (.inr ⟨rfl, ih⟩)
section
variable {base : List Int} {p : Int → Option Int} {r : Int → Nat} {N : Nat}
def treeOf (base : List Int) (p : Int → Option Int) (r : Int → Nat) (N : Nat) (x : Int) : List Int := dfsN base p (N - r x) x
def pathOf (base : List Int) (p : Int → Option Int) (r : Int → Nat) (x : Int) : List Int := pathN base p (r x) x
theorem kid_up (F : Forest base p r N) {a x : Int} (ha : a ∈ base) (h : x ∈ kidsOf base p a) : x ∈ base ∧ r a < r x := by
  obtain ⟨h1, h2⟩ := mem_kids.mp h
  rcases F.anc x h1 a h2 with e | ⟨_, e⟩
  · exact absurd e (F.nz a ha)
  · exact ⟨h1, e⟩
theorem dfs_more (F : Forest base p r N) : ∀ (n : Nat) (x : Int), x ∈ base → N - r x ≤ n → dfsN base p n x = treeOf base p r N x
  | 0, x, hx, h => by have := F.lt x hx; omega
  | n + 1, x, hx, h => by
    have hlt := F.lt x hx
    unfold treeOf
    obtain ⟨m, hm⟩ : ∃ m, N - r x = m + 1 := ⟨N - r x - 1, by omega⟩
    rw [hm, dfsN, dfsN]
    congr 1
    have key : ∀ l : List Int, (∀ c ∈ l, c ∈ kidsOf base p x) → l.flatMap (dfsN base p n) = l.flatMap (dfsN base p m) := by
      intro l
      induction l with
      | nil => intro _; rfl
      | cons c l ih =>
        intro hl
        obtain ⟨c1, c2⟩ := kid_up F hx (hl c List.mem_cons_self)
        rw [List.flatMap_cons, List.flatMap_cons, ih fun c hc => hl c (List.mem_cons_of_mem _ hc)]
        rw [dfs_more F n c c1 (by omega)]
        by_cases hmn : m = n
        · subst hmn; rw [dfs_more F m c c1 (by omega)]
        · have hmn2 : m < n + 1 := by omega
          congr 1
          unfold treeOf
          have := F.lt c c1
          have e1 : dfsN base p m c = treeOf base p r N c := dfs_more F m c c1 (by omega)
          rw [e1]; rfl
    exact key _ fun c hc => hc
termination_by n => n
theorem tree_eq (F : Forest base p r N) {x : Int} (hx : x ∈ base) : treeOf base p r N x = x :: (kidsOf base p x).flatMap (treeOf base p r N) := by
  have hlt := F.lt x hx
  have e : dfsN base p (N + 1) x = treeOf base p r N x := dfs_more F (N + 1) x hx (by omega)
  rw [← e, dfsN]
  congr 1
  have key : ∀ l : List Int, (∀ c ∈ l, c ∈ kidsOf base p x) → l.flatMap (dfsN base p N) = l.flatMap (treeOf base p r N) := by
    intro l
    induction l with
    | nil => intro _; rfl
    | cons c l ih =>
      intro hl
      obtain ⟨c1, c2⟩ := kid_up F hx (hl c List.mem_cons_self)
      rw [List.flatMap_cons, List.flatMap_cons, ih fun c hc => hl c (List.mem_cons_of_mem _ hc), dfs_more F N c c1 (by omega)]
  exact key _ fun c hc => hc
theorem path_more (F : Forest base p r N) : ∀ (n : Nat) (x : Int), x ∈ base → r x ≤ n → pathN base p n x = pathOf base p r x
  | n, x, hx, h => by
    unfold pathOf
    cases hp : p x with
    | none => rw [pathN_none hp, pathN_none hp]
    | some a =>
      by_cases ha : a = 0
      · subst ha
        rw [pathN_top hp, pathN_top hp]
      · rcases F.anc x hx a hp with e | ⟨a1, a2⟩
        · exact absurd e ha
        · obtain ⟨m, hm⟩ : ∃ m, r x = m + 1 := ⟨r x - 1, by omega⟩
          obtain ⟨k, rfl⟩ : ∃ k, n = k + 1 := ⟨n - 1, by omega⟩
          rw [hm, pathN_step hp ha, pathN_step hp ha, path_more F k a a1 (by omega), path_more F m a a1 (by omega)]
termination_by n => n
theorem path_none {x : Int} (h : p x = none) : pathOf base p r x = [1, ixI base x] := pathN_none h _
theorem path_top {x : Int} (h : p x = some 0) : pathOf base p r x = [0, ixI base x] := pathN_top h _
theorem path_step (F : Forest base p r N) {x a : Int} (hx : x ∈ base) (h : p x = some a) (ha : a ≠ 0) : a ∈ base ∧ pathOf base p r x = pathOf base p r a ++ [ixI base x] := by
  rcases F.anc x hx a h with e | ⟨a1, a2⟩
  · exact absurd e ha
  · refine ⟨a1, ?_⟩
    have e := path_more F (r x + 1) x hx (by omega)
    rw [← e, pathN_step h ha, path_more F (r x) a a1 (by omega)]
theorem ix_sorted {base : List Int} {f : Int → Bool} (nd : base.Nodup) : (base.filter f).Pairwise fun a b => ixI base a < ixI base b := by
  have h : base.Pairwise fun a b => ixI base a < ixI base b := by
    refine List.pairwise_iff_getElem.mpr fun i j hi hj hij => ?_
    unfold ixI
    rw [nd.idxOf_getElem i hi, nd.idxOf_getElem j hj]
    omega
  exact h.filter f
/-- what hangs on x -/
theorem tree_ok (F : Forest base p r N) : ∀ (n : Nat) (x : Int), x ∈ base → N - r x ≤ n → (∀ y ∈ treeOf base p r N x, y ∈ base ∧ ∃ s, pathOf base p r y = pathOf base p r x ++ s) ∧ (treeOf base p r N x).Pairwise (fun a b => pathOf base p r a < pathOf base p r b)
  | 0, x, hx, h => by have := F.lt x hx; omega
  | n + 1, x, hx, h => by
    have hlt := F.lt x hx
    have hk : ∀ c ∈ kidsOf base p x, c ∈ base ∧ (∀ y ∈ treeOf base p r N c, y ∈ base ∧ ∃ s, pathOf base p r y = pathOf base p r x ++ ixI base c :: s) ∧ (treeOf base p r N c).Pairwise (fun a b => pathOf base p r a < pathOf base p r b) := fun c hc => by
      obtain ⟨c1, c2⟩ := kid_up F hx hc
      obtain ⟨i1, i2⟩ := tree_ok F n c c1 (by omega)
      refine ⟨c1, fun y hy => ?_, i2⟩
      obtain ⟨y1, s, hs⟩ := i1 y hy
      refine ⟨y1, s, ?_⟩
      rw [hs, (path_step F c1 (mem_kids.mp hc).2 (F.nz x hx)).2, List.append_assoc]; rfl
    rw [tree_eq F hx]
    refine ⟨fun y hy => ?_, List.pairwise_cons.mpr ⟨fun y hy => ?_, List.pairwise_flatMap.mpr ⟨fun c hc => (hk c hc).2.2, ?_⟩⟩⟩
    · rcases List.mem_cons.mp hy with e | hy
      · rw [e]; exact ⟨hx, [], by rw [List.append_nil]⟩
      · obtain ⟨c, hc, hy⟩ := List.mem_flatMap.mp hy
        obtain ⟨y1, s, hs⟩ := (hk c hc).2.1 y hy
        exact ⟨y1, _, hs⟩
    · obtain ⟨c, hc, hy⟩ := List.mem_flatMap.mp hy
      obtain ⟨y1, s, hs⟩ := (hk c hc).2.1 y hy
      rw [hs]
      exact app_lt _
    · have hs : (kidsOf base p x).Pairwise fun a b => ixI base a < ixI base b := ix_sorted F.nd
      refine (List.pairwise_iff_forall_sublist.mpr fun {a b} hab u hu v hv => ?_)
      have hab2 := List.pairwise_iff_forall_sublist.mp hs hab
      have ha : a ∈ kidsOf base p x := hab.subset (by simp)
      have hb : b ∈ kidsOf base p x := hab.subset (by simp)
      obtain ⟨_, s1, e1⟩ := (hk a ha).2.1 u hu
      obtain ⟨_, s2, e2⟩ := (hk b hb).2.1 v hv
      rw [e1, e2]
      exact app_lt2 _ (List.cons_lt_cons_iff.mpr (.inl hab2))
termination_by n => n
/-- the laid order -/
def laidOf (base : List Int) (p : Int → Option Int) (r : Int → Nat) (N : Nat) : List Int := (kidsOf base p 0 ++ looseOf base p).flatMap (treeOf base p r N)
theorem tree_kids (F : Forest base p r N) : ∀ (n : Nat) (x : Int), x ∈ base → N - r x ≤ n → ∀ a ∈ treeOf base p r N x, ∀ c ∈ kidsOf base p a, c ∈ treeOf base p r N x
  | 0, x, hx, h => by have := F.lt x hx; omega
  | n + 1, x, hx, h => by
    have hlt := F.lt x hx
    intro a ha c hc
    rw [tree_eq F hx] at ha ⊢
    refine List.mem_cons_of_mem _ (List.mem_flatMap.mpr ?_)
    rcases List.mem_cons.mp ha with e | ha
    · rw [e] at hc
      refine ⟨c, hc, ?_⟩
      rw [tree_eq F (kid_up F hx hc).1]
      exact List.mem_cons_self
    · obtain ⟨k, hk, ha⟩ := List.mem_flatMap.mp ha
      obtain ⟨k1, k2⟩ := kid_up F hx hk
      exact ⟨k, hk, tree_kids F n k k1 (by omega) a ha c hc⟩
termination_by n => n
theorem tops_in {x : Int} (h : x ∈ kidsOf base p 0 ++ looseOf base p) : x ∈ base := by
  rcases List.mem_append.mp h with q | q
  · exact (mem_kids.mp q).1
  · exact (mem_loose.mp q).1
theorem laid_in (F : Forest base p r N) {y : Int} (h : y ∈ laidOf base p r N) : y ∈ base := by
  obtain ⟨c, hc, hy⟩ := List.mem_flatMap.mp h
  exact ((tree_ok F (N - r c) c (tops_in hc) (Nat.le_refl _)).1 y hy).1
theorem laid_all (F : Forest base p r N) : ∀ (n : Nat) (x : Int), x ∈ base → r x ≤ n → x ∈ laidOf base p r N
  | n, x, hx, h => by
    have top : x ∈ kidsOf base p 0 ++ looseOf base p → x ∈ laidOf base p r N := fun q => List.mem_flatMap.mpr ⟨x, q, by rw [tree_eq F hx]; exact List.mem_cons_self⟩
    cases hp : p x with
    | none => exact top (List.mem_append_right _ (mem_loose.mpr ⟨hx, hp⟩))
    | some a =>
      rcases F.anc x hx a hp with e | ⟨a1, a2⟩
      · subst e
        exact top (List.mem_append_left _ (mem_kids.mpr ⟨hx, hp⟩))
      · obtain ⟨m, rfl⟩ : ∃ m, n = m + 1 := ⟨n - 1, by omega⟩
        obtain ⟨c, hc, ha⟩ := List.mem_flatMap.mp (laid_all F m a a1 (by omega))
        exact List.mem_flatMap.mpr ⟨c, hc, tree_kids F _ c (tops_in hc) (Nat.le_refl _) a ha x (mem_kids.mpr ⟨hx, hp⟩)⟩
termination_by n => n
theorem laid_up (F : Forest base p r N) : (laidOf base p r N).Pairwise fun a b => pathOf base p r a < pathOf base p r b := by
  have hk : ∀ c ∈ kidsOf base p 0 ++ looseOf base p, (treeOf base p r N c).Pairwise fun a b => pathOf base p r a < pathOf base p r b := fun c hc => (tree_ok F _ c (tops_in hc) (Nat.le_refl _)).2
  have h0 : ∀ c ∈ kidsOf base p 0, ∀ y ∈ treeOf base p r N c, ∃ s, pathOf base p r y = 0 :: ixI base c :: s := fun c hc y hy => by
    obtain ⟨_, s, e⟩ := (tree_ok F _ c (mem_kids.mp hc).1 (Nat.le_refl _)).1 y hy
    exact ⟨s, by rw [e, path_top (mem_kids.mp hc).2]; rfl⟩
  have h1 : ∀ c ∈ looseOf base p, ∀ y ∈ treeOf base p r N c, ∃ s, pathOf base p r y = 1 :: ixI base c :: s := fun c hc y hy => by
    obtain ⟨_, s, e⟩ := (tree_ok F _ c (mem_loose.mp hc).1 (Nat.le_refl _)).1 y hy
    exact ⟨s, by rw [e, path_none (mem_loose.mp hc).2]; rfl⟩
  have hs : ∀ f : Int → Bool, (base.filter f).Pairwise fun a b => ixI base a < ixI base b := fun f => ix_sorted F.nd
  refine List.pairwise_flatMap.mpr ⟨hk, List.pairwise_append.mpr ⟨?_, ?_, ?_⟩⟩
  · refine List.pairwise_iff_forall_sublist.mpr fun {a b} hab u hu v hv => ?_
    have ha : a ∈ kidsOf base p 0 := hab.subset (by simp)
    have hb : b ∈ kidsOf base p 0 := hab.subset (by simp)
    obtain ⟨s1, e1⟩ := h0 a ha u hu
    obtain ⟨s2, e2⟩ := h0 b hb v hv
    rw [e1, e2]
    exact List.cons_lt_cons_iff.mpr (.inr ⟨rfl, List.cons_lt_cons_iff.mpr (.inl (List.pairwise_iff_forall_sublist.mp (hs _) hab))⟩)
  · refine List.pairwise_iff_forall_sublist.mpr fun {a b} hab u hu v hv => ?_
    have ha : a ∈ looseOf base p := hab.subset (by simp)
    have hb : b ∈ looseOf base p := hab.subset (by simp)
    obtain ⟨s1, e1⟩ := h1 a ha u hu
    obtain ⟨s2, e2⟩ := h1 b hb v hv
    rw [e1, e2]
    exact List.cons_lt_cons_iff.mpr (.inr ⟨rfl, List.cons_lt_cons_iff.mpr (.inl (List.pairwise_iff_forall_sublist.mp (hs _) hab))⟩)
  · intro a ha b hb u hu v hv
    obtain ⟨s1, e1⟩ := h0 a ha u hu
    obtain ⟨s2, e2⟩ := h1 b hb v hv
    rw [e1, e2]
    exact List.cons_lt_cons_iff.mpr (.inl (by decide))
theorem laid_nodup (F : Forest base p r N) : (laidOf base p r N).Nodup := (laid_up F).imp fun {a b} h e => by
  subst e
  exact List.lt_irrefl _ h
theorem laid_perm (F : Forest base p r N) : (laidOf base p r N).Perm base :=
  (List.perm_ext_iff_of_nodup (laid_nodup F) F.nd).mpr fun a => ⟨laid_in F, fun h => laid_all F _ a h (Nat.le_refl _)⟩
theorem path_inj (F : Forest base p r N) {x y : Int} (hx : x ∈ base) (hy : y ∈ base) (h : x ≠ y) : pathOf base p r x ≠ pathOf base p r y := by
  intro e
  have hx2 := laid_all F _ x hx (Nat.le_refl _)
  have hy2 := laid_all F _ y hy (Nat.le_refl _)
  obtain ⟨i, hi, ei⟩ := List.getElem_of_mem hx2
  obtain ⟨j, hj, ej⟩ := List.getElem_of_mem hy2
  have up := List.pairwise_iff_getElem.mp (laid_up F)
  rcases Nat.lt_trichotomy i j with q | q | q
  · have := up i j hi hj q
    rw [ei, ej, e] at this
    exact List.lt_irrefl _ this
  · subst q
    exact h (ei.symm.trans ej)
  · have := up j i hj hi q
    rw [ei, ej, e] at this
    exact List.lt_irrefl _ this
theorem laid_sort (F : Forest base p r N) : base.mergeSort (fun a b => decide (pathOf base p r a ≤ pathOf base p r b)) = laidOf base p r N := by
  have h4 : (base.mergeSort (fun a b => decide (pathOf base p r a ≤ pathOf base p r b))).Pairwise (fun a b => pathOf base p r a ≤ pathOf base p r b) := by
    have := List.pairwise_mergeSort (le := fun a b : Int => decide (pathOf base p r a ≤ pathOf base p r b)) (fun a b c x y => decide_eq_true (List.le_trans (of_decide_eq_true x) (of_decide_eq_true y)))
      (fun a b => by
        rcases List.le_total (pathOf base p r a) (pathOf base p r b) with q | q
        · rw [decide_eq_true q]; rfl
        · rw [decide_eq_true q, Bool.or_true]) base
    exact this.imp fun z => of_decide_eq_true z
  refine List.Perm.eq_of_pairwise (le := fun a b => pathOf base p r a ≤ pathOf base p r b) (fun a b ha hb x y => ?_) h4 ((laid_up F).imp fun z => List.le_of_lt z) ((List.mergeSort_perm _ _).trans (laid_perm F).symm)
  by_cases e : a = b
  · exact e
  · exact absurd (List.le_antisymm x y) (path_inj F (List.mem_mergeSort.mp ha) (laid_in F hb) e)
end
/-! ### lists hung in a dict -/
def HungAt (G : Hp) (n : Nat) (H : Hp) (h : Addr) (f : Int → List Int) : Prop := ∃ kvs : List (Key × V), H h = some (.dK kvs) ∧ kvs.length ≤ n ∧
  (∀ a, (valV kvs (.inl a : Key) = none ∧ f a = []) ∨ ∃ l, valV kvs (.inl a : Key) = some (.ref l) ∧ H l = some (.lst ((f a).map V.int)) ∧ G l = none) ∧
  ∀ a b l, valV kvs (.inl a : Key) = some (.ref l) → valV kvs (.inl b : Key) = some (.ref l) → a = b
def pushF (f : Int → List Int) (a x : Int) : Int → List Int := fun b => if b = a then f a ++ [x] else f b
theorem HungAt.nil {G H : Hp} {h : Addr} (e : H h = some (.dK [])) : HungAt G 0 H h fun _ => [] :=
  ⟨[], e, Nat.le_refl _, fun a => .inl ⟨rfl, rfl⟩, fun a b l z => by cases z⟩
theorem HungAt.same {G H H' : Hp} {n : Nat} {h : Addr} {f : Int → List Int} (s : Same H H') (g : HungAt G n H h f) : HungAt G n H' h f := by
  obtain ⟨kvs, h1, hn, h2, h3⟩ := g
  refine ⟨kvs, s _ _ h1, hn, fun a => ?_, h3⟩
  rcases h2 a with q | ⟨l, q1, q2, q3⟩
  · exact .inl q
  · exact .inr ⟨l, q1, s _ _ q2, q3⟩
/-- d.setdefault(a, []).append(x), with the list at z made for it -/
theorem HungAt.push {G H : Hp} {n : Nat} {h z : Addr} {f : Int → List Int} {a x : Int} (g : HungAt G n H h f) (hz : H z = none) (gz : G z = none) (gh : G h = none) (sG : Same G H) :
    ∃ kvs, (upd H z (.lst [])) h = some (.dK kvs) ∧ kvs.length ≤ n ∧
      (∀ v, valV kvs (.inl a : Key) = some v → ∃ l, v = .ref l ∧ (upd H z (.lst [])) l = some (.lst ((f a).map V.int)) ∧ HungAt G (n + 1) (upd (upd H z (.lst [])) l (.lst ((f a).map V.int ++ [.int x]))) h (pushF f a x) ∧ Same G (upd (upd H z (.lst [])) l (.lst ((f a).map V.int ++ [.int x]))) ∧ G l = none) ∧
      (valV kvs (.inl a : Key) = none → (upd (upd H z (.lst [])) h (.dK (putK kvs (.inl a : Key) (.ref z)))) z = some (.lst []) ∧ HungAt G (n + 1) (upd (upd (upd H z (.lst [])) h (.dK (putK kvs (.inl a : Key) (.ref z)))) z (.lst ([] ++ [.int x]))) h (pushF f a x) ∧
        Same G (upd (upd (upd H z (.lst [])) h (.dK (putK kvs (.inl a : Key) (.ref z)))) z (.lst ([] ++ [.int x])))) := by
  obtain ⟨kvs, h1, hn, h2, h3⟩ := g
  have nzh : h ≠ z := ne_of_none h1 hz
  have s1 : Same H (upd H z (.lst [])) := Same.new hz
  have old : ∀ b : Int, valV kvs (.inl b : Key) ≠ some (.ref z) := fun b q => by
    rcases h2 b with w | ⟨l2, w1, w2, _⟩
    · rw [w.1] at q; cases q
    · rw [q] at w1
      cases w1
      rw [hz] at w2; cases w2
  refine ⟨kvs, s1 _ _ h1, hn, fun v hv => ?_, fun hv => ?_⟩
  · rcases h2 a with q | ⟨l, q1, q2, q3⟩
    · rw [q.1] at hv; cases hv
    · rw [hv] at q1
      have hl := s1 _ _ q2
      refine ⟨l, Option.some.inj q1, hl, ⟨kvs, by rw [upd_ne (ne_of (s1 _ _ h1) hl (fun z => by cases z))]; exact s1 _ _ h1, by omega, fun b => ?_, h3⟩, fun b o e => by rw [upd_ne (ne_of_none e q3)]; exact s1 _ _ (sG _ _ e), q3⟩
      rw [q1] at hv
      by_cases e : b = a
      · subst e
        refine .inr ⟨l, hv, ?_, q3⟩
        rw [upd_same]
        unfold pushF
        rw [if_pos rfl, List.map_append]; rfl
      · unfold pushF
        rw [if_neg e]
        rcases h2 b with q | ⟨l2, w1, w2, w3⟩
        · exact .inl q
        · refine .inr ⟨l2, w1, ?_, w3⟩
          have nn : l2 ≠ l := fun z => by
            subst z
            exact e (h3 _ _ _ w1 hv)
          rw [upd_ne nn]
          exact s1 _ _ w2
  · have fa : f a = [] := by
      rcases h2 a with q | ⟨l, q, _⟩
      · exact q.2
      · rw [hv] at q; cases q
    have key : ∀ b : Int, valV (putK kvs (.inl a : Key) (.ref z)) (.inl b : Key) = if b = a then some (.ref z) else valV kvs (.inl b : Key) := fun b => by
      rw [valV_put]
      by_cases e : b = a
      · rw [if_pos e, if_pos (by rw [e])]
      · rw [if_neg e, if_neg (fun q => e (Sum.inl.inj q))]
    refine ⟨by rw [upd_ne nzh.symm, upd_same], ⟨_, by rw [upd_ne nzh, upd_same], Nat.le_trans (length_putK _ _ _) (by omega), fun b => ?_, fun b c l e1 e2 => ?_⟩, fun b o e => by rw [upd_ne (ne_of_none e gz), upd_ne (ne_of_none e gh)]; exact s1 _ _ (sG _ _ e)⟩
    · rw [key]
      unfold pushF
      by_cases e : b = a
      · rw [if_pos e, if_pos e, fa]
        exact .inr ⟨z, rfl, by rw [upd_same]; rfl, gz⟩
      · rw [if_neg e, if_neg e]
        rcases h2 b with q | ⟨l2, q1, q2, q3⟩
        · exact .inl q
        · exact .inr ⟨l2, q1, by rw [upd_ne (ne_of_none q2 hz), upd_ne (ne_of q2 h1 (fun z => by cases z)), upd_ne (ne_of_none q2 hz)]; exact q2, q3⟩
    · rw [key] at e1 e2
      by_cases eb : b = a
      · by_cases ec : c = a
        · rw [eb, ec]
        · rw [if_pos eb] at e1
          rw [if_neg ec, ← e1] at e2
          exact absurd e2 (old c)
      · by_cases ec : c = a
        · rw [if_pos ec] at e2
          rw [if_neg eb, ← e2] at e1
          exact absurd e1 (old b)
        · rw [if_neg eb] at e1
          rw [if_neg ec] at e2
          exact h3 _ _ _ e1 e2
/-! ### pins in the heap -/
def pinK (ps : List (Int × Int)) : List (Key × V) := ps.map fun e => (.inl e.1, .int e.2)
def anOf (ps : List (Int × Int)) (x : Int) : Option Int := (ps.find? fun e => decide (e.1 = x)).map (·.2)
theorem val_pin : ∀ (ps : List (Int × Int)) (x : Int), valV (pinK ps) (.inl x : Key) = (anOf ps x).map V.int
  | [], _ => rfl
  | e :: ps, x => by
    by_cases h : e.1 = x
    · rw [show pinK (e :: ps) = ((.inl e.1 : Key), V.int e.2) :: pinK ps from rfl, valV_pos (by show (.inl e.1 : Key) = .inl x; rw [h])]
      unfold anOf
      rw [List.find?_cons_of_pos (by exact decide_eq_true h)]
      rfl
    · rw [show pinK (e :: ps) = ((.inl e.1 : Key), V.int e.2) :: pinK ps from rfl, valV_neg (fun z : (.inl e.1 : Key) = .inl x => h (Sum.inl.inj z)), val_pin ps x]
      unfold anOf
      rw [List.find?_cons_of_neg (by intro z; exact h (of_decide_eq_true z))]
theorem int_at {js : List Int} {i : Nat} {y : V} (h : (js.map V.int)[i]? = some y) : ∃ x, js[i]? = some x ∧ y = .int x := by
  rw [List.getElem?_map] at h
  cases q : js[i]? with
  | none => rw [q] at h; cases h
  | some u => rw [q] at h; exact ⟨u, rfl, (Option.some.inj h).symm⟩
/-! ### repr of data with empty dicts in it -/
mutual
/-- ints of moderate size, dicts only empty -/
def okD : PyData → Bool
  | .none | .bool _ | .str _ => true
  | .int i => decide (i.natAbs < 2 ^ 300)
  | .list xs | .tuple xs => okAll xs
  | .dict kvs => kvs.isEmpty
def okAll : List PyData → Bool
  | [] => true
  | x :: xs => okD x && okAll xs
end
mutual
theorem shown_le2 : ∀ d : PyData, okD d = true → d.shown.length ≤ szD d
  | .none, _ => shown_le .none rfl
  | .bool b, _ => shown_le (.bool b) rfl
  | .str x, _ => shown_le (.str x) rfl
  | .int i, h => shown_le (.int i) (by rw [okD] at h; rw [modD]; exact h)
  | .list xs, h => by
    have h2 : okAll xs = true := by rw [okD] at h; exact h
    have b := shownAll_le2 xs h2
    have a := listText_le (PyData.shownAll xs)
    rw [szD, PyData.shown]
    omega
  | .tuple xs, h => by
    have h2 : okAll xs = true := by rw [okD] at h; exact h
    have b := shownAll_le2 xs h2
    have a := tupleText_le (PyData.shownAll xs)
    rw [szD, PyData.shown]
    omega
  | .dict kvs, h => by
    rw [okD] at h
    have e : kvs = [] := List.isEmpty_iff.mp h
    subst e
    rw [szD, PyData.shown, PyData.shownKv]
    exact Nat.le_refl 2
theorem shownAll_le2 : ∀ xs : List PyData, okAll xs = true → pile (PyData.shownAll xs) ≤ szAll xs
  | [], _ => by rw [PyData.shownAll, szAll]; exact Nat.le_refl _
  | x :: xs, h => by
    rw [okAll, Bool.and_eq_true] at h
    have a := shown_le2 x h.1
    have b := shownAll_le2 xs h.2
    rw [szAll, PyData.shownAll]
    show x.shown.length + 2 + pile (PyData.shownAll xs) ≤ _
    omega
end
section
variable {X : Cx} {pins : List (Addr × Obj)} {σ : L2.St} {H : Hp} {s : Shared}
mutual
theorem DV.rk (I : Inv X pins σ H s) : ∀ (d : PyData) (v : V) (u : Value), DV X.K H v d → RelV v u → okD d = true → d.shown.length ≤ sizeLine → ∃ bs, ReadAtMost s.heap d.depth bs ∧ ReprK X.prog X.w bs s.heap d.depth u d.shown
  | .none, _, _, .non, r, _, _ => ⟨[], (fun _ q => by cases q), by rw [PyData.shown, (show _ = Value.none from r)]; exact .of_is ReprIs.none _ _ _⟩
  | .bool b, _, _, .bl _, r, _, _ => ⟨[], (fun _ q => by cases q), by rw [PyData.shown, (show _ = Value.bool b from r)]; exact .of_is (ReprIs.bool b) _ _ _⟩
  | .int i, _, _, .int _, r, h, _ => by
    obtain ⟨t, rfl⟩ := r
    rw [okD] at h
    have := log_of (of_decide_eq_true h)
    exact ⟨[], (fun _ q => by cases q), by rw [PyData.shown]; exact .of_is (ReprIs.int t (by omega)) _ _ _⟩
  | .str x, _, _, .str _, r, _, hz => by
    obtain ⟨t, rfl⟩ := r
    rw [PyData.shown] at hz
    exact ⟨[], (fun _ q => by cases q), by rw [PyData.shown]; exact .of_is (ReprIs.str x t hz) _ _ _⟩
  | .list ds, _, u, .lst h t, r, hok, hz => by
    have r' : u = Value.ref _ := r
    subst r'
    rw [okD] at hok
    rw [PyData.shown] at hz
    obtain ⟨its, rv, ⟨o, n, ho, hc, _, hd⟩, _⟩ := I.list h
    obtain ⟨as, hr⟩ := DVs.reads I ds _ its t rv
    obtain ⟨bs, hb, hk⟩ := DVs.rk I ds _ its t rv hok fun x hx => Nat.le_trans (listText_mem_le hx) hz
    have R := Reads.list ho hc hd hr
    have far := not_mem_of_deeper R (by rw [PyData.depth]; omega) hb
    refine ⟨_, ReadAtMost.cons R (by rw [PyData.depth]; omega) hb, ?_⟩
    rw [PyData.depth, PyData.shown]
    cases its with
    | nil =>
      cases rv
      cases t
      rw [PyData.shownAll, listText_nil]
      exact ReprK.listEmpty ho hc hd
    | cons y l => exact ReprK.list ho hc hd far (by rw [hk.length_eq]; rfl) fun i y e => hk.item i y (by rw [List.getElem?_toArray] at e; exact e)
  | .tuple ds, _, u, .tup h t, r, hok, hz => by
    have r' : u = Value.ref _ := r
    subst r'
    rw [okD] at hok
    rw [PyData.shown] at hz
    obtain ⟨its, rv, ⟨o, ho, hc, n, hd⟩, _⟩ := I.tuple h
    obtain ⟨as, hr⟩ := DVs.reads I ds _ its t rv
    obtain ⟨bs, hb, hk⟩ := DVs.rk I ds _ its t rv hok fun x hx => Nat.le_trans (tupleText_mem_le hx) hz
    have R := Reads.tuple ho hc hd hr
    have far := not_mem_of_deeper R (by rw [PyData.depth]; omega) hb
    refine ⟨_, ReadAtMost.cons R (by rw [PyData.depth]; omega) hb, ?_⟩
    rw [PyData.depth, PyData.shown]
    exact ReprK.tuple ho hc hd far hk
  | .dict _, _, u, .dk0 h, r, _, _ => by
    have r' : u = Value.ref _ := r
    subst r'
    obtain ⟨_, sy, vs, rel, o, es, ep, h1, h2, h3, h4⟩ := I.hok _ _ h
    cases rel
    have e0 : es.toList = [] := by
      have h5 := h4.2.1
      generalize es.toList = l at h5 ⊢
      cases h5
      rfl
    have R : Reads s.heap (.ref _) (.dict []) _ := Reads.dict (as := []) (bs := []) h1 h2.1 h3 (by rw [e0]; exact ReadsAll.nil) (by rw [e0]; exact ReadsAll.nil)
    have hb : ReadAtMost s.heap (PyData.depthKv []) [] := fun _ q => by cases q
    refine ⟨_, ReadAtMost.cons R (by rw [PyData.depth]; omega) hb, ?_⟩
    rw [PyData.depth, PyData.shown, PyData.shownKv]
    exact ReprK.dict h1 h2.1 h3 sy (fun q => by cases q) (by rw [e0]; exact .nil)
theorem DVs.rk (I : Inv X pins σ H s) : ∀ (ds : List PyData) (vs : List V) (us : List Value), DVs X.K H vs ds → Vals vs us → okAll ds = true → (∀ x ∈ PyData.shownAll ds, x.length ≤ sizeLine) → ∃ bs, ReadAtMost s.heap (PyData.depthAll ds) bs ∧ ReprAllK X.prog X.w bs s.heap (PyData.depthAll ds) us (PyData.shownAll ds)
  | [], _, _, .nil, r, _, _ => by
    cases r
    exact ⟨[], (fun _ q => by cases q), by rw [PyData.shownAll]; exact .nil⟩
  | d :: ds, _, _, .cons h1 h2, r, hok, hz => by
    cases r with
    | cons r1 r2 =>
      rw [okAll, Bool.and_eq_true] at hok
      rw [PyData.shownAll] at hz
      obtain ⟨p1, a1, k1⟩ := DV.rk I d _ _ h1 r1 hok.1 (hz _ List.mem_cons_self)
      obtain ⟨p2, a2, k2⟩ := DVs.rk I ds _ _ h2 r2 hok.2 fun x hx => hz x (List.mem_cons_of_mem _ hx)
      rw [PyData.shownAll, PyData.depthAll]
      refine ⟨p1 ++ p2, fun b hm => ?_, .cons ((k1.more fun b hb => List.mem_append_left _ hb).level_le (by omega)) (k2.more_le (fun b hb => List.mem_append_right _ hb) (by omega))⟩
      rcases List.mem_append.mp hm with q | q
      · obtain ⟨e, f, r, g⟩ := a1 b q
        exact ⟨e, f, r, by omega⟩
      · obtain ⟨e, f, r, g⟩ := a2 b q
        exact ⟨e, f, r, by omega⟩
end
/-- repr of any data -/
def rRepr2 (K : PySem.W.Frag) : List V → Hp → VK → Prop := fun xs H Q => ∃ (v : V) (d : PyData), xs = [v] ∧ DV K H v d ∧ okD d = true ∧ d.depth ≤ 40 ∧ szD d ≤ 1000000 ∧ Q (.str d.shown) H
theorem call_repr2 (hg : X.A.guards = some []) (hu : X.A.units + 64 < cLine) : CallR X (.builtin "repr") (rRepr2 X.K) := by
  intro pins s σ H xs us Q I r h
  obtain ⟨v, d, rfl, hd, hok, hdep, hsz, q⟩ := h
  have hl : d.shown.length ≤ sizeLine := by
    have := shown_le2 d hok
    rw [sizeLine_eq]
    omega
  obtain ⟨u, rfl, ru⟩ : ∃ u, us = [u] ∧ RelV v u := by
    cases r with
    | cons r1 r2 => cases r2; exact ⟨_, rfl, r1⟩
  have kk : ∀ b o, s.heap.get? b = some o → s.heap.get? b = some o := fun _ _ e => e
  cases hd with
  | non =>
    have r' : u = Value.none := ru
    subst r'
    rw [PyData.shown] at q
    exact PySem.P.repr_of_none ⟨.str _, H, I.tok _, ⟨_, rfl⟩, q⟩
  | bl b =>
    have r' : u = Value.bool b := ru
    subst r'
    rw [PyData.shown] at q
    exact PySem.P.repr_of_bool ⟨.str _, H, I.tok _, ⟨_, rfl⟩, q⟩
  | int i =>
    obtain ⟨t, rfl⟩ := ru
    rw [okD] at hok
    have := log_of (of_decide_eq_true hok)
    rw [PyData.shown] at q
    exact PySem.P.repr_of_int (by omega) ⟨.str _, H, I.tok _, ⟨_, rfl⟩, q⟩
  | str x =>
    obtain ⟨t, rfl⟩ := ru
    rw [PyData.shown] at q hl
    exact PySem.P.repr_of_str ⟨.str _, H, I.tok _, ⟨_, rfl⟩, q⟩ hl
  | lst h t =>
    rename_i a vs ds
    have r' : u = Value.ref a := ru
    subst r'
    rw [okD] at hok
    rw [PyData.shown] at hl q
    rw [PyData.depth] at hdep
    obtain ⟨its, rv, ⟨o, n, ho, hc, _, hdt⟩, _⟩ := I.list h
    obtain ⟨as, hr⟩ := DVs.reads I ds _ its t rv
    obtain ⟨bs, hb, hk⟩ := DVs.rk I ds _ its t rv hok fun x hx => Nat.le_trans (listText_mem_le hx) hl
    have far := not_mem_of_deeper (Reads.list ho hc hdt hr) (by rw [PyData.depth]; omega) hb
    refine call_repr_slot (by omega) ⟨o, ho, hc⟩ F.slot_list_repr.toG ?_
    cases its with
    | nil =>
      cases rv
      cases t
      rw [PyData.shownAll, listText_nil] at q
      exact call_list_repr_empty ⟨o, ho, hc⟩ ho hdt ⟨_, _, rfl, .str _, H, I.tok _, ⟨_, rfl⟩, q⟩
    | cons y l =>
      exact call_list_reprK ho hc hdt far (by rw [hk.length_eq]; rfl) (fun i y e => hk.item i y (by rw [List.getElem?_toArray] at e; exact e)) hg (fun b _ => Clear.nil b) (by show X.A.units + 1 + _ < cLine; omega) kk
        (fun h' u tk k => ⟨_, _, rfl, .str _, H, I.kept k, ⟨_, rfl⟩, q⟩) hl
  | tup h t =>
    rename_i a vs ds
    have r' : u = Value.ref a := ru
    subst r'
    rw [okD] at hok
    rw [PyData.shown] at hl q
    rw [PyData.depth] at hdep
    obtain ⟨its, rv, ⟨o, ho, hc, n, hdt⟩, _⟩ := I.tuple h
    obtain ⟨as, hr⟩ := DVs.reads I ds _ its t rv
    obtain ⟨bs, hb, hk⟩ := DVs.rk I ds _ its t rv hok fun x hx => Nat.le_trans (tupleText_mem_le hx) hl
    have far := not_mem_of_deeper (Reads.tuple ho hc hdt hr) (by rw [PyData.depth]; omega) hb
    refine call_repr_slot (by omega) ⟨o, ho, hc⟩ F.slot_tuple_repr ?_
    exact call_tuple_reprK ho hc hdt far hk hg (fun b _ => Clear.nil b) (by show X.A.units + 1 + _ < cLine; omega) kk
      (fun h' u tk k => ⟨_, _, rfl, .str _, H, I.kept k, ⟨_, rfl⟩, q⟩) hl
  | dk0 h =>
    rename_i a
    have r' : u = Value.ref a := ru
    subst r'
    rw [PyData.shown, PyData.shownKv] at q
    obtain ⟨_, sy, vs, rel, o, es, ep, h1, h2, h3, h4⟩ := I.hok _ _ h
    cases rel
    have e0 : es.toList = [] := by
      have h5 := h4.2.1
      generalize es.toList = l at h5 ⊢
      cases h5
      rfl
    refine call_repr_slot (by omega) ⟨o, h1, h2.1⟩ F.slot_dict_repr ?_
    exact call_dict_reprK (d := 0) (as := []) h1 h2.1 h3 sy (fun q => by cases q) (by rw [e0]; exact .nil) hg (fun b _ => Clear.nil b) (by show X.A.units + 1 + _ < cLine; omega) kk
      (fun h' u tk k => ⟨_, _, rfl, .str _, H, I.kept k, ⟨_, rfl⟩, q⟩) (by rw [sizeLine_eq]; decide)
end
/-! ### repr of a dict -/
def bits (D : List (PyData × PyData)) : List Str := List.zipWith (fun k v : Str => k ++ ": " ++ v) (PyData.shownAll (D.map Prod.fst)) (PyData.shownAll (D.map Prod.snd))
def textD (D : List (PyData × PyData)) : Str := dictText (bits D)
theorem zip_pile : ∀ ks vs : List Str, pile (List.zipWith (fun k v : Str => k ++ ": " ++ v) ks vs) ≤ pile ks + pile vs
  | [], _ => by simp [pile]
  | _ :: _, [] => by simp [pile]
  | k :: ks, v :: vs => by
    have ih := zip_pile ks vs
    show (k ++ ": " ++ v).length + 2 + pile (List.zipWith _ ks vs) ≤ k.length + 2 + pile ks + (v.length + 2 + pile vs)
    have e : (k ++ (": " : Str) ++ v).length = k.length + 2 + v.length := by
      rw [Str.length_append, Str.length_append]; rfl
    rw [e]
    omega
theorem textD_len {D : List (PyData × PyData)} (h1 : okAll (D.map Prod.fst) = true) (h2 : okAll (D.map Prod.snd) = true) : (textD D).length ≤ szAll (D.map Prod.fst) + szAll (D.map Prod.snd) + 2 := by
  unfold textD dictText
  have e1 := join_le (bits D)
  have e2 := zip_pile (PyData.shownAll (D.map Prod.fst)) (PyData.shownAll (D.map Prod.snd))
  have e3 := shownAll_le2 _ h1
  have e4 := shownAll_le2 _ h2
  rw [Str.length_append, Str.length_append]
  have : ("{" : Str).length = 1 := rfl
  have : ("}" : Str).length = 1 := rfl
  unfold bits at e1 ⊢
  omega
theorem mem_pile {x : Str} : ∀ {l : List Str}, x ∈ l → x.length ≤ pile l
  | y :: r, h => by
    show _ ≤ y.length + 2 + pile r
    rcases List.mem_cons.mp h with e | e
    · rw [e]; omega
    · have := mem_pile e; omega
theorem keys_vals {P : Program} {w : World} : ∀ {es : List DictEntry} {kvs : List (Key × V)} {vs : List (Key × Value)}, KV kvs vs → Pairs (mixKind P w) es vs → Vals (kvs.map fun kv => kV kv.1) (es.map (·.key)) ∧ Vals (kvs.map Prod.snd) (es.map (·.val))
  | _, [], _, r, p => by
    cases r
    cases p
    exact ⟨.nil, .nil⟩
  | _, kv :: kvs, _, r, p => by
    cases r with
    | cons h t =>
      cases p with
      | cons k1 k2 pr =>
        obtain ⟨i1, i2⟩ := keys_vals (P := P) (w := w) t pr
        refine ⟨.cons (relV_key ?_) i1, .cons (show RelV kv.2 _ by have q := h.2; rw [← k2] at q; exact q) i2⟩
        have : keyIs _ _ = true := k1
        rw [h.1]; exact this
def rReprD (K : PySem.W.Frag) : List V → Hp → VK → Prop := fun xs H Q => ∃ (a : Addr) (kvs : List (Key × V)) (D : List (PyData × PyData)), xs = [.ref a] ∧ H a = some (.dK kvs) ∧ DVs K H (kvs.map fun kv => kV kv.1) (D.map Prod.fst) ∧ DVs K H (kvs.map Prod.snd) (D.map Prod.snd) ∧
  okAll (D.map Prod.fst) = true ∧ okAll (D.map Prod.snd) = true ∧ PyData.depthKv D ≤ 40 ∧ szAll (D.map Prod.fst) ≤ 1000000 ∧ szAll (D.map Prod.snd) ≤ 1000000 ∧ Q (.str (textD D)) H
section
variable {X : Cx}
theorem call_reprD (hg : X.A.guards = some []) (hu : X.A.units + 64 < cLine) : CallR X (.builtin "repr") (rReprD X.K) := by
  intro pins s σ H xs us Q I r h
  obtain ⟨a, kvs, D, rfl, hd, hK, hV, o1, o2, hdep, z1, z2, q⟩ := h
  obtain ⟨u, rfl, ru⟩ := vals1 r
  obtain rfl : u = Value.ref a := ru
  obtain ⟨_, sy, vs, rel, o, es, ep, h1, h2, h3, h4⟩ := I.hok _ _ hd
  obtain ⟨rk, rvv⟩ := keys_vals (P := X.prog) (w := X.w) rel h4.2.1
  have l1 := shownAll_le2 _ o1
  have l2 := shownAll_le2 _ o2
  have hline := sizeLine_eq
  obtain ⟨as1, R1⟩ := DVs.reads I _ _ _ hK rk
  obtain ⟨as2, R2⟩ := DVs.reads I _ _ _ hV rvv
  obtain ⟨bs1, b1, k1⟩ := DVs.rk I _ _ _ hK rk o1 fun x hx => by have := mem_pile hx; omega
  obtain ⟨bs2, b2, k2⟩ := DVs.rk I _ _ _ hV rvv o2 fun x hx => by have := mem_pile hx; omega
  have R : Reads s.heap (.ref a) (.dict D) _ := Reads.dict h1 h2.1 h3 R1 R2
  have d1 := PyData.depthAll_keys_le D
  have d2 := PyData.depthAll_vals_le D
  have hb : ReadAtMost s.heap (PyData.depthKv D) (bs1 ++ bs2) := (b1.mono d1).append (b2.mono d2)
  have far := not_mem_of_deeper R (by rw [PyData.depth]; omega) hb
  refine call_repr_slot (by omega) ⟨o, h1, h2.1⟩ F.slot_dict_repr ?_
  refine call_dict_reprK (d := PyData.depthKv D) (as := bs1 ++ bs2) h1 h2.1 h3 sy far (ReprEntriesK.of_two es.toList _ _ (k1.more_le (fun b hb => List.mem_append_left _ hb) d1) (k2.more_le (fun b hb => List.mem_append_right _ hb) d2)) hg (fun b _ => Clear.nil b) (by show X.A.units + 1 + _ < cLine; omega) (fun _ _ e => e)
    (fun h' u tk k => ⟨_, _, rfl, .str _, H, I.kept k, ⟨_, rfl⟩, q⟩) ?_
  have := textD_len o1 o2
  unfold textD bits at this
  omega
end
/-! ### data with dicts in it -/
mutual
inductive DW (K : PySem.W.Frag) (H : Hp) : V → PyData → Prop
  | non : DW K H .non .none
  | bl (b : Bool) : DW K H (.bl b) (.bool b)
  | int (i : Int) : DW K H (.int i) (.int i)
  | str (x : Str) : DW K H (.str x) (.str x)
  | lst {a : Addr} {xs : List V} {ds : List PyData} : SqL K H a xs → DWs K H xs ds → DW K H (.ref a) (.list ds)
  | tup {a : Addr} {xs : List V} {ds : List PyData} : SqT K H a xs → DWs K H xs ds → DW K H (.ref a) (.tuple ds)
  | dic {a : Addr} {kvs : List (Key × V)} {D : List (PyData × PyData)} : H a = some (.dK kvs) → DWs K H (kvs.map fun kv => kV kv.1) (D.map Prod.fst) → DWs K H (kvs.map Prod.snd) (D.map Prod.snd) → DW K H (.ref a) (.dict D)
inductive DWs (K : PySem.W.Frag) (H : Hp) : List V → List PyData → Prop
  | nil : DWs K H [] []
  | cons {v : V} {vs : List V} {d : PyData} {ds : List PyData} : DW K H v d → DWs K H vs ds → DWs K H (v :: vs) (d :: ds)
end
theorem DWs.ints {K : PySem.W.Frag} {H : Hp} : ∀ ks : List Int, DWs K H (ks.map V.int) (ks.map PyData.int)
  | [] => .nil
  | k :: r => .cons (.int k) (DWs.ints r)
mutual
def szW : PyData → Nat
  | .none => 303
  | .bool _ => 303
  | .int _ => 303
  | .str x => PyData.shown (.str x) |>.length
  | .list xs => szWs xs + 2
  | .tuple xs => szWs xs + 3
  | .dict D => szWk D + 2
def szWs : List PyData → Nat
  | [] => 0
  | x :: xs => szW x + 2 + szWs xs
def szWk : List (PyData × PyData) → Nat
  | [] => 0
  | (k, v) :: r => szW k + szW v + 4 + szWk r
end
mutual
/-- ints of moderate size -/
def okW : PyData → Bool
  | .none | .bool _ | .str _ => true
  | .int i => decide (i.natAbs < 2 ^ 300)
  | .list xs | .tuple xs => okWs xs
  | .dict D => okWk D
def okWs : List PyData → Bool
  | [] => true
  | x :: xs => okW x && okWs xs
def okWk : List (PyData × PyData) → Bool
  | [] => true
  | (k, v) :: r => okW k && okW v && okWk r
end
theorem okWk_split : ∀ {D : List (PyData × PyData)}, okWk D = true → okWs (D.map Prod.fst) = true ∧ okWs (D.map Prod.snd) = true
  | [], _ => ⟨by rw [List.map_nil, okWs], by rw [List.map_nil, okWs]⟩
  | (k, v) :: r, h => by
    rw [okWk, Bool.and_eq_true, Bool.and_eq_true] at h
    obtain ⟨i1, i2⟩ := okWk_split h.2
    exact ⟨by rw [List.map_cons, okWs, h.1.1, i1]; rfl, by rw [List.map_cons, okWs, h.1.2, i2]; rfl⟩
mutual
theorem shown_leW : ∀ d : PyData, okW d = true → d.shown.length ≤ szW d
  | .none, _ => by have := shown_le .none rfl; rw [szD] at this; rw [szW]; omega
  | .bool b, _ => by have := shown_le (.bool b) rfl; rw [szD] at this; rw [szW]; omega
  | .int i, h => by
    have := shown_le (.int i) (by rw [okW] at h; rw [modD]; exact h)
    rw [szD] at this; rw [szW]; omega
  | .str x, _ => by rw [szW]; exact Nat.le_refl _
  | .list xs, h => by
    have h2 : okWs xs = true := by rw [okW] at h; exact h
    have b := shownAll_leW xs h2
    have a := listText_le (PyData.shownAll xs)
    rw [szW, PyData.shown]
    omega
  | .tuple xs, h => by
    have h2 : okWs xs = true := by rw [okW] at h; exact h
    have b := shownAll_leW xs h2
    have a := tupleText_le (PyData.shownAll xs)
    rw [szW, PyData.shown]
    omega
  | .dict D, h => by
    have h2 : okWk D = true := by rw [okW] at h; exact h
    have b := shownKv_leW D h2
    have a := join_le (PyData.shownKv D)
    rw [szW, PyData.shown]
    unfold dictText
    rw [Str.length_append, Str.length_append]
    have : ("{" : Str).length = 1 := rfl
    have : ("}" : Str).length = 1 := rfl
    omega
theorem shownAll_leW : ∀ xs : List PyData, okWs xs = true → pile (PyData.shownAll xs) ≤ szWs xs
  | [], _ => by rw [PyData.shownAll, szWs]; exact Nat.le_refl _
  | x :: xs, h => by
    rw [okWs, Bool.and_eq_true] at h
    have a := shown_leW x h.1
    have b := shownAll_leW xs h.2
    rw [szWs, PyData.shownAll]
    show x.shown.length + 2 + pile (PyData.shownAll xs) ≤ _
    omega
theorem shownKv_leW : ∀ D : List (PyData × PyData), okWk D = true → pile (PyData.shownKv D) ≤ szWk D
  | [], _ => by rw [PyData.shownKv, szWk]; exact Nat.le_refl _
  | (k, v) :: r, h => by
    rw [okWk, Bool.and_eq_true, Bool.and_eq_true] at h
    have a := shown_leW k h.1.1
    have b := shown_leW v h.1.2
    have c := shownKv_leW r h.2
    rw [szWk, PyData.shownKv]
    show (k.shown ++ (": " : Str) ++ v.shown).length + 2 + pile (PyData.shownKv r) ≤ _
    rw [Str.length_append, Str.length_append]
    have : (": " : Str).length = 2 := rfl
    omega
end
section
variable {X : Cx} {pins : List (Addr × Obj)} {σ : L2.St} {H : Hp} {s : Shared}
mutual
theorem DW.reads (I : Inv X pins σ H s) : ∀ {v : V} {d : PyData} (_ : DW X.K H v d) (u : Value), RelV v u → ∃ as, Reads s.heap u d as
  | _, _, .non, _, r => ⟨_, (show _ = Value.none from r) ▸ Reads.none⟩
  | _, _, .bl b, _, r => ⟨_, (show _ = Value.bool b from r) ▸ Reads.bool b⟩
  | _, _, .int i, _, r => by
    obtain ⟨t, q⟩ := r
    rw [q]
    exact ⟨_, Reads.int i t⟩
  | _, _, .str x, _, r => by
    obtain ⟨t, q⟩ := r
    rw [q]
    exact ⟨_, Reads.str x t⟩
  | _, _, .lst h t, u, r => by
    have r' : u = Value.ref _ := r
    subst r'
    obtain ⟨its, rv, ⟨o, n, ho, hc, _, hd⟩, _⟩ := I.list h
    obtain ⟨as, hr⟩ := DWs.reads I t its rv
    exact ⟨_, Reads.list ho hc hd hr⟩
  | _, _, .tup h t, u, r => by
    have r' : u = Value.ref _ := r
    subst r'
    obtain ⟨its, rv, ⟨o, ho, hc, n, hd⟩, _⟩ := I.tuple h
    obtain ⟨as, hr⟩ := DWs.reads I t its rv
    exact ⟨_, Reads.tuple ho hc hd hr⟩
  | _, _, .dic h t1 t2, u, r => by
    have r' : u = Value.ref _ := r
    subst r'
    obtain ⟨_, _, vs, rel, o, es, ep, h1, h2, h3, h4⟩ := I.hok _ _ h
    obtain ⟨rk, rvv⟩ := keys_vals (P := X.prog) (w := X.w) rel h4.2.1
    obtain ⟨as1, R1⟩ := DWs.reads I t1 _ rk
    obtain ⟨as2, R2⟩ := DWs.reads I t2 _ rvv
    exact ⟨_, Reads.dict h1 h2.1 h3 R1 R2⟩
theorem DWs.reads (I : Inv X pins σ H s) : ∀ {vs : List V} {ds : List PyData} (_ : DWs X.K H vs ds) (us : List Value), Vals vs us → ∃ as, ReadsAll s.heap us ds as
  | _, _, .nil, _, r => by
    cases r
    exact ⟨_, ReadsAll.nil⟩
  | _, _, .cons h1 h2, _, r => by
    cases r with
    | cons r1 r2 =>
      obtain ⟨as, q1⟩ := DW.reads I h1 _ r1
      obtain ⟨bs, q2⟩ := DWs.reads I h2 _ r2
      exact ⟨_, ReadsAll.cons q1 q2⟩
end
mutual
theorem DW.rk (I : Inv X pins σ H s) : ∀ {v : V} {d : PyData} (_ : DW X.K H v d) (u : Value), RelV v u → okW d = true → d.shown.length ≤ sizeLine → ∃ bs, ReadAtMost s.heap d.depth bs ∧ ReprK X.prog X.w bs s.heap d.depth u d.shown
  | _, _, .non, _, r, _, _ => ⟨[], (fun _ q => by cases q), by rw [PyData.shown, (show _ = Value.none from r)]; exact .of_is ReprIs.none _ _ _⟩
  | _, _, .bl b, _, r, _, _ => ⟨[], (fun _ q => by cases q), by rw [PyData.shown, (show _ = Value.bool b from r)]; exact .of_is (ReprIs.bool b) _ _ _⟩
  | _, _, .int i, _, r, h, _ => by
    obtain ⟨t, rfl⟩ := r
    rw [okW] at h
    have := log_of (of_decide_eq_true h)
    exact ⟨[], (fun _ q => by cases q), by rw [PyData.shown]; exact .of_is (ReprIs.int t (by omega)) _ _ _⟩
  | _, _, .str x, _, r, _, hz => by
    obtain ⟨t, rfl⟩ := r
    rw [PyData.shown] at hz
    exact ⟨[], (fun _ q => by cases q), by rw [PyData.shown]; exact .of_is (ReprIs.str x t hz) _ _ _⟩
  | _, _, .lst h t, u, r, hok, hz => by
    have r' : u = Value.ref _ := r
    subst r'
    rw [okW] at hok
    rw [PyData.shown] at hz
    obtain ⟨its, rv, ⟨o, n, ho, hc, _, hd⟩, _⟩ := I.list h
    obtain ⟨as, hr⟩ := DWs.reads I t its rv
    obtain ⟨bs, hb, hk⟩ := DWs.rk I t its rv hok fun x hx => Nat.le_trans (listText_mem_le hx) hz
    have R := Reads.list ho hc hd hr
    have far := not_mem_of_deeper R (by rw [PyData.depth]; omega) hb
    refine ⟨_, ReadAtMost.cons R (by rw [PyData.depth]; omega) hb, ?_⟩
    rw [PyData.depth, PyData.shown]
    cases its with
    | nil =>
      cases rv
      cases t
      rw [PyData.shownAll, listText_nil]
      exact ReprK.listEmpty ho hc hd
    | cons y l => exact ReprK.list ho hc hd far (by rw [hk.length_eq]; rfl) fun i y e => hk.item i y (by rw [List.getElem?_toArray] at e; exact e)
  | _, _, .tup h t, u, r, hok, hz => by
    have r' : u = Value.ref _ := r
    subst r'
    rw [okW] at hok
    rw [PyData.shown] at hz
    obtain ⟨its, rv, ⟨o, ho, hc, n, hd⟩, _⟩ := I.tuple h
    obtain ⟨as, hr⟩ := DWs.reads I t its rv
    obtain ⟨bs, hb, hk⟩ := DWs.rk I t its rv hok fun x hx => Nat.le_trans (tupleText_mem_le hx) hz
    have R := Reads.tuple ho hc hd hr
    have far := not_mem_of_deeper R (by rw [PyData.depth]; omega) hb
    refine ⟨_, ReadAtMost.cons R (by rw [PyData.depth]; omega) hb, ?_⟩
    rw [PyData.depth, PyData.shown]
    exact ReprK.tuple ho hc hd far hk
  | _, _, .dic (D := D) h t1 t2, u, r, hok, hz => by
    have r' : u = Value.ref _ := r
    subst r'
    rw [okW] at hok
    obtain ⟨o1, o2⟩ := okWk_split hok
    rw [PyData.shown] at hz
    obtain ⟨_, sy, vs, rel, o, es, ep, h1, h2, h3, h4⟩ := I.hok _ _ h
    obtain ⟨rk, rvv⟩ := keys_vals (P := X.prog) (w := X.w) rel h4.2.1
    obtain ⟨as1, R1⟩ := DWs.reads I t1 _ rk
    obtain ⟨as2, R2⟩ := DWs.reads I t2 _ rvv
    obtain ⟨bs1, b1, k1⟩ := DWs.rk I t1 _ rk o1 fun t ht => let ⟨p, hp, hl⟩ := PyData.shownKv_key_le D t ht; Nat.le_trans hl (Nat.le_trans (dictText_mem_le hp) hz)
    obtain ⟨bs2, b2, k2⟩ := DWs.rk I t2 _ rvv o2 fun t ht => let ⟨p, hp, hl⟩ := PyData.shownKv_val_le D t ht; Nat.le_trans hl (Nat.le_trans (dictText_mem_le hp) hz)
    have R : Reads s.heap (.ref _) (.dict D) _ := Reads.dict h1 h2.1 h3 R1 R2
    have hb : ReadAtMost s.heap (PyData.depthKv D) (bs1 ++ bs2) := (b1.mono (PyData.depthAll_keys_le D)).append (b2.mono (PyData.depthAll_vals_le D))
    have far := not_mem_of_deeper R (by rw [PyData.depth]; omega) hb
    refine ⟨_, ReadAtMost.cons R (by rw [PyData.depth]; omega) hb, ?_⟩
    rw [PyData.depth, PyData.shown, PyData.shownKv_eq]
    exact ReprK.dict h1 h2.1 h3 sy far (ReprEntriesK.of_two es.toList _ _ (k1.more_le (fun b hb => List.mem_append_left _ hb) (PyData.depthAll_keys_le D)) (k2.more_le (fun b hb => List.mem_append_right _ hb) (PyData.depthAll_vals_le D)))
theorem DWs.rk (I : Inv X pins σ H s) : ∀ {vs : List V} {ds : List PyData} (_ : DWs X.K H vs ds) (us : List Value), Vals vs us → okWs ds = true → (∀ x ∈ PyData.shownAll ds, x.length ≤ sizeLine) → ∃ bs, ReadAtMost s.heap (PyData.depthAll ds) bs ∧ ReprAllK X.prog X.w bs s.heap (PyData.depthAll ds) us (PyData.shownAll ds)
  | _, _, .nil, _, r, _, _ => by
    cases r
    exact ⟨[], (fun _ q => by cases q), by rw [PyData.shownAll]; exact .nil⟩
  | _, _, .cons h1 h2, _, r, hok, hz => by
    cases r with
    | cons r1 r2 =>
      rw [okWs, Bool.and_eq_true] at hok
      rw [PyData.shownAll] at hz
      obtain ⟨p1, a1, k1⟩ := DW.rk I h1 _ r1 hok.1 (hz _ List.mem_cons_self)
      obtain ⟨p2, a2, k2⟩ := DWs.rk I h2 _ r2 hok.2 fun x hx => hz x (List.mem_cons_of_mem _ hx)
      rw [PyData.shownAll, PyData.depthAll]
      refine ⟨p1 ++ p2, fun b hm => ?_, .cons ((k1.more fun b hb => List.mem_append_left _ hb).level_le (by omega)) (k2.more_le (fun b hb => List.mem_append_right _ hb) (by omega))⟩
      rcases List.mem_append.mp hm with q | q
      · obtain ⟨e, f, r, g⟩ := a1 b q
        exact ⟨e, f, r, by omega⟩
      · obtain ⟨e, f, r, g⟩ := a2 b q
        exact ⟨e, f, r, by omega⟩
end
end
/-- repr of a list, a tuple or a dict of data -/
def rReprW (K : PySem.W.Frag) : List V → Hp → VK → Prop := fun xs H Q => ∃ (a : Addr) (d : PyData), xs = [.ref a] ∧ DW K H (.ref a) d ∧ okW d = true ∧ d.depth ≤ 40 ∧ szW d ≤ 1000000 ∧ Q (.str d.shown) H
section
variable {X : Cx}
theorem call_reprW (hg : X.A.guards = some []) (hu : X.A.units + 64 < cLine) : CallR X (.builtin "repr") (rReprW X.K) := by
  intro pins s σ H xs us Q I r h
  obtain ⟨a, d, rfl, hd, hok, hdep, hsz, q⟩ := h
  have hl : d.shown.length ≤ sizeLine := by
    have := shown_leW d hok
    rw [sizeLine_eq]
    omega
  obtain ⟨u, rfl, ru⟩ := vals1 r
  obtain rfl : u = Value.ref a := ru
  have kk : ∀ b o, s.heap.get? b = some o → s.heap.get? b = some o := fun _ _ e => e
  cases hd with
  | lst h t =>
    rename_i vs ds
    rw [okW] at hok
    rw [PyData.shown] at hl q
    rw [PyData.depth] at hdep
    obtain ⟨its, rv, ⟨o, n, ho, hc, _, hdt⟩, _⟩ := I.list h
    obtain ⟨as, hr⟩ := DWs.reads I t its rv
    obtain ⟨bs, hb, hk⟩ := DWs.rk I t its rv hok fun x hx => Nat.le_trans (listText_mem_le hx) hl
    have far := not_mem_of_deeper (Reads.list ho hc hdt hr) (by rw [PyData.depth]; omega) hb
    refine call_repr_slot (by omega) ⟨o, ho, hc⟩ F.slot_list_repr.toG ?_
    cases its with
    | nil =>
      cases rv
      cases t
      rw [PyData.shownAll, listText_nil] at q
      exact call_list_repr_empty ⟨o, ho, hc⟩ ho hdt ⟨_, _, rfl, .str _, H, I.tok _, ⟨_, rfl⟩, q⟩
    | cons y l =>
      exact call_list_reprK ho hc hdt far (by rw [hk.length_eq]; rfl) (fun i y e => hk.item i y (by rw [List.getElem?_toArray] at e; exact e)) hg (fun b _ => Clear.nil b) (by show X.A.units + 1 + _ < cLine; omega) kk
        (fun h' u tk k => ⟨_, _, rfl, .str _, H, I.kept k, ⟨_, rfl⟩, q⟩) hl
  | tup h t =>
    rename_i vs ds
    rw [okW] at hok
    rw [PyData.shown] at hl q
    rw [PyData.depth] at hdep
    obtain ⟨its, rv, ⟨o, ho, hc, n, hdt⟩, _⟩ := I.tuple h
    obtain ⟨as, hr⟩ := DWs.reads I t its rv
    obtain ⟨bs, hb, hk⟩ := DWs.rk I t its rv hok fun x hx => Nat.le_trans (tupleText_mem_le hx) hl
    have far := not_mem_of_deeper (Reads.tuple ho hc hdt hr) (by rw [PyData.depth]; omega) hb
    refine call_repr_slot (by omega) ⟨o, ho, hc⟩ F.slot_tuple_repr ?_
    exact call_tuple_reprK ho hc hdt far hk hg (fun b _ => Clear.nil b) (by show X.A.units + 1 + _ < cLine; omega) kk
      (fun h' u tk k => ⟨_, _, rfl, .str _, H, I.kept k, ⟨_, rfl⟩, q⟩) hl
  | dic h t1 t2 =>
    rename_i kvs D
    rw [okW] at hok
    obtain ⟨o1, o2⟩ := okWk_split hok
    rw [PyData.shown] at hl q
    rw [PyData.depth] at hdep
    obtain ⟨_, sy, vs, rel, o, es, ep, h1, h2, h3, h4⟩ := I.hok _ _ h
    obtain ⟨rk, rvv⟩ := keys_vals (P := X.prog) (w := X.w) rel h4.2.1
    obtain ⟨as1, R1⟩ := DWs.reads I t1 _ rk
    obtain ⟨as2, R2⟩ := DWs.reads I t2 _ rvv
    obtain ⟨bs1, b1, k1⟩ := DWs.rk I t1 _ rk o1 fun t ht => let ⟨p, hp, hl2⟩ := PyData.shownKv_key_le D t ht; Nat.le_trans hl2 (Nat.le_trans (dictText_mem_le hp) hl)
    obtain ⟨bs2, b2, k2⟩ := DWs.rk I t2 _ rvv o2 fun t ht => let ⟨p, hp, hl2⟩ := PyData.shownKv_val_le D t ht; Nat.le_trans hl2 (Nat.le_trans (dictText_mem_le hp) hl)
    have R : Reads s.heap (.ref a) (.dict D) _ := Reads.dict h1 h2.1 h3 R1 R2
    have hb : ReadAtMost s.heap (PyData.depthKv D) (bs1 ++ bs2) := (b1.mono (PyData.depthAll_keys_le D)).append (b2.mono (PyData.depthAll_vals_le D))
    have far := not_mem_of_deeper R (by rw [PyData.depth]; omega) hb
    rw [PyData.shownKv_eq] at hl q
    refine call_repr_slot (by omega) ⟨o, h1, h2.1⟩ F.slot_dict_repr ?_
    exact call_dict_reprK (d := PyData.depthKv D) (as := bs1 ++ bs2) h1 h2.1 h3 sy far (ReprEntriesK.of_two es.toList _ _ (k1.more_le (fun b hb => List.mem_append_left _ hb) (PyData.depthAll_keys_le D)) (k2.more_le (fun b hb => List.mem_append_right _ hb) (PyData.depthAll_vals_le D))) hg (fun b _ => Clear.nil b) (by show X.A.units + 1 + _ < cLine; omega) kk
      (fun h' u tk k => ⟨_, _, rfl, .str _, H, I.kept k, ⟨_, rfl⟩, q⟩) hl
end
/-! ### pins as a dict -/
theorem an_mem {ps : List (Int × Int)} {x a : Int} (h : anOf ps x = some a) : (x, a) ∈ ps := by
  unfold anOf at h
  cases q : ps.find? (fun e => decide (e.1 = x)) with
  | none => rw [q] at h; cases h
  | some e =>
    rw [q] at h
    have h2 := List.find?_some q
    have h1 : e.2 = a := Option.some.inj h
    have h3 : e.1 = x := of_decide_eq_true h2
    rw [← h1, ← h3]
    exact List.mem_of_find?_eq_some q
theorem pin_put {ps : List (Int × Int)} {x a : Int} (h : x ∉ ps.map Prod.fst) : putK (pinK ps) (.inl x : Key) (.int a) = pinK (ps ++ [(x, a)]) := by
  have hv : valV (pinK ps) (.inl x : Key) = none := by
    rw [val_pin]
    cases q : anOf ps x with
    | none => rfl
    | some b => exact absurd (List.mem_map.mpr ⟨_, an_mem q, rfl⟩) h
  rw [putK_new _ hv]
  unfold pinK
  rw [List.map_append]; rfl
theorem pin_len (ps : List (Int × Int)) : (pinK ps).length = ps.length := by unfold pinK; rw [List.length_map]
theorem cut_in {xs : List V} {lo hi : Option Int} {v : V} (h : v ∈ cutV xs lo hi) : v ∈ xs := by
  unfold cutV at h
  exact List.mem_of_mem_drop (List.mem_of_mem_take h)
/-! ### sorted, < of data -/
theorem each_vals {β : Type} {val : β → V} : ∀ {bs : List β} {us : List Value}, Vals (bs.map val) us → PySem.W.EachIs (fun u b => RelV (val b) u) us bs
  | [], _, .nil => .nil
  | _ :: _, _, .cons r t => .cons r (each_vals t)
theorem vals_each {β : Type} {val : β → V} : ∀ {us : List Value} {bs : List β}, PySem.W.EachIs (fun u b => RelV (val b) u) us bs → Vals (bs.map val) us
  | _, _, .nil => .nil
  | _, _, .cons r t => .cons r (vals_each t)
/-- sorted(xs) of data that can be compared -/
def rSortD (K : PySem.W.Frag) : List V → Hp → VK → Prop := fun xs H Q => ∃ (a : Addr) (β : Type) (bs : List β) (enc : β → PyData) (val : β → V), xs = [.ref a] ∧ SqL K H a (bs.map val) ∧ (∀ b ∈ bs, DV K H (val b) (enc b)) ∧ PySem.W.AllAlike (bs.map enc) ∧ PySem.W.Sortable (bs.map enc) ∧ (∀ b ∈ bs, (enc b).depth ≤ 40) ∧
  ∀ p, H p = none → Q (.ref p) (upd H p (.lst ((bs.mergeSort (PySem.W.dataLe false enc)).map val)))
section
variable {X : Cx}
theorem each_reads {β : Type} {enc : β → PyData} {val : β → V} {pins : List (Addr × Obj)} {σ : L2.St} {H : Hp} {s : Shared} (I : L2.Inv X pins σ H s) : ∀ {us : List Value} {bs : List β}, PySem.W.EachIs (fun u b => RelV (val b) u) us bs → (∀ b ∈ bs, DV X.K H (val b) (enc b)) → PySem.W.EachIs (fun u b => ∃ as, Reads s.heap u (enc b) as) us bs
  | _, _, .nil, _ => .nil
  | _, _, .cons r t, h => .cons (DV.reads I _ _ _ (h _ List.mem_cons_self) r) (each_reads I t fun b hb => h b (List.mem_cons_of_mem _ hb))
theorem call_sortD (hu : X.A.units + 64 < cLine) : CallR X (.builtin "sorted") (rSortD X.K) := by
  intro pins s σ H xs us Q I r h
  obtain ⟨a, β, bs, enc, val, rfl, hS, hd, hal, hk, hdep, q⟩ := h
  obtain ⟨its, rv, hl, hz⟩ := I.list hS
  obtain ⟨u, rfl, ru⟩ := vals1 r
  obtain rfl : u = Value.ref a := ru
  have e := each_vals rv
  rw [List.length_map] at hz
  refine PySem.W.sorted_data (R := fun u b => RelV (val b) u) (vs := its) hl.isList e (each_reads I e hd) hal hk hz (fun b hb => by have := hdep b hb; omega) fun out hlen hout => ?_
  obtain ⟨n, hn⟩ := sortedAll_at s.heap its out.toArray
  have hle : s.heap.objs.size ≤ s.heap.objs.size + 1 := Nat.le_succ _
  refine ⟨.ref (s.heap.objs.size + 1), upd H (s.heap.objs.size + 1) (.lst ((bs.mergeSort (PySem.W.dataLe false enc)).map val)), I.laid (t' := s.toks) (fun b o e => sortedAll_old e) hle ⟨?_, out, n, vals_each hout, hn⟩, rfl, q _ (I.hok.fresh hle)⟩
  rw [List.length_map, List.length_mergeSort]
  exact hz
/-- x < y of data that can be compared -/
def rLtD (K : PySem.W.Frag) : R2 := fun x y H Q => ∃ dx dy : PyData, DV K H x dx ∧ DV K H y dy ∧ PySem.W.alike dx dy = true ∧ dx ≠ .none ∧ dx.depth ≤ 40 ∧ Q (.bl (PySem.W.dataLt dx dy)) H
theorem op_ltD (hu : X.A.units + 64 < cLine) : OpR X (compareOp .Lt) (rLtD X.K) := by
  intro pins s σ H x y v u Q I rx ry h
  obtain ⟨dx, dy, hx, hy, ha, hn, hdp, q⟩ := h
  obtain ⟨as, r1⟩ := DV.reads I _ _ _ hx rx
  obtain ⟨bs, r2⟩ := DV.reads I _ _ _ hy ry
  exact PySem.W.lt_data r1 r2 ha hn (by omega) ⟨.bl _, H, I, rfl, q⟩
end
/-! ### the places of the anchors -/
theorem idx_hit {R : List Int} {x : Int} (h : x ∈ R) : R[R.idxOf x]? = some x := by
  rw [List.getElem?_eq_getElem (List.idxOf_lt_length_of_mem h)]
  exact congrArg some (List.getElem_idxOf _)
theorem idx_miss : ∀ {R : List Int} {x z : Int} {m : Nat}, m < R.idxOf x → R[m]? = some z → z ≠ x
  | [], x, z, m, hm, hz => by simp at hz
  | y :: R, x, z, m, hm, hz => by
    by_cases e : y = x
    · subst e
      simp at hm
    · have hb : (y == x) = false := by simpa using e
      rw [List.idxOf_cons, hb, cond_false] at hm
      cases m with
      | zero => rw [← Option.some.inj hz]; exact e
      | succ m => exact idx_miss (R := R) (by omega) hz
theorem ix1 {ids : List Int} {x : Int} (hx : x ∈ ids) : (ids.map V.int)[ids.idxOf x]? = some (.int x) := by rw [List.getElem?_map, idx_hit hx]; rfl
theorem ix2 (x : Int) : eqV (.int x) (.int x) = true := by rw [eqV_int]; exact decide_eq_true rfl
theorem ix3 {ids : List Int} {x : Int} (m : Nat) (z : V) (hm : m < ids.idxOf x) (hz : (ids.map V.int)[m]? = some z) : eqV z (.int x) = false := by
  obtain ⟨z, hz2, rfl⟩ := int_at hz
  rw [eqV_int]
  exact decide_eq_false (idx_miss hm hz2)
theorem alike_int (x y : Int) : PySem.W.alike (.int x) (.int y) = true := by rw [PySem.W.alike]
theorem DVs.intsT {K : PySem.W.Frag} {H : Hp} : ∀ ks : List Int, DVs K H (ks.map V.int) (ks.map PyData.int)
  | [] => .nil
  | k :: r => .cons (.int k) (DVs.intsT r)
/-! ### dict(zip(xs, ys)) -/
inductive Zipped : List V → List V → List (Key × V) → Prop
  | nil1 {ys : List V} : Zipped [] ys []
  | nil2 {xs : List V} : Zipped xs [] []
  | cons {k : Key} {v : V} {xs ys : List V} {kvs : List (Key × V)} : Zipped xs ys kvs → Zipped (kV k :: xs) (v :: ys) ((k, v) :: kvs)
theorem zip_prs {P : Program} {w : World} {xs ys : List V} {kvs : List (Key × V)} (h : Zipped xs ys kvs) : ∀ {us ws : List Value}, Vals xs us → Vals ys ws →
    ∃ prs : List (Key × Value), KV kvs prs ∧ prs.length = min us.length ws.length ∧ ∀ (i : Nat) (key v : Value), us[i]? = some key → ws[i]? = some v → ∃ k, prs[i]? = some (k, v) ∧ (mixKind P w).is k key = true := by
  induction h with
  | nil1 =>
    intro us ws r1 r2
    cases r1
    exact ⟨[], .nil, by simp, fun i key v e _ => by simp at e⟩
  | nil2 =>
    intro us ws r1 r2
    cases r2
    exact ⟨[], .nil, by simp, fun i key v _ e => by simp at e⟩
  | cons t ih =>
    intro us ws r1 r2
    cases r1 with
    | cons a1 a2 =>
      cases r2 with
      | cons b1 b2 =>
        obtain ⟨prs, i1, i2, i3⟩ := ih a2 b2
        rename_i k0 v0 _ _ _ _ _ w0 _
        refine ⟨(k0, w0) :: prs, .cons ⟨rfl, b1⟩ i1, by rw [List.length_cons, List.length_cons, List.length_cons, i2]; omega, fun i key v e1 e2 => ?_⟩
        cases i with
        | zero =>
          obtain rfl := Option.some.inj e1
          obtain rfl := Option.some.inj e2
          exact ⟨_, rfl, kV_is a1⟩
        | succ i => exact i3 i key v e1 e2
theorem vals_len : ∀ {xs : List V} {us : List Value}, Vals xs us → xs.length = us.length
  | _, _, .nil => rfl
  | _, _, .cons _ t => congrArg Nat.succ (vals_len t)
def tDZip (K : PySem.W.Frag) (ta : TA) : TE := fun σ H Q => ta σ H fun vs H1 => ∃ (a b : Addr) (xs ys : List V) (kvs : List (Key × V)), vs = [.ref a, .ref b] ∧ SqL K H1 a xs ∧ SqL K H1 b ys ∧ Zipped xs ys kvs ∧
  ∀ p, H1 p = none → Q (.ref p) (upd H1 p (.dK (mergeK [] kvs)))
section
variable {X : Cx}
theorem pe_dictZip {e e2 : Expr} {ta : TA} {p p2 pos pos2 : Pos} (hc : X.calm = true) (hg : Gl X "dict") (hm : X.mg "dict" = none) (hg2 : Gl X "zip") (hm2 : X.mg "zip" = none) (ha : PA X [e, e2] ta)
    (hs0 : starEach [.Call (.Name "zip" p2) [e, e2] [] pos2] X.env = [(false, eval (.Call (.Name "zip" p2) [e, e2] [] pos2) X.env)] := by rfl)
    (hs : starEach [e, e2] X.env = (false, eval e X.env) :: starEach [e2] X.env := by rfl) (hpl : (backTo pos2 (starEach [e2] X.env)).any (·.1) = false := by rfl) :
    PE X (.Call (.Name "dict" p) [.Call (.Name "zip" p2) [e, e2] [] pos2] [] pos) (tDZip X.K ta) := by
  refine ⟨fun pins s σ H Q I h => ?_⟩
  refine wpAny_Call_Name_kw (ld_blt I hg hm boot_dict ?_)
  refine PyProof.Rows.callWith_type1 ?_ hs0 rfl
  rw [hs0]
  show wpAny _ _ (spliced [(false, eval (.Call (.Name "zip" p2) [e, e2] [] pos2) X.env)]) _ _ s
  refine Calls.spliced_cons ?_
  refine wpAny_Call_Name_kw (ld_blt I hg2 hm2 PyProof.Rows.boot_zip (PyProof.Rows.callWith_type1 (thn (ha.run pos2 pins s σ H _ I h) fun us s1 ⟨vs, H1, I1, r1, q1⟩ => ?_) hs hpl))
  obtain ⟨a, b, xs, ys, kvs, ex, hqx, hqy, hz0, q⟩ := q1
  subst ex
  obtain ⟨u1, u2, rfl, ra, rb⟩ := vals2 r1
  obtain rfl : u1 = Value.ref a := ra
  obtain rfl : u2 = Value.ref b := rb
  obtain ⟨its, rv, p1, sz1⟩ := I1.list hqx
  obtain ⟨its2, rv2, p3, sz2⟩ := I1.list hqy
  have la : a < s1.heap.objs.size := p1.lt
  have lb : b < s1.heap.objs.size := p3.lt
  refine call_zip_2 p1.isList p3.isList fun h' hz hTI hTO h1 h2 hsz hk => Calls.spliced_nil ?_
  obtain ⟨prs, k1, k2, k3⟩ := zip_prs (P := X.prog) (w := X.w) hz0 rv rv2
  have hl1 := Heap.IsList.at p1.isList (h' := h') fun o e => hk _ o e
  have hl2 := Heap.IsList.at p3.isList (h' := h') fun o e => hk _ o e
  refine PySem.call_dict_pairs (knd := mixKind X.prog X.w) (kvs := prs) (PairArg.zip (s1.heap.objs.size + 4) (s1.heap.objs.size + 2) (s1.heap.objs.size + 3) s1.heap.objs.size (s1.heap.objs.size + 1) a b (PySem.W.ktu_apart s1.heap.objs.size a b la lb) its.toArray its2.toArray) (I1.ok.hd hc)
    ⟨hz, hTI, ⟨_, _, hTO⟩, h1, h2, hl1, hl2⟩ ⟨by rw [k2]; simp, fun i key v hr => k3 i key v (by simpa using hr.1) (by simpa using hr.2)⟩ (by have e1 := vals_len rv; rw [List.size_toArray, List.size_toArray, ← e1]; exact Nat.le_trans (Nat.min_le_left _ _) sz1) fun h3 tk hd' hk3 => ?_
  have hle : s1.heap.objs.size ≤ h'.objs.size := by rw [hsz]; exact Nat.le_add_right _ _
  have hm : (h'.objs.size == sysModules) = false := beq_eq_false_iff_ne.mpr (Nat.ne_of_gt (Nat.lt_of_lt_of_le I1.big hle))
  have hlen : (mergeK [] kvs).length ≤ sizeLine := by
    refine Nat.le_trans (length_mergeK kvs []) ?_
    rw [List.length_nil, Nat.zero_add, k1.length, k2]
    have e1 := vals_len rv
    rw [← e1]
    exact Nat.le_trans (Nat.min_le_left _ _) sz1
  have kk : ∀ c o, s1.heap.get? c = some o → h3.get? c = some o := fun c o e => by
    have hlt := Heap.lt_size e
    refine hk3 c o ?_ (hk _ _ e)
    simp only [List.mem_cons, List.not_mem_nil, or_false, not_or]
    exact ⟨Nat.ne_of_lt (Nat.lt_of_lt_of_le hlt (Nat.le_add_right _ _)), Nat.ne_of_lt (Nat.lt_of_lt_of_le hlt (Nat.le_add_right _ _)), Nat.ne_of_lt hlt, Nat.ne_of_lt (Nat.lt_of_lt_of_le hlt (Nat.le_add_right _ _))⟩
  exact ⟨.ref h'.objs.size, upd H1 h'.objs.size (.dK (mergeK [] kvs)), I1.laid (t' := tk) kk hle (show ObjOk X.prog X.w _ _ _ (.dK (mergeK [] kvs)) from ⟨hlen, hm, merged [] prs, KV.merge k1 .nil, hd'⟩), rfl, q _ (I1.hok.fresh hle)⟩
end
/-! ### dicts of ids -/
theorem idx_of_at {l : List Int} (nd : l.Nodup) {i : Nat} {x : Int} (h : l[i]? = some x) : l.idxOf x = i := by
  obtain ⟨h1, h2⟩ := List.getElem?_eq_some_iff.mp h
  rw [← h2]
  exact nd.idxOf_getElem i h1
theorem an_of : ∀ {ps : List (Int × Int)}, (ps.map Prod.fst).Nodup → ∀ e ∈ ps, anOf ps e.1 = some e.2
  | [], _, e, h => by cases h
  | f :: ps, nd, e, h => by
    obtain ⟨n1, n2⟩ := List.nodup_cons.mp nd
    rcases List.mem_cons.mp h with q | q
    · subst q
      unfold anOf
      rw [List.find?_cons_of_pos (by exact decide_eq_true rfl)]
      rfl
    · have hne : ¬ f.1 = e.1 := fun z => n1 (by rw [z]; exact List.mem_map.mpr ⟨e, q, rfl⟩)
      have ih := an_of n2 e q
      unfold anOf at ih ⊢
      rw [List.find?_cons_of_neg (by intro z; exact hne (of_decide_eq_true z))]
      exact ih
theorem merge_freshP : ∀ (more acc : List (Key × V)), ((acc ++ more).map Prod.fst).Nodup → mergeK acc more = acc ++ more
  | [], acc, _ => by rw [List.append_nil]; rfl
  | p :: r, acc, h => by
    have hp : putK acc p.1 p.2 = acc ++ [p] := by
      unfold putK
      rw [if_neg]
      intro z
      obtain ⟨q, hq, e⟩ := List.any_eq_true.mp z
      have e := of_decide_eq_true e
      rw [List.map_append, List.map_cons] at h
      have := (List.nodup_append.mp h).2.2 q.1 (List.mem_map.mpr ⟨q, hq, rfl⟩) p.1 List.mem_cons_self
      exact this e
    show mergeK (putK acc p.1 p.2) r = _
    rw [hp, merge_freshP r (acc ++ [p]) (by rw [List.append_assoc]; exact h), List.append_assoc]
    rfl
/-! ### as data -/
def pinD (ps : List (Int × Int)) : List (PyData × PyData) := ps.map fun e => (.int e.1, .int e.2)
theorem pin_dw {K : PySem.W.Frag} {H : Hp} {d : Addr} {ps : List (Int × Int)} (h : H d = some (.dK (pinK ps))) : DW K H (.ref d) (.dict (pinD ps)) := by
  refine .dic h ?_ ?_
  · have e1 : (pinK ps).map (fun kv => kV kv.1) = (ps.map Prod.fst).map V.int := by unfold pinK; rw [List.map_map, List.map_map]; rfl
    have e2 : (pinD ps).map Prod.fst = (ps.map Prod.fst).map PyData.int := by unfold pinD; rw [List.map_map, List.map_map]; rfl
    rw [e1, e2]
    exact DWs.ints _
  · have e1 : (pinK ps).map Prod.snd = (ps.map Prod.snd).map V.int := by unfold pinK; rw [List.map_map, List.map_map]; rfl
    have e2 : (pinD ps).map Prod.snd = (ps.map Prod.snd).map PyData.int := by unfold pinD; rw [List.map_map, List.map_map]; rfl
    rw [e1, e2]
    exact DWs.ints _
theorem ints_okW : ∀ xs : List Int, (∀ z ∈ xs, 0 ≤ z ∧ z ≤ 1000000) → okWs (xs.map .int) = true ∧ szWs (xs.map .int) = xs.length * 305
  | [], _ => ⟨by rw [List.map_nil, okWs], by rw [List.map_nil, szWs]; rfl⟩
  | x :: r, h => by
    obtain ⟨i1, i2⟩ := ints_okW r fun z hz => h z (List.mem_cons_of_mem _ hz)
    have hx := h x List.mem_cons_self
    refine ⟨?_, ?_⟩
    · rw [List.map_cons, okWs, okW, i1, decide_eq_true (small_abs (by omega) (by omega))]; rfl
    · rw [List.map_cons, szWs, szW, i2, List.length_cons]; omega
theorem pins_okW : ∀ ps : List (Int × Int), (∀ e ∈ ps, (0 ≤ e.1 ∧ e.1 ≤ 1000000) ∧ 0 ≤ e.2 ∧ e.2 ≤ 1000000) → okWk (pinD ps) = true ∧ szWk (pinD ps) = ps.length * 610 ∧ PyData.depthKv (pinD ps) = 0
  | [], _ => ⟨by rw [pinD, List.map_nil, okWk], by rw [pinD, List.map_nil, szWk]; rfl, by rw [pinD, List.map_nil, PyData.depthKv]⟩
  | e :: r, h => by
    obtain ⟨i1, i2, i3⟩ := pins_okW r fun z hz => h z (List.mem_cons_of_mem _ hz)
    obtain ⟨h1, h2⟩ := h e List.mem_cons_self
    have eD : pinD (e :: r) = (.int e.1, .int e.2) :: pinD r := rfl
    rw [eD]
    refine ⟨?_, ?_, ?_⟩
    · rw [okWk, okW, okW, i1, decide_eq_true (small_abs (by omega) (by omega)), decide_eq_true (small_abs (by omega) (by omega))]; rfl
    · rw [szWk, szW, szW, i2, List.length_cons]; omega
    · rw [PyData.depthKv, PyData.depth, PyData.depth, i3]; rfl
structure RokW (d : PyData) : Prop where
  o : okW d = true
  dep : d.depth ≤ 40
  sz : szW d ≤ 1000000
theorem rok_list {ids : List Int} (hI : ∀ z ∈ ids, 0 ≤ z ∧ z ≤ 1000000) (hl : ids.length ≤ 300) : RokW (.list (ids.map .int)) := by
  obtain ⟨o1, o2⟩ := ints_okW ids hI
  refine ⟨by rw [okW]; exact o1, by rw [PyData.depth, PySem.W.depth_ints]; decide, by rw [szW, o2]; omega⟩
/-! ### for k, v in d.items(), the pairs not kept -/
def isT (T : Addr) (xs : List V) : Heap → Prop := fun h => ∃ its, Vals xs its ∧ IsTup h T its.toArray
section
variable {X : Cx} {pins : List (Addr × Obj)} {σ : L2.St} {H : Hp} {s : Shared}
theorem _root_.L2.Inv.drop {T : Addr} {φ : Heap → Prop} (I : L2.Inv X pins σ (upd H T (.ext φ)) s) (hT : H T = none) : L2.Inv X pins σ H s := by
  have up : ∀ {b : Addr} {u : HO}, H b = some u → (upd H T (.ext φ)) b = some u := fun {b u} e => by rw [upd_ne (ne_of_none e hT)]; exact e
  have down : ∀ {b : Addr}, (upd H T (.ext φ)) b = none → H b = none := fun {b} e => by
    by_cases z : b = T
    · rw [z]; exact hT
    · rw [upd_ne z] at e; exact e
  have back : ∀ {b : Addr} {u : HO}, (upd H T (.ext φ)) b = some u → (∀ ψ, u ≠ .ext ψ) → H b = some u := fun {b u} e n => by
    by_cases z : b = T
    · rw [z, upd_same] at e
      exact absurd (Option.some.inj e).symm (n φ)
    · rw [upd_ne z] at e; exact e
  refine ⟨I.ok, I.os, I.bare, ⟨I.base.keep, I.base.slot, fun b o e n hx => down (I.base.free b o e n hx), I.base.there, fun b xs e => back (I.base.tups b xs e) (fun _ z => by cases z), fun b o u e => back (I.base.frzs b o u e) (fun _ z => by cases z), fun b ps e => ?_⟩,
    I.loc, I.cell, down I.free, fun x c e => down (I.freeC x c e), fun p hp => ?_, fun b u e => ?_, I.len⟩
  · obtain ⟨more, q⟩ := I.base.tbls b ps e
    exact ⟨more, back q (fun _ z => by cases z)⟩
  · obtain ⟨h1, h2, h3⟩ := I.pin p hp
    exact ⟨h1, down h2, h3⟩
  · exact (I.hok b u (up e)).stay (fun _ _ _ q => q) (fun c q => back q (fun _ z => by cases z)) fun c xs q => back q (fun _ z => by cases z)
end
def gTupE (n : Nat) (t : TGs) : TG := fun v σ H' Q => ∃ (T : Addr) (xs : List V) (H : Hp), v = .ref T ∧ H T = none ∧ H' = upd H T (.ext (isT T xs)) ∧ xs.length = n ∧ t xs σ H Q
def ItiE (d : Addr) (o : Obj) (kvs : List (Key × V)) : It :=
  ⟨fun i H => H d = some (.frz o (.dK kvs)) ∧ i < kvs.length, fun i H x H' => ∃ T k v, kvs[i]? = some (k, v) ∧ x = .ref T ∧ H T = none ∧ H' = upd H T (.ext (isT T [kV k, v])), fun i H => H d = some (.frz o (.dK kvs)) ∧ kvs.length ≤ i⟩
def iItemsE (td : TE) : TI := fun σ H R => td σ H fun x H1 => ∃ d o kvs, x = .ref d ∧ H1 d = some (.frz o (.dK kvs)) ∧ R (ItiE d o kvs) H1
section
variable {X : Cx}
theorem pg_tupE {es : List Expr} {k : Nat} {t : TGs} {n : Nat} {pos : Pos} (hc : X.calm = true) (h : PGs X es t)
    (hn : (assignEach es X.env).length = n := by rfl) (hst : (assignEach es X.env).findIdx? (·.1) = none := by rfl) : PG X (.Tuple es k pos) (gTupE n t) := by
  refine ⟨fun pins s σ H v u Q I r hw => ?_⟩
  obtain ⟨T, xs, H0, e1, hT, e2, hl, hw⟩ := hw
  subst e1
  subst e2
  cases r
  obtain ⟨⟨its, rv, ht⟩, _, _⟩ : ObjOk X.prog X.w (upd H0 T (.ext (isT T xs))) s.heap T (.ext (isT T xs)) := I.hok T _ upd_same
  have I0 := I.drop hT
  refine assign_Tuple_tuple (I.ok.hd hc) ht (by simp [hn, ← hl, rv.length]) hst fun h' hx => ?_
  have I1 : L2.Inv X pins σ H0 { s with heap := h' } := I0.kept (t' := s.toks) fun b o e => hx b o (Nat.ne_of_lt (Heap.lt_size e)) e
  exact h.run pins _ σ H0 xs _ Q I1 (by simpa using rv) hw
end
section
variable {P : Program} {w : World} {K : PySem.W.Frag} {d : Addr} {o : Obj} {es : Array DictEntry} {ep : Nat}
theorem turn_itemsE {kvs : List (Key × V)} {elts : List Expr} {kk : Nat} {tpos : Pos} (it : Addr) (hod : o.data = .dict es ep) :
    Turn P w K (.Tuple elts kk tpos) (ItiE d o kvs) [it] it (fun i h => ∃ ok ov, IsItemIter h it d i kvs.length ep ok ov) where
  mem := by simp
  obj := fun i h st b hb => by
    have e : b = it := by simpa using hb
    subst e
    obtain ⟨ok, ov, e⟩ := st
    exact ⟨_, e, fun v z => nomatch z⟩
  keep := fun i h h' st k => let ⟨ok, ov, e⟩ := st; ⟨ok, ov, k it (by simp) _ e⟩
  item := by
    intro X hP hw hK hc i pins s σ H E I hf st hg
    subst hP hw hK
    obtain ⟨hd, hi⟩ := hg
    obtain ⟨hs, hgd, hx, es', ep', vs, hdt, hsz, kv, hm⟩ := I.frzK hd
    obtain ⟨rfl, rfl⟩ := dict_ep hod hdt
    obtain ⟨⟨k, v⟩, hkv⟩ : ∃ p, kvs[i]? = some p := ⟨kvs[i], List.getElem?_eq_getElem hi⟩
    obtain ⟨u, hu, ru⟩ := kv_get kv hkv
    have hl : kvs.length = vs.length := Paired.length kv
    obtain ⟨ok, ov, he⟩ := st
    rw [hl] at he
    have hlt : it < s.heap.objs.size := Heap.lt_size he
    refine wpAny_pyNext_items_item he hm hu fun key h' hkey ho hT hz hk => ?_
    refine ⟨_, rfl, wpAny_letOwnedTupleGo_items (s := { s with heap := h' }) ho fun h'' he' sb => ?_⟩
    have hT2 : h''.get? s.heap.objs.size = some { cls := .type "tuple", data := .seq #[key, u] } := (sb.2 _ (Nat.ne_of_gt hlt)).trans hT
    have new : ObjOk X.prog X.w (upd H s.heap.objs.size (.ext (isT s.heap.objs.size [kV k, v]))) h'' s.heap.objs.size (.ext (isT s.heap.objs.size [kV k, v])) :=
      ⟨⟨[key, u], .cons (relV_key (show keyIs k key = true from hkey)) (.cons ru .nil), ⟨_, hT2, rfl, _, rfl⟩⟩, ⟨_, hT2⟩, fun h1 h2 ⟨its, rv, ob, e, c⟩ kk => ⟨its, rv, ob, kk _ e, c⟩⟩
    have I1 : L2.Inv X pins σ (upd H s.heap.objs.size (.ext (isT s.heap.objs.size [kV k, v]))) { s with heap := h'' } :=
      I.turnedNew (t' := s.toks) (ch := [it]) (fun b ob hb e => (sb.2 b (by simpa using hb)).trans (hk b ob (by simpa using hb) e)) hf (Nat.le_refl _) new
    refine ⟨.ref s.heap.objs.size, _, I1, rfl, ⟨_, k, v, hkv, rfl, I.hok.fresh (Nat.le_refl _), rfl⟩, ⟨key, u, ?_⟩, fun b hb => ?_⟩
    · rw [hl]; exact he'
    · have e : b = it := by simpa using hb
      rw [e, upd_ne (Nat.ne_of_lt hlt)]
      exact (hf it (by simp)).1
  done := by
    intro X hP hw hK hc i pins s σ H E I hf st hg
    subst hP hw hK
    obtain ⟨hd, hi⟩ := hg
    obtain ⟨f0, f1, f2, f3, f4, f5⟩ := hf it (by simp)
    obtain ⟨hs, hgd, hx, es', ep', vs, hdt, hsz, kv, hm⟩ := I.frzK hd
    obtain ⟨rfl, rfl⟩ := dict_ep hod hdt
    have hl : kvs.length = vs.length := Paired.length kv
    obtain ⟨ok, ov, he⟩ := st
    rw [hl] at he
    exact wpAny_pyNext_items_end (I.ok.hd hc) he hm (List.getElem?_eq_none (by omega)) fun h' eb => ⟨rfl, I.turned (t' := s.toks) (fun b ob hb e => eb b ob hb e) f0 f1 f3 f4 f5⟩
  self := fun A i s Q E st h => let ⟨_, _, e⟩ := st; PySem.W.kcp_self e h
end
section
variable {X : Cx} {e : Expr} {td : TE} {apos cpos : Pos}
theorem pi_itemsE {elts : List Expr} {kk : Nat} {tpos : Pos} (he : PE X e td) (hbase : attributeBase e "items" X.env (eval e X.env) = eval e X.env := by rfl) (hline : (apos.endLine == cpos.line) = true := by rfl) :
    PI X (.Tuple elts kk tpos) (.Call (.Attribute e "items" apos) [] [] cpos) (iItemsE td) := by
  refine ⟨fun pins s σ H R I h => ?_⟩
  refine wpAny_Call_method (T := "dict") (id := "dict.items") hbase rfl hline F.plainAttrs_dict F.slot_dict_items F.type_dict_items (thn (he.run pins s σ H _ I h) fun u s1 ⟨x, H1, I1, rx, d, o, kvs, ex, hd, q⟩ => ?_)
  subst ex
  obtain rfl : u = Value.ref d := rx
  obtain ⟨hs, hgd, hx, es, ep, vs, hdt, hsz, kv, hm⟩ := I1.frzK hd
  have hl : kvs.length = vs.length := Paired.length kv
  refine ⟨hm.dictOf.typeIs, hm.dictOf.mapOf.noDict, ?_⟩
  have I2 : L2.Inv X pins σ H1 { s1 with heap := s1.heap.push { cls := .type "dict_items", data := .fields #[.ref d] } } := I1.kept (t' := s1.toks) fun b ob q => Heap.get?_push_of_some _ q
  have fin : wpAny (model X.prog X.w) X.A (pyIter (.ref s1.heap.objs.size)) (PIE X pins σ (.Tuple elts kk tpos) R) X.xe { s1 with heap := s1.heap.push { cls := .type "dict_items", data := .fields #[.ref d] } } := by
    refine wpAny_pyIter_items (d := d) (knd := mixKind X.prog X.w) ⟨_, Heap.get?_push_size _ rfl, rfl, rfl⟩ (hm.push _) (pi_one (tk := s1.toks) I2 _ (turn_itemsE _ hdt) ⟨.none, .none, ?_⟩ q)
    rw [hl]
    exact Heap.get?_push_size _ rfl
  show wpAny _ _ (callWith cpos (.builtin "dict.items") [.ref d] [] []) _ X.xe s1
  exact method_meetsIn F.slot_dict_items F.entry_dict_items rfl (PySem.evalArgs_none ⟨rfl, hm.dictOf.typeIs, F.args_dict_items_1 _, _, meets_dict_items (mixKind X.prog X.w) d hs, ⟨vs, hm.dictOf⟩, fin⟩)
end
/-- the walk over all items -/
theorem walk_itemsE {d : Addr} {o : Obj} {kvs : List (Key × V)} : Walk (ItiE d o kvs) kvs.length (fun H => H d = some (.frz o (.dK kvs))) (fun i H x H' => ∃ T k v, kvs[i]? = some (k, v) ∧ x = .ref T ∧ H T = none ∧ H' = upd H T (.ext (isT T [kV k, v]))) :=
  ⟨fun _ _ hi q => ⟨q, hi⟩, fun _ q => ⟨q, Nat.le_refl _⟩, fun _ _ _ _ _ _ y => y⟩
/-! ### dicts made by comprehensions -/
theorem dc_it {J : It} {n : Nat} {G : Hp → Prop} {Y : Nat → Hp → V → Hp → Prop} (w : Walk J n G Y) {g : TG} {tt : TT} {tk tv : TE} {vs : List Nat} {σ : L2.St} {H1 : Hp} {D : Addr} {Qd : Hp → Prop} (Pv : Nat → Hp → Prop) (h0 : Pv 0 (upd H1 D (.dK []))) (hG : ∀ i H, i ≤ n → Pv i H → G H)
    (hs : ∀ i x H H', i < n → Pv i H → Y i H x H' → g x (wipe σ vs) H' fun σ2 H2 => wipe σ2 vs = wipe σ vs ∧ tt σ2 H2 fun b H3 =>
      if b = true then tk σ2 H3 fun y H4 => tv σ2 H4 fun z H5 => ∃ kvs k, y = kV k ∧ H5 D = some (.dK kvs) ∧ kvs.length < sizeLine ∧ Pv (i + 1) (upd H5 D (.dK (putK kvs k z))) else Pv (i + 1) H3) (hd : ∀ H, Pv n H → Qd H) :
    ∃ W : Nat → Nat → Hp → Prop, (∃ m, W 0 m (upd H1 D (.dK []))) ∧ ∀ i m H, W i m H →
      (J.stop i H ∧ Qd H) ∨ (J.go i H ∧ ∃ Nx : Hp → Prop, (∀ H', Nx H' → ∃ m', m' < m ∧ W (i + 1) m' H') ∧ ∀ x H', J.yld i H x H' → g x (wipe σ vs) H' fun σ2 H2 => wipe σ2 vs = wipe σ vs ∧ tt σ2 H2 fun b H3 =>
        if b = true then tk σ2 H3 fun y H4 => tv σ2 H4 fun z H5 => ∃ kvs k, y = kV k ∧ H5 D = some (.dK kvs) ∧ kvs.length < sizeLine ∧ Nx (upd H5 D (.dK (putK kvs k z))) else Nx H3) := by
  refine ⟨fun i m H => m = n - i ∧ i ≤ n ∧ Pv i H, ⟨n, by simp, Nat.zero_le _, h0⟩, ?_⟩
  rintro i m H ⟨rfl, hi, p⟩
  have q := hG i H hi p
  by_cases hlt : i < n
  · refine .inr ⟨w.goes i H hlt q, Pv (i + 1), fun H' p' => ⟨n - (i + 1), by omega, rfl, hlt, p'⟩, fun x H' y => hs i x H H' hlt p (w.yields i H x H' hlt q y)⟩
  · have e : i = n := by omega
    subst e
    exact .inl ⟨w.stops H q, hd H p⟩
/-! ### numbers by ids -/
/-- f of each id -/
def tabP (f : Int → Int) (l : List Int) : List (Int × Int) := l.map fun x => (x, f x)
theorem tab_keys (f : Int → Int) (l : List Int) : (tabP f l).map Prod.fst = l := by unfold tabP; rw [List.map_map]; simp [Function.comp_def]
theorem tab_len (f : Int → Int) (l : List Int) : (tabP f l).length = l.length := by unfold tabP; rw [List.length_map]
theorem tab_an {f : Int → Int} {l : List Int} {x : Int} (h : x ∈ l) : anOf (tabP f l) x = some (f x) := by
  induction l with
  | nil => cases h
  | cons y r ih =>
    unfold anOf tabP
    rw [List.map_cons]
    by_cases e : y = x
    · subst e
      rw [List.find?_cons_of_pos (by exact decide_eq_true rfl)]; rfl
    · rw [List.find?_cons_of_neg (by intro z; exact e (of_decide_eq_true z))]
      rcases List.mem_cons.mp h with q | q
      · exact absurd q.symm e
      · exact ih q
theorem tab_snoc {f : Int → Int} {l : List Int} {i : Nat} {x : Int} (h : l[i]? = some x) : tabP f (l.take (i + 1)) = tabP f (l.take i) ++ [(x, f x)] := by
  unfold tabP
  rw [take_snoc h, List.map_append]; rfl
theorem tab_new {f : Int → Int} {l : List Int} {i : Nat} {x : Int} (nd : l.Nodup) (h : l[i]? = some x) : x ∉ (tabP f (l.take i)).map Prod.fst := by
  rw [tab_keys]
  intro q
  obtain ⟨j, hj⟩ := List.mem_iff_getElem?.mp q
  rw [List.getElem?_take] at hj
  split at hj
  · rename_i hji
    have e := (List.getElem?_inj (by have := (List.getElem?_eq_some_iff.mp h).1; omega) nd).mp (hj.trans h.symm)
    omega
  · cases hj
section
variable {P : Program} {w : World} {K : PySem.W.Frag} {mg : Str → Option Value} {base : Heap}
/-- places_of -/
def spPlaces (K : PySem.W.Frag) : Sp := fun vs H Q _ => ∃ (o : Addr) (ids : List Int), vs = [.ref o] ∧ SqL K H o (ids.map V.int) ∧ ids.Nodup ∧ ids.length ≤ 300 ∧
  ∀ (q : Addr) (H' : Hp), Same H H' → H q = none → H' q = some (.dK (pinK (tabP (ixI ids) ids))) → Q (.ref q) H'
theorem scPlaces : FnScope ["order", "row_id", "place"] ["order"] (defScope sPlaces) := ⟨rfl, rfl, rfl, by decide +kernel, rfl, by decide +kernel, by decide +kernel⟩
theorem ok_places {f : Addr} {fd : FuncData} (F : Fun K "places_of" "places_of" sPlaces f fd) (T : mg "enumerate" = none) : FnOk P w K mg base CX0 1 f fd ["order"] (spPlaces K) := by
  refine F.ok scPlaces (fun vs H Q E h => ?_) (fun cdv A outer s H vs Q E hr h => ?_)
  · obtain ⟨o, ids, rfl, _⟩ := h
    rfl
  · obtain ⟨o, ids, rfl, ho, nd, hlen, k⟩ := h
    refine ⟨_, pss_one (ps_ret (pe_dc (own := [("place", 2), ("row_id", 1)]) (tt := tYes) (g := gTup K 2 (gCons (gName 2) (gCons (gName 1) gNil))) rfl scPlaces.nd (pi_enum (by rfl) T (pa_cons (pv 0) pa_nil)) (blkOk_by (N := ["order", "row_id", "place"]) (sc := defScope sPlaces) (by decide +kernel))
        (fun _ _ _ _ _ => pg_tup rfl (pgs_cons (pg_name (i := 2) scPlaces.nd rfl (Or.inl rfl)) (pgs_cons (pg_name (i := 1) scPlaces.nd rfl (Or.inl rfl)) pgs_nil))) (fun _ _ _ _ _ => pts_nil) (fun _ _ _ _ _ => pv 1) (fun _ _ _ _ _ => pv 2))), ?_⟩
    have h16 : sizeLine = 16777216 := sizeLine_eq
    refine ⟨_, rfl, o, _, rfl, ho, fun D hD => ?_⟩
    refine dc_it (walk_enum (K := K) (a := o) (xs := ids.map V.int)) (fun i H' => Same H H' ∧ i ≤ ids.length ∧ H' D = some (.dK (pinK (tabP (ixI ids) (ids.take i))))) ⟨Same.new hD, Nat.zero_le _, by rw [List.take_zero]; exact upd_same⟩ (fun i H' _ q => q.1.seq ho) ?_ ?_
    · rintro i y H1 H2 hi ⟨s1, hil, hP⟩ ⟨T0, x', y', rfl, hT, rfl, e1, e2⟩
      rw [List.length_map] at hi
      obtain rfl := Option.some.inj e1
      obtain ⟨x, hx, rfl⟩ := int_at e2
      refine ⟨T0, _, rfl, SqT.of upd_same, rfl, _, _, rfl, _, _, rfl, rfl, rfl, ?_⟩
      have s2 := Same.new (o := .tup [.int (i : Int), .int x]) hT
      refine ⟨_, rfl, _, rfl, pinK (tabP (ixI ids) (ids.take i)), .inl x, rfl, s2 _ _ hP, by rw [pin_len, tab_len, List.length_take, h16]; omega, fun b u e => by rw [upd_ne (ne_of_none e hD)]; exact s2 _ _ (s1 _ _ e), hi, ?_⟩
      have ei : ixI ids x = (i : Int) := by unfold ixI; rw [idx_of_at nd hx]
      rw [upd_same, pin_put (tab_new nd hx), tab_snoc hx, ei]
    · rintro H1 ⟨s1, _, hP⟩
      rw [List.length_map, List.take_length] at hP
      exact k D H1 s1 hD hP
/-- weights: none, or a dict -/
def WtAt (H : Hp) (v : V) (wo : Option (List (Int × Int))) : Prop := (v = .non ∧ wo = none) ∨ ∃ d ws, v = .ref d ∧ wo = some ws ∧ H d = some (.dK (pinK ws))
def wtI (wo : Option (List (Int × Int))) (x : Int) : Int := match wo with
  | none => 1
  | some ws => (anOf ws x).getD 1
theorem WtAt.same {H H' : Hp} {v : V} {wo : Option (List (Int × Int))} (s : Same H H') (h : WtAt H v wo) : WtAt H' v wo := by
  rcases h with h | ⟨d, ws, h1, h2, h3⟩
  · exact .inl h
  · exact .inr ⟨d, ws, h1, h2, s _ _ h3⟩
def spFull (K : PySem.W.Frag) : Sp := fun vs H Q _ => ∃ (o : Addr) (v : V) (ids : List Int) (wo : Option (List (Int × Int))), vs = [.ref o, v] ∧ SqL K H o (ids.map V.int) ∧ WtAt H v wo ∧ ids.Nodup ∧ ids.length ≤ 300 ∧
  ∀ (q : Addr) (H' : Hp), Same H H' → H q = none → H' q = some (.dK (pinK (tabP (wtI wo) ids))) → Q (.ref q) H'
theorem scFull : FnScope ["ids", "weights", "given", "row_id"] ["ids", "weights"] (defScope sFull) := ⟨rfl, rfl, rfl, by decide +kernel, rfl, by decide +kernel, by decide +kernel⟩
theorem ok_full {f : Addr} {fd : FuncData} (F : Fun K "full_weights" "full_weights" sFull f fd) : FnOk P w K mg base CX0 1 f fd ["ids", "weights"] (spFull K) := by
  refine F.ok scFull (fun vs H Q E h => ?_) (fun cdv A outer s H vs Q E hr h => ?_)
  · obtain ⟨o, v, ids, wo, rfl, _⟩ := h
    rfl
  · obtain ⟨o, v, ids, wo, rfl, ho, hw, nd, hlen, k⟩ := h
    have hu := hu_of hr
    refine ⟨_, pss_cons (ps_set (i := 2) scFull.nd rfl (Or.inr rfl) (pe_ifExp (pt_cmpR op_isN (pv 1) pe_non (nomark _)) pe_dnewK (pv 1)))
      (pss_one (ps_ret (pe_dc (own := [("row_id", 3)]) (tt := tYes) (g := gName 3) rfl scFull.nd (pi_list (pv 0)) (blkOk_by (N := ["ids", "weights", "given", "row_id"]) (sc := defScope sFull) (by decide +kernel))
        (fun _ _ _ _ _ => pg_name (i := 3) scFull.nd rfl (Or.inl rfl)) (fun _ _ _ _ _ => pts_nil) (fun _ _ _ _ _ => pv 3) (fun _ _ _ _ _ => pe_dget2 hu (pv 2) (pv 3) pe_int ⟨rfl, rfl, rfl, rfl⟩)))), ?_⟩
    have h16 : sizeLine = 16777216 := sizeLine_eq
    have go : ∀ (g : Addr) (ws : List (Int × Int)) (H1 : Hp), Same H H1 → H1 g = some (.dK (pinK ws)) → (∀ x, wtI wo x = (anOf ws x).getD 1) →
        (tRet (tDc (iList (cxOf CX0 P w K mg base ["ids", "weights", "given", "row_id"] "full_weights" (defScope sFull) f cdv A outer s H E).K (tVar 0)) (gName 3) tYes (tVar 3) (tDGet2 (tVar 2) (tVar 3) (tC (.int 1))) [3])) { nx := fun _ H' => Q .non H', rt := Q } [some (.ref o), some v, some (.ref g), none] H1 := by
      intro g ws H1 s1 hg hwt
      refine ⟨_, rfl, o, rfl, ⟨_, s1.seq ho⟩, fun D hD => ?_⟩
      refine dc_it (walk_list (K := K) (a := o) (xs := ids.map V.int)) (fun i H' => Same H1 H' ∧ i ≤ ids.length ∧ H' D = some (.dK (pinK (tabP (wtI wo) (ids.take i))))) ⟨Same.new hD, Nat.zero_le _, by rw [List.take_zero]; exact upd_same⟩ (fun i H' _ q => (s1.trans q.1).seq ho) ?_ ?_
      · rintro i y H2 H3 hi ⟨s2, hil, hP⟩ ⟨rfl, e2⟩
        rw [List.length_map] at hi
        obtain ⟨x, hx, rfl⟩ := int_at e2
        refine ⟨rfl, _, rfl, _, rfl, g, rfl, .inl ⟨_, .inl (s2 _ _ hg)⟩, _, rfl, _, DGet.k (k := (.inl x : Key)) (s2 _ _ hg), ?_⟩
        have ev : (valV (pinK ws) (.inl x : Key)).getD (.int 1) = .int (wtI wo x) := by
          rw [val_pin, hwt]
          cases anOf ws x <;> rfl
        rw [ev]
        refine ⟨pinK (tabP (wtI wo) (ids.take i)), .inl x, rfl, hP, by rw [pin_len, tab_len, List.length_take, h16]; omega, fun b u e => by rw [upd_ne (ne_of_none e hD)]; exact s2 _ _ e, hi, ?_⟩
        rw [upd_same, pin_put (tab_new nd hx), tab_snoc hx]
      · rintro H2 ⟨s2, _, hP⟩
        rw [List.length_map, List.take_length] at hP
        exact k D H2 (s1.trans s2) (Same.free s1 hD) hP
    rcases hw with ⟨rfl, rfl⟩ | ⟨d, ws, rfl, rfl, hd⟩
    · refine ⟨_, rfl, rfl, _, rfl, iteT ?_⟩
      intro p hp
      exact go p [] _ (Same.new hp) upd_same fun x => rfl
    · refine ⟨_, rfl, rfl, _, rfl, iteF ⟨_, rfl, ?_⟩⟩
      exact go d ws H (Same.refl H) hd fun x => rfl
end
/-! ### favoured_worths -/
def worthI (wo : Option (List (Int × Int))) (n : Nat) (fav : List Int) (x : Int) : Int := wtI wo x * ((n : Int) + 1) + (if x ∈ fav then 1 else 0)
structure TxtW (mg : Str → Option Value) : Prop where
  set : mg "set" = none
  len : mg "len" = none
section
variable {P : Program} {w : World} {K : PySem.W.Frag} {mg : Str → Option Value} {base : Heap}
def spFavs (K : PySem.W.Frag) : Sp := fun vs H Q _ => ∃ (g fv : Addr) (v : V) (ids fav : List Int) (wo : Option (List (Int × Int))), vs = [.ref g, v, .ref fv] ∧ SqL K H g (ids.map V.int) ∧ WtAt H v wo ∧ (SqL K H fv (fav.map V.int) ∨ SqT K H fv (fav.map V.int)) ∧ fav.length ≤ 4000 ∧ ids.Nodup ∧ ids.length ≤ 300 ∧ (∀ x ∈ ids, (wtI wo x).natAbs < 2 ^ 300) ∧
  ∀ (q : Addr) (H' : Hp), Same H H' → H q = none → H' q = some (.dK (pinK (tabP (worthI wo ids.length fav) ids))) → Q (.ref q) H'
abbrev NF : List Str := ["goal", "weights", "favoured", "liked", "full", "scale", "row_id"]
theorem scFavs : FnScope NF ["goal", "weights", "favoured"] (defScope sFavs) := ⟨rfl, rfl, rfl, by decide +kernel, rfl, by decide +kernel, by decide +kernel⟩
theorem ok_favs {f fF : Addr} {fd fdF : FuncData} (F : Fun K "favoured_worths" "favoured_worths" sFavs f fd) (T : TxtW mg) (GF : FnOk P w K mg base CX0 1 fF fdF ["ids", "weights"] (spFull K)) (kF : PySem.W.keepIn K (.ref fF) = true) (bF : L2.Binds K fdF ["ids", "weights"] []) (mF : mg "full_weights" = some (.ref fF)) :
    FnOk P w K mg base CX0 2 f fd ["goal", "weights", "favoured"] (spFavs K) := by
  refine F.ok scFavs (fun vs H Q E h => ?_) (fun cdv A outer s H vs Q E hr h => ?_)
  · obtain ⟨g, fv, v, ids, fav, wo, rfl, _⟩ := h
    rfl
  · obtain ⟨g, fv, v, ids, fav, wo, rfl, hg, hw, hf, hfl, nd, hlen, hwb, k⟩ := h
    have hu := hu_of hr
    refine ⟨_, pss_cons (ps_set (i := 3) scFavs.nd rfl (Or.inr rfl) (pe_callTy (cr_setI rfl) (by rfl) T.set (by decide +kernel) (pa_cons (pv 2) pa_nil)))
      (pss_cons (ps_set (i := 4) scFavs.nd rfl (Or.inr rfl) (pe_call GF hr rfl mF kF bF .nil pass0 (pa_cons (pv 0) (pa_cons (pv 1) pa_nil))))
      (pss_cons (ps_set (i := 5) scFavs.nd rfl (Or.inr rfl) (pe_op op_add (pe_callB call_len_seq (by rfl) T.len PySem.boot_len (pa_cons (pv 0) pa_nil)) pe_int))
      (pss_one (ps_ret (pe_dc (own := [("row_id", 6)]) (tt := tYes) (g := gName 6) rfl scFavs.nd (pi_list (pv 0)) (blkOk_by (N := NF) (sc := defScope sFavs) (by decide +kernel))
        (fun _ _ _ _ _ => pg_name (i := 6) scFavs.nd rfl (Or.inl rfl)) (fun _ _ _ _ _ => pts_nil) (fun _ _ _ _ _ => pv 6)
        (fun _ _ _ _ _ => pe_op op_add (pe_op op_mulG (pe_dget hu (pv 4) (pv 6) (fun _ _ => rfl)) (pv 5)) (pe_ifExp (pt_cmpR op_inSet (pv 6) (pv 3) (by rfl)) pe_int pe_int))))))), ?_⟩
    have h16 : sizeLine = 16777216 := sizeLine_eq
    refine ⟨_, rfl, fv, fav, rfl, hf, hfl, fun q S n hq hS hn => ?_⟩
    have s1 := Same.new (o := .set S n) hq
    have hS1 : (upd H q (.set S n)) q = some (.set S n) := upd_same
    generalize upd H q (.set S n) = H1 at s1 hS1 ⊢
    refine ⟨_, rfl, _, rfl, g, v, ids, wo, rfl, s1.seq hg, hw.same s1, nd, hlen, fun d H2 s2 hd hD => ?_⟩
    have s12 := s1.trans s2
    refine ⟨_, rfl, g, _, rfl, .inl (s12.seq hg), _, _, rfl, rfl, ?_⟩
    refine ⟨_, rfl, g, rfl, ⟨_, s12.seq hg⟩, fun D hDn => ?_⟩
    refine dc_it (walk_list (K := K) (a := g) (xs := ids.map V.int)) (fun i H' => Same H2 H' ∧ i ≤ ids.length ∧ H' D = some (.dK (pinK (tabP (worthI wo ids.length fav) (ids.take i))))) ⟨Same.new hDn, Nat.zero_le _, by rw [List.take_zero]; exact upd_same⟩ (fun i H' _ q => (s12.trans q.1).seq hg) ?_ ?_
    · rintro i y H3 H4 hi ⟨s3, hil, hP⟩ ⟨rfl, e2⟩
      rw [List.length_map] at hi
      obtain ⟨x, hx, rfl⟩ := int_at e2
      have hxm := List.mem_of_getElem? hx
      have dg : DGet H4 d (.int x) (some (.int (wtI wo x))) := by
        have := DGet.k (k := (.inl x : Key)) (s3 _ _ hD)
        rw [val_pin, tab_an hxm] at this
        exact this
      have hmul : IntMulOk (wtI wo x) (((ids.map V.int).length : Nat) + 1) := by
        refine mulOk_bits (a := 300) (b := 20) (bits_le (hwb x hxm)) (bits_le ?_) (by decide)
        rw [List.length_map]
        have : (2 : Nat) ^ 20 = 1048576 := by decide
        omega
      have fin : ∀ z : Int, z = (if x ∈ fav then 1 else 0) → ∃ kvs k, V.int x = kV k ∧ H4 D = some (.dK kvs) ∧ kvs.length < sizeLine ∧ (Same H2 (upd H4 D (.dK (putK kvs k (.int (wtI wo x * ((((ids.map V.int).length : Nat) : Int) + 1) + z))))) ∧ i + 1 ≤ ids.length ∧ (upd H4 D (.dK (putK kvs k (.int (wtI wo x * ((((ids.map V.int).length : Nat) : Int) + 1) + z))))) D = some (.dK (pinK (tabP (worthI wo ids.length fav) (ids.take (i + 1)))))) := by
        rintro z rfl
        refine ⟨pinK (tabP (worthI wo ids.length fav) (ids.take i)), .inl x, rfl, hP, by rw [pin_len, tab_len, List.length_take, h16]; omega, fun b u e => by rw [upd_ne (ne_of_none e hDn)]; exact s3 _ _ e, hi, ?_⟩
        rw [upd_same, pin_put (tab_new nd hx), tab_snoc hx, List.length_map]
        rfl
      refine ⟨rfl, _, rfl, _, rfl, _, rfl, d, _, rfl, dg, _, rfl, _, _, rfl, rfl, hmul, ?_⟩
      refine ⟨_, rfl, _, rfl, x, q, S, n, rfl, rfl, s3 _ _ (s2 _ _ hS1), _, rfl, ?_⟩
      have eS : (if false = true then !S x else S x) = decide (x ∈ fav) := hS.1 x
      rw [eS]
      refine ite2 (fun c => ?_) (fun c => ?_)
      · exact ⟨_, _, rfl, rfl, fin 1 (by rw [if_pos (of_decide_eq_true c)])⟩
      · exact ⟨_, _, rfl, rfl, fin 0 (by rw [if_neg (fun z => c (decide_eq_true z))])⟩
    · rintro H3 ⟨s3, _, hP⟩
      rw [List.length_map, List.take_length] at hP
      exact k D H3 (s12.trans s3) (Same.free s12 hDn) hP
end
/-! ### max(xs, default=d) -/
def maxI (d : Int) : List Int → Int
  | [] => d
  | n :: ns => ns.foldl max n
def rMaxDef (K : PySem.W.Frag) : List V → List V → Hp → VK → Prop := fun vs zs H Q => ∃ (a : Addr) (ns : List Int) (d : Int), vs = [.ref a] ∧ zs = [.int d] ∧ SqL K H a (ns.map V.int) ∧ Q (.int (maxI d ns)) H
theorem alike_allI (ns : List Int) : PySem.W.AlikeAll (ns.map .int) := by
  refine ⟨fun x hx y hy => ?_, fun x hx => ?_⟩
  · obtain ⟨a, _, rfl⟩ := List.mem_map.mp hx
    obtain ⟨b, _, rfl⟩ := List.mem_map.mp hy
    exact alike_int a b
  · obtain ⟨a, _, rfl⟩ := List.mem_map.mp hx
    exact fun z => by cases z
section
variable {X : Cx}
theorem cr_maxDef (hc : X.calm = true) (hu : X.A.units + 64 < cLine) : CallRK X (.builtin "max") [Str.ofString "default"] (rMaxDef X.K) := by
  intro pins s σ H vs zs us ws Q I r rz h
  obtain ⟨a, ns, d, rfl, rfl, hs, q⟩ := h
  obtain rfl := Vals.ref1 r
  obtain ⟨w1, rfl, t, rfl⟩ := vals1 rz
  obtain ⟨its, rv, hl, hz⟩ := I.list hs
  obtain ⟨as, hr⟩ := DVs.reads I _ _ _ (DVs.intsT (K := X.K) (H := H) ns) rv
  refine PySem.W.max_list_default (as := as) (I.ok.hd hc) hl.isList hr (alike_allI ns) (by rw [PySem.W.depth_ints]; omega) (fun e h' tk hk => ?_) fun y ys i v h' tk bs e hv hrd hk => ?_
  · have e0 : ns = [] := List.map_eq_nil_iff.mp e
    subst e0
    exact ⟨.int d, H, I.kept hk, ⟨t, rfl⟩, q⟩
  · cases ns with
    | nil => cases e
    | cons n ns =>
      rw [List.map_cons] at e
      obtain ⟨rfl, rfl⟩ := List.cons.inj e
      rw [PySem.W.maxD_ints] at hrd
      cases hrd
      exact ⟨.int _, H, I.kept hk, ⟨_, rfl⟩, q⟩
end
/-! ### top_levels -/
def levS (pl wf : Int → Int) (acc : List (Int × Int)) (x : Int) : Int × Int := (pl x, wf x + maxI 0 ((acc.filter fun e => decide (e.1 < pl x)).map Prod.snd))
def levF (pl wf : Int → Int) (l : List Int) : List (Int × Int) := l.foldl (fun acc x => acc ++ [levS pl wf acc x]) []
theorem lev_snoc (pl wf : Int → Int) (l : List Int) (x : Int) : levF pl wf (l ++ [x]) = levF pl wf l ++ [levS pl wf (levF pl wf l) x] := by
  unfold levF
  rw [List.foldl_append]; rfl
def topI (pl wf : Int → Int) (l : List Int) (x : Int) : Int := (levS pl wf (levF pl wf (l.take (l.idxOf x))) x).2
theorem lev_len (pl wf : Int → Int) (l : List Int) : (levF pl wf l).length = l.length := by
  have : ∀ (l : List Int) (acc : List (Int × Int)), (l.foldl (fun acc x => acc ++ [levS pl wf acc x]) acc).length = acc.length + l.length := by
    intro l
    induction l with
    | nil => intro acc; rfl
    | cons x r ih => intro acc; rw [List.foldl_cons, ih, List.length_append, List.length_cons, List.length_cons, List.length_nil]; omega
  have := this l []
  rw [List.length_nil, Nat.zero_add] at this
  exact this
/-- pairs of numbers, in a list -/
def PairsI (H : Hp) (D : Addr) (es : List (Addr × Int × Int)) : Prop := H D = some (.lst (es.map fun e => .ref e.1)) ∧ ∀ e ∈ es, H e.1 = some (.tup [.int e.2.1, .int e.2.2])
theorem PairsI.same {H H' : Hp} {D : Addr} {es : List (Addr × Int × Int)} (h : PairsI H D es) (s : Same H H') : PairsI H' D es := ⟨s _ _ h.1, fun e he => s _ _ (h.2 e he)⟩
theorem PairsI.push {H : Hp} {D t : Addr} {es : List (Addr × Int × Int)} {a b : Int} (h : PairsI H D es) (ht : H t = some (.tup [.int a, .int b])) : PairsI (upd H D (.lst (es.map (fun e => V.ref e.1) ++ [.ref t]))) D (es ++ [(t, a, b)]) := by
  obtain ⟨h1, h2⟩ := h
  refine ⟨by rw [upd_same, List.map_append]; rfl, fun e he => ?_⟩
  rcases List.mem_append.mp he with q | q
  · have a1 := h2 e q
    rw [upd_ne (ne_of a1 h1 (fun z => by cases z))]; exact a1
  · rw [List.mem_singleton.mp q]
    rw [upd_ne (ne_of ht h1 (fun z => by cases z))]; exact ht
theorem PairsI.put {H : Hp} {D x : Addr} {u o : HO} {es : List (Addr × Int × Int)} (h : PairsI H D es) (hx : H x = some u) (n1 : ∀ xs, HO.lst xs ≠ u) (n2 : ∀ xs, HO.tup xs ≠ u) : PairsI (upd H x o) D es :=
  ⟨by rw [upd_ne (ne_of h.1 hx (n1 _))]; exact h.1, fun e he => by rw [upd_ne (ne_of (h.2 e he) hx (n2 _))]; exact h.2 e he⟩
structure TxtM (mg : Str → Option Value) : Prop where
  max : mg "max" = none
section
variable {P : Program} {w : World} {K : PySem.W.Frag} {mg : Str → Option Value} {base : Heap}
def spTops (K : PySem.W.Frag) : Sp := fun vs H Q _ => ∃ (b g wd : Addr) (bs ids : List Int) (ws : List (Int × Int)) (wf : Int → Int), vs = [.ref b, .ref g, .ref wd] ∧ SqL K H b (bs.map V.int) ∧ SqL K H g (ids.map V.int) ∧ H wd = some (.dK (pinK ws)) ∧ (∀ x ∈ ids, anOf ws x = some (wf x)) ∧ bs.Nodup ∧ bs.length ≤ 300 ∧ ids.Nodup ∧ ids.length ≤ 300 ∧ (∀ x ∈ ids, x ∈ bs) ∧
  ∀ (q : Addr) (H' : Hp), Same H H' → H q = none → H' q = some (.dK (pinK (tabP (topI (ixI bs) wf ids) ids))) → Q (.ref q) H'
abbrev NT : List Str := ["base", "goal", "worths", "places", "found", "levels", "row_id", "place", "level", "before", "other"]
theorem scTops : FnScope NT ["base", "goal", "worths"] (defScope sTops) := ⟨rfl, rfl, rfl, by decide +kernel, rfl, by decide +kernel, by decide +kernel⟩
theorem ok_tops {f fP : Addr} {fd fdP : FuncData} (F : Fun K "top_levels" "top_levels" sTops f fd) (T : TxtM mg) (GP : FnOk P w K mg base CX0 1 fP fdP ["order"] (spPlaces K)) (kP : PySem.W.keepIn K (.ref fP) = true) (bP : L2.Binds K fdP ["order"] []) (mP : mg "places_of" = some (.ref fP)) :
    FnOk P w K mg base CX0 2 f fd ["base", "goal", "worths"] (spTops K) := by
  refine F.ok scTops (fun vs H Q E h => ?_) (fun cdv A outer s H vs Q E hr h => ?_)
  · obtain ⟨b, g, wd, bs, ids, ws, wf, rfl, _⟩ := h
    rfl
  · obtain ⟨b, g, wd, bs, ids, ws, wf, rfl, hb, hg, hw, hwf, nb, lb, nd, hlen, hsub, k⟩ := h
    have hu := hu_of hr
    have h64 := hu64 hr
    refine ⟨_, pss_cons (ps_set (i := 3) scTops.nd rfl (Or.inl rfl) (pe_call GP hr rfl mP kP bP .nil pass0 (pa_cons (pv 0) pa_nil)))
      (pss_cons (ps_set (i := 4) scTops.nd rfl (Or.inl rfl) (pe_lst pa_nil))
      (pss_cons (ps_set (i := 5) scTops.nd rfl (Or.inl rfl) pe_dnewK)
      (pss_cons (ps_for PassesOwn.never rfl (pi_list (pv 1)) (pg_name (i := 6) scTops.nd rfl (Or.inl rfl))
        (pss_cons (ps_set (i := 7) scTops.nd rfl (Or.inr rfl) (pe_dget hu (pv 3) (pv 6) (fun _ _ => rfl)))
        (pss_cons (ps_set (i := 8) scTops.nd rfl (Or.inl rfl) (pe_op op_add (pe_dget hu (pv 2) (pv 6) (fun _ _ => rfl)) (pe_callBK (cr_maxDef rfl h64) (by rfl) T.max (by decide +kernel)
            (pa_cons (pe_lc (own := [("before", 9), ("other", 10)]) (g := gTup K 2 (gCons (gName 9) (gCons (gName 10) gNil))) rfl scTops.nd (pi_list (pv 4)) (blkOk_by (N := NT) (sc := defScope sTops) (by decide +kernel))
              (fun _ _ _ _ _ => pg_tup rfl (pgs_cons (pg_name (i := 9) scTops.nd rfl (Or.inl rfl)) (pgs_cons (pg_name (i := 10) scTops.nd rfl (Or.inl rfl)) pgs_nil))) (fun _ _ _ _ _ => pts_one (pt_cmpR op_lt (pv 9) (pv 7) (nomark _))) (fun _ _ _ _ _ => pv 10)) pa_nil) (pk_cons pe_int pk_nil))))
        (pss_cons (ps_expr (pe_bm PySem.F.plainAttrs_list PySem.F.slot_list_append PySem.F.type_list_append mt_append (pv 4) (pa_cons (pe_tup (pa_cons (pv 7) (pa_cons (pv 8) pa_nil))) pa_nil)))
        (pss_one (ps_dput hu (pv 5) (pv 6) (pv 8) rfl))))))
      (pss_one (ps_ret (pv 5)))))), ?_⟩
    have h16 : sizeLine = 16777216 := sizeLine_eq
    refine ⟨_, rfl, b, bs, rfl, hb, nb, lb, fun pd H1 s1 hpd hP => ?_⟩
    refine ⟨Nat.zero_le _, fun fo hfo => fun ld hld => ?_⟩
    have nfl : fo ≠ ld := ne_of_none upd_same hld
    have hld1 : H1 ld = none := Same.free (Same.new (o := .lst []) hfo) hld
    obtain ⟨pl, hpl⟩ : ∃ pl, pl = ixI bs := ⟨_, rfl⟩
    rw [← hpl] at hP k
    have sfo := Same.new (o := .lst []) hfo
    have sld := Same.new (o := .dK []) hld
    have s2 : Same H1 (upd (upd H1 fo (.lst [])) ld (.dK [])) := sfo.trans sld
    refine ⟨_, rfl, g, rfl, ⟨_, (s1.trans s2).seq hg⟩, for_list (K := K) (a := g) (xs := ids.map V.int) (fun i σ H' => ∃ (es : List (Addr × Int × Int)) (v6 v7 v8 : Option V), σ = [some (.ref b), some (.ref g), some (.ref wd), some (.ref pd), some (.ref fo), some (.ref ld), v6, v7, v8, none, none] ∧ Same H1 H' ∧ PairsI H' fo es ∧
        es.map (fun e => e.2) = levF pl wf (ids.take i) ∧ H' ld = some (.dK (pinK (tabP (topI pl wf ids) (ids.take i)))) ∧ i ≤ ids.length)
      ⟨[], none, none, none, rfl, s2, ⟨sld _ _ upd_same, fun e h => by cases h⟩, by rw [List.take_zero]; rfl, by rw [List.take_zero]; exact upd_same, Nat.zero_le _⟩ (fun i σ H' _ ⟨_, _, _, _, _, s, _⟩ => (s1.trans s).seq hg) ?_ ?_⟩
    · rintro i y σ H3 hi ⟨es, v6, v7, v8, rfl, s3, hE, he, hL, hil⟩
      obtain ⟨x, hx, rfl⟩ := int_at (i := i) (by assumption)
      have hxm := List.mem_of_getElem? hx
      have hil2 : i < ids.length := (List.getElem?_eq_some_iff.mp hx).1
      have s13 := s1.trans s3
      have dgp : DGet H3 pd (.int x) (some (.int (pl x))) := by
        have := DGet.k (k := (.inl x : Key)) (s3 _ _ hP)
        rw [val_pin, tab_an (hsub x hxm)] at this
        exact this
      have dgw : DGet H3 wd (.int x) (some (.int (wf x))) := by
        have := DGet.k (k := (.inl x : Key)) (s13 _ _ hw)
        rw [val_pin, hwf x hxm] at this
        exact this
      have hel : es.length ≤ 300 := by
        have := congrArg List.length he
        rw [List.length_map, lev_len, List.length_take] at this
        omega
      refine ⟨_, rfl, _, rfl, pd, _, rfl, dgp, ?_⟩
      refine ⟨_, rfl, _, rfl, wd, _, rfl, dgw, _, rfl, fo, rfl, ⟨_, SqL.of hE.1⟩, fun D hD => ?_⟩
      refine lc_list (K := K) (a := fo) (xs := es.map fun e => V.ref e.1) (fun j H' => Same H3 H' ∧ H' D = some (.lst (((((es.take j).map fun e => e.2).filter fun e => decide (e.1 < pl x)).map Prod.snd).map V.int))) ⟨Same.new hD, by rw [List.take_zero]; exact upd_same⟩ (fun j H' _ q => SqL.of (q.1 _ _ hE.1)) ?_ ?_
      · rintro j y H4 hj ⟨s4, hA⟩
        obtain ⟨e, hej, rfl⟩ : ∃ e, es[j]? = some e ∧ y = V.ref e.1 := by
          rw [List.getElem?_map] at hj
          cases q : es[j]? with
          | none => rw [q] at hj; cases hj
          | some c => rw [q] at hj; exact ⟨c, rfl, (Option.some.inj hj).symm⟩
        have ht := s4 _ _ (hE.2 e (List.mem_of_getElem? hej))
        have hfl : ((((es.take j).map fun e => e.2).filter fun e => decide (e.1 < pl x)).map Prod.snd).length ≤ 300 := by
          rw [List.length_map]
          have := List.length_filter_le (fun e : Int × Int => decide (e.1 < pl x)) ((es.take j).map fun e => e.2)
          rw [List.length_map, List.length_take] at this
          omega
        refine ⟨e.1, _, rfl, SqT.of ht, rfl, _, _, rfl, _, _, rfl, rfl, rfl, _, rfl, _, rfl, _, _, rfl, rfl, _, rfl, ite2 (fun c => ?_) (fun c => ?_)⟩
        · have c : e.2.1 < pl x := of_decide_eq_true c
          refine ⟨_, rfl, _, hA, by rw [List.length_map, h16]; omega, fun b u q => by rw [upd_ne (ne_of_none q hD)]; exact s4 _ _ q, ?_⟩
          rw [upd_same, take_snoc hej, List.map_append, List.filter_append, List.map_append, List.map_append]
          congr 3
          show _ = ((([e.2] : List (Int × Int)).filter fun e => decide (e.1 < pl x)).map Prod.snd).map V.int
          rw [List.filter_cons_of_pos (by exact decide_eq_true c)]; rfl
        · have c : ¬ e.2.1 < pl x := fun z => c (decide_eq_true z)
          refine ⟨s4, ?_⟩
          rw [hA, take_snoc hej, List.map_append, List.filter_append]
          have : ([e].map fun e => e.2).filter (fun e => decide (e.1 < pl x)) = [] := by
            show ([e.2] : List (Int × Int)).filter (fun e => decide (e.1 < pl x)) = []
            rw [List.filter_cons_of_neg (by rw [decide_eq_false c]; exact fun z => by cases z)]; rfl
          rw [this, List.append_nil]
      · rintro H4 ⟨s4, hA⟩
        rw [List.length_map, List.take_length, he] at hA
        refine ⟨D, _, 0, rfl, rfl, SqL.of hA, _, _, rfl, rfl, ?_⟩
        have hE4 := hE.same s4
        have hL4 := s4 _ _ hL
        refine ⟨_, rfl, .inl ⟨rfl, _, SqL.of hE4.1⟩, _, rfl, _, rfl, by rw [h16]; show 2 ≤ 16777216; decide, fun t ht => ?_⟩
        have st := Same.new (o := .tup [.int (pl x), .int (wf x + maxI 0 (((levF pl wf (ids.take i)).filter fun e => decide (e.1 < pl x)).map Prod.snd))]) ht
        have hE5 := hE4.same st
        refine ⟨fo, _, _, rfl, rfl, hE5.1, by rw [List.length_map, h16]; omega, ?_⟩
        have hE6 := hE5.push upd_same
        have hL6 := st _ _ hL4
        have s6 := (s3.trans s4).trans st
        have hL7 : (upd (upd H4 t (.tup [.int (pl x), .int (wf x + maxI 0 (((levF pl wf (ids.take i)).filter fun e => decide (e.1 < pl x)).map Prod.snd))])) fo (.lst (es.map (fun e => V.ref e.1) ++ [.ref t]))) ld = some (.dK (pinK (tabP (topI pl wf ids) (ids.take i)))) := by rw [upd_ne nfl.symm]; exact hL6
        refine ⟨_, rfl, _, rfl, _, rfl, ld, _, rfl, DPut.k (k := (.inl x : Key)) hL7 (by rw [pin_len, tab_len, List.length_take, h16]; omega), ?_⟩
        rw [pin_put (tab_new nd hx)]
        refine ⟨es ++ [(t, pl x, wf x + maxI 0 (((levF pl wf (ids.take i)).filter fun e => decide (e.1 < pl x)).map Prod.snd))], _, _, _, rfl, fun c u q => ?_, hE6.put hL7 (fun _ z => by cases z) (fun _ z => by cases z), ?_, ?_, hil2⟩
        · rw [upd_ne (ne_of_none q hld1), upd_ne (ne_of_none q hfo)]
          exact s6 _ _ q
        · rw [List.map_append, he, take_snoc hx, lev_snoc]; rfl
        · rw [upd_same, tab_snoc hx]
          have : topI pl wf ids x = wf x + maxI 0 (((levF pl wf (ids.take i)).filter fun e => decide (e.1 < pl x)).map Prod.snd) := by
            unfold topI levS
            rw [idx_of_at nd hx]
          rw [this]
    · rintro σ H3 ⟨es, v6, v7, v8, rfl, s3, hE, he, hL, _⟩
      rw [List.length_map, List.take_length] at hL
      exact ⟨_, rfl, k ld H3 (s1.trans s3) (Same.free s1 hld1) hL⟩
end
/-! ### max(d.values(), default=d) -/
def valsO (p d : Addr) : HO := .ext fun h => h.IsValuesView p d
def rValsK : V → List V → Hp → VK → Prop := fun x xs H Q => ∃ (a : Addr) (kvs : List (Key × V)), x = .ref a ∧ xs = [] ∧ H a = some (.dK kvs) ∧ ∀ p, H p = none → Q (.ref p) (upd H p (valsO p a))
def rMaxV : List V → List V → Hp → VK → Prop := fun vs zs H Q => ∃ (p a : Addr) (kvs : List (Key × V)) (ns : List Int) (d : Int), vs = [.ref p] ∧ zs = [.int d] ∧ H p = some (valsO p a) ∧ H a = some (.dK kvs) ∧ kvs.map Prod.snd = ns.map V.int ∧ Q (.int (maxI d ns)) H
section
variable {X : Cx}
theorem mt_valsK : MtR X "dict.values" rValsK := by
  intro pins s σ H x xs v us Q I rx rxs h
  obtain ⟨a, kvs, rfl, rfl, ha, q⟩ := h
  cases rx
  cases rxs
  obtain ⟨_, hsys, vs, rel, dof⟩ := dk_of I.hok ha
  obtain ⟨ep, dat⟩ := dof.dictAt
  obtain ⟨ob, es, ho, ex, hdat, hko, hpr, hnd⟩ := dat
  refine call_meetsIn F.slot_dict_values ⟨ob, ho, ex.1⟩ F.entry_dict_values (F.args_dict_values_1 _) (meets_dict_values (mixKind X.prog X.w) a hsys) ⟨⟨vs, dof⟩, ?_⟩
  exact ⟨.ref s.heap.objs.size, upd H s.heap.objs.size (valsO s.heap.objs.size a), I.laid (t' := s.toks) (fun b u e => Heap.get?_push_of_some _ e) (Nat.le_refl _) ⟨⟨_, Heap.get?_push_size _ rfl, rfl, rfl⟩, ⟨_, Heap.get?_push_size _ rfl⟩, fun h1 h2 x k => let ⟨o, ho, r⟩ := x; ⟨o, k o ho, r⟩⟩, rfl, q _ (I.hok.fresh (Nat.le_refl _))⟩
theorem fold_max (l : List Int) : ∀ (n : Int), (∀ m, m ∈ n :: l → m ≤ l.foldl max n) ∧ l.foldl max n ∈ n :: l := by
  induction l with
  | nil => intro n; exact ⟨fun m h => by rw [List.mem_singleton.mp h]; exact Int.le_refl _, List.mem_singleton.mpr rfl⟩
  | cons y r ih =>
    intro n
    obtain ⟨i1, i2⟩ := ih (max n y)
    rw [List.foldl_cons]
    refine ⟨fun m h => ?_, ?_⟩
    · have h0 := i1 (max n y) List.mem_cons_self
      rcases List.mem_cons.mp h with e | h
      · rw [e]; omega
      · rcases List.mem_cons.mp h with e | h
        · rw [e]; omega
        · exact i1 m (List.mem_cons_of_mem _ h)
    · rcases List.mem_cons.mp i2 with e | h
      · rw [e]
        rcases Int.le_total n y with q | q
        · rw [Int.max_eq_right q]; exact List.mem_cons_of_mem _ List.mem_cons_self
        · rw [Int.max_eq_left q]; exact List.mem_cons_self
      · exact List.mem_cons_of_mem _ (List.mem_cons_of_mem _ h)
theorem maxI_is {d M : Int} {ns : List Int} (h1 : M ∈ ns) (h2 : ∀ y ∈ ns, y ≤ M) : maxI d ns = M := by
  cases ns with
  | nil => cases h1
  | cons n r =>
    obtain ⟨i1, i2⟩ := fold_max r n
    exact Int.le_antisymm (h2 _ i2) (i1 _ h1)
theorem cr_maxVals (hc : X.calm = true) : CallRK X (.builtin "max") [Str.ofString "default"] rMaxV := by
  intro pins s σ H vs zs us ws Q I r rz h
  obtain ⟨p, a, kvs, is, d, rfl, rfl, hp, ha, hv, q⟩ := h
  obtain rfl := Vals.ref1 r
  obtain ⟨w1, rfl, t, rfl⟩ := vals1 rz
  obtain ⟨_, hsys, vs, rel, dof⟩ := dk_of I.hok ha
  obtain ⟨ep, dat⟩ := dof.dictAt
  obtain ⟨hview, _, _⟩ : ObjOk X.prog X.w H s.heap p (valsO p a) := I.hok p _ hp
  have hlt : a < s.heap.objs.size := by
    obtain ⟨ob, es, ho, _⟩ := id dat
    exact Heap.lt_size ho
  have hlv : vs.length = is.length := by
    have e1 := congrArg List.length hv
    rw [List.length_map, List.length_map] at e1
    rw [← e1]
    exact (KV.length rel).symm
  have hval : ∀ (i : Nat) (v : Value), (∃ k, vs[i]? = some (k, v)) → ∃ t, v = Value.int (is.getD i 0) t := fun i v ⟨k, hk⟩ => by
    obtain ⟨x, h1, h2⟩ := KV.at' rel hk
    have e1 : (kvs.map (·.2))[i]? = some x := by rw [List.getElem?_map, h1] <;> rfl
    have hv' : kvs.map (·.2) = is.map V.int := hv
    rw [hv', List.getElem?_map] at e1
    obtain ⟨j, hj, e2⟩ := Option.map_eq_some_iff.mp e1
    subst e2
    obtain ⟨t, e3⟩ := h2
    refine ⟨t, ?_⟩
    rw [e3, List.getD_eq_getElem?_getD, hj] <;> rfl
  refine PySem.call_max_walkD (wpAny_pyIter_values (v := p) (d := a) hview dat ?_)
  have old : ∀ {s' : Shared}, Moved [s.heap.objs.size] (fun a b => b = a) { s with heap := s.heap.push { cls := .type "dict_valueiterator", data := .fields #[.ref a, .int 0 0, .int vs.length 0, .int ep 0] } } s' → ∃ h' tk, s' = { s with heap := h', toks := tk } ∧ ∀ b o, s.heap.get? b = some o → h'.get? b = some o := fun {s'} m => PySem.W.moved_old rfl rfl m
  refine ⟨_, _, _, _, _, _, _, s.heap, _, rfl, (Walks.dictValues (knd := mixKind X.prog X.w) (A := X.A.in1) (I.ok.hd hc) s.heap.objs.size a (Nat.ne_of_lt hlt) vs ep).toS, ⟨⟨_, Heap.get?_push_size _ rfl, rfl, rfl⟩, dat.keep fun b u e => Heap.get?_push_of_some _ e⟩, fun b hb => ?_, fun b o e hb => ?_, fun b o e => Heap.get?_push_of_some _ e,
    fun hn s' m => ?_, fun hn => ⟨fun i j vi vj s Q E _ hi hj hq => CmpOf.ints_gt (fun i => is.getD i 0) hval i j vi vj s Q E hi hj hq, fun v s' hP m => ?_⟩⟩
  · show b < (s.heap.push _).objs.size
    rw [Heap.size_push]
    rcases List.mem_cons.mp hb with e | hb
    · rw [e]; exact Nat.lt_succ_self _
    · rw [List.mem_singleton.mp hb]; exact Nat.lt_succ_of_lt hlt
  · exact absurd (Heap.lt_size e) ((List.mem_singleton.mp hb) ▸ Nat.lt_irrefl _)
  · obtain ⟨h', tk, rfl, hk⟩ := old m
    have e0 : is = [] := List.eq_nil_of_length_eq_zero (by omega)
    subst e0
    exact ⟨.int d, H, I.kept (t' := tk) hk, ⟨t, rfl⟩, q⟩
  · obtain ⟨h', tk, rfl, hk⟩ := old m
    obtain ⟨t2, rfl⟩ := hval _ v hP
    obtain ⟨b1, b2⟩ := argBest_gt (fun i => is.getD i 0) (vs.length - 1)
    refine ⟨.int _, H, I.kept (t' := tk) hk, ⟨t2, rfl⟩, ?_⟩
    have e : maxI d is = is.getD (argBest (fun i j => decide (is.getD i 0 > is.getD j 0)) (vs.length - 1)) 0 := by
      refine maxI_is ?_ fun y hy => ?_
      · have hl : argBest (fun i j => decide (is.getD i 0 > is.getD j 0)) (vs.length - 1) < is.length := by omega
        rw [List.getD_eq_getElem?_getD, List.getElem?_eq_getElem hl]
        exact List.getElem_mem hl
      · obtain ⟨j, hj, rfl⟩ := List.getElem_of_mem hy
        have := b2 j (by omega)
        rw [List.getD_eq_getElem?_getD, List.getElem?_eq_getElem hj] at this
        exact this
    rw [e] at q
    exact q
end
section
variable {P : Program} {w : World} {K : PySem.W.Frag} {mg : Str → Option Value} {base : Heap} {x qual : Str} {params : Arguments} {body : List Stmt} {scope : Scope} {dvs : List V} {kws : List (Str × V)} {f : Addr} {fd : FuncData}
theorem FunD.ok0 {N ps : List Str} {k : Nat} {sp : Sp} (F : FunD K x qual params body scope dvs kws f fd) (S : FnScope N ps scope) (len : ∀ vs H Q E, sp vs H Q E → vs.length = ps.length)
    (hbody : ∀ (cdv : Value) (A : Around) (outer : List Env) (s : Shared) (H : Hp) (vs : List V) (Q : VK) (E : XK), Room k (A.deeper (envOfC qual scope s.heap.objs.size f cdv)) → sp vs H Q E →
      ∃ t, PSs (cxOf CX0 P w K mg base N qual scope f cdv A outer s H E).nox body t ∧ t { nx := fun _ H' => Q .non H', rt := Q } (start N vs) H) : FnOk P w K mg base CX0 (k + 1) f fd ps sp := by
  refine L2.FunD.ok F S len fun cdv A outer s H vs Q E hr hsp => ?_
  obtain ⟨t, h, q⟩ := hbody cdv A outer s H vs Q E hr hsp
  exact ⟨t, h.nox, q⟩
end
/-! ### best_straight -/
def bestS (f wf : Int → Int) (acc : List Int × Int) (x : Int) : List Int × Int := if f x = acc.2 then (acc.1 ++ [x], acc.2 - wf x) else acc
def bestG (f wf : Int → Int) (m0 : Int) (l : List Int) : List Int × Int := l.foldl (bestS f wf) ([], m0)
theorem best_snoc (f wf : Int → Int) (m0 : Int) (l : List Int) (x : Int) : bestG f wf m0 (l ++ [x]) = bestS f wf (bestG f wf m0 l) x := by
  unfold bestG
  rw [List.foldl_append]; rfl
theorem best_sub (f wf : Int → Int) (m0 : Int) : ∀ l : List Int, ∃ m, l.length = l.length ∧ bestG f wf m0 l = ((bestG f wf m0 l).1, m) := fun l => ⟨_, rfl, rfl⟩
theorem foldr_snoc {α : Type} {p : List α → Prop} (h0 : p []) (h1 : ∀ l x, p l → p (l ++ [x])) : ∀ l, p l := by
  intro l
  have : ∀ n (l : List α), l.length = n → p l := by
    intro n
    induction n with
    | zero => intro l hl; rw [List.eq_nil_of_length_eq_zero hl]; exact h0
    | succ n ih =>
      intro l hl
      rcases List.eq_nil_or_concat l with e | ⟨l0, x, e⟩
      · rw [e] at hl; cases hl
      · rw [e, List.concat_eq_append]
        refine h1 l0 x (ih l0 ?_)
        rw [e, List.concat_eq_append, List.length_append] at hl
        exact Nat.succ.inj hl
  exact this _ l rfl
theorem best_sublist (f wf : Int → Int) (m0 : Int) (l : List Int) : (bestG f wf m0 l).1.Sublist l := by
  refine foldr_snoc (p := fun l => (bestG f wf m0 l).1.Sublist l) (List.Sublist.refl _) (fun l x ih => ?_) l
  show (bestG f wf m0 (l ++ [x])).1.Sublist (l ++ [x])
  rw [best_snoc]
  unfold bestS
  split
  · exact List.Sublist.append ih (List.Sublist.refl _)
  · exact ih.trans (List.sublist_append_left _ _)
def tallF (bs ids : List Int) (wf : Int → Int) : Int → Int := topI (ixI bs.reverse) wf ids.reverse
def bestF (bs ids : List Int) (wf : Int → Int) : List Int := (bestG (tallF bs ids wf) wf (maxI 0 (ids.reverse.map (tallF bs ids wf))) ids).1
section
variable {P : Program} {w : World} {K : PySem.W.Frag} {mg : Str → Option Value} {base : Heap}
def spBest (K : PySem.W.Frag) : Sp := fun vs H Q _ => ∃ (b g fv : Addr) (v : V) (bs ids fav : List Int) (wo : Option (List (Int × Int))), vs = [.ref b, .ref g, v, .ref fv] ∧ SqL K H b (bs.map V.int) ∧ SqL K H g (ids.map V.int) ∧ WtAt H v wo ∧ (SqL K H fv (fav.map V.int) ∨ SqT K H fv (fav.map V.int)) ∧ fav.length ≤ 4000 ∧
  bs.Nodup ∧ bs.length ≤ 300 ∧ ids.Nodup ∧ ids.length ≤ 300 ∧ (∀ x ∈ ids, x ∈ bs) ∧ (∀ x ∈ ids, (wtI wo x).natAbs < 2 ^ 300) ∧
  ∀ (q : Addr) (H' : Hp), Same H H' → H q = none → H' q = some (.lst ((bestF bs ids (worthI wo ids.length fav)).map V.int)) → Q (.ref q) H'
abbrev NB : List Str := ["base", "goal", "weights", "favoured", "worths", "levels", "missing", "best", "row_id"]
theorem scBest : FnScope NB ["base", "goal", "weights", "favoured"] (defScope sBest) := ⟨rfl, rfl, rfl, by decide +kernel, rfl, by decide +kernel, by decide +kernel⟩
theorem ok_best {f fV fT : Addr} {fd fdV fdT : FuncData} {kws : List (Str × V)} (F : FunD K "best_straight" "best_straight" (defArgs sBest) (defBody sBest) (defScope sBest) [] kws f fd) (T : TxtM mg)
    (GV : FnOk P w K mg base CX0 2 fV fdV ["goal", "weights", "favoured"] (spFavs K)) (kV : PySem.W.keepIn K (.ref fV) = true) (bV : L2.Binds K fdV ["goal", "weights", "favoured"] []) (mV : mg "favoured_worths" = some (.ref fV))
    (GT : FnOk P w K mg base CX0 2 fT fdT ["base", "goal", "worths"] (spTops K)) (kT : PySem.W.keepIn K (.ref fT) = true) (bT : L2.Binds K fdT ["base", "goal", "worths"] []) (mT : mg "top_levels" = some (.ref fT)) :
    FnOk P w K mg base CX0 3 f fd ["base", "goal", "weights", "favoured"] (spBest K) := by
  refine FunD.ok0 F scBest (fun vs H Q E h => ?_) (fun cdv A outer s H vs Q E hr h => ?_)
  · obtain ⟨b, g, fv, v, bs, ids, fav, wo, rfl, _⟩ := h
    rfl
  · obtain ⟨b, g, fv, v, bs, ids, fav, wo, rfl, hb, hg, hw, hf, hfl, nb, lb, nd, hlen, hsub, hwb, k⟩ := h
    have hu := hu_of hr
    have h64 := hu64 hr
    refine ⟨_, pss_cons (ps_set (i := 4) scBest.nd rfl (Or.inl rfl) (pe_call GV hr rfl mV kV bV .nil pass0 (pa_cons (pv 1) (pa_cons (pv 2) (pa_cons (pv 3) pa_nil)))))
      (pss_cons (ps_set (i := 5) scBest.nd rfl (Or.inl rfl) (pe_call GT hr rfl mT kT bT .nil pass0 (pa_cons (pe_revL (pv 0)) (pa_cons (pe_revL (pv 1)) (pa_cons (pv 4) pa_nil)))))
      (pss_cons (ps_set (i := 6) scBest.nd rfl (Or.inl rfl) (pe_callBK (cr_maxVals rfl) (by rfl) T.max (by decide +kernel) (pa_cons (pe_bm0 PySem.F.plainAttrs_dict PySem.F.slot_dict_values PySem.F.type_dict_values mt_valsK (pv 5)) pa_nil) (pk_cons pe_int pk_nil)))
      (pss_cons (ps_set (i := 7) scBest.nd rfl (Or.inl rfl) (pe_lst pa_nil))
      (pss_cons (ps_for PassesOwn.never rfl (pi_list (pv 1)) (pg_name (i := 8) scBest.nd rfl (Or.inl rfl))
        (pss_one (ps_if (pt_cmpR op_eq (pe_dget hu (pv 5) (pv 8) (fun _ _ => rfl)) (pv 6) (nomark _))
          (pss_cons (ps_expr (pe_bm PySem.F.plainAttrs_list PySem.F.slot_list_append PySem.F.type_list_append mt_append (pv 7) (pa_cons (pv 8) pa_nil)))
          (pss_one (ps_set (i := 6) scBest.nd rfl (Or.inl rfl) (pe_op op_sub (pv 6) (pe_dget hu (pv 4) (pv 8) (fun _ _ => rfl)))))) pss_nil)))
      (pss_one (ps_ret (pv 7))))))), ?_⟩
    have h16 : sizeLine = 16777216 := sizeLine_eq
    refine ⟨_, rfl, _, rfl, _, rfl, g, fv, v, ids, fav, wo, rfl, hg, hw, hf, hfl, nd, hlen, hwb, fun d H1 s1 hd hD => ?_⟩
    obtain ⟨wf, hwf⟩ : ∃ wf, wf = worthI wo ids.length fav := ⟨_, rfl⟩
    rw [← hwf] at hD
    have hb1 := s1.seq hb
    have hg1 := s1.seq hg
    refine ⟨_, rfl, b, _, rfl, hb1, fun p hp => ?_⟩
    have sp := Same.new (o := .lst (bs.map V.int).reverse) hp
    have hP : upd H1 p (.lst (bs.map V.int).reverse) p = some (.lst (bs.map V.int).reverse) := upd_same
    generalize upd H1 p (.lst (bs.map V.int).reverse) = H2 at sp hP ⊢
    refine ⟨_, rfl, g, _, rfl, sp.seq hg1, fun r hr2 => ?_⟩
    have sr := Same.new (o := .lst (ids.map V.int).reverse) hr2
    have hR : upd H2 r (.lst (ids.map V.int).reverse) r = some (.lst (ids.map V.int).reverse) := upd_same
    generalize upd H2 r (.lst (ids.map V.int).reverse) = H3 at sr hR ⊢
    have hP3 := sr _ _ hP
    have hD3 := sr _ _ (sp _ _ hD)
    have s3 := s1.trans (sp.trans sr)
    rw [← List.map_reverse] at hP3 hR
    refine ⟨_, rfl, p, r, d, bs.reverse, ids.reverse, _, wf, rfl, SqL.of hP3, SqL.of hR, hD3, fun x hx => tab_an (List.mem_reverse.mp hx), ((List.reverse_perm bs).nodup_iff).mpr nb, by rw [List.length_reverse]; exact lb, ((List.reverse_perm ids).nodup_iff).mpr nd, by rw [List.length_reverse]; exact hlen, fun x hx => List.mem_reverse.mpr (hsub x (List.mem_reverse.mp hx)), fun lv H4 s4 hlv hL => ?_⟩
    have ht : topI (ixI bs.reverse) wf ids.reverse = tallF bs ids wf := rfl
    rw [ht] at hL
    obtain ⟨tf, htf⟩ : ∃ tf, tf = tallF bs ids wf := ⟨_, rfl⟩
    rw [← htf] at hL
    have s14 := s3.trans s4
    have hD4 := s4 _ _ hD3
    refine ⟨_, rfl, .inr (.inr (.inl ⟨rfl, .inl ⟨_, hL⟩⟩)), lv, _, rfl, rfl, hL, fun vp hvp => ?_⟩
    have sv := Same.new (o := valsO vp lv) hvp
    have hV : upd H4 vp (valsO vp lv) vp = some (valsO vp lv) := upd_same
    generalize upd H4 vp (valsO vp lv) = H5 at sv hV ⊢
    have hL5 := sv _ _ hL
    have hD5 := sv _ _ hD4
    refine ⟨vp, lv, _, ids.reverse.map tf, 0, rfl, rfl, hV, hL5, by unfold pinK tabP; rw [List.map_map, List.map_map, List.map_map]; rfl, ?_⟩
    refine ⟨Nat.zero_le _, fun B hB => ?_⟩
    have sB := Same.new (o := .lst []) hB
    have hBn : H1 B = none := Same.free (sp.trans (sr.trans (s4.trans sv))) hB
    have s5 := s14.trans sv
    refine ⟨_, rfl, g, rfl, ⟨_, (s5.trans sB).seq hg⟩, for_list (K := K) (a := g) (xs := ids.map V.int) (fun i σ H' => ∃ (v8 : Option V), σ = [some (.ref b), some (.ref g), some v, some (.ref fv), some (.ref d), some (.ref lv), some (.int (bestG tf wf (maxI 0 (ids.reverse.map tf)) (ids.take i)).2), some (.ref B), v8] ∧ Same H5 H' ∧ H' B = some (.lst ((bestG tf wf (maxI 0 (ids.reverse.map tf)) (ids.take i)).1.map V.int)) ∧ i ≤ ids.length)
      ⟨none, by rw [List.take_zero]; rfl, sB, by rw [List.take_zero]; exact upd_same, Nat.zero_le _⟩ (fun i σ H' _ ⟨_, _, s, _⟩ => (s5.trans s).seq hg) ?_ ?_⟩
    · rintro i y σ H6 hi ⟨v8, rfl, s6, hA, hil⟩
      obtain ⟨x, hx, rfl⟩ := int_at (i := i) (by assumption)
      have hxm := List.mem_of_getElem? hx
      have hil2 : i < ids.length := (List.getElem?_eq_some_iff.mp hx).1
      obtain ⟨acc, hacc⟩ : ∃ acc, acc = bestG tf wf (maxI 0 (ids.reverse.map tf)) (ids.take i) := ⟨_, rfl⟩
      have hns : bestG tf wf (maxI 0 (ids.reverse.map tf)) (ids.take (i + 1)) = bestS tf wf acc x := by rw [take_snoc hx, best_snoc, hacc]
      have hal : acc.1.length ≤ 300 := by
        have := (best_sublist tf wf (maxI 0 (ids.reverse.map tf)) (ids.take i)).length_le
        rw [← hacc, List.length_take] at this
        omega
      rw [← hacc] at hA
      rw [hns, ← hacc]
      have dgl : DGet H6 lv (.int x) (some (.int (tf x))) := by
        have := DGet.k (k := (.inl x : Key)) (s6 _ _ hL5)
        rw [val_pin, tab_an (List.mem_reverse.mpr hxm)] at this
        exact this
      have dgw : DGet H6 d (.int x) (some (.int (wf x))) := by
        have := DGet.k (k := (.inl x : Key)) (s6 _ _ hD5)
        rw [val_pin, tab_an hxm] at this
        exact this
      refine ⟨_, rfl, _, rfl, lv, _, rfl, dgl, _, rfl, ?_⟩
      refine ⟨rfl, _, rfl, ite2 (fun c => ?_) (fun c => ?_)⟩
      · have c : tf x = acc.2 := V.int.inj (of_decide_eq_true c)
        have hst : bestS tf wf acc x = (acc.1 ++ [x], acc.2 - wf x) := if_pos c
        rw [hst]
        refine ⟨_, rfl, .inl ⟨rfl, _, SqL.of hA⟩, _, rfl, B, _, _, rfl, rfl, hA, by rw [List.length_map, h16]; omega, ?_⟩
        have hBd : d ≠ B := ne_of (s6 _ _ hD5) hA (fun z => by cases z)
        have dgw2 : DGet (upd H6 B (.lst (acc.1.map V.int ++ [.int x]))) d (.int x) (some (.int (wf x))) := by
          have := DGet.k (k := (.inl x : Key)) (show upd H6 B (.lst (acc.1.map V.int ++ [.int x])) d = some (.dK (pinK (tabP wf ids))) by rw [upd_ne hBd]; exact s6 _ _ hD5)
          rw [val_pin, tab_an hxm] at this
          exact this
        refine ⟨_, rfl, _, rfl, _, rfl, d, _, rfl, dgw2, _, _, rfl, rfl, ?_⟩
        refine ⟨_, rfl, fun q u e => ?_, ?_, hil2⟩
        · rw [upd_ne (ne_of_none e hB)]; exact s6 _ _ e
        · rw [upd_same, List.map_append]; rfl
      · have c : ¬ tf x = acc.2 := fun z => c (decide_eq_true (by rw [z]))
        have hst : bestS tf wf acc x = acc := if_neg c
        rw [hst]
        exact ⟨_, rfl, s6, hA, hil2⟩
    · rintro σ H6 ⟨v8, rfl, s6, hA, _⟩
      rw [List.length_map, List.take_length] at hA
      rw [List.length_map, List.take_length]
      exact ⟨_, rfl, k B H6 (s5.trans s6) (Same.free s1 hBn) (by rw [hA, htf, hwf]; rfl)⟩
end
/-! ### the best straight set: what the greedy walk finds -/
theorem foldl_max : ∀ (l : List Int) (a : Int), a ≤ l.foldl max a ∧ (∀ x ∈ l, x ≤ l.foldl max a) ∧ (l.foldl max a = a ∨ l.foldl max a ∈ l)
  | [], a => ⟨Int.le_refl _, (fun x h => by cases h), .inl rfl⟩
  | b :: l, a => by
    obtain ⟨h1, h2, h3⟩ := foldl_max l (max a b)
    rw [List.foldl_cons]
    refine ⟨by omega, fun x hx => ?_, ?_⟩
    · rcases List.mem_cons.mp hx with e | e
      · omega
      · exact h2 x e
    · rcases h3 with e | e
      · rcases Int.le_total a b with q | q
        · exact .inr (by rw [e, Int.max_eq_right q]; exact List.mem_cons_self)
        · exact .inl (by rw [e, Int.max_eq_left q])
      · exact .inr (List.mem_cons_of_mem _ e)
theorem maxI_ge {d : Int} : ∀ {l : List Int} {x : Int}, x ∈ l → x ≤ maxI d l
  | n :: ns, x, h => by
    obtain ⟨h1, h2, _⟩ := foldl_max ns n
    rcases List.mem_cons.mp h with e | e
    · rw [e]; exact h1
    · exact h2 x e
theorem maxI_in {d : Int} : ∀ {l : List Int}, l ≠ [] → maxI d l ∈ l
  | [], h => absurd rfl h
  | n :: ns, _ => by
    obtain ⟨_, _, h3⟩ := foldl_max ns n
    show ns.foldl max n ∈ n :: ns
    rcases h3 with e | e
    · rw [e]; exact List.mem_cons_self
    · exact List.mem_cons_of_mem _ e
theorem maxI_eq {d m : Int} {l : List Int} (h1 : m ∈ l) (h2 : ∀ x ∈ l, x ≤ m) : maxI d l = m := by
  have a := maxI_ge (d := d) h1
  have b := h2 _ (maxI_in (d := d) (l := l) (fun z => by rw [z] at h1; cases h1))
  omega
theorem maxI_set {d : Int} {l m : List Int} (h : ∀ x, x ∈ l ↔ x ∈ m) : maxI d l = maxI d m := by
  by_cases e : l = []
  · subst e
    have : m = [] := List.eq_nil_iff_forall_not_mem.mpr fun x hx => by have := (h x).mpr hx; cases this
    rw [this]
  · exact (maxI_eq ((h _).mp (maxI_in e)) fun x hx => maxI_ge ((h x).mpr hx)).symm
theorem maxI_pos {l : List Int} (h : ∀ x ∈ l, 0 < x) : 0 ≤ maxI 0 l := by
  by_cases e : l = []
  · rw [e]; exact Int.le_refl _
  · have := h _ (maxI_in (d := 0) e); omega
/-- f x: the weight of x and of what can best follow it in the list -/
def Tall (pl wf f : Int → Int) : List Int → Prop
  | [] => True
  | x :: r => f x = wf x + maxI 0 ((r.filter fun y => decide (pl y < pl x)).map f) ∧ Tall pl wf f r
def grL (f wf : Int → Int) : Int → List Int → List Int
  | _, [] => []
  | m, x :: r => if f x = m then x :: grL f wf (m - wf x) r else grL f wf m r
def mostI (pl f : Int → Int) (c : Int) (l : List Int) : Int := maxI 0 ((l.filter fun y => decide (pl y < c)).map f)
section
variable {pl wf f : Int → Int}
theorem tall_pos : ∀ {l : List Int}, Tall pl wf f l → (∀ x ∈ l, 0 < wf x) → ∀ x ∈ l, wf x ≤ f x
  | [], _, _, x, h => by cases h
  | y :: r, ht, hw, x, h => by
    have ih := tall_pos ht.2 fun z hz => hw z (List.mem_cons_of_mem _ hz)
    rcases List.mem_cons.mp h with e | e
    · subst e
      have := ht.1
      have q : 0 ≤ maxI 0 ((r.filter fun y => decide (pl y < pl x)).map f) := maxI_pos fun z hz => by
        obtain ⟨u, hu, rfl⟩ := List.mem_map.mp hz
        have hu := (List.mem_filter.mp hu).1
        have a := ih u hu
        have b := hw u (List.mem_cons_of_mem _ hu)
        omega
      omega
    · exact ih x e
theorem tall_key {x y : Int} {r : List Int} (h : Tall pl wf f (x :: r)) (hy : y ∈ r) (hp : pl y < pl x) : wf x + f y ≤ f x := by
  have := h.1
  have q : f y ≤ maxI 0 ((r.filter fun y => decide (pl y < pl x)).map f) := maxI_ge (List.mem_map.mpr ⟨y, List.mem_filter.mpr ⟨hy, decide_eq_true hp⟩, rfl⟩)
  omega
theorem most_cons_in {c x : Int} {r : List Int} (h : pl x < c) (hp : ∀ y ∈ x :: r, 0 < f y) : mostI pl f c (x :: r) = max (f x) (mostI pl f c r) := by
  unfold mostI
  rw [List.filter_cons_of_pos (by exact decide_eq_true h), List.map_cons]
  by_cases e : (r.filter fun y => decide (pl y < c)).map f = []
  · rw [e]
    show f x = max (f x) 0
    have := hp x List.mem_cons_self
    omega
  · have a := maxI_in (d := 0) e
    refine maxI_eq ?_ fun z hz => ?_
    · rcases Int.le_total (f x) (maxI 0 ((r.filter fun y => decide (pl y < c)).map f)) with q | q
      · rw [Int.max_eq_right q]; exact List.mem_cons_of_mem _ a
      · rw [Int.max_eq_left q]; exact List.mem_cons_self
    · rcases List.mem_cons.mp hz with q | q
      · omega
      · have := maxI_ge (d := 0) q
        omega
theorem most_cons_out {c x : Int} {r : List Int} (h : ¬ pl x < c) : mostI pl f c (x :: r) = mostI pl f c r := by
  unfold mostI
  rw [List.filter_cons_of_neg (by intro z; exact h (of_decide_eq_true z))]
theorem most_in {c : Int} {l : List Int} (h : mostI pl f c l ≠ 0) : ∃ y ∈ l, pl y < c ∧ f y = mostI pl f c l := by
  unfold mostI at h ⊢
  have e : (l.filter fun y => decide (pl y < c)).map f ≠ [] := fun z => h (by rw [z]; rfl)
  obtain ⟨y, hy, e2⟩ := List.mem_map.mp (maxI_in (d := 0) e)
  obtain ⟨h1, h2⟩ := List.mem_filter.mp hy
  exact ⟨y, h1, of_decide_eq_true h2, e2⟩
def StrD (pl : Int → Int) (s : List Int) : Prop := s.Pairwise fun x y => pl y < pl x
/-- the greedy walk's set: straight, of the greatest weight, and the first of those by the places nx (falling) -/
theorem greedy (nx : Int → Int) : ∀ (l : List Int) (c : Int), Tall pl wf f l → (∀ x ∈ l, 0 < wf x) → l.Pairwise (fun a b => nx b < nx a) →
    (∀ y ∈ grL f wf (mostI pl f c l) l, pl y < c) ∧ StrD pl (grL f wf (mostI pl f c l) l) ∧ ((grL f wf (mostI pl f c l) l).map wf).sum = mostI pl f c l ∧
    ∀ s : List Int, s.Sublist l → StrD pl s → (∀ y ∈ s, pl y < c) → (s.map wf).sum ≤ mostI pl f c l ∧ ((s.map wf).sum = mostI pl f c l → s = grL f wf (mostI pl f c l) l ∨ s.map nx < (grL f wf (mostI pl f c l) l).map nx)
  | [], c, _, _, _ => by
    refine ⟨(fun y hy => by cases hy), List.Pairwise.nil, rfl, fun s hs _ _ => ?_⟩
    rw [List.eq_nil_of_sublist_nil hs]
    exact ⟨Int.le_refl _, fun _ => .inl rfl⟩
  | x :: r, c, ht, hw, hn => by
    have hw' : ∀ z ∈ r, 0 < wf z := fun z hz => hw z (List.mem_cons_of_mem _ hz)
    have hn' := (List.pairwise_cons.mp hn).2
    have hnx := (List.pairwise_cons.mp hn).1
    have hfp : ∀ y ∈ x :: r, 0 < f y := fun y hy => by
      have a := tall_pos ht hw y hy
      have b := hw y hy
      omega
    have hxw := hw x List.mem_cons_self
    have hfx : f x = wf x + mostI pl f (pl x) r := ht.1
    have ihc := greedy nx r c ht.2 hw' hn'
    have ihx := greedy nx r (pl x) ht.2 hw' hn'
    -- s begins with x or not
    have spl : ∀ s : List Int, s.Sublist (x :: r) → s.Sublist r ∨ ∃ s', s = x :: s' ∧ s'.Sublist r := fun s hs => by
      cases hs with
      | cons _ h => exact .inl h
      | cons_cons _ h => exact .inr ⟨_, rfl, h⟩
    -- with x first
    have top : ∀ s' : List Int, s'.Sublist r → StrD pl (x :: s') → ((x :: s').map wf).sum ≤ f x ∧ (((x :: s').map wf).sum = f x → s' = grL f wf (mostI pl f (pl x) r) r ∨ s'.map nx < (grL f wf (mostI pl f (pl x) r) r).map nx) := fun s' h1 h2 => by
      obtain ⟨p1, p2⟩ := List.pairwise_cons.mp h2
      obtain ⟨q1, q2⟩ := ihx.2.2.2 s' h1 p2 p1
      rw [List.map_cons, List.sum_cons]
      exact ⟨by omega, fun e => q2 (by omega)⟩
    by_cases hc : pl x < c
    · rw [most_cons_in hc hfp]
      have hmr : 0 ≤ mostI pl f c r := maxI_pos fun z hz => by
        obtain ⟨u, hu, rfl⟩ := List.mem_map.mp hz
        exact hfp u (List.mem_cons_of_mem _ (List.mem_filter.mp hu).1)
      by_cases hx : f x = max (f x) (mostI pl f c r)
      · rw [← hx]
        have eg : grL f wf (f x) (x :: r) = x :: grL f wf (mostI pl f (pl x) r) r := by
          rw [grL, if_pos rfl]
          congr 2
          omega
        rw [eg]
        obtain ⟨i1, i2, i3, i4⟩ := ihx
        refine ⟨fun y hy => ?_, List.pairwise_cons.mpr ⟨i1, i2⟩, by rw [List.map_cons, List.sum_cons, i3]; omega, fun s hs hst hsc => ?_⟩
        · rcases List.mem_cons.mp hy with e | e
          · rw [e]; exact hc
          · have := i1 y e; omega
        · rcases spl s hs with h | ⟨s', rfl, h⟩
          · have a := (ihc.2.2.2 s h hst hsc).1
            refine ⟨by omega, fun e => .inr ?_⟩
            cases s with
            | nil =>
              have := hfp x List.mem_cons_self
              rw [List.map_nil, List.sum_nil] at e; omega
            | cons y s' =>
              rw [List.map_cons, List.map_cons]
              exact List.cons_lt_cons_iff.mpr (.inl (hnx y (h.subset List.mem_cons_self)))
          · obtain ⟨t1, t2⟩ := top s' h hst
            refine ⟨t1, fun e => ?_⟩
            rcases t2 e with q | q
            · exact .inl (by rw [q])
            · rw [List.map_cons, List.map_cons]
              exact .inr (List.cons_lt_cons_iff.mpr (.inr ⟨rfl, q⟩))
      · have em : max (f x) (mostI pl f c r) = mostI pl f c r := by omega
        have hlt : f x < mostI pl f c r := by omega
        rw [em]
        have eg : grL f wf (mostI pl f c r) (x :: r) = grL f wf (mostI pl f c r) r := by rw [grL, if_neg (by omega)]
        rw [eg]
        obtain ⟨i1, i2, i3, i4⟩ := ihc
        refine ⟨i1, i2, i3, fun s hs hst hsc => ?_⟩
        rcases spl s hs with h | ⟨s', rfl, h⟩
        · exact i4 s h hst hsc
        · obtain ⟨t1, _⟩ := top s' h hst
          exact ⟨by omega, fun e => by omega⟩
    · rw [most_cons_out hc]
      have hne : f x ≠ mostI pl f c r := fun e => by
        have h0 := hfp x List.mem_cons_self
        obtain ⟨y, hy, hyc, ey⟩ := most_in (pl := pl) (f := f) (c := c) (l := r) (by omega)
        have := tall_key ht hy (by omega)
        omega
      have eg : grL f wf (mostI pl f c r) (x :: r) = grL f wf (mostI pl f c r) r := by rw [grL, if_neg hne]
      rw [eg]
      obtain ⟨i1, i2, i3, i4⟩ := ihc
      refine ⟨i1, i2, i3, fun s hs hst hsc => ?_⟩
      rcases spl s hs with h | ⟨s', rfl, h⟩
      · exact i4 s h hst hsc
      · exact absurd (hsc x List.mem_cons_self) hc
end
theorem bestG_gr (f wf : Int → Int) : ∀ (l : List Int) (acc : List Int) (m : Int), (l.foldl (bestS f wf) (acc, m)).1 = acc ++ grL f wf m l
  | [], acc, m => by rw [grL, List.append_nil]; rfl
  | x :: r, acc, m => by
    rw [List.foldl_cons, grL]
    unfold bestS
    by_cases h : f x = m
    · rw [if_pos h, if_pos h]
      show (r.foldl (bestS f wf) (acc ++ [x], m - wf x)).1 = _
      rw [bestG_gr f wf r, List.append_assoc]; rfl
    · rw [if_neg h, if_neg h]
      exact bestG_gr f wf r acc m
theorem bestG_eq (f wf : Int → Int) (m : Int) (l : List Int) : (bestG f wf m l).1 = grL f wf m l := by
  unfold bestG
  rw [bestG_gr, List.nil_append]
/-! ### the levels of the reversed lists -/
theorem topI_at {pl wf : Int → Int} {a b : List Int} {x : Int} (nd : (a ++ x :: b).Nodup) : topI pl wf (a ++ x :: b) x = (levS pl wf (levF pl wf a) x).2 := by
  unfold topI
  have hx : x ∉ a := fun h => (List.nodup_append.mp nd).2.2 x h x List.mem_cons_self rfl
  have e : (a ++ x :: b).idxOf x = a.length := by
    rw [List.idxOf_append, if_neg hx, List.idxOf_cons_self, Nat.zero_add]
  rw [e, List.take_left]
theorem levF_map {pl wf : Int → Int} {l : List Int} (nd : l.Nodup) : ∀ (a b : List Int), l = a ++ b → levF pl wf a = a.map fun y => (pl y, topI pl wf l y) := by
  intro a
  refine foldr_snoc (p := fun a => ∀ b, l = a ++ b → levF pl wf a = a.map fun y => (pl y, topI pl wf l y)) (fun b _ => rfl) (fun a x ih b e => ?_) a
  show levF pl wf (a ++ [x]) = (a ++ [x]).map _
  have e2 : l = a ++ x :: b := by rw [e, List.append_assoc]; rfl
  rw [lev_snoc, ih (x :: b) e2, List.map_append]
  congr 1
  have q : topI pl wf l x = (levS pl wf (levF pl wf a) x).2 := by
    rw [e2]
    exact topI_at (by rw [← e2]; exact nd)
  rw [ih (x :: b) e2] at q
  show [levS pl wf (a.map fun y => (pl y, topI pl wf l y)) x] = [(pl x, topI pl wf l x)]
  rw [q]; rfl
/-- the level of an id by the ones ahead of it -/
theorem topI_step {pl wf : Int → Int} {l a b : List Int} {x : Int} (nd : l.Nodup) (e : l = a ++ x :: b) : topI pl wf l x = wf x + maxI 0 ((a.filter fun y => decide (pl y < pl x)).map (topI pl wf l)) := by
  have q : topI pl wf l x = (levS pl wf (levF pl wf a) x).2 := by
    have nd2 := nd
    rw [e] at nd2 ⊢
    exact topI_at nd2
  rw [q, levF_map nd a _ e]
  show wf x + maxI 0 (((a.map fun y => (pl y, topI pl wf l y)).filter fun e => decide (e.1 < pl x)).map Prod.snd) = _
  rw [List.filter_map, List.map_map]
  rfl
theorem tall_rev {pl wf : Int → Int} {ids : List Int} (nd : ids.Nodup) : Tall pl wf (topI pl wf ids.reverse) ids := by
  have nr : ids.reverse.Nodup := ((List.reverse_perm ids).nodup_iff).mpr nd
  have go : ∀ (l c : List Int), ids = c ++ l → Tall pl wf (topI pl wf ids.reverse) l := by
    intro l
    induction l with
    | nil => intro c _; exact True.intro
    | cons x r ih =>
      intro c e
      refine ⟨?_, ih (c ++ [x]) (by rw [e, List.append_assoc]; rfl)⟩
      have e2 : ids.reverse = r.reverse ++ x :: c.reverse := by
        rw [e]; simp
      rw [topI_step nr e2]
      congr 1
      refine maxI_set fun z => ?_
      simp only [List.mem_map, List.mem_filter, List.mem_reverse]
  exact go ids [] rfl
def sumW (wo : Option (List (Int × Int))) (ids : List Int) : Int := (ids.map (wtI wo)).sum
/-! ### the greedy set is the best by weight, favoured ids, places -/
theorem idx_lt {l : List Int} {x : Int} (h : x ∈ l) : l.idxOf x < l.length := List.idxOf_lt_length_of_mem h
theorem at_idx {l : List Int} {x : Int} (h : x ∈ l) : l[l.idxOf x]? = some x := by
  rw [List.getElem?_eq_getElem (idx_lt h), List.getElem_idxOf]
theorem ixI_rev {bs : List Int} (nb : bs.Nodup) {x : Int} (h : x ∈ bs) : ixI bs.reverse x = (bs.length : Int) - 1 - ixI bs x := by
  have h1 := idx_lt h
  have h2 : bs.reverse[bs.length - 1 - bs.idxOf x]? = some x := by
    rw [List.getElem?_reverse (by omega)]
    have : bs.length - 1 - (bs.length - 1 - bs.idxOf x) = bs.idxOf x := by omega
    rw [this]
    exact at_idx h
  unfold ixI
  rw [idx_of_at (((List.reverse_perm bs).nodup_iff).mpr nb) h2]
  omega
theorem ixI_bound {bs : List Int} {x : Int} (h : x ∈ bs) : 0 ≤ ixI bs x ∧ ixI bs x < (bs.length : Int) := by
  have := idx_lt h
  unfold ixI
  omega
/-- ids in the sequence of both orders -/
def Strt (bs : List Int) (s : List Int) : Prop := s.Pairwise fun x y => ixI bs x < ixI bs y
theorem strD_iff {bs s : List Int} (nb : bs.Nodup) (h : ∀ x ∈ s, x ∈ bs) : StrD (ixI bs.reverse) s ↔ Strt bs s := by
  unfold StrD Strt
  constructor
  · intro q
    refine q.imp_of_mem fun {a b} ha hb z => ?_
    rw [ixI_rev nb (h a ha), ixI_rev nb (h b hb)] at z
    omega
  · intro q
    refine q.imp_of_mem fun {a b} ha hb z => ?_
    rw [ixI_rev nb (h a ha), ixI_rev nb (h b hb)]
    omega
theorem nx_pair {ids : List Int} (nd : ids.Nodup) : ids.Pairwise fun a b => (0 - ixI ids b) < (0 - ixI ids a) := by
  have h : ids.Pairwise fun a b => ixI ids a < ixI ids b := by
    refine List.pairwise_iff_getElem.mpr fun i j hi hj hij => ?_
    unfold ixI
    rw [nd.idxOf_getElem i hi, nd.idxOf_getElem j hj]
    omega
  exact h.imp fun z => by omega
theorem best_main {bs ids : List Int} {wf : Int → Int} (nb : bs.Nodup) (nd : ids.Nodup) (sub : ∀ x ∈ ids, x ∈ bs) (hw : ∀ x ∈ ids, 0 < wf x) :
    (bestF bs ids wf).Sublist ids ∧ Strt bs (bestF bs ids wf) ∧ ∀ s : List Int, s.Sublist ids → Strt bs s → (s.map wf).sum ≤ ((bestF bs ids wf).map wf).sum ∧
      ((s.map wf).sum = ((bestF bs ids wf).map wf).sum → s = bestF bs ids wf ∨ (s.map fun x => 0 - ixI ids x) < (bestF bs ids wf).map fun x => 0 - ixI ids x) := by
  have hsub := best_sublist (tallF bs ids wf) wf (maxI 0 (ids.reverse.map (tallF bs ids wf))) ids
  obtain ⟨c, hc⟩ : ∃ c : Int, c = (bs.length : Int) := ⟨_, rfl⟩
  have hlt : ∀ x ∈ ids, ixI bs.reverse x < c := fun x hx => by
    have := ixI_bound (bs := bs.reverse) (List.mem_reverse.mpr (sub x hx))
    rw [List.length_reverse] at this
    omega
  have em : maxI 0 (ids.reverse.map (tallF bs ids wf)) = mostI (ixI bs.reverse) (tallF bs ids wf) c ids := by
    refine maxI_set fun z => ?_
    simp only [List.mem_map, List.mem_filter, List.mem_reverse]
    constructor
    · rintro ⟨a, h, e⟩
      exact ⟨a, ⟨h, decide_eq_true (hlt a h)⟩, e⟩
    · rintro ⟨a, ⟨h, _⟩, e⟩
      exact ⟨a, h, e⟩
  have eb : bestF bs ids wf = grL (tallF bs ids wf) wf (mostI (ixI bs.reverse) (tallF bs ids wf) c ids) ids := by
    unfold bestF
    rw [bestG_eq, em]
  obtain ⟨g1, g2, g3, g4⟩ := greedy (pl := ixI bs.reverse) (wf := wf) (f := tallF bs ids wf) (fun x => 0 - ixI ids x) ids c (tall_rev nd) hw (nx_pair nd)
  rw [← eb] at g1 g2 g3 g4
  have hin : ∀ x ∈ bestF bs ids wf, x ∈ bs := fun x hx => sub x (hsub.subset hx)
  refine ⟨hsub, (strD_iff nb hin).mp g2, fun s hs hst => ?_⟩
  have hsin : ∀ x ∈ s, x ∈ bs := fun x hx => sub x (hs.subset hx)
  rw [g3]
  exact g4 s hs ((strD_iff nb hsin).mpr hst) fun y hy => hlt y (hs.subset hy)
/-- how many are favoured -/
def cntI (fav s : List Int) : Int := ((s.filter fun x => decide (x ∈ fav)).length : Nat)
theorem cnt_bound (fav s : List Int) : 0 ≤ cntI fav s ∧ cntI fav s ≤ (s.length : Int) := by
  unfold cntI
  have := List.length_filter_le (fun x => decide (x ∈ fav)) s
  omega
theorem worth_sum (wo : Option (List (Int × Int))) (n : Nat) (fav : List Int) : ∀ s : List Int, (s.map (worthI wo n fav)).sum = sumW wo s * ((n : Int) + 1) + cntI fav s
  | [] => by unfold sumW cntI; simp
  | x :: s => by
    have ih := worth_sum wo n fav s
    unfold sumW cntI at ih ⊢
    rw [List.map_cons, List.sum_cons, ih, List.map_cons, List.sum_cons, Int.add_mul]
    unfold worthI
    by_cases h : x ∈ fav
    · rw [if_pos h, List.filter_cons_of_pos (by exact decide_eq_true h), List.length_cons]
      omega
    · rw [if_neg h, List.filter_cons_of_neg (by intro z; exact h (of_decide_eq_true z))]
      omega
/-- the law's comparison: weight, favoured ids, places -/
def kLt (wo : Option (List (Int × Int))) (fav ids a b : List Int) : Prop := sumW wo a < sumW wo b ∨ (sumW wo a = sumW wo b ∧ (cntI fav a < cntI fav b ∨ (cntI fav a = cntI fav b ∧ (a.map fun x => 0 - ixI ids x) < b.map fun x => 0 - ixI ids x)))
instance (wo : Option (List (Int × Int))) (fav ids a b : List Int) : Decidable (kLt wo fav ids a b) := by unfold kLt; exact inferInstance
theorem kLt_asymm {wo : Option (List (Int × Int))} {fav ids a b : List Int} (h : kLt wo fav ids a b) : ¬ kLt wo fav ids b a := by
  unfold kLt at h ⊢
  intro q
  have hl : (a.map fun x => 0 - ixI ids x) < (b.map fun x => 0 - ixI ids x) → (b.map fun x => 0 - ixI ids x) < (a.map fun x => 0 - ixI ids x) → False := fun h1 h2 => List.lt_irrefl _ (List.lt_trans h1 h2)
  rcases h with h | ⟨h1, h | ⟨h2, h⟩⟩ <;> rcases q with q | ⟨q1, q | ⟨q2, q⟩⟩ <;> first | omega | exact hl h q
theorem best_kLt {bs ids fav : List Int} {wo : Option (List (Int × Int))} (nb : bs.Nodup) (nd : ids.Nodup) (sub : ∀ x ∈ ids, x ∈ bs) (hw : ∀ x ∈ ids, 1 ≤ wtI wo x) {s : List Int} (hs : s.Sublist ids) (hst : Strt bs s) :
    s = bestF bs ids (worthI wo ids.length fav) ∨ kLt wo fav ids s (bestF bs ids (worthI wo ids.length fav)) := by
  have hw0 : ∀ x ∈ ids, 0 < worthI wo ids.length fav x := fun x hx => by
    have h1 := hw x hx
    unfold worthI
    have : 0 < wtI wo x * ((ids.length : Int) + 1) := Int.mul_pos (by omega) (by omega)
    split <;> omega
  obtain ⟨b1, b2, b3⟩ := best_main nb nd sub hw0
  obtain ⟨q1, q2⟩ := b3 s hs hst
  rw [worth_sum, worth_sum] at q1 q2
  obtain ⟨g, hg⟩ : ∃ g, g = bestF bs ids (worthI wo ids.length fav) := ⟨_, rfl⟩
  rw [← hg] at q1 q2 b1 ⊢
  have c1 := cnt_bound fav s
  have c2 := cnt_bound fav g
  have l1 := hs.length_le
  have l2 := b1.length_le
  rcases Int.lt_trichotomy (sumW wo s) (sumW wo g) with h | h | h
  · exact .inr (.inl h)
  · rw [h] at q1 q2
    rcases Int.lt_trichotomy (cntI fav s) (cntI fav g) with z | z | z
    · exact .inr (.inr ⟨h, .inl z⟩)
    · rcases q2 (by omega) with e | e
      · exact .inl e
      · exact .inr (.inr ⟨h, .inr ⟨z, e⟩⟩)
    · omega
  · have m : (sumW wo g + 1) * ((ids.length : Int) + 1) ≤ sumW wo s * ((ids.length : Int) + 1) := Int.mul_le_mul_of_nonneg_right (by omega) (by omega)
    rw [Int.add_mul, Int.one_mul] at m
    omega
/-! ### a search through all sets -/
def setsL (l : List Int) : List (List Int) := l.foldl (fun acc x => acc ++ acc.map (· ++ [x])) [[]]
theorem sets_snoc (l : List Int) (x : Int) : setsL (l ++ [x]) = setsL l ++ (setsL l).map (· ++ [x]) := by
  unfold setsL
  rw [List.foldl_append]; rfl
theorem sets_len (l : List Int) : (setsL l).length = 2 ^ l.length := by
  refine foldr_snoc (p := fun l => (setsL l).length = 2 ^ l.length) rfl (fun l x ih => ?_) l
  show (setsL (l ++ [x])).length = 2 ^ (l ++ [x]).length
  rw [sets_snoc, List.length_append, List.length_map, ih, List.length_append]
  show 2 ^ l.length + 2 ^ l.length = 2 ^ (l.length + 1)
  rw [Nat.pow_succ]
  omega
theorem sets_mem (l : List Int) : ∀ s, s ∈ setsL l ↔ s.Sublist l := by
  refine foldr_snoc (p := fun l => ∀ s, s ∈ setsL l ↔ s.Sublist l) (fun s => ?_) (fun l x ih s => ?_) l
  · show s ∈ [[]] ↔ s.Sublist []
    rw [List.mem_singleton, List.sublist_nil]
  · show s ∈ setsL (l ++ [x]) ↔ s.Sublist (l ++ [x])
    rw [sets_snoc, List.mem_append, List.mem_map, ih s]
    constructor
    · rintro (h | ⟨t, h, rfl⟩)
      · exact h.trans (List.sublist_append_left _ _)
      · exact ((ih t).mp h).append (List.Sublist.refl _)
    · intro h
      obtain ⟨a, b, rfl, ha, hb⟩ := List.sublist_append_iff.mp h
      cases hb with
      | cons _ hb =>
        rw [List.sublist_nil.mp hb, List.append_nil]
        exact .inl ha
      | cons_cons _ hb =>
        rw [List.sublist_nil.mp hb]
        exact .inr ⟨a, (ih a).mpr ha, rfl⟩
def stepB (wo : Option (List (Int × Int))) (fav bs ids : List Int) (acc : Option (List Int)) (s : List Int) : Option (List Int) :=
  if (s.map (ixI bs)) = (s.map (ixI bs)).mergeSort (fun a b => decide (a ≤ b)) then match acc with
    | none => some s
    | some b => if kLt wo fav ids b s then some s else some b
  else acc
theorem sorted_iff {bs s : List Int} (hs : s.Nodup) (h : ∀ x ∈ s, x ∈ bs) : (s.map (ixI bs)) = (s.map (ixI bs)).mergeSort (fun a b => decide (a ≤ b)) ↔ Strt bs s := by
  have inj : ∀ x ∈ s, ∀ y ∈ s, ixI bs x = ixI bs y → x = y := fun x hx y hy e => by
    have a := at_idx (h x hx)
    have b := at_idx (h y hy)
    unfold ixI at e
    rw [Int.ofNat.inj e, b] at a
    exact (Option.some.inj a).symm
  have le := List.pairwise_mergeSort (le := fun a b : Int => decide (a ≤ b)) (fun a b c x y => decide_eq_true (Int.le_trans (of_decide_eq_true x) (of_decide_eq_true y))) (fun a b => by
      rcases Int.le_total a b with q | q
      · rw [decide_eq_true q]; rfl
      · rw [decide_eq_true q, Bool.or_true]) (s.map (ixI bs))
  constructor
  · intro e
    rw [← e] at le
    have le2 := List.pairwise_map.mp le
    have both := hs.and le2
    refine both.imp_of_mem fun {a b} ha hb z => ?_
    have z2 : ixI bs a ≤ ixI bs b := of_decide_eq_true z.2
    have : ixI bs a ≠ ixI bs b := fun e => z.1 (inj a ha b hb e)
    omega
  · intro st
    refine (List.mergeSort_of_pairwise (List.pairwise_map.mpr (st.imp fun z => decide_eq_true (by omega)))).symm
theorem search {wo : Option (List (Int × Int))} {fav bs ids g : List Int} (hg : (g.map (ixI bs)) = (g.map (ixI bs)).mergeSort (fun a b => decide (a ≤ b))) : ∀ (R : List (List Int)) (acc : Option (List Int)),
    (∀ s ∈ R, (s.map (ixI bs)) = (s.map (ixI bs)).mergeSort (fun a b => decide (a ≤ b)) → s = g ∨ kLt wo fav ids s g) → (g ∈ R ∨ acc = some g) → (∀ b, acc = some b → b = g ∨ kLt wo fav ids b g) → R.foldl (stepB wo fav bs ids) acc = some g
  | [], acc, _, h, _ => by
    rcases h with h | h
    · cases h
    · exact h
  | s :: R, acc, hR, h, hacc => by
    rw [List.foldl_cons]
    have hR' := fun t ht => hR t (List.mem_cons_of_mem _ ht)
    have irr : ¬ kLt wo fav ids g g := fun z => kLt_asymm z z
    -- the step keeps what is asked
    have key : (s = g → stepB wo fav bs ids acc s = some g) ∧ (acc = some g → stepB wo fav bs ids acc s = some g) ∧ (∀ b, stepB wo fav bs ids acc s = some b → b = g ∨ kLt wo fav ids b g) := by
      unfold stepB
      refine ⟨fun e => ?_, fun e => ?_, fun b => ?_⟩
      · subst e
        rw [if_pos hg]
        cases acc with
        | none => rfl
        | some b =>
          show (if kLt wo fav ids b s then some s else some b) = some s
          rcases hacc b rfl with q | q
          · rw [q]; split <;> rfl
          · rw [if_pos q]
      · subst e
        split
        · rename_i hs
          show (if kLt wo fav ids g s then some s else some g) = some g
          rcases hR s List.mem_cons_self hs with q | q
          · rw [q, if_neg irr]
          · rw [if_neg (kLt_asymm q)]
        · rfl
      · split
        · rename_i hs
          have qs := hR s List.mem_cons_self hs
          cases acc with
          | none =>
            intro e
            rw [← Option.some.inj e]; exact qs
          | some c =>
            show (if kLt wo fav ids c s then some s else some c) = some b → _
            intro e
            split at e
            · rw [← Option.some.inj e]; exact qs
            · rw [← Option.some.inj e]; exact hacc c rfl
        · exact hacc b
    obtain ⟨k1, k2, k3⟩ := key
    refine search hg R _ hR' ?_ k3
    rcases h with h | h
    · rcases List.mem_cons.mp h with e | e
      · exact .inr (k1 e.symm)
      · exact .inl e
    · exact .inr (k2 h)
/-- what the search finds is what the greedy walk finds -/
theorem search_best {bs ids fav : List Int} {wo : Option (List (Int × Int))} (nb : bs.Nodup) (nd : ids.Nodup) (sub : ∀ x ∈ ids, x ∈ bs) (hw : ∀ x ∈ ids, 1 ≤ wtI wo x) :
    (setsL ids).foldl (stepB wo fav bs ids) none = some (bestF bs ids (worthI wo ids.length fav)) := by
  have hw0 : ∀ x ∈ ids, 0 < worthI wo ids.length fav x := fun x hx => by
    have h1 := hw x hx
    unfold worthI
    have : 0 < wtI wo x * ((ids.length : Int) + 1) := Int.mul_pos (by omega) (by omega)
    split <;> omega
  obtain ⟨b1, b2, _⟩ := best_main nb nd sub hw0
  have sb : ∀ {s : List Int}, s.Sublist ids → s.Nodup ∧ ∀ x ∈ s, x ∈ bs := fun h => ⟨nd.sublist h, fun x hx => sub x (h.subset hx)⟩
  refine search ((sorted_iff (sb b1).1 (sb b1).2).mpr b2) _ _ (fun s hs e => ?_) (.inl ((sets_mem ids _).mpr b1)) (fun b z => by cases z)
  have h1 := (sets_mem ids s).mp hs
  exact best_kLt nb nd sub hw h1 ((sorted_iff (sb h1).1 (sb h1).2).mp e)
/-! ### _law_sets: all sets of ids -/
theorem RowsAt.cat {H : Hp} {a b c : Addr} {r1 r2 : List (List Int)} (R1 : RowsAt H a r1) (R2 : RowsAt H b r2) (hc : H c = none) : ∃ xs ys, H a = some (.lst xs) ∧ H b = some (.lst ys) ∧ xs.length = r1.length ∧ ys.length = r2.length ∧ RowsAt (upd H c (.lst (xs ++ ys))) c (r1 ++ r2) := by
  obtain ⟨ps, h1, h2, h3⟩ := R1
  obtain ⟨qs, g1, g2, g3⟩ := R2
  refine ⟨ps.map V.ref, qs.map V.ref, h1, g1, by rw [List.length_map, h2], by rw [List.length_map, g2], ps ++ qs, by rw [upd_same, List.map_append], by rw [List.length_append, List.length_append, h2, g2], fun i p r e1 e2 => ?_⟩
  have key : H p = some (.lst (r.map V.int)) := by
    by_cases hi : i < ps.length
    · rw [List.getElem?_append_left hi] at e1
      rw [List.getElem?_append_left (by omega)] at e2
      exact (h3 i p r e1 e2).1
    · rw [List.getElem?_append_right (by omega)] at e1
      rw [List.getElem?_append_right (by omega)] at e2
      rw [h2] at e1
      exact (g3 _ p r e1 e2).1
  have hne := ne_of_none key hc
  exact ⟨by rw [upd_ne hne]; exact key, hne⟩
theorem RowsAt.at {H : Hp} {a : Addr} {rows : List (List Int)} (R : RowsAt H a rows) : ∃ ps : List Addr, H a = some (.lst (ps.map V.ref)) ∧ ps.length = rows.length ∧ ∀ (i : Nat) (y : V), (ps.map V.ref)[i]? = some y → ∃ p r, y = .ref p ∧ rows[i]? = some r ∧ H p = some (.lst (r.map V.int)) ∧ p ≠ a := by
  obtain ⟨ps, h1, h2, h3⟩ := R
  refine ⟨ps, h1, h2, fun i y hy => ?_⟩
  rw [List.getElem?_map] at hy
  cases q : ps[i]? with
  | none => rw [q] at hy; cases hy
  | some p =>
    rw [q] at hy
    have hi := (List.getElem?_eq_some_iff.mp q).1
    obtain ⟨z1, z2⟩ := h3 i p rows[i] q (List.getElem?_eq_getElem (by omega))
    exact ⟨p, _, (Option.some.inj hy).symm, List.getElem?_eq_getElem (by omega), z1, z2⟩
section
variable {P : Program} {w : World} {K : PySem.W.Frag} {mg : Str → Option Value} {base : Heap}
def iotaI (n : Nat) : List Int := (List.range n).map fun (i : Nat) => (i : Int)
theorem iota_len (n : Nat) : (iotaI n).length = n := by unfold iotaI; rw [List.length_map, List.length_range]
theorem iota_snoc (n : Nat) : iotaI (n + 1) = iotaI n ++ [(n : Int)] := by unfold iotaI; rw [List.range_succ, List.map_append]; rfl
def spSubsets : Sp := fun vs H Q _ => ∃ (n : Nat), vs = [.int n] ∧ n ≤ 12 ∧ ∀ (q : Addr) (H' : Hp), Same H H' → RowsAt H' q (setsL (iotaI n)) → Q (.ref q) H'
abbrev NSu : List Str := ["size", "found", "place", "places"]
theorem scSubsets : FnScope NSu ["size"] (defScope sSubsets) := ⟨rfl, rfl, rfl, by decide +kernel, rfl, by decide +kernel, by decide +kernel⟩
theorem ok_subsets {f : Addr} {fd : FuncData} (F : Fun K "_law_subsets" "_law_subsets" sSubsets f fd) (T : mg "range" = none) : FnOk P w K mg base CX0 1 f fd ["size"] spSubsets := by
  refine F.ok scSubsets (fun vs H Q E h => ?_) (fun cdv A outer s H vs Q E hr h => ?_)
  · obtain ⟨n, rfl, _⟩ := h
    rfl
  · obtain ⟨n, rfl, hn, k⟩ := h
    have hu := hu_of hr
    refine ⟨_, pss_cons (ps_set (i := 1) scSubsets.nd rfl (Or.inl rfl) (pe_lst (pa_cons (pe_lst pa_nil) pa_nil)))
      (pss_cons (ps_for PassesOwn.never rfl (pi_range1 rfl T (pa_cons (pv 0) pa_nil)) (pg_name (i := 2) scSubsets.nd rfl (Or.inr rfl))
        (pss_one (ps_set (i := 1) scSubsets.nd rfl (Or.inl rfl) (pe_op op_cat (pv 1) (pe_lc (own := [("places", 3)]) (tt := tYes) (g := gName 3) rfl scSubsets.nd (pi_list (pv 1)) (blkOk_by (N := NSu) (sc := defScope sSubsets) (by decide +kernel))
          (fun _ _ _ _ _ => pg_name (i := 3) scSubsets.nd rfl (Or.inl rfl)) (fun _ _ _ _ _ => pts_nil) (fun _ _ _ _ _ => pe_op op_cat (pv 3) (pe_lst (pa_cons (pv 2) pa_nil))))))))
      (pss_one (ps_ret (pv 1)))), ?_⟩
    have h16 : sizeLine = 16777216 := sizeLine_eq
    refine ⟨Nat.zero_le _, fun e he => ⟨by show 1 ≤ sizeLine; decide, fun fo hfo => ?_⟩⟩
    have se := Same.new (o := .lst []) he
    have R0 : RowsAt (upd (upd H e (.lst [])) fo (.lst [.ref e])) fo (setsL []) := by
      have hne : e ≠ fo := ne_of_none upd_same hfo
      refine ⟨[e], upd_same, rfl, fun i p r e1 e2 => ?_⟩
      cases i with
      | zero =>
        obtain rfl : e = p := Option.some.inj e1
        obtain rfl : ([] : List Int) = r := Option.some.inj e2
        exact ⟨by rw [upd_ne hne, upd_same]; rfl, hne⟩
      | succ j => cases e1
    have s0 : Same H (upd (upd H e (.lst [])) fo (.lst [.ref e])) := se.trans (Same.new hfo)
    generalize (upd (upd H e (.lst [])) fo (.lst [.ref e]) : Hp) = H0 at R0 s0 ⊢
    refine ⟨_, rfl, (n : Int), rfl, by omega, by omega, ?_⟩
    refine for_range (lo := 0) (n := ((n : Int)).toNat) (fun i σ H' => ∃ (fo : Addr) (v2 : Option V), σ = [some (.int n), some (.ref fo), v2, none] ∧ Same H H' ∧ RowsAt H' fo (setsL (iotaI i)) ∧ i ≤ n)
      ⟨fo, none, rfl, s0, R0, Nat.zero_le _⟩ ?_ ?_
    · rintro i σ H1 hi ⟨fo, v2, rfl, s1, R1, hil⟩
      have hil2 : i < n := by omega
      obtain ⟨x, hxi⟩ : ∃ x : Int, x = 0 + (i : Int) := ⟨_, rfl⟩
      rw [← hxi]
      obtain ⟨rows, hrows⟩ : ∃ rows, rows = setsL (iotaI i) := ⟨_, rfl⟩
      have hrl : rows.length ≤ 4096 := by
        rw [hrows, sets_len, iota_len]
        have : i ≤ 12 := by omega
        have := Nat.pow_le_pow_right (n := 2) (by decide) this
        omega
      have hrm : ∀ r ∈ rows, r.length ≤ 12 := fun r hr => by
        rw [hrows] at hr
        have := ((sets_mem _ r).mp hr).length_le
        rw [iota_len] at this
        omega
      have ens : setsL (iotaI (i + 1)) = rows ++ rows.map (· ++ [x]) := by rw [iota_snoc, sets_snoc, hrows, hxi, Int.zero_add]
      rw [← hrows] at R1
      rw [ens]
      obtain ⟨ps, hps, hpl, hpa⟩ := R1.at
      refine ⟨_, rfl, _, rfl, fo, rfl, ⟨_, SqL.of hps⟩, fun D hD => ?_⟩
      refine lc_list (K := K) (a := fo) (xs := ps.map V.ref) (fun j H' => Same H1 H' ∧ RowsAt H' D ((rows.take j).map (· ++ [x])) ∧ j ≤ rows.length) ⟨Same.new hD, by rw [List.take_zero]; exact RowsAt.nil upd_same, Nat.zero_le _⟩ (fun j H' _ q => SqL.of (q.1 _ _ hps)) ?_ ?_
      · rintro j y H2 hj ⟨s2, R2, hjl⟩
        obtain ⟨p, r, rfl, hr, hp, _⟩ := hpa j y hj
        have hjl2 : j < rows.length := (List.getElem?_eq_some_iff.mp hr).1
        have hrm2 := hrm r (List.mem_of_getElem? hr)
        refine ⟨rfl, _, rfl, _, rfl, by show 1 ≤ sizeLine; decide, fun z hz => ?_⟩
        have sz := Same.new (o := .lst [V.int x]) hz
        have hp3 : (upd H2 z (.lst [V.int x])) p = some (.lst (r.map V.int)) := sz _ _ (s2 _ _ hp)
        have hz3 : (upd H2 z (.lst [V.int x])) z = some (.lst [V.int x]) := upd_same
        have R3 := R2.same sz
        generalize (upd H2 z (.lst [V.int x]) : Hp) = H3 at sz hp3 hz3 R3 ⊢
        refine ⟨p, z, _, _, rfl, rfl, hp3, hz3, by rw [List.length_map, h16]; show _ + 1 ≤ _; omega, fun c hc => ?_⟩
        have er : r.map V.int ++ [V.int x] = (r ++ [x]).map V.int := by rw [List.map_append]; rfl
        rw [er]
        have sc := Same.new (o := .lst ((r ++ [x]).map V.int)) hc
        have hC : (upd H3 c (.lst ((r ++ [x]).map V.int))) c = some (.lst ((r ++ [x]).map V.int)) := upd_same
        have hcD : c ≠ D := by
          obtain ⟨ps3, q1, _⟩ := R3
          exact (ne_of_none q1 hc).symm
        have R4 := R3.same sc
        generalize (upd H3 c (.lst ((r ++ [x]).map V.int)) : Hp) = H4 at sc hC R4 ⊢
        obtain ⟨xs, q1, q2, q3⟩ := R4.push hC hcD
        refine ⟨xs, q1, by rw [q2, List.length_map, List.length_take, h16]; omega, fun b u q => by rw [upd_ne (ne_of_none q hD)]; exact sc _ _ (sz _ _ (s2 _ _ q)), ?_, hjl2⟩
        rw [take_snoc hr, List.map_append]
        exact q3
      · rintro H2 ⟨s2, R2, _⟩
        rw [List.length_map, hpl, List.take_length] at R2
        have R1' := R1.same s2
        have hcat := fun c hc => R1'.cat R2 (c := c) hc
        obtain ⟨xs, hxs, hxl, _⟩ := id R1'
        obtain ⟨ys, hys, hyl, _⟩ := id R2
        refine ⟨fo, D, _, _, rfl, rfl, hxs, hys, by rw [List.length_map, List.length_map, hxl, hyl, List.length_map, h16]; omega, fun c hc => ?_⟩
        obtain ⟨xs', ys', e1, e2, _, _, R5⟩ := hcat c hc
        rw [hxs] at e1
        rw [hys] at e2
        cases e1
        cases e2
        exact ⟨c, _, rfl, s1.trans (s2.trans (Same.new hc)), R5, hil2⟩
    · rintro σ H1 ⟨fo, v2, rfl, s1, R1, _⟩
      rw [Int.toNat_natCast] at R1
      exact ⟨_, rfl, k fo H1 s1 R1⟩
end
theorem lex_neg {f : Int → Int} (hf : ∀ x, 1 ≤ f x) : ∀ p b : List Int, (p.map f).sum = (b.map f).sum → (p < b ↔ (b.map fun x => 0 - x) < (p.map fun x => 0 - x))
  | [], [], _ => Iff.rfl
  | [], y :: b, h => by
    exfalso
    have hp : ∀ l : List Int, 0 ≤ (l.map f).sum := fun l => by
      induction l with
      | nil => exact Int.le_refl _
      | cons a l ih => rw [List.map_cons, List.sum_cons]; have := hf a; omega
    have h1 := hp b
    have h2 := hf y
    rw [List.map_nil, List.map_cons, List.sum_cons, List.sum_nil] at h
    omega
  | x :: p, [], h => by
    exfalso
    have hp : ∀ l : List Int, 0 ≤ (l.map f).sum := fun l => by
      induction l with
      | nil => exact Int.le_refl _
      | cons a l ih => rw [List.map_cons, List.sum_cons]; have := hf a; omega
    have h1 := hp p
    have h2 := hf x
    rw [List.map_nil, List.map_cons, List.sum_cons, List.sum_nil] at h
    omega
  | x :: p, y :: b, h => by
    rw [List.map_cons, List.map_cons, List.cons_lt_cons_iff, List.cons_lt_cons_iff]
    by_cases e : x = y
    · subst e
      rw [List.map_cons, List.map_cons, List.sum_cons, List.sum_cons] at h
      have ih := lex_neg hf p b (by omega)
      constructor
      · rintro (q | ⟨_, q⟩)
        · omega
        · exact .inr ⟨rfl, ih.mp q⟩
      · rintro (q | ⟨_, q⟩)
        · omega
        · exact .inr ⟨rfl, ih.mpr q⟩
    · constructor
      · rintro (q | ⟨q, _⟩)
        · exact .inl (by omega)
        · exact absurd q e
      · rintro (q | ⟨q, _⟩)
        · exact .inl (by omega)
        · exact absurd (by omega) e
def getI (ids : List Int) (i : Int) : Int := (ids[i.toNat]?).getD 0
def atP (ids p : List Int) : List Int := p.map (getI ids)
theorem at_iota (ids : List Int) : atP ids (iotaI ids.length) = ids := by
  unfold atP iotaI
  rw [List.map_map]
  refine List.ext_getElem? fun i => ?_
  rw [List.getElem?_map]
  by_cases h : i < ids.length
  · rw [List.getElem?_range h, List.getElem?_eq_getElem h]
    show some (getI ids (i : Int)) = _
    unfold getI
    rw [Int.toNat_natCast, List.getElem?_eq_getElem h]; rfl
  · rw [List.getElem?_eq_none (by rw [List.length_range]; omega), List.getElem?_eq_none (by omega)]; rfl
theorem sets_map (f : Int → Int) (l : List Int) : setsL (l.map f) = (setsL l).map (List.map f) := by
  refine foldr_snoc (p := fun l => setsL (l.map f) = (setsL l).map (List.map f)) rfl (fun l x ih => ?_) l
  show setsL ((l ++ [x]).map f) = (setsL (l ++ [x])).map (List.map f)
  rw [List.map_append, sets_snoc, List.map_append, List.map_map]
  show setsL (l.map f ++ [f x]) = _
  rw [sets_snoc, ih, List.map_map]
  congr 1
  refine List.map_congr_left fun s _ => ?_
  show s.map f ++ [f x] = (s ++ [x]).map f
  rw [List.map_append]; rfl
theorem mem_iota {n : Nat} {i : Int} (h : i ∈ iotaI n) : ∃ k : Nat, k < n ∧ i = (k : Int) := by
  unfold iotaI at h
  obtain ⟨k, hk, rfl⟩ := List.mem_map.mp h
  exact ⟨k, List.mem_range.mp hk, rfl⟩
theorem get_at {ids : List Int} {k : Nat} (h : k < ids.length) : ids[k]? = some (getI ids (k : Int)) := by
  unfold getI
  rw [Int.toNat_natCast, List.getElem?_eq_getElem h]; rfl
theorem ix_get {ids : List Int} (nd : ids.Nodup) {i : Int} (h : i ∈ iotaI ids.length) : ixI ids (getI ids i) = i := by
  obtain ⟨k, hk, rfl⟩ := mem_iota h
  unfold ixI
  rw [idx_of_at nd (get_at hk)]
theorem get_in {ids : List Int} {i : Int} (h : i ∈ iotaI ids.length) : getI ids i ∈ ids := by
  obtain ⟨k, hk, rfl⟩ := mem_iota h
  exact List.mem_of_getElem? (get_at hk)
def isStr41 (bs s : List Int) : Prop := (s.map (ixI bs)) = (s.map (ixI bs)).mergeSort (fun a b => decide (a ≤ b))
instance (bs s : List Int) : Decidable (isStr41 bs s) := by unfold isStr41; exact inferInstance
def pLt (wo : Option (List (Int × Int))) (ids p b : List Int) : Prop := sumW wo (atP ids b) < sumW wo (atP ids p) ∨ (sumW wo (atP ids p) = sumW wo (atP ids b) ∧ p < b)
instance (wo : Option (List (Int × Int))) (ids p b : List Int) : Decidable (pLt wo ids p b) := by unfold pLt; exact inferInstance
def stepP (wo : Option (List (Int × Int))) (bs ids : List Int) (acc : Option (List Int)) (p : List Int) : Option (List Int) :=
  if isStr41 bs (atP ids p) then match acc with
    | none => some p
    | some b => if pLt wo ids p b then some p else some b
  else acc
theorem cnt_nil (s : List Int) : cntI [] s = 0 := by
  unfold cntI
  induction s with
  | nil => rfl
  | cons x s ih => first | (rw [List.filter_cons_of_neg (by simp)]; exact ih) | (simp at ih ⊢)
theorem pLt_iff {wo : Option (List (Int × Int))} {ids p b : List Int} (nd : ids.Nodup) (hw : ∀ x, 1 ≤ wtI wo x) (hp : p.Sublist (iotaI ids.length)) (hb : b.Sublist (iotaI ids.length)) : pLt wo ids p b ↔ kLt wo [] ids (atP ids b) (atP ids p) := by
  unfold pLt kLt
  rw [cnt_nil, cnt_nil]
  have neg : ∀ {q : List Int}, q.Sublist (iotaI ids.length) → (atP ids q).map (fun x => 0 - ixI ids x) = q.map fun x => 0 - x := fun {q} hq => by
    unfold atP
    rw [List.map_map]
    exact List.map_congr_left fun i hi => by show 0 - ixI ids (getI ids i) = _; rw [ix_get nd (hq.subset hi)]
  rw [neg hp, neg hb]
  have sum : ∀ q : List Int, sumW wo (atP ids q) = (q.map fun i => wtI wo (getI ids i)).sum := fun q => by
    unfold sumW atP
    rw [List.map_map]; rfl
  constructor
  · rintro (h | ⟨h, l⟩)
    · exact .inl h
    · exact .inr ⟨h.symm, .inr ⟨rfl, (lex_neg (f := fun i => wtI wo (getI ids i)) (fun i => hw _) p b (by rw [← sum, ← sum, h])).mp l⟩⟩
  · rintro (h | ⟨h, q | ⟨_, l⟩⟩)
    · exact .inl h
    · exact absurd q (Int.lt_irrefl _)
    · exact .inr ⟨h.symm, (lex_neg (f := fun i => wtI wo (getI ids i)) (fun i => hw _) p b (by rw [← sum, ← sum, h])).mpr l⟩
theorem search_at {wo : Option (List (Int × Int))} {bs ids : List Int} (nb : bs.Nodup) (nd : ids.Nodup) (sub : ∀ x ∈ ids, x ∈ bs) (hw : ∀ x, 1 ≤ wtI wo x) :
    ∃ p, (setsL (iotaI ids.length)).foldl (stepP wo bs ids) none = some p ∧ p.Sublist (iotaI ids.length) ∧ atP ids p = bestF bs ids (worthI wo ids.length []) := by
  have hs := search_best (fav := []) nb nd sub fun x _ => hw x
  have e : setsL ids = (setsL (iotaI ids.length)).map (atP ids) := by
    have := sets_map (getI ids) (iotaI ids.length)
    have h2 := at_iota ids
    unfold atP at h2
    rw [h2] at this
    exact this
  rw [e] at hs
  have gen : ∀ (l : List (List Int)), (∀ s ∈ l, s.Sublist (iotaI ids.length)) → ∀ acc : Option (List Int), (∀ b, acc = some b → b.Sublist (iotaI ids.length)) →
      (l.map (atP ids)).foldl (stepB wo [] bs ids) (acc.map (atP ids)) = (l.foldl (stepP wo bs ids) acc).map (atP ids) ∧ ∀ b, l.foldl (stepP wo bs ids) acc = some b → b.Sublist (iotaI ids.length) := by
    intro l
    induction l with
    | nil => intro _ acc ha; exact ⟨rfl, ha⟩
    | cons s l ih =>
      intro hl acc ha
      have hsS := hl s List.mem_cons_self
      rw [List.map_cons, List.foldl_cons, List.foldl_cons]
      have one : stepB wo [] bs ids (acc.map (atP ids)) (atP ids s) = (stepP wo bs ids acc s).map (atP ids) ∧ ∀ b, stepP wo bs ids acc s = some b → b.Sublist (iotaI ids.length) := by
        unfold stepB stepP
        by_cases c : isStr41 bs (atP ids s)
        · rw [if_pos c]
          have c' : ((atP ids s).map (ixI bs)) = ((atP ids s).map (ixI bs)).mergeSort (fun a b => decide (a ≤ b)) := c
          rw [if_pos c']
          cases acc with
          | none => exact ⟨rfl, fun b z => by cases z; exact hsS⟩
          | some b0 =>
            have hb0 := ha b0 rfl
            show (if kLt wo [] ids (atP ids b0) (atP ids s) then some (atP ids s) else some (atP ids b0)) = (if pLt wo ids s b0 then some s else some b0).map (atP ids) ∧ ∀ b, (if pLt wo ids s b0 then some s else some b0) = some b → _
            have hk := pLt_iff nd hw hsS hb0
            by_cases g : pLt wo ids s b0
            · rw [if_pos g, if_pos (hk.mp g)]
              exact ⟨rfl, fun b z => by cases z; exact hsS⟩
            · rw [if_neg g, if_neg (fun z => g (hk.mpr z))]
              exact ⟨rfl, fun b z => by cases z; exact hb0⟩
        · rw [if_neg c]
          have c' : ¬ ((atP ids s).map (ixI bs)) = ((atP ids s).map (ixI bs)).mergeSort (fun a b => decide (a ≤ b)) := c
          rw [if_neg c']
          exact ⟨rfl, ha⟩
      rw [one.1]
      exact ih (fun s hs => hl s (List.mem_cons_of_mem _ hs)) _ one.2
  obtain ⟨g1, g2⟩ := gen (setsL (iotaI ids.length)) (fun s hs => (sets_mem _ s).mp hs) none (fun b z => by cases z)
  have g1 : ((setsL (iotaI ids.length)).map (atP ids)).foldl (stepB wo [] bs ids) none = _ := g1
  rw [hs] at g1
  cases q : (setsL (iotaI ids.length)).foldl (stepP wo bs ids) none with
  | none => rw [q] at g1; cases g1
  | some p =>
    rw [q] at g1
    exact ⟨p, rfl, g2 p q, (Option.some.inj g1).symm⟩
/-! ### a weight -/
section
variable {P : Program} {w : World} {K : PySem.W.Frag} {mg : Str → Option Value} {base : Heap}
def spWeight : Sp := fun vs H Q _ => ∃ (v : V) (x : Int) (wo : Option (List (Int × Int))), vs = [v, .int x] ∧ WtAt H v wo ∧ Q (.int (wtI wo x)) H
theorem scWeight : FnScope ["scale", "row"] ["scale", "row"] (defScope sWeight) := ⟨rfl, rfl, rfl, by decide +kernel, rfl, by decide +kernel, by decide +kernel⟩
theorem ok_weight {f : Addr} {fd : FuncData} (F : Fun K "_law_weight" "_law_weight" sWeight f fd) : FnOk P w K mg base CX0 1 f fd ["scale", "row"] spWeight := by
  refine F.ok scWeight (fun vs H Q E h => ?_) (fun cdv A outer s H vs Q E hr h => ?_)
  · obtain ⟨v, x, wo, rfl, _⟩ := h
    rfl
  · obtain ⟨v, x, wo, rfl, hw, k⟩ := h
    have hu := hu_of hr
    refine ⟨_, pss_one (ps_ret (pe_ifExp (pt_cmpR op_isN (pv 0) pe_non (nomark _)) pe_int (pe_dget2 hu (pv 0) (pv 1) pe_int ⟨rfl, rfl, rfl, rfl⟩))), ?_⟩
    rcases hw with ⟨rfl, rfl⟩ | ⟨d, ws, rfl, rfl, hd⟩
    · exact ⟨_, rfl, rfl, _, rfl, iteT k⟩
    · refine ⟨_, rfl, rfl, _, rfl, iteF ?_⟩
      refine ⟨_, rfl, d, rfl, .inl ⟨_, .inl hd⟩, _, rfl, _, DGet.k (k := (.inl x : Key)) hd, ?_⟩
      have ev : (valV (pinK ws) (.inl x : Key)).getD (.int 1) = .int (wtI (some ws) x) := by
        rw [val_pin]
        show _ = V.int ((anOf ws x).getD 1)
        cases anOf ws x <;> rfl
      rw [ev]
      exact k
end
/-! ### numbers sorted -/
theorem sJ1 (js : List Int) : PySem.W.AllAlike (js.map fun z => PyData.int z) := PySem.W.AllAlike.of fun b b' => alike_int b b'
theorem sJ2 (js : List Int) : PySem.W.Sortable (js.map fun z => PyData.int z) := PySem.W.Sortable.others (enc := fun z : Int => PyData.int z) (fun b => ⟨fun z => (by cases z), fun xs z => (by cases z)⟩)
theorem sJ3 (z : Int) : (PyData.int z).depth ≤ 40 := by rw [PyData.depth]; decide
def leJ (a b : Int) : Bool := decide (a ≤ b)
theorem sJ4 (js : List Int) : js.mergeSort (PySem.W.dataLe false fun z => PyData.int z) = js.mergeSort leJ := by rw [PySem.W.dataLe_int]; rfl
theorem sortJ {a b : List Int} (h : a.Perm b) : a.mergeSort leJ = b.mergeSort leJ := by
  have up : ∀ l : List Int, (l.mergeSort leJ).Pairwise (fun x y => x ≤ y) := fun l => by
    have := List.pairwise_mergeSort (le := leJ) (fun a b c x y => decide_eq_true (Int.le_trans (of_decide_eq_true x) (of_decide_eq_true y))) (fun a b => by
      unfold leJ
      rcases Int.le_total a b with q | q
      · rw [decide_eq_true q]; rfl
      · rw [decide_eq_true q, Bool.or_true]) l
    exact this.imp fun z => of_decide_eq_true z
  exact List.Perm.eq_of_pairwise (le := fun x y => x ≤ y) (fun x y _ _ h1 h2 => Int.le_antisymm h1 h2) (up a) (up b) (((List.mergeSort_perm _ _).trans h).trans (List.mergeSort_perm _ _).symm)
/-! ### sorted(d.items()) -/
def rItemsK : V → List V → Hp → VK → Prop := fun x xs H Q => ∃ (a : Addr) (kvs : List (Key × V)), x = .ref a ∧ xs = [] ∧ H a = some (.dK kvs) ∧ ∀ p, H p = none → Q (.ref p) (upd H p (DX.itemsO p a))
/-- a pair of numbers, and where it stands -/
def encI (b : Addr × Int × Int) : PyData := .tuple [.int b.2.1, .int b.2.2]
def rSortItems : List V → Hp → VK → Prop := fun vs H Q => ∃ (r a : Addr) (ps : List (Int × Int)), vs = [.ref r] ∧ H r = some (DX.itemsO r a) ∧ H a = some (.dK (pinK ps)) ∧
  ∀ (H' : Hp) (p : Addr) (ts : List Addr), Same H H' → H p = none → (∀ t ∈ ts, H t = none) → ts.length = ps.length → (∀ b ∈ ts.zip ps, H' b.1 = some (.tup [.int b.2.1, .int b.2.2])) → H' p = some (.lst (((ts.zip ps).mergeSort (PySem.W.dataLe false encI)).map fun b => .ref b.1)) → Q (.ref p) H'
theorem alike_encI (b b' : Addr × Int × Int) : PySem.W.alike (encI b) (encI b') = true := by
  unfold encI
  simp [PySem.W.alike, PySem.W.alikeAll]
theorem depth_encI (b : Addr × Int × Int) : (encI b).depth ≤ 3 := by
  unfold encI
  simp [PyData.depth, PyData.depthAll]
section
variable {X : Cx}
theorem mt_itemsK : MtR X "dict.items" rItemsK := by
  intro pins s σ H x xs v us Q I rx rxs h
  obtain ⟨a, kvs, rfl, rfl, ha, q⟩ := h
  cases rx
  cases rxs
  obtain ⟨_, hsys, vs, rel, dof⟩ := dk_of I.hok ha
  obtain ⟨ep, dat⟩ := dof.dictAt
  obtain ⟨ob, es, ho, ex, hdat, hko, hpr, hnd⟩ := dat
  refine call_meetsIn F.slot_dict_items ⟨ob, ho, ex.1⟩ F.entry_dict_items (F.args_dict_items_1 _) (meets_dict_items (mixKind X.prog X.w) a hsys) ⟨⟨vs, dof⟩, ?_⟩
  exact ⟨.ref s.heap.objs.size, upd H s.heap.objs.size (DX.itemsO s.heap.objs.size a), I.laid (t' := s.toks) (fun b u e => Heap.get?_push_of_some _ e) (Nat.le_refl _) (DX.itemsO_ok (Heap.get?_push_size _ rfl)), rfl, q _ (I.hok.fresh (Nat.le_refl _))⟩
theorem tups_laid {pins : List (Addr × Obj)} {σ : L2.St} {H : Hp} {s : Shared} {h' : Heap} {tk : Nat} {kvs : List (Key × V)} {vs : List (Key × Value)} {as : List Addr} (I : L2.Inv X pins σ H s) (kv : KV kvs vs)
    (hk : ∀ b o, s.heap.get? b = some o → h'.get? b = some o) (hl : as.length = vs.length) (hG : PySem.W.KdxG (mixKind X.prog X.w) vs s.heap.objs.size h' as) :
    ∃ H' : Hp, Same H H' ∧ (∀ t ∈ as, H t = none) ∧ (∀ b, b ∉ as → H' b = H b) ∧ Paired (fun (t : Addr) (q : Key × V) => H' t = some (.tup [kV q.1, q.2])) as kvs ∧ L2.Inv X pins σ H' { s with heap := h', toks := tk } := by
  have lk : kvs.length = vs.length := Paired.length kv
  have nd : as.Nodup := List.Pairwise.imp (fun {a b} (h : a < b) => Nat.ne_of_lt h) hG.rise
  have new : ∀ t ∈ as, H t = none := fun t ht => I.hok.fresh (Nat.le_of_lt (hG.above t ht))
  have atP := LiI.putT_at as kvs H (by omega) nd
  have off : ∀ b, b ∉ as → LiI.putT H as kvs b = H b := fun b h1 => LiI.putT_off as kvs _ h1
  have low : ∀ b o, s.heap.get? b = some o → b ∉ as := fun b o e z => absurd (Heap.lt_size e) (Nat.not_lt.mpr (Nat.le_of_lt (hG.above b z)))
  have kp : ∀ b u, H b = some u → LiI.putT H as kvs b = some u := fun b u e => by
    rw [off b (fun z => by rw [new b z] at e; cases e)]
    exact e
  refine ⟨LiI.putT H as kvs, kp, new, off, atP, ?_⟩
  refine I.call' (ch := []) rfl ⟨fun b o q _ _ _ => hk b o q, fun b o q _ _ _ => ⟨o.slots, hk b o q⟩, fun b o q n _ => ?_, fun b o q _ => ⟨o, hk b o q⟩, fun b xs q => kp b _ q, fun b o u q => kp b _ q, fun b ps q => ⟨#[], by rw [kp b _ q]; simp⟩⟩ (fun b u q => ?_) I.bare fun b z => by simp at z
  · rw [off b (low b o q)]
    exact n
  · by_cases hb : b ∈ as
    · obtain ⟨j, pk, e1, e2, e3⟩ := LiI.paired_ix atP hb
      rw [e3] at q
      cases q
      obtain ⟨key, k, x, f1, f2, f3⟩ := hG.pairs j b e1
      obtain ⟨qv, g1, g2, g3⟩ := LiI.paired_get kv e2
      rw [f1] at g1
      cases g1
      have rk : RelV (kV pk.1) key := by
        rw [g2]
        exact relV_key (show keyIs k key = true from f2)
      exact ⟨by show 2 ≤ sizeLine; decide, [key, x], .cons rk (.cons g3 .nil), ⟨_, f3, rfl, _, rfl⟩⟩
    · rw [off b hb] at q
      exact (I.hok b u q).stay (fun d v _ y => hk d v y) (fun d y => kp d _ y) fun d xs y => kp d _ y
theorem tup_reads {pins : List (Addr × Obj)} {σ : L2.St} {H : Hp} {s : Shared} {t : Addr} {i j : Int} (I : L2.Inv X pins σ H s) (h : H t = some (.tup [.int i, .int j])) : Reads s.heap (.ref t) (.tuple [.int i, .int j]) [] := by
  obtain ⟨_, us, r, o, ho, hc, n, hd⟩ := I.hok t _ h
  obtain ⟨u1, u2, rfl, r1, r2⟩ := Vals.two r
  obtain ⟨t1, rfl⟩ := r1
  obtain ⟨t2, rfl⟩ := r2
  exact .tuple ho hc hd (.cons (.int i t1) (.cons (.int j t2) .nil))
theorem cr_sortItems (hc : X.calm = true) (hu : X.A.units + 64 < cLine) : CallR X (.builtin "sorted") rSortItems := by
  intro pins s σ H vs us Q I r h
  obtain ⟨p, a, ps, rfl, hp, ha, q⟩ := h
  obtain rfl := Vals.ref1 r
  obtain ⟨hz, hsys, ws, rel, dof⟩ := dk_of I.hok ha
  obtain ⟨ep, dat⟩ := dof.dictAt
  obtain ⟨hview, _, _⟩ : L2.ObjOk X.prog X.w H s.heap p (DX.itemsO p a) := I.hok p _ hp
  have lk : (pinK ps).length = ws.length := Paired.length rel
  refine PyProof.Rows.call_function_entry_kw kind_sorted plain_sorted entry_sorted (args_sorted1 _) ?_
  unfold Builtin.«sorted»
  refine wpAny_bind (m := checkCount "sorted" 1 1 _) (wpAny_pure ?_)
  refine wpAny_bind (PySem.W.kdx_collect (knd := mixKind X.prog X.w) (kvs := ws) (ep := ep) (A := X.A.in1) (I.ok.hd hc) hview dat (by omega) fun h' tk as hk hl hG => ?_)
  obtain ⟨H', kS, kn, off, hP, I2⟩ := tups_laid (tk := tk) I rel hk hl hG
  have hlen : as.length = ps.length := by rw [hl, ← lk, pin_len]
  have nS : ∀ b, s.heap.objs.size ≤ b → H b = none := fun b hb => I.hok.fresh hb
  refine wpAny_bind (wpAny_newList ?_ (by rw [List.length_map]; omega))
  have ho : (h'.push (seqObj "list" (as.map Value.ref).toArray 0)).get? h'.objs.size = some (seqObj "list" (as.map Value.ref).toArray 0) := Heap.get?_push_size _ rfl
  refine wpAny_bind (wpAny_holding ?_)
  have hL0 : H' h'.objs.size = none := I2.hok.fresh (Nat.le_refl _)
  have hL1 : H h'.objs.size = none := by
    cases e : H h'.objs.size with
    | none => rfl
    | some o => rw [kS _ _ e] at hL0; cases hL0
  have hbs : (as.zip ps).map (fun b => b.1) = as := List.map_fst_zip (by omega)
  have tup : ∀ b ∈ as.zip ps, H' b.1 = some (.tup [.int b.2.1, .int b.2.2]) := by
    intro b hb
    obtain ⟨i, hi⟩ := List.mem_iff_getElem?.mp hb
    rw [List.getElem?_zip_eq_some] at hi
    obtain ⟨kv, e1, e2⟩ := LiI.paired_get hP hi.1
    have e3 : (pinK ps)[i]? = some ((.inl b.2.1 : Key), V.int b.2.2) := by unfold pinK; rw [List.getElem?_map, hi.2]; rfl
    rw [e3] at e1
    cases e1
    exact e2
  have each : ∀ (bs : List (Addr × Int × Int)), PySem.W.EachIs (fun u b => RelV (V.ref b.1) u) ((bs.map fun b => b.1).map Value.ref) bs := by
    intro bs
    induction bs with
    | nil => exact .nil
    | cons b r ih => exact .cons rfl ih
  have each2 : ∀ (bs : List (Addr × Int × Int)), (∀ b ∈ bs, H' b.1 = some (.tup [.int b.2.1, .int b.2.2])) → PySem.W.EachIs (fun u b => ∃ xs, Reads (h'.push (seqObj "list" (as.map Value.ref).toArray 0)) u (encI b) xs ∧ h'.objs.size ∉ xs) ((bs.map fun b => b.1).map Value.ref) bs := by
    intro bs
    induction bs with
    | nil => intro _; exact .nil
    | cons b r ih =>
      intro hb
      exact .cons ⟨[], Reads.keeps (fun _ _ q => Heap.get?_push_of_some _ q) (tup_reads I2 (hb b List.mem_cons_self)), fun z => by cases z⟩ (ih fun c hc => hb c (List.mem_cons_of_mem _ hc))
  have ea := each (as.zip ps)
  have eb := each2 (as.zip ps) tup
  rw [hbs] at ea eb
  refine PySem.W.list_sort_data (A := X.A.in1) (s := { s with heap := h'.push (seqObj "list" (as.map Value.ref).toArray 0), toks := tk }) (enc := encI) ho ea eb ?_ ?_ (by rw [List.length_zip]; omega) (fun b _ => ?_) fun out hol hout => ?_
  · exact PySem.W.AllAlike.of alike_encI
  · exact PySem.W.Sortable.tuples fun b => ⟨_, _, rfl⟩
  · have := depth_encI b
    show X.A.units + 1 + 1 + (encI b).depth < cLine
    omega
  · obtain ⟨n, hn⟩ := PyProof.Rows.sortedHeap_at (out := out.toArray) ho
    have k : ∀ b u, h'.get? b = some u → (sortedHeap (h'.push (seqObj "list" (as.map Value.ref).toArray 0)) h'.objs.size (as.map Value.ref) out.toArray).get? b = some u := fun b u e => by
      have hb := Heap.lt_size e
      rw [sortedHeap_old (Nat.ne_of_lt hb) (by rw [size_push']; exact Nat.lt_succ_of_lt hb)]
      exact Heap.get?_push_of_some _ e
    refine wpAny_pure ⟨_, rfl, ?_⟩
    have hvals := vals_each (val := fun b : Addr × Int × Int => V.ref b.1) hout
    refine ⟨.ref h'.objs.size, upd H' h'.objs.size (.lst (((as.zip ps).mergeSort (PySem.W.dataLe false encI)).map fun b => V.ref b.1)), I2.laid (t' := tk) k (Nat.le_refl _) ⟨?_, out, n, hvals, hn⟩, rfl, ?_⟩
    · rw [List.length_map, List.length_mergeSort, List.length_zip]
      omega
    · refine q _ _ as (fun b u e => ?_) hL1 kn hlen (fun b hb => ?_) upd_same
      · rw [upd_ne (ne_of_none (kS _ _ e) hL0)]
        exact kS _ _ e
      · rw [upd_ne (ne_of_none (tup b hb) hL0)]
        exact tup b hb
end
/-! ### sorted(a list or a tuple of ints) -/
def rSortQ (K : PySem.W.Frag) : List V → Hp → VK → Prop := fun xs H Q => ∃ (a : Addr) (ns : List Int), xs = [.ref a] ∧ (SqL K H a (ns.map V.int) ∨ SqT K H a (ns.map V.int)) ∧
  ∀ p, H p = none → Q (.ref p) (upd H p (.lst ((ns.mergeSort leJ).map V.int)))
section
variable {X : Cx}
theorem call_sortQ (hc : X.calm = true) (hu : X.A.units + 64 < cLine) : CallR X (.builtin "sorted") (rSortQ X.K) := by
  intro pins s σ H xs us Q I r h
  obtain ⟨a, ns, rfl, hS, q⟩ := h
  obtain ⟨u, rfl, ru⟩ := vals1 r
  obtain rfl : u = Value.ref a := ru
  obtain ⟨T, its, o, n, hT, rv, ho, hcl, hdt, hz⟩ : ∃ (T : String) (its : List Value) (o : Obj) (n : Nat), (T = "list" ∨ T = "tuple") ∧ Vals (ns.map V.int) its ∧ s.heap.get? a = some o ∧ o.cls = .type T ∧ o.data = .seq its.toArray n ∧ its.length ≤ sizeLine := by
    rcases hS with hS | hS
    · obtain ⟨its, rv, ⟨o, n, ho, hcl, _, hdt⟩, hz⟩ := I.list hS
      exact ⟨"list", its, o, n, .inl rfl, rv, ho, hcl, hdt, by rw [← rv.length]; exact hz⟩
    · obtain ⟨its, rv, ⟨o, ho, hcl, n, hdt⟩, hz⟩ := I.tuple hS
      exact ⟨"tuple", its, o, n, .inr rfl, rv, ho, hcl, hdt, by rw [← rv.length]; exact hz⟩
  refine PyProof.Rows.call_function_entry_kw kind_sorted plain_sorted entry_sorted (args_sorted1 _) ?_
  unfold Builtin.«sorted»
  refine wpAny_bind (m := checkCount "sorted" 1 1 _) (wpAny_pure ?_)
  refine wpAny_bind (wpAny_collect_seq a hT ho hcl hdt (fun h' hk => ?_) (by rw [List.size_toArray]; exact hz))
  have I2 : L2.Inv X pins σ H { s with heap := h' } := I.kept (t' := s.toks) fun b ob e => hk b ob e
  have ei : its.toArray.toList = its := by simp
  rw [ei]
  have hlen := rv.length
  rw [List.length_map] at hlen
  refine wpAny_bind (wpAny_newList ?_ hz)
  have ho2 : (h'.push (seqObj "list" its.toArray 0)).get? h'.objs.size = some (seqObj "list" its.toArray 0) := Heap.get?_push_size _ rfl
  refine wpAny_bind (wpAny_holding ?_)
  have e := each_vals (val := V.int) rv
  have e2 : ∀ {us : List Value} {bs : List Int}, PySem.W.EachIs (fun u b => RelV (V.int b) u) us bs → PySem.W.EachIs (fun u b => ∃ as, Reads (h'.push (seqObj "list" its.toArray 0)) u (PyData.int b) as ∧ h'.objs.size ∉ as) us bs := by
    intro us bs z
    induction z with
    | nil => exact .nil
    | cons r _ ih =>
      obtain ⟨t, rfl⟩ := r
      exact .cons ⟨[], .int _ t, fun z => by cases z⟩ ih
  refine PySem.W.list_sort_data (A := X.A.in1) (s := { s with heap := h'.push (seqObj "list" its.toArray 0) }) (enc := fun z : Int => PyData.int z) ho2 e (e2 e) (sJ1 ns) (sJ2 ns) (by omega) (fun b _ => ?_) fun out hol hout => ?_
  · have := sJ3 b
    show X.A.units + 1 + 1 + (PyData.int b).depth < cLine
    omega
  · obtain ⟨m, hm⟩ := PyProof.Rows.sortedHeap_at (out := out.toArray) ho2
    have k : ∀ b u, h'.get? b = some u → (sortedHeap (h'.push (seqObj "list" its.toArray 0)) h'.objs.size its out.toArray).get? b = some u := fun b u e => by
      have hb := Heap.lt_size e
      rw [sortedHeap_old (Nat.ne_of_lt hb) (by rw [size_push']; exact Nat.lt_succ_of_lt hb)]
      exact Heap.get?_push_of_some _ e
    refine wpAny_pure ⟨_, rfl, ?_⟩
    have hvals := vals_each (val := V.int) hout
    have hq := q h'.objs.size (I2.hok.fresh (Nat.le_refl _))
    rw [sJ4] at hvals
    refine ⟨.ref h'.objs.size, upd H h'.objs.size (.lst ((ns.mergeSort leJ).map V.int)), I2.laid (t' := s.toks) k (Nat.le_refl _) ⟨?_, out, m, hvals, hm⟩, rfl, hq⟩
    rw [List.length_map, List.length_mergeSort]
    omega
end
section
variable {X : Cx} {K : PySem.W.Frag} {T id : String} {name : Str} {r : V → List V → Hp → VK → Prop} {o e : Expr} {es : List Expr} {to : TE} {t : TA} {apos cpos : Pos}
/-- a method call, the context's K told apart -/
theorem pe_bmK (hK : X.K = K) (pa : PlainAttrs T) (slot : Slot T name id) (hty : typeOf (.builtin id) = pure (.type "method_descriptor")) (hm : MtR X id r) (ho : PE X o to) (ha : PA X (e :: es) t)
    (q1 : attributeBase o name X.env (eval o X.env) = eval o X.env := by rfl)
    (q2 : ((backTo cpos (starEach (e :: es) X.env)).all (fun x => !x.1) && (backToKw cpos (keywordEach [] X.env)).all (fun x => x.1.isSome) && decide ((e :: es).length + ([] : List Keyword).length + (if ([] : List Keyword).isEmpty then 0 else 1) < 30)) = true := by rfl)
    (q3 : (apos.endLine == cpos.line) = true := by rfl) (q4 : starEach (e :: es) X.env = (false, eval e X.env) :: starEach es X.env := by rfl) (q5 : (backTo cpos (starEach es X.env)).any (·.1) = false := by rfl) :
    PE X (.Call (.Attribute o name apos) (e :: es) [] cpos) (tBM K T r to t) := by
  subst hK
  exact pe_bm pa slot hty hm ho ha q1 q2 q3 q4 q5
end
theorem mt_indexK {X : Cx} {K : PySem.W.Frag} (h : X.K = K) : MtR X "list.index" (rIndex K) := by
  subst h
  exact mt_index
/-! ### _law_best of places: the search through all sets of places -/
theorem op_in_K41 {X : Cx} {K : PySem.W.Frag} (h : X.K = K) : OpR X (compareOp .In) (rIn K false) := by
  subst h
  exact op_in_seq
theorem ix_listK41 {X : Cx} {K : PySem.W.Frag} (h : X.K = K) : IxR X (rIxL K) := by
  subst h
  exact ix_list
def encB (w c : Int) (p : List Int) : PyData := .list [.int w, .int c, .list (p.map .int)]
theorem alike_encB (w c : Int) (p : List Int) (w' c' : Int) (p' : List Int) : PySem.W.alike (encB w c p) (encB w' c' p') = true := by
  unfold encB
  have h : PySem.W.alike (.list (p.map .int)) (.list (p'.map .int)) = true := by
    rw [PySem.W.alike]
    exact PySem.W.alike_ints p p'
  rw [PySem.W.alike, PySem.W.alikeAll, PySem.W.alikeAll, PySem.W.alikeAll, PySem.W.alikeAll, h, alike_int, alike_int]
  rfl
theorem lt_encB (w c : Int) (p : List Int) (w' c' : Int) (p' : List Int) : PySem.W.dataLt (encB w c p) (encB w' c' p') = decide (w < w' ∨ (w = w' ∧ (c < c' ∨ (c = c' ∧ p < p')))) := by
  have h : PySem.W.alike (.list (p.map .int)) (.list (p'.map .int)) = true := by
    rw [PySem.W.alike]
    exact PySem.W.alike_ints p p'
  unfold encB
  have hl : PySem.W.dataLt (.list (p.map .int)) (.list (p'.map .int)) = decide (p < p') := by
    rw [PySem.W.dataLt_list]
    exact PySem.W.dataLt_ints p p'
  have he : PyData.eqv (.list (p.map .int)) (.list (p'.map .int)) = decide (p = p') := by
    rw [PyData.eqv]
    exact eqvAll_ints p p'
  have h0 : PySem.W.rowLt [] [] = false := by
    have := PySem.W.dataLt_ints [] []
    rw [List.map_nil] at this
    rw [this]
    exact decide_eq_false (List.lt_irrefl _)
  unfold PySem.W.rowLt at h0
  rw [PySem.W.dataLt_list, PySem.W.dataLt_cons (alike_int _ _), PySem.W.dataLt_cons (alike_int _ _), PySem.W.dataLt_cons h, PySem.W.dataLt_int, PySem.W.dataLt_int, hl, he, h0]
  simp only [PyData.eqv, beq_iff_eq, decide_eq_true_eq]
  have h3 : (if p = p' then false else decide (p < p')) = decide (p < p') := by
    by_cases z : p = p'
    · rw [if_pos z, z, decide_eq_false (List.lt_irrefl _)]
    · rw [if_neg z]
  rw [h3]
  by_cases h1 : w = w' <;> by_cases h2 : c = c' <;> simp [h1, h2]
/-- the best one so far, in the heap -/
def encT (w c : Int) (p : List Int) : PyData := .tuple [.int w, .int c, .list (p.map .int)]
theorem alike_encT (w c : Int) (p : List Int) (w' c' : Int) (p' : List Int) : PySem.W.alike (encT w c p) (encT w' c' p') = true := by
  unfold encT
  simp [PySem.W.alike, PySem.W.alikeAll, PySem.W.alike_ints]
theorem lt_encT (w c : Int) (p : List Int) (w' c' : Int) (p' : List Int) : PySem.W.dataLt (encT w c p) (encT w' c' p') = decide (w < w' ∨ (w = w' ∧ (c < c' ∨ (c = c' ∧ p < p')))) := by
  have h := lt_encB w c p w' c' p'
  unfold encB at h
  unfold encT
  rw [PySem.W.dataLt_list] at h
  rw [PySem.W.dataLt_tuple]
  exact h
theorem depth_encT (w c : Int) (p : List Int) : (encT w c p).depth ≤ 40 := by
  unfold encT
  rw [PyData.depth, PyData.depthAll, PyData.depthAll, PyData.depthAll, PyData.depthAll, PyData.depth, PyData.depth, PyData.depth]
  have := depthAll_ints p
  omega
theorem dv_ints41 {K : PySem.W.Frag} {H : Hp} : ∀ ks : List Int, DVs K H (ks.map V.int) (ks.map PyData.int)
  | [] => .nil
  | k :: r => .cons (.int k) (dv_ints41 r)
theorem dv_encT {K : PySem.W.Frag} {H : Hp} {X D : Addr} {w c : Int} {p : List Int} (hX : H X = some (.tup [.int w, .int c, .ref D])) (hD : H D = some (.lst (p.map V.int))) : DV K H (.ref X) (encT w c p) :=
  .tup (SqT.of hX) (.cons (.int _) (.cons (.int _) (.cons (.lst (SqL.of hD) (dv_ints41 p)) .nil)))
def BestP (wo : Option (List (Int × Int))) (ids : List Int) (H : Hp) (vb : V) : Option (List Int) → Prop
  | none => vb = .non
  | some p => p.Sublist (iotaI ids.length) ∧ ∃ bp pp, vb = .ref bp ∧ H bp = some (.tup [.int (0 - sumW wo (atP ids p)), .int (0 - (0 : Int)), .ref pp]) ∧ H pp = some (.lst (p.map V.int))
theorem BestP.same {wo : Option (List (Int × Int))} {ids : List Int} {H H' : Hp} {vb : V} (s : Same H H') : ∀ {a : Option (List Int)}, BestP wo ids H vb a → BestP wo ids H' vb a
  | none, h => h
  | some _, ⟨h0, bp, pp, h1, h2, h3⟩ => ⟨h0, bp, pp, h1, s _ _ h2, s _ _ h3⟩
theorem stepP_none {wo : Option (List (Int × Int))} {bs ids r : List Int} (c : isStr41 bs (atP ids r)) : stepP wo bs ids none r = some r := if_pos c
theorem stepP_some {wo : Option (List (Int × Int))} {bs ids r t : List Int} (c : isStr41 bs (atP ids r)) : stepP wo bs ids (some t) r = if pLt wo ids r t then some r else some t := if_pos c
structure TxtB (mg : Str → Option Value) : Prop where
  sum : mg "sum" = none
  len : mg "len" = none
  sorted : mg "sorted" = none
section
variable {P : Program} {w : World} {K : PySem.W.Frag} {mg : Str → Option Value} {base : Heap}
def spLawBest (K : PySem.W.Frag) : Sp := fun vs H Q _ => ∃ (b g fv : Addr) (v : V) (bs ids : List Int) (wo : Option (List (Int × Int))), vs = [.ref b, .ref g, v, .ref fv] ∧ SqL K H b (bs.map V.int) ∧ SqL K H g (ids.map V.int) ∧ WtAt H v wo ∧ SqL K H fv [] ∧
  ids.length ≤ 12 ∧ bs.Nodup ∧ ids.Nodup ∧ (∀ x ∈ ids, x ∈ bs) ∧ (∀ x, 1 ≤ wtI wo x) ∧
  ∀ (q : Addr) (H' : Hp), Same H H' → H q = none → H' q = some (.lst ((bestF bs ids (worthI wo ids.length [])).map V.int)) → Q (.ref q) H'
abbrev NLb : List Str := ["base", "goal", "scale", "favoured", "best", "places", "spots", "weight", "liked", "entry", "place"]
theorem scLawBest : FnScope NLb ["base", "goal", "scale", "favoured"] (defScope sLawBest) := ⟨rfl, rfl, rfl, by decide +kernel, rfl, by decide +kernel, by decide +kernel⟩
theorem ok_lawBest {f fS fL : Addr} {fd fdS fdL : FuncData} (F : Fun K "_law_best" "_law_best" sLawBest f fd) (T : TxtB mg)
    (GS : FnOk P w K mg base CX0 1 fS fdS ["size"] spSubsets) (kS : PySem.W.keepIn K (.ref fS) = true) (bS : L2.Binds K fdS ["size"] []) (mS : mg "_law_subsets" = some (.ref fS))
    (GL : FnOk P w K mg base CX0 1 fL fdL ["scale", "row"] spWeight) (kL : PySem.W.keepIn K (.ref fL) = true) (bL : L2.Binds K fdL ["scale", "row"] []) (mL : mg "_law_weight" = some (.ref fL)) :
    FnOk P w K mg base CX0 2 f fd ["base", "goal", "scale", "favoured"] (spLawBest K) := by
  refine F.ok scLawBest (fun vs H Q E h => ?_) (fun cdv A outer s H vs Q E hr h => ?_)
  · obtain ⟨b, g, fv, v, bs, ids, wo, rfl, _⟩ := h
    rfl
  · obtain ⟨b, g, fv, v, bs, ids, wo, rfl, hb, hg, hw, hf, hlen, nb, nd, hsub, hw1, k⟩ := h
    have hu := hu_of hr
    have h64 := hu64 hr
    refine ⟨_, pss_cons (ps_set (i := 4) scLawBest.nd rfl (Or.inl rfl) pe_non)
      (pss_cons (ps_for PassesOwn.never rfl (pi_list (pe_call GS hr rfl mS kS bS .nil pass0 (pa_cons (pe_callB call_len_seq (by rfl) T.len PySem.boot_len (pa_cons (pv 1) pa_nil)) pa_nil))) (pg_name (i := 5) scLawBest.nd rfl (Or.inl rfl))
        (pss_cons (ps_setLc (i := 6) (own := [("place", 10)]) (tt := tYes) (g := gName 10) rfl scLawBest.nd rfl rfl rfl (pi_list (pv 5)) (blkOk_by (N := NLb) (sc := defScope sLawBest) (by decide +kernel))
              (fun _ _ _ _ _ => pg_name (i := 10) scLawBest.nd rfl (Or.inl rfl)) (fun _ _ _ _ _ => pts_nil) (fun _ _ _ _ _ => pe_bmK (K := K) rfl PySem.F.plainAttrs_list PySem.F.slot_list_index PySem.F.type_list_index (mt_indexK (K := K) rfl) (pv 0) (pa_cons (pe_ix (ix_listK41 (K := K) rfl) (pv 1) (pv 10) (fun _ _ => rfl)) pa_nil)))
        (pss_one (ps_if (pt_cmpR (op_eqL h64) (pv 6) (pe_callB (call_sortQ rfl h64) (by rfl) T.sorted (by decide +kernel) (pa_cons (pv 6) pa_nil)) (nomark _))
          (pss_cons (ps_set (i := 7) scLawBest.nd rfl (Or.inl rfl) (pe_callB (cr_sum rfl) (by rfl) T.sum (by decide +kernel) (pa_cons (pe_lc (own := [("place", 10)]) (tt := tYes) (g := gName 10) rfl scLawBest.nd (pi_list (pv 5)) (blkOk_by (N := NLb) (sc := defScope sLawBest) (by decide +kernel))
              (fun _ _ _ _ _ => pg_name (i := 10) scLawBest.nd rfl (Or.inl rfl)) (fun _ _ _ _ _ => pts_nil) (fun _ _ _ _ _ => pe_call GL hr rfl mL kL bL .nil pass0 (pa_cons (pv 2) (pa_cons (pe_ix (ix_listK41 (K := K) rfl) (pv 1) (pv 10) (fun _ _ => rfl)) pa_nil)))) pa_nil)))
          (pss_cons (ps_set (i := 8) scLawBest.nd rfl (Or.inl rfl) (pe_callB call_len_seq (by rfl) T.len PySem.boot_len (pa_cons (pe_lc (own := [("place", 10)]) (g := gName 10) rfl scLawBest.nd (pi_list (pv 5)) (blkOk_by (N := NLb) (sc := defScope sLawBest) (by decide +kernel))
              (fun _ _ _ _ _ => pg_name (i := 10) scLawBest.nd rfl (Or.inl rfl)) (fun _ _ _ _ _ => pts_one (pt_cmpR (op_in_K41 (K := K) rfl) (pe_ix (ix_listK41 (K := K) rfl) (pv 1) (pv 10) (fun _ _ => rfl)) (pv 3) (by rfl))) (fun _ _ _ _ _ => pv 10)) pa_nil)))
          (pss_cons (ps_set (i := 9) scLawBest.nd rfl (Or.inl rfl) (pe_tup (pa_cons (pe_op op_sub pe_int (pv 7)) (pa_cons (pe_op op_sub pe_int (pv 8)) (pa_cons (pv 5) pa_nil)))))
          (pss_one (ps_if (PW.pt (pw_or (pt_cmpR op_isN (pv 4) pe_non (nomark _)) (pw_or1 (pt_cmpR (op_ltD h64) (pv 9) (pv 4) (nomark _))))) (pss_one (ps_set (i := 4) scLawBest.nd rfl (Or.inl rfl) (pv 9))) pss_nil))))) pss_nil))))
      (pss_one (ps_ret (pe_lc (own := [("place", 10)]) (tt := tYes) (g := gName 10) rfl scLawBest.nd (pi_list (pe_ix ix_tup (pv 4) pe_int (fun _ _ => rfl))) (blkOk_by (N := NLb) (sc := defScope sLawBest) (by decide +kernel))
              (fun _ _ _ _ _ => pg_name (i := 10) scLawBest.nd rfl (Or.inl rfl)) (fun _ _ _ _ _ => pts_nil) (fun _ _ _ _ _ => pe_ix (ix_listK41 (K := K) rfl) (pv 1) (pv 10) (fun _ _ => rfl)))))), ?_⟩
    have h16 : sizeLine = 16777216 := sizeLine_eq
    obtain ⟨best, hbest, hbsub, hbeq⟩ := search_at (wo := wo) nb nd hsub hw1
    refine ⟨_, rfl, g, _, rfl, .inl hg, ids.length, by rw [List.length_map]; rfl, hlen, fun R H1 s1 R1 => ?_⟩
    obtain ⟨ps, hps, hpl, hpa⟩ := R1.at
    refine ⟨R, rfl, ⟨_, SqL.of hps⟩, for_list (K := K) (a := R) (xs := ps.map V.ref) (fun i σ H' => ∃ (vb : V) (v5 v6 v7 v8 v9 : Option V), σ = [some (.ref b), some (.ref g), some v, some (.ref fv), some vb, v5, v6, v7, v8, v9, none] ∧ Same H1 H' ∧ BestP wo ids H' vb (((setsL (iotaI ids.length)).take i).foldl (stepP wo bs ids) none) ∧ i ≤ (setsL (iotaI ids.length)).length)
      ⟨.non, none, none, none, none, none, rfl, Same.refl H1, by rw [List.take_zero]; exact rfl, Nat.zero_le _⟩ (fun i σ H' _ ⟨_, _, _, _, _, _, _, s, _⟩ => SqL.of (s _ _ hps)) ?_ ?_⟩
    · rintro i y σ H2 hi ⟨vb, v5, v6, v7, v8, v9, rfl, s2, hB, hil⟩
      obtain ⟨p, r, rfl, hri, hp, _⟩ := hpa i y hi
      have hil2 : i < (setsL (iotaI ids.length)).length := (List.getElem?_eq_some_iff.mp hri).1
      have hrs : r.Sublist (iotaI ids.length) := (sets_mem _ r).mp (List.mem_of_getElem? hri)
      have hrl : r.length ≤ 12 := by have := hrs.length_le; rw [iota_len] at this; omega
      obtain ⟨acc, hacc⟩ : ∃ acc, acc = ((setsL (iotaI ids.length)).take i).foldl (stepP wo bs ids) none := ⟨_, rfl⟩
      have hstep : ((setsL (iotaI ids.length)).take (i + 1)).foldl (stepP wo bs ids) none = stepP wo bs ids acc r := by rw [take_snoc hri, List.foldl_append, hacc]; rfl
      rw [← hacc] at hB
      rw [hstep]
      have s12 := s1.trans s2
      have hp2 := s2 _ _ hp
      -- one place
      have gat : ∀ {j : Nat} {x : Int}, r[j]? = some x → ∃ kk : Nat, x = (kk : Int) ∧ (ids.map V.int)[kk]? = some (.int (getI ids x)) ∧ getI ids x ∈ ids := fun {j x} hx => by
        have hm := hrs.subset (List.mem_of_getElem? hx)
        obtain ⟨kk, hkk, e⟩ := mem_iota hm
        refine ⟨kk, e, ?_, get_in hm⟩
        rw [e, List.getElem?_map, get_at hkk]; rfl
      -- spots
      refine ⟨_, rfl, p, rfl, ⟨_, SqL.of hp2⟩, fun D0 hD0 => ?_⟩
      refine lc_list (K := K) (a := p) (xs := r.map V.int) (fun j H' => Same H2 H' ∧ H' D0 = some (.lst (((r.take j).map fun i => ixI bs (getI ids i)).map V.int)) ∧ j ≤ r.length) ⟨Same.new hD0, by rw [List.take_zero]; exact upd_same, Nat.zero_le _⟩ (fun j H' _ z => SqL.of (z.1 _ _ hp2)) ?_ ?_
      · rintro j y H3 hj ⟨s3, hA, hjl⟩
        obtain ⟨x, hx, rfl⟩ := int_at hj
        have hjl2 : j < r.length := (List.getElem?_eq_some_iff.mp hx).1
        obtain ⟨kk, rfl, hk, hin⟩ := gat hx
        have hb3 := (s12.trans s3).seq hb
        have hg3 := (s12.trans s3).seq hg
        refine ⟨rfl, ?_⟩
        refine ⟨_, rfl, .inl ⟨rfl, _, hb3⟩, _, rfl, _, rfl, g, _, _, _, rfl, rfl, hg3, atI_nat hk, b, _, .int (getI ids kk), bs.idxOf (getI ids kk), .int (getI ids kk), rfl, rfl, hb3, rfl, all_flat bs, ix1 (hsub _ hin), ix2 _, ix3, ?_⟩
        refine ⟨_, hA, by rw [List.length_map, List.length_map, List.length_take, h16]; omega, fun c u z => by rw [upd_ne (ne_of_none z hD0)]; exact s3 _ _ z, ?_, hjl2⟩
        rw [upd_same, take_snoc hx, List.map_append, List.map_append]; rfl
      rintro H3 ⟨s3, hA3, _⟩
      rw [List.length_map, List.take_length] at hA3
      have esp : (r.map fun i => ixI bs (getI ids i)) = (atP ids r).map (ixI bs) := by unfold atP; rw [List.map_map]; rfl
      rw [esp] at hA3
      refine ⟨_, rfl, ?_⟩
      have s13 := s12.trans s3
      have hp3 := s3 _ _ hp2
      have hB3 := hB.same s3
      refine ⟨_, rfl, D0, _, rfl, .inl (SqL.of hA3), fun z hz => ?_⟩
      have sz := Same.new (o := .lst ((((atP ids r).map (ixI bs)).mergeSort leJ).map V.int)) hz
      have hZ : upd H3 z (.lst ((((atP ids r).map (ixI bs)).mergeSort leJ).map V.int)) z = some (.lst ((((atP ids r).map (ixI bs)).mergeSort leJ).map V.int)) := upd_same
      have hA4 := sz _ _ hA3
      have s14 := s13.trans sz
      have hp4 := sz _ _ hp3
      have hB4 := hB3.same sz
      generalize (upd H3 z (.lst ((((atP ids r).map (ixI bs)).mergeSort leJ).map V.int)) : Hp) = H4 at sz hZ hA4 s14 hp4 hB4 ⊢
      refine ⟨D0, z, _, _, rfl, rfl, SqL.of hA4, SqL.of hZ, _, rfl, ite2 (fun c => ?_) (fun c => ?_)⟩
      · have c : isStr41 bs (atP ids r) := of_decide_eq_true c
        -- weight
        refine ⟨_, rfl, p, rfl, ⟨_, SqL.of hp4⟩, fun D hD => ?_⟩
        refine lc_list (K := K) (a := p) (xs := r.map V.int) (fun j H' => Same H4 H' ∧ H' D = some (.lst (((r.take j).map fun i => wtI wo (getI ids i)).map V.int)) ∧ j ≤ r.length) ⟨Same.new hD, by rw [List.take_zero]; exact upd_same, Nat.zero_le _⟩ (fun j H' _ z => SqL.of (z.1 _ _ hp4)) ?_ ?_
        · rintro j y H5 hj ⟨s5, hA, hjl⟩
          obtain ⟨x, hx, rfl⟩ := int_at hj
          have hjl2 : j < r.length := (List.getElem?_eq_some_iff.mp hx).1
          obtain ⟨kk, rfl, hk, hin⟩ := gat hx
          refine ⟨rfl, _, rfl, _, rfl, _, rfl, g, _, _, _, rfl, rfl, (s14.trans s5).seq hg, atI_nat hk, v, getI ids kk, wo, rfl, hw.same (s14.trans s5), ?_⟩
          refine ⟨_, hA, by rw [List.length_map, List.length_map, List.length_take, h16]; omega, fun c u z => by rw [upd_ne (ne_of_none z hD)]; exact s5 _ _ z, ?_, hjl2⟩
          rw [upd_same, take_snoc hx, List.map_append, List.map_append]; rfl
        rintro H5 ⟨s5, hA5, _⟩
        rw [List.length_map, List.take_length] at hA5
        have ew : (r.map fun i => wtI wo (getI ids i)).sum = sumW wo (atP ids r) := by unfold sumW atP; rw [List.map_map]; rfl
        refine ⟨D, _, rfl, SqL.of hA5, ?_⟩
        rw [ew]
        have hp5 := s5 _ _ hp4
        have hB5 := hB4.same s5
        have s15 := s14.trans s5
        -- favoured: none
        refine ⟨_, rfl, p, rfl, ⟨_, SqL.of hp5⟩, fun D2 hD2 => ?_⟩
        refine lc_list (K := K) (a := p) (xs := r.map V.int) (fun j H' => Same H5 H' ∧ H' D2 = some (.lst [])) ⟨Same.new hD2, upd_same⟩ (fun j H' _ z => SqL.of (z.1 _ _ hp5)) ?_ ?_
        · rintro j y H6 hj ⟨s6, hA⟩
          obtain ⟨x, hx, rfl⟩ := int_at hj
          obtain ⟨kk, rfl, hk, hin⟩ := gat hx
          have s16 := s15.trans s6
          refine ⟨rfl, _, rfl, _, rfl, g, _, _, _, rfl, rfl, s16.seq hg, atI_nat hk, _, rfl, fv, [], rfl, .inl (s16.seq hf), rfl, rfl, _, rfl, ?_⟩
          exact iteF ⟨s6, hA⟩
        rintro H6 ⟨s6, hA6⟩
        refine ⟨D2, _, rfl, .inl (SqL.of hA6), ?_⟩
        have hp6 := s6 _ _ hp5
        have hB6 := hB5.same s6
        -- the entry
        refine ⟨_, rfl, _, _, rfl, rfl, _, rfl, _, _, rfl, rfl, _, rfl, by show 3 ≤ sizeLine; decide, fun L hL => ?_⟩
        have sL := Same.new (o := .tup [V.int (0 - sumW wo (atP ids r)), .int (0 - (0 : Int)), .ref p]) hL
        have hLL : upd H6 L (.tup [V.int (0 - sumW wo (atP ids r)), .int (0 - (0 : Int)), .ref p]) L = some (.tup [V.int (0 - sumW wo (atP ids r)), .int (0 - (0 : Int)), .ref p]) := upd_same
        have hB7 := hB6.same sL
        have hp7 := sL _ _ hp6
        have s27 := s3.trans (sz.trans (s5.trans (s6.trans sL)))
        generalize (upd H6 L (.tup [V.int (0 - sumW wo (atP ids r)), .int (0 - (0 : Int)), .ref p]) : Hp) = H7 at sL hLL hB7 hp7 s27 ⊢
        have here : stepP wo bs ids acc r = some r → BestP wo ids H7 (.ref L) (stepP wo bs ids acc r) := fun e => by
          rw [e]
          exact ⟨hrs, L, p, rfl, hLL, hp7⟩
        cases hac : acc with
        | none =>
          rw [hac] at hB7 here
          obtain rfl : vb = .non := hB7
          refine ⟨_, rfl, rfl, _, rfl, iteT (iteT ?_)⟩
          exact ⟨_, rfl, .ref L, _, _, _, _, _, rfl, s2.trans s27, here (stepP_none c), hil2⟩
        | some t =>
          rw [hac] at hB7 here
          obtain ⟨hts, bp, pp, rfl, h2, h3⟩ := hB7
          refine ⟨_, rfl, rfl, _, rfl, iteF ?_⟩
          refine ⟨_, rfl, _, rfl, encT (0 - sumW wo (atP ids r)) (0 - (0 : Int)) r, encT (0 - sumW wo (atP ids t)) (0 - (0 : Int)) t, dv_encT hLL hp7, dv_encT h2 h3, alike_encT .., (fun z => by cases z), depth_encT .., ?_⟩
          rw [lt_encT]
          have hiff : (0 - sumW wo (atP ids r) < 0 - sumW wo (atP ids t) ∨ (0 - sumW wo (atP ids r) = 0 - sumW wo (atP ids t) ∧ ((0 - (0 : Int)) < 0 - (0 : Int) ∨ ((0 - (0 : Int)) = 0 - (0 : Int) ∧ r < t)))) ↔ pLt wo ids r t := by
            unfold pLt
            constructor
            · rintro (h | ⟨h, q | ⟨_, q⟩⟩)
              · exact .inl (by omega)
              · omega
              · exact .inr ⟨by omega, q⟩
            · rintro (h | ⟨h, q⟩)
              · exact .inl (by omega)
              · exact .inr ⟨by omega, .inr ⟨rfl, q⟩⟩
          refine ⟨_, rfl, ite2 (fun cc => ?_) (fun cc => ?_)⟩
          · have cc : pLt wo ids r t := hiff.mp (of_decide_eq_true cc)
            exact ⟨_, rfl, .ref L, _, _, _, _, _, rfl, s2.trans s27, here (by rw [stepP_some c, if_pos cc]), hil2⟩
          · have cc : ¬ pLt wo ids r t := fun z => cc (decide_eq_true (hiff.mpr z))
            have e1 : stepP wo bs ids (some t) r = some t := by rw [stepP_some c, if_neg cc]
            rw [e1]
            exact ⟨.ref bp, _, _, _, _, _, rfl, s2.trans s27, ⟨hts, bp, pp, rfl, h2, h3⟩, hil2⟩
      · have c : ¬ isStr41 bs (atP ids r) := fun z => c (decide_eq_true z)
        have e : stepP wo bs ids acc r = acc := if_neg c
        rw [e]
        exact ⟨vb, _, _, _, _, _, rfl, s2.trans (s3.trans sz), hB4, hil2⟩
    · rintro σ H2 ⟨vb, v5, v6, v7, v8, v9, rfl, s2, hB, _⟩
      rw [List.length_map, hpl, List.take_length, hbest] at hB
      obtain ⟨_, bp, pp, rfl, h2, h3⟩ := hB
      refine ⟨_, rfl, bp, _, 2, _, rfl, rfl, SqT.of h2, rfl, pp, rfl, ⟨_, SqL.of h3⟩, fun D hD => ?_⟩
      have hbl : best.length ≤ 12 := by have := hbsub.length_le; rw [iota_len] at this; omega
      refine lc_list (K := K) (a := pp) (xs := best.map V.int) (fun j H' => Same H2 H' ∧ H' D = some (.lst (((best.take j).map (getI ids)).map V.int)) ∧ j ≤ best.length) ⟨Same.new hD, by rw [List.take_zero]; exact upd_same, Nat.zero_le _⟩ (fun j H' _ z => SqL.of (z.1 _ _ h3)) ?_ ?_
      · rintro j y H3 hj ⟨s3, hA, hjl⟩
        obtain ⟨x, hx, rfl⟩ := int_at hj
        have hjl2 : j < best.length := (List.getElem?_eq_some_iff.mp hx).1
        obtain ⟨kk, hkk, rfl⟩ := mem_iota (hbsub.subset (List.mem_of_getElem? hx))
        have hk : (ids.map V.int)[kk]? = some (.int (getI ids kk)) := by rw [List.getElem?_map, get_at hkk]; rfl
        refine ⟨rfl, _, rfl, _, rfl, g, _, _, _, rfl, rfl, (s1.trans (s2.trans s3)).seq hg, atI_nat hk, ?_⟩
        refine ⟨_, hA, by rw [List.length_map, List.length_map, List.length_take, h16]; omega, fun c u z => by rw [upd_ne (ne_of_none z hD)]; exact s3 _ _ z, ?_, hjl2⟩
        rw [upd_same, take_snoc hx, List.map_append, List.map_append]; rfl
      rintro H3 ⟨s3, hA, _⟩
      rw [List.length_map, List.take_length] at hA
      have e : best.map (getI ids) = bestF bs ids (worthI wo ids.length []) := hbeq
      rw [e] at hA
      exact k D H3 (s1.trans (s2.trans s3)) (Same.free (s1.trans s2) hD) hA
end
section
variable {K : PySem.W.Frag} {x qual : Str} {params : Arguments} {body : List Stmt} {scope : Scope} {kws : List (Str × V)} {f : Addr} {fd : FuncData} {ps : List Str}
/-- all keyword-only parameters are written by name, in their sequence -/
theorem FunD.kbindsA (F : FunD K x qual params body scope [] kws f fd) (n : Nat) (ks : List Str)
    (h : ∀ (kV doc pm : Value) (an : Option Addr) (cdv ct : Value) (us ws : List Value), us.length = n → ws.length = ks.length → bindArgs (PySem.W.fnOf x qual params body scope .none kV doc pm an cdv ct) ⟨us, ks.zip ws⟩ = pure (ps.zip (us ++ ws))) :
    KBn K fd ps n ks (fun us ws => us ++ ws) (fun vs zs => vs ++ zs) := by
  obtain ⟨oc, od, dV, kV, doc, pm, an, cdv, ct, osl, rfl, lk, hcd, hD, hK⟩ := F.ex
  rcases hD with ⟨_, rfl⟩ | ⟨e, _⟩
  · exact ⟨fun s us ws X l1 l2 => .of_eq (h kV doc pm an cdv ct us ws l1 l2), fun r1 r2 => r1.append r2⟩
  · exact absurd rfl e
/-- all keyword-only parameters are written by name, in the reverse sequence -/
theorem FunD.kbindsR (F : FunD K x qual params body scope [] kws f fd) (n : Nat) (ks : List Str)
    (h : ∀ (kV doc pm : Value) (an : Option Addr) (cdv ct : Value) (us ws : List Value), us.length = n → ws.length = ks.length → bindArgs (PySem.W.fnOf x qual params body scope .none kV doc pm an cdv ct) ⟨us, ks.zip ws⟩ = pure (ps.zip (us ++ ws.reverse))) :
    KBn K fd ps n ks (fun us ws => us ++ ws.reverse) (fun vs zs => vs ++ zs.reverse) := by
  obtain ⟨oc, od, dV, kV, doc, pm, an, cdv, ct, osl, rfl, lk, hcd, hD, hK⟩ := F.ex
  have rev : ∀ {zs : List V} {ws : List Value}, Vals zs ws → Vals zs.reverse ws.reverse := by
    intro zs
    induction zs with
    | nil => intro ws h; cases h; exact .nil
    | cons v r ih =>
      intro ws h
      cases h with
      | cons a t =>
        rw [List.reverse_cons, List.reverse_cons]
        exact (ih t).append (.cons a .nil)
  rcases hD with ⟨_, rfl⟩ | ⟨e, _⟩
  · exact ⟨fun s us ws X l1 l2 => .of_eq (h kV doc pm an cdv ct us ws l1 l2), fun r1 r2 => r1.append (rev r2)⟩
  · exact absurd rfl e
/-- keyword-only defaults, no others: n positional values, keywords named ks; ms: the keyword-only parameters that lack -/
theorem FunD.kbinds0 (F : FunD K x qual params body scope [] kws f fd) (n : Nat) (ks : List Str) (ms : List (Str × V)) (g : {α : Type} → List α → List α → List α → List α) (hk : kws ≠ []) (hms : ∀ q ∈ ms, q ∈ kws)
    (hrel : ∀ {vs mz zs : List V} {us mv ws : List Value}, Vals vs us → Vals mz mv → Vals zs ws → Vals (g vs mz zs) (g us mv ws))
    (h : ∀ (D : Addr) (doc pm : Value) (an : Option Addr) (cdv ct : Value) (us mv ws : List Value), us.length = n → mv.length = ms.length → ws.length = ks.length →
      KwChain D ((ms.map (·.1)).zip mv) (bindArgs (PySem.W.fnOf x qual params body scope .none (.ref D) doc pm an cdv ct) ⟨us, ks.zip ws⟩) (ps.zip (g us mv ws))) :
    ∃ mv : List Value, Vals (ms.map (·.2)) mv ∧ KBn K fd ps n ks (fun us ws => g us mv ws) (fun vs zs => g vs (ms.map (·.2)) zs) := by
  obtain ⟨oc, od, dV, kV, doc, pm, an, cdv, ct, osl, rfl, lk, hcd, hD, hK⟩ := F.ex
  rcases hD with ⟨_, rfl⟩ | ⟨e, _⟩
  · rcases hK with e | ⟨D, rfl, hq⟩
    · exact absurd e hk
    · obtain ⟨mv, hl, rk, hks⟩ := kwd_vals (ms := ms) fun q hm => hq q (hms q hm)
      refine ⟨mv, rk, ⟨fun s us ws X l1 l2 => ?_, fun r1 r2 => hrel r1 rk r2⟩⟩
      exact BindsTo.of_looks fun M => KwChain.looks X hks (h D doc pm an cdv ct us mv ws l1 hl l2)
  · exact absurd rfl e
end
/-! ### defs by their promises -/
structure Fn (K : PySem.W.Frag) (mg : Str → Option Value) (x : Str) (st : Stmt) (ps : List Str) (f : Addr) (fd : FuncData) : Prop where
  F : Fun K x x st f fd
  b : L2.Binds K fd ps []
  m : mg x = some (.ref f)
def rv (sp : Sp) : Sp := fun vs => sp vs.reverse
/-- a def with keyword-only parameters that all have defaults: called without them, or with all of them -/
structure FnD (P : Program) (w : World) (K : PySem.W.Frag) (mg : Str → Option Value) (base : Heap) (k n : Nat) (x : Str) (ps ks : List Str) (dvs : List V) (sp : Sp) (f : Addr) (fd : FuncData) : Prop where
  G : FnOk P w K mg base CX0 k f fd ps sp
  kp : PySem.W.keepIn K (.ref f) = true
  m : mg x = some (.ref f)
  d : ∃ ds, Vals dvs ds ∧ L2.Binds K fd ps ds
  b : KBn K fd ps n ks (fun us ws => us ++ ws) (fun vs zs => vs ++ zs)
/-! ### among, without, moved_ids; _law_moved -/
abbrev keepI (xs ys : List Int) : List Int := xs.filter fun x => decide (x ∈ ys)
abbrev dropI (xs ys : List Int) : List Int := xs.filter fun x => decide (x ∉ ys)
def movedI (xs ys : List Int) (wo : Option (List (Int × Int))) : List Int := dropI ys (bestF (keepI xs ys) (keepI ys xs) (worthI wo (keepI ys xs).length []))
theorem op_notIn_K41 {X : Cx} {K : PySem.W.Frag} (h : X.K = K) : OpR X (compareOp .NotIn) (rIn K true) := by
  subst h
  exact op_notIn_seq
structure TxtA (mg : Str → Option Value) : Prop where
  set : mg "set" = none
section
variable {P : Program} {w : World} {K : PySem.W.Frag} {mg : Str → Option Value} {base : Heap}
def spAmong (K : PySem.W.Frag) : Sp := fun vs H Q _ => ∃ (a b : Addr) (xs ys : List Int), vs = [.ref a, .ref b] ∧ SqL K H a (xs.map V.int) ∧ SqL K H b (ys.map V.int) ∧ xs.length ≤ 4000 ∧ ys.length ≤ 4000 ∧
  ∀ (q : Addr) (H' : Hp), Same H H' → H q = none → H' q = some (.lst ((keepI xs ys).map V.int)) → Q (.ref q) H'
def spWithout (K : PySem.W.Frag) : Sp := fun vs H Q _ => ∃ (a b : Addr) (xs ys : List Int), vs = [.ref a, .ref b] ∧ SqL K H a (xs.map V.int) ∧ SqL K H b (ys.map V.int) ∧ xs.length ≤ 4000 ∧ ys.length ≤ 4000 ∧
  ∀ (q : Addr) (H' : Hp), Same H H' → H q = none → H' q = some (.lst ((dropI xs ys).map V.int)) → Q (.ref q) H'
abbrev NAm : List Str := ["order", "ids", "known", "row_id"]
theorem scAmong : FnScope NAm ["order", "ids"] (defScope sAmong) := ⟨rfl, rfl, rfl, by decide +kernel, rfl, by decide +kernel, by decide +kernel⟩
theorem scWithout : FnScope NAm ["order", "ids"] (defScope sWithout) := ⟨rfl, rfl, rfl, by decide +kernel, rfl, by decide +kernel, by decide +kernel⟩
theorem ok_among {f : Addr} {fd : FuncData} (F : Fun K "among" "among" sAmong f fd) (T : TxtA mg) : FnOk P w K mg base CX0 1 f fd ["order", "ids"] (spAmong K) := by
  refine F.ok scAmong (fun vs H Q E h => ?_) (fun cdv A outer s H vs Q E hr h => ?_)
  · obtain ⟨a, b, xs, ys, rfl, _⟩ := h
    rfl
  · obtain ⟨a, b, xs, ys, rfl, ha, hb, lx, ly, k⟩ := h
    refine ⟨_, pss_cons (ps_set (i := 2) scAmong.nd rfl (Or.inr rfl) (pe_callTy (cr_setI rfl) (by rfl) T.set (by decide +kernel) (pa_cons (pv 1) pa_nil)))
      (pss_one (ps_ret (pe_lc (own := [("row_id", 3)]) (g := gName 3) rfl scAmong.nd (pi_list (pv 0)) (blkOk_by (N := NAm) (sc := defScope sAmong) (by decide +kernel)) (fun _ _ _ _ _ => pg_name (i := 3) scAmong.nd rfl (Or.inl rfl))
        (fun _ _ _ _ _ => pts_one (pt_cmpR op_inSet (pv 3) (pv 2) (by rfl))) (fun _ _ _ _ _ => pv 3)))), ?_⟩
    have h16 : sizeLine = 16777216 := sizeLine_eq
    refine ⟨_, rfl, b, ys, rfl, .inl hb, ly, fun q S n hq hS hn => ?_⟩
    have s1 := Same.new (o := .set S n) hq
    have hS1 : (upd H q (.set S n)) q = some (.set S n) := upd_same
    generalize upd H q (.set S n) = H1 at s1 hS1 ⊢
    refine ⟨_, rfl, a, rfl, ⟨_, s1.seq ha⟩, fun D hD => ?_⟩
    refine lc_list (K := K) (a := a) (xs := xs.map V.int) (fun j H' => Same H1 H' ∧ H' D = some (.lst ((keepI (xs.take j) ys).map V.int)) ∧ j ≤ xs.length) ⟨Same.new hD, by rw [List.take_zero]; exact upd_same, Nat.zero_le _⟩ (fun j H' _ z => (s1.trans z.1).seq ha) ?_ ?_
    · rintro j y H2 hj ⟨s2, hA, hjl⟩
      obtain ⟨x, hx, rfl⟩ := int_at hj
      have hjl2 : j < xs.length := (List.getElem?_eq_some_iff.mp hx).1
      have hfl := List.length_filter_le (fun x => decide (x ∈ ys)) (xs.take j)
      rw [List.length_take] at hfl
      refine ⟨rfl, _, rfl, _, rfl, x, q, S, n, rfl, rfl, s2 _ _ hS1, _, rfl, ?_⟩
      rw [show (if false = true then !S x else S x) = S x from rfl, hS.1 x]
      refine ite2 (fun cc => ?_) (fun cc => ?_)
      · refine ⟨_, rfl, _, hA, by rw [List.length_map, h16]; show (List.filter _ _).length < _; omega, fun c u z => by rw [upd_ne (ne_of_none z hD)]; exact s2 _ _ z, ?_, hjl2⟩
        rw [upd_same, take_snoc hx]
        unfold keepI
        rw [List.filter_append, List.filter_cons_of_pos (by exact cc), List.map_append]; rfl
      · refine ⟨s2, ?_, hjl2⟩
        rw [hA, take_snoc hx]
        unfold keepI
        rw [List.filter_append, List.filter_cons_of_neg (by exact cc), List.filter_nil, List.append_nil]
    rintro H2 ⟨s2, hA, _⟩
    rw [List.length_map, List.take_length] at hA
    exact k D H2 (s1.trans s2) (Same.free s1 hD) hA
theorem ok_without {f : Addr} {fd : FuncData} (F : Fun K "without" "without" sWithout f fd) (T : TxtA mg) : FnOk P w K mg base CX0 1 f fd ["order", "ids"] (spWithout K) := by
  refine F.ok scWithout (fun vs H Q E h => ?_) (fun cdv A outer s H vs Q E hr h => ?_)
  · obtain ⟨a, b, xs, ys, rfl, _⟩ := h
    rfl
  · obtain ⟨a, b, xs, ys, rfl, ha, hb, lx, ly, k⟩ := h
    refine ⟨_, pss_cons (ps_set (i := 2) scWithout.nd rfl (Or.inr rfl) (pe_callTy (cr_setI rfl) (by rfl) T.set (by decide +kernel) (pa_cons (pv 1) pa_nil)))
      (pss_one (ps_ret (pe_lc (own := [("row_id", 3)]) (g := gName 3) rfl scWithout.nd (pi_list (pv 0)) (blkOk_by (N := NAm) (sc := defScope sWithout) (by decide +kernel)) (fun _ _ _ _ _ => pg_name (i := 3) scWithout.nd rfl (Or.inl rfl))
        (fun _ _ _ _ _ => pts_one (pt_cmpR op_notInSet (pv 3) (pv 2) (by rfl))) (fun _ _ _ _ _ => pv 3)))), ?_⟩
    have h16 : sizeLine = 16777216 := sizeLine_eq
    refine ⟨_, rfl, b, ys, rfl, .inl hb, ly, fun q S n hq hS hn => ?_⟩
    have s1 := Same.new (o := .set S n) hq
    have hS1 : (upd H q (.set S n)) q = some (.set S n) := upd_same
    generalize upd H q (.set S n) = H1 at s1 hS1 ⊢
    refine ⟨_, rfl, a, rfl, ⟨_, s1.seq ha⟩, fun D hD => ?_⟩
    refine lc_list (K := K) (a := a) (xs := xs.map V.int) (fun j H' => Same H1 H' ∧ H' D = some (.lst ((dropI (xs.take j) ys).map V.int)) ∧ j ≤ xs.length) ⟨Same.new hD, by rw [List.take_zero]; exact upd_same, Nat.zero_le _⟩ (fun j H' _ z => (s1.trans z.1).seq ha) ?_ ?_
    · rintro j y H2 hj ⟨s2, hA, hjl⟩
      obtain ⟨x, hx, rfl⟩ := int_at hj
      have hjl2 : j < xs.length := (List.getElem?_eq_some_iff.mp hx).1
      have hfl := List.length_filter_le (fun x => decide (x ∉ ys)) (xs.take j)
      rw [List.length_take] at hfl
      refine ⟨rfl, _, rfl, _, rfl, x, q, S, n, rfl, rfl, s2 _ _ hS1, _, rfl, ?_⟩
      have eS : (if true = true then !S x else S x) = decide (x ∉ ys) := by
        rw [if_pos rfl, hS.1 x]
        by_cases c : x ∈ ys
        · rw [decide_eq_true c, decide_eq_false (fun z => z c)]; rfl
        · rw [decide_eq_false c, decide_eq_true c]; rfl
      rw [eS]
      refine ite2 (fun cc => ?_) (fun cc => ?_)
      · refine ⟨_, rfl, _, hA, by rw [List.length_map, h16]; show (List.filter _ _).length < _; omega, fun c u z => by rw [upd_ne (ne_of_none z hD)]; exact s2 _ _ z, ?_, hjl2⟩
        rw [upd_same, take_snoc hx]
        unfold dropI
        rw [List.filter_append, List.filter_cons_of_pos (by exact cc), List.map_append]; rfl
      · refine ⟨s2, ?_, hjl2⟩
        rw [hA, take_snoc hx]
        unfold dropI
        rw [List.filter_append, List.filter_cons_of_neg (by exact cc), List.filter_nil, List.append_nil]
    rintro H2 ⟨s2, hA, _⟩
    rw [List.length_map, List.take_length] at hA
    exact k D H2 (s1.trans s2) (Same.free s1 hD) hA
end
abbrev Wq41 : List Str := ["base", "goal", "weights", "favoured"]
theorem keep_mem {xs ys : List Int} {x : Int} : x ∈ keepI xs ys ↔ x ∈ xs ∧ x ∈ ys := by
  unfold keepI
  rw [List.mem_filter, decide_eq_true_iff]
section
variable {P : Program} {w : World} {K : PySem.W.Frag} {mg : Str → Option Value} {base : Heap}
def spMovedIds (K : PySem.W.Frag) : Sp := fun vs H Q _ => ∃ (a b : Addr) (v : V) (xs ys : List Int) (wo : Option (List (Int × Int))), vs = [.ref a, .ref b, v] ∧ SqL K H a (xs.map V.int) ∧ SqL K H b (ys.map V.int) ∧ WtAt H v wo ∧ xs.length ≤ 300 ∧ ys.length ≤ 300 ∧ xs.Nodup ∧ ys.Nodup ∧ (∀ x, (wtI wo x).natAbs < 2 ^ 300) ∧
  ∀ (q : Addr) (H' : Hp), Same H H' → H q = none → H' q = some (.lst ((movedI xs ys wo).map V.int)) → Q (.ref q) H'
abbrev NMi : List Str := ["start", "side", "weights"]
theorem scMovedIds : FnScope NMi ["start", "side", "weights"] (defScope sMovedIds) := ⟨rfl, rfl, rfl, by decide +kernel, rfl, by decide +kernel, by decide +kernel⟩
theorem ok_movedIds {f fB fA fW eT : Addr} {fd fdB fdA fdW : FuncData} {kws : List (Str × V)} (F : FunD K "moved_ids" "moved_ids" (defArgs sMovedIds) (defBody sMovedIds) (defScope sMovedIds) [] kws f fd)
    (Be : FnD P w K mg base 3 2 "best_straight" Wq41 ["weights", "favoured"] [.non, .ref eT] (spBest K) fB fdB) (BeW : ∃ its : List Value, Vals [.ref eT] its ∧ KBn K fdB Wq41 2 ["weights"] (fun us ws => us ++ (ws ++ its)) (fun vs zs => vs ++ (zs ++ [.ref eT]))) (hT : ∀ H : Hp, SqT K H eT [])
    (Am : Fn K mg "among" sAmong ["order", "ids"] fA fdA) (GA : FnOk P w K mg base CX0 1 fA fdA ["order", "ids"] (spAmong K))
    (Wi : Fn K mg "without" sWithout ["order", "ids"] fW fdW) (GW : FnOk P w K mg base CX0 1 fW fdW ["order", "ids"] (spWithout K)) :
    FnOk P w K mg base CX0 4 f fd ["start", "side", "weights"] (spMovedIds K) := by
  obtain ⟨its, vB, bB⟩ := BeW
  refine FunD.ok0 F scMovedIds (fun vs H Q E h => ?_) (fun cdv A outer s H vs Q E hr h => ?_)
  · obtain ⟨a, b, v, xs, ys, wo, rfl, _⟩ := h
    rfl
  · obtain ⟨a, b, v, xs, ys, wo, rfl, ha, hb, hw, lx, ly, nx, ny, hwb, k⟩ := h
    have hr1 : Room 1 _ := hr.mono (by decide)
    refine ⟨_, pss_one (ps_ret (pe_call GW hr1 rfl Wi.m Wi.F.kp Wi.b .nil pass0 (pa_cons (pv 1) (pa_cons (pe_callN Be.G hr rfl Be.m Be.kp bB pass0
      (pa_cons (pe_call GA hr1 rfl Am.m Am.F.kp Am.b .nil pass0 (pa_cons (pv 0) (pa_cons (pv 1) pa_nil))) (pa_cons (pe_call GA hr1 rfl Am.m Am.F.kp Am.b .nil pass0 (pa_cons (pv 1) (pa_cons (pv 0) pa_nil))) pa_nil)) (pk_cons (pv 2) pk_nil)) pa_nil)))), ?_⟩
    refine ⟨_, rfl, _, rfl, _, rfl, a, b, xs, ys, rfl, ha, hb, by omega, by omega, fun p H1 s1 hp hP => ?_⟩
    refine ⟨_, rfl, _, rfl, b, a, ys, xs, rfl, s1.seq hb, s1.seq ha, by omega, by omega, fun q H2 s2 hq hQ => ?_⟩
    have s12 := s1.trans s2
    have lk1 := List.length_filter_le (fun x => decide (x ∈ ys)) xs
    have lk2 := List.length_filter_le (fun x => decide (x ∈ xs)) ys
    refine ⟨_, rfl, rfl, rfl, p, q, eT, v, keepI xs ys, keepI ys xs, [], wo, rfl, SqL.of (s2 _ _ hP), SqL.of hQ, hw.same s12, .inr (hT _), Nat.zero_le _, nx.filter _, by unfold keepI; omega, ny.filter _, by unfold keepI; omega, fun x hx => ?_, fun x _ => hwb x, fun u H3 s3 hu3 hU => ?_⟩
    · exact keep_mem.mpr ((keep_mem.mp hx).symm)
    · have lb : (bestF (keepI xs ys) (keepI ys xs) (worthI wo (keepI ys xs).length [])).length ≤ 300 := by
        have := (best_sublist (tallF (keepI xs ys) (keepI ys xs) (worthI wo (keepI ys xs).length [])) (worthI wo (keepI ys xs).length []) (maxI 0 ((keepI ys xs).reverse.map (tallF (keepI xs ys) (keepI ys xs) (worthI wo (keepI ys xs).length [])))) (keepI ys xs)).length_le
        show (bestG _ _ _ _).1.length ≤ 300
        have h2 : (keepI ys xs).length ≤ ys.length := lk2
        omega
      have s123 := s12.trans s3
      refine ⟨b, u, ys, _, rfl, s123.seq hb, SqL.of hU, by omega, by omega, fun z H4 s4 hz hZ => ?_⟩
      exact k z H4 (s123.trans s4) (Same.free s123 hz) hZ
def spMoved (K : PySem.W.Frag) : Sp := fun vs H Q _ => ∃ (a b : Addr) (v : V) (xs ys : List Int) (wo : Option (List (Int × Int))), vs = [.ref a, .ref b, v] ∧ SqL K H a (xs.map V.int) ∧ SqL K H b (ys.map V.int) ∧ WtAt H v wo ∧ xs.length ≤ 12 ∧ ys.length ≤ 12 ∧ xs.Nodup ∧ ys.Nodup ∧ (∀ x, 1 ≤ wtI wo x) ∧
  ∀ (q : Addr) (H' : Hp), Same H H' → H q = none → H' q = some (.lst ((movedI xs ys wo).map V.int)) → Q (.ref q) H'
abbrev NMv : List Str := ["start", "side", "scale", "base", "goal", "kept", "row"]
theorem scMoved : FnScope NMv ["start", "side", "scale"] (defScope sMoved) := ⟨rfl, rfl, rfl, by decide +kernel, rfl, by decide +kernel, by decide +kernel⟩
theorem ok_moved {f fB : Addr} {fd fdB : FuncData} (F : Fun K "_law_moved" "_law_moved" sMoved f fd)
    (GB : FnOk P w K mg base CX0 2 fB fdB ["base", "goal", "scale", "favoured"] (spLawBest K)) (kB : PySem.W.keepIn K (.ref fB) = true) (bB : L2.Binds K fdB ["base", "goal", "scale", "favoured"] []) (mB : mg "_law_best" = some (.ref fB)) :
    FnOk P w K mg base CX0 3 f fd ["start", "side", "scale"] (spMoved K) := by
  refine F.ok scMoved (fun vs H Q E h => ?_) (fun cdv A outer s H vs Q E hr h => ?_)
  · obtain ⟨a, b, v, xs, ys, wo, rfl, _⟩ := h
    rfl
  · obtain ⟨a, b, v, xs, ys, wo, rfl, ha, hb, hw, lx, ly, nx, ny, hw1, k⟩ := h
    refine ⟨_, pss_cons (ps_par (i := 3) (j := 4) (by rfl) scMoved.nd rfl rfl (by decide) rfl rfl (pa_cons (pe_lc (own := [("row", 6)]) (g := gName 6) rfl scMoved.nd (pi_list (pv 0)) (blkOk_by (N := NMv) (sc := defScope sMoved) (by decide +kernel)) (fun _ _ _ _ _ => pg_name (i := 6) scMoved.nd rfl (Or.inl rfl))
          (fun _ _ _ _ _ => pts_one (pt_cmpR (op_in_K41 (K := K) rfl) (pv 6) (pv 1) (by rfl))) (fun _ _ _ _ _ => pv 6))
        (pa_cons (pe_lc (own := [("row", 6)]) (g := gName 6) rfl scMoved.nd (pi_list (pv 1)) (blkOk_by (N := NMv) (sc := defScope sMoved) (by decide +kernel)) (fun _ _ _ _ _ => pg_name (i := 6) scMoved.nd rfl (Or.inl rfl))
          (fun _ _ _ _ _ => pts_one (pt_cmpR (op_in_K41 (K := K) rfl) (pv 6) (pv 0) (by rfl))) (fun _ _ _ _ _ => pv 6)) pa_nil)) (by rfl))
      (pss_cons (ps_set (i := 5) scMoved.nd rfl (Or.inr rfl) (pe_call GB hr rfl mB kB bB .nil pass0 (pa_cons (pv 3) (pa_cons (pv 4) (pa_cons (pv 2) (pa_cons (pe_lst pa_nil) pa_nil))))))
      (pss_one (ps_ret (pe_lc (own := [("row", 6)]) (g := gName 6) rfl scMoved.nd (pi_list (pv 1)) (blkOk_by (N := NMv) (sc := defScope sMoved) (by decide +kernel)) (fun _ _ _ _ _ => pg_name (i := 6) scMoved.nd rfl (Or.inl rfl))
          (fun _ _ _ _ _ => pts_one (pt_cmpR (op_notIn_K41 (K := K) rfl) (pv 6) (pv 5) (by rfl))) (fun _ _ _ _ _ => pv 6))))), ?_⟩
    have h16 : sizeLine = 16777216 := sizeLine_eq
    -- base
    refine ⟨_, rfl, a, rfl, ⟨_, ha⟩, fun D1 hD1 => ?_⟩
    refine lc_list (K := K) (a := a) (xs := xs.map V.int) (fun j H' => Same H H' ∧ H' D1 = some (.lst ((keepI (xs.take j) ys).map V.int)) ∧ j ≤ xs.length) ⟨Same.new hD1, by rw [List.take_zero]; exact upd_same, Nat.zero_le _⟩ (fun j H' _ z => z.1.seq ha) ?_ ?_
    · rintro j y H2 hj ⟨s2, hA, hjl⟩
      obtain ⟨x, hx, rfl⟩ := int_at hj
      have hjl2 : j < xs.length := (List.getElem?_eq_some_iff.mp hx).1
      have hfl := List.length_filter_le (fun x => decide (x ∈ ys)) (xs.take j)
      rw [List.length_take] at hfl
      refine ⟨rfl, _, rfl, _, rfl, b, ys.map V.int, rfl, .inl (s2.seq hb), rfl, all_flat ys, _, rfl, ?_⟩
      have ein : (if false = true then !inV (V.int x) (ys.map V.int) else inV (V.int x) (ys.map V.int)) = decide (x ∈ ys) := inV_int _ _
      rw [ein]
      refine ite2 (fun cc => ?_) (fun cc => ?_)
      · refine ⟨_, rfl, _, hA, by rw [List.length_map, h16]; show (List.filter _ _).length < _; omega, fun c u z => by rw [upd_ne (ne_of_none z hD1)]; exact s2 _ _ z, ?_, hjl2⟩
        rw [upd_same, take_snoc hx]
        unfold keepI
        rw [List.filter_append, List.filter_cons_of_pos (by exact cc), List.map_append]; rfl
      · refine ⟨s2, ?_, hjl2⟩
        rw [hA, take_snoc hx]
        unfold keepI
        rw [List.filter_append, List.filter_cons_of_neg (by exact cc), List.filter_nil, List.append_nil]
    rintro H1 ⟨s1, hB1, _⟩
    rw [List.length_map, List.take_length] at hB1
    -- goal
    refine ⟨_, rfl, b, rfl, ⟨_, s1.seq hb⟩, fun D2 hD2 => ?_⟩
    refine lc_list (K := K) (a := b) (xs := ys.map V.int) (fun j H' => Same H1 H' ∧ H' D2 = some (.lst ((keepI (ys.take j) xs).map V.int)) ∧ j ≤ ys.length) ⟨Same.new hD2, by rw [List.take_zero]; exact upd_same, Nat.zero_le _⟩ (fun j H' _ z => (s1.trans z.1).seq hb) ?_ ?_
    · rintro j y H2 hj ⟨s2, hA, hjl⟩
      obtain ⟨x, hx, rfl⟩ := int_at hj
      have hjl2 : j < ys.length := (List.getElem?_eq_some_iff.mp hx).1
      have hfl := List.length_filter_le (fun x => decide (x ∈ xs)) (ys.take j)
      rw [List.length_take] at hfl
      refine ⟨rfl, _, rfl, _, rfl, a, xs.map V.int, rfl, .inl ((s1.trans s2).seq ha), rfl, all_flat xs, _, rfl, ?_⟩
      have ein : (if false = true then !inV (V.int x) (xs.map V.int) else inV (V.int x) (xs.map V.int)) = decide (x ∈ xs) := inV_int _ _
      rw [ein]
      refine ite2 (fun cc => ?_) (fun cc => ?_)
      · refine ⟨_, rfl, _, hA, by rw [List.length_map, h16]; show (List.filter _ _).length < _; omega, fun c u z => by rw [upd_ne (ne_of_none z hD2)]; exact s2 _ _ z, ?_, hjl2⟩
        rw [upd_same, take_snoc hx]
        unfold keepI
        rw [List.filter_append, List.filter_cons_of_pos (by exact cc), List.map_append]; rfl
      · refine ⟨s2, ?_, hjl2⟩
        rw [hA, take_snoc hx]
        unfold keepI
        rw [List.filter_append, List.filter_cons_of_neg (by exact cc), List.filter_nil, List.append_nil]
    rintro H2 ⟨s2, hB2, _⟩
    rw [List.length_map, List.take_length] at hB2
    refine ⟨_, _, rfl, ?_⟩
    have s12 := s1.trans s2
    have lk2 := List.length_filter_le (fun x => decide (x ∈ xs)) ys
    refine ⟨_, rfl, _, rfl, _, rfl, Nat.zero_le _, fun e he => ?_⟩
    have se := Same.new (o := .lst []) he
    have hE : upd H2 e (.lst []) e = some (.lst []) := upd_same
    have s13 := s12.trans se
    refine ⟨D1, D2, e, v, keepI xs ys, keepI ys xs, wo, rfl, SqL.of (se _ _ (s2 _ _ hB1)), SqL.of (se _ _ hB2), hw.same s13, SqL.of hE, by unfold keepI; omega, nx.filter _, ny.filter _, fun x hx => keep_mem.mpr ((keep_mem.mp hx).symm), hw1, fun q H4 s4 hq hQ => ?_⟩
    have s14 := s13.trans s4
    obtain ⟨B, hBe⟩ : ∃ B, B = bestF (keepI xs ys) (keepI ys xs) (worthI wo (keepI ys xs).length []) := ⟨_, rfl⟩
    rw [← hBe] at hQ
    refine ⟨_, rfl, b, rfl, ⟨_, s14.seq hb⟩, fun D3 hD3 => ?_⟩
    refine lc_list (K := K) (a := b) (xs := ys.map V.int) (fun j H' => Same H4 H' ∧ H' D3 = some (.lst ((dropI (ys.take j) B).map V.int)) ∧ j ≤ ys.length) ⟨Same.new hD3, by rw [List.take_zero]; exact upd_same, Nat.zero_le _⟩ (fun j H' _ z => (s14.trans z.1).seq hb) ?_ ?_
    · rintro j y H5 hj ⟨s5, hA, hjl⟩
      obtain ⟨x, hx, rfl⟩ := int_at hj
      have hjl2 : j < ys.length := (List.getElem?_eq_some_iff.mp hx).1
      have hfl := List.length_filter_le (fun x => decide (x ∉ B)) (ys.take j)
      rw [List.length_take] at hfl
      refine ⟨rfl, _, rfl, _, rfl, q, B.map V.int, rfl, .inl (SqL.of (s5 _ _ hQ)), rfl, all_flat B, _, rfl, ?_⟩
      have ein : (if true = true then !inV (V.int x) (B.map V.int) else inV (V.int x) (B.map V.int)) = decide (x ∉ B) := by
        rw [if_pos rfl, inV_int]
        by_cases c : x ∈ B
        · rw [decide_eq_true c, decide_eq_false (fun z => z c)]; rfl
        · rw [decide_eq_false c, decide_eq_true c]; rfl
      rw [ein]
      refine ite2 (fun cc => ?_) (fun cc => ?_)
      · refine ⟨_, rfl, _, hA, by rw [List.length_map, h16]; show (List.filter _ _).length < _; omega, fun c u z => by rw [upd_ne (ne_of_none z hD3)]; exact s5 _ _ z, ?_, hjl2⟩
        rw [upd_same, take_snoc hx]
        unfold dropI
        rw [List.filter_append, List.filter_cons_of_pos (by exact cc), List.map_append]; rfl
      · refine ⟨s5, ?_, hjl2⟩
        rw [hA, take_snoc hx]
        unfold dropI
        rw [List.filter_append, List.filter_cons_of_neg (by exact cc), List.filter_nil, List.append_nil]
    rintro H5 ⟨s5, hA, _⟩
    rw [List.length_map, List.take_length] at hA
    refine k D3 H5 (s14.trans s5) (Same.free s14 hD3) ?_
    unfold movedI
    rw [← hBe]
    exact hA
end
open Sem (wp)
/-! ### code that doesn't wake the generators that sleep: they stay as they are -/
def asleep : GenState → Bool
  | .suspended .. => true
  | _ => false
/-- the same line, but nothing goes on from it -/
def deadF (F : Frame) : Frame := .ret (fun _ => .unsupported "") none false [] F.where_.1 F.where_.2 []
def dead : GenState → GenState
  | .suspended _ _ c p fs _ => .suspended (fun _ => .unsupported "") [] c p (fs.map deadF) false
  | x => x
theorem dead_seen (x : GenState) : (dead x).seen = x.seen := by
  cases x with
  | suspended k l c p fs cl =>
    show (GenStatus.suspended, some ((c, p) :: (fs.map deadF).map Frame.where_)) = (GenStatus.suspended, some ((c, p) :: fs.map Frame.where_))
    rw [List.map_map]
    congr 3
  | fresh c => rfl
  | running => rfl
  | finished => rfl
/-- no generator's frame among them -/
def NoG (fs : List Frame) : Prop := ∀ F ∈ fs, ∃ k h g l c p kp, F = .ret k h g l c p kp
def NoGS : GenState → Prop
  | .suspended _ _ _ _ fs _ => NoG fs
  | _ => True
def NoGE : End → Prop
  | .susp _ _ _ _ _ _ fs => NoG fs
  | _ => True
theorem NoG.nil : NoG [] := fun _ h => by cases h
theorem NoG.cons {k h g l c p kp fs} (q : NoG fs) : NoG (.ret k h g l c p kp :: fs) := fun F hF => by
  rcases List.mem_cons.mp hF with e | e
  · exact ⟨_, _, _, _, _, _, _, e⟩
  · exact q F e
theorem NoG.tail {F : Frame} {fs} (q : NoG (F :: fs)) : NoG fs := fun F' h => q F' (List.mem_cons_of_mem _ h)
theorem NoG.append {fs gs} (a : NoG fs) (b : NoG gs) : NoG (fs ++ gs) := fun F h => (List.mem_append.mp h).elim (a F) (b F)
theorem NoG.split : ∀ {fs : List Frame}, NoG fs → splitAtGen fs = none
  | [], _ => rfl
  | F :: fs, q => by
    obtain ⟨k, h, g, l, c, p, kp, rfl⟩ := q _ List.mem_cons_self
    show (splitAtGen fs).map _ = none
    rw [NoG.split q.tail]; rfl
def pick (G : Array GenState) (i : Nat) (x : GenState) : GenState :=
  match G[i]? with
  | some y => if asleep y = true then y else x
  | none => x
def back (G : Array GenState) (s : Shared) : Shared := { s with gens := s.gens.mapIdx (pick G) }
structure Put (G : Array GenState) (s : Shared) : Prop where
  sz : G.size ≤ s.gens.size
  at_ : ∀ (i : Nat) (y : GenState), G[i]? = some y → asleep y = true → s.gens[i]? = some (dead y)
  no : ∀ (i : Nat) (x : GenState), s.gens[i]? = some x → NoGS x
section
variable {M : Model} {G : Array GenState} {s : Shared}
theorem back_size : (back G s).gens.size = s.gens.size := by
  show (s.gens.mapIdx (pick G)).size = _
  rw [Array.size_mapIdx]
theorem back_get (i : Nat) : (back G s).gens[i]? = s.gens[i]?.map (pick G i) := by
  show (s.gens.mapIdx (pick G))[i]? = _
  rw [Array.getElem?_mapIdx]
theorem pick_off {i : Nat} {x : GenState} (h : ∀ y, G[i]? = some y → asleep y = false) : pick G i x = x := by
  unfold pick
  split
  · rename_i y e
    rw [h y e, if_neg Bool.false_ne_true]
  · rfl
theorem pick_seen {i : Nat} {x : GenState} (h : Put G s) (e : s.gens[i]? = some x) : (pick G i x).seen = x.seen := by
  unfold pick
  split
  · rename_i y ey
    cases a : asleep y with
    | false => rw [if_neg Bool.false_ne_true]
    | true =>
      rw [if_pos rfl]
      have q := h.at_ i y ey a
      rw [e] at q
      rw [Option.some.inj q, dead_seen]
  · rfl
theorem shared_ext {a b : Shared} (h1 : a.heap = b.heap) (h2 : a.gens = b.gens) (h3 : a.drawn = b.drawn) (h4 : a.toks = b.toks) (h5 : a.os = b.os) : a = b := by
  cases a; cases b; cases h1; cases h2; cases h3; cases h4; cases h5; rfl
theorem back_set {g : Nat} {x : GenState} (h : ∀ y, G[g]? = some y → asleep y = false) : back G (s.setGen g x) = (back G s).setGen g x := by
  refine shared_ext rfl ?_ rfl rfl rfl
  refine Array.ext_getElem? fun i => ?_
  rw [back_get]
  show ((s.gens.setIfInBounds g x)[i]?).map (pick G i) = ((back G s).gens.setIfInBounds g x)[i]?
  by_cases e : g = i
  · subst e
    by_cases hl : g < s.gens.size
    · rw [Array.getElem?_setIfInBounds_self_of_lt hl, Array.getElem?_setIfInBounds_self_of_lt (by rw [back_size]; exact hl)]
      show some (pick G g x) = some x
      rw [pick_off h]
    · rw [Array.getElem?_eq_none (by rw [Array.size_setIfInBounds]; omega), Array.getElem?_eq_none (by rw [Array.size_setIfInBounds, back_size]; omega)]
      rfl
  · rw [Array.getElem?_setIfInBounds_ne e, Array.getElem?_setIfInBounds_ne e, back_get]
theorem back_push {x : GenState} (h : G.size ≤ s.gens.size) : back G { s with gens := s.gens.push x } = { back G s with gens := (back G s).gens.push x } := by
  refine shared_ext rfl ?_ rfl rfl rfl
  refine Array.ext_getElem? fun i => ?_
  rw [back_get]
  show ((s.gens.push x)[i]?).map (pick G i) = ((back G s).gens.push x)[i]?
  rw [Array.getElem?_push, Array.getElem?_push, back_size, back_get]
  by_cases e : i = s.gens.size
  · rw [if_pos e, if_pos e]
    show some (pick G i x) = some x
    rw [pick_off fun y hy => by
      rw [Array.getElem?_eq_none (by omega)] at hy
      cases hy]
  · rw [if_neg e, if_neg e]
theorem Put.set {g : Nat} {x : GenState} (P : Put G s) (h : ∀ y, G[g]? = some y → asleep y = false) (hx : NoGS x) : Put G (s.setGen g x) where
  sz := by
    show _ ≤ (s.gens.setIfInBounds g x).size
    rw [Array.size_setIfInBounds]; exact P.sz
  at_ := fun i y e a => by
    show (s.gens.setIfInBounds g x)[i]? = _
    have ne : g ≠ i := fun z => by
      subst z
      rw [h y e] at a; cases a
    rw [Array.getElem?_setIfInBounds_ne ne]
    exact P.at_ i y e a
  no := fun i z e => by
    have e : (s.gens.setIfInBounds g x)[i]? = some z := e
    by_cases q : g = i
    · subst q
      by_cases hl : g < s.gens.size
      · rw [Array.getElem?_setIfInBounds_self_of_lt hl] at e
        rw [← Option.some.inj e]; exact hx
      · rw [Array.getElem?_eq_none (by rw [Array.size_setIfInBounds]; omega)] at e
        cases e
    · rw [Array.getElem?_setIfInBounds_ne q] at e
      exact P.no i z e
theorem Put.push {x : GenState} (P : Put G s) (hx : NoGS x) : Put G { s with gens := s.gens.push x } where
  sz := by
    show _ ≤ (s.gens.push x).size
    rw [Array.size_push]; have := P.sz; omega
  at_ := fun i y e a => by
    show (s.gens.push x)[i]? = _
    have q := P.at_ i y e a
    have hl : i < s.gens.size := (Array.getElem?_eq_some_iff.mp q).1
    rw [Array.getElem?_push, if_neg (by omega)]
    exact q
  no := fun i z e => by
    have e : (s.gens.push x)[i]? = some z := e
    rw [Array.getElem?_push] at e
    split at e
    · rw [← Option.some.inj e]; exact hx
    · exact P.no i z e
theorem Put.heap {h : Heap} {t : Nat} {d : Drawn} {o : OsState} (P : Put G s) : Put G { s with heap := h, toks := t, drawn := d, os := o } := ⟨P.sz, P.at_, P.no⟩
theorem no_unsup {Γ : PySem.Ctx} {p : Pos} {m : String} {fs : List Frame} {s s' : Shared} {e : End} : ¬ Runs M Γ p (.unsupported m) fs s e s' := by
  intro h
  generalize ht : (Sem.unsupported m : Sem PySem.Fin) = t at h
  induction h with
  | segRet _ _ ih _ => exact ih ht
  | segGen _ _ ih _ => exact ih ht
  | segSuspOut _ _ ih => exact ih ht
  | segSuspGen _ _ _ _ ih _ => exact ih ht
  | _ => cases ht
theorem off_of {g : Nat} {x : GenState} (P : Put G s) (e : s.gens[g]? = some x) (n : ∀ k l c p fs cl, x = .suspended k l c p fs cl → ∃ r, k r ≠ .unsupported "") : ∀ y, G[g]? = some y → asleep y = false := fun y hy => by
  cases a : asleep y with
  | false => rfl
  | true =>
    have q := P.at_ g y hy a
    rw [e] at q
    cases y with
    | suspended k l c p fs cl =>
      obtain ⟨r, hr⟩ := n _ _ _ _ _ _ (Option.some.inj q)
      exact absurd rfl hr
    | fresh c => cases a
    | running => cases a
    | finished => cases a
theorem back_some {g : Nat} {x : GenState} (e : s.gens[g]? = some x) (h : ∀ y, G[g]? = some y → asleep y = false) : (back G s).gens[g]? = some x := by
  rw [back_get, e]
  show some (pick G g x) = _
  rw [pick_off h]
theorem noGE_state {e : End} (h : NoGE e) : NoGS e.genState := by
  cases e with
  | ret r => exact True.intro
  | susp v g l k c p fs => exact h
theorem runs_back {Γ : PySem.Ctx} {p : Pos} {t : Sem PySem.Fin} {fs : List Frame} {s s' : Shared} {e : End} (h : Runs M Γ p t fs s e s') : NoG fs → Put G s → Runs M Γ p t fs (back G s) e (back G s') ∧ Put G s' ∧ NoGE e := by
  induction h with
  | done => exact fun _ P => ⟨.done, P, True.intro⟩
  | raise => exact fun _ P => ⟨.raise, P, True.intro⟩
  | again hq _ ih => exact fun n P => let ⟨a, b⟩ := ih .nil P; ⟨.again hq a, b⟩
  | rule _ ih => exact fun n P => let ⟨a, b⟩ := ih .nil P; ⟨.rule a, b⟩
  | «at» _ ih => exact fun n P => let ⟨a, b⟩ := ih .nil P; ⟨.at a, b⟩
  | load ho _ ih => exact fun n P => let ⟨a, b⟩ := ih .nil P; ⟨.load ho a, b⟩
  | update ho _ ih => exact fun n P => let ⟨a, b⟩ := ih .nil P.heap; ⟨.update ho a, b⟩
  | loadIfAlive _ ih => exact fun n P => let ⟨a, b⟩ := ih .nil P; ⟨.loadIfAlive a, b⟩
  | point _ ih => exact fun n P => let ⟨a, b⟩ := ih .nil P; ⟨.point a, b⟩
  | alloc _ ih => exact fun n P => let ⟨a, b⟩ := ih .nil P.heap; ⟨.alloc a, b⟩
  | fresh _ ih => exact fun n P => let ⟨a, b⟩ := ih .nil P.heap; ⟨.fresh a, b⟩
  | ask _ ih => exact fun n P => let ⟨a, b⟩ := ih .nil P; ⟨.ask a, b⟩
  | choose hn _ ih => exact fun n P => let ⟨a, b⟩ := ih .nil P.heap; ⟨.choose hn a, b⟩
  | os _ ih => exact fun n P => let ⟨a, b⟩ := ih .nil P.heap; ⟨.os a, b⟩
  | handled _ ih => exact fun n P => let ⟨a, b⟩ := ih .nil P; ⟨.handled a, b⟩
  | genState hg _ ih =>
    refine fun n P => let ⟨a, b⟩ := ih .nil P; ⟨.genState (st := pick G _ _) (by rw [back_get, hg]; rfl) ?_, b⟩
    rw [pick_seen P hg]; exact a
  | stack _ ih => exact fun n P => let ⟨a, b⟩ := ih .nil P; ⟨.stack a, b⟩
  | thread _ ih => exact fun n P => let ⟨a, b⟩ := ih .nil P; ⟨.thread a, b⟩
  | newGen _ ih =>
    refine fun n P => let ⟨a, b⟩ := ih .nil (P.push True.intro); ⟨.newGen ?_, b⟩
    rw [back_push P.sz] at a
    rw [back_size]; exact a
  | call _ _ ih1 ih2 =>
    refine fun n P => ?_
    obtain ⟨a1, b1, _⟩ := ih1 .nil P
    obtain ⟨a2, b2⟩ := ih2 .nil b1
    exact ⟨.call a1 a2, b2⟩
  | callSusp _ ih =>
    refine fun n P => ?_
    obtain ⟨a1, b1, c1⟩ := ih .nil P
    exact ⟨.callSusp a1, b1, NoG.append c1 (.cons .nil)⟩
  | yield => exact fun _ P => ⟨.yield, P, NoG.nil⟩
  | resumeFresh hg _ hq _ ih1 ih2 =>
    refine fun n P => ?_
    have off := off_of P hg fun _ _ _ _ _ _ z => by cases z
    obtain ⟨a1, b1, c1⟩ := ih1 .nil (P.set off True.intro)
    obtain ⟨a2, b2⟩ := ih2 .nil (b1.set off (noGE_state c1))
    rw [back_set off] at a1 a2
    exact ⟨.resumeFresh (back_some hg off) a1 hq a2, b2⟩
  | resumeSuspended hg h1 hq _ ih1 ih2 =>
    refine fun n P => ?_
    have off := off_of P hg fun _ _ _ _ _ _ z => by
      cases z
      exact ⟨_, fun q => by rw [q] at h1; exact no_unsup h1⟩
    obtain ⟨a1, b1, c1⟩ := ih1 (P.no _ _ hg) (P.set off True.intro)
    obtain ⟨a2, b2⟩ := ih2 .nil (b1.set off (noGE_state c1))
    rw [back_set off] at a1 a2
    exact ⟨.resumeSuspended (back_some hg off) a1 hq a2, b2⟩
  | resumeJustStarted hg hv _ ih =>
    refine fun n P => let ⟨a, b⟩ := ih .nil P; ⟨.resumeJustStarted (back_some hg (off_of P hg fun _ _ _ _ _ _ z => by cases z)) hv a, b⟩
  | resumeThrowFresh hg _ ih =>
    refine fun n P => ?_
    have off := off_of P hg fun _ _ _ _ _ _ z => by cases z
    obtain ⟨a, b⟩ := ih .nil (P.set off True.intro)
    rw [back_set off] at a
    exact ⟨.resumeThrowFresh (back_some hg off) a, b⟩
  | resumeRunning hg _ ih => exact fun n P => let ⟨a, b⟩ := ih .nil P; ⟨.resumeRunning (back_some hg (off_of P hg fun _ _ _ _ _ _ z => by cases z)) a, b⟩
  | resumeFinished hg _ ih => exact fun n P => let ⟨a, b⟩ := ih .nil P; ⟨.resumeFinished (back_some hg (off_of P hg fun _ _ _ _ _ _ z => by cases z)) a, b⟩
  | segRet _ _ ih1 ih2 =>
    refine fun n P => ?_
    obtain ⟨a1, b1, _⟩ := ih1 .nil P
    obtain ⟨a2, b2⟩ := ih2 n.tail b1
    exact ⟨.segRet a1 a2, b2⟩
  | segGen _ _ ih1 ih2 =>
    refine fun n P => ?_
    obtain ⟨k, h, g, l, c, p, kp, z⟩ := n _ List.mem_cons_self
    cases z
  | segSuspOut hs _ ih =>
    refine fun n P => ?_
    obtain ⟨a1, b1, c1⟩ := ih .nil P
    exact ⟨.segSuspOut hs a1, b1, NoG.append c1 n⟩
  | segSuspGen hs _ _ _ _ _ =>
    refine fun n P => ?_
    rw [n.split] at hs
    cases hs

theorem wp_back {α : Type} {Γ : PySem.Ctx} (t : Sem α) : ∀ (Q : α → Pos → Shared → Prop) (E : Value → Pos → Shared → Prop) (p : Pos) (s : Shared), Put G s → wp M Γ t Q E p s →
    wp M Γ t (fun a p' s' => ∃ s1, Put G s1 ∧ s' = back G s1 ∧ Q a p' s1) (fun e p' s' => ∃ s1, Put G s1 ∧ s' = back G s1 ∧ E e p' s1) p (back G s) := by
  induction t with
  | pure a => exact fun Q E p s P h => ⟨s, P, rfl, h⟩
  | raise e => exact fun Q E p s P h => ⟨s, P, rfl, h⟩
  | unsupported _ => exact fun Q E p s _ h => h
  | finish _ => exact fun Q E p s _ h => h
  | rule _ k ih => exact fun Q E p s P h => ih () Q E p s P h
  | «at» p' k ih => exact fun Q E p s P h => ih () Q E p' s P h
  | load a _ k ih => exact fun Q E p s P ⟨o, ho, h⟩ => ⟨o, ho, ih o Q E p s P h⟩
  | update a _ f k ih => exact fun Q E p s P h => ⟨h.1, ih () Q E p _ P.heap h.2⟩
  | loadIfAlive a k ih => exact fun Q E p s P h => ih _ Q E p s P h
  | point _ k ih => exact fun Q E p s P h => ih () Q E p s P h
  | register _ _ => exact fun Q E p s _ h => h
  | alloc o k ih => exact fun Q E p s P h => ih _ Q E p _ P.heap h
  | fresh k ih => exact fun Q E p s P h => ih _ Q E p _ P.heap h
  | ask k ih => exact fun Q E p s P h => ih _ Q E p s P h
  | choose src m k ih => exact fun Q E p s P h => ⟨h.1, ih _ Q E p _ P.heap h.2⟩
  | os q _ k ih => exact fun Q E p s P h => ih _ Q E p _ P.heap h
  | call c hd _ _ k ih =>
    rintro Q E p s P ⟨r, s', hr, h⟩
    obtain ⟨a, b, _⟩ := runs_back (show Runs M _ _ _ _ _ _ _ from hr) .nil P
    exact ⟨r, _, a, ih r Q E p s' b h⟩
  | handled own k ih => exact fun Q E p s P h => ih _ Q E p s P h
  | genState g k ih =>
    rintro Q E p s P ⟨st, hs, h⟩
    refine ⟨pick G g st, by rw [back_get, hs]; rfl, ?_⟩
    rw [pick_seen P hs]
    exact ih _ Q E p s P h
  | newGen c k ih =>
    intro Q E p s P h
    have q := ih _ Q E p _ (P.push (x := .fresh c) True.intro) h
    rw [back_push P.sz] at q
    show wp M Γ (k (back G s).gens.size) _ _ p { back G s with gens := (back G s).gens.push (.fresh c) }
    rw [back_size]
    exact q
  | resume g r l k ih =>
    rintro Q E p s P ⟨res, s', hw, h⟩
    cases e : s.gens[g]? with
    | none =>
      unfold Wakes at hw
      rw [e] at hw
      exact hw.elim
    | some x =>
      have go : (∀ y, G[g]? = some y → asleep y = false) → Wakes M Γ p g r (back G s) res (back G s') ∧ Put G s' := by
        intro off
        unfold Wakes at hw ⊢
        rw [back_some e off]
        rw [e] at hw
        cases x with
        | fresh c =>
          cases r with
          | send v =>
            cases v
            case none =>
              obtain ⟨e1, s1, hr, hq, hres, hs⟩ := hw
              obtain ⟨a1, b1, c1⟩ := runs_back hr .nil (P.set off True.intro)
              rw [back_set off] at a1
              subst hs
              exact ⟨⟨e1, _, a1, hq, hres, by rw [back_set off]⟩, b1.set off (noGE_state c1)⟩
            all_goals (obtain ⟨h1, h2⟩ := hw; subst h2; exact ⟨⟨h1, rfl⟩, P⟩)
          | throw v =>
            obtain ⟨h1, h2⟩ := hw
            subst h2
            exact ⟨⟨h1, by rw [back_set off]⟩, P.set off True.intro⟩
        | suspended k₀ l₀ c₀ p₀ fs cl =>
          obtain ⟨e1, s1, hr, hq, hres, hs⟩ := hw
          obtain ⟨a1, b1, c1⟩ := runs_back hr (P.no _ _ e) (P.set off True.intro)
          rw [back_set off] at a1
          subst hs
          exact ⟨⟨e1, _, a1, hq, hres, by rw [back_set off]⟩, b1.set off (noGE_state c1)⟩
        | running => obtain ⟨h1, h2⟩ := hw; subst h2; exact ⟨⟨h1, rfl⟩, P⟩
        | finished => obtain ⟨h1, h2⟩ := hw; subst h2; exact ⟨⟨h1, rfl⟩, P⟩
      have off := off_of P e fun k₀ l₀ c₀ p₀ fs cl z => by
        subst z
        unfold Wakes at hw
        rw [e] at hw
        obtain ⟨e1, s1, hr, _⟩ := hw
        exact ⟨r, fun q => by rw [q] at hr; exact no_unsup hr⟩
      obtain ⟨a, b⟩ := go off
      exact ⟨res, _, a, ih res Q E p s' b h⟩
  | yield _ _ _ _ => exact fun Q E p s _ h => h
  | stack k ih => exact fun Q E p s P h => ih _ Q E p s P h
  | fork _ _ => exact fun Q E p s _ h => h
  | thread k ih => exact fun Q E p s P h => ih _ Q E p s P h
  | await _ _ _ _ _ => exact fun Q E p s _ h => h
/-- all that sleeps can't be woken -/
def kill (s : Shared) : Shared := { s with gens := s.gens.map dead }
theorem put_kill (s : Shared) : Put s.gens (kill s) where
  sz := by
    show _ ≤ (s.gens.map dead).size
    rw [Array.size_map]; exact Nat.le_refl _
  at_ := fun i y e _ => by
    show (s.gens.map dead)[i]? = _
    rw [Array.getElem?_map, e]; rfl
  no := fun i x e => by
    have e : (s.gens.map dead)[i]? = some x := e
    rw [Array.getElem?_map] at e
    cases q : s.gens[i]? with
    | none => rw [q] at e; cases e
    | some y =>
      rw [q] at e
      have e := Option.some.inj e
      subst e
      cases y with
      | suspended k l c p fs cl =>
        intro F hF
        obtain ⟨F', _, e'⟩ := List.mem_map.mp hF
        exact ⟨_, _, _, _, _, _, _, e'.symm⟩
      | fresh c => exact True.intro
      | running => exact True.intro
      | finished => exact True.intro
theorem back_kill (s : Shared) : back s.gens (kill s) = s := by
  refine shared_ext rfl ?_ rfl rfl rfl
  refine Array.ext_getElem? fun i => ?_
  rw [back_get]
  show ((s.gens.map dead)[i]?).map _ = _
  rw [Array.getElem?_map]
  cases e : s.gens[i]? with
  | none => rfl
  | some x =>
    show some (pick s.gens i (dead x)) = some x
    unfold pick
    rw [e]
    dsimp only
    cases a : asleep x with
    | true => rw [if_pos rfl]
    | false =>
      rw [if_neg Bool.false_ne_true]
      cases x with
      | suspended k l c p fs cl => cases a
      | fresh c => rfl
      | running => rfl
      | finished => rfl
/-- what is shown of a state in which nothing that sleeps can be woken: all that sleeps stays as it is -/
theorem wpAny_still {α : Type} {A : Around} {t : Sem α} {Q : α → Shared → Prop} {E : Value → Shared → Prop} {s : Shared} (h : wpAny M A t Q E (kill s)) :
    wpAny M A t (fun a s' => ∃ s1, Put s.gens s1 ∧ s' = back s.gens s1 ∧ Q a s1) (fun e s' => ∃ s1, Put s.gens s1 ∧ s' = back s.gens s1 ∧ E e s1) s := by
  intro Γ p hΓ
  have q := wp_back t _ _ p _ (put_kill s) (h Γ p hΓ)
  rw [back_kill] at q
  exact q
theorem allBare_kill {s : Shared} (h : AllBare s.gens) : AllBare (kill s).gens := fun y hy => by
  have hy : y ∈ s.gens.map dead := hy
  obtain ⟨x, hx, e⟩ := Array.mem_map.mp hy
  subst e
  cases x with
  | suspended k l c p fs cl => rfl
  | fresh c => rfl
  | running => rfl
  | finished => rfl
theorem allBare_back {G : Array GenState} {s : Shared} (hG : AllBare G) (h : AllBare s.gens) : AllBare (back G s).gens := fun y hy => by
  obtain ⟨i, hi, e⟩ := Array.mem_iff_getElem.mp hy
  have q : (back G s).gens[i]? = some y := by rw [Array.getElem?_eq_getElem hi, e]
  rw [back_get] at q
  cases z : s.gens[i]? with
  | none => rw [z] at q; cases q
  | some x =>
    rw [z] at q
    have q : pick G i x = y := Option.some.inj q
    have hx := h x (Array.mem_of_getElem? z)
    unfold pick at q
    split at q
    · rename_i u eu
      split at q
      · subst q; exact hG u (Array.mem_of_getElem? eu)
      · subst q; exact hx
    · subst q; exact hx
theorem back_sleeps {G : Array GenState} {s : Shared} {i : Nat} {y : GenState} (P : Put G s) (e : G[i]? = some y) (a : asleep y = true) : (back G s).gens[i]? = some y := by
  rw [back_get, P.at_ i y e a]
  show some (pick G i (dead y)) = _
  unfold pick
  rw [e]
  dsimp only
  rw [if_pos a]
end
/-! ### a stretch of a generator's code, up to where it sleeps or ends -/
/-- from here the code c comes to an end of which Φ holds -/
def Way (M : Model) (A : Around) (Φ : End → Shared → Prop) (c : Code) (t : Sem PySem.Fin) (fs : List Frame) (s : Shared) : Prop :=
  ∀ (Γ : PySem.Ctx) (p : Pos), Γ.code = c → Γ.Woken A → ∃ e s', Runs M Γ p t fs s e s' ∧ Φ e s'
section
variable {M : Model} {A : Around} {Φ : End → Shared → Prop} {c : Code} {fs : List Frame} {s : Shared}
theorem way_wrap {α : Type} {m : Sem α} {K : α → Sem PySem.Fin} {J : Value → Sem PySem.Fin} {gd : Bool → Bool} {lv : List Value → List Value}
    (h : wpAny M (A.over c fs) m (fun a s' => Way M A Φ c (K a) fs s') (fun x s' => Way M A Φ c (J x) fs s') s) : Way M A Φ c (m.wrap K J gd lv) fs s := by
  rintro Γ p rfl hw
  exact runs_wrap_of_wp K J gd lv m (h (Γ.over fs) p (hw.over fs)) (fun a p1 s1 q => q Γ p1 rfl hw) fun x p1 s1 q => q Γ p1 rfl hw
theorem way_bind {α β : Type} {m : Sem α} {f : α → Sem β} {K : β → Sem PySem.Fin} {J : Value → Sem PySem.Fin} {gd : Bool → Bool} {lv : List Value → List Value}
    (h : wpAny M (A.over c fs) m (fun a s' => Way M A Φ c ((f a).wrap K J gd lv) fs s') (fun x s' => Way M A Φ c (J x) fs s') s) : Way M A Φ c ((m >>= f).wrap K J gd lv) fs s := by
  rw [Sem.bind_eq_wrap', Sem.wrap_wrap]
  exact way_wrap h
theorem way_at {q : Pos} {k : Unit → Sem PySem.Fin} (h : Way M A Φ c (k ()) fs s) : Way M A Φ c (.at q k) fs s :=
  way_wrap (m := standAt q) (K := k) (J := .raise) (gd := id) (lv := id) (wpAny_standAt h)
theorem way_point {l : List Value} {k : Unit → Sem PySem.Fin} (h : Way M A Φ c (k ()) fs s) : Way M A Φ c (.point l k) fs s :=
  way_wrap (m := point) (K := k) (J := .raise) (gd := id) (lv := fun _ => l) (wpAny_point h)
theorem way_call {c' : Code} {h : Option Value} {g : Bool} {l : List Value} {k : Result → Sem PySem.Fin} (hc : ∀ p, Way M A Φ c' (M.den c') (.ret k h g l c p [] :: fs) s) : Way M A Φ c (.call c' h g l k) fs s := by
  rintro Γ p rfl hw
  obtain ⟨e, s1, r, q⟩ := hc p (Γ.goto c') p rfl (hw.goto c')
  exact ⟨e, s1, runs_call_seg r, q⟩
theorem way_leaf {k : Result → Sem PySem.Fin} {h : Option Value} {g : Bool} {l kp : List Value} {c₁ : Code} {p₁ : Pos} (r : Result) (hk : Way M A Φ c₁ (k r) fs s) : Way M A Φ c (leafOf r) (.ret k h g l c₁ p₁ kp :: fs) s := by
  rintro Γ p rfl hw
  obtain ⟨e, s1, x, q⟩ := hk (Γ.goto c₁) p₁ rfl (hw.goto c₁)
  exact ⟨e, s1, Runs.pop r x, q⟩
theorem way_again {c' : Code} (hq : c'.quiet = true) (hc : Way M A Φ c' (M.den c') fs s) : Way M A Φ c (.pure (.again c')) fs s := by
  rintro Γ p rfl hw
  obtain ⟨e, s1, r, q⟩ := hc (Γ.goto c') p rfl (hw.goto c')
  exact ⟨e, s1, Runs.head (c₁ := c') (fun _ _ x => .again hq x) r, q⟩
theorem way_end (r : Result) (h : Φ (.ret r) s) : Way M A Φ c (leafOf r) [] s := by
  rintro Γ p rfl _
  exact ⟨.ret r, s, Runs.leaf r, h⟩
/-- it sleeps -/
theorem way_yield {v : Value} {g : Bool} {l : List Value} {k : Resume → Sem PySem.Fin} (hfs : splitAtGen fs = none) (h : ∀ p, Φ (.susp v g l k c p fs) s) : Way M A Φ c (.yield v g l k) fs s := by
  rintro Γ p rfl _
  exact ⟨_, s, Runs.yield' fs hfs, h p⟩
end
section
variable {M : Model} {A : Around} {Φ : End → Shared → Prop} {c : Code} {fs : List Frame} {s : Shared} {env : Env} {K : Flow → Sem PySem.Fin} {J : Value → Sem PySem.Fin} {gd : Bool → Bool} {lv : List Value → List Value}
theorem execs_two : ∀ (a b : List Stmt), execs (a ++ b) env = execs a env >>= fun f => match f with | .next => execs b env | f => pure f
  | [], b => rfl
  | st :: a, b => by
    rw [List.cons_append, execs_cons, execs_cons, execs_two a b]
    show Sem.bind _ _ = Sem.bind (Sem.bind _ _) _
    rw [Sem.bind_assoc]
    congr 1
    funext f
    cases f <;> rfl
theorem way_execs {a b : List Stmt} (h : wpAny M (A.over c fs) (execs a env) (fun f s' => f = .next ∧ Way M A Φ c ((execs b env).wrap K J gd lv) fs s') (fun _ _ => False) s) : Way M A Φ c ((execs (a ++ b) env).wrap K J gd lv) fs s := by
  rw [execs_two]
  refine way_bind (wpAny_mono h (fun f s1 ⟨e, q⟩ => ?_) fun _ _ z => z.elim)
  subst e
  exact q
theorem way_cons {st : Stmt} {rest : List Stmt} (h : Way M A Φ c ((exec st env).wrap (fun f => match f with | .next => (execs rest env).wrap K J gd lv | f => K f) J gd lv) fs s) : Way M A Φ c ((execs (st :: rest) env).wrap K J gd lv) fs s := by
  rw [execs_cons_wrap]; exact h
/-- yield e: how it goes on is told by what is left -/
theorem way_Yield {e : Expr} {yp pos : Pos} (hfs : splitAtGen fs = none) (hgd : gd false = false)
    (h : wpAny M (A.over c fs) (eval e env) (fun v s' => ∀ l k p, (∀ A' Φ' s'', Way M A' Φ' c (K .next) fs s'' → Way M A' Φ' c (k (.send .none)) fs s'') → Φ (.susp v false l k c p fs) s') (fun _ _ => False) s)
    (hco : env.scope.isCoroutine = false := by rfl) (hi : interactive env = false := by rfl) : Way M A Φ c ((exec (.Expr (.Yield (some e) yp) pos) env).wrap K J gd lv) fs s := by
  rw [exec_Expr env _ pos hi rfl]
  show Way M A Φ c (.at pos fun _ => (((eval e env >>= fun v => (standAt yp >>= fun _ => yieldOut env v))) >>= fun x => dropValue (.Yield (some e) yp) pos x).wrap K J gd lv) fs s
  have out : ∀ v, yieldOut env v = yieldValue v := fun v => by simp only [yieldOut, hco, Bool.false_eq_true, if_false]
  simp only [out]
  refine way_at ?_
  rw [Sem.bind_eq_wrap', Sem.bind_eq_wrap', Sem.wrap_wrap, Sem.wrap_wrap]
  refine way_wrap (wpAny_mono h (fun v s1 q => ?_) fun _ _ z => z.elim)
  refine way_at ?_
  refine way_yield hfs fun p => ?_
  have fin : ∀ (g : Bool) (l : List Value) (k : Resume → Sem PySem.Fin), g = false → (∀ A' Φ' s'', Way M A' Φ' c (K .next) fs s'' → Way M A' Φ' c (k (.send .none)) fs s'') → Φ (.susp v g l k c p fs) s1 := fun g l k e w => by
    subst e
    exact q l k p w
  exact fin _ _ _ hgd fun A' Φ' s'' w => w
/-- for .. in ..: what is walked is at hand -/
theorem way_For {tg iter : Expr} {body : List Stmt} {pos : Pos}
    (h : wpAny M (A.over c fs) (eval iter env) (fun x s1 => wpAny M (A.over c fs) (pyIter x) (fun it s2 => ∀ (k : Result → Sem PySem.Fin) (g : Bool) (l : List Value) (p : Pos), g = gd false → (∀ A' Φ' s3, Way M A' Φ' c (K .next) fs s3 → Way M A' Φ' c (k (.ok .next)) fs s3) →
      Way M A Φ (.forLoop tg it body [] env) (M.den (.forLoop tg it body [] env)) (.ret k none g l c p [] :: fs) s2) (fun _ _ => False) s1) (fun _ _ => False) s)
    (hs : ∀ x, foldedSetIterable iter env x = pure x := by intro _; rfl) : Way M A Φ c ((exec (.For tg iter body [] pos) env).wrap K J gd lv) fs s := by
  rw [exec_For]
  refine way_bind (wpAny_standAt (way_bind (wpAny_mono h (fun x s1 q => way_bind (wpAny_of_eq (hs x) (way_bind (wpAny_standAt (way_bind (wpAny_holding (wpAny_mono q (fun it s2 q2 => ?_) fun _ _ z => z.elim))))))) fun _ _ z => z.elim)))
  exact way_call fun p => q2 _ _ _ p rfl fun A' Φ' s3 w => w
end
section
variable {prog : Program} {w : World} {A : Around} {Φ : End → Shared → Prop} {fs : List Frame} {s : Shared} {env : Env}
/-- one turn of it -/
theorem way_forLoop {tg : Expr} {it : Value} {body : List Stmt} {k : Result → Sem PySem.Fin} {g : Bool} {l kp : List Value} {c : Code} {p : Pos} {L : Code} (hL : L = .forLoop tg it body [] env)
    (h : wpAny (model prog w) (A.over L (.ret k none g l c p kp :: fs)) (pyNext it) (fun r s1 => match r with
      | none => Way (model prog w) A Φ c (k (.ok .next)) fs s1
      | some v => wpAny (model prog w) (A.over L (.ret k none g l c p kp :: fs)) (letOwnedTupleGo tg it v) (fun _ s2 => wpAny (model prog w) (A.over L (.ret k none g l c p kp :: fs)) (assign tg env v) (fun _ s3 =>
          Way (model prog w) A Φ L ((execs body env).wrap (fun f => match f with
            | .next | .cont => .pure (.again L)
            | .brk => .pure (.done .next)
            | .ret v => .pure (.done (.ret v))) (fun e => (do noteFrame e env; theTreesLotGoes e : Sem Unit).wrap (fun _ => .raise e) .raise id id) id id) (.ret k none g l c p kp :: fs) s3) (fun _ _ => False) s2) (fun _ _ => False) s1) (fun _ _ => False) s) :
    Way (model prog w) A Φ L ((model prog w).den L) (.ret k none g l c p kp :: fs) s := by
  subst hL
  show Way _ A Φ _ ((forTurn tg it body [] env).onRaise (fun x => do noteFrame x env; theTreesLotGoes x)) _ s
  unfold forTurn
  rw [Sem.onRaise_eq_wrap]
  refine way_bind (wpAny_standAt (way_bind (wpAny_onRaise (wpAny_mono h (fun r s1 q => ?_) fun _ _ z => z.elim))))
  cases r with
  | none =>
    refine way_again rfl ?_
    show Way _ A Φ _ (do return Fin.done (← (execs [] env).onRaise (fun x => do noteFrame x env; theTreesLotGoes x))) _ s1
    exact way_leaf (.ok .next) q
  | some v =>
    refine way_bind (wpAny_mono q (fun _ s2 q2 => way_bind (wpAny_mono q2 (fun _ s3 q3 => ?_) fun _ _ z => z.elim)) fun _ _ z => z.elim)
    show Way _ A Φ _ ((execs body env >>= _).wrap _ _ _ _) _ s3
    rw [Sem.bind_eq_wrap', Sem.wrap_wrap]
    rw [Sem.wrap_congr (execs body env) _ _ (K' := fun f => match f with
            | .next | .cont => .pure (.again (.forLoop tg it body [] env))
            | .brk => .pure (.done .next)
            | .ret v => .pure (.done (.ret v))) (H' := (fun e => (do noteFrame e env; theTreesLotGoes e : Sem Unit).wrap (fun _ => .raise e) .raise id id))
        (fun f => by cases f <;> rfl) (fun e => by first | exact Sem.bind_eq_wrap _ _ | (show (do noteFrame e env; theTreesLotGoes e : Sem Unit).bind (fun _ => .raise e) = _; rw [Sem.bind_eq_wrap]))]
    exact q3
/-- a generator's code from its beginning -/
theorem way_func {body : List Stmt}
    (h : Way (model prog w) A Φ (.func body env) ((execs body env).wrap (fun f => .pure (.done (.ret (match f with | .ret v => v | _ => .none)))) (fun e => (leaving env e).wrap (fun _ => .raise e) .raise id id) id id) fs s) :
    Way (model prog w) A Φ (.func body env) ((model prog w).den (.func body env)) fs s := by
  show Way _ A Φ _ (.point [] fun _ => ((execs body env).onRaise (leaving env)) >>= _) fs s
  refine way_point ?_
  rw [Sem.onRaise_eq_wrap, Sem.bind_eq_wrap', Sem.wrap_wrap]
  rw [Sem.wrap_congr (execs body env) _ _ (K' := fun f => .pure (.done (.ret (match f with | .ret v => v | _ => .none)))) (H' := fun e => (leaving env e).wrap (fun _ => .raise e) .raise id id) (fun f => by cases f <;> rfl)
    (fun e => by rw [Sem.bind_eq_wrap, Sem.wrap_wrap]; rfl)]
  exact h
end
/-! ### a generator is woken -/
def Rest (M : Model) (A : Around) (Φ : End → Shared → Prop) (gs : GenState) (s : Shared) : Prop :=
  match gs with
  | .fresh c => Way M A Φ c (M.den c) [] s
  | .suspended k _ c _ fs _ => Way M A Φ c (k (.send .none)) fs s
  | _ => False
section
variable {M : Model} {A : Around} {Φ : End → Shared → Prop} {s : Shared}
theorem wpAny_wake {α : Type} {E : Value → Shared → Prop} {g : Nat} {gs : GenState} {l : List Value} {k : GenResult → Sem α} {Q : α → Shared → Prop} (hg : s.gens[g]? = some gs) (h : Rest M A Φ gs (s.setGen g .running))
    (hk : ∀ e s1, Φ e s1 → e.quiet = true ∧ wpAny M A (k e.result) Q E (s1.setGen g e.genState)) : wpAny M A (.resume g (.send .none) l k) Q E s := by
  intro Γ p hΓ
  rw [Sem.wp_resume]
  cases gs with
  | fresh c =>
    obtain ⟨e, s1, r, q⟩ := h (Γ.wake c p) p rfl (hΓ.wake c p)
    obtain ⟨hq, hw⟩ := hk e s1 q
    refine ⟨e.result, s1.setGen g e.genState, ?_, hw Γ p hΓ⟩
    unfold Wakes
    rw [hg]
    exact ⟨e, s1, r, hq, rfl, rfl⟩
  | suspended k0 l0 c p0 fs cl =>
    obtain ⟨e, s1, r, q⟩ := h (Γ.wake c p) p0 rfl (hΓ.wake c p)
    obtain ⟨hq, hw⟩ := hk e s1 q
    refine ⟨e.result, s1.setGen g e.genState, ?_, hw Γ p hΓ⟩
    unfold Wakes
    rw [hg]
    exact ⟨e, s1, r, hq, rfl, rfl⟩
  | running => exact h.elim
  | finished => exact h.elim
end
section
variable {P : Program} {w : World} {A : Around} {Φ : End → Shared → Prop} {E : Value → Shared → Prop} {s : Shared}
/-- next of a generator: it hands out a value, or it has come to its end -/
theorem next_gen {a : Addr} {g : Nat} {gs : GenState} {Q : Option Value → Shared → Prop} (hh : A.handled = none) (hl : s.heap.NoLimit) (hroom : A.depth < recursionLimit) (hg : s.heap.IsGen a g) (hgs : s.gens[g]? = some gs) (hgo : Rest (model P w) A.in1 Φ gs (s.setGen g .running))
    (hk : ∀ e s1, Φ e s1 → e.quiet = true ∧ match e with
      | .susp v _ _ _ _ _ _ => Q (some v) (s1.setGen g e.genState)
      | .ret r => (r = .ok (.ret .none)) ∧ ∀ h', (∀ b o, s1.heap.get? b = some o → h'.get? b = some o) → Q none { s1.setGen g .finished with heap := h' }) : wpAny (model P w) A (pyNext (.ref a)) Q E s := by
  unfold pyNext
  refine wpAny_bind (wpAny_attempt ?_)
  refine wpAny_callSpecial?_slot (name := Str.ofString "__next__") hg.typeIs slot_gen_next ?_
  refine wpAny_call_entry slot_gen_next hg.typeIs entry_gen_next ?_ (args_gen_next _)
  show wpAny _ A.in1 (Builtin.Generator.genWake (.ref a) (.send .none)) _ _ s
  unfold Builtin.Generator.genWake
  refine wpAny_bind (wpAny_holding (wpAny_genNumber hg (wpAny_bind (wpAny_genState hgs ?_))))
  cases gs with
  | running => exact hgo.elim
  | finished => exact hgo.elim
  | _ =>
    refine wpAny_bind (wpAny_roomToWake hl hroom ?_)
    show wpAny _ A.in1 (.resume g (.send .none) [] _) _ _ s
    refine wpAny_wake hgs hgo fun e s1 q => ?_
    obtain ⟨hq, q2⟩ := hk e s1 q
    refine ⟨hq, ?_⟩
    cases e with
    | susp v g0 l0 k0 c0 p0 fs0 => exact wpAny_pure ⟨v, rfl, wpAny_pure q2⟩
    | ret r =>
      obtain ⟨rfl, q3⟩ := q2
      show wpAny _ A.in1 (newExc (.type "StopIteration") [] >>= _) _ _ _
      refine wpAny_bind ?_
      simp only [newExc, newTuple]
      refine wpAny_bind (wpAny_newObj_type ?_ (by size_fits))
      refine wpAny_bind (m := firstArgMember _ _) (wpAny_of_eq (a := Value.none) (by first | rfl | (simp only [firstArgMember]; rfl)) ?_)
      refine wpAny_newObj_type ?_ (by size_fits)
      simp only [raiseNew]
      refine wpAny_bind (wpAny_bind (wpAny_handled ?_))
      rw [show A.in1.handled = none from hh]
      refine wpAny_throw ?_
      refine wpAny_bind (wpAny_isInstance (T := "StopIteration") (b := true) ⟨_, Heap.get?_push_size _ rfl, rfl⟩ isSubtype_stop ?_)
      exact wpAny_pure (q3 _ fun b o hb => Heap.get?_push_of_some _ (Heap.get?_push_of_some _ hb))
end
open GenW
/-! ### what a generator holds of the heap -/
theorem Inv.regen {X : Cx} {pins : List (Addr × Obj)} {σ : L2.St} {H : Hp} {s : Shared} (I : L2.Inv X pins σ H s) {g : Array GenState} (hg : AllBare g) : L2.Inv X pins σ H { s with gens := g } :=
  ⟨I.ok, I.os, hg, I.base, I.loc, I.cell, I.free, I.freeC, I.pin, I.hok, I.len⟩
def lay (pr : List (Addr × HO)) (H : Hp) : Hp := pr.foldr (fun q H => upd H q.1 q.2) H
theorem lay_off {H : Hp} {b : Addr} : ∀ {pr : List (Addr × HO)}, (∀ q ∈ pr, q.1 ≠ b) → lay pr H b = H b
  | [], _ => rfl
  | q :: pr, h => by
    show upd (lay pr H) q.1 q.2 b = _
    rw [upd_ne (Ne.symm (h q List.mem_cons_self))]
    exact lay_off fun q hq => h q (List.mem_cons_of_mem _ hq)
theorem lay_in {A B : Hp} {b : Addr} : ∀ {pr : List (Addr × HO)}, (∃ q ∈ pr, q.1 = b) → lay pr A b = lay pr B b
  | [], h => by obtain ⟨_, h, _⟩ := h; cases h
  | q :: pr, h => by
    show upd (lay pr A) q.1 q.2 b = upd (lay pr B) q.1 q.2 b
    by_cases e : b = q.1
    · subst e; rw [upd_same, upd_same]
    · rw [upd_ne e, upd_ne e]
      obtain ⟨u, hu, eu⟩ := h
      rcases List.mem_cons.mp hu with z | z
      · subst z; exact absurd eu.symm e
      · exact lay_in ⟨u, z, eu⟩
theorem lay_val {H : Hp} {b : Addr} : ∀ {pr : List (Addr × HO)}, (∃ q ∈ pr, q.1 = b) → ∃ q ∈ pr, lay pr H b = some q.2
  | [], h => by obtain ⟨_, h, _⟩ := h; cases h
  | q :: pr, h => by
    by_cases e : b = q.1
    · exact ⟨q, List.mem_cons_self, by subst e; exact upd_same⟩
    · obtain ⟨u, hu, eu⟩ := h
      rcases List.mem_cons.mp hu with z | z
      · subst z; exact absurd eu.symm e
      · obtain ⟨v, hv, ev⟩ := lay_val (H := H) ⟨u, z, eu⟩
        exact ⟨v, List.mem_cons_of_mem _ hv, by
          show upd (lay pr H) q.1 q.2 b = _
          rw [upd_ne e]; exact ev⟩
/-- neither the dict of an instance nor a tuple: nothing else leans on it -/
def PureO : HO → Prop
  | .own _ => False
  | .tup _ => False
  | _ => True
/-- what stood below n, without these -/
def freedO : Obj := { cls := .none, data := .freed }
def trunc (n : Nat) (fp : List Addr) (h : Heap) : Heap := { h with objs := (h.objs.extract 0 n).mapIdx fun i o => if i ∈ fp then freedO else o }
theorem trunc_le {n : Nat} {fp : List Addr} {h : Heap} : (trunc n fp h).objs.size ≤ n := by
  show ((h.objs.extract 0 n).mapIdx _).size ≤ n
  rw [Array.size_mapIdx, Array.size_extract]; omega
theorem trunc_size {n : Nat} {fp : List Addr} {h : Heap} (hn : n ≤ h.objs.size) : (trunc n fp h).objs.size = n := by
  show ((h.objs.extract 0 n).mapIdx _).size = n
  rw [Array.size_mapIdx, Array.size_extract]; omega
theorem ext_at {α : Type} {xs : Array α} {n b : Nat} (hb : b < n) : (xs.extract 0 n)[b]? = xs[b]? := by
  by_cases z : b < xs.size
  · have q : b < (xs.extract 0 n).size := by rw [Array.size_extract]; omega
    rw [Array.getElem?_eq_getElem q, Array.getElem?_eq_getElem z, Array.getElem_extract]
    simp
  · have q : (xs.extract 0 n).size ≤ b := by rw [Array.size_extract]; omega
    have z' : xs.size ≤ b := by omega
    rw [Array.getElem?_eq_none q, Array.getElem?_eq_none z']
theorem trunc_lt {n : Nat} {fp : List Addr} {h : Heap} {b : Addr} (hb : b < n) (hf : b ∉ fp) : (trunc n fp h).get? b = h.get? b := by
  have e : (trunc n fp h).objs[b]? = h.objs[b]? := by
    show ((h.objs.extract 0 n).mapIdx _)[b]? = _
    rw [Array.getElem?_mapIdx, ext_at hb]
    cases h.objs[b]? with
    | none => rfl
    | some o =>
      show some (if b ∈ fp then freedO else o) = some o
      rw [if_neg hf]
  unfold Heap.get?
  rw [e]
theorem trunc_some {n : Nat} {fp : List Addr} {h : Heap} {b : Addr} {o : Obj} (e : (trunc n fp h).get? b = some o) : b < n ∧ b ∉ fp ∧ h.get? b = some o := by
  have hb : b < n := Nat.lt_of_lt_of_le (Heap.lt_size e) trunc_le
  have hf : b ∉ fp := fun z => by
    have q : (trunc n fp h).objs[b]? = none ∨ (trunc n fp h).objs[b]? = some freedO := by
      show ((h.objs.extract 0 n).mapIdx _)[b]? = _ ∨ ((h.objs.extract 0 n).mapIdx _)[b]? = _
      rw [Array.getElem?_mapIdx]
      cases (h.objs.extract 0 n)[b]? with
      | none => exact .inl rfl
      | some o =>
        refine .inr ?_
        show some (if b ∈ fp then freedO else o) = _
        rw [if_pos z]
    unfold Heap.get? at e
    rcases q with q | q
    · rw [q] at e; cases e
    · rw [q] at e; cases e
  rw [trunc_lt hb hf] at e
  exact ⟨hb, hf, e⟩
def below (L : Nat) (H : Hp) : Hp := fun b => if b < L then H b else none
theorem below_lt {L b : Nat} {H : Hp} (h : b < L) : below L H b = H b := if_pos h
theorem below_some {L b : Nat} {H : Hp} {o : HO} (h : below L H b = some o) : b < L ∧ H b = some o := by
  unfold below at h
  split at h
  · rename_i c; exact ⟨c, h⟩
  · cases h
/-- what is not tracked, above L, but for the generator's own: each as it is -/
def Hx (L : Nat) (h : Heap) (fp : List Addr) (H : Hp) : Hp := fun b => match H b with
  | some u => some u
  | none => if L ≤ b ∧ b ∉ fp then (h.get? b).map fun o => .ext fun h' => h'.get? b = some o else none
section
variable {L : Nat} {h : Heap} {fp : List Addr} {H : Hp} {b : Addr}
theorem hx_some {u : HO} (e : H b = some u) : Hx L h fp H b = some u := by unfold Hx; rw [e]
theorem hx_lt (hb : b < L) : Hx L h fp H b = H b := by
  unfold Hx
  cases e : H b with
  | some u => rfl
  | none => exact if_neg fun z => absurd (Nat.lt_of_lt_of_le hb z.1) (Nat.lt_irrefl _)
theorem hx_own (hb : b ∈ fp) : Hx L h fp H b = H b := by
  unfold Hx
  cases e : H b with
  | some u => rfl
  | none => exact if_neg fun z => z.2 hb
theorem hx_out {o : Obj} (hn : H b = none) (hL : L ≤ b) (hb : b ∉ fp) (e : h.get? b = some o) : Hx L h fp H b = some (.ext fun h' => h'.get? b = some o) := by
  unfold Hx
  rw [hn]
  show (if L ≤ b ∧ b ∉ fp then _ else _) = _
  rw [if_pos ⟨hL, hb⟩, e]; rfl
theorem hx_inv {u : HO} (e : Hx L h fp H b = some u) : H b = some u ∨ (H b = none ∧ L ≤ b ∧ b ∉ fp ∧ ∃ o, h.get? b = some o ∧ u = .ext fun h' => h'.get? b = some o) := by
  unfold Hx at e
  split at e
  · rename_i v q
    exact .inl (q.trans e)
  · rename_i q
    refine .inr ⟨q, ?_⟩
    split at e
    · rename_i c
      cases z : h.get? b with
      | none => rw [z] at e; cases e
      | some o =>
        rw [z] at e
        exact ⟨c.1, c.2, o, rfl, (Option.some.inj e).symm⟩
    · cases e
theorem hx_none (hn : H b = none) (e : h.get? b = none) : Hx L h fp H b = none := by
  cases q : Hx L h fp H b with
  | none => rfl
  | some u =>
    rcases hx_inv q with z | ⟨_, _, _, o, z, _⟩
    · rw [hn] at z; cases z
    · rw [e] at z; cases z
theorem same_hx : Same H (Hx L h fp H) := fun b u e => hx_some e
theorem hok_hx {P : Program} {w : World} (ok : HOk P w H h) : HOk P w (Hx L h fp H) h := fun b u e => by
  rcases hx_inv e with z | ⟨_, _, _, o, z, eu⟩
  · exact (ok b u z).stay (fun _ _ _ q => q) (fun c q => hx_some q) fun c xs q => hx_some q
  · subst eu
    exact ⟨z, ⟨o, z⟩, fun h1 h2 q k => k o q⟩
end
theorem ObjOk.there {P : Program} {w : World} {H : Hp} {h : Heap} {a : Addr} {o : HO} (x : L2.ObjOk P w H h a o) : ∃ ob, h.get? a = some ob := by
  induction o with
  | lst xs => obtain ⟨_, its, n, _, e⟩ := x; exact ⟨_, e⟩
  | tup xs => obtain ⟨_, its, _, ob, e, _⟩ := x; exact ⟨_, e⟩
  | dK kvs => obtain ⟨_, _, vs, _, ob, es, ep, e, _⟩ := x; exact ⟨_, e⟩
  | dT kvs => obtain ⟨_, _, xs, _, ob, es, ep, e, _⟩ := x; exact ⟨_, e⟩
  | set S n => obtain ⟨ob, es, ep, t, e, _⟩ := x; exact ⟨_, e⟩
  | ins C dx fs => obtain ⟨_, _, _, e, _⟩ := x; exact ⟨_, e⟩
  | own y => exact x
  | xd fs => obtain ⟨mA, ⟨od, es, ep, e, _⟩, _⟩ := x; exact ⟨_, e⟩
  | rng lo hi => obtain ⟨t, u, v, e⟩ := x; exact ⟨_, e⟩
  | frz ob u ih => exact ⟨_, x.1⟩
  | tbl ps => exact ⟨_, (show h.get? a = some { cls := .none, data := .fields ps } from x)⟩
  | met f y => exact ⟨_, (show h.get? a = some (PySem.W.methodObj (.ref f) (.ref y)) from x)⟩
  | ext φ => exact x.2.1
open GenW
/-! ### a generator's frame, at any time that it is woken -/
def gCx (P : Program) (w : World) (K : PySem.W.Frag) (mg : Str → Option Value) (base : Heap) (N : List Str) (qual : Str) (scope : Scope) (f : Addr) (cd : Value) (Ag : Around) (outer : List Env) (L : Addr) (s : Shared) (H : Hp) : Cx where
  prog := P
  w := w
  K := K
  mg := mg
  base := base
  A := Ag.deeper (envOfC qual scope L f cd)
  N := N
  s_0 := s
  H_0 := H
  env := envOfC qual scope L f cd
  outer := outer
  stack := envOfC qual scope L f cd :: outer
  ex := []
  fn := fun _ => true
  calm := true
  pn := []
  xe := fun _ _ => False
def SlotsAt (env : Env) (N : List Str) (σ : L2.St) (h : Heap) : Prop :=
  ∃ m, h.Ns env.locals m ∧ ∀ (i : Nat) (x : Str) (v : V), N[i]? = some x → σ[i]? = some (some v) → Vis env.scope x → ∃ u, RelV v u ∧ Look env h m x u
theorem lookup_mem {x : Str} {k : NameKind} : ∀ {l : List (Str × NameKind)}, l.lookup x = some k → (x, k) ∈ l := fun h => PySem.mem_of_lookup h
theorem SlotsAt.stay {env : Env} {N : List Str} {σ : L2.St} {h h' : Heap} (nc : ∀ y ∈ env.scope.names, y.2 ≠ .cell ∧ y.2 ≠ .free) (x : SlotsAt env N σ h) (k : ∀ o, h.get? env.locals = some o → h'.get? env.locals = some o) : SlotsAt env N σ h' := by
  obtain ⟨m, ⟨o, es, ep, ho, r⟩, q⟩ := x
  refine ⟨m, ⟨o, es, ep, k o ho, r⟩, fun i y v h1 h2 h3 => ?_⟩
  obtain ⟨u, rv, l⟩ := q i y v h1 h2 h3
  refine ⟨u, rv, ?_⟩
  rcases l with l | ⟨l, _⟩
  · exact .inl l
  · rcases l with l | l
    · exact absurd rfl (nc _ (lookup_mem l)).1
    · exact absurd rfl (nc _ (lookup_mem l)).2
theorem cells_nil {n : Nat} : ∀ {l : List (Str × NameKind)} {acc : List (Str × Addr)}, (∀ y ∈ l, y.2 ≠ .cell) → cellsFrom n l acc = acc
  | [], _, _ => rfl
  | (x, k) :: l, acc, h => by
    unfold cellsFrom
    have q : (k == NameKind.cell) = false := by
      have := h _ List.mem_cons_self
      cases k <;> first | rfl | exact absurd rfl this
    rw [q, if_neg Bool.false_ne_true]
    exact cells_nil fun y hy => h y (List.mem_cons_of_mem _ hy)
theorem frames_trunc {base h : Heap} {L : Nat} {fp : List Addr} : ∀ {l : List Env}, h.FunFrames base l → (∀ b ∈ frs l, b < L ∧ b ∉ fp) → (trunc L fp h).FunFrames base l
  | [], _, _ => trivial
  | env :: l, x, hl => by
    obtain ⟨hk, ⟨a, o, hf, hn, ho, hd⟩, hr⟩ := x
    have ha : a ∈ frs (env :: l) := by
      show a ∈ List.filterMap _ _
      rw [List.filterMap_cons, hf]
      exact List.mem_cons_self
    refine ⟨hk, ⟨a, o, hf, hn, by rw [trunc_lt (hl a ha).1 (hl a ha).2]; exact ho, hd⟩, frames_trunc hr fun b hb => hl b ?_⟩
    show b ∈ List.filterMap _ _
    rw [List.filterMap_cons, hf]
    exact List.mem_cons_of_mem _ hb
section
variable {P : Program} {w : World} {K : PySem.W.Frag} {mg : Str → Option Value} {base : Heap} {N : List Str} {qual : Str} {scope : Scope} {f : Addr} {cd : Value} {A0 Ag : Around} {outer : List Env} {L ga : Addr} {fp : List Addr} {go : Obj} {s s1 : Shared} {H Hg H3 : Hp} {σ σ2 : L2.St}
/-- the frame's state, told anew of the state at hand -/
theorem regX (e0 : Env0 P w K mg base A0 outer s H) (hd : Ag.handled = none) (hfm : Ag.frames = some outer) (hsz : L ≤ s.heap.objs.size) (hb : base.objs.size ≤ L) (hfr : ∀ b ∈ frs outer, b < L ∧ b ∉ fp) (hbf : ∀ b o, base.get? b = some o → b ∉ fp) (hfn : ∀ b ∈ fp, H b = none) (hk : scope.kind = .function) (nc : ∀ y ∈ scope.names, y.2 ≠ .cell ∧ y.2 ≠ .free)
    (loc : SlotsAt (envOfC qual scope L f cd) N σ s.heap) (hL : Hg L = none) (pin : s.heap.get? ga = some go ∧ Hg ga = none ∧ ga ≠ L ∧ L ≤ ga ∧ ∀ v, go.data ≠ .cell v) (hok : HOk P w Hg s.heap) (len : σ.length = N.length) (agree : ∀ b, b < L → b ∉ fp → Hg b = H b) :
    L2.Inv (gCx P w K mg base N qual scope f cd Ag outer L { s with heap := trunc L fp s.heap } (below L H)) [(ga, go)] σ Hg s := by
  have cn : (envOfC qual scope L f cd).cells = [] := cells_nil fun y hy => (nc y hy).1
  have ncell : ∀ x c, (envOfC qual scope L f cd).cells.lookup x = some c → False := fun x c e => by rw [cn] at e; cases e
  have tsz : (trunc L fp s.heap).objs.size = L := trunc_size hsz
  have bl : ∀ {b o}, base.get? b = some o → b < L := fun e => Nat.lt_of_lt_of_le (Heap.lt_size e) hb
  refine ⟨⟨e0.mod, hk, rfl, rfl, Nat.le_of_eq tsz, fun x y c h1 _ => (ncell x c h1).elim, fun x hx => ?_, fun x c _ h => (ncell x c h).elim, fun _ => hd, Around.frames_deeper hfm, .inr ⟨rfl, rfl⟩, fun b z => absurd (show b ∈ ([] : List Addr) from z) (by simp), fun b o e => ?_, ?_, fun b _ _ z => absurd (show b ∈ ([] : List Addr) from z) (by simp), fun b z => absurd (show b ∈ ([] : List Addr) from z) (by simp), frames_trunc e0.funs hfr, fun b hb => ?_⟩,
    rfl, e0.bare, ⟨fun b o e _ _ _ => (trunc_some e).2.2, fun b o e _ _ _ => ⟨o.slots, (trunc_some e).2.2⟩, fun b o e n _ => ?_, fun b o e _ => ⟨o, (trunc_some e).2.2⟩, fun b xs e => ?_, fun b o u e => ?_, fun b ps e => ⟨#[], ?_⟩⟩, loc, fun x c e => (ncell x c e).elim, hL, fun x c e => (ncell x c e).elim, fun p hp => ?_, hok, len⟩
  · have hx : scope.names.lookup x = some .cell ∨ scope.names.lookup x = some .free := hx
    rcases hx with hx | hx
    · exact absurd rfl (nc _ (lookup_mem hx)).1
    · exact absurd rfl (nc _ (lookup_mem hx)).2
  · obtain ⟨h1, h2⟩ := e0.bs b o e
    refine ⟨?_, ?_⟩
    · show (trunc L fp s.heap).get? b = _
      rw [trunc_lt (bl e) (hbf b o e)]; exact h1
    · show below L H b = none
      rw [below_lt (bl e)]; exact h2
  · show base.objs.size ≤ (trunc L fp s.heap).objs.size
    rw [tsz]; exact hb
  · show below L H b = none
    rw [below_lt (hfr b hb).1]; exact e0.frf b hb
  · obtain ⟨z, z2, _⟩ := trunc_some e
    have n : below L H b = none := n
    rw [below_lt z] at n
    rw [agree b z z2]; exact n
  · obtain ⟨z, q⟩ := below_some e
    rw [agree b z (fun z2 => by rw [hfn b z2] at q; cases q)]; exact q
  · obtain ⟨z, q⟩ := below_some e
    rw [agree b z (fun z2 => by rw [hfn b z2] at q; cases q)]; exact q
  · obtain ⟨z, q⟩ := below_some e
    rw [agree b z (fun z2 => by rw [hfn b z2] at q; cases q), q]; simp
  · have hp : p ∈ [(ga, go)] := hp
    rw [List.mem_singleton.mp hp]
    exact ⟨pin.1, pin.2.1, pin.2.2.1, fun z => absurd (hfr ga z).1 (Nat.not_lt.mpr pin.2.2.2.1), pin.2.2.2.2⟩
/-- what may be the generator's, as its caller sees it -/
def Mine (X : Cx) (pins : List (Addr × Obj)) (b : Addr) : Prop := b ≠ X.env.locals ∧ b ∉ X.fs ∧ (b ∈ X.ex ∨ X.s_0.heap.objs.size ≤ b) ∧ (∀ x c, X.env.cells.lookup x = some c → c ≠ b) ∧ ∀ p ∈ X.pn ++ pins, p.1 ≠ b
theorem Mine.ok {X : Cx} {pins : List (Addr × Obj)} {b : Addr} (m : Mine X pins b) (h : H b = none) : FpOk X pins H b := ⟨h, m⟩
theorem Mine.of {X : Cx} {pins : List (Addr × Obj)} {b : Addr} (m : FpOk X pins H b) : Mine X pins b := m.2
/-- its caller's state behind a stretch of it -/
theorem recover {X : Cx} {pins : List (Addr × Obj)} {σc : L2.St} {fp : List Addr} {pr Nw : List (Addr × HO)} {ip : List (Addr × Obj)} {s0 : Shared} (hP : X.prog = P) (hw : X.w = w) (hX : X.stack = outer) (I : L2.Inv X pins σc H s)
    (hs0 : s0.heap = trunc L fp s.heap) (hos : s0.os = s.os) (g : L2.Inv (gCx P w K mg base N qual scope f cd Ag outer L s0 (below L H)) ip σ2 H3 s1) (hH : H3 = lay Nw (lay pr (Hx L s.heap fp H))) (hN : ∀ q ∈ Nw, lay pr (Hx L s.heap fp H) q.1 = none) (hpr : ∀ q ∈ pr, Hx L s.heap fp H q.1 = none ∧ PureO q.2)
    (hfr : ∀ b ∈ frs outer, b < L) (hm : ∀ b ∈ fp, Mine X pins b) : L2.Inv X pins σc (lay Nw H) s1 := by
  have gb : Un (frs outer) [] (below L H) H3 s0.heap s1.heap := g.base
  have gok : HOk P w H3 s1.heap := g.hok
  have noE : ∀ b : Addr, b ∉ ([] : List Addr) := fun b => by simp
  have prN : ∀ {b : Addr}, Hx L s.heap fp H b ≠ none → ∀ q ∈ pr, q.1 ≠ b := fun {b} h q hq e => h (by rw [← e]; exact (hpr q hq).1)
  have nwN : ∀ {b : Addr}, Hx L s.heap fp H b ≠ none → ∀ q ∈ Nw, q.1 ≠ b := fun {b} h q hq e => by
    have z := hN q hq
    rw [e, lay_off (prN h)] at z
    exact h z
  have at3 : ∀ {b : Addr}, Hx L s.heap fp H b ≠ none → H3 b = Hx L s.heap fp H b := fun {b} h => by rw [hH, lay_off (nwN h), lay_off (prN h)]
  have low : ∀ {b : Addr} {o : Obj}, b < L → b ∉ fp → s.heap.get? b = some o → s0.heap.get? b = some o := fun h hf e => by rw [hs0, trunc_lt h hf]; exact e
  -- what is new stands nowhere
  have nwOff : ∀ {b : Addr} {o : Obj}, s.heap.get? b = some o → b ∉ fp → H b = none → ∀ q ∈ Nw, q.1 ≠ b := fun {b o} e hb n q hq z => by
    by_cases hl : b < L
    · have h3 : H3 b = none := gb.free b o (low hl hb e) (by rw [below_lt hl]; exact n) (noE b)
      rw [hH] at h3
      obtain ⟨v, _, ev⟩ := lay_val (H := lay pr (Hx L s.heap fp H)) ⟨q, hq, z⟩
      rw [ev] at h3; cases h3
    · exact nwN (by rw [hx_out n (Nat.not_lt.mp hl) hb e]; exact fun z => by cases z) q hq z
  have keepHi : ∀ {b : Addr} {o : Obj}, L ≤ b → s.heap.get? b = some o → b ∉ fp → H b = none → s1.heap.get? b = some o := fun {b o} hl e hb n => by
    have hx := hx_out (fp := fp) n hl hb e
    have z : H3 b = _ := (at3 (by rw [hx]; exact fun z => by cases z)).trans hx
    exact (gok b _ z).1
  have trk : ∀ {b : Addr} {u : HO}, H b = some u → H3 b = some u ∧ lay Nw H b = some u := fun {b u} e => by
    have hx : Hx L s.heap fp H b = some u := hx_some e
    have ne : Hx L s.heap fp H b ≠ none := by rw [hx]; exact fun z => by cases z
    exact ⟨(at3 ne).trans hx, by rw [lay_off (nwN ne)]; exact e⟩
  refine I.call' (ch := fp) (g.os.trans hos) ⟨fun b o e n hb hc => ?_, fun b o e n hb hc => ?_, fun b o e n hc => ?_, fun b o e hc => ?_, fun b xs e => (trk e).2, fun b o u e => (trk e).2, fun b ps e => ⟨#[], by rw [(trk e).2]; simp⟩⟩ (fun b u e => ?_) g.bare fun b hb => ?_
  · by_cases hl : b < L
    · exact gb.keep b o (low hl hc e) (by rw [below_lt hl]; exact n) (by rw [← hX]; exact hb) (noE b)
    · exact keepHi (Nat.not_lt.mp hl) e hc n
  · have hl : b < L := hfr b (by rw [← hX]; exact hb)
    exact gb.slot b o (low hl hc e) (by rw [below_lt hl]; exact n) (by rw [← hX]; exact hb) (noE b)
  · rw [lay_off (nwOff e hc n)]; exact n
  · by_cases hl : b < L
    · exact gb.there b o (low hl hc e) (noE b)
    · cases q : H b with
      | none => exact ⟨o, keepHi (Nat.not_lt.mp hl) e hc q⟩
      | some u => exact ObjOk.there (gok b u (trk q).1)
  · have h3 : H3 b = some u := by
      by_cases z : ∃ q ∈ Nw, q.1 = b
      · rw [hH, lay_in (B := H) z]; exact e
      · rw [lay_off fun q hq ee => z ⟨q, hq, ee⟩] at e
        exact (trk e).1
    have down : ∀ {c : Addr} {u : HO}, H3 c = some u → (∀ φ, u ≠ .ext φ) → ¬ PureO u → lay Nw H c = some u := fun {c u} e ne np => by
      by_cases z : ∃ q ∈ Nw, q.1 = c
      · rw [hH, lay_in (B := H) z] at e; exact e
      · rw [hH, lay_off fun q hq ee => z ⟨q, hq, ee⟩] at e
        by_cases z2 : ∃ q ∈ pr, q.1 = c
        · obtain ⟨q, hq, ev⟩ := lay_val (H := Hx L s.heap fp H) z2
          rw [ev] at e
          rw [← Option.some.inj e] at np
          exact absurd (hpr q hq).2 np
        · rw [lay_off fun q hq ee => z2 ⟨q, hq, ee⟩] at e
          rcases hx_inv e with h | ⟨_, _, _, o, _, eu⟩
          · exact (trk h).2
          · exact absurd eu (ne _)
    show L2.ObjOk X.prog X.w (lay Nw H) s1.heap b u
    rw [hP, hw]
    exact (gok b u h3).stay (fun _ _ _ q => q) (fun c q => down q (fun _ z => by cases z) fun z => z) fun c xs q => down q (fun _ z => by cases z) fun z => z
  · obtain ⟨m1, m2, m3, m4, m5⟩ := hm b hb
    exact ⟨m3, m1, m4, m5⟩
end
open GenW
/-- what a generator keeps for itself: a list, or a dict that it walks -/
def OwnO : HO → Prop
  | .lst _ => True
  | .dK _ => True
  | .frz _ (.dK _) => True
  | _ => False
theorem OwnO.pure {o : HO} (h : OwnO o) : PureO o := by
  cases o <;> first | exact True.intro | exact h.elim
theorem OwnO.there {P : Program} {w : World} {H : Hp} {h : Heap} {a : Addr} {o : HO} (x : L2.ObjOk P w H h a o) (q : OwnO o) : ∃ ob, h.get? a = some ob ∧ ∀ v, ob.data ≠ .cell v := by
  cases o with
  | lst xs => obtain ⟨_, its, n, _, e⟩ := x; exact ⟨_, e, fun v z => by cases z⟩
  | dK kvs => obtain ⟨_, _, vs, _, ob, es, ep, e, _, d, _⟩ := x; exact ⟨_, e, fun v z => by rw [d] at z; cases z⟩
  | frz ob u =>
    cases u with
    | dK kvs =>
      obtain ⟨e0, _, _, vs, _, ob', es, ep, e, _, d, _⟩ := x
      exact ⟨_, e, fun v z => by rw [d] at z; cases z⟩
    | _ => exact q.elim
  | _ => exact q.elim
theorem OwnO.keep {P : Program} {w : World} {H H' : Hp} {h h' : Heap} {a : Addr} {o : HO} (x : L2.ObjOk P w H h a o) (q : OwnO o) (k : ∀ ob, h.get? a = some ob → h'.get? a = some ob) : L2.ObjOk P w H' h' a o := by
  cases o with
  | lst xs => obtain ⟨z, its, n, r, e⟩ := x; exact ⟨z, its, n, r, k _ e⟩
  | dK kvs => obtain ⟨z, y, vs, r, ob, es, ep, e, c⟩ := x; exact ⟨z, y, vs, r, ob, es, ep, k _ e, c⟩
  | frz ob u =>
    cases u with
    | dK kvs => obtain ⟨e0, z, y, vs, r, ob', es, ep, e, c⟩ := x; exact ⟨k _ e0, z, y, vs, r, ob', es, ep, k _ e, c⟩
    | _ => exact q.elim
  | _ => exact q.elim
theorem hok_lay {P : Program} {w : World} {H : Hp} {h : Heap} {pr : List (Addr × HO)} (ok : HOk P w H h) (fr : ∀ q ∈ pr, H q.1 = none) (hp : ∀ b u, (∃ q ∈ pr, q.1 = b) → lay pr H b = some u → L2.ObjOk P w (lay pr H) h b u) : HOk P w (lay pr H) h := fun b u e => by
  by_cases z : ∃ q ∈ pr, q.1 = b
  · exact hp b u z e
  · rw [lay_off fun q hq ee => z ⟨q, hq, ee⟩] at e
    have up : ∀ {c : Addr} {v : HO}, H c = some v → lay pr H c = some v := fun {c v} e => by
      rw [lay_off fun q hq ee => ?_]
      · exact e
      · rw [← ee, fr q hq] at e; cases e
    exact (ok b u e).stay (fun _ _ _ q => q) (fun c q => up q) fun c xs q => up q
/-! ### what is promised of a generator -/
/-- it stands ahead of the wake n - m -/
def Rdy (M : Model) (A : Around) (X : Cx) (pins : List (Addr × Obj)) (ga g n : Nat) (G : Nat → Hp → Prop) (Yd : Nat → V → List (Addr × HO) → Prop) : Nat → GenState → List Addr → Heap → Prop
  | 0, gs, fp, h0 => ∀ (s : Shared) (σ : L2.St) (H : Hp), L2.Inv X pins σ H s → (∀ b ∈ fp, H b = none ∧ ∀ o, h0.get? b = some o → s.heap.get? b = some o) → G n H →
      Rest M A (fun e s1 => e = .ret (.ok (.ret .none)) ∧ L2.Inv X pins σ H s1) gs s
  | m + 1, gs, fp, h0 => ∀ (s : Shared) (σ : L2.St) (H : Hp), L2.Inv X pins σ H s → (∀ b ∈ fp, H b = none ∧ ∀ o, h0.get? b = some o → s.heap.get? b = some o) → G (n - (m + 1)) H →
      Rest M A (fun e s1 => ∃ v l k c p fs, e = .susp v false l k c p fs ∧ e.quiet = true ∧ ∃ y Nw fp', RelV y v ∧ Yd (n - (m + 1)) y Nw ∧ (∀ q ∈ Nw, H q.1 = none) ∧ L2.Inv X pins σ (lay Nw H) s1 ∧
        (∀ b ∈ fp', FpOk X pins (lay Nw H) b ∧ ∃ o, s1.heap.get? b = some o ∧ ∀ v, o.data ≠ .cell v) ∧ ga ∈ fp' ∧ s1.heap.IsGen ga g ∧ Rdy M A X pins ga g n G Yd m e.genState fp' s1.heap) gs s
def Outp (M : Model) (A : Around) (X : Cx) (pins : List (Addr × Obj)) (ga g n : Nat) (G : Nat → Hp → Prop) (Yd : Nat → V → List (Addr × HO) → Prop) : Nat → L2.St → Hp → End → Shared → Prop
  | 0, σ, H => fun e s1 => e = .ret (.ok (.ret .none)) ∧ L2.Inv X pins σ H s1
  | m + 1, σ, H => fun e s1 => ∃ v l k c p fs, e = .susp v false l k c p fs ∧ e.quiet = true ∧ ∃ y Nw fp', RelV y v ∧ Yd (n - (m + 1)) y Nw ∧ (∀ q ∈ Nw, H q.1 = none) ∧ L2.Inv X pins σ (lay Nw H) s1 ∧
      (∀ b ∈ fp', FpOk X pins (lay Nw H) b ∧ ∃ o, s1.heap.get? b = some o ∧ ∀ v, o.data ≠ .cell v) ∧ ga ∈ fp' ∧ s1.heap.IsGen ga g ∧ Rdy M A X pins ga g n G Yd m e.genState fp' s1.heap
/-- the turns of its loop, by their readings -/
structure GTurn (n : Nat) (G : Nat → Hp → Prop) (Yd : Nat → V → List (Addr × HO) → Prop) (gt : TG) (te : TE) (tp : TS) (J : It) (pr : List (Addr × HO)) (Lp Mid : Nat → L2.St → Prop) : Prop where
  go : ∀ i σ H, i < n → G i H → (∀ q ∈ pr, H q.1 = none) → Lp i σ → J.go i (lay pr H) ∧ ∀ x H', J.yld i (lay pr H) x H' → gt x σ H' fun σ2 H2 => te σ2 H2 fun y H3 => ∃ Nw, H3 = lay Nw (lay pr H) ∧ (∀ q ∈ Nw, lay pr H q.1 = none) ∧ Yd i y Nw ∧ Mid i σ2
  post : ∀ i σ H, i < n → G (i + 1) H → (∀ q ∈ pr, H q.1 = none) → Mid i σ → tp { nx := fun σ4 H4 => H4 = lay pr H ∧ Lp (i + 1) σ4, rt := fun _ _ => False } σ (lay pr H)
  stop : ∀ σ H, G n H → (∀ q ∈ pr, H q.1 = none) → Lp n σ → J.stop n (lay pr H)
structure GDer (P : Program) (w : World) (K : PySem.W.Frag) (mg : Str → Option Value) (base : Heap) (N : List Str) (qual : Str) (scope : Scope) (f : Addr) (cd : Value) (k : Nat) (pre : List Stmt) (tg iter e : Expr) (post : List Stmt) (tpre : TS) (wi : TI) (gt : TG) (te : TE) (tp : TS) : Prop where
  d : ∀ (Ag : Around) (outer : List Env) (L : Addr) (s : Shared) (H : Hp), Room k (Ag.deeper (envOfC qual scope L f cd)) →
    PSs (gCx P w K mg base N qual scope f cd Ag outer L s H) pre tpre ∧ PI (gCx P w K mg base N qual scope f cd Ag outer L s H) tg iter wi ∧ PG (gCx P w K mg base N qual scope f cd Ag outer L s H) tg gt ∧
    PE (gCx P w K mg base N qual scope f cd Ag outer L s H) e te ∧ PSs (gCx P w K mg base N qual scope f cd Ag outer L s H) post tp
section
variable {X : Cx} {pins : List (Addr × Obj)} {N : List Str} {qual : Str} {scope : Scope} {f : Addr} {cd : Value} {k : Nat} {pre post body : List Stmt} {tg iter e : Expr} {tpre tp : TS} {wi : TI} {gt : TG} {te : TE} {n L ga g : Nat} {go : Obj} {G : Nat → Hp → Prop} {Yd : Nat → V → List (Addr × HO) → Prop}
  {J : It} {pr : List (Addr × HO)} {Lp Mid : Nat → L2.St → Prop} {fpi : List Addr} {it : Addr} {tn : Nat → Heap → Prop} {yp ypos : Pos}
abbrev gC (X : Cx) (N : List Str) (qual : Str) (scope : Scope) (f : Addr) (cd : Value) (L : Addr) (fp : List Addr) (s : Shared) (H : Hp) : Cx := gCx X.prog X.w X.K X.mg X.base N qual scope f cd X.A.in1 X.stack L { s with heap := trunc L fp s.heap } (below L H)
/-- what is fixed of a generator, as it was made -/
structure GFix (X : Cx) (scope : Scope) (L ga g : Nat) (go : Obj) : Prop where
  hd : X.A.handled = none
  lt : L < ga
  base : X.base.objs.size ≤ L
  frs : ∀ b ∈ frs X.stack, b < L
  kind : scope.kind = .function
  nc : ∀ y ∈ scope.names, y.2 ≠ .cell ∧ y.2 ≠ .free
  co : scope.isCoroutine = false
  go : go.cls = .type "generator" ∧ (∃ nm qn, go.data = .fields #[.int g 0, nm, qn]) ∧ go.slots = #[]
theorem GFix.gen {h : Heap} (F : GFix X scope L ga g go) (e : h.get? ga = some go) : h.IsGen ga g := by
  obtain ⟨nm, qn, d⟩ := F.go.2.1
  exact ⟨go, nm, qn, e, F.go.1, d, F.go.2.2⟩
theorem GFix.ncell (F : GFix X scope L ga g go) : ∀ v, go.data ≠ .cell v := fun v z => by
  obtain ⟨nm, qn, d⟩ := F.go.2.1
  rw [d] at z; cases z
theorem Mine.nofr {b : Addr} {σ : L2.St} {H : Hp} {s : Shared} (m : Mine X pins b) (I : L2.Inv X pins σ H s) : b ∉ L2.frs X.stack := fun z => by
  rcases List.mem_cons.mp (I.stkSub b z) with q | q
  · exact m.1 q
  · exact m.2.1 q
theorem Mine.nobase {b : Addr} {σ : L2.St} {H : Hp} {s : Shared} (m : Mine X pins b) (I : L2.Inv X pins σ H s) {o : Obj} (e : X.base.get? b = some o) : False := by
  rcases m.2.2.1 with q | q
  · exact I.ok.noex b o e q
  · exact absurd (Nat.lt_of_lt_of_le (Heap.lt_size e) I.ok.bsz) (Nat.not_lt.mpr q)
/-- its iterator's objects are its own -/
theorem gC_fp {fp : List Addr} {sw : Shared} {H Hc : Hp} {ip : List (Addr × Obj)} (F : GFix X scope L ga g go) (hip : ∀ p ∈ ip, p.1 = ga) (hfi : ∀ b ∈ fpi, L ≤ b ∧ b ≠ L ∧ b ≠ ga) (hn : ∀ b ∈ fpi, Hc b = none) :
    ∀ b ∈ fpi, FpOk (gC X N qual scope f cd L fp sw H) ip Hc b := fun b hb => by
  obtain ⟨h1, h2, h3⟩ := hfi b hb
  have cn : (envOfC qual scope L f cd).cells = [] := cells_nil fun y hy => (F.nc y hy).1
  refine ⟨hn b hb, h2, fun z => absurd (F.frs b z) (Nat.not_lt.mpr h1), .inr (Nat.le_trans trunc_le h1), fun x c e => ?_, fun q hq => ?_⟩
  · have e : (envOfC qual scope L f cd).cells.lookup x = some c := e
    rw [cn] at e; cases e
  · have hq : q ∈ [] ++ ip := hq
    rw [List.nil_append] at hq
    rw [hip q hq]; exact Ne.symm h3
theorem loop_top (F : GFix X scope L ga g go) (hr : Room k (X.A.in1.deeper (envOfC qual scope L f cd))) (D : GDer X.prog X.w X.K X.mg X.base N qual scope f cd k pre tg iter e post tpre wi gt te tp)
    (T : Turn X.prog X.w X.K tg J fpi it tn) (U : GTurn n G Yd gt te tp J pr Lp Mid) (hG : ∀ i H H', Same H H' → G i H → G i H') (ho : ∀ q ∈ pr, OwnO q.2) (hi : interactive (envOfC qual scope L f cd) = false)
    (hmi : ∀ b ∈ fpi ++ pr.map (·.1), Mine X pins b) (hfi : ∀ b ∈ fpi, L ≤ b ∧ b ≠ L ∧ b ≠ ga) (hmL : Mine X pins L) (hmg : Mine X pins ga) :
    ∀ (m i : Nat), i + m = n → ∀ (sw s : Shared) (σc σ : L2.St) (H : Hp) (fp0 : List Addr) (kk : Result → Sem PySem.Fin) (gd : Bool) (l kp : List Value) (p : Pos), gd = false → L2.Inv X pins σc H sw → L2.Inv (gC X N qual scope f cd L fp0 sw H) [(ga, go)] σ (lay pr (Hx L sw.heap fp0 H)) s →
      tn i s.heap → G i H → Lp i σ → (∀ b ∈ fpi, lay pr (Hx L sw.heap fp0 H) b = none) → (∀ q ∈ pr, Hx L sw.heap fp0 H q.1 = none) → (∀ b ∈ fp0, Mine X pins b) →
      (∀ A' Φ' s3, Φ' (.ret (.ok (.ret .none))) s3 → Way (model X.prog X.w) A' Φ' (.func body (envOfC qual scope L f cd)) (kk (.ok .next)) [] s3) →
      Way (model X.prog X.w) X.A.in1 (Outp (model X.prog X.w) X.A.in1 X pins ga g n G Yd m σc H)
        (.forLoop tg (.ref it) (.Expr (.Yield (some e) yp) ypos :: post) [] (envOfC qual scope L f cd)) ((model X.prog X.w).den (.forLoop tg (.ref it) (.Expr (.Yield (some e) yp) ypos :: post) [] (envOfC qual scope L f cd))) [.ret kk none gd l (.func body (envOfC qual scope L f cd)) p kp] s := by
  generalize hL0 : (Code.forLoop tg (.ref it) (.Expr (.Yield (some e) yp) ypos :: post) [] (envOfC qual scope L f cd)) = LC
  have ov : ∀ {kk : Result → Sem PySem.Fin} {gd : Bool} {l kp : List Value} {p : Pos}, X.A.in1.over LC [.ret kk none gd l (.func body (envOfC qual scope L f cd)) p kp] = X.A.in1.deeper (envOfC qual scope L f cd) := fun {kk gd l kp p} => by
    rw [← hL0, over_loop rfl rfl, over_func]
  intro m
  induction m with
  | zero =>
    intro i him sw s σc σ H fp0 kk gd l kp p hgd I gI htn hg hLp hfn hpn hm0 hkk
    have ein : i = n := by omega
    subst ein
    have gG := hG i H _ (same_hx (L := L) (h := sw.heap) (fp := fp0)) hg
    refine way_forLoop hL0.symm ?_
    rw [ov]
    have st := gC_fp (N := N) (qual := qual) (f := f) (cd := cd) (fp := fp0) (sw := sw) (H := H) (ip := [(ga, go)]) F (fun p hp => by rw [List.mem_singleton.mp hp]) hfi hfn
    refine wpAny_mono (T.done (gC X N qual scope f cd L fp0 sw H) rfl rfl rfl rfl i [(ga, go)] s σ _ (fun _ _ => False) gI st htn (U.stop σ _ gG hpn hLp)) (fun r s1 ⟨hr1, gI1⟩ => ?_) fun _ _ z => z
    subst hr1
    refine hkk _ _ s1 ⟨rfl, ?_⟩
    exact recover (Nw := []) (pr := pr) (fp := fp0) (s0 := { sw with heap := trunc L fp0 sw.heap }) rfl rfl rfl I rfl rfl gI1 rfl (fun q hq => by cases hq) (fun q hq => ⟨hpn q hq, (ho q hq).pure⟩) F.frs hm0
  | succ m ih =>
    intro i him sw s σc σ H fp0 kk gd l kp p hgd I gI htn hg hLp hfn hpn hm0 hkk
    subst hgd
    have ein : n - (m + 1) = i := by omega
    have gG := hG i H _ (same_hx (L := L) (h := sw.heap) (fp := fp0)) hg
    refine way_forLoop hL0.symm ?_
    rw [ov]
    have st := gC_fp (N := N) (qual := qual) (f := f) (cd := cd) (fp := fp0) (sw := sw) (H := H) (ip := [(ga, go)]) F (fun p hp => by rw [List.mem_singleton.mp hp]) hfi hfn
    obtain ⟨hgo, hyl⟩ := U.go i σ _ (by omega) gG hpn hLp
    refine wpAny_mono (T.item (gC X N qual scope f cd L fp0 sw H) rfl rfl rfl rfl i [(ga, go)] s σ _ (fun _ _ => False) gI st htn hgo) (fun r s1 ⟨u, hr1, h1⟩ => ?_) fun _ _ z => z
    subst hr1
    refine wpAny_mono h1 (fun _ s2 ⟨x, H2, gI2, rx, y2, tn2, n2⟩ => ?_) fun _ _ z => z
    obtain ⟨dpre, dit, dg, de, dpost⟩ := D.d X.A.in1 X.stack L { sw with heap := trunc L fp0 sw.heap } (below L H) hr
    have gI2' := gI2.pinned (gC_fp (N := N) (qual := qual) (f := f) (cd := cd) (fp := fp0) (sw := sw) (H := H) (ip := [(ga, go)]) F (fun p hp => by rw [List.mem_singleton.mp hp]) hfi n2) (T.obj _ _ tn2)
    refine wpAny_mono (dg.run _ s2 σ H2 x u _ gI2' rx (hyl x H2 y2)) (fun _ s3 ⟨σ3, H3, gI3, q3⟩ => ?_) fun _ _ z => z
    refine way_cons (way_Yield rfl rfl ?_ F.co hi)
    rw [ov]
    refine wpAny_mono (de.run _ s3 σ3 H3 _ gI3 q3) (fun v s4 ⟨y, H4, gI4, ry, Nw, hH4, hNw, hYd, hMid⟩ => ?_) fun _ _ z => z
    intro l' k' p' hres
    have Ic := recover (Nw := Nw) (pr := pr) (fp := fp0) (s0 := { sw with heap := trunc L fp0 sw.heap }) rfl rfl rfl I rfl rfl gI4 hH4 hNw (fun q hq => ⟨hpn q hq, (ho q hq).pure⟩) F.frs hm0
    -- what is the generator's
    have hpL : ∀ q ∈ pr, q.1 ≠ L := fun q hq e => by
      have z : lay pr (Hx L sw.heap fp0 H) L = none := gI.free
      obtain ⟨v, _, ev⟩ := lay_val (H := Hx L sw.heap fp0 H) ⟨q, hq, e⟩
      rw [ev] at z; cases z
    have gpin := gI4.pin (ga, go) (List.mem_append_right _ (List.mem_append_left _ (List.mem_singleton.mpr rfl)))
    have hpG : ∀ q ∈ pr, q.1 ≠ ga := fun q hq e => by
      have z := (gI.pin (ga, go) (List.mem_append_right _ (List.mem_singleton.mpr rfl))).2.1
      obtain ⟨v, _, ev⟩ := lay_val (H := Hx L sw.heap fp0 H) ⟨q, hq, e⟩
      rw [ev] at z; cases z
    have hxn : ∀ {b}, Hx L sw.heap fp0 H b = none → H b = none := fun {b} h => by
      cases q : H b with
      | none => rfl
      | some u => rw [hx_some q] at h; cases h
    have off4 : ∀ {b}, H4 b = none → lay Nw H b = none := fun {b} h => by
      by_cases z : ∃ q ∈ Nw, q.1 = b
      · obtain ⟨v, _, ev⟩ := lay_val (H := lay pr (Hx L sw.heap fp0 H)) z
        rw [hH4, ev] at h; cases h
      · rw [hH4, lay_off fun q hq ee => z ⟨q, hq, ee⟩] at h
        rw [lay_off fun q hq ee => z ⟨q, hq, ee⟩]
        by_cases z2 : ∃ q ∈ pr, q.1 = b
        · obtain ⟨v, _, ev⟩ := lay_val (H := Hx L sw.heap fp0 H) z2
          rw [ev] at h; cases h
        · rw [lay_off fun q hq ee => z2 ⟨q, hq, ee⟩] at h
          exact hxn h
    have pr4 : ∀ {b}, (∃ q ∈ pr, q.1 = b) → H4 b = lay pr (Hx L sw.heap fp0 H) b ∧ lay Nw H b = none := fun {b} ⟨q, hq, e⟩ => by
      have nn : ∀ v ∈ Nw, v.1 ≠ b := fun v hv z => by
        have a := hNw v hv
        obtain ⟨c, _, ec⟩ := lay_val (H := Hx L sw.heap fp0 H) ⟨q, hq, e⟩
        rw [z, ec] at a; cases a
      refine ⟨by rw [hH4, lay_off nn], ?_⟩
      rw [lay_off nn, ← e]
      exact hxn (hpn q hq)
    have obj4 : ∀ b ∈ fpi, ∃ o, s4.heap.get? b = some o ∧ (∀ v, o.data ≠ .cell v) ∧ H4 b = none ∧ s2.heap.get? b = some o := fun b hb => by
      obtain ⟨o, e, d⟩ := T.obj _ _ tn2 b hb
      have z := gI4.pin (b, o) (List.mem_append_right _ (List.mem_append_right _ (mem_pinsAt hb e)))
      exact ⟨o, z.1, d, z.2.1, e⟩
    refine ⟨v, l', k', _, p', _, rfl, rfl, y, Nw, L :: ga :: (fpi ++ pr.map (·.1)), ry, by rw [ein]; exact hYd, fun q hq => ?_, Ic, fun b hb => ?_, List.mem_cons_of_mem _ List.mem_cons_self, F.gen gpin.1, ?_⟩
    · have z := hNw q hq
      cases e : H q.1 with
      | none => rfl
      | some u =>
        have ne : ∀ v ∈ pr, v.1 ≠ q.1 := fun v hv ee => by
          rw [← ee, hxn (hpn v hv)] at e; cases e
        rw [lay_off ne, hx_some e] at z; cases z
    · rcases List.mem_cons.mp hb with e | hb
      · subst e
        obtain ⟨mm, ⟨o, es, ep, ho', d, _⟩, _⟩ := gI4.loc
        exact ⟨hmL.ok (off4 gI4.free), o, ho', fun v z => by rw [d] at z; cases z⟩
      rcases List.mem_cons.mp hb with e | hb
      · subst e
        exact ⟨hmg.ok (off4 gpin.2.1), go, gpin.1, F.ncell⟩
      rcases List.mem_append.mp hb with hb' | hb'
      · obtain ⟨o, e1, e2, e3, _⟩ := obj4 b hb'
        exact ⟨(hmi b hb).ok (off4 e3), o, e1, e2⟩
      · obtain ⟨q, hq, e⟩ := List.mem_map.mp hb'
        obtain ⟨e1, e2⟩ := pr4 ⟨q, hq, e⟩
        obtain ⟨w, hw, ew⟩ := lay_val (H := Hx L sw.heap fp0 H) ⟨q, hq, e⟩
        obtain ⟨o, e3, e4⟩ := OwnO.there (gI4.hok b w.2 (e1.trans ew)) (ho w hw)
        exact ⟨(hmi b hb).ok e2, o, e3, e4⟩
    · -- woken again
      generalize hfp : L :: ga :: (fpi ++ pr.map (·.1)) = fp'
      have mL : L ∈ fp' := by rw [← hfp]; exact List.mem_cons_self
      have mG : ga ∈ fp' := by rw [← hfp]; exact List.mem_cons_of_mem _ List.mem_cons_self
      have mI : ∀ b ∈ fpi, b ∈ fp' := fun b hb => by rw [← hfp]; exact List.mem_cons_of_mem _ (List.mem_cons_of_mem _ (List.mem_append_left _ hb))
      have mP : ∀ q ∈ pr, q.1 ∈ fp' := fun q hq => by rw [← hfp]; exact List.mem_cons_of_mem _ (List.mem_cons_of_mem _ (List.mem_append_right _ (List.mem_map.mpr ⟨q, hq, rfl⟩)))
      have mm : ∀ b ∈ fp', Mine X pins b := fun b hb => by
        rw [← hfp] at hb
        rcases List.mem_cons.mp hb with e | hb
        · rw [e]; exact hmL
        rcases List.mem_cons.mp hb with e | hb
        · rw [e]; exact hmg
        · exact hmi b hb
      have again : ∀ (s : Shared) (σ' : L2.St) (H' : Hp), L2.Inv X pins σ' H' s → (∀ b ∈ fp', H' b = none ∧ ∀ o, s4.heap.get? b = some o → s.heap.get? b = some o) → G (i + 1) H' → Way (model X.prog X.w) X.A.in1 (Outp (model X.prog X.w) X.A.in1 X pins ga g n G Yd m σ' H')
          LC (k' (.send .none)) [.ret kk none false l (.func body (envOfC qual scope L f cd)) p kp] s := by
        intro s σ' H' I' hk' hg'
        refine hres _ _ s ?_
        obtain ⟨mm4, ⟨oL, es, ep, hoL, dL, rL⟩, _⟩ := id gI4.loc
        have sL : s.heap.get? L = some oL := (hk' L mL).2 oL hoL
        have fr' : ∀ q ∈ pr, Hx L s.heap fp' H' q.1 = none := fun q hq => by rw [hx_own (mP q hq)]; exact (hk' _ (mP q hq)).1
        have loc' : SlotsAt (envOfC qual scope L f cd) N σ3 s.heap := SlotsAt.stay F.nc (show SlotsAt (envOfC qual scope L f cd) N σ3 s4.heap from gI4.loc) fun o e => (hk' L mL).2 o e
        have hgL : lay pr (Hx L s.heap fp' H') L = none := by rw [lay_off hpL, hx_own mL]; exact (hk' L mL).1
        have hgG : lay pr (Hx L s.heap fp' H') ga = none := by rw [lay_off hpG, hx_own mG]; exact (hk' ga mG).1
        have hok' : HOk X.prog X.w (lay pr (Hx L s.heap fp' H')) s.heap := by
          refine hok_lay (hok_hx I'.hok) fr' fun b u z e => ?_
          obtain ⟨q, hq, eq⟩ := z
          obtain ⟨e1, _⟩ := pr4 ⟨q, hq, eq⟩
          have e2 : H4 b = some u := by rw [e1, lay_in (B := Hx L s.heap fp' H') ⟨q, hq, eq⟩]; exact e
          obtain ⟨w, hw, ew⟩ := lay_val (H := Hx L s.heap fp' H') ⟨q, hq, eq⟩
          rw [ew] at e
          have eu := Option.some.inj e
          subst eu
          exact OwnO.keep (gI4.hok b _ e2) (ho w hw) fun ob h => (hk' b (by rw [← eq]; exact mP q hq)).2 ob h
        have gI' := regX (P := X.prog) (w := X.w) (K := X.K) (mg := X.mg) (base := X.base) (N := N) (qual := qual) (scope := scope) (f := f) (cd := cd) (Ag := X.A.in1) (outer := X.stack) (L := L) (ga := ga) (go := go) (fp := fp') (Hg := lay pr (Hx L s.heap fp' H')) (σ := σ3) I'.env0 F.hd I'.ok.frames (Nat.le_of_lt (Heap.lt_size sL)) F.base
          (fun b hb => ⟨F.frs b hb, fun z => (mm b z).nofr I' hb⟩) (fun b o e z => (mm b z).nobase I' e) (fun b hb => (hk' b hb).1) F.kind F.nc loc' hgL ⟨(hk' ga mG).2 go gpin.1, hgG, Ne.symm (Nat.ne_of_lt F.lt), Nat.le_of_lt F.lt, F.ncell⟩ hok' gI4.len fun b hb hbf => by
            rw [lay_off fun q hq e => hbf (by rw [← e]; exact mP q hq), hx_lt hb]
        have hfn' : ∀ b ∈ fpi, lay pr (Hx L s.heap fp' H') b = none := fun b hb => by
          rw [lay_off fun q hq e => ?_, hx_own (mI b hb)]
          · exact (hk' b (mI b hb)).1
          · obtain ⟨c, _, ec⟩ := lay_val (H := Hx L sw.heap fp0 H) ⟨q, hq, e⟩
            rw [hfn b hb] at ec; cases ec
        have st' := gC_fp (N := N) (qual := qual) (f := f) (cd := cd) (fp := fp') (sw := s) (H := H') (ip := [(ga, go)]) F (fun p hp => by rw [List.mem_singleton.mp hp]) hfi hfn'
        have objs : ∀ b ∈ fpi, ∃ o, s.heap.get? b = some o ∧ (∀ v, o.data ≠ .cell v) := fun b hb => by
          obtain ⟨o, e1, e2, _⟩ := obj4 b hb
          exact ⟨o, (hk' b (mI b hb)).2 o e1, e2⟩
        have gI2'' := gI'.pinned st' objs
        obtain ⟨_, _, _, _, dp'⟩ := D.d X.A.in1 X.stack L { s with heap := trunc L fp' s.heap } (below L H') hr
        refine way_wrap (gd := id) (lv := id) ?_
        rw [ov]
        have gG' := hG (i + 1) H' _ (same_hx (L := L) (h := s.heap) (fp := fp')) hg'
        refine wpAny_mono (dp'.run _ s σ3 _ _ gI2'' (U.post i σ3 _ (by omega) gG' fr' hMid)) (fun fl s5 hs5 => ?_) fun _ _ z => z.elim
        cases fl with
        | next =>
          obtain ⟨σ5, H5, gI5, eH5, hLp5⟩ := hs5
          subst eH5
          refine way_again (by rw [← hL0]; rfl) ?_
          refine ih (i + 1) (by omega) s s5 σ' σ5 H' fp' kk false l kp p rfl I' gI5.unpinned (T.keep _ _ _ tn2 fun b hb o e => ?_) hg' hLp5 hfn' fr' mm hkk
          obtain ⟨o', e1, _, _, e2⟩ := obj4 b hb
          rw [e] at e2
          obtain rfl := Option.some.inj e2
          exact (gI5.pin (b, o) (List.mem_append_right _ (List.mem_append_right _ (mem_pinsAt hb ((hk' b (mI b hb)).2 o e1))))).1
        | brk => obtain ⟨_, _, _, z⟩ := hs5; exact z.elim
        | cont => obtain ⟨_, _, _, z⟩ := hs5; exact z.elim
        | ret v => obtain ⟨_, _, _, _, _, z⟩ := hs5; exact z.elim
      cases m with
      | zero =>
        intro s σ' H' I' hk' hg'
        have e1 : n = i + 1 := by omega
        rw [e1] at hg'
        exact again s σ' H' I' hk' hg'
      | succ m' =>
        intro s σ' H' I' hk' hg'
        have e1 : n - (m' + 1) = i + 1 := by omega
        rw [e1] at hg'
        exact again s σ' H' I' hk' hg'
end
open GenW
open Sem (wp)
/-! ### what was freed stays so: what is new stands at a new place -/
def Gone (b : Addr) (s : Shared) : Prop := b < s.heap.objs.size ∧ s.heap.get? b = none
theorem Gone.update {b a : Addr} {s : Shared} {f : Obj → Obj} (x : Gone b s) (h : (s.heap.get? a).isSome) : Gone b { s with heap := s.heap.update a f } := by
  refine ⟨?_, ?_⟩
  · show b < (s.heap.update a f).objs.size
    rw [Heap.size_after_update]; exact x.1
  · show (s.heap.update a f).get? b = none
    rw [Heap.get?_update_other _ _ fun e => ?_]
    · exact x.2
    · rw [e, x.2] at h; cases h
theorem Gone.push {b : Addr} {s : Shared} {o : Obj} (x : Gone b s) : Gone b { s with heap := s.heap.push o } := by
  have hl : b < (s.heap.push o).objs.size := by rw [Heap.size_push]; exact Nat.lt_succ_of_lt x.1
  refine ⟨hl, ?_⟩
  show (s.heap.push o).get? b = none
  have e : (s.heap.push o).objs[b]? = s.heap.objs[b]? := by
    have h1 := x.1
    obtain ⟨⟨objs, l⟩, _, _, _, _⟩ := s
    show (objs.push o)[b]? = objs[b]?
    rw [Array.getElem?_push, if_neg (Nat.ne_of_lt h1)]
  unfold Heap.get?
  rw [e]
  exact x.2
theorem runs_gone {M : Model} {Γ : PySem.Ctx} {p : Pos} {t : Sem PySem.Fin} {fs : List Frame} {s s' : Shared} {e : End} {b : Addr} (h : Runs M Γ p t fs s e s') : Gone b s → Gone b s' := by
  induction h with
  | update ho _ ih => exact fun x => ih (x.update ho)
  | alloc _ ih => exact fun x => ih x.push
  | call _ _ ih1 ih2 => exact fun x => ih2 (ih1 x)
  | resumeFresh _ _ _ _ ih1 ih2 => exact fun x => ih2 (ih1 x)
  | resumeSuspended _ _ _ _ ih1 ih2 => exact fun x => ih2 (ih1 x)
  | segRet _ _ ih1 ih2 => exact fun x => ih2 (ih1 x)
  | segGen _ _ ih1 ih2 => exact fun x => ih2 (ih1 x)
  | segSuspGen _ _ _ _ ih1 ih2 => exact fun x => ih2 (ih1 x)
  | done => exact id
  | raise => exact id
  | yield => exact id
  | _ => first | (rename_i ih; exact fun x => ih x) | skip
/-- what is there behind it, and wasn't ahead of it, stands at a new place -/
theorem wpAny_new {M : Model} {α : Type} {A : Around} {t : Sem α} {Q : α → Shared → Prop} {E : Value → Shared → Prop} {s : Shared} (h : wpAny M A t Q E s) :
    wpAny M A t (fun a s' => (∀ b, Gone b s → Gone b s') ∧ Q a s') (fun e s' => (∀ b, Gone b s → Gone b s') ∧ E e s') s := fun Γ p hΓ => by
  have q := h Γ p hΓ
  -- for all at once
  have all : ∀ (t : Sem α) (Q : α → Pos → Shared → Prop) (E : Value → Pos → Shared → Prop) (p : Pos) (s0 s : Shared), (∀ b, Gone b s0 → Gone b s) → wp M Γ t Q E p s →
      wp M Γ t (fun a p' s' => (∀ b, Gone b s0 → Gone b s') ∧ Q a p' s') (fun e p' s' => (∀ b, Gone b s0 → Gone b s') ∧ E e p' s') p s := by
    intro t
    induction t with
    | pure a => exact fun Q E p s0 s x h => ⟨x, h⟩
    | raise e => exact fun Q E p s0 s x h => ⟨x, h⟩
    | unsupported _ => exact fun Q E p s0 s _ h => h
    | finish _ => exact fun Q E p s0 s _ h => h
    | rule _ k ih => exact fun Q E p s0 s x h => ih () Q E p s0 s x h
    | «at» p' k ih => exact fun Q E p s0 s x h => ih () Q E p' s0 s x h
    | load a _ k ih => exact fun Q E p s0 s x ⟨o, ho, h⟩ => ⟨o, ho, ih o Q E p s0 s x h⟩
    | update a _ f k ih => exact fun Q E p s0 s x h => ⟨h.1, ih () Q E p s0 _ (fun b z => (x b z).update h.1) h.2⟩
    | loadIfAlive a k ih => exact fun Q E p s0 s x h => ih _ Q E p s0 s x h
    | point _ k ih => exact fun Q E p s0 s x h => ih () Q E p s0 s x h
    | register _ _ => exact fun Q E p s0 s _ h => h
    | alloc o k ih => exact fun Q E p s0 s x h => ih _ Q E p s0 _ (fun b z => (x b z).push) h
    | fresh k ih => exact fun Q E p s0 s x h => ih _ Q E p s0 _ x h
    | ask k ih => exact fun Q E p s0 s x h => ih _ Q E p s0 s x h
    | choose src m k ih => exact fun Q E p s0 s x h => ⟨h.1, ih _ Q E p s0 _ x h.2⟩
    | os q _ k ih => exact fun Q E p s0 s x h => ih _ Q E p s0 _ x h
    | call c hd _ _ k ih => exact fun Q E p s0 s x ⟨r, s', hr, h⟩ => ⟨r, s', hr, ih r Q E p s0 s' (fun b z => runs_gone (show Runs M _ _ _ _ _ _ _ from hr) (x b z)) h⟩
    | handled own k ih => exact fun Q E p s0 s x h => ih _ Q E p s0 s x h
    | genState g k ih => exact fun Q E p s0 s x ⟨st, hs, h⟩ => ⟨st, hs, ih _ Q E p s0 s x h⟩
    | newGen c k ih => exact fun Q E p s0 s x h => ih _ Q E p s0 _ x h
    | resume g r l k ih =>
      rintro Q E p s0 s x ⟨res, s', hw, h⟩
      refine ⟨res, s', hw, ih res Q E p s0 s' (fun b z => ?_) h⟩
      have x := x b z
      unfold Wakes at hw
      split at hw
      · exact hw.elim
      · split at hw
        · obtain ⟨e1, s1, hr, _, _, rfl⟩ := hw
          exact (show Gone b s1 from runs_gone hr (show Gone b (s.setGen g .running) from x))
        · rw [hw.2]; exact x
        · rw [hw.2]; exact x
      · obtain ⟨e1, s1, hr, _, _, rfl⟩ := hw
        exact (show Gone b s1 from runs_gone hr (show Gone b (s.setGen g .running) from x))
      · rw [hw.2]; exact x
      · rw [hw.2]; exact x
    | yield _ _ _ _ => exact fun Q E p s0 s _ h => h
    | stack k ih => exact fun Q E p s0 s x h => ih _ Q E p s0 s x h
    | fork _ _ => exact fun Q E p s0 s _ h => h
    | thread k ih => exact fun Q E p s0 s x h => ih _ Q E p s0 s x h
    | await _ _ _ _ _ => exact fun Q E p s0 s _ h => h
  exact all t _ _ p s s (fun _ z => z) q
open GenW
section
variable {X : Cx} {pins : List (Addr × Obj)} {N : List Str} {qual : Str} {scope : Scope} {f : Addr} {cd : Value} {k : Nat} {pre post body : List Stmt} {tg iter e : Expr} {tpre tp : TS} {wi : TI} {gt : TG} {te : TE} {n L ga g : Nat} {go : Obj} {G : Nat → Hp → Prop} {Yd : Nat → V → List (Addr × HO) → Prop} {yp ypos fpos : Pos} {σ0 : L2.St} {h0 : Heap}
/-- a generator that has not begun -/
theorem rdy_fresh (F : GFix X scope L ga g go) (hr : Room k (X.A.in1.deeper (envOfC qual scope L f cd))) (D : GDer X.prog X.w X.K X.mg X.base N qual scope f cd k pre tg iter e post tpre wi gt te tp) (hG : ∀ i H H', Same H H' → G i H → G i H')
    (hi : interactive (envOfC qual scope L f cd) = false) (hs : ∀ x, foldedSetIterable iter (envOfC qual scope L f cd) x = pure x) (hb : body = pre ++ [.For tg iter (.Expr (.Yield (some e) yp) ypos :: post) [] fpos])
    (first : ∀ H, G 0 H → tpre { nx := fun σ1 H1 => wi σ1 H1 fun J H2 => ∃ pr Lp Mid, H2 = lay pr H ∧ (∀ q ∈ pr, H q.1 = none ∧ OwnO q.2) ∧ Lp 0 σ1 ∧ GTurn n G Yd gt te tp J pr Lp Mid, rt := fun _ _ => False } σ0 H)
    (loc : SlotsAt (envOfC qual scope L f cd) N σ0 h0) (len : σ0.length = N.length) (hga : h0.get? ga = some go) (hmL : Mine X pins L) (hmg : Mine X pins ga) :
    Rdy (model X.prog X.w) X.A.in1 X pins ga g n G Yd n (.fresh (.func body (envOfC qual scope L f cd))) [L, ga] h0 := by
  have mm : ∀ b ∈ [L, ga], Mine X pins b := fun b hb => by
    rcases List.mem_cons.mp hb with e | hb
    · rw [e]; exact hmL
    · rw [List.mem_singleton.mp hb]; exact hmg
  have mL : L ∈ [L, ga] := List.mem_cons_self
  have mG : ga ∈ [L, ga] := List.mem_cons_of_mem _ (List.mem_singleton.mpr rfl)
  have main : ∀ (s : Shared) (σ' : L2.St) (H : Hp), L2.Inv X pins σ' H s → (∀ b ∈ [L, ga], H b = none ∧ ∀ o, h0.get? b = some o → s.heap.get? b = some o) → G 0 H →
      Way (model X.prog X.w) X.A.in1 (Outp (model X.prog X.w) X.A.in1 X pins ga g n G Yd n σ' H) (.func body (envOfC qual scope L f cd)) ((model X.prog X.w).den (.func body (envOfC qual scope L f cd))) [] s := by
    intro s σ' H I hk hg
    obtain ⟨m0, ⟨oL, es, ep, hoL, dL, rL⟩, _⟩ := id loc
    have sL : s.heap.get? L = some oL := (hk L mL).2 oL hoL
    have hxL : Hx L s.heap [L, ga] H L = none := by rw [hx_own mL]; exact (hk L mL).1
    have hxG : Hx L s.heap [L, ga] H ga = none := by rw [hx_own mG]; exact (hk ga mG).1
    have gI := regX (P := X.prog) (w := X.w) (K := X.K) (mg := X.mg) (base := X.base) (N := N) (qual := qual) (scope := scope) (f := f) (cd := cd) (Ag := X.A.in1) (outer := X.stack) (L := L) (ga := ga) (go := go) (fp := [L, ga]) (Hg := Hx L s.heap [L, ga] H) (σ := σ0) I.env0 F.hd I.ok.frames (Nat.le_of_lt (Heap.lt_size sL)) F.base
      (fun b hb => ⟨F.frs b hb, fun z => (mm b z).nofr I hb⟩) (fun b o e z => (mm b z).nobase I e) (fun b hb => (hk b hb).1) F.kind F.nc (SlotsAt.stay F.nc loc fun o e => (hk L mL).2 o e) hxL ⟨(hk ga mG).2 go hga, hxG, Ne.symm (Nat.ne_of_lt F.lt), Nat.le_of_lt F.lt, F.ncell⟩ (hok_hx I.hok) len fun b hb hbf => hx_lt hb
    obtain ⟨dpre, dit, dg, de, dpost⟩ := D.d X.A.in1 X.stack L { s with heap := trunc L [L, ga] s.heap } (below L H) hr
    have gG := hG 0 H _ (same_hx (L := L) (h := s.heap) (fp := [L, ga])) hg
    refine way_func ?_
    rw [hb]
    refine way_execs ?_
    rw [over_func]
    refine wpAny_mono (wpAny_new (dpre.run [(ga, go)] s σ0 _ _ gI (first _ gG))) (fun fl s1 ⟨new1, hs1⟩ => ?_) fun _ _ z => z.2.elim
    cases fl with
    | brk => obtain ⟨_, _, _, z⟩ := hs1; exact z.elim
    | cont => obtain ⟨_, _, _, z⟩ := hs1; exact z.elim
    | ret v => obtain ⟨_, _, _, _, _, z⟩ := hs1; exact z.elim
    | next =>
      obtain ⟨σ1, H1, gI1, q1⟩ := hs1
      refine ⟨rfl, way_cons (way_For ?_ hs)⟩
      rw [over_func]
      refine wpAny_mono (wpAny_new (dit.run [(ga, go)] s1 σ1 H1 _ gI1 q1)) (fun v s2 ⟨new2, hs2⟩ => ?_) fun _ _ z => z.2.elim
      refine wpAny_mono (wpAny_new hs2) (fun itv s3 ⟨new3, hs3⟩ => ?_) fun _ _ z => z.2.elim
      intro kk gd l p hgd hres
      obtain ⟨it, fpi, tn, J, H2, eit, gI3, T, tn0, hfp, pr, Lp, Mid, hH2, hpr, hLp, U⟩ := hs3
      subst eit
      subst hH2
      have gone : ∀ b, b < s.heap.objs.size → s.heap.get? b = none → s3.heap.get? b = none := fun b h1 h2 => (new3 b (new2 b (new1 b ⟨h1, h2⟩))).2
      have fresh : ∀ b, Hx L s.heap [L, ga] H b = none → b ≠ L → b ≠ ga → (L ≤ b ∨ lay pr (Hx L s.heap [L, ga] H) b ≠ none) → (∃ o, s3.heap.get? b = some o) → s.heap.objs.size ≤ b ∧ H b = none := fun b h1 h2 h3 h4 ⟨o, h5⟩ => by
        have hn : H b = none := by
          cases q : H b with
          | none => rfl
          | some u => rw [hx_some q] at h1; cases h1
        have nf : b ∉ [L, ga] := fun z => by
          rcases List.mem_cons.mp z with e | z
          · exact h2 e
          · exact h3 (List.mem_singleton.mp z)
        refine ⟨Nat.not_lt.mp fun hlt => ?_, hn⟩
        cases e : s.heap.get? b with
        | none => rw [gone b hlt e] at h5; cases h5
        | some ob =>
          by_cases hl : b < L
          · have t1 : (trunc L [L, ga] s.heap).get? b = some ob := by rw [trunc_lt hl nf]; exact e
            have z : lay pr (Hx L s.heap [L, ga] H) b = none := gI3.base.free b ob t1 (by show below L H b = none; rw [below_lt hl]; exact hn) (by show b ∉ ([] : List Addr); simp)
            rcases h4 with h4 | h4
            · exact absurd hl (Nat.not_lt.mpr h4)
            · exact h4 z
          · rw [hx_out hn (Nat.not_lt.mp hl) nf e] at h1; cases h1
      have prF : ∀ q ∈ pr, s.heap.objs.size ≤ q.1 ∧ H q.1 = none := fun q hq => by
        obtain ⟨c, hc, ec⟩ := lay_val (H := Hx L s.heap [L, ga] H) ⟨q, hq, rfl⟩
        have nL : q.1 ≠ L := fun z => by
          have a : lay pr (Hx L s.heap [L, ga] H) L = none := gI3.free
          have e2 := (congrArg (lay pr (Hx L s.heap [L, ga] H)) z).symm.trans ec
          rw [a] at e2; cases e2
        have nG : q.1 ≠ ga := fun z => by
          have a := (gI3.pin (ga, go) (List.mem_append_right _ (List.mem_singleton.mpr rfl))).2.1
          have a : lay pr (Hx L s.heap [L, ga] H) ga = none := a
          have e2 := (congrArg (lay pr (Hx L s.heap [L, ga] H)) z).symm.trans ec
          rw [a] at e2; cases e2
        exact fresh q.1 (hpr q hq).1 nL nG (.inr (by rw [ec]; exact fun z => by cases z)) (ObjOk.there (gI3.hok q.1 c.2 ec))
      have ftr : (trunc L [L, ga] s.heap).objs.size = L := trunc_size (Nat.le_of_lt (Heap.lt_size sL))
      have hfi : ∀ b ∈ fpi, L ≤ b ∧ b ≠ L ∧ b ≠ ga := fun b hb => by
        obtain ⟨_, h2, _, h4, _, h6⟩ := hfp b hb
        refine ⟨?_, h2, fun z => h6 (ga, go) (List.mem_append_right _ (List.mem_singleton.mpr rfl)) z.symm⟩
        rcases h4 with h4 | h4
        · exact absurd (show b ∈ ([] : List Addr) from h4) (by simp)
        · have h4 : (trunc L [L, ga] s.heap).objs.size ≤ b := h4
          rw [ftr] at h4; exact h4
      have fiF : ∀ b ∈ fpi, s.heap.objs.size ≤ b ∧ H b = none := fun b hb => by
        obtain ⟨h1, h2, h3⟩ := hfi b hb
        have a : lay pr (Hx L s.heap [L, ga] H) b = none := (hfp b hb).1
        have a2 : Hx L s.heap [L, ga] H b = none := by
          by_cases z : ∃ q ∈ pr, q.1 = b
          · obtain ⟨c, _, ec⟩ := lay_val (H := Hx L s.heap [L, ga] H) z
            rw [ec] at a; cases a
          · rw [lay_off fun q hq ee => z ⟨q, hq, ee⟩] at a; exact a
        obtain ⟨o, e1, _⟩ := T.obj _ _ tn0 b hb
        exact fresh b a2 h2 h3 (.inl h1) ⟨o, e1⟩
      refine loop_top (n := n) (i := 0) (N := N) F hr D T U hG (fun q hq => (hpr q hq).2) hi (fun b hb => ?_) hfi hmL hmg n (Nat.zero_add _) s s3 σ' σ1 H [L, ga] kk gd l [] p hgd I gI3 tn0 hg hLp (fun b hb => (hfp b hb).1) (fun q hq => (hpr q hq).1) mm fun A' Φ' s4 w => ?_
      · rcases List.mem_append.mp hb with hb | hb
        · exact (I.fpOk (fiF b hb).1 (fiF b hb).2).2
        · obtain ⟨q, hq, e⟩ := List.mem_map.mp hb
          rw [← e]
          exact (I.fpOk (prF q hq).1 (prF q hq).2).2
      · refine hres A' Φ' s4 ?_
        exact way_end (.ok (.ret .none)) w
  cases n with
  | zero => exact fun s σ' H I hk hg => main s σ' H I hk hg
  | succ m =>
    intro s σ' H I hk hg
    rw [Nat.sub_self] at hg
    exact main s σ' H I hk hg
end
open GenW
/-- a generator def's promise: how many it hands out, what must stand ahead of each wake, what is handed out with the objects that are new -/
abbrev SpY := List V → Nat → (Nat → Hp → Prop) → (Nat → V → List (Addr × HO) → Prop) → Prop
/-- a generator that has been made -/
def GMd (P : Program) (w : World) (K : PySem.W.Frag) (mg : Str → Option Value) (base : Heap) (A : Around) (outer : List Env) (n : Nat) (G : Nat → Hp → Prop) (Yd : Nat → V → List (Addr × HO) → Prop) (u : Value) (s s' : Shared) : Prop :=
  ∃ L ga g gs, u = .ref ga ∧ s.heap.objs.size ≤ L ∧ L < ga ∧ s'.os = s.os ∧ AllBare s'.gens ∧ (∀ b o, s.heap.get? b = some o → s'.heap.get? b = some o) ∧ s'.gens[g]? = some gs ∧ s'.heap.IsGen ga g ∧ (∀ b ∈ [L, ga], ∃ o, s'.heap.get? b = some o ∧ ∀ v, o.data ≠ .cell v) ∧
    ∀ (X : Cx) (pins : List (Addr × Obj)), X.prog = P → X.w = w → X.K = K → X.mg = mg → X.base = base → X.A = A → X.stack = outer → Mine X pins L → Mine X pins ga →
      ∀ h0 : Heap, (∀ b ∈ [L, ga], ∀ o, s'.heap.get? b = some o → h0.get? b = some o) → Rdy (model P w) A.in1 X pins ga g n G Yd n gs [L, ga] h0
structure GenFn (P : Program) (w : World) (K : PySem.W.Frag) (mg : Str → Option Value) (base : Heap) (k : Nat) (f : Addr) (fd : FuncData) (ps : List Str) (sp : SpY) : Prop where
  len : ∀ vs n G Yd, sp vs n G Yd → vs.length = ps.length
  go : ∀ {A : Around} {outer : List Env} {s : Shared} {H : Hp} {args : Args} {us : List Value} {vs : List V} {n : Nat} {G : Nat → Hp → Prop} {Yd : Nat → V → List (Addr × HO) → Prop}, Room k A → Env0 P w K mg base A outer s H → BindsTo s fd args (ps.zip us) → Vals vs us → sp vs n G Yd →
    codeAny (model P w) A (.call (.ref f) args) (fun r s' => ∃ u, r = .ok (.ret u) ∧ GMd P w K mg base A outer n G Yd u s s') s
/-! the parts of a def whose body ends in a loop that begins with yield -/
def noPos : Pos := ⟨0, 0, 0, 0⟩
def noE : Expr := .Name "" noPos
def lastO : List Stmt → Stmt
  | [] => .Pass noPos
  | s :: r => match r with
    | [] => s
    | _ :: _ => lastO r
def initO : List Stmt → List Stmt
  | [] => []
  | s :: r => match r with
    | [] => []
    | _ :: _ => s :: initO r
def lastS (st : Stmt) : Stmt := lastO (defBody st)
def tgOf : Stmt → Expr
  | .For t _ _ _ _ => t
  | _ => noE
def iterOf : Stmt → Expr
  | .For _ t _ _ _ => t
  | _ => noE
def bodOf : Stmt → List Stmt
  | .For _ _ b _ _ => b
  | _ => []
def fpOf : Stmt → Pos
  | .For _ _ _ _ p => p
  | _ => noPos
def yldOf : List Stmt → Expr
  | .Expr (.Yield (some e) _) _ :: _ => e
  | _ => noE
def ypOf : List Stmt → Pos
  | .Expr (.Yield _ p) _ :: _ => p
  | _ => noPos
def yposOf : List Stmt → Pos
  | .Expr _ p :: _ => p
  | _ => noPos
section
variable {P : Program} {w : World} {K : PySem.W.Frag} {mg : Str → Option Value} {base : Heap}
/-- by its body -/
theorem GenFn.mk' {x qual : Str} {st : Stmt} {f : Addr} {fd : FuncData} {N ps : List Str} {k : Nat} {sp : SpY} (F : Fun K x qual st f fd) (S : GScope N ps (defScope st)) (nc : ∀ y ∈ (defScope st).names, y.2 ≠ .cell ∧ y.2 ≠ .free)
    (hb : defBody st = initO (defBody st) ++ [.For (tgOf (lastS st)) (iterOf (lastS st)) (.Expr (.Yield (some (yldOf (bodOf (lastS st)))) (ypOf (bodOf (lastS st)))) (yposOf (bodOf (lastS st))) :: (bodOf (lastS st)).tail) [] (fpOf (lastS st))]) (hs : ∀ (env : Env) (x : Value), foldedSetIterable (iterOf (lastS st)) env x = pure x) (len : ∀ vs n G Yd, sp vs n G Yd → vs.length = ps.length)
    (body : ∀ (cdv : Value) (vs : List V) (n : Nat) (G : Nat → Hp → Prop) (Yd : Nat → V → List (Addr × HO) → Prop), sp vs n G Yd → (∀ i H H', Same H H' → G i H → G i H') ∧ ∃ tpre wi gt te tp, GDer P w K mg base N qual (defScope st) f cdv k (initO (defBody st)) (tgOf (lastS st)) (iterOf (lastS st)) (yldOf (bodOf (lastS st))) (bodOf (lastS st)).tail tpre wi gt te tp ∧
      ∀ H, G 0 H → tpre { nx := fun σ1 H1 => wi σ1 H1 fun J H2 => ∃ pr Lp Mid, H2 = lay pr H ∧ (∀ q ∈ pr, H q.1 = none ∧ OwnO q.2) ∧ Lp 0 σ1 ∧ GTurn n G Yd gt te tp J pr Lp Mid, rt := fun _ _ => False } (start N vs) H) : GenFn P w K mg base (k + 1) f fd ps sp := by
  obtain ⟨oc, od, kV, doc, pm, an, cdv, ct, osl, rfl, lk, hcd⟩ := F.ex
  refine ⟨len, ?_⟩
  intro A outer s H args us vs n G Yd hr e0 hbd r hsp
  obtain ⟨hG, tpre, wi, gt, te, tp, D, first⟩ := body cdv vs n G Yd hsp
  have hl := len _ _ _ _ hsp
  have KX : K.In s.heap := e0.mod.kin.keeps fun b o e => (e0.bs b o e).1
  have lim : s.heap.NoLimit := e0.mod.nolimit.keeps fun b o e => (e0.bs b o e).1
  have kinds : ∀ q ∈ ps.zip us, (defScope st).names.lookup q.1 = some .local ∨ ((defScope st).names.lookup q.1 = some .cell ∧ ((cellsFrom (s.heap.objs.size + 1) (defScope st).names []).lookup q.1).isSome = true) := by
    rintro ⟨a, v⟩ hq
    exact (S.par a (List.of_mem_zip hq).1).elim .inl fun c => .inr ⟨c, PySem.W.cellsFrom_some _ _ _ (.inl c)⟩
  refine codeAny_call_generator hr.depth (KX _ _ lk) rfl S.co S.gen rfl (PySem.W.codeRec_of KX hcd) (hbd _ _ _ _ ?_)
  refine wpAny_newFunctionEnv_cells S.kind kinds fun env he s1 ic => ?_
  subst he
  refine ⟨lim.keeps ic.toInCall.keep, _, rfl, ?_⟩
  obtain ⟨h1, tk, es1, hk1⟩ := ic.done
  have os1 : s1.os = s.os := by rw [es1]
  have gen1 : s1.gens = s.gens := by rw [es1]
  have lt1 : s.heap.objs.size < s1.heap.objs.size := ic.toInCall.ns.lt
  have kp1 : ∀ b o, s.heap.get? b = some o → s1.heap.get? b = some o := ic.toInCall.keep
  have I1 : L2.Inv (gcxOf P w K mg base N qual (defScope st) f cdv A outer s H (fun _ _ _ => False) []) [] (start N vs) H s1 := inv_startG S hr.hd e0 hl r ic
  have loc1 : SlotsAt (envOfC qual (defScope st) s.heap.objs.size f cdv) N (start N vs) s1.heap := I1.loc
  have main : ∀ (go : Obj) (nm qn : Value) (tk2 : Nat), go.cls = .type "generator" → go.data = .fields #[.int s1.gens.size 0, nm, qn] → go.slots = #[] → (∀ h : Heap, (h.push go).get? h.objs.size = some go) →
      GMd P w K mg base A outer n G Yd (.ref s1.heap.objs.size) s { s1 with gens := s1.gens.push (.fresh (.func (defBody st) (envOfC qual (defScope st) s.heap.objs.size f cdv))), toks := tk2, heap := s1.heap.push go } := by
    intro go nm qn tk2 hgc hgd hgs hgp
    have hpushed : (s1.heap.push go).get? s1.heap.objs.size = some go := hgp _
    have isg : (s1.heap.push go).IsGen s1.heap.objs.size s1.gens.size := ⟨go, nm, qn, hpushed, hgc, hgd, hgs⟩
    obtain ⟨m0, ⟨oL, es, ep, hoL, dL, rL⟩, _⟩ := id loc1
    have hoL : s1.heap.get? s.heap.objs.size = some oL := hoL
    refine ⟨s.heap.objs.size, s1.heap.objs.size, s1.gens.size, _, rfl, Nat.le_refl _, lt1, os1, AllBare.push (by rw [gen1]; exact e0.bare) rfl, fun b o e => Heap.get?_push_of_some _ (kp1 b o e), Array.getElem?_push_size .., isg, fun b hb => ?_, ?_⟩
    · rcases List.mem_cons.mp hb with e | hb
      · rw [e]
        exact ⟨oL, Heap.get?_push_of_some _ hoL, fun v z => by rw [dL] at z; cases z⟩
      · rw [List.mem_singleton.mp hb]
        exact ⟨go, hpushed, fun v z => by rw [hgd] at z; cases z⟩
    · intro X pins hP hw hK hm hB hA hS mL mG h0 hk
      subst hP; subst hw; subst hK; subst hm; subst hB; subst hA; subst hS
      have kL := hk s.heap.objs.size List.mem_cons_self oL (Heap.get?_push_of_some _ hoL)
      have kG := hk s1.heap.objs.size (List.mem_cons_of_mem _ (List.mem_singleton.mpr rfl)) go hpushed
      have Fx : GFix X (defScope st) s.heap.objs.size s1.heap.objs.size s1.gens.size go := ⟨hr.hd, lt1, e0.bsz, fun b hb => by
        obtain ⟨_, o, ho, _⟩ := e0.funs.mem hb
        exact Heap.lt_size ho, S.kind, nc, S.co, hgc, ⟨nm, qn, hgd⟩, hgs⟩
      refine rdy_fresh (go := go) Fx ?_ D hG ?_ (fun x => hs _ x) hb first (SlotsAt.stay nc loc1 fun o e => ?_) I1.len kG mL mG
      · exact ⟨hr.hd, by have := hr.dp; show X.A.depth + 1 + 3 * k + 5 < _; omega, by have := hr.un; show X.A.units + 1 + 3 + 16 * k + 200 < _; omega⟩
      · exact I1.quiet
      · have e : s1.heap.get? s.heap.objs.size = some o := e
        exact hk s.heap.objs.size List.mem_cons_self o (Heap.get?_push_of_some _ e)
  exact main _ _ _ _ rfl rfl rfl fun h => Heap.get?_push_size _ rfl
end
/-! ### for .. in f(..) -/
section
variable {X : Cx} {pins : List (Addr × Obj)} {σ : L2.St} {H : Hp} {s : Shared}
theorem SP.regen {D : Ends} {fl : Flow} {s' : Shared} (h : SP X pins D fl s') {G : Array GenState} (hg : AllBare G) : SP X pins D fl { s' with gens := G } := by
  cases fl with
  | next => obtain ⟨σ, H, I, q⟩ := h; exact ⟨σ, H, Inv.regen I hg, q⟩
  | brk => obtain ⟨σ, H, I, q⟩ := h; exact ⟨σ, H, Inv.regen I hg, q⟩
  | cont => obtain ⟨σ, H, I, q⟩ := h; exact ⟨σ, H, Inv.regen I hg, q⟩
  | ret u => obtain ⟨v, σ, H, I, r, q⟩ := h; exact ⟨v, σ, H, Inv.regen I hg, r, q⟩
/-- a run from here leaves asleep what is asleep -/
theorem still {α : Type} {t : Sem α} {R : α → Shared → Prop} {E : Value → Shared → Prop} (I : L2.Inv X pins σ H s) (h : ∀ s, L2.Inv X pins σ H s → wpAny (model X.prog X.w) X.A t (fun a s' => AllBare s'.gens ∧ R a s') (fun _ _ => False) s) (hR : ∀ a s' G, AllBare G → R a s' → R a { s' with gens := G }) :
    wpAny (model X.prog X.w) X.A t (fun a s' => R a s' ∧ ∀ (i : Nat) y, s.gens[i]? = some y → asleep y = true → s'.gens[i]? = some y) E s := by
  refine wpAny_mono (wpAny_still (h (kill s) (Inv.regen I (allBare_kill I.bare)))) (fun a s' ⟨s1, P, e, hb, hr⟩ => ?_) fun _ _ ⟨_, _, _, z⟩ => z.elim
  subst e
  exact ⟨hR a s1 _ (allBare_back I.bare hb) hr, fun i y e a => back_sleeps P e a⟩
end
open GenW
abbrev TGm := L2.St → Hp → (Nat → (Nat → Hp → Prop) → (Nat → V → List (Addr × HO) → Prop) → Hp → Prop) → Prop
/-- an expression whose value is a generator that has been made -/
structure PGn (X : Cx) (e : Expr) (t : TGm) : Prop where
  run : ∀ (pins : List (Addr × Obj)) (s : Shared) (σ : L2.St) (H : Hp) (R : Nat → (Nat → Hp → Prop) → (Nat → V → List (Addr × HO) → Prop) → Hp → Prop), L2.Inv X pins σ H s → t σ H R →
    wpAny (model X.prog X.w) X.A (eval e X.env) (fun u s' => ∃ n G Yd H1 s1, L2.Inv X pins σ H1 s1 ∧ GMd X.prog X.w X.K X.mg X.base X.A X.stack n G Yd u s1 s' ∧ R n G Yd H1) X.xe s
def tGm (sp : SpY) (t : TA) : TGm := fun σ H R => t σ H fun vs H1 => ∃ n G Yd, sp vs n G Yd ∧ R n G Yd H1
section
variable {X : Cx} {k : Nat} {f : Addr} {fd : FuncData} {ps : List Str} {sp : SpY} {x : Str} {p pos : Pos} {e : Expr} {es : List Expr} {t : TA}
/-- f(e, ..) -/
theorem pgn_call (F : GenFn X.prog X.w X.K X.mg X.base k f fd ps sp) (hr : Room k X.A) (hx : Gl X x) (hm : X.mg x = some (.ref f)) (hk : PySem.W.keepIn X.K (.ref f) = true) (hb : L2.Binds X.K fd ps [])
    (ha : PA X (e :: es) t) (hdb : (x == ("__debug__" : Str)) = false := by decide) (he : starEach (e :: es) X.env = (false, eval e X.env) :: starEach es X.env := by rfl) (hpl : (backTo pos (starEach es X.env)).any (·.1) = false := by rfl) :
    PGn X (.Call (.Name x p) (e :: es) [] pos) (tGm sp t) := by
  constructor
  intro pins s σ H R I h
  have run : ∀ {us : List Value} {vs : List V} {H1 : Hp} {s1 : Shared}, L2.Inv X pins σ H1 s1 → Vals vs us → (∃ n G Yd, sp vs n G Yd ∧ R n G Yd H1) →
      wpAny (model X.prog X.w) X.A (call (.ref f) us) (fun u s' => ∃ n G Yd H1 s1, L2.Inv X pins σ H1 s1 ∧ GMd X.prog X.w X.K X.mg X.base X.A X.stack n G Yd u s1 s' ∧ R n G Yd H1) X.xe s1 := by
    intro us vs H1 s1 I1 r q
    obtain ⟨n, G, Yd, q1, q2⟩ := q
    have hl : us.length = ps.length := by rw [← r.length]; exact F.len _ _ _ _ q1
    have bt := hb s1 us I1.kIn (by rw [List.append_nil]; exact hl)
    rw [List.append_nil] at bt
    refine wpAny_call (codeAny_mono (F.go hr I1.env0 bt r q1) ?_)
    rintro r s2 ⟨u, rfl, z⟩
    exact ⟨n, G, Yd, H1, s1, I1, z, q2⟩
  refine wpAny_Call_Name_kw (ld_glob I hx hm ?_ hdb)
  exact PySem.W.callWith_K (h₀ := X.base) I.ok.mod.kin hk (thn (ha.run pos pins s σ H _ I h) fun us s1 ⟨vs, H1, I1, r, q⟩ => ⟨I1.kIn, run I1 r q⟩) he hpl
end
def tForG (t : TGm) (g : TG) (tb : TS) : TS := fun D σ H => t σ H fun n G Yd H1 => ∃ Pv : Nat → L2.St → Hp → Prop, Pv 0 σ H1 ∧ (∀ i σ H, i ≤ n → Pv i σ H → G i H) ∧
  (∀ i σ H y Nw, i < n → Pv i σ H → Yd i y Nw → (∀ q ∈ Nw, H q.1 = none) → g y σ (lay Nw H) fun σ2 H2 => tb { D with nx := Pv (i + 1), ct := Pv (i + 1), bk := D.nx } σ2 H2) ∧ ∀ σ H, Pv n σ H → D.nx σ H
section
variable {X : Cx} {pins : List (Addr × Obj)} {σ : L2.St} {H : Hp} {s s' : Shared}
/-- the maker's state, once the generator is there -/
theorem GMd.inv {n : Nat} {G : Nat → Hp → Prop} {Yd : Nat → V → List (Addr × HO) → Prop} {u : Value} (I : L2.Inv X pins σ H s) (m : GMd X.prog X.w X.K X.mg X.base X.A X.stack n G Yd u s s') :
    ∃ L ga g gs, u = .ref ga ∧ L < ga ∧ s'.gens[g]? = some gs ∧ s'.heap.IsGen ga g ∧ L2.Inv X pins σ H s' ∧ (∀ b ∈ [L, ga], FpOk X pins H b ∧ ∃ o, s'.heap.get? b = some o ∧ ∀ v, o.data ≠ .cell v) ∧
      ∀ (Y : Cx) (pins : List (Addr × Obj)), Y.prog = X.prog → Y.w = X.w → Y.K = X.K → Y.mg = X.mg → Y.base = X.base → Y.A = X.A → Y.stack = X.stack → Mine Y pins L → Mine Y pins ga →
        ∀ h0 : Heap, (∀ b ∈ [L, ga], ∀ o, s'.heap.get? b = some o → h0.get? b = some o) → Rdy (model X.prog X.w) X.A.in1 Y pins ga g n G Yd n gs [L, ga] h0 := by
  obtain ⟨L, ga, g, gs, e, hL, hlt, hos, hba, hk, hg, hgen, hobj, hy⟩ := m
  have I2 : L2.Inv X pins σ H s' := I.call' (ch := []) hos (Un.kept hk) (I.hok.kept hk) hba fun b z => by cases z
  refine ⟨L, ga, g, gs, e, hlt, hg, hgen, I2, fun b hb => ⟨?_, hobj b hb⟩, hy⟩
  have hb' : s.heap.objs.size ≤ b := by
    rcases List.mem_cons.mp hb with z | hb
    · rw [z]; exact hL
    · rw [List.mem_singleton.mp hb]; exact Nat.le_trans hL (Nat.le_of_lt hlt)
  exact I.fpOk hb' (I.hok.fresh hb')
/-- nothing is let go ahead of the store -/
theorem go_gen {M : Model} {A : Around} {E : Value → Shared → Prop} {tg : Expr} {ga g : Nat} {u : Value} {Q : Unit → Shared → Prop} (hg : s.heap.IsGen ga g) (hQ : Q () s) : wpAny M A (letOwnedTupleGo tg (.ref ga) u) Q E s := by
  obtain ⟨o, nm, qn, ho, hc, hd, _⟩ := hg
  exact go_of ho hc hd (by decide) hQ
/-- the loop's state ahead of a wake -/
structure Ahead (X : Cx) (pins : List (Addr × Obj)) (ga g n : Nat) (G : Nat → Hp → Prop) (Yd : Nat → V → List (Addr × HO) → Prop) (m : Nat) (σ : L2.St) (H : Hp) (s : Shared) : Prop where
  ex : ∃ (gs : GenState) (fp : List Addr) (h0 : Heap), s.gens[g]? = some gs ∧ Rdy (model X.prog X.w) X.A.in1 X pins ga g n G Yd m gs fp h0 ∧ (∀ b ∈ fp, FpOk X pins H b ∧ ∀ o, h0.get? b = some o → s.heap.get? b = some o)
  inv : L2.Inv X pins σ H s
  gen : s.heap.IsGen ga g
/-- the next is asked for -/
theorem Ahead.next {ga g n m : Nat} {G : Nat → Hp → Prop} {Yd : Nat → V → List (Addr × HO) → Prop} {E : Value → Shared → Prop} (h : Ahead X pins ga g n G Yd m σ H s) (hr : Room 0 X.A) (hg : G (n - m) H) (hm : m ≤ n) {Q : Option Value → Shared → Prop}
    (hQ0 : m = 0 → ∀ s', L2.Inv X pins σ H s' → Q none s')
    (hQ1 : ∀ m', m = m' + 1 → ∀ (v : Value) (y : V) (Nw : List (Addr × HO)) (fp : List Addr) (gs : GenState) (s' : Shared), RelV y v → Yd (n - m) y Nw → (∀ q ∈ Nw, H q.1 = none) → L2.Inv X pins σ (lay Nw H) s' →
      (∀ b ∈ fp, FpOk X pins (lay Nw H) b ∧ ∃ o, s'.heap.get? b = some o ∧ ∀ v, o.data ≠ .cell v) → ga ∈ fp → s'.heap.IsGen ga g → s'.gens[g]? = some gs → asleep gs = true → Rdy (model X.prog X.w) X.A.in1 X pins ga g n G Yd m' gs fp s'.heap → Q (some v) s') :
    wpAny (model X.prog X.w) X.A (pyNext (.ref ga)) Q E s := by
  obtain ⟨⟨gs, fp, h0, hgs, hrd, hfp⟩, I, hgen⟩ := h
  have hgl : g < s.gens.size := (Array.getElem?_eq_some_iff.mp hgs).1
  have bare2 : ∀ {s1 : Shared} {x : GenState}, AllBare s1.gens → x.bare = true → AllBare (s1.setGen g x).gens := fun h hx => allBare_setGen h hx
  have Ir : L2.Inv X pins σ H (s.setGen g .running) := Inv.regen I (bare2 I.bare rfl)
  refine wpAny_mono (wpAny_gsz (n := g + 1) hgl (Q := fun a s' => Q a s') (E := E) ?_) (fun _ _ z => z) fun _ _ z => z
  refine next_gen (Φ := Outp (model X.prog X.w) X.A.in1 X pins ga g n G Yd m σ H) hr.hd I.nolimit hr.depth hgen hgs ?_ fun e s1 he => ?_
  · cases m with
    | zero => exact hrd _ σ H Ir (fun b hb => ⟨(hfp b hb).1.1, (hfp b hb).2⟩) hg
    | succ m' => exact hrd _ σ H Ir (fun b hb => ⟨(hfp b hb).1.1, (hfp b hb).2⟩) hg
  · cases m with
    | zero =>
      obtain ⟨rfl, I1⟩ := he
      refine ⟨rfl, rfl, fun h' hk _ => hQ0 rfl _ ?_⟩
      have I2 : L2.Inv X pins σ H (s1.setGen g .finished) := Inv.regen I1 (bare2 I1.bare rfl)
      exact I2.kept (t' := s1.toks) hk
    | succ m' =>
      obtain ⟨v, l, k, c, p, fs, rfl, hq, y, Nw, fp', ry, hYd, hNw, I1, hfp', mg, hgen', hrd'⟩ := he
      refine ⟨hq, fun hsz => ?_⟩
      have hsz' : g < s1.gens.size := by
        have q : (s1.setGen g (End.susp v false l k c p fs).genState).gens.size = s1.gens.size := setGen_size _ _ _
        have hsz : g + 1 ≤ (s1.setGen g (End.susp v false l k c p fs).genState).gens.size := hsz
        omega
      exact hQ1 m' rfl v y Nw fp' _ _ ry hYd hNw (Inv.regen I1 (bare2 I1.bare (End.bare_of_quiet hq))) hfp' mg hgen' (setGen_at hsz') rfl hrd'
/-- what was pinned is as it was -/
theorem pin_at {fp : List Addr} {h : Heap} {σ' : L2.St} {H' : Hp} (I : L2.Inv X (pins ++ pinsAt fp h) σ' H' s) {b : Addr} (hb : b ∈ fp) {o : Obj} (e : h.get? b = some o) : s.heap.get? b = some o ∧ H' b = none :=
  let z := I.pin (b, o) (List.mem_append_right _ (List.mem_append_right _ (mem_pinsAt hb e)))
  ⟨z.1, z.2.1⟩
theorem Ahead.back {ga g n m : Nat} {G : Nat → Hp → Prop} {Yd : Nat → V → List (Addr × HO) → Prop} {fp : List Addr} {gs : GenState} {h3 : Heap} {H3 : Hp} (I : L2.Inv X (pins ++ pinsAt fp h3) σ H s) (hfp : ∀ b ∈ fp, FpOk X pins H3 b ∧ ∃ o, h3.get? b = some o ∧ ∀ v, o.data ≠ .cell v) (mg : ga ∈ fp) (hgen : h3.IsGen ga g)
    (hgs : s.gens[g]? = some gs) (hrd : Rdy (model X.prog X.w) X.A.in1 X pins ga g n G Yd m gs fp h3) : Ahead X pins ga g n G Yd m σ H s where
  ex := ⟨gs, fp, h3, hgs, hrd, fun b hb => by
    obtain ⟨f1, o, e, _⟩ := hfp b hb
    exact ⟨⟨(pin_at I hb e).2, f1.2⟩, fun o e => (pin_at I hb e).1⟩⟩
  inv := I.unpinned
  gen := by
    obtain ⟨o, nm, qn, e, r⟩ := hgen
    exact ⟨o, nm, qn, (pin_at I mg e).1, r⟩
end
section
variable {X : Cx}
theorem ps_forG {tg iter : Expr} {body : List Stmt} {t : TGm} {g : TG} {tb : TS} {pos : Pos} (hx : X.xe = fun _ _ => False) (hr : Room 0 X.A) (hi : PGn X iter t) (hg : PG X tg g) (hb : PSs X body tb)
    (hs : ∀ x, foldedSetIterable iter X.env x = pure x := by intro _; rfl) : PS X (.For tg iter body [] pos) (tForG t g tb) := by
  refine ⟨fun pins s σ H D I h => ?_⟩
  refine wpAny_For (thn (hi.run pins s σ H _ I h) fun u s1 ⟨n, G, Yd, H1, s0, I0, gm, hR⟩ => ?_) hs
  obtain ⟨L, ga, gn, gs, rfl, hlt, hgs, hgen, I1, hfp, hy⟩ := GMd.inv I0 gm
  obtain ⟨Pv, p0, hG, turn, done⟩ := hR
  refine wpAny_pyIter_gen hgen ?_
  refine codeAny_forLoop_any (fun m s' => m ≤ n ∧ ∃ σ' H', Ahead X pins ga gn n G Yd m σ' H' s' ∧ Pv (n - m) σ' H') ?_ n ⟨Nat.le_refl _, σ, H1, ⟨⟨gs, [L, ga], s1.heap, hgs, hy X pins rfl rfl rfl rfl rfl rfl rfl (hfp L List.mem_cons_self).1.2 (hfp ga (List.mem_cons_of_mem _ (List.mem_singleton.mpr rfl))).1.2 s1.heap (fun _ _ _ e => e), fun b hb => ⟨(hfp b hb).1, fun _ e => e⟩⟩, I1, hgen⟩, by rw [Nat.sub_self]; exact p0⟩
  rintro m s2 ⟨hm, σ2, H2, ha, hp⟩
  refine ha.next hr (hG (n - m) σ2 H2 (Nat.sub_le ..) hp) hm (fun e s3 I3 => ?_) (fun m' e v y Nw fp gs' s3 ry hYd hNw I3 hfp3 mg hgen3 hgs3 hsl hrd => ?_)
  · subst e
    exact wpAny_execs_nil ⟨σ2, H2, I3, done σ2 H2 hp⟩
  · subst e
    refine go_gen hgen3 ?_
    have I3' := I3.pinned (fun b hb => (hfp3 b hb).1) (fun b hb => (hfp3 b hb).2)
    have e1 : n - (m' + 1) + 1 = n - m' := by omega
    have tn := turn (n - (m' + 1)) σ2 H2 y Nw (by omega) hp hYd hNw
    rw [e1] at tn
    have ag : ∀ s, L2.Inv X (pins ++ pinsAt fp s3.heap) σ2 (lay Nw H2) s → wpAny (model X.prog X.w) X.A (assign tg X.env v) (fun _ s' => AllBare s'.gens ∧ ∃ σ' H', L2.Inv X (pins ++ pinsAt fp s3.heap) σ' H' s' ∧ tb { D with nx := Pv (n - m'), ct := Pv (n - m'), bk := D.nx } σ' H') (fun _ _ => False) s := fun s I => by
      have q := hg.run _ s σ2 (lay Nw H2) y v _ I ry tn
      rw [hx] at q
      exact thn q fun _ s' ⟨σ', H', I', q'⟩ => ⟨I'.bare, σ', H', I', q'⟩
    refine thn (still I3' ag fun _ s' G hG ⟨σ', H', I', q'⟩ => ⟨σ', H', Inv.regen I' hG, q'⟩) fun _ s4 ⟨⟨σ4, H4, I4, q4⟩, sl4⟩ => ?_
    have bd : ∀ s, L2.Inv X (pins ++ pinsAt fp s3.heap) σ4 H4 s → wpAny (model X.prog X.w) X.A (execs body X.env) (fun fl s' => AllBare s'.gens ∧ SP X (pins ++ pinsAt fp s3.heap) { D with nx := Pv (n - m'), ct := Pv (n - m'), bk := D.nx } fl s') (fun _ _ => False) s := fun s I => by
      have q := hb.run _ s σ4 H4 _ I q4
      rw [hx] at q
      refine thn q fun fl s' z => ⟨?_, z⟩
      cases fl with
      | next => obtain ⟨_, _, I', _⟩ := z; exact I'.bare
      | brk => obtain ⟨_, _, I', _⟩ := z; exact I'.bare
      | cont => obtain ⟨_, _, I', _⟩ := z; exact I'.bare
      | ret u => obtain ⟨_, _, _, I', _⟩ := z; exact I'.bare
    refine thn (still I4 bd fun fl s' G hG z => SP.regen z hG) fun fl s5 ⟨hs5, sl5⟩ => ?_
    have g5 : s5.gens[gn]? = some gs' := sl5 gn gs' (sl4 gn gs' hgs3 hsl) hsl
    cases fl with
    | next =>
      obtain ⟨σ5, H5, I5, n5⟩ := hs5
      exact ⟨m', Nat.lt_succ_self _, by omega, σ5, H5, Ahead.back I5 hfp3 mg hgen3 g5 hrd, n5⟩
    | cont =>
      obtain ⟨σ5, H5, I5, n5⟩ := hs5
      exact ⟨m', Nat.lt_succ_self _, by omega, σ5, H5, Ahead.back I5 hfp3 mg hgen3 g5 hrd, n5⟩
    | brk => obtain ⟨σ5, H5, I5, q5⟩ := hs5; exact ⟨σ5, H5, I5.unpinned, q5⟩
    | ret v => obtain ⟨x5, σ5, H5, I5, r5, q5⟩ := hs5; exact ⟨x5, σ5, H5, I5.unpinned, r5, q5⟩
end
section
variable {X : Cx} {K : PySem.W.Frag}
theorem pi_listK {tg l : Expr} {tl : TE} (h : X.K = K) (hl : PE X l tl) : PI X tg l (iList K tl) := by
  subst h
  exact pi_list hl
theorem call_listK (h : X.K = K) : CallR X (.type "list") (fun xs H Q => ∃ p ys, xs = [.ref p] ∧ (SqL K H p ys ∨ SqT K H p ys) ∧ ∀ l, H l = none → Q (.ref l) (upd H l (.lst ys))) := by
  subst h
  exact call_list_of
end
open GenW
/-! ### [elt for x in own_generator(..)] -/
def tLcG (t : TGm) (g : TG) (tt : TT) (te : TE) (vs : List Nat) : TE := fun σ H Q => t σ H fun n G Yd H1 => ∀ D, H1 D = none → ∃ Pv : Nat → Hp → Prop, Pv 0 (upd H1 D (.lst [])) ∧ (∀ i H, i ≤ n → Pv i H → G i H) ∧
  (∀ i H y Nw, i < n → Pv i H → Yd i y Nw → (∀ q ∈ Nw, H q.1 = none) → g y (wipe σ vs) (lay Nw H) fun σ2 H2 => wipe σ2 vs = wipe σ vs ∧ tt σ2 H2 fun b H3 =>
    if b = true then te σ2 H3 fun y H4 => ∃ acc, H4 D = some (.lst acc) ∧ acc.length < sizeLine ∧ Pv (i + 1) (upd H4 D (.lst (acc ++ [y]))) else Pv (i + 1) H3) ∧ ∀ H, Pv n H → Q (.ref D) H
section
variable {X : Cx} {pins : List (Addr × Obj)} {σ : L2.St} {H : Hp} {s : Shared} {α : Type}
theorem stillS {t : Sem α} {Φ : L2.St → Hp → Prop} {E : Value → Shared → Prop} (I : L2.Inv X pins σ H s) (h : ∀ s, L2.Inv X pins σ H s → wpAny (model X.prog X.w) X.A t (fun _ s' => ∃ σ' H', L2.Inv X pins σ' H' s' ∧ Φ σ' H') (fun _ _ => False) s) :
    wpAny (model X.prog X.w) X.A t (fun _ s' => (∃ σ' H', L2.Inv X pins σ' H' s' ∧ Φ σ' H') ∧ ∀ (i : Nat) y, s.gens[i]? = some y → asleep y = true → s'.gens[i]? = some y) E s :=
  still I (fun s I => thn (h s I) fun _ _ ⟨σ', H', I', q⟩ => ⟨I'.bare, σ', H', I', q⟩) fun _ _ _ hG ⟨σ', H', I', q⟩ => ⟨σ', H', Inv.regen I' hG, q⟩
theorem stillB {t : Sem α} {Φ : α → Hp → Prop} {E : Value → Shared → Prop} (I : L2.Inv X pins σ H s) (h : ∀ s, L2.Inv X pins σ H s → wpAny (model X.prog X.w) X.A t (fun a s' => ∃ H', L2.Inv X pins σ H' s' ∧ Φ a H') (fun _ _ => False) s) :
    wpAny (model X.prog X.w) X.A t (fun a s' => (∃ H', L2.Inv X pins σ H' s' ∧ Φ a H') ∧ ∀ (i : Nat) y, s.gens[i]? = some y → asleep y = true → s'.gens[i]? = some y) E s :=
  still I (fun s I => thn (h s I) fun _ _ ⟨H', I', q⟩ => ⟨I'.bare, H', I', q⟩) fun _ _ _ hG ⟨H', I', q⟩ => ⟨H', Inv.regen I' hG, q⟩
theorem stillV {t : Sem Value} {Φ : V → Hp → Prop} {E : Value → Shared → Prop} (I : L2.Inv X pins σ H s) (h : ∀ s, L2.Inv X pins σ H s → wpAny (model X.prog X.w) X.A t (fun a s' => ∃ y H', L2.Inv X pins σ H' s' ∧ RelV y a ∧ Φ y H') (fun _ _ => False) s) :
    wpAny (model X.prog X.w) X.A t (fun a s' => (∃ y H', L2.Inv X pins σ H' s' ∧ RelV y a ∧ Φ y H') ∧ ∀ (i : Nat) y, s.gens[i]? = some y → asleep y = true → s'.gens[i]? = some y) E s :=
  still I (fun s I => thn (h s I) fun _ _ ⟨y, H', I', r, q⟩ => ⟨I'.bare, y, H', I', r, q⟩) fun _ _ _ hG ⟨y, H', I', r, q⟩ => ⟨y, H', Inv.regen I' hG, r, q⟩
end
section
variable {X : Cx}
theorem lcG_core {pins : List (Addr × Obj)} {s : Shared} {σ : L2.St} {H : Hp} {Q : VK} {elt tg iter : Expr} {ifs : List Expr} {scope : Scope} {own : List (Str × Nat)} {pos pos' : Pos} {t : TGm} {g : TG} {tt : TT} {te : TE} {use : Option (Value → Sem Unit)} {Qf : Value → Shared → Prop}
    (hr : Room 0 X.A) (hN : X.N.Nodup) (I : L2.Inv X pins σ H s) (hi : PGn X iter t) (ok : BlkOk X.N X.env.scope scope own)
    (hg : ∀ (s : Shared) (H : Hp) (C : Addr) (cl : List (Str × Addr)) (fp : List Addr), PG (X.blk s H scope (compEnvC scope cl C X.env) fp) tg g) (ht : ∀ (s : Shared) (H : Hp) (C : Addr) (cl : List (Str × Addr)) (fp : List Addr), PTs (X.blk s H scope (compEnvC scope cl C X.env) fp) ifs tt)
    (he : ∀ (s : Shared) (H : Hp) (C : Addr) (cl : List (Str × Addr)) (fp : List Addr), PE (X.blk s H scope (compEnvC scope cl C X.env) fp) elt te) (hs : ∀ x, foldedSetIterable iter X.env x = pure x)
    (h : tLcG t g tt te (own.map (·.2)) σ H Q)
    (hRR : ∀ D C s' m H', L2.Inv X pins σ H' s' → Q (.ref D) H' → s'.heap.Ns C m → FpOk X pins H' C → compPost (model X.prog X.w) X.A X.xe use Qf (.ref D) C (.ok .next) s') :
    wpAny (model X.prog X.w) X.A (comprehension (.ListComp elt [⟨tg, iter, ifs, 0⟩] scope pos) scope X.env pos' (newList []) false (eval iter X.env) use) Qf X.xe s := by
  have hfree : ∀ y ∈ scope.names, y.2 = .free → ∃ c, X.env.cells.lookup y.1 = some c := fun y hy e => by
    rcases ok.free y hy e with k | k
    · exact I.ok.has _ (.inl k)
    · exact I.ok.has _ (.inr k)
  refine wpAny_comprehension_free (use := use) rfl hs (closure_ok hfree) ok.kind (fun y hy e => by rw [ok.uniq y hy, e])
    (thn (hi.run pins s σ H _ I h) fun u s1 ⟨n, G, Yd, H1, s0, I0, gm, hR⟩ => ?_)
  obtain ⟨L, ga, gn, gs, rfl, hlt, hgs, hgen, I1, hfp, hy⟩ := GMd.inv I0 gm
  refine wpAny_pyIter_gen hgen ?_
  refine wpAny_newObj_type (newEnv_comp ?_) (by show 0 ≤ sizeLine; decide)
  generalize hD : s1.heap.objs.size = D
  have hDn : H1 D = none := I1.hok.fresh (Nat.le_of_eq hD)
  obtain ⟨Pv, p0, hG, turn, done⟩ := hR D hDn
  have sz : ∀ b ∈ [L, ga], b < s1.heap.objs.size := fun b hb => by
    obtain ⟨_, o, e, _⟩ := hfp b hb
    exact Heap.lt_size e
  generalize hs3 : ({ s1 with heap := s1.heap.push { cls := .type "list", data := .seq ([] : List Value).toArray } } : Shared) = s3
  have I3 : L2.Inv X pins σ (upd H1 D (.lst [])) s3 := by
    rw [← hs3]
    refine I1.laid (t' := s1.toks) (fun b o e => Heap.get?_push_of_some _ e) (Nat.le_of_eq hD) ⟨Nat.zero_le _, [], 0, .nil, ?_⟩
    rw [← hD]
    exact Heap.get?_push_size _ rfl
  have h3 : s3.heap = s1.heap.push { cls := .type "list", data := .seq ([] : List Value).toArray } := by rw [← hs3]
  have g3 : s3.gens = s1.gens := by rw [← hs3]
  have f3 : ∀ b ∈ [L, ga], FpOk X pins (upd H1 D (.lst [])) b ∧ b < s3.heap.objs.size := fun b hb => by
    have hlt := sz b hb
    refine ⟨⟨?_, (hfp b hb).1.2⟩, by rw [h3, Heap.size_push]; exact Nat.lt_succ_of_lt hlt⟩
    rw [upd_ne (by rw [← hD]; exact Nat.ne_of_lt hlt)]
    exact (hfp b hb).1.1
  have I4 := block_start I3 ok hN f3
  have pg := hg s3 (upd H1 D (.lst [])) s3.heap.objs.size (cellsFrom (s3.heap.objs.size + 1) scope.names (cloFrom X.env.cells scope.names [])) [L, ga]
  have pt := ht s3 (upd H1 D (.lst [])) s3.heap.objs.size (cellsFrom (s3.heap.objs.size + 1) scope.names (cloFrom X.env.cells scope.names [])) [L, ga]
  have pe := he s3 (upd H1 D (.lst [])) s3.heap.objs.size (cellsFrom (s3.heap.objs.size + 1) scope.names (cloFrom X.env.cells scope.names [])) [L, ga]
  show codeAny _ _ (.compStart (.ListComp elt [⟨tg, iter, ifs, 0⟩] scope pos) 0 (.ref ga) (.ref D) (compEnvC scope (cellsFrom (s3.heap.objs.size + 1) scope.names (cloFrom X.env.cells scope.names [])) s3.heap.objs.size X.env)) (compPost (model X.prog X.w) X.A X.xe use Qf (.ref D) s3.heap.objs.size) { s3 with heap := pushCells (s3.heap.push { cls := .type "dict", data := .dict #[] }) scope.names }
  generalize hce : compEnvC scope (cellsFrom (s3.heap.objs.size + 1) scope.names (cloFrom X.env.cells scope.names [])) s3.heap.objs.size X.env = ce at I4 pg pt pe ⊢
  have cL : ce.locals = s3.heap.objs.size := by subst hce; rfl
  generalize hH3 : upd H1 D (.lst []) = H3 at I3 I4 pg pt pe p0 f3
  generalize hs4 : ({ s3 with heap := pushCells (s3.heap.push { cls := .type "dict", data := .dict #[] }) scope.names } : Shared) = s4 at I4 ⊢
  have keep4 : ∀ b o, s1.heap.get? b = some o → s4.heap.get? b = some o := fun b o e => by
    rw [← hs4]
    refine pushCells_keeps _ _ _ _ (Heap.get?_push_of_some _ ?_)
    rw [h3]
    exact Heap.get?_push_of_some _ e
  have g4 : s4.gens = s1.gens := by rw [← hs4]; exact g3
  have gen4 : s4.heap.IsGen ga gn := by
    obtain ⟨o, nm, qn, e, r⟩ := hgen
    exact ⟨o, nm, qn, keep4 _ _ e, r⟩
  have nfp : ∀ b ∈ [L, ga], H3 b = none := fun b hb => (f3 b hb).1.1
  have stat : ∀ {σ' : L2.St} {H' : Hp} {s' : Shared}, L2.Inv (X.blk s3 H3 scope ce [L, ga]) [] σ' H' s' → (∀ b ∈ [L, ga], H' b = none) → ∀ b ∈ [L, ga], FpOk (X.blk s3 H3 scope ce [L, ga]) [] H' b := fun {σ' H' s'} I' hn b hb =>
    ⟨hn b hb, (I'.ok.exf b hb).1, I'.ok.exfs b hb, .inl hb, fun x c e => (I'.ok.exf b hb).2 x c e, fun p hp => absurd (show p ∈ ([] : List (Addr × Obj)) ++ [] from hp) (by simp)⟩
  have sta0 := stat I4 nfp
  have A0 : Ahead (X.blk s3 H3 scope ce [L, ga]) [] ga gn n G Yd n (wipe σ (own.map (·.2))) H3 s4 :=
    ⟨⟨gs, [L, ga], s1.heap, by rw [g4]; exact hgs, hy (X.blk s3 H3 scope ce [L, ga]) [] rfl rfl rfl rfl rfl rfl rfl (sta0 L List.mem_cons_self).2 (sta0 ga (List.mem_cons_of_mem _ (List.mem_singleton.mpr rfl))).2 s1.heap (fun _ _ _ e => e), fun b hb => ⟨sta0 b hb, fun o e => keep4 b o e⟩⟩, I4, gen4⟩
  have loop : codeAny (model X.prog X.w) X.A (.compLoop (.ListComp elt [⟨tg, iter, ifs, 0⟩] scope pos) 0 (.ref ga) (.ref D) ce) (compPost (model X.prog X.w) X.A X.xe use Qf (.ref D) s3.heap.objs.size) s4 := by
    refine compLoop_any (fun m s' => m ≤ n ∧ ∃ H', Ahead (X.blk s3 H3 scope ce [L, ga]) [] ga gn n G Yd m (wipe σ (own.map (·.2))) H' s' ∧ Pv (n - m) H') ?_ n ⟨Nat.le_refl _, H3, A0, by rw [Nat.sub_self]; exact p0⟩
    rintro m s2 ⟨hm, H2, ha, hp⟩
    refine ha.next (X := X.blk s3 H3 scope ce [L, ga]) hr (hG (n - m) H2 (Nat.sub_le ..) hp) hm (fun e s5 I5 => ?_) (fun m' e v y Nw fp gs' s5 ry hYd hNw I5 hfp5 mg hgen5 hgs5 hsl hrd => ?_)
    · subst e
      have I7 : L2.Inv X pins σ H2 s5 := I3.call' (ch := [L, ga]) I5.os I5.base I5.hok I5.bare fun b hb => ⟨(f3 b hb).1.2.2.2.1, (f3 b hb).1.2.1, (f3 b hb).1.2.2.2.2.1, (f3 b hb).1.2.2.2.2.2⟩
      have nC : H2 s3.heap.objs.size = none := by
        have z : H2 ce.locals = none := I5.free
        rw [cL] at z
        exact z
      obtain ⟨m, hn, _⟩ := I5.loc
      have hn : s5.heap.Ns ce.locals m := hn
      rw [cL] at hn
      exact hRR D s3.heap.objs.size s5 m H2 I7 (done H2 hp) hn (I3.fpOk (Nat.le_refl _) nC)
    · subst e
      refine go_gen hgen5 ?_
      have I5' := I5.pinned (fun b hb => (hfp5 b hb).1) (fun b hb => (hfp5 b hb).2)
      have e1 : n - (m' + 1) + 1 = n - m' := by omega
      have tn := turn (n - (m' + 1)) H2 y Nw (by omega) hp hYd hNw
      rw [e1] at tn
      refine thnF (stillS (X := X.blk s3 H3 scope ce [L, ga]) I5' fun s I => pg.run _ s (wipe σ (own.map (·.2))) (lay Nw H2) y v _ I ry tn) fun _ s6 z6 => ?_
      obtain ⟨⟨σ6, H6, I6, hw6, q6⟩, sl6⟩ := z6
      refine thnF (stillB (X := X.blk s3 H3 scope ce [L, ga]) I6 fun s I => pt.run _ s σ6 H6 _ I q6) fun b s7 z7 => ?_
      obtain ⟨⟨H7, I7, q7⟩, sl7⟩ := z7
      have fin : ∀ {s' : Shared} {H' : Hp}, L2.Inv (X.blk s3 H3 scope ce [L, ga]) ([] ++ pinsAt fp s5.heap) σ6 H' s' → s'.gens[gn]? = some gs' → Pv (n - m') H' →
          ∃ m, m < m' + 1 ∧ m ≤ n ∧ ∃ H', Ahead (X.blk s3 H3 scope ce [L, ga]) [] ga gn n G Yd m (wipe σ (own.map (·.2))) H' s' ∧ Pv (n - m) H' := fun {s' H'} I' eg pv => by
        have hl : (wipe σ (own.map (·.2))).length = σ6.length := by rw [← hw6, wipe_length]
        have Iw := I'.weak hl (fun j v e => by rw [← hw6] at e; exact (wipe_some e).1)
        exact ⟨m', Nat.lt_succ_self _, by omega, H', Ahead.back Iw hfp5 mg hgen5 eg hrd, pv⟩
      have e7 : s7.gens[gn]? = some gs' := sl7 gn gs' (sl6 gn gs' hgs5 hsl) hsl
      cases b with
      | false =>
        simp only [Bool.false_eq_true, if_false] at q7 ⊢
        exact fin I7 e7 q7
      | true =>
        simp only [if_true] at q7 ⊢
        refine thnF (stillV (X := X.blk s3 H3 scope ce [L, ga]) I7 fun s I => pe.run _ s σ6 H7 _ I q7) fun z s8 z8 => ?_
        obtain ⟨⟨yv, H8, I8, r8, acc, hD8, hz8, nx⟩, sl8⟩ := z8
        have e8 := sl8 gn gs' e7 hsl
        have ap := fun (s : Shared) (I : L2.Inv (X.blk s3 H3 scope ce [L, ga]) ([] ++ pinsAt fp s5.heap) σ6 H8 s) => app_ok (X := X.blk s3 H3 scope ce [L, ga]) (Q := fun _ s' => AllBare s'.gens ∧ L2.Inv (X.blk s3 H3 scope ce [L, ga]) ([] ++ pinsAt fp s5.heap) σ6 (upd H8 D (.lst (acc ++ [yv]))) s') (E := fun _ _ => False) I hD8 hz8 r8 fun s11 I11 => ⟨I11.bare, I11⟩
        refine thnF (still (X := X.blk s3 H3 scope ce [L, ga]) I8 ap fun _ s' G hG I' => Inv.regen I' hG) fun _ s9 z9 => ?_
        obtain ⟨I9, sl9⟩ := z9
        exact fin I9 (sl9 gn gs' e8 hsl) nx
  exact codeAny_compStart_list loop (wpAny_pyIter_gen gen4 loop)
/-- as a value -/
theorem pe_lcG {elt tg iter : Expr} {ifs : List Expr} {scope : Scope} {own : List (Str × Nat)} {pos : Pos} {t : TGm} {g : TG} {tt : TT} {te : TE} (hr : Room 0 X.A) (hN : X.N.Nodup) (hi : PGn X iter t) (ok : BlkOk X.N X.env.scope scope own)
    (hg : ∀ (s : Shared) (H : Hp) (C : Addr) (cl : List (Str × Addr)) (fp : List Addr), PG (X.blk s H scope (compEnvC scope cl C X.env) fp) tg g) (ht : ∀ (s : Shared) (H : Hp) (C : Addr) (cl : List (Str × Addr)) (fp : List Addr), PTs (X.blk s H scope (compEnvC scope cl C X.env) fp) ifs tt)
    (he : ∀ (s : Shared) (H : Hp) (C : Addr) (cl : List (Str × Addr)) (fp : List Addr), PE (X.blk s H scope (compEnvC scope cl C X.env) fp) elt te) (hs : ∀ x, foldedSetIterable iter X.env x = pure x := by intro _; rfl) :
    PE X (.ListComp elt [⟨tg, iter, ifs, 0⟩] scope pos) (tLcG t g tt te (own.map (·.2))) := by
  refine ⟨fun pins s σ H Q I h => ?_⟩
  rw [eval_ListComp]
  refine lcG_core hr hN I hi ok hg ht he hs h fun D C s' m H' I' q hn f => ⟨m, hn, fun h'' sb => ?_⟩
  obtain ⟨f0, f1, f2, f3, f4, f5⟩ := f
  exact ⟨.ref D, H', I'.turned (t' := s'.toks) (fun b o hb e => (sb.2 b hb).trans e) f0 f1 f3 f4 f5, rfl, q⟩
end
open GenW
/-! ### {k: v for x in own_generator(..)} -/
def tDcG (t : TGm) (g : TG) (tt : TT) (tk tv : TE) (vs : List Nat) : TE := fun σ H Q => t σ H fun n G Yd H1 => ∀ D, H1 D = none → ∃ Pv : Nat → Hp → Prop, Pv 0 (upd H1 D (.dK [])) ∧ (∀ i H, i ≤ n → Pv i H → G i H) ∧
  (∀ i H y Nw, i < n → Pv i H → Yd i y Nw → (∀ q ∈ Nw, H q.1 = none) → g y (wipe σ vs) (lay Nw H) fun σ2 H2 => wipe σ2 vs = wipe σ vs ∧ tt σ2 H2 fun b H3 =>
    if b = true then tk σ2 H3 fun y H4 => tv σ2 H4 fun z H5 => ∃ kvs k, y = kV k ∧ H5 D = some (.dK kvs) ∧ kvs.length < sizeLine ∧ Pv (i + 1) (upd H5 D (.dK (putK kvs k z))) else Pv (i + 1) H3) ∧ ∀ H, Pv n H → Q (.ref D) H
section
variable {X : Cx}
theorem dcG_core {pins : List (Addr × Obj)} {s : Shared} {σ : L2.St} {H : Hp} {Q : VK} {kx vx tg iter : Expr} {ifs : List Expr} {scope : Scope} {own : List (Str × Nat)} {pos pos' : Pos} {t : TGm} {g : TG} {tt : TT} {tk tv : TE} {use : Option (Value → Sem Unit)} {Qf : Value → Shared → Prop}
    (hr : Room 0 X.A) (hN : X.N.Nodup) (I : L2.Inv X pins σ H s) (hi : PGn X iter t) (ok : BlkOk X.N X.env.scope scope own)
    (hg : ∀ (s : Shared) (H : Hp) (C : Addr) (cl : List (Str × Addr)) (fp : List Addr), PG (X.blk s H scope (compEnvC scope cl C X.env) fp) tg g) (ht : ∀ (s : Shared) (H : Hp) (C : Addr) (cl : List (Str × Addr)) (fp : List Addr), PTs (X.blk s H scope (compEnvC scope cl C X.env) fp) ifs tt)
    (hk : ∀ (s : Shared) (H : Hp) (C : Addr) (cl : List (Str × Addr)) (fp : List Addr), PE (X.blk s H scope (compEnvC scope cl C X.env) fp) kx tk)
    (he : ∀ (s : Shared) (H : Hp) (C : Addr) (cl : List (Str × Addr)) (fp : List Addr), PE (X.blk s H scope (compEnvC scope cl C X.env) fp) vx tv) (hs : ∀ x, foldedSetIterable iter X.env x = pure x)
    (h : tDcG t g tt tk tv (own.map (·.2)) σ H Q)
    (hRR : ∀ D C s' m H', L2.Inv X pins σ H' s' → Q (.ref D) H' → s'.heap.Ns C m → FpOk X pins H' C → compPost (model X.prog X.w) X.A X.xe use Qf (.ref D) C (.ok .next) s') :
    wpAny (model X.prog X.w) X.A (comprehension (.DictComp kx vx [⟨tg, iter, ifs, 0⟩] scope pos) scope X.env pos' newDict false (eval iter X.env) use) Qf X.xe s := by
  have hfree : ∀ y ∈ scope.names, y.2 = .free → ∃ c, X.env.cells.lookup y.1 = some c := fun y hy e => by
    rcases ok.free y hy e with k | k
    · exact I.ok.has _ (.inl k)
    · exact I.ok.has _ (.inr k)
  refine wpAny_comprehension_free (use := use) rfl hs (closure_ok hfree) ok.kind (fun y hy e => by rw [ok.uniq y hy, e])
    (thn (hi.run pins s σ H _ I h) fun u s1 ⟨n, G, Yd, H1, s0, I0, gm, hR⟩ => ?_)
  obtain ⟨L, ga, gn, gs, rfl, hlt, hgs, hgen, I1, hfp, hy⟩ := GMd.inv I0 gm
  refine wpAny_pyIter_gen hgen ?_
  refine wpAny_newObj_type (newEnv_comp ?_)
  generalize hD : s1.heap.objs.size = D
  have hDn : H1 D = none := I1.hok.fresh (Nat.le_of_eq hD)
  obtain ⟨Pv, p0, hG, turn, done⟩ := hR D hDn
  have sz : ∀ b ∈ [L, ga], b < s1.heap.objs.size := fun b hb => by
    obtain ⟨_, o, e, _⟩ := hfp b hb
    exact Heap.lt_size e
  generalize hs3 : ({ s1 with heap := s1.heap.push { cls := .type "dict", data := .dict #[] } } : Shared) = s3
  have I3 : L2.Inv X pins σ (upd H1 D (.dK [])) s3 := by
    rw [← hs3]
    refine I1.laid (t' := s1.toks) (fun b o e => Heap.get?_push_of_some _ e) (Nat.le_of_eq hD) ?_
    rw [← hD]
    exact dk_empty s1.heap I1.big
  have h3 : s3.heap = s1.heap.push { cls := .type "dict", data := .dict #[] } := by rw [← hs3]
  have g3 : s3.gens = s1.gens := by rw [← hs3]
  have f3 : ∀ b ∈ [L, ga], FpOk X pins (upd H1 D (.dK [])) b ∧ b < s3.heap.objs.size := fun b hb => by
    have hlt := sz b hb
    refine ⟨⟨?_, (hfp b hb).1.2⟩, by rw [h3, Heap.size_push]; exact Nat.lt_succ_of_lt hlt⟩
    rw [upd_ne (by rw [← hD]; exact Nat.ne_of_lt hlt)]
    exact (hfp b hb).1.1
  have I4 := block_start I3 ok hN f3
  have pg := hg s3 (upd H1 D (.dK [])) s3.heap.objs.size (cellsFrom (s3.heap.objs.size + 1) scope.names (cloFrom X.env.cells scope.names [])) [L, ga]
  have pt := ht s3 (upd H1 D (.dK [])) s3.heap.objs.size (cellsFrom (s3.heap.objs.size + 1) scope.names (cloFrom X.env.cells scope.names [])) [L, ga]
  have pk := hk s3 (upd H1 D (.dK [])) s3.heap.objs.size (cellsFrom (s3.heap.objs.size + 1) scope.names (cloFrom X.env.cells scope.names [])) [L, ga]
  have pe := he s3 (upd H1 D (.dK [])) s3.heap.objs.size (cellsFrom (s3.heap.objs.size + 1) scope.names (cloFrom X.env.cells scope.names [])) [L, ga]
  show codeAny _ _ (.compStart (.DictComp kx vx [⟨tg, iter, ifs, 0⟩] scope pos) 0 (.ref ga) (.ref D) (compEnvC scope (cellsFrom (s3.heap.objs.size + 1) scope.names (cloFrom X.env.cells scope.names [])) s3.heap.objs.size X.env)) (compPost (model X.prog X.w) X.A X.xe use Qf (.ref D) s3.heap.objs.size) { s3 with heap := pushCells (s3.heap.push { cls := .type "dict", data := .dict #[] }) scope.names }
  generalize hce : compEnvC scope (cellsFrom (s3.heap.objs.size + 1) scope.names (cloFrom X.env.cells scope.names [])) s3.heap.objs.size X.env = ce at I4 pg pt pk pe ⊢
  have cL : ce.locals = s3.heap.objs.size := by subst hce; rfl
  generalize hH3 : upd H1 D (.dK []) = H3 at I3 I4 pg pt pk pe p0 f3
  generalize hs4 : ({ s3 with heap := pushCells (s3.heap.push { cls := .type "dict", data := .dict #[] }) scope.names } : Shared) = s4 at I4 ⊢
  have keep4 : ∀ b o, s1.heap.get? b = some o → s4.heap.get? b = some o := fun b o e => by
    rw [← hs4]
    refine pushCells_keeps _ _ _ _ (Heap.get?_push_of_some _ ?_)
    rw [h3]
    exact Heap.get?_push_of_some _ e
  have g4 : s4.gens = s1.gens := by rw [← hs4]; exact g3
  have gen4 : s4.heap.IsGen ga gn := by
    obtain ⟨o, nm, qn, e, r⟩ := hgen
    exact ⟨o, nm, qn, keep4 _ _ e, r⟩
  have nfp : ∀ b ∈ [L, ga], H3 b = none := fun b hb => (f3 b hb).1.1
  have stat : ∀ {σ' : L2.St} {H' : Hp} {s' : Shared}, L2.Inv (X.blk s3 H3 scope ce [L, ga]) [] σ' H' s' → (∀ b ∈ [L, ga], H' b = none) → ∀ b ∈ [L, ga], FpOk (X.blk s3 H3 scope ce [L, ga]) [] H' b := fun {σ' H' s'} I' hn b hb =>
    ⟨hn b hb, (I'.ok.exf b hb).1, I'.ok.exfs b hb, .inl hb, fun x c e => (I'.ok.exf b hb).2 x c e, fun p hp => absurd (show p ∈ ([] : List (Addr × Obj)) ++ [] from hp) (by simp)⟩
  have sta0 := stat I4 nfp
  have A0 : Ahead (X.blk s3 H3 scope ce [L, ga]) [] ga gn n G Yd n (wipe σ (own.map (·.2))) H3 s4 :=
    ⟨⟨gs, [L, ga], s1.heap, by rw [g4]; exact hgs, hy (X.blk s3 H3 scope ce [L, ga]) [] rfl rfl rfl rfl rfl rfl rfl (sta0 L List.mem_cons_self).2 (sta0 ga (List.mem_cons_of_mem _ (List.mem_singleton.mpr rfl))).2 s1.heap (fun _ _ _ e => e), fun b hb => ⟨sta0 b hb, fun o e => keep4 b o e⟩⟩, I4, gen4⟩
  have loop : codeAny (model X.prog X.w) X.A (.compLoop (.DictComp kx vx [⟨tg, iter, ifs, 0⟩] scope pos) 0 (.ref ga) (.ref D) ce) (compPost (model X.prog X.w) X.A X.xe use Qf (.ref D) s3.heap.objs.size) s4 := by
    refine compLoop_anyD (fun m s' => m ≤ n ∧ ∃ H', Ahead (X.blk s3 H3 scope ce [L, ga]) [] ga gn n G Yd m (wipe σ (own.map (·.2))) H' s' ∧ Pv (n - m) H') ?_ n ⟨Nat.le_refl _, H3, A0, by rw [Nat.sub_self]; exact p0⟩
    rintro m s2 ⟨hm, H2, ha, hp⟩
    refine ha.next (X := X.blk s3 H3 scope ce [L, ga]) hr (hG (n - m) H2 (Nat.sub_le ..) hp) hm (fun e s5 I5 => ?_) (fun m' e v y Nw fp gs' s5 ry hYd hNw I5 hfp5 mg hgen5 hgs5 hsl hrd => ?_)
    · subst e
      have I7 : L2.Inv X pins σ H2 s5 := I3.call' (ch := [L, ga]) I5.os I5.base I5.hok I5.bare fun b hb => ⟨(f3 b hb).1.2.2.2.1, (f3 b hb).1.2.1, (f3 b hb).1.2.2.2.2.1, (f3 b hb).1.2.2.2.2.2⟩
      have nC : H2 s3.heap.objs.size = none := by
        have z : H2 ce.locals = none := I5.free
        rw [cL] at z
        exact z
      obtain ⟨m, hn, _⟩ := I5.loc
      have hn : s5.heap.Ns ce.locals m := hn
      rw [cL] at hn
      exact hRR D s3.heap.objs.size s5 m H2 I7 (done H2 hp) hn (I3.fpOk (Nat.le_refl _) nC)
    · subst e
      refine go_gen hgen5 ?_
      have I5' := I5.pinned (fun b hb => (hfp5 b hb).1) (fun b hb => (hfp5 b hb).2)
      have e1 : n - (m' + 1) + 1 = n - m' := by omega
      have tn := turn (n - (m' + 1)) H2 y Nw (by omega) hp hYd hNw
      rw [e1] at tn
      refine thnF (stillS (X := X.blk s3 H3 scope ce [L, ga]) I5' fun s I => pg.run _ s (wipe σ (own.map (·.2))) (lay Nw H2) y v _ I ry tn) fun _ s6 z6 => ?_
      obtain ⟨⟨σ6, H6, I6, hw6, q6⟩, sl6⟩ := z6
      refine thnF (stillB (X := X.blk s3 H3 scope ce [L, ga]) I6 fun s I => pt.run _ s σ6 H6 _ I q6) fun b s7 z7 => ?_
      obtain ⟨⟨H7, I7, q7⟩, sl7⟩ := z7
      have fin : ∀ {s' : Shared} {H' : Hp}, L2.Inv (X.blk s3 H3 scope ce [L, ga]) ([] ++ pinsAt fp s5.heap) σ6 H' s' → s'.gens[gn]? = some gs' → Pv (n - m') H' →
          ∃ m, m < m' + 1 ∧ m ≤ n ∧ ∃ H', Ahead (X.blk s3 H3 scope ce [L, ga]) [] ga gn n G Yd m (wipe σ (own.map (·.2))) H' s' ∧ Pv (n - m) H' := fun {s' H'} I' eg pv => by
        have hl : (wipe σ (own.map (·.2))).length = σ6.length := by rw [← hw6, wipe_length]
        have Iw := I'.weak hl (fun j v e => by rw [← hw6] at e; exact (wipe_some e).1)
        exact ⟨m', Nat.lt_succ_self _, by omega, H', Ahead.back Iw hfp5 mg hgen5 eg hrd, pv⟩
      have e7 : s7.gens[gn]? = some gs' := sl7 gn gs' (sl6 gn gs' hgs5 hsl) hsl
      cases b with
      | false =>
        simp only [Bool.false_eq_true, if_false] at q7 ⊢
        exact fin I7 e7 q7
      | true =>
        simp only [if_true] at q7 ⊢
        refine thnF (stillV (X := X.blk s3 H3 scope ce [L, ga]) I7 fun s I => pk.run _ s σ6 H7 _ I q7) fun z s8 z8 => ?_
        obtain ⟨⟨yk, H8, I8, r8, q8⟩, sl8⟩ := z8
        have e8 := sl8 gn gs' e7 hsl
        refine thnF (stillV (X := X.blk s3 H3 scope ce [L, ga]) I8 fun s I => pe.run _ s σ6 H8 _ I q8) fun z2 s9 z9 => ?_
        obtain ⟨⟨yv, H9, I9, r9, kvs, k, ek, hD9, hz9, nx⟩, sl9⟩ := z9
        have e9 := sl9 gn gs' e8 hsl
        subst ek
        have ap := fun (s : Shared) (I : L2.Inv (X.blk s3 H3 scope ce [L, ga]) ([] ++ pinsAt fp s5.heap) σ6 H9 s) => d_dictSet (X := X.blk s3 H3 scope ce [L, ga]) (Q := fun _ s' => AllBare s'.gens ∧ L2.Inv (X.blk s3 H3 scope ce [L, ga]) ([] ++ pinsAt fp s5.heap) σ6 (upd H9 D (.dK (putK kvs k yv))) s') (E := fun _ _ => False) I hD9 hz9 r8 r9 fun s11 I11 => ⟨I11.bare, I11⟩
        refine thnF (still (X := X.blk s3 H3 scope ce [L, ga]) I9 ap fun _ s' G hG I' => Inv.regen I' hG) fun _ s10 z10 => ?_
        obtain ⟨I10, sl10⟩ := z10
        exact fin I10 (sl10 gn gs' e9 hsl) nx
  exact codeAny_compStart_dict loop (wpAny_pyIter_gen gen4 loop)
/-- as a value -/
theorem pe_dcG {kx vx tg iter : Expr} {ifs : List Expr} {scope : Scope} {own : List (Str × Nat)} {pos : Pos} {t : TGm} {g : TG} {tt : TT} {tk tv : TE} (hr : Room 0 X.A) (hN : X.N.Nodup) (hi : PGn X iter t) (ok : BlkOk X.N X.env.scope scope own)
    (hg : ∀ (s : Shared) (H : Hp) (C : Addr) (cl : List (Str × Addr)) (fp : List Addr), PG (X.blk s H scope (compEnvC scope cl C X.env) fp) tg g) (ht : ∀ (s : Shared) (H : Hp) (C : Addr) (cl : List (Str × Addr)) (fp : List Addr), PTs (X.blk s H scope (compEnvC scope cl C X.env) fp) ifs tt)
    (hk : ∀ (s : Shared) (H : Hp) (C : Addr) (cl : List (Str × Addr)) (fp : List Addr), PE (X.blk s H scope (compEnvC scope cl C X.env) fp) kx tk)
    (he : ∀ (s : Shared) (H : Hp) (C : Addr) (cl : List (Str × Addr)) (fp : List Addr), PE (X.blk s H scope (compEnvC scope cl C X.env) fp) vx tv) (hs : ∀ x, foldedSetIterable iter X.env x = pure x := by intro _; rfl) :
    PE X (.DictComp kx vx [⟨tg, iter, ifs, 0⟩] scope pos) (tDcG t g tt tk tv (own.map (·.2))) := by
  refine ⟨fun pins s σ H Q I h => ?_⟩
  rw [arm_eval_DictComp]
  refine dcG_core hr hN I hi ok hg ht hk he hs h fun D C s' m H' I' q hn f => ⟨m, hn, fun h'' sb => ?_⟩
  obtain ⟨f0, f1, f2, f3, f4, f5⟩ := f
  exact ⟨.ref D, H', I'.turned (t' := s'.toks) (fun b o hb e => (sb.2 b hb).trans e) f0 f1 f3 f4 f5, rfl, q⟩
end
/-! ### neighbours -/
def befor (ns : List Int) (i : Nat) : Int := ((0 :: ns)[i]?).getD 0
def here (ns : List Int) (i : Nat) : Int := (ns[i]?).getD 0
def spNeigh (K : PySem.W.Frag) : SpY := fun vs n G Yd => ∃ (a : Addr) (ns : List Int), vs = [.ref a] ∧ n = ns.length ∧ G = (fun i H => i = 0 → SqL K H a (ns.map V.int)) ∧ Yd = fun i y Nw => ∃ T, y = .ref T ∧ Nw = [(T, .tup [.int (befor ns i), .int (here ns i)])]
section
variable {P : Program} {w : World} {K : PySem.W.Frag} {mg : Str → Option Value} {base : Heap}
theorem scNeigh : GScope ["order", "before", "row_id"] ["order"] (defScope sNeigh) := ⟨rfl, rfl, rfl, by decide +kernel, rfl, by decide +kernel, by decide +kernel⟩
theorem ok_neigh {f : Addr} {fd : FuncData} (F : Fun K "neighbours" "neighbours" sNeigh f fd) (T : mg "list" = none) : GenFn P w K mg base 1 f fd ["order"] (spNeigh K) := by
  refine GenFn.mk' (k := 0) (N := ["order", "before", "row_id"]) F scNeigh (by decide +kernel) rfl (fun _ _ => rfl) (fun vs n G Yd h => ?_) fun cdv vs n G Yd h => ?_
  · obtain ⟨a, ns, rfl, _⟩ := h
    rfl
  · obtain ⟨a, ns, rfl, rfl, rfl, rfl⟩ := h
    refine ⟨fun i H H' s q e => Same.sq s (q e), _, _, _, _, _, ⟨fun Ag outer L s H hr => ⟨pss_one (ps_set (i := 1) scNeigh.nd rfl (.inl rfl) pe_int), pi_listK (K := K) rfl (pe_callTy (call_listK (K := K) rfl) (by rfl) T (by decide +kernel) (pa_cons (pv 0) pa_nil)), pg_name (i := 2) scNeigh.nd rfl (.inl rfl),
      pe_tup (pa_cons (pv 1) (pa_cons (pv 2) pa_nil)), pss_one (ps_set (i := 1) scNeigh.nd rfl (.inl rfl) (pv 2))⟩⟩, fun H g0 => ?_⟩
    have hS := g0 rfl
    refine ⟨_, rfl, a, _, rfl, .inl hS, fun p hp => ⟨p, rfl, ⟨ns.map V.int, SqL.of upd_same⟩, ?_⟩⟩
    refine ⟨[(p, .lst (ns.map V.int))], fun i σ => ∃ v, σ = [some (.ref a), some (.int (befor ns i)), v], fun i σ => σ = [some (.ref a), some (.int (befor ns i)), some (.int (here ns i))], rfl, fun q hq => ?_, ⟨none, rfl⟩, ⟨?_, ?_, ?_⟩⟩
    · rw [List.mem_singleton.mp hq]
      exact ⟨hp, True.intro⟩
    · rintro i σ H hi _ hfr ⟨v, rfl⟩
      have sq : SqL K (upd H p (.lst (ns.map V.int))) p (ns.map V.int) := SqL.of upd_same
      have hat : (ns.map V.int)[i]? = some (.int (here ns i)) := by
        rw [List.getElem?_map, List.getElem?_eq_getElem hi]
        show some (V.int ns[i]) = some (V.int ((ns[i]?).getD 0))
        rw [List.getElem?_eq_getElem hi]; rfl
      refine ⟨⟨_, _, sq, hat⟩, fun x H' y => ?_⟩
      obtain ⟨rfl, y⟩ := y
      have y := y _ sq
      rw [hat] at y
      obtain rfl := Option.some.inj y
      refine ⟨_, rfl, _, rfl, by show 2 ≤ sizeLine; decide, fun T hT => ⟨[(T, .tup [.int (befor ns i), .int (here ns i)])], rfl, fun q hq => ?_, ⟨T, rfl, rfl⟩, rfl⟩⟩
      rw [List.mem_singleton.mp hq]
      exact hT
    · rintro i σ H hi _ _ rfl
      refine ⟨_, rfl, rfl, some (.int (here ns i)), ?_⟩
      show [some (V.ref a), some (V.int (here ns i)), some (V.int (here ns i))] = [some (V.ref a), some (V.int (befor ns (i + 1))), some (V.int (here ns i))]
      rfl
    · rintro σ H _ _ _
      exact ⟨_, SqL.of upd_same, by rw [List.length_map]; exact Nat.le_refl _⟩
end
def prevL (ids : List Int) (n : Nat) : List (Int × Int) := (List.range n).map fun i => (here ids i, befor ids i)
def prevF (ids : List Int) (x : Int) : Int := befor ids (ids.idxOf x)
theorem prev_len (ids : List Int) (n : Nat) : (prevL ids n).length = n := by unfold prevL; rw [List.length_map, List.length_range]
theorem prev_snoc (ids : List Int) (n : Nat) : prevL ids (n + 1) = prevL ids n ++ [(here ids n, befor ids n)] := by unfold prevL; rw [List.range_succ, List.map_append]; rfl
theorem here41 {ids : List Int} {i : Nat} {x : Int} (h : ids[i]? = some x) : here ids i = x := by unfold here; rw [h]; rfl
theorem prev_key {ids : List Int} (nd : ids.Nodup) {n i : Nat} {x : Int} (hx : ids[i]? = some x) (hn : n ≤ ids.length) : x ∈ (prevL ids n).map Prod.fst → i < n := by
  intro h
  obtain ⟨e, he, rfl⟩ := List.mem_map.mp h
  obtain ⟨j, hj, rfl⟩ := List.mem_map.mp he
  have hj := List.mem_range.mp hj
  have h1 : ids[j]? = some (here ids j) := by
    have hl : j < ids.length := by omega
    rw [List.getElem?_eq_getElem hl, here41 (List.getElem?_eq_getElem hl)]
  have := (List.getElem?_inj (by omega) nd).mp (h1.trans hx.symm)
  omega
theorem prev_an {ids : List Int} (nd : ids.Nodup) {x : Int} (h : x ∈ ids) : anOf (prevL ids ids.length) x = some (prevF ids x) := by
  have hi := List.idxOf_lt_length_of_mem h
  have hx : ids[ids.idxOf x]? = some x := by rw [List.getElem?_eq_getElem hi, List.getElem_idxOf]
  have gen : ∀ n, n ≤ ids.length → ids.idxOf x < n → anOf (prevL ids n) x = some (prevF ids x) := by
    intro n
    induction n with
    | zero => intro _ h; omega
    | succ n ih =>
      intro hn hlt
      rw [prev_snoc]
      unfold anOf
      rw [List.find?_append]
      by_cases c : ids.idxOf x < n
      · have := ih (by omega) c
        unfold anOf at this
        cases q : (prevL ids n).find? (fun e => decide (e.1 = x)) with
        | none => rw [q] at this; cases this
        | some e => rw [q] at this; exact this
      · have e : ids.idxOf x = n := by omega
        have hno : (prevL ids n).find? (fun e => decide (e.1 = x)) = none := List.find?_eq_none.mpr fun e he z => by
          have := prev_key nd hx (by omega : n ≤ ids.length) (List.mem_map.mpr ⟨e, he, of_decide_eq_true z⟩)
          omega
        rw [hno, List.find?_cons_of_pos (by rw [e] at hx; exact decide_eq_true (here41 hx))]
        show some (befor ids n) = some (prevF ids x)
        unfold prevF
        rw [e]
  exact gen _ (Nat.le_refl _) hi
def apartI (m1 m2 ys zs : List Int) : List Int := (keepI m1 m2).filter fun x => decide (prevF ys x ≠ prevF zs x)
def confL (xs ys zs : List Int) (wo : Option (List (Int × Int))) : List Int := (apartI (movedI xs ys wo) (movedI xs zs wo) ys zs ++ dropI (keepI (movedI xs ys wo) xs) zs) ++ dropI (keepI (movedI xs zs wo) xs) ys
section
variable {P : Program} {w : World} {K : PySem.W.Frag} {mg : Str → Option Value} {base : Heap}
def spConf (K : PySem.W.Frag) : Sp := fun vs H Q _ => ∃ (a b c : Addr) (v : V) (xs ys zs : List Int) (wo : Option (List (Int × Int))), vs = [.ref a, .ref b, .ref c, v] ∧ SqL K H a (xs.map V.int) ∧ SqL K H b (ys.map V.int) ∧ SqL K H c (zs.map V.int) ∧ WtAt H v wo ∧
  xs.length ≤ 300 ∧ ys.length ≤ 300 ∧ zs.length ≤ 300 ∧ xs.Nodup ∧ ys.Nodup ∧ zs.Nodup ∧ (∀ x, (wtI wo x).natAbs < 2 ^ 300) ∧
  ∀ (q : Addr) (H' : Hp), Same H H' → H q = none → H' q = some (.lst (((confL xs ys zs wo).mergeSort leJ).map V.int)) → Q (.ref q) H'
abbrev NCf : List Str := ["start", "first", "second", "weights", "first_moved", "second_moved", "first_places", "second_places", "both", "apart", "first_lost", "second_lost", "before", "row_id"]
theorem scConf : FnScope NCf ["start", "first", "second", "weights"] (defScope sConf) := ⟨rfl, rfl, rfl, by decide +kernel, rfl, by decide +kernel, by decide +kernel⟩
theorem ok_conf {f fM fA fW fN : Addr} {fd fdM fdA fdW fdN : FuncData} {kws : List (Str × V)} (F : FunD K "conflicts" "conflicts" (defArgs sConf) (defBody sConf) (defScope sConf) [] kws f fd) (T : mg "sorted" = none)
    (Mi : FnD P w K mg base 4 2 "moved_ids" ["start", "side", "weights"] ["weights"] [.non] (spMovedIds K) fM fdM)
    (Am : Fn K mg "among" sAmong ["order", "ids"] fA fdA) (GA : FnOk P w K mg base CX0 1 fA fdA ["order", "ids"] (spAmong K))
    (Wi : Fn K mg "without" sWithout ["order", "ids"] fW fdW) (GW : FnOk P w K mg base CX0 1 fW fdW ["order", "ids"] (spWithout K))
    (Ne : Fn K mg "neighbours" sNeigh ["order"] fN fdN) (GN : GenFn P w K mg base 1 fN fdN ["order"] (spNeigh K)) :
    FnOk P w K mg base CX0 5 f fd ["start", "first", "second", "weights"] (spConf K) := by
  refine FunD.ok0 F scConf (fun vs H Q E h => ?_) (fun cdv A outer s H vs Q E hr h => ?_)
  · obtain ⟨a, b, c, v, xs, ys, zs, wo, rfl, _⟩ := h
    rfl
  · obtain ⟨a, b, c, v, xs, ys, zs, wo, rfl, ha, hb, hc, hw, lx, ly, lz, nx, ny, nz, hwb, k⟩ := h
    have hr0 : Room 0 _ := hr.mono (by decide)
    have hr1 : Room 1 _ := hr.mono (by decide)
    have hu := hu_of hr
    have h64 := hu64 hr
    refine ⟨_, pss_cons (ps_set (i := 4) scConf.nd rfl (Or.inl rfl) (pe_callN Mi.G hr rfl Mi.m Mi.kp Mi.b pass0 (pa_cons (pv 0) (pa_cons (pv 1) pa_nil)) (pk_cons (pv 3) pk_nil)))
      (pss_cons (ps_set (i := 5) scConf.nd rfl (Or.inl rfl) (pe_callN Mi.G hr rfl Mi.m Mi.kp Mi.b pass0 (pa_cons (pv 0) (pa_cons (pv 2) pa_nil)) (pk_cons (pv 3) pk_nil)))
      (pss_cons (ps_set (i := 6) scConf.nd rfl (Or.inr rfl) (pe_dcG (own := [("before", 12), ("row_id", 13)]) (tt := tYes) (g := gTup K 2 (gCons (gName 12) (gCons (gName 13) gNil))) hr0 scConf.nd (pgn_call GN hr1 rfl Ne.m Ne.F.kp Ne.b (pa_cons (pv 1) pa_nil)) (blkOk_by (N := NCf) (sc := defScope sConf) (by decide +kernel))
        (fun _ _ _ _ _ => pg_tup rfl (pgs_cons (pg_name (i := 12) scConf.nd rfl (Or.inl rfl)) (pgs_cons (pg_name (i := 13) scConf.nd rfl (Or.inl rfl)) pgs_nil))) (fun _ _ _ _ _ => pts_nil) (fun _ _ _ _ _ => pv 13) (fun _ _ _ _ _ => pv 12)))
      (pss_cons (ps_set (i := 7) scConf.nd rfl (Or.inr rfl) (pe_dcG (own := [("before", 12), ("row_id", 13)]) (tt := tYes) (g := gTup K 2 (gCons (gName 12) (gCons (gName 13) gNil))) hr0 scConf.nd (pgn_call GN hr1 rfl Ne.m Ne.F.kp Ne.b (pa_cons (pv 2) pa_nil)) (blkOk_by (N := NCf) (sc := defScope sConf) (by decide +kernel))
        (fun _ _ _ _ _ => pg_tup rfl (pgs_cons (pg_name (i := 12) scConf.nd rfl (Or.inl rfl)) (pgs_cons (pg_name (i := 13) scConf.nd rfl (Or.inl rfl)) pgs_nil))) (fun _ _ _ _ _ => pts_nil) (fun _ _ _ _ _ => pv 13) (fun _ _ _ _ _ => pv 12)))
      (pss_cons (ps_set (i := 8) scConf.nd rfl (Or.inl rfl) (pe_call GA hr1 rfl Am.m Am.F.kp Am.b .nil pass0 (pa_cons (pv 4) (pa_cons (pv 5) pa_nil))))
      (pss_cons (ps_setLc (i := 9) (own := [("row_id", 13)]) (g := gName 13) rfl scConf.nd rfl rfl rfl (pi_list (pv 8)) (blkOk_by (N := NCf) (sc := defScope sConf) (by decide +kernel)) (fun _ _ _ _ _ => pg_name (i := 13) scConf.nd rfl (Or.inl rfl))
        (fun _ _ _ _ _ => pts_one (pt_cmpR op_ne (pe_dget hu (pv 6) (pv 13) (fun _ _ => rfl)) (pe_dget hu (pv 7) (pv 13) (fun _ _ => rfl)) (by rfl))) (fun _ _ _ _ _ => pv 13))
      (pss_cons (ps_set (i := 10) scConf.nd rfl (Or.inl rfl) (pe_call GW hr1 rfl Wi.m Wi.F.kp Wi.b .nil pass0 (pa_cons (pe_call GA hr1 rfl Am.m Am.F.kp Am.b .nil pass0 (pa_cons (pv 4) (pa_cons (pv 0) pa_nil))) (pa_cons (pv 2) pa_nil))))
      (pss_cons (ps_set (i := 11) scConf.nd rfl (Or.inl rfl) (pe_call GW hr1 rfl Wi.m Wi.F.kp Wi.b .nil pass0 (pa_cons (pe_call GA hr1 rfl Am.m Am.F.kp Am.b .nil pass0 (pa_cons (pv 5) (pa_cons (pv 0) pa_nil))) (pa_cons (pv 1) pa_nil))))
      (pss_one (ps_ret (pe_callB (call_sortQ rfl h64) (by rfl) T (by decide +kernel) (pa_cons (pe_op op_cat (pe_op op_cat (pv 9) (pv 10)) (pv 11)) pa_nil))))))))))), ?_⟩
    have h16 : sizeLine = 16777216 := sizeLine_eq
    refine ⟨_, rfl, _, rfl, _, rfl, rfl, rfl, a, b, v, xs, ys, wo, rfl, ha, hb, hw, lx, ly, nx, ny, hwb, fun q1 H1 s1 hq1 hM1 => ?_⟩
    refine ⟨_, rfl, _, rfl, _, rfl, rfl, rfl, a, c, v, xs, zs, wo, rfl, s1.seq ha, s1.seq hc, hw.same s1, lx, lz, nx, nz, hwb, fun q2 H2 s2 hq2 hM2 => ?_⟩
    have s12 := s1.trans s2
    obtain ⟨m1, hm1⟩ : ∃ m1, m1 = movedI xs ys wo := ⟨_, rfl⟩
    obtain ⟨m2, hm2⟩ : ∃ m2, m2 = movedI xs zs wo := ⟨_, rfl⟩
    rw [← hm1] at hM1
    rw [← hm2] at hM2
    have lm1 : m1.length ≤ 300 := by rw [hm1]; exact Nat.le_trans (List.length_filter_le _ _) ly
    have lm2 : m2.length ≤ 300 := by rw [hm2]; exact Nat.le_trans (List.length_filter_le _ _) lz
    have in1 : ∀ x ∈ m1, x ∈ ys := fun x hx => by rw [hm1] at hx; exact (List.mem_filter.mp hx).1
    have in2 : ∀ x ∈ m2, x ∈ zs := fun x hx => by rw [hm2] at hx; exact (List.mem_filter.mp hx).1
    -- the ids ahead
    refine ⟨_, rfl, _, _, _, ⟨b, ys, rfl, rfl, rfl, rfl⟩, fun D hD => ?_⟩
    refine ⟨fun i H' => Same H2 H' ∧ H' D = some (.dK (pinK (prevL ys i))), ⟨Same.new hD, upd_same⟩, fun i H' _ q _ => (s12.trans q.1).seq hb, ?_, ?_⟩
    · rintro i H' y Nw hi ⟨s3, hP⟩ ⟨T, rfl, rfl⟩ hN
      have hT : H' T = none := hN _ (List.mem_singleton.mpr rfl)
      have sT : Same H' (lay [(T, .tup [.int (befor ys i), .int (here ys i)])] H') := Same.new hT
      have hT9 : (lay [(T, .tup [.int (befor ys i), .int (here ys i)])] H') T = some (.tup [.int (befor ys i), .int (here ys i)]) := upd_same
      generalize (lay [(T, .tup [.int (befor ys i), .int (here ys i)])] H' : Hp) = H9 at sT hT9 ⊢
      have hP9 := sT _ _ hP
      have s9 := s3.trans sT
      refine ⟨T, _, rfl, SqT.of hT9, rfl, _, _, rfl, _, _, rfl, rfl, rfl, ?_⟩
      refine ⟨_, rfl, _, rfl, pinK (prevL ys i), .inl (here ys i), rfl, hP9, by rw [pin_len, prev_len, h16]; omega, fun b u e => by rw [upd_ne (ne_of_none e hD)]; exact s9 _ _ e, ?_⟩
      rw [upd_same, pin_put (fun z => by have := prev_key ny (i := i) (by rw [List.getElem?_eq_getElem hi, here41 (List.getElem?_eq_getElem hi)]) (Nat.le_of_lt hi) z; omega), prev_snoc]
    rintro H3 ⟨s3, hP3⟩
    have s13 := s12.trans s3
    refine ⟨_, rfl, _, _, _, ⟨c, zs, rfl, rfl, rfl, rfl⟩, fun D2 hD2 => ?_⟩
    refine ⟨fun i H' => Same H3 H' ∧ H' D2 = some (.dK (pinK (prevL zs i))), ⟨Same.new hD2, upd_same⟩, fun i H' _ q _ => (s13.trans q.1).seq hc, ?_, ?_⟩
    · rintro i H' y Nw hi ⟨s4, hP⟩ ⟨T, rfl, rfl⟩ hN
      have hT : H' T = none := hN _ (List.mem_singleton.mpr rfl)
      have sT : Same H' (lay [(T, .tup [.int (befor zs i), .int (here zs i)])] H') := Same.new hT
      have hT9 : (lay [(T, .tup [.int (befor zs i), .int (here zs i)])] H') T = some (.tup [.int (befor zs i), .int (here zs i)]) := upd_same
      generalize (lay [(T, .tup [.int (befor zs i), .int (here zs i)])] H' : Hp) = H9 at sT hT9 ⊢
      have hP9 := sT _ _ hP
      have s9 := s4.trans sT
      refine ⟨T, _, rfl, SqT.of hT9, rfl, _, _, rfl, _, _, rfl, rfl, rfl, ?_⟩
      refine ⟨_, rfl, _, rfl, pinK (prevL zs i), .inl (here zs i), rfl, hP9, by rw [pin_len, prev_len, h16]; omega, fun b u e => by rw [upd_ne (ne_of_none e hD2)]; exact s9 _ _ e, ?_⟩
      rw [upd_same, pin_put (fun z => by have := prev_key nz (i := i) (by rw [List.getElem?_eq_getElem hi, here41 (List.getElem?_eq_getElem hi)]) (Nat.le_of_lt hi) z; omega), prev_snoc]
    rintro H4 ⟨s4, hP4⟩
    have s14 := s13.trans s4
    have s24 := s3.trans s4
    have hM1' := s24 _ _ (s2 _ _ hM1)
    have hM2' := s24 _ _ hM2
    have hPa := s4 _ _ hP3
    -- both
    refine ⟨_, rfl, _, rfl, q1, q2, m1, m2, rfl, SqL.of hM1', SqL.of hM2', by omega, by omega, fun q5 H5 s5 hq5 hB5 => ?_⟩
    have s15 := s14.trans s5
    obtain ⟨B, hBe⟩ : ∃ B, B = keepI m1 m2 := ⟨_, rfl⟩
    rw [← hBe] at hB5
    have lB : B.length ≤ 300 := by rw [hBe]; exact Nat.le_trans (List.length_filter_le _ _) lm1
    have hPa5 := s5 _ _ hPa
    have hPb5 := s5 _ _ hP4
    refine ⟨_, rfl, q5, rfl, ⟨_, SqL.of hB5⟩, fun D6 hD6 => ?_⟩
    refine lc_list (K := K) (a := q5) (xs := B.map V.int) (fun j H' => Same H5 H' ∧ H' D6 = some (.lst (((B.take j).filter fun x => decide (prevF ys x ≠ prevF zs x)).map V.int)) ∧ j ≤ B.length) ⟨Same.new hD6, by rw [List.take_zero]; exact upd_same, Nat.zero_le _⟩ (fun j H' _ z => SqL.of (z.1 _ _ hB5)) ?_ ?_
    · rintro j y H6 hj ⟨s6, hA, hjl⟩
      obtain ⟨x, hx, rfl⟩ := int_at hj
      have hjl2 : j < B.length := (List.getElem?_eq_some_iff.mp hx).1
      have hxB : x ∈ keepI m1 m2 := by rw [← hBe]; exact List.mem_of_getElem? hx
      obtain ⟨x1, x2⟩ := keep_mem.mp hxB
      have hfl := List.length_filter_le (fun x => decide (prevF ys x ≠ prevF zs x)) (B.take j)
      rw [List.length_take] at hfl
      have d1 := DGet.k (k := (.inl x : Key)) (s6 _ _ hPa5)
      rw [val_pin, prev_an ny (in1 x x1)] at d1
      have d2 := DGet.k (k := (.inl x : Key)) (s6 _ _ hPb5)
      rw [val_pin, prev_an nz (in2 x x2)] at d2
      refine ⟨rfl, _, rfl, _, rfl, D, _, rfl, d1, _, rfl, _, rfl, D2, _, rfl, d2, rfl, _, rfl, ?_⟩
      have ed : (!decide (V.int (prevF ys x) = V.int (prevF zs x))) = decide (prevF ys x ≠ prevF zs x) := by
        by_cases cc : prevF ys x = prevF zs x
        · rw [cc, decide_eq_true rfl, decide_eq_false (fun z => z rfl)]; rfl
        · rw [decide_eq_false (fun z => cc (V.int.inj z)), decide_eq_true cc]; rfl
      show (if (!decide (V.int (prevF ys x) = V.int (prevF zs x))) = true then _ else _)
      rw [ed]
      refine ite2 (fun cc => ?_) (fun cc => ?_)
      · refine ⟨_, rfl, _, hA, by rw [List.length_map, h16]; omega, fun c u z => by rw [upd_ne (ne_of_none z hD6)]; exact s6 _ _ z, ?_, hjl2⟩
        rw [upd_same, take_snoc hx, List.filter_append, List.filter_cons_of_pos (by exact cc), List.map_append]; rfl
      · refine ⟨s6, ?_, hjl2⟩
        rw [hA, take_snoc hx, List.filter_append, List.filter_cons_of_neg (by exact cc), List.filter_nil, List.append_nil]
    rintro H6 ⟨s6, hA6, _⟩
    rw [List.length_map, List.take_length] at hA6
    have s16 := s15.trans s6
    have hM1s := s6 _ _ (s5 _ _ hM1')
    have hM2s := s6 _ _ (s5 _ _ hM2')
    -- lost
    refine ⟨_, rfl, _, rfl, q1, a, m1, xs, rfl, SqL.of hM1s, s16.seq ha, by omega, by omega, fun q7 H7 s7 hq7 hK7 => ?_⟩
    have s17 := s16.trans s7
    refine ⟨_, rfl, q7, c, keepI m1 xs, zs, rfl, SqL.of hK7, s17.seq hc, Nat.le_trans (List.length_filter_le _ _) (by omega), by omega, fun q8 H8 s8 hq8 hL8 => ?_⟩
    have s18 := s17.trans s8
    refine ⟨_, rfl, _, rfl, q2, a, m2, xs, rfl, SqL.of (s8 _ _ (s7 _ _ hM2s)), s18.seq ha, by omega, by omega, fun q9 H9 s9 hq9 hK9 => ?_⟩
    have s19 := s18.trans s9
    refine ⟨_, rfl, q9, b, keepI m2 xs, ys, rfl, SqL.of hK9, s19.seq hb, Nat.le_trans (List.length_filter_le _ _) (by omega), by omega, fun q10 H10 s10 hq10 hL10 => ?_⟩
    have s110 := s19.trans s10
    have hA10 := s10 _ _ (s9 _ _ (s8 _ _ (s7 _ _ hA6)))
    have hL8' := s10 _ _ (s9 _ _ hL8)
    have l1 : (B.filter fun x => decide (prevF ys x ≠ prevF zs x)).length ≤ 300 := Nat.le_trans (List.length_filter_le _ _) lB
    have l2 : (dropI (keepI m1 xs) zs).length ≤ 300 := Nat.le_trans (List.length_filter_le _ _) (Nat.le_trans (List.length_filter_le _ _) lm1)
    have l3 : (dropI (keepI m2 xs) ys).length ≤ 300 := Nat.le_trans (List.length_filter_le _ _) (Nat.le_trans (List.length_filter_le _ _) lm2)
    refine ⟨_, rfl, _, rfl, D6, q8, _, _, rfl, rfl, hA10, hL8', by rw [List.length_map, List.length_map, h16]; omega, fun e1 he1 => ?_⟩
    rw [← List.map_append]
    have t1 := Same.new (o := .lst (((B.filter fun x => decide (prevF ys x ≠ prevF zs x)) ++ dropI (keepI m1 xs) zs).map V.int)) he1
    have hE1 : upd H10 e1 (.lst (((B.filter fun x => decide (prevF ys x ≠ prevF zs x)) ++ dropI (keepI m1 xs) zs).map V.int)) e1 = some (.lst (((B.filter fun x => decide (prevF ys x ≠ prevF zs x)) ++ dropI (keepI m1 xs) zs).map V.int)) := upd_same
    generalize (upd H10 e1 (.lst (((B.filter fun x => decide (prevF ys x ≠ prevF zs x)) ++ dropI (keepI m1 xs) zs).map V.int)) : Hp) = H11 at t1 hE1 ⊢
    refine ⟨_, rfl, e1, q10, _, _, rfl, rfl, hE1, t1 _ _ hL10, by rw [List.length_map, List.length_map, List.length_append, h16]; omega, fun e2 he2 => ?_⟩
    rw [← List.map_append]
    have ec : (B.filter fun x => decide (prevF ys x ≠ prevF zs x)) ++ dropI (keepI m1 xs) zs ++ dropI (keepI m2 xs) ys = confL xs ys zs wo := by
      unfold confL apartI
      rw [hBe, hm1, hm2]
    rw [ec]
    have t2 := Same.new (o := .lst ((confL xs ys zs wo).map V.int)) he2
    refine ⟨e2, _, rfl, .inl (SqL.of upd_same), fun z hz => ?_⟩
    have sz := s110.trans (t1.trans t2)
    exact k z _ (sz.trans (Same.new hz)) (Same.free sz hz) upd_same
end
/-! ### list(d.values()), sorted(set) -/
def rListVals : List V → Hp → VK → Prop := fun vs H Q => ∃ (p a : Addr) (kvs : List (Key × V)), vs = [.ref p] ∧ H p = some (valsO p a) ∧ H a = some (.dK kvs) ∧ ∀ q, H q = none → Q (.ref q) (upd H q (.lst (kvs.map Prod.snd)))
def rSortSet : List V → Hp → VK → Prop := fun vs H Q => ∃ (a : Addr) (S : Int → Bool) (n : Nat), vs = [.ref a] ∧ H a = some (.set S n) ∧ n < 64 ∧
  ∀ (p : Addr) (ns : List Int), H p = none → ns.Pairwise (· < ·) → (∀ k, k ∈ ns ↔ S k = true) → ns.length = n → Q (.ref p) (upd H p (.lst (ns.map V.int)))
section
variable {X : Cx}
theorem cr_listVals (hc : X.calm = true) : CallR X (.type "list") rListVals := by
  intro pins s σ H vs us Q I r h
  obtain ⟨p, a, kvs, rfl, hp, ha, q⟩ := h
  obtain rfl := Vals.ref1 r
  obtain ⟨hz, hsys, ws, rel, dof⟩ := dk_of I.hok ha
  obtain ⟨ep, dat⟩ := dof.dictAt
  obtain ⟨hview, _, _⟩ : L2.ObjOk X.prog X.w H s.heap p (valsO p a) := I.hok p _ hp
  have hl : kvs.length = ws.length := Paired.length rel
  refine PySem.W.kdl_call (PySem.W.kdl_values (knd := mixKind X.prog X.w) (kvs := ws) (ep := ep)) (I.ok.hd hc) ⟨hview, dat⟩ (by rw [← hl]; exact hz) fun h' tk acc' c' hkeep hS hacc => ?_
  refine ⟨.ref s.heap.objs.size, upd H s.heap.objs.size (.lst (kvs.map Prod.snd)), I.laid (t' := tk) hkeep (Nat.le_refl _) (show L2.ObjOk X.prog X.w _ _ _ (.lst (kvs.map Prod.snd)) from ⟨?_, acc'.toList, c', ?_, ?_⟩), rfl, q _ (I.hok.fresh (Nat.le_refl _))⟩
  · rw [List.length_map]; exact hz
  · have el : acc'.toList.length = acc'.size := by simp
    refine vals_of_at (by rw [List.length_map, el, hacc.1, hl]) fun j x u h1 h2 => ?_
    obtain ⟨k, hky⟩ := hacc.2 j u (by rw [← Array.getElem?_toList]; exact h2)
    obtain ⟨y, e1, e2⟩ := KV.at' rel hky
    have e3 : (kvs.map Prod.snd)[j]? = some y := by rw [List.getElem?_map, e1]; rfl
    rw [e3] at h1
    cases h1
    exact e2
  · rw [Array.toArray_toList]; exact hS
end
/-! ### set(list of ints), as a set that can be sorted -/
section
variable {P : Program} {w : World} {A : Around} {E : Value → Shared → Prop} {s : Shared}
/-- the set that has just been laid -/
abbrev setOb (w : World) : Obj := { cls := .type "set", dict := none, data := .set #[] 0 (.fresh 0 0 (!w.params.followText "set-order")) }
theorem call_setL {l : Addr} {items : Array Value} (ns : List Int) {Q : Value → Shared → Prop} (hh : A.handled = none) (hl : s.heap.IsList l items) (hit : IntsAre items.toList ns) (hb : ns.length + 1 < scanBound)
    (h : ∀ (h' : Heap) (tk c : Nat), SetR w h' s.heap.objs.size (fun j => decide (j ∈ ns)) c → c ≤ ns.length → (∀ b o, s.heap.get? b = some o → h'.get? b = some o) → Q (.ref s.heap.objs.size) { s with heap := h', toks := tk }) :
    wpAny (model P w) A (call (.type "set") [.ref l]) Q E s := by
  have hisz : items.size = ns.length := by
    have q := IntsAre.length hit
    rw [Array.length_toList] at q
    exact q
  obtain ⟨c, tl, hmro⟩ := F.called_set.mro
  have hmade := F.called_set.made
  have hsub := F.called_set.sub
  refine wpAny_call (codeAny_of_tree ?_)
  show wpAny _ _ (callAny (.type "set") _) _ _ _
  refine wpAny_pure ⟨Code.quiet_builtin _ (by decide +kernel), codeAny_builtin F.entry_type_call ?_⟩
  rw [Around.under_plain (weight_type_call_type "set" [.ref l] []) rfl]
  have h1 := F.called_set.notType
  have h2 := F.called_set.canCreate
  have hct := F.typeCall_set_1 (.ref l)
  repeat (any_goals (first | assumption | wp_step))
  refine codeAny_mono (code_set_led1 (.ref l) (E := E) (Q₁ := fun obj s₁ => obj = .ref s.heap.objs.size ∧ s₁ = { s with heap := s.heap.push (setOb w) }) ⟨rfl, rfl⟩) fun r s₁ hr => ?_
  cases r with
  | error e => exact hr
  | ok fl =>
    cases fl with
    | ret obj =>
      obtain ⟨rfl, rfl⟩ := hr
      have hS : (s.heap.push (setOb w)).get? s.heap.objs.size = some (setOb w) := Heap.get?_push_size _ rfl
      have hT : Shared.TypeIs { s with heap := s.heap.push (setOb w) } (.ref s.heap.objs.size) "set" := ⟨_, hS, rfl⟩
      have hli := F.called_set.init.lookup
      have hbi := F.called_set.init.bind (.ref s.heap.objs.size)
      repeat (any_goals (first | assumption | wp_step))
      refine codeAny_mono (codeAny_call_builtin (R := wants (fun r s₂ => r = .none ∧ ∃ h' tk c, s₂ = { s with heap := h', toks := tk } ∧ SetR w h' s.heap.objs.size (fun j => decide (j ∈ ns)) c ∧ c ≤ ns.length ∧
          (∀ b o, s.heap.get? b = some o → h'.get? b = some o)) E) F.called_set.init.plain F.entry_set_init (check_set_init_1 hT ?_)) fun r₂ s₂ hr₂ => ?_
      · obtain ⟨ol, hol, hcl, nl, hdl⟩ := hl
        obtain ⟨ocls, odict, odata, oslots⟩ := ol
        simp only at hcl hdl
        subst hcl; subst hdl
        have hol' : (s.heap.push (setOb w)).get? l = some { cls := .type "list", dict := odict, data := .seq items nl, slots := oslots } := Heap.get?_push_of_some _ hol
        have hsls := F.sub_list_set
        have hslf := F.sub_list_frozenset
        have hne : (Value.type "list" == Value.type "dict") = false := by decide
        have hl1 : (s.heap.push (setOb w)).IsList l items := ⟨_, hol', rfl, nl, rfl⟩
        unfold Builtin.«set.__init__» noKeywords Builtin.Frozenset.updateFrom
        generalize hPI : pyIter = PI
        wp_walk
        subst hPI
        refine wpAny_pyIter_list hl1 ?_
        refine wpAny_bind (wpAny_runValue ?_)
        have hlS : l < s.heap.objs.size := Heap.lt_size hol
        have hh3 : A.in1.in1.in1.handled = none := by simp [hh]
        have hz1 : (s.heap.push (setOb w)).objs.size = s.heap.objs.size + 1 := Heap.size_push ..
        have hneI : l ≠ (s.heap.push (setOb w)).objs.size := by rw [hz1]; exact Nat.ne_of_lt (Nat.lt_succ_of_lt hlS)
        have hSf : s.heap.objs.size ∉ [(s.heap.push (setOb w)).objs.size, l] := by
          rw [hz1]
          simp only [List.mem_cons, List.not_mem_nil, or_false, not_or]
          exact ⟨Nat.ne_of_lt (Nat.lt_succ_self _), Nat.ne_of_gt hlS⟩
        have hval : ∀ (i : Nat) (v : Value), items[i]? = some v → ∃ k t, ns[i]? = some k ∧ v = .int k t := fun i v hv => by
          have hi : i < ns.length := by rw [← hisz]; exact (Array.getElem?_eq_some_iff.mp hv).1
          obtain ⟨t, e⟩ := PyProof.Rows.IntsAre.int_at hit i v (by rw [Array.getElem?_toList]; exact hv)
          refine ⟨ns[i], t, List.getElem?_eq_getElem hi, ?_⟩
          rw [e, List.getD_eq_getElem?_getD, List.getElem?_eq_getElem hi] <;> rfl
        refine set_update_ints ((Walks.list hh3 _ l hneI items).toS) s.heap.objs.size hSf ns hisz hb hval (items.size - 0) 0 _ (by omega) (Nat.zero_le _) ⟨⟨_, Heap.get?_push_size _ rfl, rfl, rfl⟩, (hl1.push _)⟩ ?hS0 ?hR
        case hS0 => exact ⟨0, Nat.le_refl 0, setR_new_at (Heap.get?_push_of_some _ hS)⟩
        case hR =>
          intro s' c' hm hc' hS'
          obtain ⟨h', g2, d', tk', os'⟩ := s'
          have eg : g2 = s.gens := hm.gens
          have ed : d' = s.drawn := hm.drawn
          have eo : os' = s.os := hm.os
          subst eg; subst ed; subst eo
          show wpAny _ _ _ _ _ _
          refine wpAny_pure ?_
          show wpAny _ _ (ret Value.none) _ _ _
          rw [hisz] at hc'
          refine wpAny_pure ⟨rfl, h', tk', c', rfl, hS', hc', fun b o e => ?_⟩
          have hb0 : b < s.heap.objs.size := Heap.lt_size e
          have hb2 : b ≠ (s.heap.push (setOb w)).objs.size := by rw [hz1]; exact Nat.ne_of_lt (Nat.lt_succ_of_lt hb0)
          exact hm.heap b o (by simp only [List.mem_cons, List.not_mem_nil, or_false, not_or]; exact ⟨Nat.ne_of_lt hb0, hb2⟩) (Heap.get?_push_of_some _ (Heap.get?_push_of_some _ e))
      · cases r₂ with
        | error e => exact hr₂
        | ok fl₂ =>
          cases fl₂ with
          | ret r =>
            obtain ⟨rfl, h', tk, c', rfl, hS', hc', hk'⟩ := hr₂
            repeat (any_goals (first | assumption | wp_step))
            exact h _ _ _ hS' hc' hk'
          | _ => exact hr₂.elim
    | _ => exact hr.elim
end
section
variable {X : Cx}
def rSetL (K : PySem.W.Frag) (w : World) : List V → Hp → VK → Prop := fun xs H Q => ∃ (p : Addr) (ns : List Int), xs = [.ref p] ∧ SqL K H p (ns.map V.int) ∧ ns.length ≤ 4000 ∧
  ∀ (q : Addr) (n : Nat), H q = none → n ≤ ns.length → Q (.ref q) (upd H q (SetO w q (fun j => decide (j ∈ ns)) n))
theorem cr_setL (hc : X.calm = true) : CallR X (.type "set") (rSetL X.K X.w) := by
  intro pins s σ H xs us Q I r h
  obtain ⟨p, ns, rfl, hq, hlen, k⟩ := h
  rw [Vals.ref1 r]
  have hs : scanBound = 4096 := rfl
  obtain ⟨its, rv, pl, hz⟩ := I.list hq
  refine call_setL ns (I.ok.hd hc) pl.isList (Vals.ints rv) (by rw [hs]; omega) fun h' tk c R hle kk => ?_
  have I' := I.laid (a := s.heap.objs.size) (o := SetO X.w s.heap.objs.size (fun j => decide (j ∈ ns)) c) (h' := h') (t' := tk) (fun b u e => kk b u e) (Nat.le_refl _) (setO_new R)
  exact ⟨.ref _, _, I', rfl, k _ _ (I.hok.fresh (Nat.le_refl _)) hle⟩
end
/-! ### sorted(a set of ints), of any size -/
def rSortS (w : World) : List V → Hp → VK → Prop := fun vs H Q => ∃ (a : Addr) (S : Int → Bool) (n : Nat), vs = [V.ref a] ∧ H a = some (SetO w a S n) ∧ n < 4096 ∧
  ∀ (ns : List Int) (p : Addr), ns.Pairwise (· < ·) → (∀ k : Int, k ∈ ns ↔ S k = true) → ns.length = n → H p = none → Q (.ref p) (upd H p (.lst (ns.map V.int)))
theorem each_ints : ∀ {vs : List Value} {ns : List Int}, IntsAre vs ns → PySem.W.EachIs (fun u b => RelV (V.int b) u) vs ns := by
  intro vs ns h
  induction h with
  | nil => exact .nil
  | cons _ _ _ ih => exact .cons ⟨_, rfl⟩ ih
theorem cr_sortS {X : Cx} (hc : X.calm = true) (hu : X.A.units + 64 < cLine) : CallR X (.builtin "sorted") (rSortS X.w) := by
  intro pins s σ H vs us Q I r h
  obtain ⟨a, S, n, rfl, ha, h64, q⟩ := h
  obtain ⟨o, es, ep, t, ho, hex, hd, g, nd, hm, hb, hf, hn, hr, hl⟩ := setO_get I ha
  rw [Vals.ref1 r]
  refine PyProof.Rows.call_function_entry_kw kind_sorted plain_sorted entry_sorted (args_sorted1 _) ?_
  unfold Builtin.«sorted»
  refine wpAny_bind (m := checkCount "sorted" 1 1 _) (wpAny_pure ?_)
  refine wpAny_bind (collect_set (A := X.A.in1) (I.ok.hd hc) ⟨o, ho, hex.1, hd⟩ hf hb hr hl fun s1 vs k1 hz g1 o1 pm => ?_)
  have hvl : vs.length = n := by rw [pm.length_eq, List.length_map, Array.length_toList]; exact hn
  have hI : IntsAre vs (vs.map Builtin.Re.reRawOf) := ints_of vs fun v hv => by
    obtain ⟨e, he, q⟩ := List.mem_map.mp (pm.mem_iff.mp hv)
    obtain ⟨k, tk, h1, _⟩ := g e he
    exact ⟨k, tk, by rw [← q]; exact h1⟩
  have pk : (vs.map Builtin.Re.reRawOf).Perm (es.toList.map keyOf) := by
    have q := pm.map Builtin.Re.reRawOf
    rw [List.map_map] at q
    exact q
  have h16 : sizeLine = 16777216 := sizeLine_eq
  refine wpAny_bind (wpAny_newList ?_ (by rw [hvl]; omega))
  have ho2 : (s1.heap.push (seqObj "list" vs.toArray 0)).get? s1.heap.objs.size = some (seqObj "list" vs.toArray 0) := Heap.get?_push_size _ rfl
  refine wpAny_bind (wpAny_holding ?_)
  obtain ⟨ms, hms⟩ : ∃ ms, ms = vs.map Builtin.Re.reRawOf := ⟨_, rfl⟩
  rw [← hms] at hI pk
  have hml : ms.length = n := by rw [hms, List.length_map]; exact hvl
  have e := each_ints hI
  have e2 : ∀ {us : List Value} {bs : List Int}, PySem.W.EachIs (fun u b => RelV (V.int b) u) us bs → PySem.W.EachIs (fun u b => ∃ as, Reads (s1.heap.push (seqObj "list" vs.toArray 0)) u (PyData.int b) as ∧ s1.heap.objs.size ∉ as) us bs := by
    intro us bs z
    induction z with
    | nil => exact .nil
    | cons r _ ih =>
      obtain ⟨t, rfl⟩ := r
      exact .cons ⟨[], .int _ t, fun z => by cases z⟩ ih
  refine PySem.W.list_sort_data (A := X.A.in1) (s := { s1 with heap := s1.heap.push (seqObj "list" vs.toArray 0) }) (enc := fun z : Int => PyData.int z) ho2 e (e2 e) (sJ1 ms) (sJ2 ms) (by omega) (fun b _ => ?_) fun out hol hout => ?_
  · have := sJ3 b
    show X.A.units + 1 + 1 + (PyData.int b).depth < cLine
    omega
  · obtain ⟨c, hc2⟩ := PyProof.Rows.sortedHeap_at (out := out.toArray) ho2
    have k : ∀ b u, s.heap.get? b = some u → (sortedHeap (s1.heap.push (seqObj "list" vs.toArray 0)) s1.heap.objs.size vs out.toArray).get? b = some u := fun b u e => by
      have q := k1 b u e
      have hb := Heap.lt_size q
      rw [sortedHeap_old (Nat.ne_of_lt hb) (by rw [size_push']; exact Nat.lt_succ_of_lt hb)]
      exact Heap.get?_push_of_some _ q
    refine wpAny_pure ⟨_, rfl, ?_⟩
    have hvals := vals_each (val := V.int) hout
    rw [sJ4] at hvals
    obtain ⟨ns, hns⟩ : ∃ ns, ns = ms.mergeSort leJ := ⟨_, rfl⟩
    rw [← hns] at hvals
    have pn : ns.Perm (es.toList.map keyOf) := by rw [hns]; exact (List.mergeSort_perm _ _).trans pk
    have hnl : ns.length = n := by rw [hns, List.length_mergeSort]; exact hml
    have le : ns.Pairwise (fun x y => x ≤ y) := by
      rw [hns]
      have := List.pairwise_mergeSort (le := leJ) (fun a b c x y => decide_eq_true (Int.le_trans (of_decide_eq_true x) (of_decide_eq_true y))) (fun a b => by
        unfold leJ
        rcases Int.le_total a b with q | q
        · rw [decide_eq_true q]; rfl
        · rw [decide_eq_true q, Bool.or_true]) ms
      exact this.imp fun z => of_decide_eq_true z
    have lt : ns.Pairwise (· < ·) := lt_of_le_nodup ns le (pn.nodup_iff.mpr nd)
    have hlen : (ns.map V.int).length ≤ sizeLine := by rw [List.length_map, hnl]; omega
    have hpn : H s1.heap.objs.size = none := I.hok.fresh hz
    have J : L2.Inv X pins σ (upd H s1.heap.objs.size (.lst (ns.map V.int))) { s with heap := sortedHeap (s1.heap.push (seqObj "list" vs.toArray 0)) s1.heap.objs.size vs out.toArray, gens := s1.gens, drawn := s1.drawn, toks := s1.toks } :=
      I.call (ch := []) (Un.laid k hz hpn) (I.hok.laid k hz ⟨hlen, out, c, hvals, hc2⟩) (by show AllBare s1.gens; rw [g1]; exact I.bare) (fun _ z => nomatch z)
    have es : ({ s1 with heap := sortedHeap (s1.heap.push (seqObj "list" vs.toArray 0)) s1.heap.objs.size vs out.toArray } : Shared) = { s with heap := sortedHeap (s1.heap.push (seqObj "list" vs.toArray 0)) s1.heap.objs.size vs out.toArray, gens := s1.gens, drawn := s1.drawn, toks := s1.toks } := by
      cases s1
      cases s
      cases o1
      rfl
    rw [es]
    exact ⟨.ref s1.heap.objs.size, _, J, rfl, q ns s1.heap.objs.size lt (fun k => by rw [pn.mem_iff, ← hm k]) hnl hpn⟩
/-! ### the level cover -/
def insU (x : Int) : List Int → List Int
  | [] => [x]
  | y :: r => if x < y then x :: y :: r else if x = y then y :: r else y :: insU x r
theorem insU_mem (x : Int) : ∀ (l : List Int) (z : Int), z ∈ insU x l ↔ z = x ∨ z ∈ l
  | [], z => by unfold insU; simp
  | y :: r, z => by
    unfold insU
    split
    · simp
    · split
      · rename_i h
        subst h
        simp
      · rw [List.mem_cons, insU_mem x r z, List.mem_cons]
        constructor
        · rintro (h | h | h)
          · exact .inr (.inl h)
          · exact .inl h
          · exact .inr (.inr h)
        · rintro (h | h | h)
          · exact .inr (.inl h)
          · exact .inl h
          · exact .inr (.inr h)
theorem insU_up (x : Int) : ∀ {l : List Int}, l.Pairwise (· < ·) → (insU x l).Pairwise (· < ·)
  | [], _ => List.pairwise_singleton _ _
  | y :: r, h => by
    obtain ⟨h1, h2⟩ := List.pairwise_cons.mp h
    unfold insU
    split
    · rename_i q
      refine List.pairwise_cons.mpr ⟨fun z hz => ?_, h⟩
      rcases List.mem_cons.mp hz with e | e
      · rw [e]; exact q
      · exact Int.lt_trans q (h1 z e)
    · split
      · exact h
      · refine List.pairwise_cons.mpr ⟨fun z hz => ?_, insU_up x h2⟩
        rcases (insU_mem x r z).mp hz with e | e
        · rw [e]; omega
        · exact h1 z e
/-- the different numbers of a list, ascending -/
def boundsI (l : List Int) : List Int := l.foldr insU []
theorem bounds_mem : ∀ (l : List Int) (z : Int), z ∈ boundsI l ↔ z ∈ l
  | [], z => Iff.rfl
  | x :: r, z => by
    show z ∈ insU x (boundsI r) ↔ _
    rw [insU_mem, bounds_mem r z, List.mem_cons]
theorem bounds_up : ∀ l : List Int, (boundsI l).Pairwise (· < ·)
  | [] => List.Pairwise.nil
  | x :: r => insU_up x (bounds_up r)
theorem up_nodup {l : List Int} (h : l.Pairwise (· < ·)) : l.Nodup := h.imp fun {a b} z e => by omega
theorem up_eq {a b : List Int} (ha : a.Pairwise (· < ·)) (hb : b.Pairwise (· < ·)) (h : ∀ z, z ∈ a ↔ z ∈ b) : a = b :=
  List.Perm.eq_of_pairwise (le := fun x y : Int => x < y) (fun x y _ _ h1 h2 => by omega) ha hb ((List.perm_ext_iff_of_nodup (up_nodup ha) (up_nodup hb)).mpr fun z => h z)
theorem insU_len (x : Int) : ∀ l : List Int, (insU x l).length ≤ l.length + 1
  | [] => Nat.le_refl _
  | y :: r => by
    have := insU_len x r
    unfold insU
    split
    · exact Nat.le_refl _
    · split
      · exact Nat.le_succ _
      · rw [List.length_cons, List.length_cons]; omega
theorem bounds_len : ∀ l : List Int, (boundsI l).length ≤ l.length
  | [] => Nat.le_refl _
  | x :: r => by
    have a := insU_len x (boundsI r)
    have b := bounds_len r
    show (insU x (boundsI r)).length ≤ _
    rw [List.length_cons]; omega
/-- the runs between bounds that follow each other -/
def runsOf (ids : List Int) (tp fl : Int → Int) (b : List Int) : List (Int × List Int) := (b.zip (b.drop 1)).map fun e => (e.2 - e.1, ids.filter fun x => decide (fl x ≤ e.1) && decide (e.2 ≤ tp x))
def covF (ids : List Int) (tp fl : Int → Int) : List (Int × List Int) := runsOf ids tp fl (boundsI (ids.map fl ++ ids.map tp))
theorem cov_len (ids : List Int) (tp fl : Int → Int) : (covF ids tp fl).length ≤ 2 * ids.length := by
  unfold covF runsOf
  have := bounds_len (ids.map fl ++ ids.map tp)
  rw [List.length_append, List.length_map, List.length_map] at this
  rw [List.length_map, List.length_zip]
  omega
theorem cov_sub {ids : List Int} {tp fl : Int → Int} {r : Int × List Int} (h : r ∈ covF ids tp fl) : r.2.Sublist ids := by
  unfold covF runsOf at h
  obtain ⟨e, _, rfl⟩ := List.mem_map.mp h
  exact List.filter_sublist
/-! ### runs in the heap -/
def RunAt (H : Hp) (v : V) (r : Int × List Int) : Prop := ∃ t u, v = .ref t ∧ H t = some (.tup [.int r.1, .ref u]) ∧ H u = some (.tup (r.2.map V.int))
theorem RunAt.same {H H' : Hp} {v : V} {r : Int × List Int} (s : Same H H') (h : RunAt H v r) : RunAt H' v r := by
  obtain ⟨t, u, e, h1, h2⟩ := h
  exact ⟨t, u, e, s _ _ h1, s _ _ h2⟩
theorem RunAt.put {H : Hp} {v : V} {r : Int × List Int} {q : Addr} {xs : List V} {o : HO} (hq : H q = some (.lst xs)) (h : RunAt H v r) : RunAt (upd H q o) v r := by
  obtain ⟨t, u, e, h1, h2⟩ := h
  exact ⟨t, u, e, by rw [upd_ne (ne_of h1 hq (fun z => by cases z))]; exact h1, by rw [upd_ne (ne_of h2 hq (fun z => by cases z))]; exact h2⟩
def RunsAt (H : Hp) (q : Addr) (rs : List (Int × List Int)) : Prop := ∃ vs : List V, H q = some (.lst vs) ∧ vs.length = rs.length ∧ ∀ (i : Nat) (v : V) (r : Int × List Int), vs[i]? = some v → rs[i]? = some r → RunAt H v r
theorem RunsAt.nil {H : Hp} {q : Addr} (h : H q = some (.lst [])) : RunsAt H q [] := ⟨[], h, rfl, fun i v r e => by simp at e⟩
theorem RunsAt.same {H H' : Hp} {q : Addr} {rs : List (Int × List Int)} (s : Same H H') (h : RunsAt H q rs) : RunsAt H' q rs := by
  obtain ⟨vs, h1, h2, h3⟩ := h
  exact ⟨vs, s _ _ h1, h2, fun i v r e1 e2 => (h3 i v r e1 e2).same s⟩
theorem RunsAt.push {H : Hp} {q : Addr} {rs : List (Int × List Int)} {v : V} {r : Int × List Int} (h : RunsAt H q rs) (hv : RunAt H v r) : ∃ vs, H q = some (.lst vs) ∧ vs.length = rs.length ∧ RunsAt (upd H q (.lst (vs ++ [v]))) q (rs ++ [r]) := by
  obtain ⟨vs, h1, h2, h3⟩ := h
  refine ⟨vs, h1, h2, vs ++ [v], upd_same, by rw [List.length_append, List.length_append, h2]; rfl, fun i w t e1 e2 => ?_⟩
  by_cases hi : i < vs.length
  · rw [List.getElem?_append_left hi] at e1
    rw [List.getElem?_append_left (by omega)] at e2
    exact (h3 i w t e1 e2).put h1
  · rw [List.getElem?_append_right (by omega)] at e1
    rw [List.getElem?_append_right (by omega)] at e2
    have hj : i - vs.length = 0 := by
      cases z : i - vs.length with
      | zero => rfl
      | succ m => rw [z] at e1; simp at e1
    rw [hj] at e1
    rw [show i - rs.length = 0 by omega] at e2
    simp at e1 e2
    subst e1; subst e2
    exact hv.put h1
/-! ### _law_behind, _law_conflicts -/
def stepC41 (xs ys zs m1 m2 : List Int) (acc : List Int) (x : Int) : List Int :=
  (acc ++ (if (x ∈ m1 ∧ x ∈ m2) ∧ prevF ys x ≠ prevF zs x then [x] else [])) ++ (if x ∈ xs ∧ (x ∉ ys ∨ x ∉ zs) then [x] else [])
def foundI (xs ys zs m1 m2 : List Int) (l : List Int) : List Int := l.foldl (stepC41 xs ys zs m1 m2) []
theorem found_snoc (xs ys zs m1 m2 l : List Int) (x : Int) : foundI xs ys zs m1 m2 (l ++ [x]) = stepC41 xs ys zs m1 m2 (foundI xs ys zs m1 m2 l) x := by
  unfold foundI
  rw [List.foldl_append]; rfl
theorem found_mem {xs ys zs m1 m2 : List Int} {z : Int} : ∀ l : List Int, z ∈ foundI xs ys zs m1 m2 l ↔ z ∈ l ∧ (((z ∈ m1 ∧ z ∈ m2) ∧ prevF ys z ≠ prevF zs z) ∨ (z ∈ xs ∧ (z ∉ ys ∨ z ∉ zs))) := by
  refine fun l => foldr_snoc (p := fun l => z ∈ foundI xs ys zs m1 m2 l ↔ z ∈ l ∧ (((z ∈ m1 ∧ z ∈ m2) ∧ prevF ys z ≠ prevF zs z) ∨ (z ∈ xs ∧ (z ∉ ys ∨ z ∉ zs)))) ?_ (fun l x ih => ?_) l
  · constructor
    · intro h; cases h
    · rintro ⟨h, _⟩; cases h
  · show z ∈ foundI xs ys zs m1 m2 (l ++ [x]) ↔ z ∈ l ++ [x] ∧ _
    rw [found_snoc]
    unfold stepC41
    have one : ∀ (p : Prop) [Decidable p], z ∈ (if p then [x] else []) ↔ z = x ∧ p := fun p _ => by
      by_cases c : p
      · rw [if_pos c, List.mem_singleton]; exact ⟨fun h => ⟨h, c⟩, fun h => h.1⟩
      · rw [if_neg c]; exact ⟨(fun h => by cases h), fun h => absurd h.2 c⟩
    rw [List.mem_append, List.mem_append, one, one, ih, List.mem_append, List.mem_singleton]
    constructor
    · rintro ((h | ⟨rfl, h⟩) | ⟨rfl, h⟩)
      · exact ⟨.inl h.1, h.2⟩
      · exact ⟨.inr rfl, .inl h⟩
      · exact ⟨.inr rfl, .inr h⟩
    · rintro ⟨h | rfl, q⟩
      · exact .inl (.inl ⟨h, q⟩)
      · rcases q with q | q
        · exact .inl (.inr ⟨rfl, q⟩)
        · exact .inr ⟨rfl, q⟩
theorem found_len (xs ys zs m1 m2 : List Int) : ∀ l : List Int, (foundI xs ys zs m1 m2 l).length ≤ 2 * l.length := by
  refine fun l => foldr_snoc (p := fun l => (foundI xs ys zs m1 m2 l).length ≤ 2 * l.length) (Nat.le_refl _) (fun l x ih => ?_) l
  show (foundI xs ys zs m1 m2 (l ++ [x])).length ≤ 2 * (l ++ [x]).length
  rw [found_snoc]
  unfold stepC41
  have one : ∀ (p : Prop) [Decidable p], (if p then [x] else []).length ≤ 1 := fun p _ => by split <;> simp
  have a := one ((x ∈ m1 ∧ x ∈ m2) ∧ prevF ys x ≠ prevF zs x)
  have b := one (x ∈ xs ∧ (x ∉ ys ∨ x ∉ zs))
  rw [List.length_append, List.length_append, List.length_append, List.length_cons, List.length_nil]
  omega
/-- two rising lists of the same numbers are the same -/
theorem rise_eq : ∀ {a b : List Int}, a.Pairwise (· < ·) → b.Pairwise (· < ·) → (∀ z, z ∈ a ↔ z ∈ b) → a = b
  | [], [], _, _, _ => rfl
  | [], y :: b, _, _, h => by have := (h y).mpr List.mem_cons_self; cases this
  | x :: a, [], _, _, h => by have := (h x).mp List.mem_cons_self; cases this
  | x :: a, y :: b, ha, hb, h => by
    rw [List.pairwise_cons] at ha hb
    have e : x = y := by
      have h1 := (h x).mp List.mem_cons_self
      have h2 := (h y).mpr List.mem_cons_self
      rcases List.mem_cons.mp h1 with e | q1
      · exact e
      · rcases List.mem_cons.mp h2 with e | q2
        · exact e.symm
        · have := hb.1 x q1
          have := ha.1 y q2
          omega
    subst e
    congr 1
    refine rise_eq ha.2 hb.2 fun z => ?_
    constructor
    · intro hz
      rcases List.mem_cons.mp ((h z).mp (List.mem_cons_of_mem _ hz)) with e | q
      · have := ha.1 z hz
        omega
      · exact q
    · intro hz
      rcases List.mem_cons.mp ((h z).mpr (List.mem_cons_of_mem _ hz)) with e | q
      · have := hb.1 z hz
        omega
      · exact q
theorem conf_nod {xs ys zs : List Int} {wo : Option (List (Int × Int))} (ny : ys.Nodup) (nz : zs.Nodup) : (confL xs ys zs wo).Nodup := by
  have n1 : (movedI xs ys wo).Nodup := ny.filter _
  have n2 : (movedI xs zs wo).Nodup := nz.filter _
  have i1 : ∀ x ∈ movedI xs ys wo, x ∈ ys := fun x hx => (List.mem_filter.mp hx).1
  have i2 : ∀ x ∈ movedI xs zs wo, x ∈ zs := fun x hx => (List.mem_filter.mp hx).1
  have dm : ∀ {a b : List Int} {x : Int}, x ∈ dropI a b ↔ x ∈ a ∧ x ∉ b := fun {a b x} => by unfold dropI; rw [List.mem_filter, decide_eq_true_iff]
  unfold confL
  refine List.nodup_append.mpr ⟨List.nodup_append.mpr ⟨(n1.filter _).filter _, (n1.filter _).filter _, ?_⟩, (n2.filter _).filter _, ?_⟩
  · intro x hx y hy e
    subst e
    have h1 := (keep_mem.mp (List.mem_filter.mp hx).1).2
    exact (dm.mp hy).2 (i2 x h1)
  · intro x hx y hy e
    subst e
    obtain ⟨h1, h2⟩ := dm.mp hy
    have h3 := i2 x (keep_mem.mp h1).1
    rcases List.mem_append.mp hx with q | q
    · exact h2 (i1 x (keep_mem.mp (List.mem_filter.mp q).1).1)
    · exact (dm.mp q).2 h3
theorem conf_mem {xs ys zs : List Int} {wo : Option (List (Int × Int))} {z : Int} : z ∈ confL xs ys zs wo ↔ z ∈ foundI xs ys zs (movedI xs ys wo) (movedI xs zs wo) (movedI xs ys wo ++ movedI xs zs wo) := by
  have i1 : ∀ x ∈ movedI xs ys wo, x ∈ ys := fun x hx => (List.mem_filter.mp hx).1
  have i2 : ∀ x ∈ movedI xs zs wo, x ∈ zs := fun x hx => (List.mem_filter.mp hx).1
  have dm : ∀ {a b : List Int} {x : Int}, x ∈ dropI a b ↔ x ∈ a ∧ x ∉ b := fun {a b x} => by unfold dropI; rw [List.mem_filter, decide_eq_true_iff]
  rw [found_mem]
  unfold confL apartI
  rw [List.mem_append, List.mem_append, List.mem_filter, decide_eq_true_iff, keep_mem, dm, dm, keep_mem, keep_mem, List.mem_append]
  constructor
  · rintro ((⟨⟨h1, h2⟩, h3⟩ | ⟨⟨h1, h2⟩, h3⟩) | ⟨⟨h1, h2⟩, h3⟩)
    · exact ⟨.inl h1, .inl ⟨⟨h1, h2⟩, h3⟩⟩
    · exact ⟨.inl h1, .inr ⟨h2, .inr h3⟩⟩
    · exact ⟨.inr h1, .inr ⟨h2, .inl h3⟩⟩
  · rintro ⟨hm, ⟨⟨h1, h2⟩, h3⟩ | ⟨h1, h2⟩⟩
    · exact .inl (.inl ⟨⟨h1, h2⟩, h3⟩)
    · rcases hm with hm | hm
      · rcases h2 with h2 | h2
        · exact absurd (i1 z hm) h2
        · exact .inl (.inr ⟨⟨hm, h1⟩, h2⟩)
      · rcases h2 with h2 | h2
        · exact .inr ⟨⟨hm, h1⟩, h2⟩
        · exact absurd (i2 z hm) h2
theorem conf_sort {xs ys zs : List Int} {wo : Option (List (Int × Int))} (ny : ys.Nodup) (nz : zs.Nodup) : (confL xs ys zs wo).mergeSort leJ = boundsI (foundI xs ys zs (movedI xs ys wo) (movedI xs zs wo) (movedI xs ys wo ++ movedI xs zs wo)) := by
  have nd := conf_nod (xs := xs) (wo := wo) ny nz
  have hs := List.pairwise_mergeSort (le := leJ) (fun a b c x y => decide_eq_true (Int.le_trans (of_decide_eq_true x) (of_decide_eq_true y))) (fun a b => by
    unfold leJ
    rw [Bool.or_eq_true, decide_eq_true_iff, decide_eq_true_iff]
    omega) (confL xs ys zs wo)
  have hp := List.mergeSort_perm (confL xs ys zs wo) leJ
  have nd2 := hp.nodup_iff.mpr nd
  refine rise_eq ?_ (bounds_up _) fun z => ?_
  · refine (hs.and nd2).imp fun {a b} h => ?_
    have h1 := of_decide_eq_true h.1
    have h2 : a ≠ b := h.2
    omega
  · rw [hp.mem_iff, bounds_mem]
    exact conf_mem
theorem prev_at {ids : List Int} {x : Int} (h : x ∈ ids) : (0 < ids.idxOf x → ids[ids.idxOf x - 1]? = some (prevF ids x)) ∧ (ids.idxOf x = 0 → prevF ids x = 0) := by
  have hi := List.idxOf_lt_length_of_mem h
  unfold prevF befor
  refine ⟨fun h0 => ?_, fun h0 => by rw [h0]; rfl⟩
  obtain ⟨m, hm⟩ : ∃ m, ids.idxOf x = m + 1 := ⟨ids.idxOf x - 1, by omega⟩
  rw [hm, List.getElem?_cons_succ, Nat.add_sub_cancel, List.getElem?_eq_getElem (by omega)]; rfl
section
variable {P : Program} {w : World} {K : PySem.W.Frag} {mg : Str → Option Value} {base : Heap}
def spBehind (K : PySem.W.Frag) : Sp := fun vs H Q _ => ∃ (o : Addr) (ids : List Int) (x : Int), vs = [.ref o, .int x] ∧ SqL K H o (ids.map V.int) ∧ x ∈ ids ∧ Q (.int (prevF ids x)) H
theorem scBehind : FnScope ["order", "row", "at"] ["order", "row"] (defScope sBehind) := ⟨rfl, rfl, rfl, by decide +kernel, rfl, by decide +kernel, by decide +kernel⟩
theorem ok_behind {f : Addr} {fd : FuncData} (F : Fun K "_law_behind" "_law_behind" sBehind f fd) : FnOk P w K mg base CX0 1 f fd ["order", "row"] (spBehind K) := by
  refine F.ok scBehind (fun vs H Q E h => ?_) (fun cdv A outer s H vs Q E hr h => ?_)
  · obtain ⟨o, ids, x, rfl, _⟩ := h
    rfl
  · obtain ⟨o, ids, x, rfl, ho, hx, k⟩ := h
    refine ⟨_, pss_cons (ps_set (i := 2) scBehind.nd rfl (Or.inl rfl) (pe_bm PySem.F.plainAttrs_list PySem.F.slot_list_index PySem.F.type_list_index mt_index (pv 0) (pa_cons (pv 1) pa_nil)))
      (pss_one (ps_ret (pe_ifExp (pt_cmpR op_gt (pv 2) pe_int (nomark _)) (pe_ix ix_list (pv 0) (pe_op op_sub (pv 2) pe_int) (fun _ _ => rfl)) pe_int))), ?_⟩
    refine ⟨_, rfl, .inl ⟨rfl, _, ho⟩, _, rfl, o, _, .int x, ids.idxOf x, .int x, rfl, rfl, ho, rfl, all_flat ids, ix1 hx, ix2 x, ix3, ?_⟩
    obtain ⟨h1, h2⟩ := prev_at hx
    refine ⟨_, rfl, _, _, rfl, rfl, _, rfl, ite2 (fun c => ?_) (fun c => ?_)⟩
    · have c := of_decide_eq_true c
      have c0 : 0 < ids.idxOf x := by omega
      have e : ((ids.idxOf x : Nat) : Int) - 1 = ((ids.idxOf x - 1 : Nat) : Int) := by omega
      refine ⟨_, rfl, _, rfl, _, _, rfl, rfl, o, _, _, _, rfl, rfl, ho, ?_, k⟩
      rw [e]
      exact atI_nat (by rw [List.getElem?_map, h1 c0]; rfl)
    · have c0 : ids.idxOf x = 0 := by
        have : ¬ (0 : Int) < ((ids.idxOf x : Nat) : Int) := fun z => c (decide_eq_true z)
        omega
      rw [h2 c0] at k
      exact k
def spLawC (K : PySem.W.Frag) : Sp := fun vs H Q _ => ∃ (a b c : Addr) (v : V) (xs ys zs : List Int) (wo : Option (List (Int × Int))), vs = [.ref a, .ref b, .ref c, v] ∧ SqL K H a (xs.map V.int) ∧ SqL K H b (ys.map V.int) ∧ SqL K H c (zs.map V.int) ∧ WtAt H v wo ∧
  xs.length ≤ 12 ∧ ys.length ≤ 12 ∧ zs.length ≤ 12 ∧ xs.Nodup ∧ ys.Nodup ∧ zs.Nodup ∧ (∀ x, 1 ≤ wtI wo x) ∧
  ∀ (q : Addr) (H' : Hp), Same H H' → H q = none → H' q = some (.lst (((confL xs ys zs wo).mergeSort leJ).map V.int)) → Q (.ref q) H'
abbrev NLc : List Str := ["start", "first", "second", "scale", "left", "right", "found", "row", "both"]
theorem scLawC : FnScope NLc ["start", "first", "second", "scale"] (defScope sLawConf) := ⟨rfl, rfl, rfl, by decide +kernel, rfl, by decide +kernel, by decide +kernel⟩
theorem ok_lawC {f fM fB : Addr} {fd fdM fdB : FuncData} (F : Fun K "_law_conflicts" "_law_conflicts" sLawConf f fd) (Ts : mg "sorted" = none) (Tt : mg "set" = none)
    (GM : FnOk P w K mg base CX0 3 fM fdM ["start", "side", "scale"] (spMoved K)) (kM : PySem.W.keepIn K (.ref fM) = true) (bM : L2.Binds K fdM ["start", "side", "scale"] []) (mM : mg "_law_moved" = some (.ref fM))
    (GB : FnOk P w K mg base CX0 1 fB fdB ["order", "row"] (spBehind K)) (kB : PySem.W.keepIn K (.ref fB) = true) (bB : L2.Binds K fdB ["order", "row"] []) (mB : mg "_law_behind" = some (.ref fB)) :
    FnOk P w K mg base CX0 4 f fd ["start", "first", "second", "scale"] (spLawC K) := by
  refine F.ok scLawC (fun vs H Q E h => ?_) (fun cdv A outer s H vs Q E hr h => ?_)
  · obtain ⟨a, b, c, v, xs, ys, zs, wo, rfl, _⟩ := h
    rfl
  · obtain ⟨a, b, c, v, xs, ys, zs, wo, rfl, ha, hb, hc, hw, lx, ly, lz, nx, ny, nz, hw1, k⟩ := h
    have hr1 : Room 1 _ := hr.mono (by decide)
    have h64 := hu64 hr
    refine ⟨_, pss_cons (ps_par (i := 4) (j := 5) (by rfl) scLawC.nd rfl rfl (by decide) rfl rfl (pa_cons (pe_call GM hr rfl mM kM bM .nil pass0 (pa_cons (pv 0) (pa_cons (pv 1) (pa_cons (pv 3) pa_nil)))) (pa_cons (pe_call GM hr rfl mM kM bM .nil pass0 (pa_cons (pv 0) (pa_cons (pv 2) (pa_cons (pv 3) pa_nil)))) pa_nil)) (by rfl))
      (pss_cons (ps_set (i := 6) scLawC.nd rfl (Or.inl rfl) (pe_lst pa_nil))
      (pss_cons (ps_for PassesOwn.never rfl (pi_list (pe_op op_cat (pv 4) (pv 5))) (pg_name (i := 7) scLawC.nd rfl (Or.inl rfl))
        (pss_cons (ps_set (i := 8) scLawC.nd rfl (Or.inl rfl) (pe_and (pe_cmpR op_in_seq (pv 7) (pv 4) (by rfl)) (pe_one (pe_cmpR op_in_seq (pv 7) (pv 5) (by rfl)))))
        (pss_cons (ps_if (PW.pt (pw_and (pt_val (pv 8)) (pw_and1 (pt_cmpR op_ne (pe_call GB hr1 rfl mB kB bB .nil pass0 (pa_cons (pv 1) (pa_cons (pv 7) pa_nil))) (pe_call GB hr1 rfl mB kB bB .nil pass0 (pa_cons (pv 2) (pa_cons (pv 7) pa_nil))) (nomark _)))))
          (pss_one (ps_expr (pe_bm PySem.F.plainAttrs_list PySem.F.slot_list_append PySem.F.type_list_append mt_append (pv 6) (pa_cons (pv 7) pa_nil)))) pss_nil)
        (pss_one (ps_if (PW.pt (pw_and (pt_cmpR op_in_seq (pv 7) (pv 0) (by rfl)) (pw_and1 (PW.pt (pw_or (pt_cmpR op_notIn_seq (pv 7) (pv 1) (by rfl)) (pw_or1 (pt_cmpR op_notIn_seq (pv 7) (pv 2) (by rfl))))))))
          (pss_one (ps_expr (pe_bm PySem.F.plainAttrs_list PySem.F.slot_list_append PySem.F.type_list_append mt_append (pv 6) (pa_cons (pv 7) pa_nil)))) pss_nil)))))
      (pss_one (ps_ret (pe_callB (cr_sortS rfl h64) (by rfl) Ts (by decide +kernel) (pa_cons (pe_callTy (cr_setL rfl) (by rfl) Tt (by decide +kernel) (pa_cons (pv 6) pa_nil)) pa_nil)))))), ?_⟩
    have h16 : sizeLine = 16777216 := sizeLine_eq
    refine ⟨_, rfl, _, rfl, _, rfl, a, b, v, xs, ys, wo, rfl, ha, hb, hw, lx, ly, nx, ny, hw1, fun q1 H1 s1 hq1 hM1 => ?_⟩
    refine ⟨_, rfl, _, rfl, _, rfl, a, c, v, xs, zs, wo, rfl, s1.seq ha, s1.seq hc, hw.same s1, lx, lz, nx, nz, hw1, fun q2 H2 s2 hq2 hM2 => ?_⟩
    refine ⟨_, _, rfl, ?_⟩
    have s12 := s1.trans s2
    have hM1' := s2 _ _ hM1
    have ec := conf_sort (xs := xs) (ys := ys) (zs := zs) (wo := wo) ny nz
    have i1 : ∀ x ∈ movedI xs ys wo, x ∈ ys := fun x hx => (List.mem_filter.mp hx).1
    have i2 : ∀ x ∈ movedI xs zs wo, x ∈ zs := fun x hx => (List.mem_filter.mp hx).1
    have l1 : (movedI xs ys wo).length ≤ 12 := Nat.le_trans (List.length_filter_le _ _) ly
    have l2 : (movedI xs zs wo).length ≤ 12 := Nat.le_trans (List.length_filter_le _ _) lz
    rw [ec] at k
    generalize movedI xs ys wo = m1 at hM1 hM1' i1 l1 k
    generalize movedI xs zs wo = m2 at hM2 i2 l2 k
    clear ec
    refine ⟨Nat.zero_le _, fun fo hfo => ?_⟩
    have s3 := Same.new (o := .lst []) hfo
    have hF3 : upd H2 fo (.lst []) fo = some (.lst (([] : List Int).map V.int)) := upd_same
    have hM1s := s3 _ _ hM1'
    have hM2s := s3 _ _ hM2
    have s13 := s12.trans s3
    have hfo0 : H fo = none := Same.free s12 hfo
    have n1 : q1 ≠ fo := ne_of_none hM1' hfo
    have n2 : q2 ≠ fo := ne_of_none hM2 hfo
    generalize (upd H2 fo (.lst []) : Hp) = H3 at s3 hF3 hM1s hM2s s13 ⊢
    refine ⟨_, rfl, _, rfl, q1, q2, _, _, rfl, rfl, hM1s, hM2s, by rw [List.length_map, List.length_map, h16]; omega, fun cc hcc => ?_⟩
    rw [← List.map_append]
    have s4 := Same.new (o := .lst ((m1 ++ m2).map V.int)) hcc
    have hC4 : upd H3 cc (.lst ((m1 ++ m2).map V.int)) cc = some (.lst ((m1 ++ m2).map V.int)) := upd_same
    have ncf : cc ≠ fo := (ne_of_none hF3 hcc).symm
    have hF4 := s4 _ _ hF3
    have hM1t := s4 _ _ hM1s
    have hM2t := s4 _ _ hM2s
    have B4 : But fo H (upd H3 cc (.lst ((m1 ++ m2).map V.int))) := But.of (s13.trans s4)
    generalize (upd H3 cc (.lst ((m1 ++ m2).map V.int)) : Hp) = H4 at s4 hC4 hF4 hM1t hM2t B4 ⊢
    have sq : ∀ {o : Addr} {l : List V} {G : Hp}, SqL K H o l → But fo H G → SqL K G o l := fun {o l G} h B => by
      rcases h with (h | ⟨u, h⟩) | h
      · exact .inl (.inl (B _ _ (ne_of_none h hfo0) h))
      · exact .inl (.inr ⟨u, B _ _ (ne_of_none h hfo0) h⟩)
      · exact .inr h
    refine ⟨cc, rfl, ⟨_, SqL.of hC4⟩, for_list (K := K) (a := cc) (xs := (m1 ++ m2).map V.int) (fun i σ H' => (∃ v7 v8 : Option V, σ = [some (.ref a), some (.ref b), some (.ref c), some v, some (.ref q1), some (.ref q2), some (.ref fo), v7, v8]) ∧ But fo H H' ∧ H' fo = some (.lst ((foundI xs ys zs m1 m2 ((m1 ++ m2).take i)).map V.int)) ∧ H' cc = some (.lst ((m1 ++ m2).map V.int)) ∧ H' q1 = some (.lst (m1.map V.int)) ∧ H' q2 = some (.lst (m2.map V.int)) ∧ i ≤ (m1 ++ m2).length)
      ⟨⟨_, _, rfl⟩, B4, by rw [List.take_zero]; exact hF4, hC4, hM1t, hM2t, Nat.zero_le _⟩ (fun i σ H' _ z => SqL.of z.2.2.2.1) ?_ ?_⟩
    · rintro i y σ H8 hi ⟨⟨v7, v8, rfl⟩, B8, hF8, hC8, hQ1, hQ2, hil⟩
      obtain ⟨x, hx, rfl⟩ := int_at hi
      have hil2 : i < (m1 ++ m2).length := (List.getElem?_eq_some_iff.mp hx).1
      have hxm := List.mem_append.mp (List.mem_of_getElem? hx)
      obtain ⟨acc, hacc⟩ : ∃ acc, acc = foundI xs ys zs m1 m2 ((m1 ++ m2).take i) := ⟨_, rfl⟩
      have hstep : foundI xs ys zs m1 m2 ((m1 ++ m2).take (i + 1)) = stepC41 xs ys zs m1 m2 acc x := by rw [take_snoc hx, found_snoc, hacc]
      have hal : acc.length ≤ 60 := by
        have := found_len xs ys zs m1 m2 ((m1 ++ m2).take i)
        rw [← hacc, List.length_take, List.length_append] at this
        omega
      rw [← hacc] at hF8
      rw [hstep]
      unfold stepC41
      have inx : ∀ l : List Int, (if false = true then !inV (V.int x) (l.map V.int) else inV (V.int x) (l.map V.int)) = decide (x ∈ l) := fun l => inV_int _ _
      have notx : ∀ l : List Int, (if true = true then !inV (V.int x) (l.map V.int) else inV (V.int x) (l.map V.int)) = !decide (x ∈ l) := fun l => by rw [if_pos rfl, inV_int]
      refine ⟨_, rfl, _, rfl, q1, _, rfl, .inl (SqL.of hQ1), rfl, all_flat m1, _, rfl, ?_⟩
      rw [inx]
      obtain ⟨t1, ht1⟩ : ∃ t1, t1 = (if (x ∈ m1 ∧ x ∈ m2) ∧ prevF ys x ≠ prevF zs x then [x] else []) := ⟨_, rfl⟩
      rw [← ht1]
      have step1 : (x ∈ m1 ∧ x ∈ m2) ∧ prevF ys x ≠ prevF zs x ∨ ¬ ((x ∈ m1 ∧ x ∈ m2) ∧ prevF ys x ≠ prevF zs x) := Decidable.em _
      by_cases h1 : x ∈ m1
      · rw [decide_eq_true h1]
        refine iteT ?_
        refine ⟨_, rfl, _, rfl, q2, _, rfl, .inl (SqL.of hQ2), rfl, all_flat m2, ?_⟩
        rw [inx]
        by_cases h2 : x ∈ m2
        · rw [decide_eq_true h2]
          refine ⟨_, rfl, _, rfl, iteT ?_⟩
          refine ⟨_, rfl, _, rfl, b, ys, x, rfl, sq hb B8, i1 x h1, _, rfl, _, rfl, c, zs, x, rfl, sq hc B8, i2 x h2, rfl, _, rfl, ?_⟩
          by_cases g : prevF ys x = prevF zs x
          · have ed : (!decide (V.int (prevF ys x) = V.int (prevF zs x))) = false := by rw [g, decide_eq_true rfl]; rfl
            have e1 : t1 = [] := by rw [ht1]; exact if_neg (fun z => z.2 g)
            have hFG : H8 fo = some (.lst ((acc ++ t1).map V.int)) := by rw [e1, List.append_nil]; exact hF8
            have lG : (acc ++ t1).length ≤ 70 := by rw [e1, List.append_nil]; omega
            rw [ed]
            refine iteF ?_
            refine ⟨_, rfl, _, rfl, a, _, rfl, .inl (sq ha B8), rfl, all_flat xs, _, rfl, ?_⟩
            rw [inx]
            by_cases g0 : x ∈ xs
            · rw [decide_eq_true g0]
              refine iteT ?_
              refine ⟨_, rfl, _, rfl, b, _, rfl, .inl (sq hb B8), rfl, all_flat ys, _, rfl, ?_⟩
              rw [notx]
              by_cases g1 : x ∈ ys
              · rw [decide_eq_true g1]
                refine iteF ?_
                refine ⟨_, rfl, _, rfl, c, _, rfl, .inl (sq hc B8), rfl, all_flat zs, _, rfl, ?_⟩
                rw [notx]
                by_cases g2 : x ∈ zs
                · rw [decide_eq_true g2]
                  refine iteF ?_
                  exact ⟨⟨_, _, rfl⟩, B8, by rw [if_neg (by first | exact fun z => g0 z.1 | exact fun z => z.2.elim (fun q => q g1) (fun q => q g2)), List.append_nil]; exact hFG, hC8, hQ1, hQ2, hil2⟩
                · rw [decide_eq_false g2]
                  refine iteT ?_
                  refine ⟨_, rfl, .inl ⟨rfl, _, SqL.of hFG⟩, _, rfl, fo, _, _, rfl, rfl, hFG, by rw [List.length_map, h16]; omega, ?_⟩
                  exact ⟨⟨_, _, rfl⟩, fun b u hb e => by rw [upd_ne hb]; exact B8 b u hb e, by rw [upd_same, if_pos (by first | exact ⟨g0, .inl g1⟩ | exact ⟨g0, .inr g2⟩)]; exact congrArg (fun z => some (HO.lst z)) (List.map_append (f := V.int) (l₁ := acc ++ t1) (l₂ := [x])).symm, by rw [upd_ne ncf]; exact hC8, by rw [upd_ne n1]; exact hQ1, by rw [upd_ne n2]; exact hQ2, hil2⟩
              · rw [decide_eq_false g1]
                refine iteT (iteT ?_)
                refine ⟨_, rfl, .inl ⟨rfl, _, SqL.of hFG⟩, _, rfl, fo, _, _, rfl, rfl, hFG, by rw [List.length_map, h16]; omega, ?_⟩
                exact ⟨⟨_, _, rfl⟩, fun b u hb e => by rw [upd_ne hb]; exact B8 b u hb e, by rw [upd_same, if_pos (by first | exact ⟨g0, .inl g1⟩ | exact ⟨g0, .inr g2⟩)]; exact congrArg (fun z => some (HO.lst z)) (List.map_append (f := V.int) (l₁ := acc ++ t1) (l₂ := [x])).symm, by rw [upd_ne ncf]; exact hC8, by rw [upd_ne n1]; exact hQ1, by rw [upd_ne n2]; exact hQ2, hil2⟩
            · rw [decide_eq_false g0]
              refine iteF ?_
              exact ⟨⟨_, _, rfl⟩, B8, by rw [if_neg (by first | exact fun z => g0 z.1 | exact fun z => z.2.elim (fun q => q g1) (fun q => q g2)), List.append_nil]; exact hFG, hC8, hQ1, hQ2, hil2⟩
          · have ed : (!decide (V.int (prevF ys x) = V.int (prevF zs x))) = true := by rw [decide_eq_false (fun z => g (V.int.inj z))]; rfl
            have e1 : t1 = [x] := by rw [ht1]; exact if_pos ⟨⟨h1, h2⟩, g⟩
            have lG : (acc ++ t1).length ≤ 70 := by rw [e1, List.length_append, List.length_cons, List.length_nil]; omega
            rw [ed]
            refine iteT ?_
            refine ⟨_, rfl, .inl ⟨rfl, _, SqL.of hF8⟩, _, rfl, fo, _, _, rfl, rfl, hF8, by rw [List.length_map, h16]; omega, ?_⟩
            have BG : But fo H (upd H8 fo (.lst (acc.map V.int ++ [V.int x]))) := fun b u hb e => by rw [upd_ne hb]; exact B8 b u hb e
            have hFG : upd H8 fo (.lst (acc.map V.int ++ [V.int x])) fo = some (.lst ((acc ++ t1).map V.int)) := by rw [upd_same, e1, List.map_append]; rfl
            have hCG : upd H8 fo (.lst (acc.map V.int ++ [V.int x])) cc = some (.lst ((m1 ++ m2).map V.int)) := by rw [upd_ne ncf]; exact hC8
            have hQG1 : upd H8 fo (.lst (acc.map V.int ++ [V.int x])) q1 = some (.lst (m1.map V.int)) := by rw [upd_ne n1]; exact hQ1
            have hQG2 : upd H8 fo (.lst (acc.map V.int ++ [V.int x])) q2 = some (.lst (m2.map V.int)) := by rw [upd_ne n2]; exact hQ2
            generalize (upd H8 fo (.lst (acc.map V.int ++ [V.int x])) : Hp) = G at BG hFG hCG hQG1 hQG2 ⊢
            refine ⟨_, rfl, _, rfl, a, _, rfl, .inl (sq ha BG), rfl, all_flat xs, _, rfl, ?_⟩
            rw [inx]
            by_cases g0 : x ∈ xs
            · rw [decide_eq_true g0]
              refine iteT ?_
              refine ⟨_, rfl, _, rfl, b, _, rfl, .inl (sq hb BG), rfl, all_flat ys, _, rfl, ?_⟩
              rw [notx]
              by_cases g1 : x ∈ ys
              · rw [decide_eq_true g1]
                refine iteF ?_
                refine ⟨_, rfl, _, rfl, c, _, rfl, .inl (sq hc BG), rfl, all_flat zs, _, rfl, ?_⟩
                rw [notx]
                by_cases g2 : x ∈ zs
                · rw [decide_eq_true g2]
                  refine iteF ?_
                  exact ⟨⟨_, _, rfl⟩, BG, by rw [if_neg (by first | exact fun z => g0 z.1 | exact fun z => z.2.elim (fun q => q g1) (fun q => q g2)), List.append_nil]; exact hFG, hCG, hQG1, hQG2, hil2⟩
                · rw [decide_eq_false g2]
                  refine iteT ?_
                  refine ⟨_, rfl, .inl ⟨rfl, _, SqL.of hFG⟩, _, rfl, fo, _, _, rfl, rfl, hFG, by rw [List.length_map, h16]; omega, ?_⟩
                  exact ⟨⟨_, _, rfl⟩, fun b u hb e => by rw [upd_ne hb]; exact BG b u hb e, by rw [upd_same, if_pos (by first | exact ⟨g0, .inl g1⟩ | exact ⟨g0, .inr g2⟩)]; exact congrArg (fun z => some (HO.lst z)) (List.map_append (f := V.int) (l₁ := acc ++ t1) (l₂ := [x])).symm, by rw [upd_ne ncf]; exact hCG, by rw [upd_ne n1]; exact hQG1, by rw [upd_ne n2]; exact hQG2, hil2⟩
              · rw [decide_eq_false g1]
                refine iteT (iteT ?_)
                refine ⟨_, rfl, .inl ⟨rfl, _, SqL.of hFG⟩, _, rfl, fo, _, _, rfl, rfl, hFG, by rw [List.length_map, h16]; omega, ?_⟩
                exact ⟨⟨_, _, rfl⟩, fun b u hb e => by rw [upd_ne hb]; exact BG b u hb e, by rw [upd_same, if_pos (by first | exact ⟨g0, .inl g1⟩ | exact ⟨g0, .inr g2⟩)]; exact congrArg (fun z => some (HO.lst z)) (List.map_append (f := V.int) (l₁ := acc ++ t1) (l₂ := [x])).symm, by rw [upd_ne ncf]; exact hCG, by rw [upd_ne n1]; exact hQG1, by rw [upd_ne n2]; exact hQG2, hil2⟩
            · rw [decide_eq_false g0]
              refine iteF ?_
              exact ⟨⟨_, _, rfl⟩, BG, by rw [if_neg (by first | exact fun z => g0 z.1 | exact fun z => z.2.elim (fun q => q g1) (fun q => q g2)), List.append_nil]; exact hFG, hCG, hQG1, hQG2, hil2⟩
        · rw [decide_eq_false h2]
          refine ⟨_, rfl, _, rfl, iteF ?_⟩
          have e1 : t1 = [] := by rw [ht1]; exact if_neg (fun z => h2 z.1.2)
          have hFG : H8 fo = some (.lst ((acc ++ t1).map V.int)) := by rw [e1, List.append_nil]; exact hF8
          have lG : (acc ++ t1).length ≤ 70 := by rw [e1, List.append_nil]; omega
          refine ⟨_, rfl, _, rfl, a, _, rfl, .inl (sq ha B8), rfl, all_flat xs, _, rfl, ?_⟩
          rw [inx]
          by_cases g0 : x ∈ xs
          · rw [decide_eq_true g0]
            refine iteT ?_
            refine ⟨_, rfl, _, rfl, b, _, rfl, .inl (sq hb B8), rfl, all_flat ys, _, rfl, ?_⟩
            rw [notx]
            by_cases g1 : x ∈ ys
            · rw [decide_eq_true g1]
              refine iteF ?_
              refine ⟨_, rfl, _, rfl, c, _, rfl, .inl (sq hc B8), rfl, all_flat zs, _, rfl, ?_⟩
              rw [notx]
              by_cases g2 : x ∈ zs
              · rw [decide_eq_true g2]
                refine iteF ?_
                exact ⟨⟨_, _, rfl⟩, B8, by rw [if_neg (by first | exact fun z => g0 z.1 | exact fun z => z.2.elim (fun q => q g1) (fun q => q g2)), List.append_nil]; exact hFG, hC8, hQ1, hQ2, hil2⟩
              · rw [decide_eq_false g2]
                refine iteT ?_
                refine ⟨_, rfl, .inl ⟨rfl, _, SqL.of hFG⟩, _, rfl, fo, _, _, rfl, rfl, hFG, by rw [List.length_map, h16]; omega, ?_⟩
                exact ⟨⟨_, _, rfl⟩, fun b u hb e => by rw [upd_ne hb]; exact B8 b u hb e, by rw [upd_same, if_pos (by first | exact ⟨g0, .inl g1⟩ | exact ⟨g0, .inr g2⟩)]; exact congrArg (fun z => some (HO.lst z)) (List.map_append (f := V.int) (l₁ := acc ++ t1) (l₂ := [x])).symm, by rw [upd_ne ncf]; exact hC8, by rw [upd_ne n1]; exact hQ1, by rw [upd_ne n2]; exact hQ2, hil2⟩
            · rw [decide_eq_false g1]
              refine iteT (iteT ?_)
              refine ⟨_, rfl, .inl ⟨rfl, _, SqL.of hFG⟩, _, rfl, fo, _, _, rfl, rfl, hFG, by rw [List.length_map, h16]; omega, ?_⟩
              exact ⟨⟨_, _, rfl⟩, fun b u hb e => by rw [upd_ne hb]; exact B8 b u hb e, by rw [upd_same, if_pos (by first | exact ⟨g0, .inl g1⟩ | exact ⟨g0, .inr g2⟩)]; exact congrArg (fun z => some (HO.lst z)) (List.map_append (f := V.int) (l₁ := acc ++ t1) (l₂ := [x])).symm, by rw [upd_ne ncf]; exact hC8, by rw [upd_ne n1]; exact hQ1, by rw [upd_ne n2]; exact hQ2, hil2⟩
          · rw [decide_eq_false g0]
            refine iteF ?_
            exact ⟨⟨_, _, rfl⟩, B8, by rw [if_neg (by first | exact fun z => g0 z.1 | exact fun z => z.2.elim (fun q => q g1) (fun q => q g2)), List.append_nil]; exact hFG, hC8, hQ1, hQ2, hil2⟩
      · rw [decide_eq_false h1]
        refine iteF ?_
        refine ⟨_, rfl, _, rfl, iteF ?_⟩
        have e1 : t1 = [] := by rw [ht1]; exact if_neg (fun z => h1 z.1.1)
        have hFG : H8 fo = some (.lst ((acc ++ t1).map V.int)) := by rw [e1, List.append_nil]; exact hF8
        have lG : (acc ++ t1).length ≤ 70 := by rw [e1, List.append_nil]; omega
        refine ⟨_, rfl, _, rfl, a, _, rfl, .inl (sq ha B8), rfl, all_flat xs, _, rfl, ?_⟩
        rw [inx]
        by_cases g0 : x ∈ xs
        · rw [decide_eq_true g0]
          refine iteT ?_
          refine ⟨_, rfl, _, rfl, b, _, rfl, .inl (sq hb B8), rfl, all_flat ys, _, rfl, ?_⟩
          rw [notx]
          by_cases g1 : x ∈ ys
          · rw [decide_eq_true g1]
            refine iteF ?_
            refine ⟨_, rfl, _, rfl, c, _, rfl, .inl (sq hc B8), rfl, all_flat zs, _, rfl, ?_⟩
            rw [notx]
            by_cases g2 : x ∈ zs
            · rw [decide_eq_true g2]
              refine iteF ?_
              exact ⟨⟨_, _, rfl⟩, B8, by rw [if_neg (by first | exact fun z => g0 z.1 | exact fun z => z.2.elim (fun q => q g1) (fun q => q g2)), List.append_nil]; exact hFG, hC8, hQ1, hQ2, hil2⟩
            · rw [decide_eq_false g2]
              refine iteT ?_
              refine ⟨_, rfl, .inl ⟨rfl, _, SqL.of hFG⟩, _, rfl, fo, _, _, rfl, rfl, hFG, by rw [List.length_map, h16]; omega, ?_⟩
              exact ⟨⟨_, _, rfl⟩, fun b u hb e => by rw [upd_ne hb]; exact B8 b u hb e, by rw [upd_same, if_pos (by first | exact ⟨g0, .inl g1⟩ | exact ⟨g0, .inr g2⟩)]; exact congrArg (fun z => some (HO.lst z)) (List.map_append (f := V.int) (l₁ := acc ++ t1) (l₂ := [x])).symm, by rw [upd_ne ncf]; exact hC8, by rw [upd_ne n1]; exact hQ1, by rw [upd_ne n2]; exact hQ2, hil2⟩
          · rw [decide_eq_false g1]
            refine iteT (iteT ?_)
            refine ⟨_, rfl, .inl ⟨rfl, _, SqL.of hFG⟩, _, rfl, fo, _, _, rfl, rfl, hFG, by rw [List.length_map, h16]; omega, ?_⟩
            exact ⟨⟨_, _, rfl⟩, fun b u hb e => by rw [upd_ne hb]; exact B8 b u hb e, by rw [upd_same, if_pos (by first | exact ⟨g0, .inl g1⟩ | exact ⟨g0, .inr g2⟩)]; exact congrArg (fun z => some (HO.lst z)) (List.map_append (f := V.int) (l₁ := acc ++ t1) (l₂ := [x])).symm, by rw [upd_ne ncf]; exact hC8, by rw [upd_ne n1]; exact hQ1, by rw [upd_ne n2]; exact hQ2, hil2⟩
        · rw [decide_eq_false g0]
          refine iteF ?_
          exact ⟨⟨_, _, rfl⟩, B8, by rw [if_neg (by first | exact fun z => g0 z.1 | exact fun z => z.2.elim (fun q => q g1) (fun q => q g2)), List.append_nil]; exact hFG, hC8, hQ1, hQ2, hil2⟩
    · rintro σ H8 ⟨⟨v7, v8, rfl⟩, B8, hF8, _⟩
      rw [List.length_map, List.take_length] at hF8
      have lf := found_len xs ys zs m1 m2 (m1 ++ m2)
      rw [List.length_append] at lf
      have sH : Same H H8 := fun b u e => B8 b u (ne_of_none e hfo0) e
      refine ⟨_, rfl, fo, foundI xs ys zs m1 m2 (m1 ++ m2), rfl, SqL.of hF8, by omega, fun q n hq hn => ?_⟩
      have sq1 := Same.new (o := SetO w q (fun j => decide (j ∈ foundI xs ys zs m1 m2 (m1 ++ m2))) n) hq
      refine ⟨q, _, n, rfl, upd_same, by omega, fun ns p hup hmem hnl hp => ?_⟩
      have en : ns = boundsI (foundI xs ys zs m1 m2 (m1 ++ m2)) := rise_eq hup (bounds_up _) fun z => by
        rw [hmem z, decide_eq_true_iff, bounds_mem]
      rw [en]
      exact k p _ (sH.trans (sq1.trans (Same.new hp))) (Same.free (sH.trans sq1) hp) upd_same
end
theorem seqIndex_nat {k n : Nat} (h : k < n) : seqIndex? (k : Int) n = some k := by
  unfold seqIndex?
  have h1 : ¬ ((k : Int) < 0) := by omega
  simp only [h1, if_false]
  have h2 : (decide (0 ≤ (k : Int)) && decide ((k : Int) < (n : Int))) = true := by
    rw [Bool.and_eq_true]
    exact ⟨decide_eq_true (by omega), decide_eq_true (by omega)⟩
  rw [if_pos h2]
  simp
theorem erase_map (js : List Int) (k : Nat) : (js.map V.int).eraseIdx k = (js.eraseIdx k).map V.int := by
  exact L2.erase_mapI js k
section
variable {P : Program} {w : World} {K : PySem.W.Frag} {mg : Str → Option Value} {base : Heap}
/-! ### the things in a drawn sequence -/
def spShuf (K : PySem.W.Frag) : Sp := fun vs H Q _ => ∃ (d t : Addr) (js : List Int), vs = [.ref d, .ref t] ∧ DeckAt H d ∧ SqL K H t (js.map V.int) ∧ js.length ≤ 300 ∧
  ∀ (p : Addr) (ks : List Int) (H' : Hp), H p = none → But d H H' → DeckAt H' d → H' p = some (.lst (ks.map V.int)) → ks.Perm js → Q (.ref p) H'
structure TxtS (mg : Str → Option Value) : Prop where
  len : mg "len" = none
  list : mg "list" = none
theorem scShuf : FnScope ["stream", "ids", "left", "found"] ["stream", "ids"] (defScope sShuf) := ⟨rfl, rfl, rfl, by decide +kernel, rfl, by decide +kernel, by decide +kernel⟩
theorem ok_shuf {f fD : Addr} {fd fdD : FuncData} (F : Fun K "_law_shuffled" "_law_shuffled" sShuf f fd) (T : TxtS mg) (FD : Fun K "_law_draw" "_law_draw" sDraw fD fdD) (bD : L2.Binds K fdD ["stream", "size"] []) (mD : mg "_law_draw" = some (.ref fD)) :
    FnOk P w K mg base CX0 2 f fd ["stream", "ids"] (spShuf K) := by
  have GD : FnOk P w K mg base CX0 1 fD fdD ["stream", "size"] spDraw := ok_draw FD
  refine F.ok scShuf (fun vs H Q E h => ?_) (fun cdv A outer s H vs Q E hr h => ?_)
  · obtain ⟨d, t, js, rfl, _⟩ := h
    rfl
  · obtain ⟨d, t, js, rfl, D, hT, hj, k⟩ := h
    have h64 := hu64 hr
    refine ⟨_, pss_cons (ps_par (i := 2) (j := 3) (by rfl) scShuf.nd rfl rfl (by decide) rfl rfl (pa_cons (pe_callTy call_list_of (by rfl) T.list (by decide +kernel) (pa_cons (pv 1) pa_nil)) (pa_cons (pe_lst pa_nil) pa_nil)) (by rfl))
      (pss_cons (ps_while PassesOwn.never (pt_cmpR (op_neL h64) (pv 2) (pe_lst pa_nil) (nomark _))
        (pss_one (ps_expr (pe_bm PySem.F.plainAttrs_list PySem.F.slot_list_append PySem.F.type_list_append mt_append (pv 3) (pa_cons
          (pe_bm PySem.F.plainAttrs_list PySem.F.slot_list_pop PySem.F.type_list_pop mt_popAt (pv 2) (pa_cons (pe_call GD hr rfl mD FD.kp bD .nil pass0 (pa_cons (pv 0) (pa_cons (pe_callB call_len_seq (by rfl) T.len PySem.boot_len (pa_cons (pv 2) pa_nil)) pa_nil))) pa_nil)) pa_nil)))))
      (pss_one (ps_ret (pv 3)))), ?_⟩
    refine ⟨_, rfl, t, _, rfl, .inl hT, fun l hl => ?_⟩
    have F1 : Fs d H [(l, .lst (js.map V.int))] _ := (Fs.start D).new hl
    refine ⟨Nat.zero_le _, fun r hr' => ⟨_, _, rfl, ?_⟩⟩
    have F2 := F1.new hr' (o := .lst [])
    have hr0 : H r = none := Same.free (Same.new (o := .lst (js.map V.int)) hl) hr'
    have nlr : l ≠ r := ne_of_none F1.g0 hr'
    have nld : l ≠ d := D.ne hl
    have nrd : r ≠ d := D.ne hr0
    refine ⟨fun m σ H' => ∃ (ls fs : List Int), σ = [some (.ref d), some (.ref t), some (.ref l), some (.ref r)] ∧ m = ls.length ∧ (fs ++ ls).Perm js ∧ But d H H' ∧ DeckAt H' d ∧ H' l = some (.lst (ls.map V.int)) ∧ H' r = some (.lst (fs.map V.int)),
      ⟨_, js, [], rfl, rfl, List.Perm.refl _, F2.1, F2.deck, F2.g1, F2.g0⟩, ?_⟩
    rintro m σ H1 ⟨ls, fs, rfl, rfl, hp, B1, D1, hL, hR⟩
    have hlen : fs.length + ls.length = js.length := by have := hp.length_eq; rw [List.length_append] at this; exact this
    refine ⟨_, rfl, Nat.zero_le _, fun q hq => ?_⟩
    have s2 : Same H1 (upd H1 q (.lst [])) := Same.new hq
    refine ⟨l, q, ls, [], rfl, rfl, SqL.of (s2 _ _ hL), SqL.of upd_same, _, rfl, ?_⟩
    by_cases h0 : ls = []
    · subst h0
      refine iteF ?_
      rw [List.append_nil] at hp
      exact ⟨_, rfl, k r fs _ hr0 (B1.trans (But.of s2)) (D1.same s2) (s2 _ _ hR) hp⟩
    · rw [decide_eq_false h0]
      refine iteT ?_
      have hpos : 0 < ls.length := List.length_pos_iff.mpr h0
      refine ⟨fun σ' H' => ∃ m', m' < ls.length ∧ ∃ (ls fs : List Int), σ' = [some (.ref d), some (.ref t), some (.ref l), some (.ref r)] ∧ m' = ls.length ∧ (fs ++ ls).Perm js ∧ But d H H' ∧ DeckAt H' d ∧ H' l = some (.lst (ls.map V.int)) ∧ H' r = some (.lst (fs.map V.int)), fun _ _ z => z, ?_⟩
      have D2 := D1.same s2
      refine ⟨_, rfl, .inl ⟨rfl, _, SqL.of (s2 _ _ hR)⟩, _, rfl, .inl ⟨rfl, _, SqL.of (s2 _ _ hL)⟩, _, rfl, _, rfl, l, _, rfl, .inl (SqL.of (s2 _ _ hL)), d, _, rfl, D2, by rw [List.length_map]; omega, by rw [List.length_map]; omega, fun z H3 z0 z1 D3 B3 => ?_⟩
      rw [List.length_map] at z1
      obtain ⟨i, rfl⟩ : ∃ m : Nat, z = (m : Int) := ⟨z.toNat, by omega⟩
      have hi : i < ls.length := by omega
      have hL3 := B3.lst nld (s2 _ _ hL)
      have hR3 := B3.lst nrd (s2 _ _ hR)
      have hy : ls[i]? = some ls[i] := List.getElem?_eq_getElem hi
      refine ⟨l, _, _, i, .int ls[i], rfl, rfl, hL3, by omega, by omega, seqIndex_nat (by rw [List.length_map]; exact hi), by rw [List.getElem?_map, hy]; rfl, ?_⟩
      rw [erase_map]
      have hR4 : upd H3 l (.lst ((ls.eraseIdx i).map V.int)) r = some (.lst (fs.map V.int)) := by rw [upd_ne nlr.symm]; exact hR3
      refine ⟨r, _, _, rfl, rfl, hR4, by rw [List.length_map]; exact small1000 (by omega), ?_⟩
      have hel : (ls.eraseIdx i).length + 1 = ls.length := by rw [List.length_eraseIdx_of_lt hi]; omega
      refine ⟨(ls.eraseIdx i).length, by omega, ls.eraseIdx i, fs ++ [ls[i]], rfl, rfl, ?_, ?_, ?_, ?_, ?_⟩
      · rw [List.append_assoc]
        exact (List.Perm.append_left fs (L2.erase_perm ls i _ hy)).trans hp
      · intro b o hb e
        have nbl : b ≠ l := ne_of_none e hl
        have nbr : b ≠ r := ne_of_none e hr0
        rw [upd_ne nbr, upd_ne nbl]
        exact B3 b o hb (s2 _ _ (B1 b o hb e))
      · obtain ⟨x, y, hd, rr⟩ := D3
        exact ⟨x, y, by rw [upd_ne nrd.symm, upd_ne nld.symm]; exact hd, rr⟩
      · rw [upd_ne nlr, upd_same]
      · rw [upd_same, List.map_append]; rfl
end
structure TxtI (mg : Str → Option Value) : Prop where
  list : mg "list" = none
  range : mg "range" = none
def someI : List Int := [1, 2, 3, 7, 10, 11, 20, 100, 999, 1000000, 5, 12] ++ (List.range 40).map fun (i : Nat) => 30 + (i : Int)
theorem some_nod : someI.Nodup := by decide +kernel
theorem some_in {z : Int} (h : z ∈ someI) : 1 ≤ z ∧ z ≤ 1000000 ∧ z ≠ 4001 ∧ z ≠ 4002 ∧ z ≠ 4003 ∧ z ≠ 777 := by
  have : ∀ z ∈ someI, 1 ≤ z ∧ z ≤ 1000000 ∧ z ≠ 4001 ∧ z ≠ 4002 ∧ z ≠ 4003 ∧ z ≠ 777 := by decide +kernel
  exact this z h
theorem some_len : someI.length = 52 := by decide +kernel
theorem some_eq : ([.int 1, .int 2, .int 3, .int 7, .int 10, .int 11, .int 20, .int 100, .int 999, .int 1000000, .int 5, .int 12] : List V) ++ rgV 30 70 = someI.map V.int := by
  unfold rgV someI
  rw [List.map_append, List.map_map]
  rfl
section
variable {P : Program} {w : World} {K : PySem.W.Frag} {mg : Str → Option Value} {base : Heap}
def spIds : Sp := fun vs H Q _ => ∃ (d : Addr) (n : Nat), vs = [.ref d, .int n] ∧ DeckAt H d ∧ n ≤ 40 ∧
  ∀ (l : Addr) (js : List Int) (H' : Hp), H l = none → But d H H' → DeckAt H' d → H' l = some (.lst (js.map V.int)) → js.length ≤ n → js.Nodup → (∀ z ∈ js, z ∈ someI) → Q (.ref l) H'
theorem scIds : FnScope ["stream", "most", "some"] ["stream", "most"] (defScope sIds) := ⟨rfl, rfl, rfl, by decide +kernel, rfl, by decide +kernel, by decide +kernel⟩
theorem ok_ids {f fD fS : Addr} {fd fdD fdS : FuncData} (F : Fun K "_law_ids" "_law_ids" sIds f fd) (T : TxtI mg)
    (FD : Fun K "_law_draw" "_law_draw" sDraw fD fdD) (bD : L2.Binds K fdD ["stream", "size"] []) (mD : mg "_law_draw" = some (.ref fD))
    (GS : FnOk P w K mg base CX0 2 fS fdS ["stream", "ids"] (spShuf K)) (kS : PySem.W.keepIn K (.ref fS) = true) (bS : L2.Binds K fdS ["stream", "ids"] []) (mS : mg "_law_shuffled" = some (.ref fS)) :
    FnOk P w K mg base CX0 3 f fd ["stream", "most"] spIds := by
  have GD : FnOk P w K mg base CX0 1 fD fdD ["stream", "size"] spDraw := ok_draw FD
  refine F.ok scIds (fun vs H Q E h => ?_) (fun cdv A outer s H vs Q E hr h => ?_)
  · obtain ⟨d, n, rfl, _⟩ := h
    rfl
  · obtain ⟨d, n, rfl, D, hn, k⟩ := h
    have hr1 : Room 1 _ := hr.mono (by decide)
    refine ⟨_, pss_cons (ps_set (i := 2) scIds.nd rfl (Or.inl rfl) (pe_op op_cat (pe_lst (pa_cons pe_int (pa_cons pe_int (pa_cons pe_int (pa_cons pe_int (pa_cons pe_int (pa_cons pe_int (pa_cons pe_int (pa_cons pe_int (pa_cons pe_int (pa_cons (pe_op op_pow pe_int pe_int) (pa_cons pe_int (pa_cons pe_int pa_nil)))))))))))))
        (pe_listRg rfl rfl T.list (prg_2 rfl T.range pe_int pe_int))))
      (pss_one (ps_ret (pe_call GS hr rfl mS kS bS .nil pass0 (pa_cons (pv 0) (pa_cons (pe_slice sl_list (pe_call GS hr rfl mS kS bS .nil pass0 (pa_cons (pv 0) (pa_cons (pe_slice sl_list (pv 2) po_none (po_some (pe_op op_add (pv 1) pe_int))) pa_nil))) po_none (po_some (pe_call GD hr1 rfl mD FD.kp bD .nil pass0 (pa_cons (pv 0) (pa_cons (pe_op op_add (pv 1) pe_int) pa_nil))))) pa_nil))))), ?_⟩
    have h16 : sizeLine = 16777216 := sizeLine_eq
    refine ⟨_, _, rfl, rfl, ⟨by decide, by decide, by decide⟩, by rw [h16]; show 12 ≤ 16777216; decide, fun p hp => ?_⟩
    show tLstRg _ _ (upd H p (.lst [.int 1, .int 2, .int 3, .int 7, .int 10, .int 11, .int 20, .int 100, .int 999, .int (10 ^ (6 : Int).toNat), .int 5, .int 12])) _
    rw [pow6]
    have s1 := Same.new (o := .lst [.int 1, .int 2, .int 3, .int 7, .int 10, .int 11, .int 20, .int 100, .int 999, .int 1000000, .int 5, .int 12]) hp
    have hP1 : upd H p (.lst [.int 1, .int 2, .int 3, .int 7, .int 10, .int 11, .int 20, .int 100, .int 999, .int 1000000, .int 5, .int 12]) p = some (.lst [.int 1, .int 2, .int 3, .int 7, .int 10, .int 11, .int 20, .int 100, .int 999, .int 1000000, .int 5, .int 12]) := upd_same
    generalize (upd H p (.lst [.int 1, .int 2, .int 3, .int 7, .int 10, .int 11, .int 20, .int 100, .int 999, .int 1000000, .int 5, .int 12]) : Hp) = H1 at s1 hP1 ⊢
    refine ⟨_, _, rfl, rfl, RgOk.of_le (by decide) (by decide) (by decide) (by decide), fun q hq => ?_⟩
    have s2 := Same.new (o := .lst (rgV 30 70)) hq
    have hQ2 : upd H1 q (.lst (rgV 30 70)) q = some (.lst (rgV 30 70)) := upd_same
    have s12 := s1.trans s2
    have hP2 := s2 _ _ hP1
    generalize (upd H1 q (.lst (rgV 30 70)) : Hp) = H2 at s2 hQ2 s12 hP2 ⊢
    refine ⟨p, q, _, _, rfl, rfl, hP2, hQ2, by rw [← List.length_append, some_eq, List.length_map, some_len, h16]; decide, fun c hc => ?_⟩
    rw [some_eq]
    have s3 := Same.new (o := .lst (someI.map V.int)) hc
    have hC3 : upd H2 c (.lst (someI.map V.int)) c = some (.lst (someI.map V.int)) := upd_same
    have s13 := s12.trans s3
    generalize (upd H2 c (.lst (someI.map V.int)) : Hp) = H3 at s3 hC3 s13 ⊢
    have F3 : Fs d H [] H3 := (Fs.start D).same s13
    -- the first so many
    refine ⟨_, rfl, _, rfl, _, rfl, _, rfl, _, _, rfl, rfl, _, rfl, c, _, rfl, SqL.of hC3, fun c4 hc4 => ?_⟩
    rw [show (n : Int) + 3 = ((n + 3 : Nat) : Int) from by omega, cut_to, ← List.map_take]
    have F4 : Fs d H [(c4, .lst ((someI.take (n + 3)).map V.int))] _ := F3.new hc4
    generalize (upd H3 c4 (.lst ((someI.take (n + 3)).map V.int)) : Hp) = H4 at F4 ⊢
    refine ⟨d, c4, someI.take (n + 3), rfl, F4.deck, SqL.of F4.g0, by rw [List.length_take, some_len]; omega, fun x xs H5 hx B5 D5 hX hxp => ?_⟩
    have hxd := F4.deck.ne hx
    have F5 := (F4.step D5 B5).tail.add hX hxd
    refine ⟨_, rfl, _, rfl, _, _, rfl, rfl, d, _, rfl, D5, by omega, by omega, fun m H6 m0 m1 D6 B6 => ?_⟩
    have F6 := F5.step D6 B6
    obtain ⟨m, rfl⟩ : ∃ j : Nat, m = (j : Int) := ⟨m.toNat, by omega⟩
    refine ⟨_, rfl, x, _, rfl, SqL.of F6.g0, fun c7 hc7 => ?_⟩
    rw [cut_to, ← List.map_take]
    have F7 : Fs d H [(c7, .lst ((xs.take m).map V.int)), (x, .lst (xs.map V.int))] _ := F6.new hc7
    generalize (upd H6 c7 (.lst ((xs.take m).map V.int)) : Hp) = H7 at F7 ⊢
    have nx : xs.Nodup := hxp.nodup_iff.mpr (some_nod.sublist (List.take_sublist _ _))
    have hxl : xs.length ≤ 52 := by rw [hxp.length_eq, List.length_take, some_len]; omega
    refine ⟨d, c7, xs.take m, rfl, F7.deck, SqL.of F7.g0, by rw [List.length_take]; omega, fun l js H8 hl B8 D8 hL hjp => ?_⟩
    refine k l js H8 (F7.free hl) (F7.step D8 B8).1 D8 hL ?_ (hjp.nodup_iff.mpr (nx.sublist (List.take_sublist _ _))) fun z hz => ?_
    · rw [hjp.length_eq, List.length_take]
      omega
    · have h1 := List.mem_of_mem_take (hjp.mem_iff.mp hz)
      exact List.mem_of_mem_take (hxp.mem_iff.mp h1)
end
theorem insS_perm {α : Type} (l : List α) (k : Nat) (y : α) : (l.take k ++ [y] ++ l.drop k).Perm (y :: l) := by
  rw [List.append_assoc]
  have := List.perm_middle (a := y) (l₁ := l.take k) (l₂ := l.drop k)
  rw [List.take_append_drop] at this
  exact this
structure TxtN (mg : Str → Option Value) : Prop where
  len : mg "len" = none
  list : mg "list" = none
  range : mg "range" = none
section
variable {P : Program} {w : World} {K : PySem.W.Frag} {mg : Str → Option Value} {base : Heap}
def spNear (K : PySem.W.Frag) : Sp := fun vs H Q _ => ∃ (d t : Addr) (js : List Int), vs = [.ref d, .ref t] ∧ DeckAt H d ∧ SqL K H t (js.map V.int) ∧ js.length ≤ 200 ∧
  ∀ (p : Addr) (ks : List Int) (H' : Hp), H p = none → But d H H' → DeckAt H' d → H' p = some (.lst (ks.map V.int)) → ks.Perm js → Q (.ref p) H'
abbrev NNr : List Str := ["stream", "order", "found", "turn", "row"]
theorem scNear : FnScope NNr ["stream", "order"] (defScope sNear) := ⟨rfl, rfl, rfl, by decide +kernel, rfl, by decide +kernel, by decide +kernel⟩
theorem ok_near {f fD fS : Addr} {fd fdD fdS : FuncData} (F : Fun K "_law_near" "_law_near" sNear f fd) (T : TxtN mg) (FD : Fun K "_law_draw" "_law_draw" sDraw fD fdD) (bD : L2.Binds K fdD ["stream", "size"] []) (mD : mg "_law_draw" = some (.ref fD))
    (GS : FnOk P w K mg base CX0 2 fS fdS ["stream", "ids"] (spShuf K)) (kS : PySem.W.keepIn K (.ref fS) = true) (bS : L2.Binds K fdS ["stream", "ids"] []) (mS : mg "_law_shuffled" = some (.ref fS)) :
    FnOk P w K mg base CX0 3 f fd ["stream", "order"] (spNear K) := by
  have GD : FnOk P w K mg base CX0 1 fD fdD ["stream", "size"] spDraw := ok_draw FD
  refine F.ok scNear (fun vs H Q E h => ?_) (fun cdv A outer s H vs Q E hr h => ?_)
  · obtain ⟨d, t, js, rfl, _⟩ := h
    rfl
  · obtain ⟨d, t, js, rfl, D, hT, hj, k⟩ := h
    have h64 := hu64 hr
    have hr1 : Room 1 _ := hr.mono (by decide)
    refine ⟨_, pss_cons (ps_set (i := 2) scNear.nd rfl (Or.inl rfl) (pe_callTy call_list_of (by rfl) T.list (by decide +kernel) (pa_cons (pv 1) pa_nil)))
      (pss_cons (ps_if (PW.pt (pw_and (pt_cmpR (op_neL h64) (pv 2) (pe_lst pa_nil) (nomark _)) (pw_and1 (pt_cmpR op_eq (pe_call GD hr1 rfl mD FD.kp bD .nil pass0 (pa_cons (pv 0) (pa_cons pe_int pa_nil))) pe_int (nomark _)))))
        (pss_one (ps_ret (pe_call GS hr rfl mS kS bS .nil pass0 (pa_cons (pv 0) (pa_cons (pv 2) pa_nil))))) pss_nil)
      (pss_cons (ps_for PassesOwn.never rfl (pi_range1 rfl T.range (pa_cons (pe_ifExp (pt_cmpR (op_neL h64) (pv 2) (pe_lst pa_nil) (nomark _)) (pe_call GD hr1 rfl mD FD.kp bD .nil pass0 (pa_cons (pv 0) (pa_cons pe_int pa_nil))) pe_int) pa_nil)) (pg_name (i := 3) scNear.nd rfl (Or.inl rfl))
        (pss_cons (ps_set (i := 4) scNear.nd rfl (Or.inl rfl) (pe_bm PySem.F.plainAttrs_list PySem.F.slot_list_pop PySem.F.type_list_pop mt_popAt (pv 2) (pa_cons (pe_call GD hr1 rfl mD FD.kp bD .nil pass0 (pa_cons (pv 0) (pa_cons (pe_callB call_len_seq (by rfl) T.len PySem.boot_len (pa_cons (pv 2) pa_nil)) pa_nil))) pa_nil)))
        (pss_one (ps_expr (pe_bm PySem.F.plainAttrs_list PySem.F.slot_list_insert PySem.F.type_list_insert mt_insert (pv 2) (pa_cons (pe_call GD hr1 rfl mD FD.kp bD .nil pass0 (pa_cons (pv 0) (pa_cons (pe_op op_add (pe_callB call_len_seq (by rfl) T.len PySem.boot_len (pa_cons (pv 2) pa_nil)) pe_int) pa_nil))) (pa_cons (pv 4) pa_nil)))))))
      (pss_one (ps_ret (pv 2))))), ?_⟩
    have h16 : sizeLine = 16777216 := sizeLine_eq
    refine ⟨_, rfl, t, _, rfl, .inl hT, fun l hl => ?_⟩
    have nld := D.ne hl
    have F1 : Fs d H [(l, .lst (js.map V.int))] _ := (Fs.start D).new hl
    generalize (upd H l (.lst (js.map V.int)) : Hp) = H1 at F1 ⊢
    refine ⟨_, rfl, Nat.zero_le _, fun e he => ?_⟩
    have F2 := F1.skip (o := .lst []) he
    have hE : upd H1 e (.lst []) e = some (.lst []) := upd_same
    generalize (upd H1 e (.lst []) : Hp) = H2 at F2 hE ⊢
    refine ⟨l, e, js, [], rfl, rfl, SqL.of F2.g0, SqL.of hE, _, rfl, ?_⟩
    by_cases hne : js = []
    · subst hne
      refine iteF ?_
      refine ⟨_, rfl, Nat.zero_le _, fun e2 he2 => ?_⟩
      have F3 := F2.skip (o := .lst []) he2
      have hE2 : upd H2 e2 (.lst []) e2 = some (.lst []) := upd_same
      refine ⟨l, e2, [], [], rfl, rfl, SqL.of F3.g0, SqL.of hE2, _, rfl, iteF ?_⟩
      refine ⟨0, rfl, by decide, by decide, ?_⟩
      refine for_range (lo := 0) (n := 0) (fun i σ H' => (∃ v3 v4 : Option V, σ = [some (.ref d), some (.ref t), some (.ref l), v3, v4]) ∧ Fs d H [(l, .lst (([] : List Int).map V.int))] H')
        ⟨⟨_, _, rfl⟩, F3⟩ (fun i σ H' hi _ => absurd hi (Nat.not_lt_zero i)) ?_
      rintro σ H' ⟨⟨v3, v4, rfl⟩, F4⟩
      exact ⟨_, rfl, k l [] H' hl F4.1 F4.deck F4.g0 (List.Perm.refl _)⟩
    · rw [decide_eq_false hne]
      refine iteT ?_
      refine ⟨_, rfl, d, 4, rfl, F2.deck, by decide, by decide, fun z H3 z0 z1 D3 B3 => ?_⟩
      have F3 := F2.step D3 B3
      refine ⟨rfl, _, rfl, ite2 (fun c => ?_) (fun c => ?_)⟩
      · exact ⟨_, rfl, _, rfl, d, l, js, rfl, D3, SqL.of F3.g0, by omega, fun p ks H4 hp B4 D4 hP hq => k p ks H4 (F3.free hp) (F3.step D4 B4).1 D4 hP hq⟩
      · refine ⟨_, rfl, Nat.zero_le _, fun e2 he2 => ?_⟩
        have F4 := F3.skip (o := .lst []) he2
        have hE2 : upd H3 e2 (.lst []) e2 = some (.lst []) := upd_same
        generalize (upd H3 e2 (.lst []) : Hp) = H4 at F4 hE2 ⊢
        refine ⟨l, e2, js, [], rfl, rfl, SqL.of F4.g0, SqL.of hE2, _, rfl, ?_⟩
        rw [decide_eq_false hne]
        refine iteT ?_
        refine ⟨_, rfl, d, 4, rfl, F4.deck, by decide, by decide, fun z H5 z0' z1' D5 B5 => ?_⟩
        have F5 := F4.step D5 B5
        obtain ⟨n, rfl⟩ : ∃ m : Nat, z = (m : Int) := ⟨z.toNat, by omega⟩
        have hpos : 0 < js.length := List.length_pos_iff.mpr hne
        refine ⟨(n : Int), rfl, by omega, by omega, ?_⟩
        refine for_range (lo := 0) (n := ((n : Int)).toNat) (fun i σ H' => ∃ (v3 v4 : Option V) (ls : List Int), σ = [some (.ref d), some (.ref t), some (.ref l), v3, v4] ∧ Fs d H [(l, .lst (ls.map V.int))] H' ∧ ls.Perm js)
          ⟨none, none, js, rfl, F5, List.Perm.refl _⟩ ?_ ?_
        · rintro i σ H6 hi ⟨v3, v4, ls, rfl, F6, hp6⟩
          have hl6 := hp6.length_eq
          refine ⟨_, rfl, .inl ⟨rfl, _, SqL.of F6.g0⟩, _, rfl, _, rfl, l, _, rfl, .inl (SqL.of F6.g0), d, _, rfl, F6.deck, by rw [List.length_map]; omega, by rw [List.length_map]; omega, fun z H7 z0 z1 D7 B7 => ?_⟩
          rw [List.length_map] at z1
          obtain ⟨i, rfl⟩ : ∃ m : Nat, z = (m : Int) := ⟨z.toNat, by omega⟩
          have hi : i < ls.length := by omega
          have F7 := F6.step D7 B7
          have hy : ls[i]? = some ls[i] := List.getElem?_eq_getElem hi
          refine ⟨l, _, _, i, .int ls[i], rfl, rfl, F7.g0, by omega, by omega, seqIndex_nat (by rw [List.length_map]; exact hi), by rw [List.getElem?_map, hy]; rfl, ?_⟩
          rw [erase_map]
          have F8 := F7.set0 (o' := .lst ((ls.eraseIdx i).map V.int)) hl
          generalize upd H7 l (.lst ((ls.eraseIdx i).map V.int)) = H8 at F8 ⊢
          have hel : (ls.eraseIdx i).length + 1 = ls.length := by rw [List.length_eraseIdx_of_lt hi]; omega
          refine ⟨_, rfl, .inl ⟨rfl, _, SqL.of F8.g0⟩, _, rfl, _, rfl, l, _, rfl, .inl (SqL.of F8.g0), _, _, rfl, rfl, d, _, rfl, F8.deck, by rw [List.length_map]; omega, by rw [List.length_map]; omega, fun z H9 z0 z1 D9 B9 => ?_⟩
          rw [List.length_map] at z1
          have F9 := F8.step D9 B9
          refine ⟨_, rfl, l, _, z, .int ls[i], rfl, rfl, F9.g0, by rw [List.length_map, h16]; omega, z0, by omega, ?_⟩
          have F10 := F9.set0 (o' := .lst (((ls.eraseIdx i).take z.toNat ++ [ls[i]] ++ (ls.eraseIdx i).drop z.toNat).map V.int)) hl
          refine ⟨_, _, (ls.eraseIdx i).take z.toNat ++ [ls[i]] ++ (ls.eraseIdx i).drop z.toNat, rfl, ?_, ?_⟩
          · rw [List.map_append, List.map_append, List.map_take, List.map_drop] at F10
            rw [List.map_append, List.map_append, List.map_take, List.map_drop]
            exact F10
          · exact (insS_perm _ _ _).trans ((L2.erase_perm ls i _ hy).trans hp6)
        · rintro σ H6 ⟨v3, v4, ls, rfl, F6, hp6⟩
          exact ⟨_, rfl, k l ls H6 hl F6.1 F6.deck F6.g0 hp6⟩
end
def newI : List Int := [4001, 4002, 4003]
theorem int_atS {js : List Int} {i : Nat} {y : V} (h : (js.map V.int)[i]? = some y) : ∃ x, js[i]? = some x ∧ y = .int x := by
  rw [List.getElem?_map] at h
  cases q : js[i]? with
  | none => rw [q] at h; cases h
  | some x => rw [q] at h; exact ⟨x, rfl, (Option.some.inj h).symm⟩
section
variable {P : Program} {w : World} {K : PySem.W.Frag} {mg : Str → Option Value} {base : Heap}
def spSide (K : PySem.W.Frag) : Sp := fun vs H Q _ => ∃ (d t : Addr) (js : List Int), vs = [.ref d, .ref t] ∧ DeckAt H d ∧ SqL K H t (js.map V.int) ∧ js.length ≤ 200 ∧ js.Nodup ∧ (∀ z ∈ js, z ∉ newI) ∧
  ∀ (p : Addr) (ks : List Int) (H' : Hp), H p = none → But d H H' → DeckAt H' d → H' p = some (.lst (ks.map V.int)) → ks.Nodup → (∀ z ∈ ks, z ∈ js ∨ z ∈ newI) → ks.length ≤ js.length + 3 → Q (.ref p) H'
abbrev NSi : List Str := ["stream", "order", "found", "turn", "new"]
theorem scSide : FnScope NSi ["stream", "order"] (defScope sSide) := ⟨rfl, rfl, rfl, by decide +kernel, rfl, by decide +kernel, by decide +kernel⟩
theorem ok_side {f fD fN : Addr} {fd fdD fdN : FuncData} (F : Fun K "_law_side" "_law_side" sSide f fd) (T : TxtN mg) (FD : Fun K "_law_draw" "_law_draw" sDraw fD fdD) (bD : L2.Binds K fdD ["stream", "size"] []) (mD : mg "_law_draw" = some (.ref fD))
    (GN : FnOk P w K mg base CX0 3 fN fdN ["stream", "order"] (spNear K)) (kN : PySem.W.keepIn K (.ref fN) = true) (bN : L2.Binds K fdN ["stream", "order"] []) (mN : mg "_law_near" = some (.ref fN)) :
    FnOk P w K mg base CX0 4 f fd ["stream", "order"] (spSide K) := by
  have GD : FnOk P w K mg base CX0 1 fD fdD ["stream", "size"] spDraw := ok_draw FD
  refine F.ok scSide (fun vs H Q E h => ?_) (fun cdv A outer s H vs Q E hr h => ?_)
  · obtain ⟨d, t, js, rfl, _⟩ := h
    rfl
  · obtain ⟨d, t, js, rfl, D, hT, hj, nj, hnew, k⟩ := h
    have h64 := hu64 hr
    have hr1 : Room 1 _ := hr.mono (by decide)
    refine ⟨_, pss_cons (ps_set (i := 2) scSide.nd rfl (Or.inl rfl) (pe_call GN hr rfl mN kN bN .nil pass0 (pa_cons (pv 0) (pa_cons (pv 1) pa_nil))))
      (pss_cons (ps_for PassesOwn.never rfl (pi_range1 rfl T.range (pa_cons (pe_op op_mul (pe_call GD hr1 rfl mD FD.kp bD .nil pass0 (pa_cons (pv 0) (pa_cons pe_int pa_nil))) (pe_call GD hr1 rfl mD FD.kp bD .nil pass0 (pa_cons (pv 0) (pa_cons pe_int pa_nil)))) pa_nil)) (pg_name (i := 3) scSide.nd rfl (Or.inl rfl))
        (pss_one (ps_if (pt_cmpR (op_neL h64) (pv 2) (pe_lst pa_nil) (nomark _))
          (pss_one (ps_expr (pe_bm PySem.F.plainAttrs_list PySem.F.slot_list_pop PySem.F.type_list_pop mt_popAt (pv 2) (pa_cons (pe_call GD hr1 rfl mD FD.kp bD .nil pass0 (pa_cons (pv 0) (pa_cons (pe_callB call_len_seq (by rfl) T.len PySem.boot_len (pa_cons (pv 2) pa_nil)) pa_nil))) pa_nil)))) pss_nil)))
      (pss_cons (ps_for PassesOwn.never rfl (pi_list (pe_lst (pa_cons pe_int (pa_cons pe_int (pa_cons pe_int pa_nil))))) (pg_name (i := 4) scSide.nd rfl (Or.inl rfl))
        (pss_one (ps_if (pt_cmpR op_eq (pe_call GD hr1 rfl mD FD.kp bD .nil pass0 (pa_cons (pv 0) (pa_cons pe_int pa_nil))) pe_int (nomark _))
          (pss_one (ps_expr (pe_bm PySem.F.plainAttrs_list PySem.F.slot_list_insert PySem.F.type_list_insert mt_insert (pv 2) (pa_cons (pe_call GD hr1 rfl mD FD.kp bD .nil pass0 (pa_cons (pv 0) (pa_cons (pe_op op_add (pe_callB call_len_seq (by rfl) T.len PySem.boot_len (pa_cons (pv 2) pa_nil)) pe_int) pa_nil))) (pa_cons (pv 4) pa_nil))))) pss_nil)))
      (pss_one (ps_ret (pv 2))))), ?_⟩
    have h16 : sizeLine = 16777216 := sizeLine_eq
    refine ⟨_, rfl, _, rfl, d, t, js, rfl, D, hT, hj, fun p ks H1 hp B1 D1 hP hperm => ?_⟩
    have F1 : Fs d H [(p, .lst (ks.map V.int))] H1 := ((Fs.start D).step D1 B1).add hP (D.ne hp)
    have nk : ks.Nodup := hperm.nodup_iff.mpr nj
    have hkj : ∀ z ∈ ks, z ∈ js := fun z hz => hperm.mem_iff.mp hz
    have hkl := hperm.length_eq
    -- some are taken
    refine ⟨_, rfl, d, 3, rfl, D1, by decide, by decide, fun r1 H2 r10 r11 D2 B2 => ?_⟩
    have F2 := F1.step D2 B2
    refine ⟨_, rfl, d, 2, rfl, D2, by decide, by decide, fun r2 H3 r20 r21 D3 B3 => ?_⟩
    have F3 := F2.step D3 B3
    obtain ⟨n1, rfl⟩ : ∃ m : Nat, r1 = (m : Int) := ⟨r1.toNat, by omega⟩
    obtain ⟨n2, rfl⟩ : ∃ m : Nat, r2 = (m : Int) := ⟨r2.toNat, by omega⟩
    have h1 : n1 * n2 ≤ 2 := by
      have : n1 * n2 ≤ 2 * 1 := Nat.mul_le_mul (by omega) (by omega)
      omega
    refine ⟨_, _, rfl, rfl, .inr ⟨by omega, by omega⟩, ?_⟩
    refine ⟨((n1 * n2 : Nat) : Int), by rw [Int.natCast_mul], by omega, by omega, ?_⟩
    refine for_range (lo := 0) (n := (((n1 * n2 : Nat) : Int)).toNat) (fun i σ H' => ∃ (v3 v4 : Option V) (ls : List Int), σ = [some (.ref d), some (.ref t), some (.ref p), v3, v4] ∧ Fs d H [(p, .lst (ls.map V.int))] H' ∧ ls.Nodup ∧ (∀ z ∈ ls, z ∈ js) ∧ ls.length ≤ js.length)
      ⟨none, none, ks, rfl, F3, nk, hkj, by omega⟩ ?_ ?_
    · rintro i σ H4 hi ⟨v3, v4, ls, rfl, F4, nl4, hl4, ll4⟩
      refine ⟨_, rfl, Nat.zero_le _, fun e he => ?_⟩
      have F5 := F4.skip (o := .lst []) he
      have hE : upd H4 e (.lst []) e = some (.lst []) := upd_same
      generalize (upd H4 e (.lst []) : Hp) = H5 at F5 hE ⊢
      refine ⟨p, e, ls, [], rfl, rfl, SqL.of F5.g0, SqL.of hE, _, rfl, ?_⟩
      by_cases h0 : ls = []
      · subst h0
        refine iteF ?_
        exact ⟨_, _, [], rfl, F5, nl4, hl4, ll4⟩
      · rw [decide_eq_false h0]
        refine iteT ?_
        have hpos : 0 < ls.length := List.length_pos_iff.mpr h0
        refine ⟨_, rfl, .inl ⟨rfl, _, SqL.of F5.g0⟩, _, rfl, _, rfl, p, _, rfl, .inl (SqL.of F5.g0), d, _, rfl, F5.deck, by rw [List.length_map]; omega, by rw [List.length_map]; omega, fun z H6 z0 z1 D6 B6 => ?_⟩
        rw [List.length_map] at z1
        obtain ⟨i, rfl⟩ : ∃ m : Nat, z = (m : Int) := ⟨z.toNat, by omega⟩
        have hi : i < ls.length := by omega
        have F6 := F5.step D6 B6
        have hy : ls[i]? = some ls[i] := List.getElem?_eq_getElem hi
        refine ⟨p, _, _, i, .int ls[i], rfl, rfl, F6.g0, by omega, by omega, seqIndex_nat (by rw [List.length_map]; exact hi), by rw [List.getElem?_map, hy]; rfl, ?_⟩
        rw [erase_map]
        have F7 := F6.set0 (o' := .lst ((ls.eraseIdx i).map V.int)) hp
        have hel : (ls.eraseIdx i).length + 1 = ls.length := by rw [List.length_eraseIdx_of_lt hi]; omega
        exact ⟨_, _, ls.eraseIdx i, rfl, F7, nl4.sublist (List.eraseIdx_sublist _ _), fun z hz => hl4 z ((List.eraseIdx_sublist _ _).subset hz), by omega⟩
    · rintro σ H4 ⟨v3, v4, ls, rfl, F4, nl4, hl4, ll4⟩
      -- some are new
      refine ⟨by rw [h16]; show 3 ≤ 16777216; decide, fun q hq => ?_⟩
      have nqd := F4.deck.ne hq
      have nqp : q ≠ p := (ne_of_none F4.g0 hq).symm
      have F5 := F4.skip (o := .lst [V.int 4001, V.int 4002, V.int 4003]) hq
      have hQ : upd H4 q (.lst [V.int 4001, V.int 4002, V.int 4003]) q = some (.lst [V.int 4001, V.int 4002, V.int 4003]) := upd_same
      generalize (upd H4 q (.lst [V.int 4001, V.int 4002, V.int 4003]) : Hp) = H5 at F5 hQ ⊢
      have hQ : H5 q = some (.lst (newI.map V.int)) := hQ
      refine ⟨q, rfl, ⟨_, SqL.of hQ⟩, for_list (K := K) (a := q) (xs := newI.map V.int) (fun i σ H' => ∃ (v3 v4 : Option V) (ls : List Int), σ = [some (.ref d), some (.ref t), some (.ref p), v3, v4] ∧ Fs d H [(p, .lst (ls.map V.int))] H' ∧ H' q = some (.lst (newI.map V.int)) ∧ ls.Nodup ∧ (∀ z ∈ ls, z ∈ js ∨ z ∈ newI.take i) ∧ ls.length ≤ js.length + i ∧ i ≤ 3)
        ⟨_, _, ls, rfl, F5, hQ, nl4, fun z hz => .inl (hl4 z hz), by omega, Nat.zero_le _⟩ (fun i σ H' _ z => by obtain ⟨_, _, _, _, _, z, _⟩ := z; exact SqL.of z) ?_ ?_⟩
      · rintro i y σ H6 hi ⟨v3, v4, ls, rfl, F6, hQ6, nl6, hl6, ll6, hi3⟩
        obtain ⟨x, hx, rfl⟩ := int_atS hi
        have hx3 : i < 3 := (List.getElem?_eq_some_iff.mp hx).1
        have hxn : x ∈ newI := List.mem_of_getElem? hx
        have hxt : x ∉ newI.take i := by
          have : newI.Nodup := by decide
          intro z
          obtain ⟨j, hj, hje⟩ := List.mem_take_iff_getElem.mp z
          have h1 : newI[j]? = some x := by rw [List.getElem?_eq_getElem (by omega)]; exact congrArg some hje
          have := (List.getElem?_inj (by omega) this).mp (h1.trans hx.symm)
          omega
        have hxl : x ∉ ls := fun z => (hl6 x z).elim (fun q => hnew x q hxn) hxt
        refine ⟨_, rfl, d, 5, rfl, F6.deck, by decide, by decide, fun z H7 z0 z1 D7 B7 => ?_⟩
        have F7 := F6.step D7 B7
        have hQ7 := B7 _ _ nqd hQ6
        refine ⟨rfl, _, rfl, ite2 (fun c => ?_) (fun c => ?_)⟩
        · refine ⟨_, rfl, .inl ⟨rfl, _, SqL.of F7.g0⟩, _, rfl, _, rfl, p, _, rfl, .inl (SqL.of F7.g0), _, _, rfl, rfl, d, _, rfl, D7, by rw [List.length_map]; omega, by rw [List.length_map]; omega, fun z H9 z0 z1 D9 B9 => ?_⟩
          rw [List.length_map] at z1
          have F9 := F7.step D9 B9
          have hQ9 := B9 _ _ nqd hQ7
          refine ⟨_, rfl, p, _, z, .int x, rfl, rfl, F9.g0, by rw [List.length_map, h16]; omega, z0, by omega, ?_⟩
          have F10 := F9.set0 (o' := .lst ((ls.take z.toNat ++ [x] ++ ls.drop z.toNat).map V.int)) hp
          have hpm := insS_perm ls z.toNat x
          refine ⟨_, _, ls.take z.toNat ++ [x] ++ ls.drop z.toNat, rfl, ?_, by rw [upd_ne nqp]; exact hQ9, hpm.nodup_iff.mpr (List.nodup_cons.mpr ⟨hxl, nl6⟩), fun u hu => ?_, by rw [hpm.length_eq, List.length_cons]; omega, hx3⟩
          · rw [List.map_append, List.map_append, List.map_take, List.map_drop] at F10
            rw [List.map_append, List.map_append, List.map_take, List.map_drop]
            exact F10
          · rw [take_snoc hx, List.mem_append]
            rcases List.mem_cons.mp (hpm.mem_iff.mp hu) with e | e
            · exact .inr (.inr (List.mem_singleton.mpr e))
            · exact (hl6 u e).imp id .inl
        · refine ⟨_, _, ls, rfl, F7, hQ7, nl6, fun u hu => ?_, by omega, hx3⟩
          rw [take_snoc hx, List.mem_append]
          exact (hl6 u hu).imp id .inl
      · rintro σ H6 ⟨v3, v4, ls, rfl, F6, hQ6, nl6, hl6, ll6, hi3⟩
        exact ⟨_, rfl, k p ls H6 hp F6.1 F6.deck F6.g0 nl6 hl6 ll6⟩
end
/-! ### drawn weights -/
theorem put_pin (ps : List (Int × Int)) (x a : Int) : ∃ qs, putK (pinK ps) (.inl x : Key) (.int a) = pinK qs ∧ (∀ p ∈ qs, p ∈ ps ∨ p = (x, a)) ∧ qs.length ≤ ps.length + 1 ∧ ((ps.map Prod.fst).Nodup → (qs.map Prod.fst).Nodup) := by
  by_cases h : x ∈ ps.map Prod.fst
  · refine ⟨ps.map fun p => if p.1 = x then (x, a) else p, ?_, ?_, ?_, ?_⟩
    · have hv : ((pinK ps).any fun kv => decide (kv.1 = (.inl x : Key))) = true := by
        obtain ⟨p, hp, e⟩ := List.mem_map.mp h
        refine List.any_eq_true.mpr ⟨((.inl p.1 : Key), .int p.2), ?_, decide_eq_true (by rw [e])⟩
        unfold pinK
        exact List.mem_map.mpr ⟨p, hp, rfl⟩
      unfold putK
      rw [if_pos hv]
      unfold pinK
      rw [List.map_map, List.map_map]
      refine List.map_congr_left fun p hp => ?_
      by_cases e : p.1 = x
      · show (if (.inl p.1 : Key) = .inl x then ((.inl p.1 : Key), V.int a) else _) = _
        rw [if_pos (by rw [e])]
        show _ = ((.inl (if p.1 = x then (x, a) else p).1 : Key), V.int (if p.1 = x then (x, a) else p).2)
        rw [if_pos e, e]
      · show (if (.inl p.1 : Key) = .inl x then ((.inl p.1 : Key), V.int a) else _) = _
        rw [if_neg (by intro z; cases z; exact e rfl)]
        show _ = ((.inl (if p.1 = x then (x, a) else p).1 : Key), V.int (if p.1 = x then (x, a) else p).2)
        rw [if_neg e]
    · intro p hp
      obtain ⟨q, hq, e⟩ := List.mem_map.mp hp
      by_cases z : q.1 = x
      · rw [if_pos z] at e; exact .inr e.symm
      · rw [if_neg z] at e; exact .inl (e ▸ hq)
    · rw [List.length_map]; omega
    · intro nd
      have : (ps.map fun p => if p.1 = x then (x, a) else p).map Prod.fst = ps.map Prod.fst := by
        rw [List.map_map]
        refine List.map_congr_left fun p _ => ?_
        show (if p.1 = x then (x, a) else p).1 = p.1
        by_cases e : p.1 = x
        · rw [if_pos e, e]
        · rw [if_neg e]
      rw [this]; exact nd
  · refine ⟨ps ++ [(x, a)], pin_put h, fun p hp => ?_, by rw [List.length_append]; exact Nat.le_refl _, fun nd => ?_⟩
    · rcases List.mem_append.mp hp with e | e
      · exact .inl e
      · exact .inr (List.mem_singleton.mp e)
    · rw [List.map_append]
      refine List.nodup_append.mpr ⟨nd, by simp, ?_⟩
      intro u hu v hv e
      have : v = x := by simpa using hv
      exact h (this ▸ e ▸ hu)
/-- weights that the law draws -/
def LoadsP (ks : List Int) (n : Nat) (most : Int) (ws : List (Int × Int)) : Prop := (ws.map Prod.fst).Nodup ∧ ws.length ≤ n ∧ ∀ p ∈ ws, 1 ≤ p.2 ∧ p.2 ≤ most ∧ p.1 ∈ ks
theorem LoadsP.put {ks : List Int} {n : Nat} {most x a : Int} {ps : List (Int × Int)} (h : LoadsP ks n most ps) (hx : x ∈ ks) (h1 : 1 ≤ a) (h2 : a ≤ most) : ∃ qs, putK (pinK ps) (.inl x : Key) (.int a) = pinK qs ∧ LoadsP ks (n + 1) most qs := by
  obtain ⟨qs, e, q1, q2, q3⟩ := put_pin ps x a
  refine ⟨qs, e, q3 h.1, Nat.le_trans q2 (Nat.succ_le_succ h.2.1), fun p hp => ?_⟩
  rcases q1 p hp with z | z
  · exact h.2.2 p z
  · rw [z]; exact ⟨h1, h2, hx⟩
def LoadsO (ks : List Int) (n : Nat) (most : Int) (wo : Option (List (Int × Int))) : Prop := ∀ ws, wo = some ws → LoadsP ks n most ws
theorem LoadsO.wt {ks : List Int} {n : Nat} {most : Int} {wo : Option (List (Int × Int))} (h : LoadsO ks n most wo) (hm : 1 ≤ most) (x : Int) : 1 ≤ wtI wo x ∧ wtI wo x ≤ most := by
  cases wo with
  | none => exact ⟨Int.le_refl _, hm⟩
  | some ws =>
    show 1 ≤ (anOf ws x).getD 1 ∧ (anOf ws x).getD 1 ≤ most
    cases q : anOf ws x with
    | none => exact ⟨Int.le_refl _, hm⟩
    | some b => exact ⟨((h ws rfl).2.2 _ (an_mem q)).1, ((h ws rfl).2.2 _ (an_mem q)).2.1⟩
structure TxtWs (mg : Str → Option Value) : Prop where
  list : mg "list" = none
section
variable {P : Program} {w : World} {K : PySem.W.Frag} {mg : Str → Option Value} {base : Heap}
def spWeights (K : PySem.W.Frag) : Sp := fun vs H Q _ => ∃ (d t : Addr) (js : List Int), vs = [.ref d, .ref t] ∧ DeckAt H d ∧ t ≠ d ∧ SqL K H t (js.map V.int) ∧ js.length < 300 ∧
  ∀ (v : V) (wo : Option (List (Int × Int))) (H' : Hp), (∀ p, v = .ref p → H p = none) → But d H H' → DeckAt H' d → WtAt H' v wo → LoadsO (js ++ [777]) (js.length + 1) 100 wo → Q v H'
abbrev NWs : List Str := ["stream", "ids", "found", "row"]
theorem scWeights : FnScope NWs ["stream", "ids"] (defScope sWeights) := ⟨rfl, rfl, rfl, by decide +kernel, rfl, by decide +kernel, by decide +kernel⟩
theorem ok_weights {f fD fC : Addr} {fd fdD fdC : FuncData} (F : Fun K "_law_weights" "_law_weights" sWeights f fd) (T : TxtWs mg) (FD : Fun K "_law_draw" "_law_draw" sDraw fD fdD) (bD : L2.Binds K fdD ["stream", "size"] []) (mD : mg "_law_draw" = some (.ref fD))
    (GC : FnOk P w K mg base CX0 2 fC fdC ["stream", "items"] (spChoose K)) (kC : PySem.W.keepIn K (.ref fC) = true) (bC : L2.Binds K fdC ["stream", "items"] []) (mC : mg "_law_choose" = some (.ref fC)) :
    FnOk P w K mg base CX0 3 f fd ["stream", "ids"] (spWeights K) := by
  have GD : FnOk P w K mg base CX0 1 fD fdD ["stream", "size"] spDraw := ok_draw FD
  refine F.ok scWeights (fun vs H Q E h => ?_) (fun cdv A outer s H vs Q E hr h => ?_)
  · obtain ⟨d, t, js, rfl, _⟩ := h
    rfl
  · obtain ⟨d, t, js, rfl, D, ntd, hT, hj, k⟩ := h
    have hu := hu_of hr
    have hr1 : Room 1 _ := hr.mono (by decide)
    refine ⟨_, pss_cons (ps_if (pt_cmpR op_eq (pe_call GD hr1 rfl mD FD.kp bD .nil pass0 (pa_cons (pv 0) (pa_cons pe_int pa_nil))) pe_int (nomark _)) (pss_one (ps_ret pe_non)) pss_nil)
      (pss_cons (ps_set (i := 2) scWeights.nd rfl (Or.inl rfl) pe_dnewK)
      (pss_cons (ps_for PassesOwn.never rfl (pi_list (pe_op op_cat (pe_callTy call_list_of (by rfl) T.list (by decide +kernel) (pa_cons (pv 1) pa_nil)) (pe_lst (pa_cons pe_int pa_nil)))) (pg_name (i := 3) scWeights.nd rfl (Or.inl rfl))
        (pss_one (ps_if (pt_cmpR op_eq (pe_call GD hr1 rfl mD FD.kp bD .nil pass0 (pa_cons (pv 0) (pa_cons pe_int pa_nil))) pe_int (nomark _))
          (pss_one (ps_dput hu (pv 2) (pv 3) (pe_call GC hr rfl mC kC bC .nil pass0 (pa_cons (pv 0) (pa_cons (pe_lst (pa_cons pe_int (pa_cons pe_int (pa_cons pe_int (pa_cons pe_int (pa_cons pe_int (pa_cons pe_int pa_nil))))))) pa_nil))) rfl)) pss_nil)))
      (pss_one (ps_ret (pv 2))))), ?_⟩
    have h16 : sizeLine = 16777216 := sizeLine_eq
    refine ⟨_, rfl, d, 3, rfl, D, by decide, by decide, fun wy H1 w0 w1 D1 B1 => ?_⟩
    refine ⟨rfl, _, rfl, ite2 (fun c => ?_) (fun c => ?_)⟩
    · exact k .non none H1 (fun p z => by cases z) B1 D1 (.inl ⟨rfl, rfl⟩) (fun ws z => by cases z)
    · have F1 : Fs d H [] H1 := (Fs.start D).step D1 B1
      have hT1 := B1.seq ntd hT
      refine fun q hq => ?_
      have hq0 := F1.free hq
      have s1 := Same.new (o := .dK []) hq
      have F2 : Fs d H [(q, .dK (pinK []))] (upd H1 q (.dK [])) := F1.new hq
      generalize upd H1 q (.dK []) = H2 at s1 F2 ⊢
      refine ⟨_, rfl, t, _, rfl, .inl (s1.seq hT1), fun b hb => ?_⟩
      have F3 := F2.skip (o := .lst (js.map V.int)) hb
      have hB : upd H2 b (.lst (js.map V.int)) b = some (.lst (js.map V.int)) := upd_same
      generalize upd H2 b (.lst (js.map V.int)) = H3 at F3 hB ⊢
      refine ⟨by rw [h16]; show 1 ≤ 16777216; decide, fun c hc => ?_⟩
      have F4 := F3.skip (o := .lst [V.int 777]) hc
      have hC : upd H3 c (.lst [V.int 777]) c = some (.lst [V.int 777]) := upd_same
      have hB4 := Same.new (o := .lst [V.int 777]) hc _ _ hB
      generalize upd H3 c (.lst [V.int 777]) = H4 at F4 hC hB4 ⊢
      refine ⟨b, c, _, _, rfl, rfl, hB4, hC, by rw [List.length_map, h16]; show _ + 1 ≤ _; omega, fun cc hcc => ?_⟩
      have ecat : js.map V.int ++ [V.int 777] = (js ++ [777]).map V.int := by rw [List.map_append]; rfl
      rw [ecat]
      have F5 := F4.skip (o := .lst ((js ++ [777]).map V.int)) hcc
      have hCC : upd H4 cc (.lst ((js ++ [777]).map V.int)) cc = some (.lst ((js ++ [777]).map V.int)) := upd_same
      have ncd := F4.deck.ne hcc
      have ncq : cc ≠ q := (ne_of_none F4.g0 hcc).symm
      generalize upd H4 cc (.lst ((js ++ [777]).map V.int)) = H5 at F5 hCC ⊢
      refine ⟨cc, rfl, ⟨_, SqL.of hCC⟩, for_list (K := K) (a := cc) (xs := (js ++ [777]).map V.int) (fun i σ H' => ∃ (v3 : Option V) (ws : List (Int × Int)), σ = [some (.ref d), some (.ref t), some (.ref q), v3] ∧ Fs d H [(q, .dK (pinK ws))] H' ∧ H' cc = some (.lst ((js ++ [777]).map V.int)) ∧ LoadsP (js ++ [777]) i 100 ws ∧ i ≤ js.length + 1)
        ⟨none, [], rfl, F5, hCC, ⟨List.nodup_nil, Nat.le_refl _, fun p hp => by cases hp⟩, Nat.zero_le _⟩ (fun i σ H' _ z => by obtain ⟨_, _, _, _, h, _⟩ := z; exact SqL.of h) ?_ ?_⟩
      · rintro i y σ H6 hi ⟨v3, ws, rfl, F6, hC6, L6, hil⟩
        obtain ⟨x, hx, rfl⟩ := int_atS hi
        have hil2 : i < js.length + 1 := by
          have := (List.getElem?_eq_some_iff.mp hx).1
          rw [List.length_append] at this; exact this
        have hwl := L6.2.1
        refine ⟨_, rfl, d, 2, rfl, F6.deck, by decide, by decide, fun z H7 z0 z1 D7 B7 => ?_⟩
        have F7 := F6.step D7 B7
        have hC7 := B7 _ _ ncd hC6
        refine ⟨rfl, _, rfl, ite2 (fun c => ?_) (fun c => ?_)⟩
        · refine ⟨_, rfl, by rw [h16]; show 6 ≤ 16777216; decide, fun u hu2 => ?_⟩
          have F8 := F7.skip (o := .lst ([1, 2, 2, 3, 5, 100].map V.int)) hu2
          have hU : upd H7 u (.lst ([1, 2, 2, 3, 5, 100].map V.int)) u = some (.lst ([1, 2, 2, 3, 5, 100].map V.int)) := upd_same
          have hC8 := Same.new (o := .lst ([1, 2, 2, 3, 5, 100].map V.int)) hu2 _ _ hC7
          have nud := D7.ne hu2
          show spChoose K [V.ref d, V.ref u] (upd H7 u (.lst ([1, 2, 2, 3, 5, 100].map V.int))) _ E0
          generalize upd H7 u (.lst ([1, 2, 2, 3, 5, 100].map V.int)) = H8 at F8 hU hC8 ⊢
          refine ⟨d, u, _, rfl, F8.deck, nud, SqL.of hU, (fun z => by cases z), (by show 6 < 1000000; decide), fun v H9 hv D9 B9 => ?_⟩
          obtain ⟨a, ha, rfl⟩ := List.mem_map.mp hv
          have hab : ∀ a ∈ ([1, 2, 2, 3, 5, 100] : List Int), 1 ≤ a ∧ a ≤ 100 := by decide
          obtain ⟨a1, a2⟩ := hab a ha
          have F9 := F8.step D9 B9
          have hC9 := B9 _ _ ncd hC8
          obtain ⟨qs, e, L7⟩ := L6.put (x := x) (List.mem_of_getElem? hx) a1 a2
          refine ⟨_, rfl, _, rfl, q, _, rfl, DPut.k (k := (.inl x : Key)) F9.g0 (by rw [pin_len, h16]; omega), ?_⟩
          rw [e]
          exact ⟨_, qs, rfl, F9.set0 hq0, by rw [upd_ne ncq]; exact hC9, L7, hil2⟩
        · exact ⟨_, ws, rfl, F7, hC7, ⟨L6.1, by omega, L6.2.2⟩, hil2⟩
      · rintro σ H6 ⟨v3, ws, rfl, F6, hC6, L6, hil⟩
        refine ⟨_, rfl, k (.ref q) (some ws) H6 (fun p z => by cases z; exact hq0) F6.1 F6.deck (.inr ⟨q, ws, rfl, rfl, F6.g0⟩) fun ws' z => ?_⟩
        obtain rfl := Option.some.inj z
        have := L6.2.1
        rw [List.length_map, List.length_append] at this
        exact ⟨L6.1, this, L6.2.2⟩
end
/-! ### the heap without one address -/
def er (H : Hp) (p : Addr) : Hp := fun b => if b = p then none else H b
theorem er_at {H : Hp} {p b : Addr} {o : HO} (h : H b = some o) (n : b ≠ p) : er H p b = some o := by
  unfold er
  rw [if_neg n]; exact h
theorem er_le {H : Hp} {p : Addr} : Same (er H p) H := fun b o e => by
  unfold er at e
  by_cases n : b = p
  · rw [if_pos n] at e; cases e
  · rw [if_neg n] at e; exact e
theorem er_same {H H' : Hp} {p : Addr} (s : Same H H') : Same (er H p) (er H' p) := fun b o e => by
  unfold er at e ⊢
  by_cases n : b = p
  · rw [if_pos n] at e; cases e
  · rw [if_neg n] at e ⊢; exact s b o e
theorem er_upd {H : Hp} {p : Addr} {o : HO} : er (upd H p o) p = er H p := by
  funext b
  unfold er
  by_cases n : b = p
  · rw [if_pos n, if_pos n]
  · rw [if_neg n, if_neg n, upd_ne n]
theorem er_upd_ne {H : Hp} {p q : Addr} {o : HO} (n : q ≠ p) : er (upd H q o) p = upd (er H p) q o := by
  funext b
  unfold er
  by_cases h : b = q
  · subst h
    rw [if_neg n, upd_same, upd_same]
  · rw [upd_ne h, upd_ne h]
theorem er_of {Hz H : Hp} {p : Addr} (s : Same Hz H) (hz : Hz p = none) : Same Hz (er H p) := fun b o e => er_at (s b o e) (ne_of_none e hz)
/-! ### pairs of values with the same data, dicts among them -/
structure RokP (d : PyData) : Prop where
  o : okW d = true
  dep : d.depth ≤ 40
  sz : szW d ≤ 1000000
/-- repr of any value with data -/
def rReprP (K : PySem.W.Frag) : List V → Hp → VK → Prop := fun xs H Q => ∃ (v : V) (d : PyData), xs = [v] ∧ DW K H v d ∧ RokP d ∧ Q (.str d.shown) H
theorem call_reprP {X : Cx} (hg : X.A.guards = some []) (hu : X.A.units + 64 < cLine) : CallR X (.builtin "repr") (rReprP X.K) := by
  intro pins s σ H xs us Q I r h
  obtain ⟨v, d, rfl, hd, ok, q⟩ := h
  have hok := ok.o
  have hl : d.shown.length ≤ sizeLine := by
    have := shown_leW d hok
    have := ok.sz
    rw [sizeLine_eq]
    omega
  have byRef : ∀ a : Addr, v = .ref a → wpAny (model X.prog X.w) X.A (call (.builtin "repr") us) (fun u s' => ∃ x H', L2.Inv X pins σ H' s' ∧ RelV x u ∧ Q x H') X.xe s := by
    rintro a rfl
    exact call_reprW hg hu pins s σ H [.ref a] us Q I r ⟨a, d, rfl, hd, ok.o, ok.dep, ok.sz, q⟩
  obtain ⟨u, rfl, ru⟩ : ∃ u, us = [u] ∧ RelV v u := by
    cases r with
    | cons r1 r2 => cases r2; exact ⟨_, rfl, r1⟩
  cases hd with
  | non =>
    have r' : u = Value.none := ru
    subst r'
    rw [PyData.shown] at q
    exact PySem.P.repr_of_none ⟨.str _, H, I.tok _, ⟨_, rfl⟩, q⟩
  | bl b =>
    have r' : u = Value.bool b := ru
    subst r'
    rw [PyData.shown] at q
    exact PySem.P.repr_of_bool ⟨.str _, H, I.tok _, ⟨_, rfl⟩, q⟩
  | int i =>
    obtain ⟨t, rfl⟩ := ru
    rw [okW] at hok
    have := log_of (of_decide_eq_true hok)
    rw [PyData.shown] at q
    exact PySem.P.repr_of_int (by omega) ⟨.str _, H, I.tok _, ⟨_, rfl⟩, q⟩
  | str x =>
    obtain ⟨t, rfl⟩ := ru
    rw [PyData.shown] at q hl
    exact PySem.P.repr_of_str ⟨.str _, H, I.tok _, ⟨_, rfl⟩, q⟩ hl
  | lst h t => exact byRef _ rfl
  | tup h t => exact byRef _ rfl
  | dic h t1 t2 => exact byRef _ rfl
theorem call_reprPK {X : Cx} {K : PySem.W.Frag} (h : X.K = K) (hg : X.A.guards = some []) (hu : X.A.units + 64 < cLine) : CallR X (.builtin "repr") (rReprP K) := by
  subst h
  exact call_reprP hg hu
mutual
theorem DW.same {K : PySem.W.Frag} {H H' : Hp} (s : Same H H') : ∀ {v : V} {d : PyData}, DW K H v d → DW K H' v d
  | _, _, .non => .non
  | _, _, .bl b => .bl b
  | _, _, .int i => .int i
  | _, _, .str x => .str x
  | _, _, .lst h t => .lst (Same.sq s h) (DWs.same s t)
  | _, _, .tup h t => .tup (Same.tq s h) (DWs.same s t)
  | _, _, .dic h t u => .dic (s _ _ h) (DWs.same s t) (DWs.same s u)
theorem DWs.same {K : PySem.W.Frag} {H H' : Hp} (s : Same H H') : ∀ {vs : List V} {ds : List PyData}, DWs K H vs ds → DWs K H' vs ds
  | _, _, .nil => .nil
  | _, _, .cons h t => .cons (DW.same s h) (DWs.same s t)
end
theorem er_none {H : Hp} {p : Addr} (h : H p = none) : er H p = H := by
  funext b
  unfold er
  by_cases n : b = p
  · rw [if_pos n, n, h]
  · rw [if_neg n]
/-- a pair of two values with the same data -/
def PairAtW (K : PySem.W.Frag) (H : Hp) (x : V) : Prop := ∃ (T : Addr) (v1 v2 : V) (d : PyData), x = .ref T ∧ SqT K H T [v1, v2] ∧ DW K H v1 d ∧ DW K H v2 d ∧ RokP d
theorem PairAtW.same {K : PySem.W.Frag} {H H' : Hp} {x : V} (h : PairAtW K H x) (s : Same H H') : PairAtW K H' x := by
  obtain ⟨T, v1, v2, d, e, h1, h2, h3, h4⟩ := h
  exact ⟨T, v1, v2, d, e, Same.tq s h1, h2.same s, h3.same s, h4⟩
def PairsW (K : PySem.W.Frag) (H : Hp) (p : Addr) (n : Nat) : Prop := ∃ xs : List V, H p = some (.lst xs) ∧ xs.length = n ∧ ∀ x ∈ xs, PairAtW K (er H p) x
section
variable {K : PySem.W.Frag} {H H' Hz : Hp} {p : Addr} {n : Nat}
theorem PairsW.same (R : PairsW K H p n) (s : Same H H') : PairsW K H' p n := by
  obtain ⟨xs, h1, h2, h3⟩ := R
  exact ⟨xs, s _ _ h1, h2, fun x hx => (h3 x hx).same (er_same s)⟩
theorem PairsW.ne (R : PairsW K H p n) {q : Addr} (h : H q = none) : q ≠ p := by
  obtain ⟨xs, h1, _⟩ := R
  exact (ne_of_none h1 h).symm
theorem PairsW.ne2 (R : PairsW K H p n) {q : Addr} {o : HO} (h : H q = some o) (ho : ∀ xs, o ≠ .lst xs) : q ≠ p := by
  obtain ⟨xs, h1, _⟩ := R
  exact ne_of h h1 (ho xs)
theorem PairsW.start {T : Addr} {v1 v2 : V} {d : PyData} (hT : H T = some (.tup [v1, v2])) (hp : H p = none) (h1 : DW K H v1 d) (h2 : DW K H v2 d) (ok : RokP d) : PairsW K (upd H p (.lst [.ref T])) p 1 :=
  ⟨_, upd_same, rfl, fun x hx => by
    rw [List.mem_singleton.mp hx, er_upd, er_none hp]
    exact ⟨T, v1, v2, d, rfl, SqT.of hT, h1, h2, ok⟩⟩
theorem PairsW.nil (hp : H p = none) : PairsW K (upd H p (.lst [])) p 0 := ⟨_, upd_same, rfl, fun x hx => by cases hx⟩
/-- one pair more, whose tuple has just been made at T -/
theorem PairsW.push {T : Addr} {v1 v2 : V} {d : PyData} (zpr : Hz p = none) (sz : Same Hz H) (R : PairsW K H p n) (hT : H T = none) (h1 : DW K (er H p) v1 d) (h2 : DW K (er H p) v2 d) (ok : RokP d) (hn : n < 1000) :
    ∃ (xs : List V) (H3 : Hp), H3 = upd (upd H T (.tup [v1, v2])) p (.lst (xs ++ [.ref T])) ∧ (upd H T (.tup [v1, v2])) p = some (.lst xs) ∧ xs.length < sizeLine ∧ Same Hz H3 ∧ PairsW K H3 p (n + 1) := by
  have s1 := Same.new (o := .tup [v1, v2]) hT
  have hne := R.ne hT
  obtain ⟨xs, q1, q2, q3⟩ := R.same s1
  refine ⟨xs, _, rfl, q1, by rw [q2, sizeLine_eq]; omega, fun b u e => ?_, xs ++ [.ref T], upd_same, by rw [List.length_append, q2]; rfl, fun x hx => ?_⟩
  · rw [upd_ne (ne_of_none e zpr)]
    exact s1 _ _ (sz _ _ e)
  · rw [er_upd]
    rcases List.mem_append.mp hx with hx | hx
    · exact q3 x hx
    · rw [List.mem_singleton.mp hx]
      exact ⟨T, v1, v2, d, rfl, SqT.of (er_at upd_same hne), h1.same (er_same s1), h2.same (er_same s1), ok⟩
end
structure TxtL (mg : Str → Option Value) : Prop where
  range : mg "range" = none
  max : mg "max" = none
  min : mg "min" = none
  repr : mg "repr" = none
theorem conf_swap {xs ys zs : List Int} {wo : Option (List (Int × Int))} (ny : ys.Nodup) (nz : zs.Nodup) : (confL xs zs ys wo).mergeSort leJ = (confL xs ys zs wo).mergeSort leJ := by
  rw [conf_sort ny nz, conf_sort nz ny]
  refine rise_eq (bounds_up _) (bounds_up _) fun z => ?_
  rw [bounds_mem, bounds_mem, found_mem, found_mem, List.mem_append, List.mem_append]
  constructor
  · rintro ⟨h, q⟩
    exact ⟨h.symm, q.imp (fun q => ⟨q.1.symm, fun e => q.2 e.symm⟩) (fun q => ⟨q.1, q.2.symm⟩)⟩
  · rintro ⟨h, q⟩
    exact ⟨h.symm, q.imp (fun q => ⟨q.1.symm, fun e => q.2 e.symm⟩) (fun q => ⟨q.1, q.2.symm⟩)⟩
theorem rokP41 {ids : List Int} (hI : ∀ z ∈ ids, 0 ≤ z ∧ z ≤ 1000000) (hl : ids.length ≤ 300) : okW (.list (ids.map .int)) = true ∧ (PyData.list (ids.map .int)).depth ≤ 3 ∧ szW (.list (ids.map .int)) ≤ 100000 := by
  obtain ⟨o1, o2⟩ := ints_okW ids hI
  refine ⟨by rw [okW]; exact o1, by rw [PyData.depth, PySem.W.depth_ints]; decide, by rw [szW, o2]; omega⟩
theorem rokR41 {ids : List Int} (hI : ∀ z ∈ ids, 0 ≤ z ∧ z ≤ 1000000) (hl : ids.length ≤ 300) : RokP (.list (ids.map .int)) := by
  obtain ⟨a, b, c⟩ := rokP41 hI hl
  exact ⟨a, by omega, by omega⟩
theorem four41 {K : PySem.W.Frag} {H : Hp} {l o1 o2 : Addr} {v : V} {wo : Option (List (Int × Int))} {js ks ms bs : List Int} {n : Nat} (hl : H l = some (.lst (js.map V.int))) (h1 : H o1 = some (.lst (ks.map V.int))) (h2 : H o2 = some (.lst (ms.map V.int))) (hw : WtAt H v wo)
    (bj : ∀ z ∈ js, 0 ≤ z ∧ z ≤ 1000000) (bk : ∀ z ∈ ks, 0 ≤ z ∧ z ≤ 1000000) (bm : ∀ z ∈ ms, 0 ≤ z ∧ z ≤ 1000000) (nj : js.length ≤ 300) (nk : ks.length ≤ 300) (nm : ms.length ≤ 300) (hL : LoadsO bs n 100 wo) (bb : ∀ z ∈ bs, 0 ≤ z ∧ z ≤ 1000000) (hn : n ≤ 300) :
    ∃ d : PyData, RokP d ∧ ∀ (H' : Hp) (T : Addr), Same H H' → H' T = some (.tup [.ref l, .ref o1, .ref o2, v]) → DW K H' (.ref T) d := by
  obtain ⟨wd, w1, w1', w1'', w2⟩ : ∃ wd : PyData, okW wd = true ∧ wd.depth ≤ 5 ∧ szW wd ≤ 200000 ∧ ∀ H', Same H H' → DW K H' v wd := by
    rcases hw with ⟨rfl, _⟩ | ⟨p, ws, rfl, rfl, hp⟩
    · exact ⟨.none, by rw [okW], by rw [PyData.depth]; decide, by rw [szW]; decide, fun H' _ => .non⟩
    · have L := hL ws rfl
      obtain ⟨p1, p2, p3⟩ := pins_okW ws fun e he => ⟨bb _ (L.2.2 e he).2.2, by have := (L.2.2 e he).1; omega, by have := (L.2.2 e he).2.1; omega⟩
      have := L.2.1
      exact ⟨.dict (pinD ws), by rw [okW]; exact p1, by rw [PyData.depth, p3]; decide, by rw [szW, p2]; omega, fun H' s => pin_dw (s _ _ hp)⟩
  obtain ⟨a1, a2, a3⟩ := rokP41 bj nj
  obtain ⟨b1, b2, b3⟩ := rokP41 bk nk
  obtain ⟨c1, c2, c3⟩ := rokP41 bm nm
  refine ⟨.tuple [.list (js.map .int), .list (ks.map .int), .list (ms.map .int), wd], ⟨?_, ?_, ?_⟩, fun H' T s hT => .tup (SqT.of hT) (.cons (.lst (SqL.of (s _ _ hl)) (DWs.ints _)) (.cons (.lst (SqL.of (s _ _ h1)) (DWs.ints _)) (.cons (.lst (SqL.of (s _ _ h2)) (DWs.ints _)) (.cons (w2 _ s) .nil))))⟩
  · rw [okW, okWs, okWs, okWs, okWs, okWs, a1, b1, c1, w1]; rfl
  · rw [PyData.depth, PyData.depthAll, PyData.depthAll, PyData.depthAll, PyData.depthAll, PyData.depthAll]
    omega
  · rw [szW, szWs, szWs, szWs, szWs, szWs]
    omega
section
variable {P : Program} {w : World} {K : PySem.W.Frag} {mg : Str → Option Value} {base : Heap}
def spLaw (K : PySem.W.Frag) : Sp := fun vs H Q _ => ∃ (a : Addr) (ns : List Int), vs = [.ref a] ∧ SqL K H a (ns.map V.int) ∧ ns.length ≤ 63 ∧ (∀ z ∈ ns, Builtin.Int.intBits z ≤ 1048576) ∧ ∀ H', Q (.bl true) H'
abbrev NL : List Str := ["script", "begun", "stream", "turn", "board", "one", "other", "scale", "seen", "side", "expected", "found"]
theorem scLaw : FnScope NL ["script"] (defScope sLaw) := ⟨rfl, rfl, rfl, by decide +kernel, rfl, by decide +kernel, by decide +kernel⟩
def forBody (s : Stmt) : List Stmt := match s with
  | .For _ _ b _ _ => b
  | _ => []
def lawTurn : List Stmt := match defBody sLaw with
  | s :: _ => (match forBody s with
    | _ :: s2 :: _ => forBody s2
    | _ => [])
  | _ => []
abbrev Xl (P : Program) (w : World) (K : PySem.W.Frag) (mg : Str → Option Value) (base : Heap) (f : Addr) (cdv : Value) (A : Around) (outer : List Env) (s : Shared) (H : Hp) (E : XK) : Cx := (cxOf CX0 P w K mg base NL "law" (defScope sLaw) f cdv A outer s H E).nox
structure OrdI (l : List Int) : Prop where
  nd : l.Nodup
  len : l.length ≤ 12
  bd : ∀ z ∈ l, 0 ≤ z ∧ z ≤ 1000000
theorem OrdI.moved {xs ys : List Int} {wo : Option (List (Int × Int))} (h : OrdI ys) : RokP (.list ((movedI xs ys wo).map .int)) :=
  rokR41 (fun z hz => h.bd z (List.mem_filter.mp hz).1) (Nat.le_trans (List.length_filter_le _ _) (by have := h.len; omega))
theorem OrdI.confLen {xs ys zs : List Int} {wo : Option (List (Int × Int))} (h : OrdI ys) (g : OrdI zs) : ((confL xs ys zs wo).mergeSort leJ).length ≤ 36 := by
  have hp := List.mergeSort_perm (confL xs ys zs wo) leJ
  rw [hp.length_eq]
  unfold confL apartI
  have a1 : (movedI xs ys wo).length ≤ 12 := Nat.le_trans (List.length_filter_le _ _) h.len
  have a2 : (movedI xs zs wo).length ≤ 12 := Nat.le_trans (List.length_filter_le _ _) g.len
  have b1 := Nat.le_trans (List.length_filter_le (fun x => decide (prevF ys x ≠ prevF zs x)) (keepI (movedI xs ys wo) (movedI xs zs wo))) (Nat.le_trans (List.length_filter_le _ _) a1)
  have b2 : (dropI (keepI (movedI xs ys wo) xs) zs).length ≤ 12 := Nat.le_trans (List.length_filter_le _ _) (Nat.le_trans (List.length_filter_le _ _) a1)
  have b3 : (dropI (keepI (movedI xs zs wo) xs) ys).length ≤ 12 := Nat.le_trans (List.length_filter_le _ _) (Nat.le_trans (List.length_filter_le _ _) a2)
  rw [List.length_append, List.length_append]
  omega
theorem OrdI.conf {xs ys zs : List Int} {wo : Option (List (Int × Int))} (h : OrdI ys) (g : OrdI zs) : RokP (.list (((confL xs ys zs wo).mergeSort leJ).map .int)) := by
  have hm : ∀ z ∈ confL xs ys zs wo, z ∈ ys ∨ z ∈ zs := fun z hz => by
    have := (found_mem _).mp (conf_mem.mp hz)
    exact (List.mem_append.mp this.1).imp (fun q => (List.mem_filter.mp q).1) (fun q => (List.mem_filter.mp q).1)
  have hp := List.mergeSort_perm (confL xs ys zs wo) leJ
  exact rokR41 (fun z hz => (hm z (hp.mem_iff.mp hz)).elim (h.bd z) (g.bd z)) (Nat.le_trans (h.confLen g) (by decide))
theorem tail41 {f fW fMi fM fCf fLc : Addr} {fd fdW fdMi fdM fdCf fdLc : FuncData} (F : Fun K "law" "law" sLaw f fd) (TL : TxtL mg)
    (We : Fn K mg "_law_weights" sWeights ["stream", "ids"] fW fdW) (GW : FnOk P w K mg base CX0 3 fW fdW ["stream", "ids"] (spWeights K))
    (Mi : FnD P w K mg base 4 2 "moved_ids" ["start", "side", "weights"] ["weights"] [.non] (spMovedIds K) fMi fdMi)
    (Mo : Fn K mg "_law_moved" sMoved ["start", "side", "scale"] fM fdM) (GM : FnOk P w K mg base CX0 3 fM fdM ["start", "side", "scale"] (spMoved K))
    (Cf : FnD P w K mg base 5 3 "conflicts" ["start", "first", "second", "weights"] ["weights"] [.non] (spConf K) fCf fdCf)
    (Lc : Fn K mg "_law_conflicts" sLawConf ["start", "first", "second", "scale"] fLc fdLc) (GLc : FnOk P w K mg base CX0 4 fLc fdLc ["start", "first", "second", "scale"] (spLawC K))
    {cdv : Value} {A : Around} {outer : List Env} {s : Shared} {H : Hp} {E : XK} (hg : (A.deeper (envOfC "law" (defScope sLaw) s.heap.objs.size f cdv)).guards = some []) (hr : Room 5 (A.deeper (envOfC "law" (defScope sLaw) s.heap.objs.size f cdv))) :
    ∃ t, PSs (Xl P w K mg base f cdv A outer s H E) (lawTurn.drop 4) t ∧ ∀ (Hd He : Hp) (v0 v1 v3 v7 v8 v9 v10 v11 : Option V) (d l o1 o2 : Addr) (js ks ms : List Int) (D : Ends),
      Fs d Hd [(o2, .lst (ms.map V.int)), (o1, .lst (ks.map V.int)), (l, .lst (js.map V.int))] He → OrdI js → OrdI ks → OrdI ms →
      (∀ (u7 u8 u9 u10 u11 : Option V) (H' : Hp), Fs d Hd [] H' → D.nx [v0, v1, some (.ref d), v3, some (.ref l), some (.ref o1), some (.ref o2), u7, u8, u9, u10, u11] H') →
      t D [v0, v1, some (.ref d), v3, some (.ref l), some (.ref o1), some (.ref o2), v7, v8, v9, v10, v11] He := by
  have hr3 : Room 3 _ := hr.mono (by decide)
  have hr4 : Room 4 _ := hr.mono (by decide)
  have h64 := hu64 hr
  have hu := hu_of hr
  obtain ⟨dsM, vM, bM⟩ := Mi.d
  obtain ⟨dsC, vC, bC⟩ := Cf.d
  have h16 : sizeLine = 16777216 := sizeLine_eq
  refine ⟨_, (pss_cons (ps_set (i := 7) scLaw.nd rfl (Or.inl rfl) (pe_call GW hr3 rfl We.m We.F.kp We.b .nil pass0 (pa_cons (pv 2) (pa_cons (pe_op op_cat (pv 4) (pe_lst (pa_cons pe_int pa_nil))) pa_nil))))
          (pss_cons (ps_set (i := 8) scLaw.nd rfl (Or.inl rfl) (pe_callB (call_reprP hg h64) (by rfl) TL.repr (by decide +kernel) (pa_cons (pe_tup (pa_cons (pv 4) (pa_cons (pv 5) (pa_cons (pv 6) (pa_cons (pv 7) pa_nil))))) pa_nil)))
          (pss_cons (ps_for PassesOwn.never rfl (pi_list (pe_lst (pa_cons (pv 5) (pa_cons (pv 6) pa_nil)))) (pg_name (i := 9) scLaw.nd rfl (Or.inl rfl))
            (pss_one (ps_if (pt_cmpR op_ne (pe_callB (call_reprP hg h64) (by rfl) TL.repr (by decide +kernel) (pa_cons (pe_callN Mi.G hr4 rfl Mi.m Mi.kp Mi.b pass0 (pa_cons (pv 4) (pa_cons (pv 9) pa_nil)) (pk_cons (pv 7) pk_nil)) pa_nil))
              (pe_callB (call_reprP hg h64) (by rfl) TL.repr (by decide +kernel) (pa_cons (pe_call GM hr3 rfl Mo.m Mo.F.kp Mo.b .nil pass0 (pa_cons (pv 4) (pa_cons (pv 9) (pa_cons (pv 7) pa_nil)))) pa_nil)) (nomark _)) (pss_one (ps_ret pe_bl)) pss_nil)))
          (pss_cons (ps_set (i := 10) scLaw.nd rfl (Or.inl rfl) (pe_callB (call_reprP hg h64) (by rfl) TL.repr (by decide +kernel) (pa_cons (pe_call GLc hr4 rfl Lc.m Lc.F.kp Lc.b .nil pass0 (pa_cons (pv 4) (pa_cons (pv 5) (pa_cons (pv 6) (pa_cons (pv 7) pa_nil))))) pa_nil)))
          (pss_cons (ps_if (pt_cmpR op_ne (pe_callB (call_reprP hg h64) (by rfl) TL.repr (by decide +kernel) (pa_cons (pe_callN Cf.G hr rfl Cf.m Cf.kp Cf.b pass0 (pa_cons (pv 4) (pa_cons (pv 5) (pa_cons (pv 6) pa_nil))) (pk_cons (pv 7) pk_nil)) pa_nil)) (pv 10) (nomark _)) (pss_one (ps_ret pe_bl)) pss_nil)
          (pss_cons (ps_if (pt_cmpR op_ne (pe_callB (call_reprP hg h64) (by rfl) TL.repr (by decide +kernel) (pa_cons (pe_callN Cf.G hr rfl Cf.m Cf.kp Cf.b pass0 (pa_cons (pv 4) (pa_cons (pv 6) (pa_cons (pv 5) pa_nil))) (pk_cons (pv 7) pk_nil)) pa_nil)) (pv 10) (nomark _)) (pss_one (ps_ret pe_bl)) pss_nil)
          (pss_cons (ps_if (PW.pt (pw_and (pt_cmpR op_isN (pv 7) pe_non (nomark _)) (pw_and1 (pt_cmpR op_ne (pe_callB (call_reprP hg h64) (by rfl) TL.repr (by decide +kernel) (pa_cons (pe_call Cf.G hr rfl Cf.m Cf.kp bC vC pass0 (pa_cons (pv 4) (pa_cons (pv 5) (pa_cons (pv 6) pa_nil)))) pa_nil)) (pv 10) (nomark _))))) (pss_one (ps_ret pe_bl)) pss_nil)
          (pss_cons (ps_if (PW.pt (pw_and (pt_cmpR op_isN (pv 7) pe_non (nomark _)) (pw_and1 (pt_cmpR (op_neL h64) (pe_call Mi.G hr4 rfl Mi.m Mi.kp bM vM pass0 (pa_cons (pv 4) (pa_cons (pv 5) pa_nil))) (pe_call GM hr3 rfl Mo.m Mo.F.kp Mo.b .nil pass0 (pa_cons (pv 4) (pa_cons (pv 5) (pa_cons pe_non pa_nil)))) (nomark _))))) (pss_one (ps_ret pe_bl)) pss_nil)
          (pss_cons (ps_for PassesOwn.never rfl (pi_list (pe_lst (pa_cons (pe_callN Mi.G hr4 rfl Mi.m Mi.kp Mi.b pass0 (pa_cons (pv 4) (pa_cons (pv 5) pa_nil)) (pk_cons (pv 7) pk_nil)) (pa_cons (pe_call Mi.G hr4 rfl Mi.m Mi.kp bM vM pass0 (pa_cons (pe_lst pa_nil) (pa_cons (pv 5) pa_nil))) (pa_cons (pe_call Cf.G hr rfl Cf.m Cf.kp bC vC pass0 (pa_cons (pv 4) (pa_cons (pv 5) (pa_cons (pv 6) pa_nil)))) pa_nil))))) (pg_name (i := 11) scLaw.nd rfl (Or.inl rfl))
            (pss_one (ps_expr (pe_bm PySem.F.plainAttrs_list PySem.F.slot_list_append PySem.F.type_list_append mt_append (pv 11) (pa_cons pe_int pa_nil)))))
          (pss_one (ps_if (pt_cmpR op_ne (pe_callB (call_reprP hg h64) (by rfl) TL.repr (by decide +kernel) (pa_cons (pe_tup (pa_cons (pv 4) (pa_cons (pv 5) (pa_cons (pv 6) (pa_cons (pv 7) pa_nil))))) pa_nil)) (pv 8) (nomark _)) (pss_one (ps_ret pe_bl)) pss_nil))))))))))), ?_⟩
  intro Hd He v0 v1 v3 v7 v8 v9 v10 v11 d l o1 o2 js ks ms D F4 oj ok om k
  have lj := oj.len
  have lk := ok.len
  have lm := om.len
  -- weights
  refine ⟨_, rfl, _, rfl, by rw [h16]; show 1 ≤ 16777216; decide, fun c hc => ?_⟩
  have F5 := F4.skip (o := .lst [V.int 4001]) hc
  have hC : upd He c (.lst [V.int 4001]) c = some (.lst [V.int 4001]) := upd_same
  generalize (upd He c (.lst [V.int 4001]) : Hp) = H5 at F5 hC ⊢
  refine ⟨l, c, _, _, rfl, rfl, F5.g2, hC, by rw [List.length_map, h16]; show _ + 1 ≤ _; omega, fun cc hcc => ?_⟩
  have ecat : js.map V.int ++ [V.int 4001] = (js ++ [4001]).map V.int := by rw [List.map_append]; rfl
  rw [ecat]
  have ncd := F5.deck.ne hcc
  have F6 := F5.skip (o := .lst ((js ++ [4001]).map V.int)) hcc
  have hCC : upd H5 cc (.lst ((js ++ [4001]).map V.int)) cc = some (.lst ((js ++ [4001]).map V.int)) := upd_same
  generalize (upd H5 cc (.lst ((js ++ [4001]).map V.int)) : Hp) = H6 at F6 hCC ⊢
  refine ⟨d, cc, js ++ [4001], rfl, F6.deck, ncd, SqL.of hCC, by rw [List.length_append]; show _ + 1 < _; omega, fun v wo H7 hv B7 D7 hW hLo => ?_⟩
  have F7 := F6.step D7 B7
  have hwt := fun x => hLo.wt (by decide) x
  have hw1 : ∀ x, 1 ≤ wtI wo x := fun x => (hwt x).1
  have hwb : ∀ x, (wtI wo x).natAbs < 2 ^ 300 := fun x => by
    have := hwt x
    have h9 : (wtI wo x).natAbs ≤ 100 := by omega
    exact Nat.lt_of_le_of_lt h9 (by decide)
  have hwb0 : ∀ x, (wtI none x).natAbs < 2 ^ 300 := fun x => by show (1 : Int).natAbs < _; decide
  have hw10 : ∀ x, 1 ≤ wtI none x := fun x => Int.le_refl _
  have bb : ∀ z ∈ js ++ [4001] ++ [777], 0 ≤ z ∧ z ≤ 1000000 := fun z hz => by
    rcases List.mem_append.mp hz with q | q
    · rcases List.mem_append.mp q with q | q
      · exact oj.bd z q
      · rw [List.mem_singleton.mp q]; decide
    · rw [List.mem_singleton.mp q]; decide
  obtain ⟨dta, okd, hdta⟩ := four41 (K := K) F7.g2 F7.g1 F7.g0 hW oj.bd ok.bd om.bd (by omega) (by omega) (by omega) hLo bb (by rw [List.length_append]; show _ + 1 + 1 ≤ _; omega)
  -- as it is
  refine ⟨_, rfl, _, rfl, _, rfl, _, rfl, by rw [h16]; show 4 ≤ 16777216; decide, fun T hT => ?_⟩
  have sT := Same.new (o := .tup [V.ref l, V.ref o1, V.ref o2, v]) hT
  refine ⟨.ref T, dta, rfl, hdta _ T sT upd_same, okd, ?_⟩
  have F8 := F7.same sT
  have hW8 := hW.same sT
  generalize (upd H7 T (.tup [V.ref l, V.ref o1, V.ref o2, v]) : Hp) = H8 at sT F8 hW8 ⊢
  -- the moved
  refine ⟨_, rfl, _, rfl, by rw [h16]; show 2 ≤ 16777216; decide, fun e he => ?_⟩
  have s9 := Same.new (o := .lst [V.ref o1, V.ref o2]) he
  have hE : upd H8 e (.lst [V.ref o1, V.ref o2]) e = some (.lst [V.ref o1, V.ref o2]) := upd_same
  have F9 := F8.same s9
  have hW9 := hW8.same s9
  have sT9 := sT.trans s9
  generalize (upd H8 e (.lst [V.ref o1, V.ref o2]) : Hp) = H9 at s9 hE F9 hW9 sT9 ⊢
  refine ⟨e, rfl, ⟨_, SqL.of hE⟩, for_list (K := K) (a := e) (xs := [V.ref o1, V.ref o2]) (fun i σ H' => (∃ u9 u10 u11 : Option V, σ = [v0, v1, some (.ref d), v3, some (.ref l), some (.ref o1), some (.ref o2), some v, some (.str dta.shown), u9, u10, u11]) ∧ Same H9 H')
    ⟨⟨_, _, _, rfl⟩, Same.refl H9⟩ (fun i σ H' _ z => SqL.of (z.2 _ _ hE)) ?_ ?_⟩
  · rintro i y σ H' hi ⟨⟨u9, u10, u11, rfl⟩, s'⟩
    obtain ⟨u, r, rfl, hu', orr⟩ : ∃ (u : Addr) (r : List Int), y = V.ref u ∧ H' u = some (.lst (r.map V.int)) ∧ OrdI r := by
      match i, hi with
      | 0, hi => exact ⟨o1, ks, (Option.some.inj hi).symm, s' _ _ F9.g1, ok⟩
      | 1, hi => exact ⟨o2, ms, (Option.some.inj hi).symm, s' _ _ F9.g0, om⟩
    have lr := orr.len
    refine ⟨_, rfl, _, rfl, _, rfl, rfl, rfl, l, u, v, js, r, wo, rfl, SqL.of (s' _ _ F9.g2), SqL.of hu', hW9.same s', by omega, by omega, oj.nd, orr.nd, hwb, fun q H'' s'' hq hQ => ?_⟩
    refine ⟨.ref q, _, rfl, .lst (SqL.of hQ) (DWs.ints _), orr.moved, ?_⟩
    have s3' := s'.trans s''
    refine ⟨_, rfl, _, rfl, _, rfl, l, u, v, js, r, wo, rfl, SqL.of (s3' _ _ F9.g2), SqL.of (s'' _ _ hu'), hW9.same s3', lj, lr, oj.nd, orr.nd, hw1, fun q2 Hx sx hq2 hQ2 => ?_⟩
    refine ⟨.ref q2, _, rfl, .lst (SqL.of hQ2) (DWs.ints _), orr.moved, rfl, _, rfl, iteNS rfl ?_⟩
    exact ⟨⟨_, _, _, rfl⟩, s3'.trans sx⟩
  rintro σ H' ⟨⟨u9, u10, u11, rfl⟩, s'⟩
  have F10 := F9.same s'
  have hW10 := hW9.same s'
  have sT10 := sT9.trans s'
  clear s' F9 hW9 sT9 s9 hE
  -- the conflicts
  refine ⟨_, rfl, _, rfl, _, rfl, _, rfl, l, o1, o2, v, js, ks, ms, wo, rfl, SqL.of F10.g2, SqL.of F10.g1, SqL.of F10.g0, hW10, lj, lk, lm, oj.nd, ok.nd, om.nd, hw1, fun q1 H11 s11 hq1 hQ1 => ?_⟩
  refine ⟨.ref q1, _, rfl, .lst (SqL.of hQ1) (DWs.ints _), ok.conf om, ?_⟩
  have F11 := F10.same s11
  have hW11 := hW10.same s11
  refine ⟨_, rfl, _, rfl, _, rfl, _, rfl, rfl, rfl, l, o1, o2, v, js, ks, ms, wo, rfl, SqL.of F11.g2, SqL.of F11.g1, SqL.of F11.g0, hW11, by omega, by omega, by omega, oj.nd, ok.nd, om.nd, hwb, fun q2 H12 s12 hq2 hQ2 => ?_⟩
  refine ⟨.ref q2, _, rfl, .lst (SqL.of hQ2) (DWs.ints _), ok.conf om, _, rfl, rfl, _, rfl, iteNS rfl ?_⟩
  have F12 := F11.same s12
  have hW12 := hW11.same s12
  refine ⟨_, rfl, _, rfl, _, rfl, _, rfl, rfl, rfl, l, o2, o1, v, js, ms, ks, wo, rfl, SqL.of F12.g2, SqL.of F12.g0, SqL.of F12.g1, hW12, by omega, by omega, by omega, oj.nd, om.nd, ok.nd, hwb, fun q3 H13 s13 hq3 hQ3 => ?_⟩
  rw [conf_swap ok.nd om.nd] at hQ3
  refine ⟨.ref q3, _, rfl, .lst (SqL.of hQ3) (DWs.ints _), ok.conf om, _, rfl, rfl, _, rfl, iteNS rfl ?_⟩
  have F13 := F12.same s13
  have hW13 := hW12.same s13
  have sT13 := sT10.trans (s11.trans (s12.trans s13))
  rcases hW13 with ⟨rfl, rfl⟩ | ⟨p, ws, rfl, rfl, hp⟩
  · refine ⟨_, rfl, rfl, _, rfl, iteT ?_⟩
    refine ⟨_, rfl, _, rfl, _, rfl, l, o1, o2, .non, js, ks, ms, none, rfl, SqL.of F13.g2, SqL.of F13.g1, SqL.of F13.g0, .inl ⟨rfl, rfl⟩, by omega, by omega, by omega, oj.nd, ok.nd, om.nd, hwb0, fun q4 H14 s14 hq4 hQ4 => ?_⟩
    refine ⟨.ref q4, _, rfl, .lst (SqL.of hQ4) (DWs.ints _), ok.conf om, _, rfl, rfl, _, rfl, iteNS rfl ?_⟩
    have F14 := F13.same s14
    refine ⟨_, rfl, rfl, _, rfl, iteT ?_⟩
    refine ⟨_, rfl, _, rfl, l, o1, .non, js, ks, none, rfl, SqL.of F14.g2, SqL.of F14.g1, .inl ⟨rfl, rfl⟩, by omega, by omega, oj.nd, ok.nd, hwb0, fun q5 H15 s15 hq5 hQ5 => ?_⟩
    have F15 := F14.same s15
    refine ⟨_, rfl, _, rfl, l, o1, .non, js, ks, none, rfl, SqL.of F15.g2, SqL.of F15.g1, .inl ⟨rfl, rfl⟩, lj, lk, oj.nd, ok.nd, hw10, fun q6 H16 s16 hq6 hQ6 => ?_⟩
    refine ⟨q5, q6, _, _, rfl, rfl, SqL.of (s16 _ _ hQ5), SqL.of hQ6, _, rfl, ?_⟩
    rw [decide_eq_true rfl]
    refine iteF ?_
    have FG := F15.same s16
    have sG := sT13.trans (s14.trans (s15.trans s16))
    have GW2 : WtAt H16 .non none := .inl ⟨rfl, rfl⟩
    have GL : True ∧ H16 o2 = some (.lst (ms.map V.int)) ∧ H16 o1 = some (.lst (ks.map V.int)) ∧ H16 l = some (.lst (js.map V.int)) := ⟨trivial, FG.g0, FG.g1, FG.g2⟩
    -- three lists are changed
    refine ⟨_, rfl, _, rfl, _, rfl, rfl, rfl, l, o1, .non, js, ks, none, rfl, SqL.of (GL.2.2.2), SqL.of GL.2.2.1, GW2, by omega, by omega, oj.nd, ok.nd, hwb, fun r1 Ha sa hra hRa => ?_⟩
    refine ⟨Nat.zero_le _, fun e he => ?_⟩
    have se := Same.new (o := .lst []) he
    have hE : upd Ha e (.lst []) e = some (.lst (([] : List Int).map V.int)) := upd_same
    have hRa' := se _ _ hRa
    generalize (upd Ha e (.lst []) : Hp) = Hb at se hE hRa' ⊢
    have sab := sa.trans se
    refine ⟨_, rfl, e, o1, .non, [], ks, none, rfl, SqL.of hE, SqL.of (sab _ _ GL.2.2.1), .inl ⟨rfl, rfl⟩, Nat.zero_le _, by omega, List.nodup_nil, ok.nd, hwb0, fun r2 Hc sc hrc hRc => ?_⟩
    have sac := sab.trans sc
    refine ⟨_, rfl, _, rfl, _, rfl, l, o1, o2, .non, js, ks, ms, none, rfl, SqL.of (sac _ _ GL.2.2.2), SqL.of (sac _ _ GL.2.2.1), SqL.of (sac _ _ GL.2.1), .inl ⟨rfl, rfl⟩, by omega, by omega, by omega, oj.nd, ok.nd, om.nd, hwb0, fun r3 Hf sf hrf hRf => ?_⟩
    have saf := sac.trans sf
    refine ⟨by rw [h16]; show 3 ≤ 16777216; decide, fun W hW3 => ?_⟩
    have sW := Same.new (o := .lst [V.ref r1, V.ref r2, V.ref r3]) hW3
    have hWW : upd Hf W (.lst [V.ref r1, V.ref r2, V.ref r3]) W = some (.lst [V.ref r1, V.ref r2, V.ref r3]) := upd_same
    have q1 := sW _ _ (sf _ _ (sc _ _ hRa'))
    have q2 := sW _ _ (sf _ _ hRc)
    have q3 := sW _ _ hRf
    have sg := saf.trans sW
    have f1 : H16 r1 = none := hra
    have f2 : H16 r2 = none := Same.free sab hrc
    have f3 : H16 r3 = none := Same.free sac hrf
    have w1 : W ≠ r1 := (ne_of_none (sf _ _ (sc _ _ hRa')) hW3).symm
    have w2 : W ≠ r2 := (ne_of_none (sf _ _ hRc) hW3).symm
    have w3 : W ≠ r3 := (ne_of_none hRf hW3).symm
    generalize (upd Hf W (.lst [V.ref r1, V.ref r2, V.ref r3]) : Hp) = Hg at sW hWW q1 q2 q3 sg ⊢
    have hsm : ∀ r, r = r1 ∨ r = r2 ∨ r = r3 → ∃ ys, Hg r = some (.lst ys) ∧ ys.length ≤ 100 := by
      rintro r (rfl | rfl | rfl)
      · exact ⟨_, q1, by rw [List.length_map]; exact Nat.le_trans (List.length_filter_le _ _) (by omega)⟩
      · exact ⟨_, q2, by rw [List.length_map]; exact Nat.le_trans (List.length_filter_le _ _) (by omega)⟩
      · exact ⟨_, q3, by rw [List.length_map]; exact Nat.le_trans (ok.confLen om) (by decide)⟩
    refine ⟨W, rfl, ⟨_, SqL.of hWW⟩, for_list (K := K) (a := W) (xs := [V.ref r1, V.ref r2, V.ref r3]) (fun i σ H' => (∃ w9 w10 w11 : Option V, σ = [v0, v1, some (.ref d), v3, some (.ref l), some (.ref o1), some (.ref o2), some .non, some (.str dta.shown), w9, w10, w11]) ∧ Same H16 H' ∧ H' W = some (.lst [V.ref r1, V.ref r2, V.ref r3]) ∧ ∀ r, r = r1 ∨ r = r2 ∨ r = r3 → ∃ ys, H' r = some (.lst ys) ∧ ys.length ≤ 100 + i)
      ⟨⟨_, _, _, rfl⟩, sg, hWW, hsm⟩ (fun i σ H' _ z => SqL.of z.2.2.1) ?_ ?_⟩
    · rintro i y σ H' hi ⟨⟨w9, w10, w11, rfl⟩, s', hW', hr'⟩
      have hi3 := (List.getElem?_eq_some_iff.mp hi).1
      have hi3 : i < 3 := hi3
      obtain ⟨r, rfl, hrm, hrn⟩ : ∃ r, y = V.ref r ∧ (r = r1 ∨ r = r2 ∨ r = r3) ∧ (H16 r = none ∧ W ≠ r) := by
        match i, hi with
        | 0, hi => exact ⟨r1, (Option.some.inj hi).symm, .inl rfl, f1, w1⟩
        | 1, hi => exact ⟨r2, (Option.some.inj hi).symm, .inr (.inl rfl), f2, w2⟩
        | 2, hi => exact ⟨r3, (Option.some.inj hi).symm, .inr (.inr rfl), f3, w3⟩
      obtain ⟨ys, hys, hyl⟩ := hr' r hrm
      refine ⟨_, rfl, .inl ⟨rfl, _, SqL.of hys⟩, r, _, _, rfl, rfl, hys, by rw [h16]; omega, ?_⟩
      refine ⟨⟨_, _, _, rfl⟩, fun b u z => by rw [upd_ne (ne_of_none z hrn.1)]; exact s' _ _ z, by rw [upd_ne hrn.2]; exact hW', fun r' hr2 => ?_⟩
      by_cases e : r' = r
      · rw [e]
        exact ⟨_, upd_same, by rw [List.length_append]; show _ + 1 ≤ _; omega⟩
      · obtain ⟨zs, g1, g2⟩ := hr' r' hr2
        exact ⟨zs, by rw [upd_ne e]; exact g1, by omega⟩
    · rintro σ H' ⟨⟨w9, w10, w11, rfl⟩, s', hW', hr'⟩
      refine ⟨_, rfl, _, rfl, _, rfl, _, rfl, by rw [h16]; show 4 ≤ 16777216; decide, fun T2 hT2 => ?_⟩
      have s2' := s'.trans (Same.new (o := .tup [V.ref l, V.ref o1, V.ref o2, .non]) hT2)
      refine ⟨.ref T2, dta, rfl, hdta _ T2 (sG.trans s2') upd_same, okd, _, rfl, rfl, _, rfl, iteNS rfl ?_⟩
      exact k _ _ _ _ _ _ (FG.same s2').tail.tail.tail
  · refine ⟨_, rfl, rfl, _, rfl, iteF ?_⟩
    refine ⟨_, rfl, rfl, _, rfl, iteF ?_⟩
    have FG := F13
    have sG := sT13
    have GW2 : WtAt H13 (.ref p) (some ws) := .inr ⟨p, ws, rfl, rfl, hp⟩
    have GL : True ∧ H13 o2 = some (.lst (ms.map V.int)) ∧ H13 o1 = some (.lst (ks.map V.int)) ∧ H13 l = some (.lst (js.map V.int)) := ⟨trivial, FG.g0, FG.g1, FG.g2⟩
    -- three lists are changed
    refine ⟨_, rfl, _, rfl, _, rfl, rfl, rfl, l, o1, (.ref p), js, ks, (some ws), rfl, SqL.of (GL.2.2.2), SqL.of GL.2.2.1, GW2, by omega, by omega, oj.nd, ok.nd, hwb, fun r1 Ha sa hra hRa => ?_⟩
    refine ⟨Nat.zero_le _, fun e he => ?_⟩
    have se := Same.new (o := .lst []) he
    have hE : upd Ha e (.lst []) e = some (.lst (([] : List Int).map V.int)) := upd_same
    have hRa' := se _ _ hRa
    generalize (upd Ha e (.lst []) : Hp) = Hb at se hE hRa' ⊢
    have sab := sa.trans se
    refine ⟨_, rfl, e, o1, .non, [], ks, none, rfl, SqL.of hE, SqL.of (sab _ _ GL.2.2.1), .inl ⟨rfl, rfl⟩, Nat.zero_le _, by omega, List.nodup_nil, ok.nd, hwb0, fun r2 Hc sc hrc hRc => ?_⟩
    have sac := sab.trans sc
    refine ⟨_, rfl, _, rfl, _, rfl, l, o1, o2, .non, js, ks, ms, none, rfl, SqL.of (sac _ _ GL.2.2.2), SqL.of (sac _ _ GL.2.2.1), SqL.of (sac _ _ GL.2.1), .inl ⟨rfl, rfl⟩, by omega, by omega, by omega, oj.nd, ok.nd, om.nd, hwb0, fun r3 Hf sf hrf hRf => ?_⟩
    have saf := sac.trans sf
    refine ⟨by rw [h16]; show 3 ≤ 16777216; decide, fun W hW3 => ?_⟩
    have sW := Same.new (o := .lst [V.ref r1, V.ref r2, V.ref r3]) hW3
    have hWW : upd Hf W (.lst [V.ref r1, V.ref r2, V.ref r3]) W = some (.lst [V.ref r1, V.ref r2, V.ref r3]) := upd_same
    have q1 := sW _ _ (sf _ _ (sc _ _ hRa'))
    have q2 := sW _ _ (sf _ _ hRc)
    have q3 := sW _ _ hRf
    have sg := saf.trans sW
    have f1 : H13 r1 = none := hra
    have f2 : H13 r2 = none := Same.free sab hrc
    have f3 : H13 r3 = none := Same.free sac hrf
    have w1 : W ≠ r1 := (ne_of_none (sf _ _ (sc _ _ hRa')) hW3).symm
    have w2 : W ≠ r2 := (ne_of_none (sf _ _ hRc) hW3).symm
    have w3 : W ≠ r3 := (ne_of_none hRf hW3).symm
    generalize (upd Hf W (.lst [V.ref r1, V.ref r2, V.ref r3]) : Hp) = Hg at sW hWW q1 q2 q3 sg ⊢
    have hsm : ∀ r, r = r1 ∨ r = r2 ∨ r = r3 → ∃ ys, Hg r = some (.lst ys) ∧ ys.length ≤ 100 := by
      rintro r (rfl | rfl | rfl)
      · exact ⟨_, q1, by rw [List.length_map]; exact Nat.le_trans (List.length_filter_le _ _) (by omega)⟩
      · exact ⟨_, q2, by rw [List.length_map]; exact Nat.le_trans (List.length_filter_le _ _) (by omega)⟩
      · exact ⟨_, q3, by rw [List.length_map]; exact Nat.le_trans (ok.confLen om) (by decide)⟩
    refine ⟨W, rfl, ⟨_, SqL.of hWW⟩, for_list (K := K) (a := W) (xs := [V.ref r1, V.ref r2, V.ref r3]) (fun i σ H' => (∃ w9 w10 w11 : Option V, σ = [v0, v1, some (.ref d), v3, some (.ref l), some (.ref o1), some (.ref o2), some (.ref p), some (.str dta.shown), w9, w10, w11]) ∧ Same H13 H' ∧ H' W = some (.lst [V.ref r1, V.ref r2, V.ref r3]) ∧ ∀ r, r = r1 ∨ r = r2 ∨ r = r3 → ∃ ys, H' r = some (.lst ys) ∧ ys.length ≤ 100 + i)
      ⟨⟨_, _, _, rfl⟩, sg, hWW, hsm⟩ (fun i σ H' _ z => SqL.of z.2.2.1) ?_ ?_⟩
    · rintro i y σ H' hi ⟨⟨w9, w10, w11, rfl⟩, s', hW', hr'⟩
      have hi3 := (List.getElem?_eq_some_iff.mp hi).1
      have hi3 : i < 3 := hi3
      obtain ⟨r, rfl, hrm, hrn⟩ : ∃ r, y = V.ref r ∧ (r = r1 ∨ r = r2 ∨ r = r3) ∧ (H13 r = none ∧ W ≠ r) := by
        match i, hi with
        | 0, hi => exact ⟨r1, (Option.some.inj hi).symm, .inl rfl, f1, w1⟩
        | 1, hi => exact ⟨r2, (Option.some.inj hi).symm, .inr (.inl rfl), f2, w2⟩
        | 2, hi => exact ⟨r3, (Option.some.inj hi).symm, .inr (.inr rfl), f3, w3⟩
      obtain ⟨ys, hys, hyl⟩ := hr' r hrm
      refine ⟨_, rfl, .inl ⟨rfl, _, SqL.of hys⟩, r, _, _, rfl, rfl, hys, by rw [h16]; omega, ?_⟩
      refine ⟨⟨_, _, _, rfl⟩, fun b u z => by rw [upd_ne (ne_of_none z hrn.1)]; exact s' _ _ z, by rw [upd_ne hrn.2]; exact hW', fun r' hr2 => ?_⟩
      by_cases e : r' = r
      · rw [e]
        exact ⟨_, upd_same, by rw [List.length_append]; show _ + 1 ≤ _; omega⟩
      · obtain ⟨zs, g1, g2⟩ := hr' r' hr2
        exact ⟨zs, by rw [upd_ne e]; exact g1, by omega⟩
    · rintro σ H' ⟨⟨w9, w10, w11, rfl⟩, s', hW', hr'⟩
      refine ⟨_, rfl, _, rfl, _, rfl, _, rfl, by rw [h16]; show 4 ≤ 16777216; decide, fun T2 hT2 => ?_⟩
      have s2' := s'.trans (Same.new (o := .tup [V.ref l, V.ref o1, V.ref o2, (.ref p)]) hT2)
      refine ⟨.ref T2, dta, rfl, hdta _ T2 (sG.trans s2') upd_same, okd, _, rfl, rfl, _, rfl, iteNS rfl ?_⟩
      exact k _ _ _ _ _ _ (FG.same s2').tail.tail.tail
theorem ok_law {f fDe fDr fC fI fSi fN fW fMi fM fCf fLc : Addr} {fd fdDe fdDr fdC fdI fdSi fdN fdW fdMi fdM fdCf fdLc : FuncData} (F : Fun K "law" "law" sLaw f fd) (TD : TxtD mg) (TL : TxtL mg)
    (De : Fn K mg "_law_stream" sDeck ["script", "start"] fDe fdDe) (Dr : Fn K mg "_law_draw" sDraw ["stream", "size"] fDr fdDr)
    (Ch : Fn K mg "_law_choose" sChoose ["stream", "items"] fC fdC) (GC : FnOk P w K mg base CX0 2 fC fdC ["stream", "items"] (spChoose K))
    (Id : Fn K mg "_law_ids" sIds ["stream", "most"] fI fdI) (GI : FnOk P w K mg base CX0 3 fI fdI ["stream", "most"] spIds)
    (Si : Fn K mg "_law_side" sSide ["stream", "order"] fSi fdSi) (GSi : FnOk P w K mg base CX0 4 fSi fdSi ["stream", "order"] (spSide K))
    (Nr : Fn K mg "_law_near" sNear ["stream", "order"] fN fdN) (GN : FnOk P w K mg base CX0 3 fN fdN ["stream", "order"] (spNear K))
    (We : Fn K mg "_law_weights" sWeights ["stream", "ids"] fW fdW) (GW : FnOk P w K mg base CX0 3 fW fdW ["stream", "ids"] (spWeights K))
    (Mi : FnD P w K mg base 4 2 "moved_ids" ["start", "side", "weights"] ["weights"] [.non] (spMovedIds K) fMi fdMi)
    (Mo : Fn K mg "_law_moved" sMoved ["start", "side", "scale"] fM fdM) (GM : FnOk P w K mg base CX0 3 fM fdM ["start", "side", "scale"] (spMoved K))
    (Cf : FnD P w K mg base 5 3 "conflicts" ["start", "first", "second", "weights"] ["weights"] [.non] (spConf K) fCf fdCf)
    (Lc : Fn K mg "_law_conflicts" sLawConf ["start", "first", "second", "scale"] fLc fdLc) (GLc : FnOk P w K mg base CX0 4 fLc fdLc ["start", "first", "second", "scale"] (spLawC K)) : FnG P w K mg base 6 f fd ["script"] (spLaw K) := by
  have GDe : FnOk P w K mg base CX0 1 fDe fdDe ["script", "start"] (spDeck K) := ok_deck De.F TD
  have GDr : FnOk P w K mg base CX0 1 fDr fdDr ["stream", "size"] spDraw := ok_draw Dr.F
  obtain ⟨dsM, vM, bM⟩ := Mi.d
  obtain ⟨dsC, vC, bC⟩ := Cf.d
  refine FnG.mk' F scLaw (fun vs H Q E h => ?_) (fun cdv A outer s H vs Q E hg hr h => ?_)
  · obtain ⟨a, ns, rfl, _⟩ := h
    rfl
  · obtain ⟨a, ns, rfl, hS, hlen, hbits, k⟩ := h
    have hr1 : Room 1 _ := hr.mono (by decide)
    have hr2 : Room 2 _ := hr.mono (by decide)
    have hr3 : Room 3 _ := hr.mono (by decide)
    have hr4 : Room 4 _ := hr.mono (by decide)
    have h64 := hu64 hr
    have hu := hu_of hr
    obtain ⟨t4, ht4, hk4⟩ := tail41 (P := P) (w := w) (mg := mg) (base := base) F TL We GW Mi Mo GM Cf Lc GLc (cdv := cdv) (A := A) (outer := outer) (s := s) (H := H) (E := E) hg hr
    refine ⟨_, pss_cons (ps_for PassesOwn.never rfl (pi_range1 rfl TL.range (pa_cons (pe_callB (call_max2 rfl) (by rfl) TL.max (by decide +kernel) (pa_cons pe_int (pa_cons (pe_callB (call_min2 rfl) (by rfl) TL.min (by decide +kernel) (pa_cons pe_int (pa_cons (pe_callB call_len_seq (by rfl) TD.len PySem.boot_len (pa_cons (pv 0) pa_nil)) pa_nil))) pa_nil))) pa_nil)) (pg_name (i := 1) scLaw.nd rfl (Or.inl rfl))
        (pss_cons (ps_set (i := 2) scLaw.nd rfl (Or.inl rfl) (pe_call GDe hr1 rfl De.m De.F.kp De.b .nil pass0 (pa_cons (pv 0) (pa_cons (pv 1) pa_nil))))
        (pss_one (ps_for PassesOwn.never rfl (pi_range1 rfl TL.range (pa_cons pe_int pa_nil)) (pg_name (i := 3) scLaw.nd rfl (Or.inl rfl))
          (pss_cons (ps_set (i := 4) scLaw.nd rfl (Or.inl rfl) (pe_call GI hr3 rfl Id.m Id.F.kp Id.b .nil pass0 (pa_cons (pv 2) (pa_cons pe_int pa_nil))))
          (pss_cons (ps_set (i := 5) scLaw.nd rfl (Or.inl rfl) (pe_call GSi hr4 rfl Si.m Si.F.kp Si.b .nil pass0 (pa_cons (pv 2) (pa_cons (pv 4) pa_nil))))
          (pss_cons (ps_set (i := 6) scLaw.nd rfl (Or.inl rfl) (pe_call GSi hr4 rfl Si.m Si.F.kp Si.b .nil pass0 (pa_cons (pv 2) (pa_cons (pv 4) pa_nil))))
          (pss_cons (ps_if (pt_cmpR op_eq (pe_call GDr hr1 rfl Dr.m Dr.F.kp Dr.b .nil pass0 (pa_cons (pv 2) (pa_cons pe_int pa_nil))) pe_int (nomark _))
            (pss_one (ps_set (i := 6) scLaw.nd rfl (Or.inl rfl) (pe_call GC hr2 rfl Ch.m Ch.F.kp Ch.b .nil pass0 (pa_cons (pv 2) (pa_cons (pe_lst (pa_cons (pv 5) (pa_cons (pe_call GN hr3 rfl Nr.m Nr.F.kp Nr.b .nil pass0 (pa_cons (pv 2) (pa_cons (pv 5) pa_nil))) pa_nil))) pa_nil))))) pss_nil)
          ht4))))))))
      (pss_one (ps_ret pe_bl)), ?_⟩
    obtain ⟨J, hJ, hJ0, hJ6⟩ : ∃ J : Int, J = (if (if (((ns.map V.int).length : Nat) : Int) < 3 then (((ns.map V.int).length : Nat) : Int) else 3) > 1 then (if (((ns.map V.int).length : Nat) : Int) < 3 then (((ns.map V.int).length : Nat) : Int) else 3) else 1) ∧ 0 ≤ J ∧ J ≤ 3 := by
      refine ⟨_, rfl, ?_, ?_⟩
      · split <;> split <;> omega
      · split <;> split <;> omega
    refine ⟨_, rfl, a, _, rfl, .inl hS, _, _, rfl, _, _, rfl, J, by rw [hJ], by omega, by omega, ?_⟩
    refine for_range (lo := 0) (n := J.toNat) (fun i σ H' => (∃ v1 v2 v3 v4 v5 v6 v7 v8 v9 v10 v11 : Option V, σ = [some (.ref a), v1, v2, v3, v4, v5, v6, v7, v8, v9, v10, v11]) ∧ Same H H')
      ⟨⟨none, none, none, none, none, none, none, none, none, none, none, rfl⟩, Same.refl H⟩ ?_ ?_
    · rintro st σ H0 hst ⟨⟨v1, v2, v3, v4, v5, v6, v7, v8, v9, v10, v11, rfl⟩, s0⟩
      refine ⟨_, rfl, _, rfl, a, ns, _, rfl, Same.sq s0 hS, hlen, hbits, by omega, by omega, fun d Hd hd sd D => ?_⟩
      have hHd : H d = none := Same.free s0 hd
      have sd0 : Same H Hd := s0.trans sd
      refine ⟨5, rfl, by decide, by decide, ?_⟩
      refine for_range (lo := 0) (n := 5) (fun i σ H' => (∃ v3 v4 v5 v6 v7 v8 v9 v10 v11 : Option V, σ = [some (.ref a), some (.int (0 + (st : Int))), some (.ref d), v3, v4, v5, v6, v7, v8, v9, v10, v11]) ∧ Fs d Hd [] H')
        ⟨⟨_, _, _, _, _, _, _, _, _, rfl⟩, Fs.start D⟩ ?_ ?_
      · rintro tu σ H1 htu ⟨⟨v3, v4, v5, v6, v7, v8, v9, v10, v11, rfl⟩, F1⟩
        refine ⟨_, rfl, d, 7, rfl, F1.deck, by decide, fun l js H2 hl B2 D2 hL hjl ndJ hjI => ?_⟩
        have F2 := (F1.step D2 B2).add hL (F1.deck.ne hl)
        have hnew : ∀ z ∈ js, z ∉ newI := fun z hz q => by
          have := some_in (hjI z hz)
          unfold newI at q
          simp at q
          omega
        have oj : OrdI js := ⟨ndJ, by omega, fun z hz => by have := some_in (hjI z hz); omega⟩
        have bdn : ∀ {zs : List Int}, (∀ z ∈ zs, z ∈ js ∨ z ∈ newI) → ∀ z ∈ zs, 0 ≤ z ∧ z ≤ 1000000 := fun {zs} h z hz => by
          rcases h z hz with q | q
          · exact oj.bd z q
          · have : ∀ z ∈ newI, 0 ≤ z ∧ z ≤ 1000000 := by decide
            exact this z q
        refine ⟨_, rfl, _, rfl, d, l, js, rfl, F2.deck, SqL.of F2.g0, by omega, ndJ, hnew, fun o1 ks H3 ho1 B3 D3 hO1 nk hk hkl => ?_⟩
        have F3 := (F2.step D3 B3).add hO1 (F2.deck.ne ho1)
        have ok : OrdI ks := ⟨nk, by omega, bdn hk⟩
        refine ⟨_, rfl, _, rfl, d, l, js, rfl, F3.deck, SqL.of F3.g1, by omega, ndJ, hnew, fun o2 ms H4 ho2 B4 D4 hO2 nm hm hml => ?_⟩
        have F4 := (F3.step D4 B4).add hO2 (F3.deck.ne ho2)
        have om : OrdI ms := ⟨nm, by omega, bdn hm⟩
        refine ⟨_, rfl, d, 3, rfl, F4.deck, by decide, by decide, fun z H5 z0 z1 D5 B5 => ?_⟩
        have F5 := F4.step D5 B5
        refine ⟨rfl, _, rfl, ite2 (fun c => ?_) (fun c => ?_)⟩
        · refine ⟨_, rfl, _, rfl, _, rfl, _, rfl, d, o1, ks, rfl, F5.deck, SqL.of F5.g1, by have := ok.len; omega, fun o3 rs H6 ho3 B6 D6 hO3 hperm => ?_⟩
          have n3 := F5.deck.ne ho3
          have F6 := F5.step D6 B6
          have orr : OrdI rs := ⟨hperm.nodup_iff.mpr nk, by rw [hperm.length_eq]; exact ok.len, fun z hz => ok.bd z (hperm.mem_iff.mp hz)⟩
          refine ⟨by show 2 ≤ sizeLine; decide, fun u hu2 => ?_⟩
          have su := Same.new (o := .lst [V.ref o1, V.ref o3]) hu2
          have hU : upd H6 u (.lst [V.ref o1, V.ref o3]) u = some (.lst [V.ref o1, V.ref o3]) := upd_same
          have F7 := F6.same su
          have hO37 := su _ _ hO3
          have nud := F6.deck.ne hu2
          refine ⟨d, u, _, rfl, F7.deck, nud, SqL.of hU, (fun z => by cases z), (by show 2 < 1000000; decide), fun w' H8 hv D8 B8 => ?_⟩
          have F8 := F7.step D8 B8
          have hO38 := B8 _ _ n3 hO37
          rcases List.mem_cons.mp hv with rfl | hv
          · refine hk4 Hd H8 _ _ _ _ _ _ _ _ d l o1 o1 js ks ks _ (F8.tail.add F8.g1 F8.n1) oj ok ok fun u7 u8 u9 u10 u11 H' z => ?_
            exact ⟨⟨_, _, _, _, _, _, _, _, _, rfl⟩, z⟩
          · obtain rfl := List.mem_singleton.mp hv
            refine hk4 Hd H8 _ _ _ _ _ _ _ _ d l o1 o3 js ks rs _ (F8.tail.add hO38 n3) oj ok orr fun u7 u8 u9 u10 u11 H' z => ?_
            exact ⟨⟨_, _, _, _, _, _, _, _, _, rfl⟩, z⟩
        · refine hk4 Hd H5 _ _ _ _ _ _ _ _ d l o1 o2 js ks ms _ F5 oj ok om fun u7 u8 u9 u10 u11 H' z => ?_
          exact ⟨⟨_, _, _, _, _, _, _, _, _, rfl⟩, z⟩
      · rintro σ H1 ⟨⟨v3, v4, v5, v6, v7, v8, v9, v10, v11, rfl⟩, F1⟩
        exact ⟨⟨_, _, _, _, _, _, _, _, _, _, _, rfl⟩, F1.old hHd sd0⟩
    · rintro σ H1 ⟨⟨v1, v2, v3, v4, v5, v6, v7, v8, v9, v10, v11, rfl⟩, s1⟩
      exact k H1
end
/-! ### what the top has written, the head -/
theorem all_mk {l : PySem.W.OpenLaw} {w : World} {K : PySem.W.Frag} {h : Heap} {mg : Str → Option Value} {fa : Addr} (X : K.In h) (G : h.Ns mainGlobals mg) (hfa : mg "law" = some (.ref fa))
    {f1 : Addr} {od1 an1 : Option Addr} {sl1 : Array (Option Value)} {oc1 kV1 dc1 pm1 cd1 ct1 : Value}
    {f2 : Addr} {od2 an2 : Option Addr} {sl2 : Array (Option Value)} {oc2 kV2 dc2 pm2 cd2 ct2 : Value}
    {f3 : Addr} {od3 an3 : Option Addr} {sl3 : Array (Option Value)} {oc3 kV3 dc3 pm3 cd3 ct3 : Value}
    {f4 : Addr} {od4 an4 : Option Addr} {sl4 : Array (Option Value)} {oc4 kV4 dc4 pm4 cd4 ct4 : Value}
    {f5 : Addr} {od5 an5 : Option Addr} {sl5 : Array (Option Value)} {oc5 kV5 dc5 pm5 cd5 ct5 : Value}
    {f6 : Addr} {od6 an6 : Option Addr} {sl6 : Array (Option Value)} {oc6 dc6 pm6 cd6 ct6 : Value} {D6 : Addr} {E6 : Addr} {dE6 : Option Addr} {nE6 : Nat} {sE6 : Array (Option Value)}
    {f7 : Addr} {od7 an7 : Option Addr} {sl7 : Array (Option Value)} {oc7 kV7 dc7 pm7 cd7 ct7 : Value}
    {f8 : Addr} {od8 an8 : Option Addr} {sl8 : Array (Option Value)} {oc8 kV8 dc8 pm8 cd8 ct8 : Value}
    {f9 : Addr} {od9 an9 : Option Addr} {sl9 : Array (Option Value)} {oc9 dc9 pm9 cd9 ct9 : Value} {D9 : Addr}
    {f10 : Addr} {od10 an10 : Option Addr} {sl10 : Array (Option Value)} {oc10 dc10 pm10 cd10 ct10 : Value} {D10 : Addr}
    {f11 : Addr} {od11 an11 : Option Addr} {sl11 : Array (Option Value)} {oc11 kV11 dc11 pm11 cd11 ct11 : Value}
    {f12 : Addr} {od12 an12 : Option Addr} {sl12 : Array (Option Value)} {oc12 kV12 dc12 pm12 cd12 ct12 : Value}
    {f13 : Addr} {od13 an13 : Option Addr} {sl13 : Array (Option Value)} {oc13 kV13 dc13 pm13 cd13 ct13 : Value}
    {f14 : Addr} {od14 an14 : Option Addr} {sl14 : Array (Option Value)} {oc14 kV14 dc14 pm14 cd14 ct14 : Value}
    {f15 : Addr} {od15 an15 : Option Addr} {sl15 : Array (Option Value)} {oc15 kV15 dc15 pm15 cd15 ct15 : Value}
    {f16 : Addr} {od16 an16 : Option Addr} {sl16 : Array (Option Value)} {oc16 kV16 dc16 pm16 cd16 ct16 : Value}
    {f17 : Addr} {od17 an17 : Option Addr} {sl17 : Array (Option Value)} {oc17 kV17 dc17 pm17 cd17 ct17 : Value}
    {f18 : Addr} {od18 an18 : Option Addr} {sl18 : Array (Option Value)} {oc18 kV18 dc18 pm18 cd18 ct18 : Value}
    {f19 : Addr} {od19 an19 : Option Addr} {sl19 : Array (Option Value)} {oc19 kV19 dc19 pm19 cd19 ct19 : Value}
    {f20 : Addr} {od20 an20 : Option Addr} {sl20 : Array (Option Value)} {oc20 kV20 dc20 pm20 cd20 ct20 : Value}
    {f21 : Addr} {od21 an21 : Option Addr} {sl21 : Array (Option Value)} {oc21 kV21 dc21 pm21 cd21 ct21 : Value}
    {f22 : Addr} {od22 an22 : Option Addr} {sl22 : Array (Option Value)} {oc22 kV22 dc22 pm22 cd22 ct22 : Value}
    {f23 : Addr} {od23 an23 : Option Addr} {sl23 : Array (Option Value)} {oc23 kV23 dc23 pm23 cd23 ct23 : Value}
    {f24 : Addr} {od24 an24 : Option Addr} {sl24 : Array (Option Value)} {oc24 kV24 dc24 pm24 cd24 ct24 : Value}
    {f25 : Addr} {od25 an25 : Option Addr} {sl25 : Array (Option Value)} {oc25 kV25 dc25 pm25 cd25 ct25 : Value}
    (a1 : PySem.W.nsIn K mainGlobals "places_of" = some (some (.ref f1))) (l1 : K.lookup f1 = some ⟨oc1, od1, .func (PySem.W.fnOf "places_of" "places_of" (defArgs sPlaces) (defBody sPlaces) (defScope sPlaces) .none kV1 dc1 pm1 an1 cd1 ct1), sl1⟩) (c1 : PySem.W.codeIn K cd1 "places_of" = true) (k1 : PySem.W.keepIn K (.ref f1) = true)
    (a2 : PySem.W.nsIn K mainGlobals "neighbours" = some (some (.ref f2))) (l2 : K.lookup f2 = some ⟨oc2, od2, .func (PySem.W.fnOf "neighbours" "neighbours" (defArgs sNeigh) (defBody sNeigh) (defScope sNeigh) .none kV2 dc2 pm2 an2 cd2 ct2), sl2⟩) (c2 : PySem.W.codeIn K cd2 "neighbours" = true) (k2 : PySem.W.keepIn K (.ref f2) = true)
    (a3 : PySem.W.nsIn K mainGlobals "full_weights" = some (some (.ref f3))) (l3 : K.lookup f3 = some ⟨oc3, od3, .func (PySem.W.fnOf "full_weights" "full_weights" (defArgs sFull) (defBody sFull) (defScope sFull) .none kV3 dc3 pm3 an3 cd3 ct3), sl3⟩) (c3 : PySem.W.codeIn K cd3 "full_weights" = true) (k3 : PySem.W.keepIn K (.ref f3) = true)
    (a4 : PySem.W.nsIn K mainGlobals "top_levels" = some (some (.ref f4))) (l4 : K.lookup f4 = some ⟨oc4, od4, .func (PySem.W.fnOf "top_levels" "top_levels" (defArgs sTops) (defBody sTops) (defScope sTops) .none kV4 dc4 pm4 an4 cd4 ct4), sl4⟩) (c4 : PySem.W.codeIn K cd4 "top_levels" = true) (k4 : PySem.W.keepIn K (.ref f4) = true)
    (a5 : PySem.W.nsIn K mainGlobals "favoured_worths" = some (some (.ref f5))) (l5 : K.lookup f5 = some ⟨oc5, od5, .func (PySem.W.fnOf "favoured_worths" "favoured_worths" (defArgs sFavs) (defBody sFavs) (defScope sFavs) .none kV5 dc5 pm5 an5 cd5 ct5), sl5⟩) (c5 : PySem.W.codeIn K cd5 "favoured_worths" = true) (k5 : PySem.W.keepIn K (.ref f5) = true)
    (a6 : PySem.W.nsIn K mainGlobals "best_straight" = some (some (.ref f6))) (l6 : K.lookup f6 = some ⟨oc6, od6, .func (PySem.W.fnOf "best_straight" "best_straight" (defArgs sBest) (defBody sBest) (defScope sBest) .none (.ref D6) dc6 pm6 an6 cd6 ct6), sl6⟩) (c6 : PySem.W.codeIn K cd6 "best_straight" = true) (k6 : PySem.W.keepIn K (.ref f6) = true)
    (w6_0 : PySem.W.nsIn K D6 "weights" = some (some .none))
    (w6_1 : PySem.W.nsIn K D6 "favoured" = some (some (.ref E6)))
    (v6 : K.lookup E6 = some ⟨.type "tuple", dE6, .seq #[] nE6, sE6⟩)
    (a7 : PySem.W.nsIn K mainGlobals "among" = some (some (.ref f7))) (l7 : K.lookup f7 = some ⟨oc7, od7, .func (PySem.W.fnOf "among" "among" (defArgs sAmong) (defBody sAmong) (defScope sAmong) .none kV7 dc7 pm7 an7 cd7 ct7), sl7⟩) (c7 : PySem.W.codeIn K cd7 "among" = true) (k7 : PySem.W.keepIn K (.ref f7) = true)
    (a8 : PySem.W.nsIn K mainGlobals "without" = some (some (.ref f8))) (l8 : K.lookup f8 = some ⟨oc8, od8, .func (PySem.W.fnOf "without" "without" (defArgs sWithout) (defBody sWithout) (defScope sWithout) .none kV8 dc8 pm8 an8 cd8 ct8), sl8⟩) (c8 : PySem.W.codeIn K cd8 "without" = true) (k8 : PySem.W.keepIn K (.ref f8) = true)
    (a9 : PySem.W.nsIn K mainGlobals "moved_ids" = some (some (.ref f9))) (l9 : K.lookup f9 = some ⟨oc9, od9, .func (PySem.W.fnOf "moved_ids" "moved_ids" (defArgs sMovedIds) (defBody sMovedIds) (defScope sMovedIds) .none (.ref D9) dc9 pm9 an9 cd9 ct9), sl9⟩) (c9 : PySem.W.codeIn K cd9 "moved_ids" = true) (k9 : PySem.W.keepIn K (.ref f9) = true)
    (w9_0 : PySem.W.nsIn K D9 "weights" = some (some .none))
    (a10 : PySem.W.nsIn K mainGlobals "conflicts" = some (some (.ref f10))) (l10 : K.lookup f10 = some ⟨oc10, od10, .func (PySem.W.fnOf "conflicts" "conflicts" (defArgs sConf) (defBody sConf) (defScope sConf) .none (.ref D10) dc10 pm10 an10 cd10 ct10), sl10⟩) (c10 : PySem.W.codeIn K cd10 "conflicts" = true) (k10 : PySem.W.keepIn K (.ref f10) = true)
    (w10_0 : PySem.W.nsIn K D10 "weights" = some (some .none))
    (a11 : PySem.W.nsIn K mainGlobals "_law_stream" = some (some (.ref f11))) (l11 : K.lookup f11 = some ⟨oc11, od11, .func (PySem.W.fnOf "_law_stream" "_law_stream" (defArgs sDeck) (defBody sDeck) (defScope sDeck) .none kV11 dc11 pm11 an11 cd11 ct11), sl11⟩) (c11 : PySem.W.codeIn K cd11 "_law_stream" = true) (k11 : PySem.W.keepIn K (.ref f11) = true)
    (a12 : PySem.W.nsIn K mainGlobals "_law_draw" = some (some (.ref f12))) (l12 : K.lookup f12 = some ⟨oc12, od12, .func (PySem.W.fnOf "_law_draw" "_law_draw" (defArgs sDraw) (defBody sDraw) (defScope sDraw) .none kV12 dc12 pm12 an12 cd12 ct12), sl12⟩) (c12 : PySem.W.codeIn K cd12 "_law_draw" = true) (k12 : PySem.W.keepIn K (.ref f12) = true)
    (a13 : PySem.W.nsIn K mainGlobals "_law_choose" = some (some (.ref f13))) (l13 : K.lookup f13 = some ⟨oc13, od13, .func (PySem.W.fnOf "_law_choose" "_law_choose" (defArgs sChoose) (defBody sChoose) (defScope sChoose) .none kV13 dc13 pm13 an13 cd13 ct13), sl13⟩) (c13 : PySem.W.codeIn K cd13 "_law_choose" = true) (k13 : PySem.W.keepIn K (.ref f13) = true)
    (a14 : PySem.W.nsIn K mainGlobals "_law_shuffled" = some (some (.ref f14))) (l14 : K.lookup f14 = some ⟨oc14, od14, .func (PySem.W.fnOf "_law_shuffled" "_law_shuffled" (defArgs sShuf) (defBody sShuf) (defScope sShuf) .none kV14 dc14 pm14 an14 cd14 ct14), sl14⟩) (c14 : PySem.W.codeIn K cd14 "_law_shuffled" = true) (k14 : PySem.W.keepIn K (.ref f14) = true)
    (a15 : PySem.W.nsIn K mainGlobals "_law_ids" = some (some (.ref f15))) (l15 : K.lookup f15 = some ⟨oc15, od15, .func (PySem.W.fnOf "_law_ids" "_law_ids" (defArgs sIds) (defBody sIds) (defScope sIds) .none kV15 dc15 pm15 an15 cd15 ct15), sl15⟩) (c15 : PySem.W.codeIn K cd15 "_law_ids" = true) (k15 : PySem.W.keepIn K (.ref f15) = true)
    (a16 : PySem.W.nsIn K mainGlobals "_law_near" = some (some (.ref f16))) (l16 : K.lookup f16 = some ⟨oc16, od16, .func (PySem.W.fnOf "_law_near" "_law_near" (defArgs sNear) (defBody sNear) (defScope sNear) .none kV16 dc16 pm16 an16 cd16 ct16), sl16⟩) (c16 : PySem.W.codeIn K cd16 "_law_near" = true) (k16 : PySem.W.keepIn K (.ref f16) = true)
    (a17 : PySem.W.nsIn K mainGlobals "_law_side" = some (some (.ref f17))) (l17 : K.lookup f17 = some ⟨oc17, od17, .func (PySem.W.fnOf "_law_side" "_law_side" (defArgs sSide) (defBody sSide) (defScope sSide) .none kV17 dc17 pm17 an17 cd17 ct17), sl17⟩) (c17 : PySem.W.codeIn K cd17 "_law_side" = true) (k17 : PySem.W.keepIn K (.ref f17) = true)
    (a18 : PySem.W.nsIn K mainGlobals "_law_weights" = some (some (.ref f18))) (l18 : K.lookup f18 = some ⟨oc18, od18, .func (PySem.W.fnOf "_law_weights" "_law_weights" (defArgs sWeights) (defBody sWeights) (defScope sWeights) .none kV18 dc18 pm18 an18 cd18 ct18), sl18⟩) (c18 : PySem.W.codeIn K cd18 "_law_weights" = true) (k18 : PySem.W.keepIn K (.ref f18) = true)
    (a19 : PySem.W.nsIn K mainGlobals "_law_weight" = some (some (.ref f19))) (l19 : K.lookup f19 = some ⟨oc19, od19, .func (PySem.W.fnOf "_law_weight" "_law_weight" (defArgs sWeight) (defBody sWeight) (defScope sWeight) .none kV19 dc19 pm19 an19 cd19 ct19), sl19⟩) (c19 : PySem.W.codeIn K cd19 "_law_weight" = true) (k19 : PySem.W.keepIn K (.ref f19) = true)
    (a20 : PySem.W.nsIn K mainGlobals "_law_subsets" = some (some (.ref f20))) (l20 : K.lookup f20 = some ⟨oc20, od20, .func (PySem.W.fnOf "_law_subsets" "_law_subsets" (defArgs sSubsets) (defBody sSubsets) (defScope sSubsets) .none kV20 dc20 pm20 an20 cd20 ct20), sl20⟩) (c20 : PySem.W.codeIn K cd20 "_law_subsets" = true) (k20 : PySem.W.keepIn K (.ref f20) = true)
    (a21 : PySem.W.nsIn K mainGlobals "_law_best" = some (some (.ref f21))) (l21 : K.lookup f21 = some ⟨oc21, od21, .func (PySem.W.fnOf "_law_best" "_law_best" (defArgs sLawBest) (defBody sLawBest) (defScope sLawBest) .none kV21 dc21 pm21 an21 cd21 ct21), sl21⟩) (c21 : PySem.W.codeIn K cd21 "_law_best" = true) (k21 : PySem.W.keepIn K (.ref f21) = true)
    (a22 : PySem.W.nsIn K mainGlobals "_law_moved" = some (some (.ref f22))) (l22 : K.lookup f22 = some ⟨oc22, od22, .func (PySem.W.fnOf "_law_moved" "_law_moved" (defArgs sMoved) (defBody sMoved) (defScope sMoved) .none kV22 dc22 pm22 an22 cd22 ct22), sl22⟩) (c22 : PySem.W.codeIn K cd22 "_law_moved" = true) (k22 : PySem.W.keepIn K (.ref f22) = true)
    (a23 : PySem.W.nsIn K mainGlobals "_law_behind" = some (some (.ref f23))) (l23 : K.lookup f23 = some ⟨oc23, od23, .func (PySem.W.fnOf "_law_behind" "_law_behind" (defArgs sBehind) (defBody sBehind) (defScope sBehind) .none kV23 dc23 pm23 an23 cd23 ct23), sl23⟩) (c23 : PySem.W.codeIn K cd23 "_law_behind" = true) (k23 : PySem.W.keepIn K (.ref f23) = true)
    (a24 : PySem.W.nsIn K mainGlobals "_law_conflicts" = some (some (.ref f24))) (l24 : K.lookup f24 = some ⟨oc24, od24, .func (PySem.W.fnOf "_law_conflicts" "_law_conflicts" (defArgs sLawConf) (defBody sLawConf) (defScope sLawConf) .none kV24 dc24 pm24 an24 cd24 ct24), sl24⟩) (c24 : PySem.W.codeIn K cd24 "_law_conflicts" = true) (k24 : PySem.W.keepIn K (.ref f24) = true)
    (a25 : PySem.W.nsIn K mainGlobals "law" = some (some (.ref f25))) (l25 : K.lookup f25 = some ⟨oc25, od25, .func (PySem.W.fnOf "law" "law" (defArgs sLaw) (defBody sLaw) (defScope sLaw) .none kV25 dc25 pm25 an25 cd25 ct25), sl25⟩) (c25 : PySem.W.codeIn K cd25 "law" = true) (k25 : PySem.W.keepIn K (.ref f25) = true)
    (z0 : PySem.W.nsIn K mainGlobals "len" = some none)
    (z1 : PySem.W.nsIn K mainGlobals "list" = some none)
    (z2 : PySem.W.nsIn K mainGlobals "range" = some none)
    (z3 : PySem.W.nsIn K mainGlobals "max" = some none)
    (z4 : PySem.W.nsIn K mainGlobals "min" = some none)
    (z5 : PySem.W.nsIn K mainGlobals "sorted" = some none)
    (z6 : PySem.W.nsIn K mainGlobals "enumerate" = some none)
    (z7 : PySem.W.nsIn K mainGlobals "sum" = some none)
    (z8 : PySem.W.nsIn K mainGlobals "set" = some none)
    (z9 : PySem.W.nsIn K mainGlobals "repr" = some none)
    : ∃ fd : FuncData, (∀ (s : Shared) (v : Value), BindsTo s fd ⟨[v], []⟩ [("script", v)]) ∧ ∀ base : Heap, K.In base → base.Ns mainGlobals mg → FnG l.prog w K mg base 6 fa fd ["script"] (spLaw K) := by
  have e := hfa.symm.trans (PySem.W.mg_of X G a25)
  cases e
  have n_len := PySem.W.mg_none_of X G z0
  have n_list := PySem.W.mg_none_of X G z1
  have n_range := PySem.W.mg_none_of X G z2
  have n_max := PySem.W.mg_none_of X G z3
  have n_min := PySem.W.mg_none_of X G z4
  have n_sorted := PySem.W.mg_none_of X G z5
  have n_enumerate := PySem.W.mg_none_of X G z6
  have n_sum := PySem.W.mg_none_of X G z7
  have n_set := PySem.W.mg_none_of X G z8
  have n_repr := PySem.W.mg_none_of X G z9
  have F1 := fun_mk (st := sPlaces) l1 c1 k1
  have b1 := F1.binds (ps := ["order"]) fun _ _ _ _ _ _ us hl => match us, hl with | [_], _ => rfl
  have Pl : Fn K mg "places_of" sPlaces ["order"] f1 _ := ⟨F1, b1, PySem.W.mg_of X G a1⟩
  have F2 := fun_mk (st := sNeigh) l2 c2 k2
  have b2 := F2.binds (ps := ["order"]) fun _ _ _ _ _ _ us hl => match us, hl with | [_], _ => rfl
  have Ne : Fn K mg "neighbours" sNeigh ["order"] f2 _ := ⟨F2, b2, PySem.W.mg_of X G a2⟩
  have F3 := fun_mk (st := sFull) l3 c3 k3
  have b3 := F3.binds (ps := ["ids", "weights"]) fun _ _ _ _ _ _ us hl => match us, hl with | [_, _], _ => rfl
  have Fu : Fn K mg "full_weights" sFull ["ids", "weights"] f3 _ := ⟨F3, b3, PySem.W.mg_of X G a3⟩
  have F4 := fun_mk (st := sTops) l4 c4 k4
  have b4 := F4.binds (ps := ["base", "goal", "worths"]) fun _ _ _ _ _ _ us hl => match us, hl with | [_, _, _], _ => rfl
  have Lv : Fn K mg "top_levels" sTops ["base", "goal", "worths"] f4 _ := ⟨F4, b4, PySem.W.mg_of X G a4⟩
  have F5 := fun_mk (st := sFavs) l5 c5 k5
  have b5 := F5.binds (ps := ["goal", "weights", "favoured"]) fun _ _ _ _ _ _ us hl => match us, hl with | [_, _, _], _ => rfl
  have Fa : Fn K mg "favoured_worths" sFavs ["goal", "weights", "favoured"] f5 _ := ⟨F5, b5, PySem.W.mg_of X G a5⟩
  have F_Be : L2.FunD K "best_straight" "best_straight" (defArgs sBest) (defBody sBest) (defScope sBest) [] [("weights", .non), ("favoured", .ref E6)] f6 _ := ⟨⟨_, _, _, _, _, _, _, _, _, _, rfl, l6, c6, .inl ⟨rfl, rfl⟩, .inr ⟨_, rfl, (by intro q hq; rcases List.mem_cons.mp hq with e | hq; (rw [e]; exact ⟨_, w6_0, rfl⟩); rcases List.mem_cons.mp hq with e | hq; (rw [e]; exact ⟨_, w6_1, rfl⟩); cases hq)⟩⟩, k6⟩
  have d_Be := L2.FunD.binds0 (ps := ["base", "goal", "weights", "favoured"]) F_Be 2 (by intro z; cases z) rfl fun D doc pm an cdv ct us ks hu hk => match us, ks, hu, hk with | [_, _], [_, _], _, _ => ⟨_, _, _, _, _, _, rfl, rfl, ⟨_, _, _, _, _, _, rfl, rfl, rfl⟩⟩
  have b_Be := Hk.FunD.kbindsA (ps := ["base", "goal", "weights", "favoured"]) F_Be 2 ["weights", "favoured"] fun kV doc pm an cdv ct us ws h1 h2 => match us, ws, h1, h2 with | [_, _], [_, _], _, _ => rfl
  have m_Be := PySem.W.mg_of X G a6
  have F7 := fun_mk (st := sAmong) l7 c7 k7
  have b7 := F7.binds (ps := ["order", "ids"]) fun _ _ _ _ _ _ us hl => match us, hl with | [_, _], _ => rfl
  have Am : Fn K mg "among" sAmong ["order", "ids"] f7 _ := ⟨F7, b7, PySem.W.mg_of X G a7⟩
  have F8 := fun_mk (st := sWithout) l8 c8 k8
  have b8 := F8.binds (ps := ["order", "ids"]) fun _ _ _ _ _ _ us hl => match us, hl with | [_, _], _ => rfl
  have Wi : Fn K mg "without" sWithout ["order", "ids"] f8 _ := ⟨F8, b8, PySem.W.mg_of X G a8⟩
  have F_Mi : L2.FunD K "moved_ids" "moved_ids" (defArgs sMovedIds) (defBody sMovedIds) (defScope sMovedIds) [] [("weights", .non)] f9 _ := ⟨⟨_, _, _, _, _, _, _, _, _, _, rfl, l9, c9, .inl ⟨rfl, rfl⟩, .inr ⟨_, rfl, (by intro q hq; rcases List.mem_cons.mp hq with e | hq; (rw [e]; exact ⟨_, w9_0, rfl⟩); cases hq)⟩⟩, k9⟩
  have d_Mi := L2.FunD.binds0 (ps := ["start", "side", "weights"]) F_Mi 2 (by intro z; cases z) rfl fun D doc pm an cdv ct us ks hu hk => match us, ks, hu, hk with | [_, _], [_], _, _ => ⟨_, _, _, _, _, _, rfl, rfl, rfl⟩
  have b_Mi := Hk.FunD.kbindsA (ps := ["start", "side", "weights"]) F_Mi 2 ["weights"] fun kV doc pm an cdv ct us ws h1 h2 => match us, ws, h1, h2 with | [_, _], [_], _, _ => rfl
  have m_Mi := PySem.W.mg_of X G a9
  have F_Cf : L2.FunD K "conflicts" "conflicts" (defArgs sConf) (defBody sConf) (defScope sConf) [] [("weights", .non)] f10 _ := ⟨⟨_, _, _, _, _, _, _, _, _, _, rfl, l10, c10, .inl ⟨rfl, rfl⟩, .inr ⟨_, rfl, (by intro q hq; rcases List.mem_cons.mp hq with e | hq; (rw [e]; exact ⟨_, w10_0, rfl⟩); cases hq)⟩⟩, k10⟩
  have d_Cf := L2.FunD.binds0 (ps := ["start", "first", "second", "weights"]) F_Cf 3 (by intro z; cases z) rfl fun D doc pm an cdv ct us ks hu hk => match us, ks, hu, hk with | [_, _, _], [_], _, _ => ⟨_, _, _, _, _, _, rfl, rfl, rfl⟩
  have b_Cf := Hk.FunD.kbindsA (ps := ["start", "first", "second", "weights"]) F_Cf 3 ["weights"] fun kV doc pm an cdv ct us ws h1 h2 => match us, ws, h1, h2 with | [_, _, _], [_], _, _ => rfl
  have m_Cf := PySem.W.mg_of X G a10
  have F11 := fun_mk (st := sDeck) l11 c11 k11
  have b11 := F11.binds (ps := ["script", "start"]) fun _ _ _ _ _ _ us hl => match us, hl with | [_, _], _ => rfl
  have De : Fn K mg "_law_stream" sDeck ["script", "start"] f11 _ := ⟨F11, b11, PySem.W.mg_of X G a11⟩
  have F12 := fun_mk (st := sDraw) l12 c12 k12
  have b12 := F12.binds (ps := ["stream", "size"]) fun _ _ _ _ _ _ us hl => match us, hl with | [_, _], _ => rfl
  have Dr : Fn K mg "_law_draw" sDraw ["stream", "size"] f12 _ := ⟨F12, b12, PySem.W.mg_of X G a12⟩
  have F13 := fun_mk (st := sChoose) l13 c13 k13
  have b13 := F13.binds (ps := ["stream", "items"]) fun _ _ _ _ _ _ us hl => match us, hl with | [_, _], _ => rfl
  have Ch : Fn K mg "_law_choose" sChoose ["stream", "items"] f13 _ := ⟨F13, b13, PySem.W.mg_of X G a13⟩
  have F14 := fun_mk (st := sShuf) l14 c14 k14
  have b14 := F14.binds (ps := ["stream", "ids"]) fun _ _ _ _ _ _ us hl => match us, hl with | [_, _], _ => rfl
  have Sh : Fn K mg "_law_shuffled" sShuf ["stream", "ids"] f14 _ := ⟨F14, b14, PySem.W.mg_of X G a14⟩
  have F15 := fun_mk (st := sIds) l15 c15 k15
  have b15 := F15.binds (ps := ["stream", "most"]) fun _ _ _ _ _ _ us hl => match us, hl with | [_, _], _ => rfl
  have Id : Fn K mg "_law_ids" sIds ["stream", "most"] f15 _ := ⟨F15, b15, PySem.W.mg_of X G a15⟩
  have F16 := fun_mk (st := sNear) l16 c16 k16
  have b16 := F16.binds (ps := ["stream", "order"]) fun _ _ _ _ _ _ us hl => match us, hl with | [_, _], _ => rfl
  have Nr : Fn K mg "_law_near" sNear ["stream", "order"] f16 _ := ⟨F16, b16, PySem.W.mg_of X G a16⟩
  have F17 := fun_mk (st := sSide) l17 c17 k17
  have b17 := F17.binds (ps := ["stream", "order"]) fun _ _ _ _ _ _ us hl => match us, hl with | [_, _], _ => rfl
  have Si : Fn K mg "_law_side" sSide ["stream", "order"] f17 _ := ⟨F17, b17, PySem.W.mg_of X G a17⟩
  have F18 := fun_mk (st := sWeights) l18 c18 k18
  have b18 := F18.binds (ps := ["stream", "ids"]) fun _ _ _ _ _ _ us hl => match us, hl with | [_, _], _ => rfl
  have We : Fn K mg "_law_weights" sWeights ["stream", "ids"] f18 _ := ⟨F18, b18, PySem.W.mg_of X G a18⟩
  have F19 := fun_mk (st := sWeight) l19 c19 k19
  have b19 := F19.binds (ps := ["scale", "row"]) fun _ _ _ _ _ _ us hl => match us, hl with | [_, _], _ => rfl
  have Wt : Fn K mg "_law_weight" sWeight ["scale", "row"] f19 _ := ⟨F19, b19, PySem.W.mg_of X G a19⟩
  have F20 := fun_mk (st := sSubsets) l20 c20 k20
  have b20 := F20.binds (ps := ["size"]) fun _ _ _ _ _ _ us hl => match us, hl with | [_], _ => rfl
  have Su : Fn K mg "_law_subsets" sSubsets ["size"] f20 _ := ⟨F20, b20, PySem.W.mg_of X G a20⟩
  have F21 := fun_mk (st := sLawBest) l21 c21 k21
  have b21 := F21.binds (ps := ["base", "goal", "scale", "favoured"]) fun _ _ _ _ _ _ us hl => match us, hl with | [_, _, _, _], _ => rfl
  have Lb : Fn K mg "_law_best" sLawBest ["base", "goal", "scale", "favoured"] f21 _ := ⟨F21, b21, PySem.W.mg_of X G a21⟩
  have F22 := fun_mk (st := sMoved) l22 c22 k22
  have b22 := F22.binds (ps := ["start", "side", "scale"]) fun _ _ _ _ _ _ us hl => match us, hl with | [_, _, _], _ => rfl
  have Mo : Fn K mg "_law_moved" sMoved ["start", "side", "scale"] f22 _ := ⟨F22, b22, PySem.W.mg_of X G a22⟩
  have F23 := fun_mk (st := sBehind) l23 c23 k23
  have b23 := F23.binds (ps := ["order", "row"]) fun _ _ _ _ _ _ us hl => match us, hl with | [_, _], _ => rfl
  have Bh : Fn K mg "_law_behind" sBehind ["order", "row"] f23 _ := ⟨F23, b23, PySem.W.mg_of X G a23⟩
  have F24 := fun_mk (st := sLawConf) l24 c24 k24
  have b24 := F24.binds (ps := ["start", "first", "second", "scale"]) fun _ _ _ _ _ _ us hl => match us, hl with | [_, _, _, _], _ => rfl
  have Lc : Fn K mg "_law_conflicts" sLawConf ["start", "first", "second", "scale"] f24 _ := ⟨F24, b24, PySem.W.mg_of X G a24⟩
  exact ⟨PySem.W.fnOf "law" "law" (defArgs sLaw) (defBody sLaw) (defScope sLaw) .none kV25 dc25 pm25 an25 cd25 ct25, fun s v => .of_eq rfl, fun base _ _ =>
    (have GDr := ok_draw (P := l.prog) (w := w) (K := K) (mg := mg) (base := base) Dr.F
    have GC := ok_choose (P := l.prog) (w := w) (base := base) Ch.F ⟨n_len⟩ Dr.F Dr.b Dr.m
    have GSh := ok_shuf (P := l.prog) (w := w) (base := base) Sh.F ⟨n_len, n_list⟩ Dr.F Dr.b Dr.m
    have GI := ok_ids Id.F ⟨n_list, n_range⟩ Dr.F Dr.b Dr.m GSh Sh.F.kp Sh.b Sh.m
    have TN : TxtN mg := ⟨n_len, n_list, n_range⟩
    have GNr := ok_near Nr.F TN Dr.F Dr.b Dr.m GSh Sh.F.kp Sh.b Sh.m
    have GSi := ok_side Si.F TN Dr.F Dr.b Dr.m GNr Nr.F.kp Nr.b Nr.m
    have GWe := ok_weights We.F ⟨n_list⟩ Dr.F Dr.b Dr.m GC Ch.F.kp Ch.b Ch.m
    have GPl := ok_places (P := l.prog) (w := w) (base := base) Pl.F n_enumerate
    have GFu := ok_full (P := l.prog) (w := w) (mg := mg) (base := base) Fu.F
    have GFa := ok_favs Fa.F ⟨n_set, n_len⟩ GFu Fu.F.kp Fu.b Fu.m
    have GLv := ok_tops Lv.F ⟨n_max⟩ GPl Pl.F.kp Pl.b Pl.m
    have GBe := ok_best F_Be ⟨n_max⟩ GFa Fa.F.kp Fa.b Fa.m GLv Lv.F.kp Lv.b Lv.m
    have GNe := ok_neigh (P := l.prog) (w := w) (base := base) Ne.F n_list
    have GAm := ok_among (P := l.prog) (w := w) (base := base) Am.F ⟨n_set⟩
    have GWi := ok_without (P := l.prog) (w := w) (base := base) Wi.F ⟨n_set⟩
    have hT : ∀ H : Hp, SqT K H E6 [] := fun H => .inr ⟨_, _, _, v6, rfl, rfl, Nat.zero_le _, .nil⟩
    have GMi := ok_movedIds F_Mi ⟨GBe, F_Be.kp, m_Be, d_Be, b_Be⟩ (Hk.FunD.kbinds0 F_Be 2 ["weights"] [("favoured", .ref E6)] (fun us mv ws => us ++ (ws ++ mv)) (by intro z; cases z) (fun q hq => by rw [List.mem_singleton.mp hq]; exact .tail _ (.head _)) (fun r1 r2 r3 => r1.append (r3.append r2)) (fun D doc pm an cdv ct us mv ws h1 h2 h3 => match us, mv, ws, h1, h2, h3 with | [_, _], [_], [_], _, _, _ => ⟨_, _, _, _, _, _, rfl, rfl, rfl⟩)) hT Am GAm Wi GWi
    have DMi : FnD l.prog w K mg base 4 2 "moved_ids" ["start", "side", "weights"] ["weights"] [.non] (spMovedIds K) _ _ := ⟨GMi, F_Mi.kp, m_Mi, d_Mi, b_Mi⟩
    have GCf := ok_conf F_Cf n_sorted DMi Am GAm Wi GWi Ne GNe
    have GWt := ok_weight (P := l.prog) (w := w) (K := K) (mg := mg) (base := base) Wt.F
    have GSu := ok_subsets (P := l.prog) (w := w) (K := K) (mg := mg) (base := base) Su.F n_range
    have GLb := ok_lawBest Lb.F ⟨n_sum, n_len, n_sorted⟩ GSu Su.F.kp Su.b Su.m GWt Wt.F.kp Wt.b Wt.m
    have GMo := ok_moved Mo.F GLb Lb.F.kp Lb.b Lb.m
    have GBh := ok_behind (P := l.prog) (w := w) (mg := mg) (base := base) Bh.F
    have GLc := ok_lawC Lc.F n_sorted n_set GMo Mo.F.kp Mo.b Mo.m GBh Bh.F.kp Bh.b Bh.m
    ok_law (fun_mk (st := sLaw) l25 c25 k25) ⟨n_len⟩ ⟨n_range, n_max, n_min, n_repr⟩ De Dr Ch GC Id GI Si GSi Nr GNr We GWe DMi Mo GMo ⟨GCf, F_Cf.kp, m_Cf, d_Cf, b_Cf⟩ Lc GLc)⟩
end Hk
open PySem PySem.W PyProof.Rows in
set_option maxRecDepth 100000 in
set_option maxHeartbeats 0 in
theorem PySem.Challenge.cw_handsorted_k41_moved_ids_and_conflicts_holds : PySem.Challenge.rw_handsorted_k41_moved_ids_and_conflicts.Holds := by
  w_on; o_law; k_head; (case hw => w_witness2)
  k_fill
  refine Hk.walkG (l := PySem.Challenge.rw_handsorted_k41_moved_ids_and_conflicts) (n := 63) (k := 6) (x := "script") (sp := Hk.spLaw) rfl (by decide) rfl ⟨rfl, by decide, by decide⟩ (fun w h Y => PySem.W.kIn_of Y) ?F (fun _ _ a ns hl hb hS => ⟨a, ns, rfl, hS, hl, hb, fun _ => rfl⟩)
  case F =>
    intro w mg fa h KX G hmg
    refine' Hk.all_mk KX G hmg ?a1 ?l1 ?c1 ?k1 ?a2 ?l2 ?c2 ?k2 ?a3 ?l3 ?c3 ?k3 ?a4 ?l4 ?c4 ?k4 ?a5 ?l5 ?c5 ?k5 ?a6 ?l6 ?c6 ?k6 ?w6_0 ?w6_1 ?v6 ?a7 ?l7 ?c7 ?k7 ?a8 ?l8 ?c8 ?k8 ?a9 ?l9 ?c9 ?k9 ?w9_0 ?a10 ?l10 ?c10 ?k10 ?w10_0 ?a11 ?l11 ?c11 ?k11 ?a12 ?l12 ?c12 ?k12 ?a13 ?l13 ?c13 ?k13 ?a14 ?l14 ?c14 ?k14 ?a15 ?l15 ?c15 ?k15 ?a16 ?l16 ?c16 ?k16 ?a17 ?l17 ?c17 ?k17 ?a18 ?l18 ?c18 ?k18 ?a19 ?l19 ?c19 ?k19 ?a20 ?l20 ?c20 ?k20 ?a21 ?l21 ?c21 ?k21 ?a22 ?l22 ?c22 ?k22 ?a23 ?l23 ?c23 ?k23 ?a24 ?l24 ?c24 ?k24 ?a25 ?l25 ?c25 ?k25 ?z0 ?z1 ?z2 ?z3 ?z4 ?z5 ?z6 ?z7 ?z8 ?z9
    (case a1 => k_is)
    (case l1 => k_is)
    (case c1 => k_is)
    (case k1 => k_is)
    (case a2 => k_is)
    (case l2 => k_is)
    (case c2 => k_is)
    (case k2 => k_is)
    (case a3 => k_is)
    (case l3 => k_is)
    (case c3 => k_is)
    (case k3 => k_is)
    (case a4 => k_is)
    (case l4 => k_is)
    (case c4 => k_is)
    (case k4 => k_is)
    (case a5 => k_is)
    (case l5 => k_is)
    (case c5 => k_is)
    (case k5 => k_is)
    (case a6 => k_is)
    (case l6 => k_is)
    (case c6 => k_is)
    (case k6 => k_is)
    (case w6_0 => k_is)
    (case w6_1 => k_is)
    (case v6 => k_is)
    (case a7 => k_is)
    (case l7 => k_is)
    (case c7 => k_is)
    (case k7 => k_is)
    (case a8 => k_is)
    (case l8 => k_is)
    (case c8 => k_is)
    (case k8 => k_is)
    (case a9 => k_is)
    (case l9 => k_is)
    (case c9 => k_is)
    (case k9 => k_is)
    (case w9_0 => k_is)
    (case a10 => k_is)
    (case l10 => k_is)
    (case c10 => k_is)
    (case k10 => k_is)
    (case w10_0 => k_is)
    (case a11 => k_is)
    (case l11 => k_is)
    (case c11 => k_is)
    (case k11 => k_is)
    (case a12 => k_is)
    (case l12 => k_is)
    (case c12 => k_is)
    (case k12 => k_is)
    (case a13 => k_is)
    (case l13 => k_is)
    (case c13 => k_is)
    (case k13 => k_is)
    (case a14 => k_is)
    (case l14 => k_is)
    (case c14 => k_is)
    (case k14 => k_is)
    (case a15 => k_is)
    (case l15 => k_is)
    (case c15 => k_is)
    (case k15 => k_is)
    (case a16 => k_is)
    (case l16 => k_is)
    (case c16 => k_is)
    (case k16 => k_is)
    (case a17 => k_is)
    (case l17 => k_is)
    (case c17 => k_is)
    (case k17 => k_is)
    (case a18 => k_is)
    (case l18 => k_is)
    (case c18 => k_is)
    (case k18 => k_is)
    (case a19 => k_is)
    (case l19 => k_is)
    (case c19 => k_is)
    (case k19 => k_is)
    (case a20 => k_is)
    (case l20 => k_is)
    (case c20 => k_is)
    (case k20 => k_is)
    (case a21 => k_is)
    (case l21 => k_is)
    (case c21 => k_is)
    (case k21 => k_is)
    (case a22 => k_is)
    (case l22 => k_is)
    (case c22 => k_is)
    (case k22 => k_is)
    (case a23 => k_is)
    (case l23 => k_is)
    (case c23 => k_is)
    (case k23 => k_is)
    (case a24 => k_is)
    (case l24 => k_is)
    (case c24 => k_is)
    (case k24 => k_is)
    (case a25 => k_is)
    (case l25 => k_is)
    (case c25 => k_is)
    (case k25 => k_is)
    (case z0 => k_is)
    (case z1 => k_is)
    (case z2 => k_is)
    (case z3 => k_is)
    (case z4 => k_is)
    (case z5 => k_is)
    (case z6 => k_is)
    (case z7 => k_is)
    (case z8 => k_is)
    (case z9 => k_is)

