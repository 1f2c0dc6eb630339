import PyProof.Rows.All
import Wide.All
import OpenK.AllK
import Wide.FinOn
import HandS.Base
import HandS.Call
import HandS.List
import HandS.Comp
import HandS.Ends
import HandS.Dict
import HandS.Iter
import HandS.Words
import HandS.WordsList
import HandS.WordsDict
import HandS.Set
import HandS.SetFor
import HandS.IsInst
import HandS.Style
import HandS.SetKeys
import HandS.EndBits
import PyProof.ReprRoads
import KE.SortData
import KE.DataCmp
import KE.KDictZip
import KE.KTurns
import HandS.Walk
import HandS.DictComp
import HandS.Defaults
import HandS.SortKw
import KE.DataMinMax
import HandS.Sort
import HandS.DictSubView
import HandS.GenList
import HandS.ForMost
import HandS.Conv
import HandS.Strs
import KE.SortCalls
import PyProof.Rows.SortWalk
import KE.KEqDict
import PyProof.EqKinds
import HandS.DeepEq
import PyProof.NeKinds
import HandS.ListItems
import HandS.DictTup
import KE.KItemsList
import PyProof.Rows.CallKwBuiltin
import PySem.Challenge.RW_handsorted_k78_whole_ids_renamed
set_option Elab.async false
set_option linter.all false
set_option maxRecDepth 100000
set_option maxHeartbeats 8000000
namespace Hk
open PySem L2 PySem.Spec PyProof.Rows
def top (i : Nat) : Stmt := PySem.Challenge.pw_handsorted_k78_whole_ids_renamed.main.body.getD i (.Pass ⟨0, 0, 0, 0⟩)
abbrev sPlaces : Stmt := top 1
abbrev sNeigh : Stmt := top 2
abbrev sFull : Stmt := top 4
abbrev sTops : Stmt := top 6
abbrev sFavs : Stmt := top 7
abbrev sBest : Stmt := top 8
abbrev sLay : Stmt := top 10
abbrev sSpread : Stmt := top 11
abbrev sLeast : Stmt := top 12
abbrev sHanging : Stmt := top 13
abbrev sFollowers : Stmt := top 14
abbrev sCover : Stmt := top 16
abbrev sDeck : Stmt := top 18
abbrev sDraw : Stmt := top 19
abbrev sChoose : Stmt := top 20
abbrev sShuf : Stmt := top 21
abbrev sIds : Stmt := top 22
abbrev sGoal : Stmt := top 23
abbrev sLoads : Stmt := top 24
abbrev sLoad : Stmt := top 25
abbrev sLiked : Stmt := top 26
abbrev sPins : Stmt := top 27
abbrev sNamed : Stmt := top 28
abbrev sPinsNamed : Stmt := top 29
abbrev sFacts : Stmt := top 30
abbrev sLaw : Stmt := top 31
/-! ### numbers of any size -/
def CPowG (i j : Int) : Prop := 0 ≤ j ∧ (Builtin.Int.intBits i : Int) * j ≤ 2 ^ 27
section
variable {X : Cx}
theorem op_mulG : OpR X (binaryOp .Mult) (rI IntMulOk fun i j => .int (i * j)) := opI fun _ _ _ _ _ _ _ hc q => mul_int q hc
theorem op_powG : OpR X (binaryOp .Pow) (rI CPowG fun i j => .int (i ^ j.toNat)) := opI fun _ _ _ _ _ _ _ hc q => pow_int hc.1 hc.2 q
end
theorem mulOk_bits {i j : Int} {a b : Nat} (ha : Builtin.Int.intBits i ≤ a) (hb : Builtin.Int.intBits j ≤ b) (h : a + b ≤ 100000000) : IntMulOk i j := by
  have e : bitsLine = 134217728 := by decide
  unfold IntMulOk
  intro z
  rw [Bool.and_eq_true] at z
  have z2 := z.2
  unfold Builtin.Int.intTooBig at z2
  have z3 := of_decide_eq_true z2
  rw [e] at z3
  omega
theorem bits_le {i : Int} {n : Nat} (h : i.natAbs < 2 ^ n) : Builtin.Int.intBits i ≤ n := intBits_le h
/-- the turn of the deck's loop -/
theorem turn_bits {m e : Int} {k : Nat} (h0 : 0 ≤ m) (h1 : m < 2147483600) (he : Builtin.Int.intBits e ≤ k) (hk : 30 ≤ k) :
    Builtin.Int.intBits (m * 20011 + e * e + 13) ≤ 2 * k + 1 := by
  refine bits_le ?_
  have a1 : e.natAbs < 2 ^ k := Nat.lt_of_lt_of_le (natAbs_lt_pow_bits e) (Nat.pow_le_pow_right (by omega) he)
  have a2 : (e * e).natAbs < 2 ^ (2 * k) := by
    rw [Int.natAbs_mul, Nat.two_mul, Nat.pow_add]
    exact Nat.mul_lt_mul'' a1 a1
  have a3 : (m * 20011 + 13).natAbs < 2 ^ 60 := by
    have : (2 : Nat) ^ 60 = 1152921504606846976 := by decide
    omega
  have a4 : (2 : Nat) ^ 60 ≤ 2 ^ (2 * k) := Nat.pow_le_pow_right (by omega) (by omega)
  have a5 : (2 : Nat) ^ (2 * k + 1) = 2 ^ (2 * k) + 2 ^ (2 * k) := by rw [Nat.pow_succ, Nat.mul_two]
  rw [a5]
  generalize (2 : Nat) ^ (2 * k) = B at *
  generalize e * e = q at *
  omega
/-! ### pins as a forest: what is laid out is what is sorted by the places of the anchors -/
structure Forest (base : List Int) (p : Int → Option Int) (r : Int → Nat) (N : Nat) : Prop where
  nd : base.Nodup
  nz : ∀ x ∈ base, x ≠ 0
  lt : ∀ x ∈ base, r x < N
  anc : ∀ x ∈ base, ∀ a, p x = some a → a = 0 ∨ (a ∈ base ∧ r a < r x)
def kidsOf (base : List Int) (p : Int → Option Int) (a : Int) : List Int := base.filter fun x => p x == some a
def looseOf (base : List Int) (p : Int → Option Int) : List Int := base.filter fun x => p x == none
def dfsN (base : List Int) (p : Int → Option Int) : Nat → Int → List Int
  | 0, x => [x]
  | n + 1, x => x :: (kidsOf base p x).flatMap (dfsN base p n)
def ixI (base : List Int) (x : Int) : Int := (base.idxOf x : Nat)
def pathN (base : List Int) (p : Int → Option Int) : Nat → Int → List Int
  | 0, x => match p x with
    | none => [1, ixI base x]
    | some a => if a = 0 then [0, ixI base x] else []
  | m + 1, x => match p x with
    | none => [1, ixI base x]
    | some a => if a = 0 then [0, ixI base x] else pathN base p m a ++ [ixI base x]
theorem pathN_none {base : List Int} {p : Int → Option Int} {x : Int} (h : p x = none) : ∀ n, pathN base p n x = [1, ixI base x]
  | 0 => by rw [pathN, h]
  | n + 1 => by rw [pathN, h]
theorem pathN_top {base : List Int} {p : Int → Option Int} {x : Int} (h : p x = some 0) : ∀ n, pathN base p n x = [0, ixI base x]
  | 0 => by rw [pathN, h]; exact if_pos rfl
  | n + 1 => by rw [pathN, h]; exact if_pos rfl
theorem pathN_step {base : List Int} {p : Int → Option Int} {x a : Int} (h : p x = some a) (ha : a ≠ 0) (n : Nat) : pathN base p (n + 1) x = pathN base p n a ++ [ixI base x] := by
  rw [pathN, h]
  exact if_neg ha
theorem mem_kids {base : List Int} {p : Int → Option Int} {a x : Int} : x ∈ kidsOf base p a ↔ x ∈ base ∧ p x = some a := by
  unfold kidsOf
  rw [List.mem_filter, beq_iff_eq]
theorem mem_loose {base : List Int} {p : Int → Option Int} {x : Int} : x ∈ looseOf base p ↔ x ∈ base ∧ p x = none := by
  unfold looseOf
  rw [List.mem_filter, beq_iff_eq]
theorem app_lt (a : List Int) {x : Int} {s : List Int} : a < a ++ x :: s := by
  induction a with
  | nil => exact List.nil_lt_cons _ _
  | cons y r ih => rw [List.cons_append]; exact List.cons_lt_cons_iff.mpr (.inr ⟨rfl, ih⟩)
theorem app_lt2 (a : List Int) {b c : List Int} (h : b < c) : a ++ b < a ++ c := by
  induction a with
  | nil => exact h
  | cons y r ih => rw [List.cons_append, List.cons_append]; exact List.cons_lt_cons_iff.mpr (.inr ⟨rfl, ih⟩)
section
variable {base : List Int} {p : Int → Option Int} {r : Int → Nat} {N : Nat}
def treeOf (base : List Int) (p : Int → Option Int) (r : Int → Nat) (N : Nat) (x : Int) : List Int := dfsN base p (N - r x) x
def pathOf (base : List Int) (p : Int → Option Int) (r : Int → Nat) (x : Int) : List Int := pathN base p (r x) x
theorem kid_up (F : Forest base p r N) {a x : Int} (ha : a ∈ base) (h : x ∈ kidsOf base p a) : x ∈ base ∧ r a < r x := by
  obtain ⟨h1, h2⟩ := mem_kids.mp h
  rcases F.anc x h1 a h2 with e | ⟨_, e⟩
  · exact absurd e (F.nz a ha)
  · exact ⟨h1, e⟩
theorem dfs_more (F : Forest base p r N) : ∀ (n : Nat) (x : Int), x ∈ base → N - r x ≤ n → dfsN base p n x = treeOf base p r N x
  | 0, x, hx, h => by have := F.lt x hx; omega
  | n + 1, x, hx, h => by
    have hlt := F.lt x hx
    unfold treeOf
    obtain ⟨m, hm⟩ : ∃ m, N - r x = m + 1 := ⟨N - r x - 1, by omega⟩
    rw [hm, dfsN, dfsN]
    congr 1
    have key : ∀ l : List Int, (∀ c ∈ l, c ∈ kidsOf base p x) → l.flatMap (dfsN base p n) = l.flatMap (dfsN base p m) := by
      intro l
      induction l with
      | nil => intro _; rfl
      | cons c l ih =>
        intro hl
        obtain ⟨c1, c2⟩ := kid_up F hx (hl c List.mem_cons_self)
        rw [List.flatMap_cons, List.flatMap_cons, ih fun c hc => hl c (List.mem_cons_of_mem _ hc)]
        rw [dfs_more F n c c1 (by omega)]
        by_cases hmn : m = n
        · subst hmn; rw [dfs_more F m c c1 (by omega)]
        · have hmn2 : m < n + 1 := by omega
          congr 1
          unfold treeOf
          have := F.lt c c1
          have e1 : dfsN base p m c = treeOf base p r N c := dfs_more F m c c1 (by omega)
          rw [e1]; rfl
    exact key _ fun c hc => hc
termination_by n => n
theorem tree_eq (F : Forest base p r N) {x : Int} (hx : x ∈ base) : treeOf base p r N x = x :: (kidsOf base p x).flatMap (treeOf base p r N) := by
  have hlt := F.lt x hx
  have e : dfsN base p (N + 1) x = treeOf base p r N x := dfs_more F (N + 1) x hx (by omega)
  rw [← e, dfsN]
  congr 1
  have key : ∀ l : List Int, (∀ c ∈ l, c ∈ kidsOf base p x) → l.flatMap (dfsN base p N) = l.flatMap (treeOf base p r N) := by
    intro l
    induction l with
    | nil => intro _; rfl
    | cons c l ih =>
      intro hl
      obtain ⟨c1, c2⟩ := kid_up F hx (hl c List.mem_cons_self)
      rw [List.flatMap_cons, List.flatMap_cons, ih fun c hc => hl c (List.mem_cons_of_mem _ hc), dfs_more F N c c1 (by omega)]
  exact key _ fun c hc => hc
theorem path_more (F : Forest base p r N) : ∀ (n : Nat) (x : Int), x ∈ base → r x ≤ n → pathN base p n x = pathOf base p r x
  | n, x, hx, h => by
    unfold pathOf
    cases hp : p x with
    | none => rw [pathN_none hp, pathN_none hp]
    | some a =>
      by_cases ha : a = 0
      · subst ha
        rw [pathN_top hp, pathN_top hp]
      · rcases F.anc x hx a hp with e | ⟨a1, a2⟩
        · exact absurd e ha
        · obtain ⟨m, hm⟩ : ∃ m, r x = m + 1 := ⟨r x - 1, by omega⟩
          obtain ⟨k, rfl⟩ : ∃ k, n = k + 1 := ⟨n - 1, by omega⟩
          rw [hm, pathN_step hp ha, pathN_step hp ha, path_more F k a a1 (by omega), path_more F m a a1 (by omega)]
termination_by n => n
theorem path_none {x : Int} (h : p x = none) : pathOf base p r x = [1, ixI base x] := pathN_none h _
theorem path_top {x : Int} (h : p x = some 0) : pathOf base p r x = [0, ixI base x] := pathN_top h _
theorem path_step (F : Forest base p r N) {x a : Int} (hx : x ∈ base) (h : p x = some a) (ha : a ≠ 0) : a ∈ base ∧ pathOf base p r x = pathOf base p r a ++ [ixI base x] := by
  rcases F.anc x hx a h with e | ⟨a1, a2⟩
  · exact absurd e ha
  · refine ⟨a1, ?_⟩
    have e := path_more F (r x + 1) x hx (by omega)
    rw [← e, pathN_step h ha, path_more F (r x) a a1 (by omega)]
theorem ix_sorted {base : List Int} {f : Int → Bool} (nd : base.Nodup) : (base.filter f).Pairwise fun a b => ixI base a < ixI base b := by
  have h : base.Pairwise fun a b => ixI base a < ixI base b := by
    refine List.pairwise_iff_getElem.mpr fun i j hi hj hij => ?_
    unfold ixI
    rw [nd.idxOf_getElem i hi, nd.idxOf_getElem j hj]
    omega
  exact h.filter f
/-- what hangs on x -/
theorem tree_ok (F : Forest base p r N) : ∀ (n : Nat) (x : Int), x ∈ base → N - r x ≤ n → (∀ y ∈ treeOf base p r N x, y ∈ base ∧ ∃ s, pathOf base p r y = pathOf base p r x ++ s) ∧ (treeOf base p r N x).Pairwise (fun a b => pathOf base p r a < pathOf base p r b)
  | 0, x, hx, h => by have := F.lt x hx; omega
  | n + 1, x, hx, h => by
    have hlt := F.lt x hx
    have hk : ∀ c ∈ kidsOf base p x, c ∈ base ∧ (∀ y ∈ treeOf base p r N c, y ∈ base ∧ ∃ s, pathOf base p r y = pathOf base p r x ++ ixI base c :: s) ∧ (treeOf base p r N c).Pairwise (fun a b => pathOf base p r a < pathOf base p r b) := fun c hc => by
      obtain ⟨c1, c2⟩ := kid_up F hx hc
      obtain ⟨i1, i2⟩ := tree_ok F n c c1 (by omega)
      refine ⟨c1, fun y hy => ?_, i2⟩
      obtain ⟨y1, s, hs⟩ := i1 y hy
      refine ⟨y1, s, ?_⟩
      rw [hs, (path_step F c1 (mem_kids.mp hc).2 (F.nz x hx)).2, List.append_assoc]; rfl
    rw [tree_eq F hx]
    refine ⟨fun y hy => ?_, List.pairwise_cons.mpr ⟨fun y hy => ?_, List.pairwise_flatMap.mpr ⟨fun c hc => (hk c hc).2.2, ?_⟩⟩⟩
    · rcases List.mem_cons.mp hy with e | hy
      · rw [e]; exact ⟨hx, [], by rw [List.append_nil]⟩
      · obtain ⟨c, hc, hy⟩ := List.mem_flatMap.mp hy
        obtain ⟨y1, s, hs⟩ := (hk c hc).2.1 y hy
        exact ⟨y1, _, hs⟩
    · obtain ⟨c, hc, hy⟩ := List.mem_flatMap.mp hy
      obtain ⟨y1, s, hs⟩ := (hk c hc).2.1 y hy
      rw [hs]
      exact app_lt _
    · have hs : (kidsOf base p x).Pairwise fun a b => ixI base a < ixI base b := ix_sorted F.nd
      refine (List.pairwise_iff_forall_sublist.mpr fun {a b} hab u hu v hv => ?_)
      have hab2 := List.pairwise_iff_forall_sublist.mp hs hab
      have ha : a ∈ kidsOf base p x := hab.subset (by simp)
      have hb : b ∈ kidsOf base p x := hab.subset (by simp)
      obtain ⟨_, s1, e1⟩ := (hk a ha).2.1 u hu
      obtain ⟨_, s2, e2⟩ := (hk b hb).2.1 v hv
      rw [e1, e2]
      exact app_lt2 _ (List.cons_lt_cons_iff.mpr (.inl hab2))
termination_by n => n
/-- the laid order -/
def laidOf (base : List Int) (p : Int → Option Int) (r : Int → Nat) (N : Nat) : List Int := (kidsOf base p 0 ++ looseOf base p).flatMap (treeOf base p r N)
theorem tree_kids (F : Forest base p r N) : ∀ (n : Nat) (x : Int), x ∈ base → N - r x ≤ n → ∀ a ∈ treeOf base p r N x, ∀ c ∈ kidsOf base p a, c ∈ treeOf base p r N x
  | 0, x, hx, h => by have := F.lt x hx; omega
  | n + 1, x, hx, h => by
    have hlt := F.lt x hx
    intro a ha c hc
    rw [tree_eq F hx] at ha ⊢
    refine List.mem_cons_of_mem _ (List.mem_flatMap.mpr ?_)
    rcases List.mem_cons.mp ha with e | ha
    · rw [e] at hc
      refine ⟨c, hc, ?_⟩
      rw [tree_eq F (kid_up F hx hc).1]
      exact List.mem_cons_self
    · obtain ⟨k, hk, ha⟩ := List.mem_flatMap.mp ha
      obtain ⟨k1, k2⟩ := kid_up F hx hk
      exact ⟨k, hk, tree_kids F n k k1 (by omega) a ha c hc⟩
termination_by n => n
theorem tops_in {x : Int} (h : x ∈ kidsOf base p 0 ++ looseOf base p) : x ∈ base := by
  rcases List.mem_append.mp h with q | q
  · exact (mem_kids.mp q).1
  · exact (mem_loose.mp q).1
theorem laid_in (F : Forest base p r N) {y : Int} (h : y ∈ laidOf base p r N) : y ∈ base := by
  obtain ⟨c, hc, hy⟩ := List.mem_flatMap.mp h
  exact ((tree_ok F (N - r c) c (tops_in hc) (Nat.le_refl _)).1 y hy).1
theorem laid_all (F : Forest base p r N) : ∀ (n : Nat) (x : Int), x ∈ base → r x ≤ n → x ∈ laidOf base p r N
  | n, x, hx, h => by
    have top : x ∈ kidsOf base p 0 ++ looseOf base p → x ∈ laidOf base p r N := fun q => List.mem_flatMap.mpr ⟨x, q, by rw [tree_eq F hx]; exact List.mem_cons_self⟩
    cases hp : p x with
    | none => exact top (List.mem_append_right _ (mem_loose.mpr ⟨hx, hp⟩))
    | some a =>
      rcases F.anc x hx a hp with e | ⟨a1, a2⟩
      · subst e
        exact top (List.mem_append_left _ (mem_kids.mpr ⟨hx, hp⟩))
      · obtain ⟨m, rfl⟩ : ∃ m, n = m + 1 := ⟨n - 1, by omega⟩
        obtain ⟨c, hc, ha⟩ := List.mem_flatMap.mp (laid_all F m a a1 (by omega))
        exact List.mem_flatMap.mpr ⟨c, hc, tree_kids F _ c (tops_in hc) (Nat.le_refl _) a ha x (mem_kids.mpr ⟨hx, hp⟩)⟩
termination_by n => n
theorem laid_up (F : Forest base p r N) : (laidOf base p r N).Pairwise fun a b => pathOf base p r a < pathOf base p r b := by
  have hk : ∀ c ∈ kidsOf base p 0 ++ looseOf base p, (treeOf base p r N c).Pairwise fun a b => pathOf base p r a < pathOf base p r b := fun c hc => (tree_ok F _ c (tops_in hc) (Nat.le_refl _)).2
  have h0 : ∀ c ∈ kidsOf base p 0, ∀ y ∈ treeOf base p r N c, ∃ s, pathOf base p r y = 0 :: ixI base c :: s := fun c hc y hy => by
    obtain ⟨_, s, e⟩ := (tree_ok F _ c (mem_kids.mp hc).1 (Nat.le_refl _)).1 y hy
    exact ⟨s, by rw [e, path_top (mem_kids.mp hc).2]; rfl⟩
  have h1 : ∀ c ∈ looseOf base p, ∀ y ∈ treeOf base p r N c, ∃ s, pathOf base p r y = 1 :: ixI base c :: s := fun c hc y hy => by
    obtain ⟨_, s, e⟩ := (tree_ok F _ c (mem_loose.mp hc).1 (Nat.le_refl _)).1 y hy
    exact ⟨s, by rw [e, path_none (mem_loose.mp hc).2]; rfl⟩
  have hs : ∀ f : Int → Bool, (base.filter f).Pairwise fun a b => ixI base a < ixI base b := fun f => ix_sorted F.nd
  refine List.pairwise_flatMap.mpr ⟨hk, List.pairwise_append.mpr ⟨?_, ?_, ?_⟩⟩
  · refine List.pairwise_iff_forall_sublist.mpr fun {a b} hab u hu v hv => ?_
    have ha : a ∈ kidsOf base p 0 := hab.subset (by simp)
    have hb : b ∈ kidsOf base p 0 := hab.subset (by simp)
    obtain ⟨s1, e1⟩ := h0 a ha u hu
    obtain ⟨s2, e2⟩ := h0 b hb v hv
    rw [e1, e2]
    exact List.cons_lt_cons_iff.mpr (.inr ⟨rfl, List.cons_lt_cons_iff.mpr (.inl (List.pairwise_iff_forall_sublist.mp (hs _) hab))⟩)
  · refine List.pairwise_iff_forall_sublist.mpr fun {a b} hab u hu v hv => ?_
    have ha : a ∈ looseOf base p := hab.subset (by simp)
    have hb : b ∈ looseOf base p := hab.subset (by simp)
    obtain ⟨s1, e1⟩ := h1 a ha u hu
    obtain ⟨s2, e2⟩ := h1 b hb v hv
    rw [e1, e2]
    exact List.cons_lt_cons_iff.mpr (.inr ⟨rfl, List.cons_lt_cons_iff.mpr (.inl (List.pairwise_iff_forall_sublist.mp (hs _) hab))⟩)
  · intro a ha b hb u hu v hv
    obtain ⟨s1, e1⟩ := h0 a ha u hu
    obtain ⟨s2, e2⟩ := h1 b hb v hv
    rw [e1, e2]
    exact List.cons_lt_cons_iff.mpr (.inl (by decide))
theorem laid_nodup (F : Forest base p r N) : (laidOf base p r N).Nodup := (laid_up F).imp fun {a b} h e => by
  subst e
  exact List.lt_irrefl _ h
theorem laid_perm (F : Forest base p r N) : (laidOf base p r N).Perm base :=
  (List.perm_ext_iff_of_nodup (laid_nodup F) F.nd).mpr fun a => ⟨laid_in F, fun h => laid_all F _ a h (Nat.le_refl _)⟩
theorem path_inj (F : Forest base p r N) {x y : Int} (hx : x ∈ base) (hy : y ∈ base) (h : x ≠ y) : pathOf base p r x ≠ pathOf base p r y := by
  intro e
  have hx2 := laid_all F _ x hx (Nat.le_refl _)
  have hy2 := laid_all F _ y hy (Nat.le_refl _)
  obtain ⟨i, hi, ei⟩ := List.getElem_of_mem hx2
  obtain ⟨j, hj, ej⟩ := List.getElem_of_mem hy2
  have up := List.pairwise_iff_getElem.mp (laid_up F)
  rcases Nat.lt_trichotomy i j with q | q | q
  · have := up i j hi hj q
    rw [ei, ej, e] at this
    exact List.lt_irrefl _ this
  · subst q
    exact h (ei.symm.trans ej)
  · have := up j i hj hi q
    rw [ei, ej, e] at this
    exact List.lt_irrefl _ this
theorem laid_sort (F : Forest base p r N) : base.mergeSort (fun a b => decide (pathOf base p r a ≤ pathOf base p r b)) = laidOf base p r N := by
  have h4 : (base.mergeSort (fun a b => decide (pathOf base p r a ≤ pathOf base p r b))).Pairwise (fun a b => pathOf base p r a ≤ pathOf base p r b) := by
    have := List.pairwise_mergeSort (le := fun a b : Int => decide (pathOf base p r a ≤ pathOf base p r b)) (fun a b c x y => decide_eq_true (List.le_trans (of_decide_eq_true x) (of_decide_eq_true y)))
      (fun a b => by
        rcases List.le_total (pathOf base p r a) (pathOf base p r b) with q | q
        · rw [decide_eq_true q]; rfl
        · rw [decide_eq_true q, Bool.or_true]) base
    exact this.imp fun z => of_decide_eq_true z
  refine List.Perm.eq_of_pairwise (le := fun a b => pathOf base p r a ≤ pathOf base p r b) (fun a b ha hb x y => ?_) h4 ((laid_up F).imp fun z => List.le_of_lt z) ((List.mergeSort_perm _ _).trans (laid_perm F).symm)
  by_cases e : a = b
  · exact e
  · exact absurd (List.le_antisymm x y) (path_inj F (List.mem_mergeSort.mp ha) (laid_in F hb) e)
end
/-! ### the deck -/
def dk (x y : Int) : List (Key × V) := [(.inr "digits", .int x), (.inr "mixed", .int y)]
def DeckAt (H : Hp) (d : Addr) : Prop := ∃ x y : Int, H d = some (.dK (dk x y)) ∧ 0 ≤ x ∧ 0 ≤ y ∧ y < 2147483600
/-- all that was tracked is as it was, but what stands at d -/
def But (d : Addr) (H H' : Hp) : Prop := ∀ b o, b ≠ d → H b = some o → H' b = some o
theorem But.refl (d : Addr) (H : Hp) : But d H H := fun _ _ _ h => h
theorem But.trans {d : Addr} {H H1 H2 : Hp} (a : But d H H1) (b : But d H1 H2) : But d H H2 := fun c o n h => b c o n (a c o n h)
theorem But.of {d : Addr} {H H' : Hp} (a : Same H H') : But d H H' := fun c o _ h => a c o h
theorem But.upd {d : Addr} {H : Hp} {o : HO} : But d H (upd H d o) := fun b u n h => by rw [upd_ne n]; exact h
theorem But.new {d p : Addr} {H : Hp} {o : HO} (h : H p = none) : But d H (L2.upd H p o) := fun b u n e => by rw [upd_ne (ne_of_none e h)]; exact e
theorem Same.new {p : Addr} {H : Hp} {o : HO} (h : H p = none) : Same H (L2.upd H p o) := fun b u e => by rw [upd_ne (ne_of_none e h)]; exact e
theorem DeckAt.same {H H' : Hp} {d : Addr} (D : DeckAt H d) (s : Same H H') : DeckAt H' d := let ⟨x, y, h, r⟩ := D; ⟨x, y, s _ _ h, r⟩
theorem dm_ : ¬ (("digits" : Str) = "mixed") := by decide +kernel
theorem md_ : ¬ (("mixed" : Str) = "digits") := by decide +kernel
theorem dk_digits (x y : Int) : valV (dk x y) (Sum.inr "digits" : Key) = some (.int x) := by
  unfold valV dk
  rw [List.find?_cons_of_pos]
  · rfl
  · exact decide_eq_true rfl
theorem dk_mixed (x y : Int) : valV (dk x y) (Sum.inr "mixed" : Key) = some (.int y) := by
  unfold valV dk
  rw [List.find?_cons_of_neg, List.find?_cons_of_pos]
  · rfl
  · exact decide_eq_true rfl
  · intro q
    exact dm_ (Sum.inr.inj (of_decide_eq_true q))
theorem dk_put_digits (x y z : Int) : putK (dk x y) (Sum.inr "digits" : Key) (.int z) = dk z y := by
  unfold putK dk
  have n : ¬ (Sum.inr "mixed" : Key) = (Sum.inr "digits" : Key) := fun q => md_ (Sum.inr.inj q)
  simp only [List.any_cons, decide_true, Bool.true_or, if_true, List.map_cons, List.map_nil, if_neg n]
theorem dk_put_mixed (x y z : Int) : putK (dk x y) (Sum.inr "mixed" : Key) (.int z) = dk x z := by
  unfold putK dk
  have n : ¬ (Sum.inr "digits" : Key) = (Sum.inr "mixed" : Key) := fun q => dm_ (Sum.inr.inj q)
  simp only [List.any_cons, decide_true, Bool.true_or, Bool.or_true, if_true, List.map_cons, List.map_nil, if_neg n]
theorem dk_merge (x y : Int) : mergeK [] [((Sum.inr "digits" : Key), V.int x), ((Sum.inr "mixed" : Key), V.int y)] = dk x y := by
  unfold mergeK putK dk
  have n : ¬ (Sum.inr "digits" : Key) = (Sum.inr "mixed" : Key) := fun q => dm_ (Sum.inr.inj q)
  simp only [List.foldl_cons, List.foldl_nil, List.any_nil, List.nil_append, List.any_cons, decide_eq_false n, Bool.or_self]
  rfl
/-- the turn of the deck's loop -/
theorem turn_bitsT {m e : Int} {k : Nat} (h0 : 0 ≤ m) (h1 : m < 2147483600) (he : Builtin.Int.intBits e ≤ k) (hk : 30 ≤ k) :
    Builtin.Int.intBits (m * 30011 + e * e + 7) ≤ 2 * k + 1 := by
  refine bits_le ?_
  have a1 : e.natAbs < 2 ^ k := Nat.lt_of_lt_of_le (natAbs_lt_pow_bits e) (Nat.pow_le_pow_right (by omega) he)
  have a2 : (e * e).natAbs < 2 ^ (2 * k) := by
    rw [Int.natAbs_mul, Nat.two_mul, Nat.pow_add]
    exact Nat.mul_lt_mul'' a1 a1
  have a3 : (m * 30011 + 7).natAbs < 2 ^ 60 := by
    have : (2 : Nat) ^ 60 = 1152921504606846976 := by decide
    omega
  have a4 : (2 : Nat) ^ 60 ≤ 2 ^ (2 * k) := Nat.pow_le_pow_right (by omega) (by omega)
  have a5 : (2 : Nat) ^ (2 * k + 1) = 2 ^ (2 * k) + 2 ^ (2 * k) := by rw [Nat.pow_succ, Nat.mul_two]
  rw [a5]
  generalize (2 : Nat) ^ (2 * k) = B at *
  generalize e * e = q at *
  omega
structure TxtD (mg : Str → Option Value) : Prop where
  len : mg "len" = none
section
variable {P : Program} {w : World} {K : PySem.W.Frag} {mg : Str → Option Value} {base : Heap}
def spDeck (K : PySem.W.Frag) : Sp := fun vs H Q _ => ∃ (a : Addr) (ns : List Int) (st : Int), vs = [.ref a, .int st] ∧ SqL K H a (ns.map V.int) ∧ ns.length ≤ 63 ∧ (∀ z ∈ ns, Builtin.Int.intBits z ≤ 1048576) ∧ 0 ≤ st ∧ st ≤ 63 ∧
  ∀ (d : Addr) (H' : Hp), H d = none → Same H H' → DeckAt H' d → Q (.ref d) H'
theorem scDeck : FnScope ["script", "start", "mixed", "cell", "digits"] ["script", "start"] (defScope sDeck) := ⟨rfl, rfl, rfl, by decide +kernel, rfl, by decide +kernel, by decide +kernel⟩
theorem ok_deck {f : Addr} {fd : FuncData} (F : Fun K "_law_tape" "_law_tape" sDeck f fd) (T : TxtD mg) : FnOk P w K mg base CX0 1 f fd ["script", "start"] (spDeck K) := by
  refine F.ok scDeck (fun vs H Q E h => ?_) (fun cdv A outer s H vs Q E hr h => ?_)
  · obtain ⟨a, ns, st, rfl, _⟩ := h
    rfl
  · obtain ⟨a, ns, st, rfl, hS, hlen, hb, h0, h1, k⟩ := h
    have hu := hu_of hr
    refine ⟨_, pss_cons (ps_set (i := 2) scDeck.nd rfl (Or.inl rfl) (pe_op op_add pe_int (pe_op op_mul (pv 1) pe_int)))
      (pss_cons (ps_for PassesOwn.never rfl (pi_list (pv 0)) (pg_name (i := 3) scDeck.nd rfl (Or.inl rfl))
        (pss_one (ps_set (i := 2) scDeck.nd rfl (Or.inl rfl) (pe_op op_add (pe_op op_mod (pe_op op_powG (pe_op op_add (pe_op op_add (pe_op op_mul (pv 2) pe_int) (pe_op op_mulG (pv 3) (pv 3))) pe_int) pe_int) pe_int) pe_int))))
      (pss_cons (ps_set (i := 4) scDeck.nd rfl (Or.inl rfl) (pe_ifExp (PW.pt (pw_and (pt_cmpR op_lt (pv 1) (pe_callB call_len_seq (by rfl) T.len PySem.boot_len (pa_cons (pv 0) pa_nil)) (nomark _))
          (pw_and1 (pt_cmpR op_ge (pe_ix ix_list (pv 0) (pv 1) (fun _ _ => rfl)) (pe_op op_pow pe_int pe_int) (nomark _)))))
          (pe_op op_sub (pe_ix ix_list (pv 0) (pv 1) (fun _ _ => rfl)) (pe_op op_pow pe_int pe_int)) pe_int))
      (pss_one (ps_ret (pe_disp (pps_cons pe_str (pv 4) (pps_cons pe_str (pv 2) pps_nil)) (by rfl) (by rfl) (fun z => by cases z) (by decide)))))), ?_⟩
    refine ⟨_, rfl, _, _, rfl, rfl, .inr ⟨by decide, by decide⟩, _, _, rfl, rfl, ?_⟩
    refine ⟨_, rfl, a, rfl, ⟨_, hS⟩, for_list (K := K) (a := a) (xs := ns.map V.int) (fun i σ H' => ∃ (m : Int) (v : Option V), σ = [some (.ref a), some (.int st), some (.int m), v, none] ∧ H' = H ∧ 0 ≤ m ∧ m < 2147483600)
      ⟨_, none, rfl, rfl, by omega, by omega⟩ (fun i σ H' _ ⟨_, _, _, e, _⟩ => by rw [e]; exact hS) ?_ ?_⟩
    · rintro i y σ H' hi ⟨m, v, rfl, rfl, m0, m1⟩
      obtain ⟨e, he, rfl⟩ : ∃ e, e ∈ ns ∧ y = V.int e := by
        rw [List.getElem?_map] at hi
        cases q : ns[i]? with
        | none => rw [q] at hi; cases hi
        | some u => rw [q] at hi; exact ⟨u, List.mem_of_getElem? q, (Option.some.inj hi).symm⟩
      have hbits := hb e he
      have hT := turn_bitsT (k := 1048576) m0 m1 hbits (by decide)
      refine ⟨_, rfl, _, _, rfl, rfl, .inr ⟨by decide, by decide⟩, _, rfl, _, rfl, _, _, rfl, rfl, mulOk_bits hbits hbits (by decide), _, _, rfl, rfl, _, _, rfl, rfl, _, _, rfl, rfl, ⟨by decide, ?_⟩, _, _, rfl, rfl, (by show (0 : Int) < 2147483563; decide), _, _, rfl, rfl, ?_⟩
      · have z : (2 : Int) ^ 27 = 134217728 := by decide
        rw [z]
        generalize Builtin.Int.intBits (m * 30011 + e * e + 7) = B at hT ⊢
        omega
      · refine ⟨_, _, rfl, rfl, ?_, ?_⟩
        · have := Int.emod_nonneg ((m * 30011 + e * e + 7) ^ (2 : Int).toNat) (b := 2147483563) (by decide)
          generalize (m * 30011 + e * e + 7) ^ (2 : Int).toNat % 2147483563 = z at *
          omega
        · have := Int.emod_lt_of_pos ((m * 30011 + e * e + 7) ^ (2 : Int).toNat) (b := 2147483563) (by decide)
          generalize (m * 30011 + e * e + 7) ^ (2 : Int).toNat % 2147483563 = z at *
          omega
    · rintro σ H' ⟨m, v, rfl, rfl, m0, m1⟩
      have fin : ∀ (x : Int) (σ' : L2.St), 0 ≤ x → σ' = [some (.ref a), some (.int st), some (.int m), v, some (.int x)] →
          (tRet (tDisp [(tC (.str "digits"), tVar 4), (tC (.str "mixed"), tVar 2)])) { nx := fun _ H' => Q .non H', rt := Q } σ' H' := by
        rintro x σ' hx rfl
        intro p hp
        refine ⟨_, rfl, _, rfl, upd_same, [((Sum.inr "digits" : Key), V.int x), ((Sum.inr "mixed" : Key), V.int m)], rfl, (by show 2 ≤ 15; decide), ?_⟩
        rw [upd_upd, dk_merge]
        exact k p _ hp (Same.new hp) ⟨x, m, upd_same, hx, m0, m1⟩
      refine ⟨_, rfl, _, rfl, a, _, rfl, .inl hS, _, _, rfl, rfl, _, rfl, ?_⟩
      refine ite2 (fun hlt => ?_) (fun hlt => ?_)
      · have hlt' : st < (ns.map V.int).length := of_decide_eq_true hlt
        rw [List.length_map] at hlt'
        obtain ⟨n, rfl⟩ : ∃ n : Nat, st = (n : Int) := ⟨st.toNat, by omega⟩
        have hn : n < ns.length := by omega
        have hat : (ns.map V.int)[n]? = some (V.int ns[n]) := by rw [List.getElem?_map, List.getElem?_eq_getElem hn]; rfl
        refine ⟨_, rfl, _, rfl, a, _, _, _, rfl, rfl, hS, atI_nat hat, _, _, rfl, rfl, ⟨by decide, by decide, by decide⟩, _, _, rfl, rfl, _, rfl, ?_⟩
        refine ite2 (fun hge => ?_) (fun hge => ?_)
        · have hge' := of_decide_eq_true hge
          refine ⟨_, rfl, _, rfl, a, _, _, _, rfl, rfl, hS, atI_nat hat, _, _, rfl, rfl, ⟨by decide, by decide, by decide⟩, _, _, rfl, rfl, ?_⟩
          exact fin _ _ (by omega) rfl
        · exact fin 0 _ (Int.le_refl _) rfl
      · refine iteF ?_
        exact fin 0 _ (Int.le_refl _) rfl
end
theorem But.seq {d a : Addr} {H H' : Hp} {K : PySem.W.Frag} {xs : List V} (D : DeckAt H d) (s : But d H H') (h : SqL K H a xs) : SqL K H' a xs := by
  obtain ⟨x, y, hd, _⟩ := D
  rcases h with (h | ⟨o, h⟩) | h
  · exact .inl (.inl (s _ _ (ne_of h hd (by intro z; cases z)) h))
  · exact .inl (.inr ⟨o, s _ _ (ne_of h hd (by intro z; cases z)) h⟩)
  · exact .inr h
theorem But.lst {d a : Addr} {H H' : Hp} {xs : List V} (D : DeckAt H d) (s : But d H H') (h : H a = some (.lst xs)) : H' a = some (.lst xs) := by
  obtain ⟨x, y, hd, _⟩ := D
  exact s _ _ (ne_of h hd (by intro z; cases z)) h
theorem But.tup {d a : Addr} {H H' : Hp} {xs : List V} (D : DeckAt H d) (s : But d H H') (h : H a = some (.tup xs)) : H' a = some (.tup xs) := by
  obtain ⟨x, y, hd, _⟩ := D
  exact s _ _ (ne_of h hd (by intro z; cases z)) h
/-- new behind is new ahead -/
theorem But.free {d p : Addr} {H H' : Hp} (D : DeckAt H' d) (s : But d H H') (h : H' p = none) : H p = none := by
  obtain ⟨x, y, hd, _⟩ := D
  cases q : H p with
  | none => rfl
  | some o =>
    have := s _ _ (fun e => by rw [e, hd] at h; cases h) q
    rw [h] at this
    cases this
theorem pow6 : (10 : Int) ^ (6 : Int).toNat = 1000000 := by decide
section
variable {P : Program} {w : World} {K : PySem.W.Frag} {mg : Str → Option Value} {base : Heap}
/-! ### a draw -/
def spDraw : Sp := fun vs H Q _ => ∃ (d : Addr) (n : Int), vs = [.ref d, .int n] ∧ DeckAt H d ∧ 0 < n ∧ n < 1073741824 ∧ ∀ (r : Int) (H' : Hp), 0 ≤ r → r < n → DeckAt H' d → But d H H' → Q (.int r) H'
theorem scDraw : FnScope ["tape", "size", "found"] ["tape", "size"] (defScope sDraw) := ⟨rfl, rfl, rfl, by decide +kernel, rfl, by decide +kernel, by decide +kernel⟩
theorem ok_draw {f : Addr} {fd : FuncData} (F : Fun K "_law_pick" "_law_pick" sDraw f fd) : FnOk P w K mg base CX0 1 f fd ["tape", "size"] spDraw := by
  refine F.ok scDraw (fun vs H Q E h => ?_) (fun cdv A outer s H vs Q E hr h => ?_)
  · obtain ⟨d, n, rfl, _⟩ := h
    rfl
  · obtain ⟨d, n, rfl, ⟨x, y, hd, x0, y0, y1⟩, n0, n1, k⟩ := h
    have hu := hu_of hr
    refine ⟨_, pss_cons (ps_if (pt_cmpR op_ge (pe_dget hu (pv 0) pe_str (fun _ _ => rfl)) (pv 1) (nomark _))
        (pss_cons (ps_set (i := 2) scDraw.nd rfl (Or.inl rfl) (pe_op op_mod (pe_dget hu (pv 0) pe_str (fun _ _ => rfl)) (pv 1)))
        (pss_cons (ps_dput hu (pv 0) pe_str (pe_op op_fdiv (pe_dget hu (pv 0) pe_str (fun _ _ => rfl)) (pv 1)) rfl)
        (pss_one (ps_ret (pv 2))))) pss_nil)
      (pss_cons (ps_dput hu (pv 0) pe_str (pe_op op_mod (pe_op op_add (pe_op op_mul (pe_dget hu (pv 0) pe_str (fun _ _ => rfl)) pe_int) pe_int) pe_int) rfl)
      (pss_one (ps_ret (pe_op op_mod (pe_op op_fdiv (pe_op op_mod (pe_op op_pow (pe_op op_mod (pe_op op_pow (pe_dget hu (pv 0) pe_str (fun _ _ => rfl)) pe_int) pe_int) pe_int) pe_int) pe_int) (pv 1))))), ?_⟩
    have gx : ∀ {H : Hp} {x y : Int}, H d = some (.dK (dk x y)) → DGet H d (.str "digits") (some (.int x)) := fun {H x y} e => by
      have := DGet.k (k := Sum.inr "digits") e
      rw [dk_digits] at this
      exact this
    have gy : ∀ {H : Hp} {x y : Int}, H d = some (.dK (dk x y)) → DGet H d (.str "mixed") (some (.int y)) := fun {H x y} e => by
      have := DGet.k (k := Sum.inr "mixed") e
      rw [dk_mixed] at this
      exact this
    have px : ∀ {H : Hp} {x y z : Int}, H d = some (.dK (dk x y)) → DPut H d (.str "digits") (.int z) (upd H d (.dK (dk z y))) := fun {H x y z} e => by
      have := DPut.k (k := Sum.inr "digits") (v := .int z) e (by show 2 < sizeLine; decide)
      rw [dk_put_digits] at this
      exact this
    have py : ∀ {H : Hp} {x y z : Int}, H d = some (.dK (dk x y)) → DPut H d (.str "mixed") (.int z) (upd H d (.dK (dk x z))) := fun {H x y z} e => by
      have := DPut.k (k := Sum.inr "mixed") (v := .int z) e (by show 2 < sizeLine; decide)
      rw [dk_put_mixed] at this
      exact this
    refine ⟨_, rfl, d, _, rfl, gx hd, _, rfl, _, _, rfl, rfl, _, rfl, ?_⟩
    refine ite2 (fun c => ?_) (fun c => ?_)
    · refine ⟨_, rfl, d, _, rfl, gx hd, _, rfl, _, _, rfl, rfl, n0, ?_⟩
      refine ⟨_, rfl, d, _, rfl, gx hd, _, rfl, _, _, rfl, rfl, ⟨n0, n1⟩, _, rfl, d, _, rfl, px hd, ?_⟩
      exact ⟨_, rfl, k _ _ (Int.emod_nonneg _ (by omega)) (Int.emod_lt_of_pos _ n0) ⟨_, y, upd_same, Int.ediv_nonneg x0 (by omega), y0, y1⟩ But.upd⟩
    · have m0 := Int.emod_nonneg (y * 40014 + 1013) (b := 2147483563) (by decide)
      have m1 := Int.emod_lt_of_pos (y * 40014 + 1013) (b := 2147483563) (by decide)
      refine ⟨_, rfl, d, _, rfl, gy hd, _, _, rfl, rfl, .inr ⟨by decide, by decide⟩, _, _, rfl, rfl, _, _, rfl, rfl, (by show (0 : Int) < 2147483563; decide), _, rfl, d, _, rfl, py hd, ?_⟩
      refine ⟨_, rfl, d, _, rfl, gy upd_same, _, _, rfl, rfl, ⟨by decide, by decide, by omega⟩, _, _, rfl, rfl, (by show (0 : Int) < 2147483399; decide), ?_⟩
      have q0 := Int.emod_nonneg (((y * 40014 + 1013) % 2147483563) ^ (2 : Int).toNat) (b := 2147483399) (by decide)
      have q1 := Int.emod_lt_of_pos (((y * 40014 + 1013) % 2147483563) ^ (2 : Int).toNat) (b := 2147483399) (by decide)
      refine ⟨_, _, rfl, rfl, ⟨by decide, by decide, by omega⟩, _, _, rfl, rfl, (by show (0 : Int) < 998244353; decide), _, _, rfl, rfl, ⟨by decide, by decide⟩, _, rfl, _, _, rfl, rfl, n0, ?_⟩
      exact k _ _ (Int.emod_nonneg _ (by omega)) (Int.emod_lt_of_pos _ n0) ⟨x, _, upd_same, x0, m0, by omega⟩ But.upd
/-! ### one of some things -/
def spChoose (K : PySem.W.Frag) : Sp := fun vs H Q _ => ∃ (d t : Addr) (xs : List V), vs = [.ref d, .ref t] ∧ DeckAt H d ∧ SqL K H t xs ∧ xs ≠ [] ∧ xs.length < 1000000 ∧ ∀ (v : V) (H' : Hp), v ∈ xs → DeckAt H' d → But d H H' → Q v H'
theorem scChoose : FnScope ["tape", "items"] ["tape", "items"] (defScope sChoose) := ⟨rfl, rfl, rfl, by decide +kernel, rfl, by decide +kernel, by decide +kernel⟩
theorem ok_choose {f fD : Addr} {fd fdD : FuncData} (F : Fun K "_law_one_of" "_law_one_of" sChoose f fd) (T : TxtD mg) (FD : Fun K "_law_pick" "_law_pick" sDraw fD fdD) (bD : Binds K fdD ["tape", "size"] []) (mD : mg "_law_pick" = some (.ref fD)) :
    FnOk P w K mg base CX0 2 f fd ["tape", "items"] (spChoose K) := by
  have GD : FnOk P w K mg base CX0 1 fD fdD ["tape", "size"] spDraw := ok_draw FD
  refine F.ok scChoose (fun vs H Q E h => ?_) (fun cdv A outer s H vs Q E hr h => ?_)
  · obtain ⟨d, t, xs, rfl, _⟩ := h
    rfl
  · obtain ⟨d, t, xs, rfl, D, hS, h0, h1, k⟩ := h
    refine ⟨_, pss_one (ps_ret (pe_ix ix_list (pv 1) (pe_call GD hr rfl mD FD.kp bD .nil pass0 (pa_cons (pv 0) (pa_cons (pe_callB call_len_seq (by rfl) T.len PySem.boot_len (pa_cons (pv 1) pa_nil)) pa_nil))) (fun _ _ => rfl))), ?_⟩
    have hl : 0 < xs.length := List.length_pos_iff.mpr h0
    refine ⟨_, rfl, _, rfl, _, rfl, t, _, rfl, .inl hS, d, _, rfl, D, by omega, by omega, fun r H' r0 r1 D' B => ?_⟩
    obtain ⟨n, rfl⟩ : ∃ n : Nat, r = (n : Int) := ⟨r.toNat, by omega⟩
    have hn : n < xs.length := by omega
    have hat : xs[n]? = some xs[n] := List.getElem?_eq_getElem hn
    exact ⟨t, _, _, _, rfl, rfl, B.seq D hS, atI_nat hat, k _ _ (List.getElem_mem hn) D' B⟩
end
/-! ### the walk through the ids meets a free one -/
theorem len_le_of_sub : ∀ (xs ys : List Int), xs.Nodup → (∀ x ∈ xs, x ∈ ys) → xs.length ≤ ys.length
  | [], _, _, _ => Nat.zero_le _
  | x :: r, ys, hn, hs => by
    have hx : x ∈ ys := hs x List.mem_cons_self
    have hn' := List.nodup_cons.mp hn
    have ih := len_le_of_sub r (ys.erase x) hn'.2 fun z hz => (List.mem_erase_of_ne (fun e => hn'.1 (by rw [← e]; exact hz))).mpr (hs z (List.mem_cons_of_mem _ hz))
    have hl := List.length_erase_of_mem hx
    have : 0 < ys.length := List.length_pos_of_mem hx
    show r.length + 1 ≤ ys.length
    omega
def nx (z : Int) (i : Nat) : Int := (z - 1 + (i : Int)) % 1000000 + 1
theorem nx_zero {z : Int} (h0 : 1 ≤ z) (h1 : z ≤ 1000000) : nx z 0 = z := by unfold nx; omega
theorem nx_succ {z : Int} {i : Nat} : nx z i % 1000000 + 1 = nx z (i + 1) := by unfold nx; omega
theorem nx_lo (z : Int) (i : Nat) : 1 ≤ nx z i := by unfold nx; omega
theorem nx_hi (z : Int) (i : Nat) : nx z i ≤ 1000000 := by unfold nx; omega
theorem nx_inj {z : Int} {i j : Nat} (hi : i < 1000) (hj : j < 1000) (h : nx z i = nx z j) : i = j := by unfold nx at h; omega
theorem nx_few {z : Int} {js : List Int} {t : Nat} (ht : t ≤ 500) (h : ∀ i, i < t → nx z i ∈ js) : t ≤ js.length := by
  have a : ((List.range t).map (nx z)).Nodup := by
    refine List.pairwise_map.mpr ?_
    refine List.Pairwise.imp_of_mem ?_ (List.pairwise_lt_range (n := t))
    intro i j hi hj l e
    have q := nx_inj (by have := List.mem_range.mp hi; omega) (by have := List.mem_range.mp hj; omega) e
    omega
  have b := len_le_of_sub _ js a (fun x hx => by
    obtain ⟨i, hi, rfl⟩ := List.mem_map.mp hx
    exact h i (List.mem_range.mp hi))
  rw [List.length_map, List.length_range] at b
  exact b
theorem eqV_int (i j : Int) : eqV (.int i) (.int j) = decide (i = j) := by
  first
    | rfl
    | simp [eqV]
theorem inV_int (z : Int) (js : List Int) : inV (.int z) (js.map V.int) = decide (z ∈ js) := by
  unfold inV
  rw [List.any_map]
  induction js with
  | nil => rfl
  | cons a r ih =>
    rw [List.any_cons, ih]
    show (eqV (.int a) (.int z) || decide (z ∈ r)) = decide (z ∈ a :: r)
    rw [eqV_int]
    by_cases e : a = z
    · subst e
      simp
    · have e' : ¬ z = a := fun q => e q.symm
      simp [e, e']
theorem all_flat (js : List Int) : (js.map V.int).all flatV = true := by
  induction js with
  | nil => rfl
  | cons a r ih => exact ih
/-! ### sets of ints -/
/-- S is the set of the ints ns, n their number -/
def SetIs (ns : List Int) (S : Int → Bool) (n : Nat) : Prop := (∀ k, S k = decide (k ∈ ns)) ∧ ∃ L : List Int, L.Nodup ∧ L.length = n ∧ ∀ k, k ∈ L ↔ k ∈ ns
theorem shorter : ∀ ns : List Int, ¬ ns.Nodup → ∃ ms : List Int, ms.length < ns.length ∧ ∀ k ∈ ns, k ∈ ms
  | [], h => absurd List.nodup_nil h
  | a :: r, h => by
    by_cases ha : a ∈ r
    · exact ⟨r, Nat.lt_succ_self _, fun k hk => by
        rcases List.mem_cons.mp hk with e | e
        · rw [e]; exact ha
        · exact e⟩
    · have hr : ¬ r.Nodup := fun q => h (List.nodup_cons.mpr ⟨ha, q⟩)
      obtain ⟨ms, h1, h2⟩ := shorter r hr
      exact ⟨a :: ms, Nat.succ_lt_succ h1, fun k hk => by
        rcases List.mem_cons.mp hk with e | e
        · rw [e]; exact List.mem_cons_self
        · exact List.mem_cons_of_mem _ (h2 k e)⟩
theorem SetIs.count {ns : List Int} {S : Int → Bool} {n : Nat} (h : SetIs ns S n) : ((n : Int) = (ns.length : Int)) ↔ ns.Nodup := by
  obtain ⟨_, L, h1, h2, h3⟩ := h
  have a := len_le_of_sub L ns h1 fun k hk => (h3 k).mp hk
  constructor
  · intro e
    by_cases hN : ns.Nodup
    · exact hN
    · obtain ⟨ms, m1, m2⟩ := shorter ns hN
      have b := len_le_of_sub L ms h1 fun k hk => m2 k ((h3 k).mp hk)
      omega
  · intro hN
    have b := len_le_of_sub ns L hN fun k hk => (h3 k).mpr hk
    omega
theorem firstMet_nodup (val : Nat → Int) : ∀ i, (firstMet val i).Nodup
  | 0 => by rw [firstMet_zero]; exact List.nodup_nil
  | i + 1 => by
    rw [firstMet_succ]
    unfold step_dedup
    have ih := firstMet_nodup val i
    split
    · exact ih
    · rename_i h
      refine List.nodup_append.mpr ⟨ih, by simp, ?_⟩
      intro a ha b hb e
      have : b = val i := by simpa using hb
      refine h (List.any_eq_true.mpr ⟨a, ha, ?_⟩)
      rw [e, this]
      simp
theorem getD_range (ns : List Int) : (List.range ns.length).map (fun i => ns.getD i 0) = ns := by
  apply List.ext_getElem
  · simp
  · intro i h1 h2
    simp [List.getD, h2]
theorem firstMet_mem (ns : List Int) (k : Int) : k ∈ firstMet (fun i => ns.getD i 0) ns.length ↔ k ∈ ns := by
  have h := firstMet_any (fun i => ns.getD i 0) ns.length k
  rw [getD_range] at h
  have e : ∀ l : List Int, (l.any (· == k) = true) ↔ k ∈ l := fun l => by
    rw [List.any_eq_true]
    constructor
    · rintro ⟨x, hx, q⟩
      have : x = k := by simpa using q
      rw [← this]; exact hx
    · intro hk
      exact ⟨k, hk, by simp⟩
  rw [← e, ← e, h]
def rSetI (K : PySem.W.Frag) : List V → Hp → VK → Prop := fun xs H Q => ∃ (p : Addr) (ns : List Int), xs = [.ref p] ∧ (SqL K H p (ns.map V.int) ∨ SqT K H p (ns.map V.int)) ∧ ns.length ≤ 4000 ∧
  ∀ (q : Addr) (S : Int → Bool) (n : Nat), H q = none → SetIs ns S n → n ≤ ns.length → Q (.ref q) (upd H q (.set S n))
section
variable {X : Cx}
theorem cr_setI (hc : X.calm = true) : CallR X (.type "set") (rSetI X.K) := by
  intro pins s σ H xs us Q I r h
  obtain ⟨p, ns, rfl, hq, hlen, k⟩ := h
  rw [Vals.ref1 r]
  have hs : scanBound = 4096 := rfl
  rcases hq with hq | hq
  · obtain ⟨its, rv, pl, hz⟩ := I.list hq
    have hl := rv.length
    rw [List.length_map] at hl
    refine call_set_list (I.ok.hd hc) pl.isList (ns := ns) (Vals.ints rv) (by rw [List.size_toArray, hs]; omega) fun h' tk R kk => ?_
    have esz : its.toArray.size = ns.length := by rw [List.size_toArray]; omega
    rw [esz] at R
    have hn := firstMet_mem ns
    have hset : SetIs ns (fun k' => (firstMet (fun i => ns.getD i 0) ns.length).any (· == k')) (firstMet (fun i => ns.getD i 0) ns.length).length := by
      refine ⟨fun k => ?_, _, firstMet_nodup _ _, rfl, hn⟩
      rw [Bool.eq_iff_iff, decide_eq_true_iff, ← hn k, List.any_eq_true]
      constructor
      · rintro ⟨x, hx, q⟩
        have : x = k := by simpa using q
        rw [← this]; exact hx
      · intro hk
        exact ⟨k, hk, by simp⟩
    have I' := I.laid (a := s.heap.objs.size) (o := .set _ _) (h' := h') (t' := tk) (fun b u e => kk b u (Heap.lt_size e) e) (Nat.le_refl _) R
    exact ⟨.ref _, _, I', rfl, k _ _ _ (I.hok.fresh (Nat.le_refl _)) hset (firstMet_length_le _ _)⟩
  · obtain ⟨its, rv, pl, hz⟩ := I.tuple hq
    have hl := rv.length
    rw [List.length_map] at hl
    refine call_set_tupI ns (I.ok.hd hc) pl (Vals.ints rv) (by rw [hs]; omega) fun h' tk c R hle kk => ?_
    have hset : SetIs ns (fun j => decide (j ∈ ns)) c := by
      obtain ⟨o, es, ep, t, h1, h2, h3, h4, h5, h6, h7, h8, h9, _⟩ := id R
      refine ⟨fun k => rfl, es.toList.map keyOf, h5, ?_, fun k => ?_⟩
      · rw [List.length_map, ← h9]; rfl
      · rw [← h6 k, decide_eq_true_iff]
    have I' := I.laid (a := s.heap.objs.size) (o := .set _ _) (h' := h') (t' := tk) (fun b u e => kk b u e) (Nat.le_refl _) (SetR.setOf R)
    exact ⟨.ref _, _, I', rfl, k _ _ _ (I.hok.fresh (Nat.le_refl _)) hset hle⟩
def rInSet (neg : Bool) : R2 := fun x y H Q => ∃ (k : Int) (a : Addr) (S : Int → Bool) (n : Nat), x = .int k ∧ y = .ref a ∧ H a = some (.set S n) ∧ Q (.bl (if neg then !S k else S k)) H
theorem op_inSet : OpR X (compareOp .In) (rInSet false) := by
  intro pins s σ H x y v u Q I rx ry h
  obtain ⟨k, a, S, n, rfl, rfl, ha, q⟩ := h
  cases ry
  obtain ⟨t, rfl⟩ := rx
  exact wpAny_inSet_of (knd := PySem.intKind X.prog X.w) (k := k) (by first | rfl | simp [PySem.intKind, Value.isInt]) rfl (I.hok a _ ha) ⟨.bl (S k), H, I.tok _, rfl, q⟩
theorem op_notInSet : OpR X (compareOp .NotIn) (rInSet true) := by
  intro pins s σ H x y v u Q I rx ry h
  obtain ⟨k, a, S, n, rfl, rfl, ha, q⟩ := h
  cases ry
  obtain ⟨t, rfl⟩ := rx
  exact wpAny_notInSet_of (knd := PySem.intKind X.prog X.w) (k := k) (by first | rfl | simp [PySem.intKind, Value.isInt]) rfl (I.hok a _ ha) ⟨.bl (!S k), H, I.tok _, rfl, q⟩
theorem call_lenSet : CallR X (.builtin "len") (fun xs H Q => ∃ a S n, xs = [.ref a] ∧ H a = some (.set S n) ∧ Q (.int n) H) := by
  intro pins s σ H xs us Q I r h
  obtain ⟨a, S, n, rfl, ha, q⟩ := h
  rw [Vals.ref1 r]
  obtain ⟨o, es, ep, t, h1, h2, h3, h4, h5, h6, h7, h8⟩ := I.hok a _ ha
  have hs : scanBound = 4096 := rfl
  refine call_len_set h1 h2 h3 h7 (by omega) ?_
  rw [h8]
  exact ⟨.int n, H, (I.tok (s.toks + 1 + 1)), ⟨_, rfl⟩, q⟩
end
/-! ### data in the heap: flat things, lists, tuples, the empty dict -/
mutual
inductive DV (K : PySem.W.Frag) (H : Hp) : V → PyData → Prop
  | non : DV K H .non .none
  | bl (b : Bool) : DV K H (.bl b) (.bool b)
  | int (i : Int) : DV K H (.int i) (.int i)
  | str (x : Str) : DV K H (.str x) (.str x)
  | lst {a : Addr} {xs : List V} {ds : List PyData} : SqL K H a xs → DVs K H xs ds → DV K H (.ref a) (.list ds)
  | tup {a : Addr} {xs : List V} {ds : List PyData} : SqT K H a xs → DVs K H xs ds → DV K H (.ref a) (.tuple ds)
  | dk0 {a : Addr} : H a = some (.dK []) → DV K H (.ref a) (.dict [])
inductive DVs (K : PySem.W.Frag) (H : Hp) : List V → List PyData → Prop
  | nil : DVs K H [] []
  | cons {v : V} {vs : List V} {d : PyData} {ds : List PyData} : DV K H v d → DVs K H vs ds → DVs K H (v :: vs) (d :: ds)
end
section
variable {K : PySem.W.Frag} {H H' : Hp}
theorem DVs.length {vs : List V} {ds : List PyData} (h : DVs K H vs ds) : vs.length = ds.length := by
  induction vs generalizing ds with
  | nil => cases h; rfl
  | cons v r ih => cases h with | cons _ t => exact congrArg Nat.succ (ih t)
theorem DVs.at {vs : List V} {ds : List PyData} (h : DVs K H vs ds) : ∀ {i : Nat} {v : V}, vs[i]? = some v → ∃ d, ds[i]? = some d ∧ DV K H v d := by
  induction vs generalizing ds with
  | nil => intro i v e; simp at e
  | cons v r ih =>
    cases h with
    | cons p t =>
      intro i u e
      cases i with
      | zero => simp at e; subst e; exact ⟨_, rfl, p⟩
      | succ i => simp at e; obtain ⟨d, h1, h2⟩ := ih t e; exact ⟨d, by simpa using h1, h2⟩
theorem Same.sq {a : Addr} {xs : List V} (e : Same H H') (h : SqL K H a xs) : SqL K H' a xs := e.seq h
theorem Same.tq {a : Addr} {xs : List V} (e : Same H H') (h : SqT K H a xs) : SqT K H' a xs := by
  rcases h with (h | ⟨o, h⟩) | h
  · exact .inl (.inl (e _ _ h))
  · exact .inl (.inr ⟨o, e _ _ h⟩)
  · exact .inr h
mutual
theorem DV.same (e : Same H H') : ∀ {d : PyData} {v : V}, DV K H v d → DV K H' v d
  | _, _, .non => .non
  | _, _, .bl b => .bl b
  | _, _, .int i => .int i
  | _, _, .str x => .str x
  | _, _, .lst h t => .lst (Same.sq e h) (DVs.same e t)
  | _, _, .tup h t => .tup (Same.tq e h) (DVs.same e t)
  | _, _, .dk0 h => .dk0 (e _ _ h)
theorem DVs.same (e : Same H H') : ∀ {ds : List PyData} {vs : List V}, DVs K H vs ds → DVs K H' vs ds
  | _, _, .nil => .nil
  | _, _, .cons p t => .cons (DV.same e p) (DVs.same e t)
end
/-- a value's built-in type by its name -/
def TyD (K : PySem.W.Frag) (H : Hp) (x : V) : Prop := ∃ nm : String, TyX K H x (.type nm) ∧ ((nm = "NoneType" ∧ x = .non) ∨ (nm = "bool" ∧ ∃ b, x = .bl b) ∨ (nm = "int" ∧ ∃ i, x = .int i) ∨ (nm = "str" ∧ ∃ z, x = .str z) ∨
  (nm = "list" ∧ ∃ a, x = .ref a) ∨ (nm = "tuple" ∧ ∃ a, x = .ref a) ∨ (nm = "dict" ∧ ∃ a, x = .ref a))
theorem tyL {a : Addr} {xs : List V} (h : SqL K H a xs) : TyX K H (.ref a) (.type "list") := by
  rcases h with (h | ⟨o, h⟩) | ⟨o, _, _, h, c, _⟩
  · exact .base (.lst h)
  · exact .base (.frz h)
  · exact .kList h c
theorem tyT {a : Addr} {xs : List V} (h : SqT K H a xs) : TyX K H (.ref a) (.type "tuple") := by
  rcases h with (h | ⟨o, h⟩) | ⟨o, _, _, h, c, _⟩
  · exact .base (.tup h)
  · exact .fTuple h
  · exact .kTuple h c
theorem DV.ty {v : V} {d : PyData} (h : DV K H v d) : TyD K H v := by
  cases h with
  | non => exact ⟨_, .base .non, .inl ⟨rfl, rfl⟩⟩
  | bl b => exact ⟨_, .base (.bl b), .inr (.inl ⟨rfl, b, rfl⟩)⟩
  | int i => exact ⟨_, .base (.int i), .inr (.inr (.inl ⟨rfl, i, rfl⟩))⟩
  | str x => exact ⟨_, .base (.str x), .inr (.inr (.inr (.inl ⟨rfl, x, rfl⟩)))⟩
  | lst h t => exact ⟨_, tyL h, .inr (.inr (.inr (.inr (.inl ⟨rfl, _, rfl⟩))))⟩
  | tup h t => exact ⟨_, tyT h, .inr (.inr (.inr (.inr (.inr (.inl ⟨rfl, _, rfl⟩)))))⟩
  | dk0 h => exact ⟨_, .base (.dK h), .inr (.inr (.inr (.inr (.inr (.inr ⟨rfl, _, rfl⟩)))))⟩
end
def wholeV : V → Bool
  | .int _ => true
  | _ => false
def wholeD : PyData → Bool
  | .int _ => true
  | _ => false
theorem DV.whole {K : PySem.W.Frag} {H : Hp} {v : V} {d : PyData} (h : DV K H v d) : wholeV v = wholeD d := by cases h <;> rfl
structure TxtV (mg : Str → Option Value) : Prop where
  len : mg "len" = none
  isi : mg "isinstance" = none
  int : mg "int" = none
  bool : mg "bool" = none
  tuple : mg "tuple" = none
  set : mg "set" = none
  all : mg "all" = none
  list : mg "list" = none
def isTup : PyData → Bool
  | .tuple _ => true
  | _ => false
def isLst : PyData → Bool
  | .list _ => true
  | _ => false
theorem kb1 : kitB "NoneType" "tuple" = some false := by decide +kernel
theorem kb2 : kitB "NoneType" "list" = some false := by decide +kernel
theorem kb3 : kitB "bool" "tuple" = some false := by decide +kernel
theorem kb4 : kitB "bool" "list" = some false := by decide +kernel
theorem kb5 : kitB "int" "tuple" = some false := by decide +kernel
theorem kb6 : kitB "int" "list" = some false := by decide +kernel
theorem kb7 : kitB "str" "tuple" = some false := by decide +kernel
theorem kb8 : kitB "str" "list" = some false := by decide +kernel
theorem kb9 : kitB "list" "tuple" = some false := by decide +kernel
theorem kb10 : kitB "list" "list" = some true := by decide +kernel
theorem kb11 : kitB "tuple" "tuple" = some true := by decide +kernel
theorem kb12 : kitB "tuple" "list" = some false := by decide +kernel
theorem kb13 : kitB "dict" "tuple" = some false := by decide +kernel
theorem kb14 : kitB "dict" "list" = some false := by decide +kernel
theorem DV.kit {K : PySem.W.Frag} {H : Hp} {v : V} {d : PyData} (h : DV K H v d) : ∃ nm : String, TyX K H v (.type nm) ∧ PySem.W.kitOne K (.type nm) (.type "tuple") = some (isTup d) ∧ PySem.W.kitOne K (.type nm) (.type "list") = some (isLst d) := by
  cases h with
  | non => exact ⟨_, .base .non, kit_ty kb1, kit_ty kb2⟩
  | bl b => exact ⟨_, .base (.bl b), kit_ty kb3, kit_ty kb4⟩
  | int i => exact ⟨_, .base (.int i), kit_ty kb5, kit_ty kb6⟩
  | str x => exact ⟨_, .base (.str x), kit_ty kb7, kit_ty kb8⟩
  | lst h t => exact ⟨_, tyL h, kit_ty kb9, kit_ty kb10⟩
  | tup h t => exact ⟨_, tyT h, kit_ty kb11, kit_ty kb12⟩
  | dk0 h => exact ⟨_, .base (.dK h), kit_ty kb13, kit_ty kb14⟩
/-! ### the plain functions -/
def intOf : PyData → Int
  | .int i => i
  | _ => 0
theorem whole_all {K : PySem.W.Frag} {H : Hp} : ∀ {ds : List PyData} {vs : List V}, DVs K H vs ds → ds.all wholeD = true → vs = (ds.map intOf).map V.int
  | _, _, .nil, _ => rfl
  | d :: ds, v :: vs, .cons p t, h => by
    rw [List.all_cons, Bool.and_eq_true] at h
    rw [List.map_cons, List.map_cons, ← whole_all t h.2]
    cases p <;> first | rfl | (exact absurd h.1 (by intro q; cases q))
theorem DVs.wholes {K : PySem.W.Frag} {H : Hp} {ds : List PyData} {vs : List V} (h : DVs K H vs ds) {i : Nat} {v : V} (e : vs[i]? = some v) : ∃ d, ds[i]? = some d ∧ wholeV v = wholeD d ∧ TyD K H v := by
  obtain ⟨d, h1, h2⟩ := h.at e
  exact ⟨d, h1, h2.whole, h2.ty⟩
theorem take_snoc {α : Type} {l : List α} {i : Nat} {x : α} (h : l[i]? = some x) : l.take (i + 1) = l.take i ++ [x] := by
  rw [List.take_succ, h]; rfl
theorem lt_of_some {α : Type} {l : List α} {i : Nat} {x : α} (h : l[i]? = some x) : i < l.length := (List.getElem?_eq_some_iff.mp h).1
theorem cut_to (xs : List V) (k : Nat) : cutV xs none (some (k : Int)) = xs.take k := by
  unfold cutV
  rw [HT.sIx_none, HT.sIx_nat, List.drop_zero, Nat.sub_zero]
  rcases Nat.le_total k xs.length with h | h
  · rw [Nat.min_eq_left h]
  · rw [Nat.min_eq_right h, List.take_length, List.take_of_length_le h]
theorem cut_from (xs : List V) (k : Nat) : cutV xs (some (k : Int)) none = xs.drop k := by
  unfold cutV
  rw [HT.sIx_none, HT.sIx_nat]
  rcases Nat.le_total k xs.length with h | h
  · rw [Nat.min_eq_left h, ← List.length_drop, List.take_length]
  · rw [Nat.min_eq_right h, Nat.sub_self, List.take_zero, List.drop_of_length_le h]
theorem eqvAll_ints : ∀ xs ys : List Int, PyData.eqvAll (xs.map .int) (ys.map .int) = decide (xs = ys)
  | [], [] => by simp [PyData.eqvAll]
  | [], _ :: _ => by simp [PyData.eqvAll]
  | _ :: _, [] => by simp [PyData.eqvAll]
  | x :: xs, y :: ys => by
    rw [List.map_cons, List.map_cons, PyData.eqvAll, eqvAll_ints xs ys, PyData.eqv]
    by_cases h : x = y
    · subst h
      simp
    · simp [h]
theorem canLay_ints : ∀ xs : List Int, PyData.canLayAll0 (xs.map .int) = true
  | [] => by rw [List.map_nil, PyData.canLayAll0]
  | x :: xs => by rw [List.map_cons, PyData.canLayAll0, canLay_ints xs, PyData.canLay0]; rfl
theorem depthAll_ints : ∀ xs : List Int, PyData.depthAll (xs.map .int) ≤ 1
  | [] => by rw [List.map_nil, PyData.depthAll]; omega
  | x :: xs => by
    have := depthAll_ints xs
    rw [List.map_cons, PyData.depthAll, PyData.depth]
    omega
theorem shaped_ints (xs : List Int) : SeqAt.shaped (.list (xs.map .int)) = true := by
  unfold SeqAt.shaped
  rw [Bool.and_eq_true]
  refine ⟨?_, decide_eq_true ?_⟩
  · rw [PyData.canLay0]; exact canLay_ints xs
  · have := depthAll_ints xs
    rw [PyData.depth]
    omega
theorem DpAll.ints {K : PySem.W.Frag} {H : Hp} : ∀ xs : List Int, DpAll K H (xs.map V.int) (xs.map .int)
  | [] => .nil
  | x :: xs => .cons (.int x) (DpAll.ints xs)
def rEqL (K : PySem.W.Frag) : R2 := fun x y H Q => ∃ (p q : Addr) (xs ys : List Int), x = .ref p ∧ y = .ref q ∧ SqL K H p (xs.map V.int) ∧ SqL K H q (ys.map V.int) ∧ Q (.bl (decide (xs = ys))) H
def rNeL (K : PySem.W.Frag) : R2 := fun x y H Q => ∃ (p q : Addr) (xs ys : List Int), x = .ref p ∧ y = .ref q ∧ SqL K H p (xs.map V.int) ∧ SqL K H q (ys.map V.int) ∧ Q (.bl (!decide (xs = ys))) H
section
variable {X : Cx}
theorem op_eqL (hu : X.A.units + 64 < cLine) : OpR X (compareOp .Eq) (rEqL X.K) := by
  intro pins s σ H x y v u Q I rx ry h
  obtain ⟨p, q, xs, ys, rfl, rfl, h1, h2, k⟩ := h
  refine op_eqD hu pins s σ H _ _ v u Q I rx ry ⟨_, _, .lst h1 (DpAll.ints xs), .lst h2 (DpAll.ints ys), shaped_ints xs, shaped_ints ys, ?_⟩
  rw [PyData.eqv, eqvAll_ints]
  exact k
theorem op_neL (hu : X.A.units + 64 < cLine) : OpR X (compareOp .NotEq) (rNeL X.K) := by
  intro pins s σ H x y v u Q I rx ry h
  obtain ⟨p, q, xs, ys, rfl, rfl, h1, h2, k⟩ := h
  refine op_neD hu pins s σ H _ _ v u Q I rx ry ⟨_, _, .lst h1 (DpAll.ints xs), .lst h2 (DpAll.ints ys), shaped_ints xs, shaped_ints ys, ?_⟩
  rw [PyData.eqv, eqvAll_ints]
  exact k
end
theorem hu64 {A : Around} {k : Nat} (hr : Room k A) : A.units + 64 < cLine := by have := hr.un; omega
/-- behind Hd: all as it was but the deck at d, and these objects stand -/
def Fs (d : Addr) (Hd : Hp) (fs : List (Addr × HO)) (H' : Hp) : Prop := But d Hd H' ∧ DeckAt H' d ∧ ∀ p ∈ fs, p.1 ≠ d ∧ H' p.1 = some p.2
section
variable {d p p0 p1 p2 p3 p4 p5 : Addr} {Hd H1 H2 : Hp} {fs : List (Addr × HO)} {o o0 o1 o2 o3 o4 o5 : HO}
theorem Fs.start (D : DeckAt Hd d) : Fs d Hd [] Hd := ⟨But.refl _ _, D, fun _ h => by cases h⟩
theorem Fs.step (F : Fs d Hd fs H1) (D : DeckAt H2 d) (B : But d H1 H2) : Fs d Hd fs H2 := ⟨F.1.trans B, D, fun q hq => ⟨(F.2.2 q hq).1, B _ _ (F.2.2 q hq).1 (F.2.2 q hq).2⟩⟩
theorem Fs.same (F : Fs d Hd fs H1) (s : Same H1 H2) : Fs d Hd fs H2 := F.step (F.2.1.same s) (But.of s)
theorem Fs.add (F : Fs d Hd fs H1) (h : H1 p = some o) (n : ∀ x y, o ≠ .dK (dk x y)) : Fs d Hd ((p, o) :: fs) H1 := ⟨F.1, F.2.1, fun q hq => by
  rcases List.mem_cons.mp hq with e | e
  · subst e
    obtain ⟨x, y, hd, _⟩ := F.2.1
    exact ⟨ne_of h hd (n x y), h⟩
  · exact F.2.2 q e⟩
theorem Fs.new (F : Fs d Hd fs H1) (h : H1 p = none) (n : ∀ x y, o ≠ .dK (dk x y)) : Fs d Hd ((p, o) :: fs) (upd H1 p o) := (F.same (Same.new h)).add upd_same n
theorem Fs.skip (F : Fs d Hd fs H1) (h : H1 p = none) : Fs d Hd fs (upd H1 p o) := F.same (Same.new h)
theorem Fs.tail (F : Fs d Hd ((p, o) :: fs) H1) : Fs d Hd fs H1 := ⟨F.1, F.2.1, fun q hq => F.2.2 q (List.mem_cons_of_mem _ hq)⟩
theorem Fs.deck (F : Fs d Hd fs H1) : DeckAt H1 d := F.2.1
theorem Fs.g0 (F : Fs d Hd ((p0, o0) :: fs) H1) : H1 p0 = some o0 := (F.2.2 _ List.mem_cons_self).2
theorem Fs.g1 (F : Fs d Hd ((p0, o0) :: (p1, o1) :: fs) H1) : H1 p1 = some o1 := F.tail.g0
theorem Fs.g2 (F : Fs d Hd ((p0, o0) :: (p1, o1) :: (p2, o2) :: fs) H1) : H1 p2 = some o2 := F.tail.g1
theorem Fs.g3 (F : Fs d Hd ((p0, o0) :: (p1, o1) :: (p2, o2) :: (p3, o3) :: fs) H1) : H1 p3 = some o3 := F.tail.g2
theorem Fs.g4 (F : Fs d Hd ((p0, o0) :: (p1, o1) :: (p2, o2) :: (p3, o3) :: (p4, o4) :: fs) H1) : H1 p4 = some o4 := F.tail.g3
/-- what stood ahead of the deck stands -/
theorem Fs.old {H : Hp} (F : Fs d Hd fs H1) (hd : H d = none) (s : Same H Hd) : Same H H1 := fun b u h => F.1 b u (ne_of_none h hd) (s b u h)
end
theorem nl {xs : List V} : ∀ x y, HO.lst xs ≠ .dK (dk x y) := fun _ _ h => by cases h
theorem nt {xs : List V} : ∀ x y, HO.tup xs ≠ .dK (dk x y) := fun _ _ h => by cases h
theorem cut_mid (js : List Int) {f t : Nat} (h : f < js.length) : cutV (js.map V.int) (some (f : Int)) (some ((f : Int) + 1 + (t : Int))) = ((js.drop f).take (t + 1)).map V.int := by
  unfold cutV
  have e : (f : Int) + 1 + (t : Int) = ((f + 1 + t : Nat) : Int) := by omega
  rw [e, HT.sIx_nat, HT.sIx_nat, List.length_map, Nat.min_eq_left (by omega : f ≤ js.length), List.map_take, List.map_drop]
  rcases Nat.le_total (f + 1 + t) js.length with q | q
  · rw [Nat.min_eq_left q]
    congr 1
    omega
  · rw [Nat.min_eq_right q, List.take_of_length_le, List.take_of_length_le]
    · rw [List.length_drop, List.length_map]; omega
    · rw [List.length_drop, List.length_map]; omega
/-! ### lists hung in a dict -/
def HungAt (G : Hp) (n : Nat) (H : Hp) (h : Addr) (f : Int → List Int) : Prop := ∃ kvs : List (Key × V), H h = some (.dK kvs) ∧ kvs.length ≤ n ∧
  (∀ a, (valV kvs (.inl a : Key) = none ∧ f a = []) ∨ ∃ l, valV kvs (.inl a : Key) = some (.ref l) ∧ H l = some (.lst ((f a).map V.int)) ∧ G l = none) ∧
  ∀ a b l, valV kvs (.inl a : Key) = some (.ref l) → valV kvs (.inl b : Key) = some (.ref l) → a = b
def pushF (f : Int → List Int) (a x : Int) : Int → List Int := fun b => if b = a then f a ++ [x] else f b
theorem HungAt.nil {G H : Hp} {h : Addr} (e : H h = some (.dK [])) : HungAt G 0 H h fun _ => [] :=
  ⟨[], e, Nat.le_refl _, fun a => .inl ⟨rfl, rfl⟩, fun a b l z => by cases z⟩
theorem HungAt.same {G H H' : Hp} {n : Nat} {h : Addr} {f : Int → List Int} (s : Same H H') (g : HungAt G n H h f) : HungAt G n H' h f := by
  obtain ⟨kvs, h1, hn, h2, h3⟩ := g
  refine ⟨kvs, s _ _ h1, hn, fun a => ?_, h3⟩
  rcases h2 a with q | ⟨l, q1, q2, q3⟩
  · exact .inl q
  · exact .inr ⟨l, q1, s _ _ q2, q3⟩
/-- d.setdefault(a, []).append(x), with the list at z made for it -/
theorem HungAt.push {G H : Hp} {n : Nat} {h z : Addr} {f : Int → List Int} {a x : Int} (g : HungAt G n H h f) (hz : H z = none) (gz : G z = none) (gh : G h = none) (sG : Same G H) :
    ∃ kvs, (upd H z (.lst [])) h = some (.dK kvs) ∧ kvs.length ≤ n ∧
      (∀ v, valV kvs (.inl a : Key) = some v → ∃ l, v = .ref l ∧ (upd H z (.lst [])) l = some (.lst ((f a).map V.int)) ∧ HungAt G (n + 1) (upd (upd H z (.lst [])) l (.lst ((f a).map V.int ++ [.int x]))) h (pushF f a x) ∧ Same G (upd (upd H z (.lst [])) l (.lst ((f a).map V.int ++ [.int x]))) ∧ G l = none) ∧
      (valV kvs (.inl a : Key) = none → (upd (upd H z (.lst [])) h (.dK (putK kvs (.inl a : Key) (.ref z)))) z = some (.lst []) ∧ HungAt G (n + 1) (upd (upd (upd H z (.lst [])) h (.dK (putK kvs (.inl a : Key) (.ref z)))) z (.lst ([] ++ [.int x]))) h (pushF f a x) ∧
        Same G (upd (upd (upd H z (.lst [])) h (.dK (putK kvs (.inl a : Key) (.ref z)))) z (.lst ([] ++ [.int x])))) := by
  obtain ⟨kvs, h1, hn, h2, h3⟩ := g
  have nzh : h ≠ z := ne_of_none h1 hz
  have s1 : Same H (upd H z (.lst [])) := Same.new hz
  have old : ∀ b : Int, valV kvs (.inl b : Key) ≠ some (.ref z) := fun b q => by
    rcases h2 b with w | ⟨l2, w1, w2, _⟩
    · rw [w.1] at q; cases q
    · rw [q] at w1
      cases w1
      rw [hz] at w2; cases w2
  refine ⟨kvs, s1 _ _ h1, hn, fun v hv => ?_, fun hv => ?_⟩
  · rcases h2 a with q | ⟨l, q1, q2, q3⟩
    · rw [q.1] at hv; cases hv
    · rw [hv] at q1
      have hl := s1 _ _ q2
      refine ⟨l, Option.some.inj q1, hl, ⟨kvs, by rw [upd_ne (ne_of (s1 _ _ h1) hl (fun z => by cases z))]; exact s1 _ _ h1, by omega, fun b => ?_, h3⟩, fun b o e => by rw [upd_ne (ne_of_none e q3)]; exact s1 _ _ (sG _ _ e), q3⟩
      rw [q1] at hv
      by_cases e : b = a
      · subst e
        refine .inr ⟨l, hv, ?_, q3⟩
        rw [upd_same]
        unfold pushF
        rw [if_pos rfl, List.map_append]; rfl
      · unfold pushF
        rw [if_neg e]
        rcases h2 b with q | ⟨l2, w1, w2, w3⟩
        · exact .inl q
        · refine .inr ⟨l2, w1, ?_, w3⟩
          have nn : l2 ≠ l := fun z => by
            subst z
            exact e (h3 _ _ _ w1 hv)
          rw [upd_ne nn]
          exact s1 _ _ w2
  · have fa : f a = [] := by
      rcases h2 a with q | ⟨l, q, _⟩
      · exact q.2
      · rw [hv] at q; cases q
    have key : ∀ b : Int, valV (putK kvs (.inl a : Key) (.ref z)) (.inl b : Key) = if b = a then some (.ref z) else valV kvs (.inl b : Key) := fun b => by
      rw [valV_put]
      by_cases e : b = a
      · rw [if_pos e, if_pos (by rw [e])]
      · rw [if_neg e, if_neg (fun q => e (Sum.inl.inj q))]
    refine ⟨by rw [upd_ne nzh.symm, upd_same], ⟨_, by rw [upd_ne nzh, upd_same], Nat.le_trans (length_putK _ _ _) (by omega), fun b => ?_, fun b c l e1 e2 => ?_⟩, fun b o e => by rw [upd_ne (ne_of_none e gz), upd_ne (ne_of_none e gh)]; exact s1 _ _ (sG _ _ e)⟩
    · rw [key]
      unfold pushF
      by_cases e : b = a
      · rw [if_pos e, if_pos e, fa]
        exact .inr ⟨z, rfl, by rw [upd_same]; rfl, gz⟩
      · rw [if_neg e, if_neg e]
        rcases h2 b with q | ⟨l2, q1, q2, q3⟩
        · exact .inl q
        · exact .inr ⟨l2, q1, by rw [upd_ne (ne_of_none q2 hz), upd_ne (ne_of q2 h1 (fun z => by cases z)), upd_ne (ne_of_none q2 hz)]; exact q2, q3⟩
    · rw [key] at e1 e2
      by_cases eb : b = a
      · by_cases ec : c = a
        · rw [eb, ec]
        · rw [if_pos eb] at e1
          rw [if_neg ec, ← e1] at e2
          exact absurd e2 (old c)
      · by_cases ec : c = a
        · rw [if_pos ec] at e2
          rw [if_neg eb, ← e2] at e1
          exact absurd e1 (old b)
        · rw [if_neg eb] at e1
          rw [if_neg ec] at e2
          exact h3 _ _ _ e1 e2
/-! ### pins in the heap -/
def pinK (ps : List (Int × Int)) : List (Key × V) := ps.map fun e => (.inl e.1, .int e.2)
def anOf (ps : List (Int × Int)) (x : Int) : Option Int := (ps.find? fun e => decide (e.1 = x)).map (·.2)
theorem val_pin : ∀ (ps : List (Int × Int)) (x : Int), valV (pinK ps) (.inl x : Key) = (anOf ps x).map V.int
  | [], _ => rfl
  | e :: ps, x => by
    by_cases h : e.1 = x
    · rw [show pinK (e :: ps) = ((.inl e.1 : Key), V.int e.2) :: pinK ps from rfl, valV_pos (by show (.inl e.1 : Key) = .inl x; rw [h])]
      unfold anOf
      rw [List.find?_cons_of_pos (by exact decide_eq_true h)]
      rfl
    · rw [show pinK (e :: ps) = ((.inl e.1 : Key), V.int e.2) :: pinK ps from rfl, valV_neg (fun z : (.inl e.1 : Key) = .inl x => h (Sum.inl.inj z)), val_pin ps x]
      unfold anOf
      rw [List.find?_cons_of_neg (by intro z; exact h (of_decide_eq_true z))]
theorem int_at {js : List Int} {i : Nat} {y : V} (h : (js.map V.int)[i]? = some y) : ∃ x, js[i]? = some x ∧ y = .int x := by
  rw [List.getElem?_map] at h
  cases q : js[i]? with
  | none => rw [q] at h; cases h
  | some u => rw [q] at h; exact ⟨u, rfl, (Option.some.inj h).symm⟩
/-! ### defs that are called where no repr is under way (their context's guards are known to be none) -/
/-- the promise of a def, wherever no guard stands -/
structure FnG (P : Program) (w : World) (K : PySem.W.Frag) (mg : Str → Option Value) (base : Heap) (k : Nat) (f : Addr) (fd : FuncData) (ps : List Str) (sp : Sp) : Prop where
  len : ∀ vs H Q E, sp vs H Q E → vs.length = ps.length
  go : ∀ {A : Around} {outer : List Env} {s : Shared} {H : Hp} {args : Args} {us : List Value} {vs : List V} {Q : VK} {E : XK}, A.guards = some [] → Room k A → Env0 P w K mg base A outer s H →
    BindsTo s fd args (ps.zip us) → Vals vs us → sp vs H Q E → codeAny (model P w) A (.call (.ref f) args) (CR CX0 outer P w H s Q E) s
section
variable {P : Program} {w : World} {K : PySem.W.Frag} {mg : Str → Option Value} {base : Heap}
/-- by its body -/
theorem FnG.mk' {x qual : Str} {st : Stmt} {f : Addr} {fd : FuncData} {N ps : List Str} {k : Nat} {sp : Sp} (F : Fun K x qual st f fd) (S : FnScope N ps (defScope st)) (len : ∀ vs H Q E, sp vs H Q E → vs.length = ps.length)
    (body : ∀ (cdv : Value) (A : Around) (outer : List Env) (s : Shared) (H : Hp) (vs : List V) (Q : VK) (E : XK), (A.deeper (envOfC qual (defScope st) s.heap.objs.size f cdv)).guards = some [] → Room k (A.deeper (envOfC qual (defScope st) s.heap.objs.size f cdv)) → sp vs H Q E →
      ∃ t, PSs (cxOf CX0 P w K mg base N qual (defScope st) f cdv A outer s H E).nox (defBody st) t ∧ t { nx := fun _ H' => Q .non H', rt := Q } (start N vs) H) : FnG P w K mg base (k + 1) f fd ps sp := by
  obtain ⟨oc, od, kV, doc, pm, an, cdv, ct, osl, rfl, lk, hcd⟩ := F.ex
  refine ⟨len, ?_⟩
  intro A outer s H args us vs Q E hg hr en hb rel hsp
  have kept : ∀ b o, base.get? b = some o → s.heap.get? b = some o := fun b o q => (en.bs b o q).1
  have inK := en.mod.kin.keeps kept
  refine codeAny_call_function hr.depth (inK _ _ lk) rfl S.co S.gen rfl (PySem.W.codeRec_of inK hcd) (hb _ _ _ _ ?_)
  have kinds : ∀ q ∈ ps.zip us, (defScope st).names.lookup q.1 = some .local ∨ ((defScope st).names.lookup q.1 = some .cell ∧ ((cellsFrom (s.heap.objs.size + 1) (defScope st).names []).lookup q.1).isSome = true) := by
    rintro ⟨n, v⟩ hq
    exact (S.par n (List.of_mem_zip hq).1).elim .inl fun c => .inr ⟨c, PySem.W.cellsFrom_some _ _ _ (.inl c)⟩
  refine wpAny_newFunctionEnv_cells S.kind kinds fun env he s1 ic => ?_
  subst he
  obtain ⟨t, ht, hq⟩ := body cdv A outer s H vs Q E hg (hr.deeper _) hsp
  have I0 := inv_start (CX := CX0) (E := E) S hr.hd en (len _ _ _ _ hsp) rel ic
  refine ⟨(en.mod.nolimit.keeps kept).keeps ic.toInCall.keep, codeAny_func ?_⟩
  refine wpAny_mono (ht.nox.run [] s1 _ H _ I0 hq) ?_ fun _ _ z => z
  rintro (_ | _ | _ | u) s' hs
  · obtain ⟨σ', H', J, q⟩ := hs
    exact ⟨.non, H', J.os, J.bare, J.base, J.hok, rfl, q⟩
  · obtain ⟨_, _, _, q⟩ := hs
    exact q.elim
  · obtain ⟨_, _, _, q⟩ := hs
    exact q.elim
  · obtain ⟨v, σ', H', J, rv, q⟩ := hs
    exact ⟨v, H', J.os, J.bare, J.base, J.hok, rv, q⟩
end
section
variable {X : Cx} {k : Nat} {f : Addr} {fd : FuncData} {ps : List Str} {sp : Sp} {E : XK} {x : Str} {p pos : Pos} {e : Expr} {es : List Expr} {t : TA}
/-- such a def called by its name -/
theorem pe_callG (F : FnG X.prog X.w X.K X.mg X.base k f fd ps sp) (hg : X.A.guards = some []) (hr : Room k X.A) (hx : Gl X x) (hm : X.mg x = some (.ref f)) (hk : PySem.W.keepIn X.K (.ref f) = true) (hb : L2.Binds X.K fd ps [])
    (ha : PA X (e :: es) t) (hdb : (x == ("__debug__" : Str)) = false := by decide) (he : starEach (e :: es) X.env = (false, eval e X.env) :: starEach es X.env := by rfl) (hpl : (backTo pos (starEach es X.env)).any (·.1) = false := by rfl) :
    PE X (.Call (.Name x p) (e :: es) [] pos) (tCall sp [] E t) := by
  constructor
  intro pins s σ H Q I h
  have run : ∀ {us : List Value} {vs : List V} {H1 : Hp} {s1 : Shared}, Inv X pins σ H1 s1 → Vals vs us → sp (vs ++ []) H1 Q E → wpAny (model X.prog X.w) X.A (call (.ref f) us) (EP X pins σ Q) X.xe s1 := by
    intro us vs H1 s1 I1 r q
    rw [List.append_nil] at q
    have hl : us.length = ps.length := by rw [← r.length]; exact F.len _ _ _ _ q
    have bt := hb s1 us I1.kIn (by rw [List.append_nil]; exact hl)
    rw [List.append_nil] at bt
    refine wpAny_call (codeAny_mono (F.go hg hr I1.env0 bt r q) ?_)
    rintro (_ | (_ | _ | _ | u)) s2 z
    · exact z.elim
    · exact z.elim
    · exact z.elim
    · exact z.elim
    · exact I1.after z
  refine wpAny_Call_Name_kw (ld_glob I hx hm ?_ hdb)
  exact PySem.W.callWith_K (h₀ := X.base) I.ok.mod.kin hk (thn (ha.run pos pins s σ H _ I h) fun us s1 ⟨vs, H1, I1, r, q⟩ => ⟨I1.kIn, run I1 r q⟩) he hpl
end
/-! ### the end of a law whose def is such a def -/
/-- the heap of which nothing is known but the script -/
def justScript (K : PySem.W.Frag) (a : Addr) (vs : List Value) (ns : List Int) : Hp := fun b =>
  if b = a ∧ K.lookup a = none then some (.frz { cls := .type "list", data := .seq vs.toArray } (.lst (ns.map V.int))) else none
section
variable {P : Program} {w : World} {K : PySem.W.Frag} {mg mb : Str → Option Value} {k : Nat} {fa a : Addr} {fd : FuncData} {x : Str} {sp : Sp} {s₁ : Shared} {vs : List Value} {ns : List Int}
theorem js_out {b : Addr} (h : b ≠ a) : justScript K a vs ns b = none := if_neg fun z => h z.1
theorem js_some {b : Addr} {u : HO} (h : justScript K a vs ns b = some u) : b = a ∧ K.lookup a = none ∧ u = .frz { cls := .type "list", data := .seq vs.toArray } (.lst (ns.map V.int)) := by
  unfold justScript at h
  split at h
  · rename_i c
    exact ⟨c.1, c.2, (Option.some.inj h).symm⟩
  · cases h
theorem lawG (KX : K.In s₁.heap) (hns : s₁.heap.Ns mainGlobals mg) (hb : s₁.heap.Ns builtinsNs mb) (hbb : ∀ x : Str, x ≠ "__name__" → mb x = bootBuiltins x) (hlim : s₁.heap.NoLimit) (hg : s₁.gens = #[])
    (ha : s₁.heap.get? a = some { cls := .type "list", data := .seq vs.toArray }) (hi : IntsAre vs ns) (hl : ns.length ≤ sizeLine) (hr : Room k callerA)
    (F : ∀ base : Heap, K.In base → base.Ns mainGlobals mg → FnG P w K mg base k fa fd [x] sp) (hbind : ∀ (s : Shared) (u : Value), BindsTo s fd ⟨[u], []⟩ [(x, u)])
    (hsp : ∀ H : Hp, Only H → SqL K H a (ns.map V.int) → sp [.ref a] H (fun v _ => v = .bl true) fun _ _ _ => False) :
    codeAny (model P w) callerA (.call (.ref fa) ⟨[.ref a], []⟩) (fun r s' => r = .ok (.ret (.bool true)) ∧ OldK s₁.heap s'.heap ∧ s'.os = s₁.os ∧ AllBare s'.gens) s₁ := by
  have rv := L2.vals_ints hi
  have hlen := hi.length
  obtain ⟨H, hH⟩ : ∃ H, H = justScript K a vs ns := ⟨_, rfl⟩
  have hcases : ∀ b, H b = none ∨ (b = a ∧ K.lookup a = none ∧ H b = some (.frz { cls := .type "list", data := .seq vs.toArray } (.lst (ns.map V.int)))) := by
    intro b
    cases q : H b with
    | none => exact .inl rfl
    | some u =>
      rw [hH] at q
      obtain ⟨h1, h2, h3⟩ := js_some q
      exact .inr ⟨h1, h2, by rw [h3]⟩
  have only : Only H := fun b => (hcases b).imp id fun z => ⟨_, _, z.2.2⟩
  have list : SqL K H a (ns.map V.int) := by
    cases hk : K.lookup a with
    | none => exact .inl (.inr ⟨{ cls := .type "list", data := .seq vs.toArray }, by rw [hH]; exact if_pos ⟨rfl, hk⟩⟩)
    | some o =>
      have q := KX a o hk
      rw [ha] at q
      obtain rfl := Option.some.inj q
      exact .inr ⟨_, vs.toArray, _, hk, rfl, rfl, rfl, by rw [List.size_toArray, hlen]; exact hl, rv⟩
  have held : HOk P w H s₁.heap := by
    intro b u q
    rcases hcases b with z | ⟨rfl, _, z⟩
    · rw [z] at q; cases q
    · rw [z] at q
      obtain rfl := Option.some.inj q
      exact ⟨ha, by rw [List.length_map]; exact hl, vs, _, rv, ha⟩
  -- the rest of the heap, in which the module's facts stand
  have stay : ∀ {b : Addr} {o : Obj}, s₁.heap.get? b = some o → (b = a → K.lookup a ≠ none) → (hidT s₁.heap H).get? b = some o := by
    intro b o e n
    refine hidT_get e ?_
    rcases hcases b with z | ⟨e1, e2, _⟩
    · exact z
    · exact absurd e2 (n e1)
  have names : ∀ {b : Addr} {m : Str → Option Value}, s₁.heap.Ns b m → (hidT s₁.heap H).Ns b m := by
    rintro b m ⟨o, es, ep, e, d, r⟩
    refine ⟨o, es, ep, stay e ?_, d, r⟩
    rintro rfl
    rw [ha] at e
    obtain rfl := Option.some.inj e
    exact absurd d (by intro z; cases z)
  have kin : K.In (hidT s₁.heap H) := fun b o e => stay (KX b o e) fun q => by rw [← q, e]; exact fun z => by cases z
  obtain ⟨mc, l1, l2⟩ := hlim
  have mod : Mod K mg (hidT s₁.heap H) := ⟨kin, names hns, ⟨mb, names hb, hbb⟩, ⟨mc, names l1, l2⟩⟩
  have env : Env0 P w K mg (hidT s₁.heap H) callerA [] s₁ H := ⟨rfl, mod, fun b o e => of_hidT e, Nat.le_of_eq (hidT_size _ _), trivial, fun b z => (by exact absurd (show b ∈ ([] : List Addr) from z) (by simp)), held, .of_eq hg⟩
  have vr : Vals [V.ref a] [Value.ref a] := .cons (show RelV (.ref a) (.ref a) from rfl) .nil
  refine codeAny_mono ((F _ kin (names hns)).go (us := [.ref a]) rfl hr env (hbind s₁ (.ref a)) vr (hsp H only list)) ?_
  rintro (_ | (_ | _ | _ | u)) s' z
  · exact z.elim
  · exact z.elim
  · exact z.elim
  · exact z.elim
  · obtain ⟨v, H', os, bare, un, ok', r', q⟩ := z
    have q1 : v = .bl true := q
    subst q1
    have q2 : u = Value.bool true := r'
    subst q2
    refine ⟨rfl, OldK.of_keep fun b o e => ?_, os, bare⟩
    rcases hcases b with z | ⟨e1, _, z⟩
    · exact un.keep b o e z (fun z => absurd (show b ∈ ([] : List Addr) from z) (by simp)) (by simp)
    · obtain ⟨g, _⟩ := ok' b _ (un.frzs b _ _ z)
      obtain ⟨g0, _⟩ := held b _ z
      rw [g0] at e
      rw [← Option.some.inj e]
      exact g
end
theorem walkG {l : PySem.W.OpenLaw} {n k : Nat} {q : Program} {loose : List Str} {XP : (Str → Option Value) → Heap → Prop} {YP : World → Heap → Prop} {d : DefRec} {K : Params → PySem.W.Frag} {sp : PySem.W.Frag → Sp} {x : Str}
    (hn : l.most = some n) (hn2 : n ≤ sizeLine) (hdf : d.params.defaults = []) (hr : Room k callerA) (hY : ∀ (w : World) (h : Heap), YP w h → (K w.params).In h)
    (F : ∀ (w : World) (mg : Str → Option Value) (fa : Addr) (h : Heap), (K w.params).In h → h.Ns mainGlobals mg → mg d.name = some (.ref fa) →
      ∃ fd : FuncData, (∀ (s : Shared) (u : Value), BindsTo s fd ⟨[u], []⟩ [(x, u)]) ∧ ∀ base : Heap, (K w.params).In base → base.Ns mainGlobals mg → FnG l.prog w (K w.params) mg base k fa fd [x] (sp (K w.params)))
    (hsp : ∀ (K : PySem.W.Frag) (H : Hp) (a : Addr) (ns : List Int), ns.length ≤ n → (∀ z ∈ ns, Builtin.Int.intBits z ≤ 1048576) → SqL K H a (ns.map V.int) → sp K [.ref a] H (fun v _ => v = .bl true) fun _ _ _ => False) :
    PySem.W.WalkO q loose XP YP l.row.toRowW d [] (fun f vs => PySem.call f vs) := by
  refine Att.attach_callB hn hdf ?_
  intro w s₀ s₁ mg mb fa o pm cd doc a vs ns G Y ho hd hcd hmg hobj hints hlen hbits hg
  obtain ⟨fd, hb, hF⟩ := F w mg fa _ (hY w _ Y) G.T.g hmg
  exact lawG (hY w _ Y) G.T.g G.T.b G.T.builtins G.T.nolimit hg hobj hints (Nat.le_trans hlen hn2) hr hF hb fun H _ hS => hsp _ H a ns hlen hbits hS
/-! ### repr of data -/
mutual
/-- how long its text is at most -/
def szD : PyData → Nat
  | .none => 4
  | .bool _ => 5
  | .int _ => 301
  | .str x => (reprText x).length
  | .list xs => szAll xs + 2
  | .tuple xs => szAll xs + 3
  | .dict _ => 2
def szAll : List PyData → Nat
  | [] => 0
  | x :: xs => szD x + 2 + szAll xs
end
mutual
/-- ints of moderate size, no dict -/
def modD : PyData → Bool
  | .none | .bool _ | .str _ => true
  | .int i => decide (i.natAbs < 2 ^ 300)
  | .list xs | .tuple xs => modAll xs
  | .dict _ => false
def modAll : List PyData → Bool
  | [] => true
  | x :: xs => modD x && modAll xs
end
theorem log_of {i : Int} (h : i.natAbs < 2 ^ 300) : i.natAbs.log2 < 300 := PySem.Flt.log2_lt_of (by decide) h
mutual
theorem showable_of : ∀ d : PyData, modD d = true → d.showable = true
  | .none, _ => by rw [PyData.showable]
  | .bool _, _ => by rw [PyData.showable]
  | .str _, _ => by rw [PyData.showable]
  | .int i, h => by
    rw [modD] at h
    rw [PyData.showable]
    have := log_of (of_decide_eq_true h)
    exact decide_eq_true (by omega)
  | .list xs, h => by
    rw [modD] at h
    rw [PyData.showable]
    exact showableAll_of xs h
  | .tuple xs, h => by
    rw [modD] at h
    rw [PyData.showable]
    exact showableAll_of xs h
  | .dict _, h => by rw [modD] at h; cases h
theorem showableAll_of : ∀ xs : List PyData, modAll xs = true → PyData.showableAll xs = true
  | [], _ => by rw [PyData.showableAll]
  | x :: xs, h => by
    rw [modAll, Bool.and_eq_true] at h
    rw [PyData.showableAll, showable_of x h.1, showableAll_of xs h.2]
    rfl
end
mutual
theorem nodict_of : ∀ d : PyData, modD d = true → d.hasDict = false
  | .none, _ => by rw [PyData.hasDict]
  | .bool _, _ => by rw [PyData.hasDict]
  | .str _, _ => by rw [PyData.hasDict]
  | .int i, h => by rw [PyData.hasDict]
  | .list xs, h => by
    rw [modD] at h
    rw [PyData.hasDict]
    exact nodictAll_of xs h
  | .tuple xs, h => by
    rw [modD] at h
    rw [PyData.hasDict]
    exact nodictAll_of xs h
  | .dict _, h => by rw [modD] at h; cases h
theorem nodictAll_of : ∀ xs : List PyData, modAll xs = true → PyData.hasDictAll xs = false
  | [], _ => by rw [PyData.hasDictAll]
  | x :: xs, h => by
    rw [modAll, Bool.and_eq_true] at h
    rw [PyData.hasDictAll, nodict_of x h.1, nodictAll_of xs h.2]
    rfl
end
def pile : List Str → Nat
  | [] => 0
  | t :: r => t.length + 2 + pile r
theorem textFrom_le : ∀ (ts : List Str) (k : Nat) (acc : Str), (textFrom k acc ts).length ≤ acc.length + pile ts
  | [], k, acc => by show acc.length ≤ acc.length + 0; omega
  | t :: r, k, acc => by
    have ih := textFrom_le r (k + 1) (acc ++ (if k > 0 then ", " else "" : String) ++ t)
    have e : (acc ++ (if k > 0 then ", " else "" : String) ++ t).length ≤ acc.length + 2 + t.length := by
      rw [strLen_append, strLen_append]
      split
      · show acc.length + 2 + t.length ≤ _; omega
      · show acc.length + 0 + t.length ≤ _; omega
    show (textFrom (k + 1) (acc ++ (if k > 0 then ", " else "" : String) ++ t) r).length ≤ acc.length + (t.length + 2 + pile r)
    omega
theorem listText_le (ts : List Str) : (listText ts).length ≤ pile ts + 2 := by
  unfold listText
  have h := textFrom_le ts 0 "["
  rw [strLen_append]
  have e1 : (("[" : String) : Str).length = 1 := rfl
  have e2 : (("]" : String) : Str).length = 1 := rfl
  rw [e2]
  rw [e1] at h
  omega
theorem join_le : ∀ ts : List Str, (Str.join ", " ts).length ≤ pile ts
  | [] => Nat.zero_le _
  | [x] => by show x.length ≤ x.length + 2 + 0; omega
  | x :: y :: r => by
    have ih := join_le (y :: r)
    show (x ++ ", " ++ Str.join ", " (y :: r)).length ≤ x.length + 2 + pile (y :: r)
    rw [strLen_append, strLen_append]
    have e2 : ((", " : String) : Str).length = 2 := rfl
    rw [e2]
    omega
theorem tupleText_le (ts : List Str) : (tupleText ts).length ≤ pile ts + 3 := by
  unfold tupleText
  have h := join_le ts
  rw [strLen_append, strLen_append]
  have e1 : (("(" : String) : Str).length = 1 := rfl
  have e2 : ((if ts.length == 1 then ",)" else ")" : String) : Str).length ≤ 2 := by
    split
    · exact Nat.le_refl _
    · exact Nat.le_succ _
  rw [e1]
  omega
mutual
theorem shown_le : ∀ d : PyData, modD d = true → d.shown.length ≤ szD d
  | .none, _ => by rw [PyData.shown, szD]; decide
  | .bool b, _ => by rw [PyData.shown, szD]; cases b <;> decide
  | .str x, _ => by rw [PyData.shown, szD]; exact Nat.le_refl _
  | .int i, h => by
    rw [modD] at h
    rw [PyData.shown, szD]
    have := int_text_length_le (k := 300) (by decide) (log_of (of_decide_eq_true h))
    have e : (Str.ofString (toString i)).length = (toString i).length := PySem.ofString_length _
    rw [e]
    omega
  | .list xs, h => by
    rw [modD] at h
    rw [PyData.shown, szD]
    have := listText_le (PyData.shownAll xs)
    have := shownAll_le xs h
    omega
  | .tuple xs, h => by
    rw [modD] at h
    rw [PyData.shown, szD]
    have := tupleText_le (PyData.shownAll xs)
    have := shownAll_le xs h
    omega
  | .dict _, h => by rw [modD] at h; cases h
theorem shownAll_le : ∀ xs : List PyData, modAll xs = true → pile (PyData.shownAll xs) ≤ szAll xs
  | [], _ => by rw [PyData.shownAll, szAll]; exact Nat.le_refl _
  | x :: xs, h => by
    rw [modAll, Bool.and_eq_true] at h
    have h1 := shown_le x h.1
    have h2 := shownAll_le xs h.2
    rw [PyData.shownAll, szAll]
    show x.shown.length + 2 + pile (PyData.shownAll xs) ≤ _
    omega
end
/-! ### data of the heap is read -/
section
variable {X : Cx} {pins : List (Addr × Obj)} {σ : L2.St} {H : Hp} {s : Shared}
mutual
theorem DV.reads (I : Inv X pins σ H s) : ∀ (d : PyData) (v : V) (u : Value), DV X.K H v d → RelV v u → ∃ as, Reads s.heap u d as
  | .none, _, _, .non, r => ⟨_, (show _ = Value.none from r) ▸ Reads.none⟩
  | .bool b, _, _, .bl _, r => ⟨_, (show _ = Value.bool b from r) ▸ Reads.bool b⟩
  | .int i, _, _, .int _, r => by
    obtain ⟨t, q⟩ := r
    rw [q]
    exact ⟨_, Reads.int i t⟩
  | .str x, _, _, .str _, r => by
    obtain ⟨t, q⟩ := r
    rw [q]
    exact ⟨_, Reads.str x t⟩
  | .list ds, _, u, .lst h t, r => by
    have r' : u = Value.ref _ := r
    subst r'
    obtain ⟨its, rv, ⟨o, n, ho, hc, _, hd⟩, _⟩ := I.list h
    obtain ⟨as, hr⟩ := DVs.reads I ds _ its t rv
    exact ⟨_, Reads.list ho hc hd hr⟩
  | .tuple ds, _, u, .tup h t, r => by
    have r' : u = Value.ref _ := r
    subst r'
    obtain ⟨its, rv, ⟨o, ho, hc, n, hd⟩, _⟩ := I.tuple h
    obtain ⟨as, hr⟩ := DVs.reads I ds _ its t rv
    exact ⟨_, Reads.tuple ho hc hd hr⟩
  | .dict _, _, u, .dk0 h, r => by
    have r' : u = Value.ref _ := r
    subst r'
    obtain ⟨_, _, vs, rel, o, es, ep, h1, h2, h3, h4⟩ := I.hok _ _ h
    cases rel
    have e0 : es.toList = [] := by
      have h5 := h4.2.1
      generalize es.toList = l at h5 ⊢
      cases h5
      rfl
    refine ⟨_, Reads.dict (as := []) (bs := []) h1 h2.1 h3 ?_ ?_⟩
    · rw [e0]; exact ReadsAll.nil
    · rw [e0]; exact ReadsAll.nil
theorem DVs.reads (I : Inv X pins σ H s) : ∀ (ds : List PyData) (vs : List V) (us : List Value), DVs X.K H vs ds → Vals vs us → ∃ as, ReadsAll s.heap us ds as
  | [], _, _, .nil, r => by
    cases r
    exact ⟨_, ReadsAll.nil⟩
  | d :: ds, _, _, .cons h1 h2, r => by
    cases r with
    | cons r1 r2 =>
      obtain ⟨as, q1⟩ := DV.reads I d _ _ h1 r1
      obtain ⟨bs, q2⟩ := DVs.reads I ds _ _ h2 r2
      exact ⟨_, ReadsAll.cons q1 q2⟩
end
/-- repr of a list or a tuple -/
def rRepr (K : PySem.W.Frag) : List V → Hp → VK → Prop := fun xs H Q => ∃ (a : Addr) (d : PyData), xs = [.ref a] ∧ DV K H (.ref a) d ∧ modD d = true ∧ d.depth ≤ 40 ∧ szD d ≤ 1000000 ∧ Q (.str d.shown) H
theorem call_repr (hg : X.A.guards = some []) (hu : X.A.units + 64 < cLine) : CallR X (.builtin "repr") (rRepr X.K) := by
  intro pins s σ H xs us Q I r h
  obtain ⟨a, d, rfl, hd, hm, hdep, hsz, q⟩ := h
  rw [Vals.ref1 r]
  obtain ⟨as, hr⟩ := DV.reads I d (.ref a) (.ref a) hd rfl
  have hl : d.shown.length ≤ sizeLine := by
    have := shown_le d hm
    rw [sizeLine_eq]
    omega
  exact repr_of_reads' hr (showable_of d hm) (fun z => by rw [nodict_of d hm] at z; cases z) hg (by omega) (fun _ _ e => e) (fun h' u tk kk => ⟨.str d.shown, H, I.kept kk, ⟨_, rfl⟩, q⟩) hl
end
/-! ### data that cannot change: flat things and tuples of such -/
mutual
inductive DT (H : Hp) : V → PyData → Prop
  | non : DT H .non .none
  | bl (b : Bool) : DT H (.bl b) (.bool b)
  | int (i : Int) : DT H (.int i) (.int i)
  | str (x : Str) : DT H (.str x) (.str x)
  | tup {a : Addr} {xs : List V} {ds : List PyData} : H a = some (.tup xs) → DTs H xs ds → DT H (.ref a) (.tuple ds)
inductive DTs (H : Hp) : List V → List PyData → Prop
  | nil : DTs H [] []
  | cons {v : V} {vs : List V} {d : PyData} {ds : List PyData} : DT H v d → DTs H vs ds → DTs H (v :: vs) (d :: ds)
end
/-- the tuples stand -/
def KeepT (H H' : Hp) : Prop := ∀ a xs, H a = some (.tup xs) → H' a = some (.tup xs)
theorem KeepT.refl (H : Hp) : KeepT H H := fun _ _ h => h
theorem KeepT.trans {H H1 H2 : Hp} (a : KeepT H H1) (b : KeepT H1 H2) : KeepT H H2 := fun c xs h => b c xs (a c xs h)
theorem KeepT.same {H H' : Hp} (s : Same H H') : KeepT H H' := fun a xs h => s a _ h
theorem KeepT.but {d : Addr} {H H' : Hp} (D : DeckAt H d) (s : But d H H') : KeepT H H' := fun a xs h => s.tup D h
theorem KeepT.put {x : Addr} {H : Hp} {ys : List V} {o : HO} (h : H x = some (.lst ys)) : KeepT H (upd H x o) := fun a xs e => by
  rw [upd_ne (ne_of e h (by intro z; cases z))]
  exact e
theorem KeepT.new {x : Addr} {H : Hp} {o : HO} (h : H x = none) : KeepT H (upd H x o) := KeepT.same (Same.new h)
mutual
theorem DT.keep {H H' : Hp} (e : KeepT H H') : ∀ {d : PyData} {v : V}, DT H v d → DT H' v d
  | _, _, .non => .non
  | _, _, .bl b => .bl b
  | _, _, .int i => .int i
  | _, _, .str x => .str x
  | _, _, .tup h t => .tup (e _ _ h) (DTs.keep e t)
theorem DTs.keep {H H' : Hp} (e : KeepT H H') : ∀ {ds : List PyData} {vs : List V}, DTs H vs ds → DTs H' vs ds
  | _, _, .nil => .nil
  | _, _, .cons p t => .cons (DT.keep e p) (DTs.keep e t)
end
mutual
theorem DT.dv {K : PySem.W.Frag} {H : Hp} : ∀ {d : PyData} {v : V}, DT H v d → DV K H v d
  | _, _, .non => .non
  | _, _, .bl b => .bl b
  | _, _, .int i => .int i
  | _, _, .str x => .str x
  | _, _, .tup h t => .tup (SqT.of h) (DTs.dv t)
theorem DTs.dv {K : PySem.W.Frag} {H : Hp} : ∀ {ds : List PyData} {vs : List V}, DTs H vs ds → DVs K H vs ds
  | _, _, .nil => .nil
  | _, _, .cons p t => .cons (DT.dv p) (DTs.dv t)
end
theorem DTs.ints {H : Hp} : ∀ ks : List Int, DTs H (ks.map V.int) (ks.map PyData.int)
  | [] => .nil
  | k :: r => .cons (.int k) (DTs.ints r)
theorem DTs.append {H : Hp} : ∀ {vs ws : List V} {ds es : List PyData}, DTs H vs ds → DTs H ws es → DTs H (vs ++ ws) (ds ++ es)
  | _, _, _, _, .nil, h => h
  | _, _, _, _, .cons p t, h => .cons p (DTs.append t h)
theorem DTs.take {H : Hp} : ∀ {vs : List V} {ds : List PyData} (n : Nat), DTs H vs ds → DTs H (vs.take n) (ds.take n)
  | _, _, 0, _ => .nil
  | _, _, _ + 1, .nil => .nil
  | _, _, n + 1, .cons p t => .cons p (DTs.take n t)
theorem DTs.length {H : Hp} : ∀ {vs : List V} {ds : List PyData}, DTs H vs ds → vs.length = ds.length
  | _, _, .nil => rfl
  | _, _, .cons _ t => congrArg Nat.succ (DTs.length t)
theorem DTs.none {H : Hp} : ∀ n : Nat, DTs H (List.replicate n V.non) (List.replicate n PyData.none)
  | 0 => .nil
  | n + 1 => .cons .non (DTs.none n)
/-! ### lists of ids as data -/
theorem modAll_ints : ∀ xs : List Int, (∀ z ∈ xs, z.natAbs < 2 ^ 300) → modAll (xs.map .int) = true
  | [], _ => by rw [List.map_nil, modAll]
  | x :: r, h => by
    rw [List.map_cons, modAll, modD, modAll_ints r fun z hz => h z (List.mem_cons_of_mem _ hz), decide_eq_true (h x List.mem_cons_self)]
    rfl
theorem szAll_ints : ∀ xs : List Int, szAll (xs.map .int) = xs.length * 303
  | [] => by rw [List.map_nil, szAll]; rfl
  | x :: r => by
    rw [List.map_cons, szAll, szD, szAll_ints r, List.length_cons]
    omega
theorem small_abs {z : Int} (h : -1000000000000 ≤ z) (h2 : z ≤ 1000000000000) : z.natAbs < 2 ^ 300 := by
  have : (1000000000001 : Nat) ≤ 2 ^ 300 := Nat.le_trans (by decide : 1000000000001 ≤ 2 ^ 50) (Nat.pow_le_pow_right (by decide) (by decide))
  generalize (2 : Nat) ^ 300 = B at *
  omega
structure Rok (d : PyData) : Prop where
  m : modD d = true
  dep : d.depth ≤ 40
  sz : szD d ≤ 1000000
theorem rok_ids {xs : List Int} (h : ∀ z ∈ xs, 1 ≤ z ∧ z ≤ 1000000) (hl : xs.length ≤ 300) : Rok (.list (xs.map .int)) := by
  refine ⟨?_, ?_, ?_⟩
  · rw [modD]
    exact modAll_ints xs fun z hz => by have := h z hz; exact small_abs (by omega) (by omega)
  · have := depthAll_ints xs
    rw [PyData.depth]
    omega
  · rw [szD, szAll_ints]
    omega
/-- changing one more object -/
theorem Fs.put {d x : Addr} {Hd H1 : Hp} {fs : List (Addr × HO)} {o : HO} (F : Fs d Hd fs H1) (h0 : Hd x = none) (hd : x ≠ d) (hn : ∀ p ∈ fs, p.1 ≠ x) : Fs d Hd fs (upd H1 x o) := by
  obtain ⟨f1, ⟨a, b, q, r⟩, f3⟩ := F
  refine ⟨fun c u hc e => ?_, ⟨a, b, by rw [upd_ne hd.symm]; exact q, r⟩, fun p hp => ⟨(f3 p hp).1, by rw [upd_ne (hn p hp)]; exact (f3 p hp).2⟩⟩
  rw [upd_ne (ne_of_none e h0)]
  exact f1 c u hc e
theorem Fs.apart {d x : Addr} {Hd H1 : Hp} {fs : List (Addr × HO)} (F : Fs d Hd fs H1) (h : H1 x = none) : Hd x = none ∧ x ≠ d ∧ ∀ p ∈ fs, p.1 ≠ x := by
  obtain ⟨f1, ⟨a, b, q, r⟩, f3⟩ := F
  have hd : x ≠ d := fun e => by rw [e, q] at h; cases h
  refine ⟨?_, hd, fun p hp => ne_of_none (f3 p hp).2 h⟩
  cases e : Hd x with
  | none => rfl
  | some u =>
    have := f1 x u hd e
    rw [h] at this; cases this
/-! ### repr of data with empty dicts in it -/
mutual
/-- ints of moderate size, dicts only empty -/
def okD : PyData → Bool
  | .none | .bool _ | .str _ => true
  | .int i => decide (i.natAbs < 2 ^ 300)
  | .list xs | .tuple xs => okAll xs
  | .dict kvs => kvs.isEmpty
def okAll : List PyData → Bool
  | [] => true
  | x :: xs => okD x && okAll xs
end
mutual
theorem shown_le2 : ∀ d : PyData, okD d = true → d.shown.length ≤ szD d
  | .none, _ => shown_le .none rfl
  | .bool b, _ => shown_le (.bool b) rfl
  | .str x, _ => shown_le (.str x) rfl
  | .int i, h => shown_le (.int i) (by rw [okD] at h; rw [modD]; exact h)
  | .list xs, h => by
    have h2 : okAll xs = true := by rw [okD] at h; exact h
    have b := shownAll_le2 xs h2
    have a := listText_le (PyData.shownAll xs)
    rw [szD, PyData.shown]
    omega
  | .tuple xs, h => by
    have h2 : okAll xs = true := by rw [okD] at h; exact h
    have b := shownAll_le2 xs h2
    have a := tupleText_le (PyData.shownAll xs)
    rw [szD, PyData.shown]
    omega
  | .dict kvs, h => by
    rw [okD] at h
    have e : kvs = [] := List.isEmpty_iff.mp h
    subst e
    rw [szD, PyData.shown, PyData.shownKv]
    exact Nat.le_refl 2
theorem shownAll_le2 : ∀ xs : List PyData, okAll xs = true → pile (PyData.shownAll xs) ≤ szAll xs
  | [], _ => by rw [PyData.shownAll, szAll]; exact Nat.le_refl _
  | x :: xs, h => by
    rw [okAll, Bool.and_eq_true] at h
    have a := shown_le2 x h.1
    have b := shownAll_le2 xs h.2
    rw [szAll, PyData.shownAll]
    show x.shown.length + 2 + pile (PyData.shownAll xs) ≤ _
    omega
end
section
variable {X : Cx} {pins : List (Addr × Obj)} {σ : L2.St} {H : Hp} {s : Shared}
mutual
theorem DV.rk (I : Inv X pins σ H s) : ∀ (d : PyData) (v : V) (u : Value), DV X.K H v d → RelV v u → okD d = true → d.shown.length ≤ sizeLine → ∃ bs, ReadAtMost s.heap d.depth bs ∧ ReprK X.prog X.w bs s.heap d.depth u d.shown
  | .none, _, _, .non, r, _, _ => ⟨[], (fun _ q => by cases q), by rw [PyData.shown, (show _ = Value.none from r)]; exact .of_is ReprIs.none _ _ _⟩
  | .bool b, _, _, .bl _, r, _, _ => ⟨[], (fun _ q => by cases q), by rw [PyData.shown, (show _ = Value.bool b from r)]; exact .of_is (ReprIs.bool b) _ _ _⟩
  | .int i, _, _, .int _, r, h, _ => by
    obtain ⟨t, rfl⟩ := r
    rw [okD] at h
    have := log_of (of_decide_eq_true h)
    exact ⟨[], (fun _ q => by cases q), by rw [PyData.shown]; exact .of_is (ReprIs.int t (by omega)) _ _ _⟩
  | .str x, _, _, .str _, r, _, hz => by
    obtain ⟨t, rfl⟩ := r
    rw [PyData.shown] at hz
    exact ⟨[], (fun _ q => by cases q), by rw [PyData.shown]; exact .of_is (ReprIs.str x t hz) _ _ _⟩
  | .list ds, _, u, .lst h t, r, hok, hz => by
    have r' : u = Value.ref _ := r
    subst r'
    rw [okD] at hok
    rw [PyData.shown] at hz
    obtain ⟨its, rv, ⟨o, n, ho, hc, _, hd⟩, _⟩ := I.list h
    obtain ⟨as, hr⟩ := DVs.reads I ds _ its t rv
    obtain ⟨bs, hb, hk⟩ := DVs.rk I ds _ its t rv hok fun x hx => Nat.le_trans (listText_mem_le hx) hz
    have R := Reads.list ho hc hd hr
    have far := not_mem_of_deeper R (by rw [PyData.depth]; omega) hb
    refine ⟨_, ReadAtMost.cons R (by rw [PyData.depth]; omega) hb, ?_⟩
    rw [PyData.depth, PyData.shown]
    cases its with
    | nil =>
      cases rv
      cases t
      rw [PyData.shownAll, listText_nil]
      exact ReprK.listEmpty ho hc hd
    | cons y l => exact ReprK.list ho hc hd far (by rw [hk.length_eq]; rfl) fun i y e => hk.item i y (by rw [List.getElem?_toArray] at e; exact e)
  | .tuple ds, _, u, .tup h t, r, hok, hz => by
    have r' : u = Value.ref _ := r
    subst r'
    rw [okD] at hok
    rw [PyData.shown] at hz
    obtain ⟨its, rv, ⟨o, ho, hc, n, hd⟩, _⟩ := I.tuple h
    obtain ⟨as, hr⟩ := DVs.reads I ds _ its t rv
    obtain ⟨bs, hb, hk⟩ := DVs.rk I ds _ its t rv hok fun x hx => Nat.le_trans (tupleText_mem_le hx) hz
    have R := Reads.tuple ho hc hd hr
    have far := not_mem_of_deeper R (by rw [PyData.depth]; omega) hb
    refine ⟨_, ReadAtMost.cons R (by rw [PyData.depth]; omega) hb, ?_⟩
    rw [PyData.depth, PyData.shown]
    exact ReprK.tuple ho hc hd far hk
  | .dict _, _, u, .dk0 h, r, _, _ => by
    have r' : u = Value.ref _ := r
    subst r'
    obtain ⟨_, sy, vs, rel, o, es, ep, h1, h2, h3, h4⟩ := I.hok _ _ h
    cases rel
    have e0 : es.toList = [] := by
      have h5 := h4.2.1
      generalize es.toList = l at h5 ⊢
      cases h5
      rfl
    have R : Reads s.heap (.ref _) (.dict []) _ := Reads.dict (as := []) (bs := []) h1 h2.1 h3 (by rw [e0]; exact ReadsAll.nil) (by rw [e0]; exact ReadsAll.nil)
    have hb : ReadAtMost s.heap (PyData.depthKv []) [] := fun _ q => by cases q
    refine ⟨_, ReadAtMost.cons R (by rw [PyData.depth]; omega) hb, ?_⟩
    rw [PyData.depth, PyData.shown, PyData.shownKv]
    exact ReprK.dict h1 h2.1 h3 sy (fun q => by cases q) (by rw [e0]; exact .nil)
theorem DVs.rk (I : Inv X pins σ H s) : ∀ (ds : List PyData) (vs : List V) (us : List Value), DVs X.K H vs ds → Vals vs us → okAll ds = true → (∀ x ∈ PyData.shownAll ds, x.length ≤ sizeLine) → ∃ bs, ReadAtMost s.heap (PyData.depthAll ds) bs ∧ ReprAllK X.prog X.w bs s.heap (PyData.depthAll ds) us (PyData.shownAll ds)
  | [], _, _, .nil, r, _, _ => by
    cases r
    exact ⟨[], (fun _ q => by cases q), by rw [PyData.shownAll]; exact .nil⟩
  | d :: ds, _, _, .cons h1 h2, r, hok, hz => by
    cases r with
    | cons r1 r2 =>
      rw [okAll, Bool.and_eq_true] at hok
      rw [PyData.shownAll] at hz
      obtain ⟨p1, a1, k1⟩ := DV.rk I d _ _ h1 r1 hok.1 (hz _ List.mem_cons_self)
      obtain ⟨p2, a2, k2⟩ := DVs.rk I ds _ _ h2 r2 hok.2 fun x hx => hz x (List.mem_cons_of_mem _ hx)
      rw [PyData.shownAll, PyData.depthAll]
      refine ⟨p1 ++ p2, fun b hm => ?_, .cons ((k1.more fun b hb => List.mem_append_left _ hb).level_le (by omega)) (k2.more_le (fun b hb => List.mem_append_right _ hb) (by omega))⟩
      rcases List.mem_append.mp hm with q | q
      · obtain ⟨e, f, r, g⟩ := a1 b q
        exact ⟨e, f, r, by omega⟩
      · obtain ⟨e, f, r, g⟩ := a2 b q
        exact ⟨e, f, r, by omega⟩
end
/-- repr of any data -/
def rRepr2 (K : PySem.W.Frag) : List V → Hp → VK → Prop := fun xs H Q => ∃ (v : V) (d : PyData), xs = [v] ∧ DV K H v d ∧ okD d = true ∧ d.depth ≤ 40 ∧ szD d ≤ 1000000 ∧ Q (.str d.shown) H
theorem call_repr2 (hg : X.A.guards = some []) (hu : X.A.units + 64 < cLine) : CallR X (.builtin "repr") (rRepr2 X.K) := by
  intro pins s σ H xs us Q I r h
  obtain ⟨v, d, rfl, hd, hok, hdep, hsz, q⟩ := h
  have hl : d.shown.length ≤ sizeLine := by
    have := shown_le2 d hok
    rw [sizeLine_eq]
    omega
  obtain ⟨u, rfl, ru⟩ : ∃ u, us = [u] ∧ RelV v u := by
    cases r with
    | cons r1 r2 => cases r2; exact ⟨_, rfl, r1⟩
  have kk : ∀ b o, s.heap.get? b = some o → s.heap.get? b = some o := fun _ _ e => e
  cases hd with
  | non =>
    have r' : u = Value.none := ru
    subst r'
    rw [PyData.shown] at q
    exact PySem.P.repr_of_none ⟨.str _, H, I.tok _, ⟨_, rfl⟩, q⟩
  | bl b =>
    have r' : u = Value.bool b := ru
    subst r'
    rw [PyData.shown] at q
    exact PySem.P.repr_of_bool ⟨.str _, H, I.tok _, ⟨_, rfl⟩, q⟩
  | int i =>
    obtain ⟨t, rfl⟩ := ru
    rw [okD] at hok
    have := log_of (of_decide_eq_true hok)
    rw [PyData.shown] at q
    exact PySem.P.repr_of_int (by omega) ⟨.str _, H, I.tok _, ⟨_, rfl⟩, q⟩
  | str x =>
    obtain ⟨t, rfl⟩ := ru
    rw [PyData.shown] at q hl
    exact PySem.P.repr_of_str ⟨.str _, H, I.tok _, ⟨_, rfl⟩, q⟩ hl
  | lst h t =>
    rename_i a vs ds
    have r' : u = Value.ref a := ru
    subst r'
    rw [okD] at hok
    rw [PyData.shown] at hl q
    rw [PyData.depth] at hdep
    obtain ⟨its, rv, ⟨o, n, ho, hc, _, hdt⟩, _⟩ := I.list h
    obtain ⟨as, hr⟩ := DVs.reads I ds _ its t rv
    obtain ⟨bs, hb, hk⟩ := DVs.rk I ds _ its t rv hok fun x hx => Nat.le_trans (listText_mem_le hx) hl
    have far := not_mem_of_deeper (Reads.list ho hc hdt hr) (by rw [PyData.depth]; omega) hb
    refine call_repr_slot (by omega) ⟨o, ho, hc⟩ F.slot_list_repr.toG ?_
    cases its with
    | nil =>
      cases rv
      cases t
      rw [PyData.shownAll, listText_nil] at q
      exact call_list_repr_empty ⟨o, ho, hc⟩ ho hdt ⟨_, _, rfl, .str _, H, I.tok _, ⟨_, rfl⟩, q⟩
    | cons y l =>
      exact call_list_reprK ho hc hdt far (by rw [hk.length_eq]; rfl) (fun i y e => hk.item i y (by rw [List.getElem?_toArray] at e; exact e)) hg (fun b _ => Clear.nil b) (by show X.A.units + 1 + _ < cLine; omega) kk
        (fun h' u tk k => ⟨_, _, rfl, .str _, H, I.kept k, ⟨_, rfl⟩, q⟩) hl
  | tup h t =>
    rename_i a vs ds
    have r' : u = Value.ref a := ru
    subst r'
    rw [okD] at hok
    rw [PyData.shown] at hl q
    rw [PyData.depth] at hdep
    obtain ⟨its, rv, ⟨o, ho, hc, n, hdt⟩, _⟩ := I.tuple h
    obtain ⟨as, hr⟩ := DVs.reads I ds _ its t rv
    obtain ⟨bs, hb, hk⟩ := DVs.rk I ds _ its t rv hok fun x hx => Nat.le_trans (tupleText_mem_le hx) hl
    have far := not_mem_of_deeper (Reads.tuple ho hc hdt hr) (by rw [PyData.depth]; omega) hb
    refine call_repr_slot (by omega) ⟨o, ho, hc⟩ F.slot_tuple_repr ?_
    exact call_tuple_reprK ho hc hdt far hk hg (fun b _ => Clear.nil b) (by show X.A.units + 1 + _ < cLine; omega) kk
      (fun h' u tk k => ⟨_, _, rfl, .str _, H, I.kept k, ⟨_, rfl⟩, q⟩) hl
  | dk0 h =>
    rename_i a
    have r' : u = Value.ref a := ru
    subst r'
    rw [PyData.shown, PyData.shownKv] at q
    obtain ⟨_, sy, vs, rel, o, es, ep, h1, h2, h3, h4⟩ := I.hok _ _ h
    cases rel
    have e0 : es.toList = [] := by
      have h5 := h4.2.1
      generalize es.toList = l at h5 ⊢
      cases h5
      rfl
    refine call_repr_slot (by omega) ⟨o, h1, h2.1⟩ F.slot_dict_repr ?_
    exact call_dict_reprK (d := 0) (as := []) h1 h2.1 h3 sy (fun q => by cases q) (by rw [e0]; exact .nil) hg (fun b _ => Clear.nil b) (by show X.A.units + 1 + _ < cLine; omega) kk
      (fun h' u tk k => ⟨_, _, rfl, .str _, H, I.kept k, ⟨_, rfl⟩, q⟩) (by rw [sizeLine_eq]; decide)
end
/-! ### repr of a dict -/
def bits (D : List (PyData × PyData)) : List Str := List.zipWith (fun k v : Str => k ++ ": " ++ v) (PyData.shownAll (D.map Prod.fst)) (PyData.shownAll (D.map Prod.snd))
def textD (D : List (PyData × PyData)) : Str := dictText (bits D)
theorem zip_pile : ∀ ks vs : List Str, pile (List.zipWith (fun k v : Str => k ++ ": " ++ v) ks vs) ≤ pile ks + pile vs
  | [], _ => by simp [pile]
  | _ :: _, [] => by simp [pile]
  | k :: ks, v :: vs => by
    have ih := zip_pile ks vs
    show (k ++ ": " ++ v).length + 2 + pile (List.zipWith _ ks vs) ≤ k.length + 2 + pile ks + (v.length + 2 + pile vs)
    have e : (k ++ (": " : Str) ++ v).length = k.length + 2 + v.length := by
      rw [Str.length_append, Str.length_append]; rfl
    rw [e]
    omega
theorem textD_len {D : List (PyData × PyData)} (h1 : okAll (D.map Prod.fst) = true) (h2 : okAll (D.map Prod.snd) = true) : (textD D).length ≤ szAll (D.map Prod.fst) + szAll (D.map Prod.snd) + 2 := by
  unfold textD dictText
  have e1 := join_le (bits D)
  have e2 := zip_pile (PyData.shownAll (D.map Prod.fst)) (PyData.shownAll (D.map Prod.snd))
  have e3 := shownAll_le2 _ h1
  have e4 := shownAll_le2 _ h2
  rw [Str.length_append, Str.length_append]
  have : ("{" : Str).length = 1 := rfl
  have : ("}" : Str).length = 1 := rfl
  unfold bits at e1 ⊢
  omega
theorem mem_pile {x : Str} : ∀ {l : List Str}, x ∈ l → x.length ≤ pile l
  | y :: r, h => by
    show _ ≤ y.length + 2 + pile r
    rcases List.mem_cons.mp h with e | e
    · rw [e]; omega
    · have := mem_pile e; omega
theorem keys_vals {P : Program} {w : World} : ∀ {es : List DictEntry} {kvs : List (Key × V)} {vs : List (Key × Value)}, KV kvs vs → Pairs (mixKind P w) es vs → Vals (kvs.map fun kv => kV kv.1) (es.map (·.key)) ∧ Vals (kvs.map Prod.snd) (es.map (·.val))
  | _, [], _, r, p => by
    cases r
    cases p
    exact ⟨.nil, .nil⟩
  | _, kv :: kvs, _, r, p => by
    cases r with
    | cons h t =>
      cases p with
      | cons k1 k2 pr =>
        obtain ⟨i1, i2⟩ := keys_vals (P := P) (w := w) t pr
        refine ⟨.cons (relV_key ?_) i1, .cons (show RelV kv.2 _ by have q := h.2; rw [← k2] at q; exact q) i2⟩
        have : keyIs _ _ = true := k1
        rw [h.1]; exact this
def rReprD (K : PySem.W.Frag) : List V → Hp → VK → Prop := fun xs H Q => ∃ (a : Addr) (kvs : List (Key × V)) (D : List (PyData × PyData)), xs = [.ref a] ∧ H a = some (.dK kvs) ∧ DVs K H (kvs.map fun kv => kV kv.1) (D.map Prod.fst) ∧ DVs K H (kvs.map Prod.snd) (D.map Prod.snd) ∧
  okAll (D.map Prod.fst) = true ∧ okAll (D.map Prod.snd) = true ∧ PyData.depthKv D ≤ 40 ∧ szAll (D.map Prod.fst) ≤ 1000000 ∧ szAll (D.map Prod.snd) ≤ 1000000 ∧ Q (.str (textD D)) H
section
variable {X : Cx}
theorem call_reprD (hg : X.A.guards = some []) (hu : X.A.units + 64 < cLine) : CallR X (.builtin "repr") (rReprD X.K) := by
  intro pins s σ H xs us Q I r h
  obtain ⟨a, kvs, D, rfl, hd, hK, hV, o1, o2, hdep, z1, z2, q⟩ := h
  obtain ⟨u, rfl, ru⟩ := vals1 r
  obtain rfl : u = Value.ref a := ru
  obtain ⟨_, sy, vs, rel, o, es, ep, h1, h2, h3, h4⟩ := I.hok _ _ hd
  obtain ⟨rk, rvv⟩ := keys_vals (P := X.prog) (w := X.w) rel h4.2.1
  have l1 := shownAll_le2 _ o1
  have l2 := shownAll_le2 _ o2
  have hline := sizeLine_eq
  obtain ⟨as1, R1⟩ := DVs.reads I _ _ _ hK rk
  obtain ⟨as2, R2⟩ := DVs.reads I _ _ _ hV rvv
  obtain ⟨bs1, b1, k1⟩ := DVs.rk I _ _ _ hK rk o1 fun x hx => by have := mem_pile hx; omega
  obtain ⟨bs2, b2, k2⟩ := DVs.rk I _ _ _ hV rvv o2 fun x hx => by have := mem_pile hx; omega
  have R : Reads s.heap (.ref a) (.dict D) _ := Reads.dict h1 h2.1 h3 R1 R2
  have d1 := PyData.depthAll_keys_le D
  have d2 := PyData.depthAll_vals_le D
  have hb : ReadAtMost s.heap (PyData.depthKv D) (bs1 ++ bs2) := (b1.mono d1).append (b2.mono d2)
  have far := not_mem_of_deeper R (by rw [PyData.depth]; omega) hb
  refine call_repr_slot (by omega) ⟨o, h1, h2.1⟩ F.slot_dict_repr ?_
  refine call_dict_reprK (d := PyData.depthKv D) (as := bs1 ++ bs2) h1 h2.1 h3 sy far (ReprEntriesK.of_two es.toList _ _ (k1.more_le (fun b hb => List.mem_append_left _ hb) d1) (k2.more_le (fun b hb => List.mem_append_right _ hb) d2)) hg (fun b _ => Clear.nil b) (by show X.A.units + 1 + _ < cLine; omega) (fun _ _ e => e)
    (fun h' u tk k => ⟨_, _, rfl, .str _, H, I.kept k, ⟨_, rfl⟩, q⟩) ?_
  have := textD_len o1 o2
  unfold textD bits at this
  omega
end
/-! ### data with dicts in it -/
mutual
inductive DW (K : PySem.W.Frag) (H : Hp) : V → PyData → Prop
  | non : DW K H .non .none
  | bl (b : Bool) : DW K H (.bl b) (.bool b)
  | int (i : Int) : DW K H (.int i) (.int i)
  | str (x : Str) : DW K H (.str x) (.str x)
  | lst {a : Addr} {xs : List V} {ds : List PyData} : SqL K H a xs → DWs K H xs ds → DW K H (.ref a) (.list ds)
  | tup {a : Addr} {xs : List V} {ds : List PyData} : SqT K H a xs → DWs K H xs ds → DW K H (.ref a) (.tuple ds)
  | dic {a : Addr} {kvs : List (Key × V)} {D : List (PyData × PyData)} : H a = some (.dK kvs) → DWs K H (kvs.map fun kv => kV kv.1) (D.map Prod.fst) → DWs K H (kvs.map Prod.snd) (D.map Prod.snd) → DW K H (.ref a) (.dict D)
inductive DWs (K : PySem.W.Frag) (H : Hp) : List V → List PyData → Prop
  | nil : DWs K H [] []
  | cons {v : V} {vs : List V} {d : PyData} {ds : List PyData} : DW K H v d → DWs K H vs ds → DWs K H (v :: vs) (d :: ds)
end
theorem DWs.ints {K : PySem.W.Frag} {H : Hp} : ∀ ks : List Int, DWs K H (ks.map V.int) (ks.map PyData.int)
  | [] => .nil
  | k :: r => .cons (.int k) (DWs.ints r)
mutual
def szW : PyData → Nat
  | .none => 303
  | .bool _ => 303
  | .int _ => 303
  | .str x => PyData.shown (.str x) |>.length
  | .list xs => szWs xs + 2
  | .tuple xs => szWs xs + 3
  | .dict D => szWk D + 2
def szWs : List PyData → Nat
  | [] => 0
  | x :: xs => szW x + 2 + szWs xs
def szWk : List (PyData × PyData) → Nat
  | [] => 0
  | (k, v) :: r => szW k + szW v + 4 + szWk r
end
mutual
/-- ints of moderate size -/
def okW : PyData → Bool
  | .none | .bool _ | .str _ => true
  | .int i => decide (i.natAbs < 2 ^ 300)
  | .list xs | .tuple xs => okWs xs
  | .dict D => okWk D
def okWs : List PyData → Bool
  | [] => true
  | x :: xs => okW x && okWs xs
def okWk : List (PyData × PyData) → Bool
  | [] => true
  | (k, v) :: r => okW k && okW v && okWk r
end
theorem okWk_split : ∀ {D : List (PyData × PyData)}, okWk D = true → okWs (D.map Prod.fst) = true ∧ okWs (D.map Prod.snd) = true
  | [], _ => ⟨by rw [List.map_nil, okWs], by rw [List.map_nil, okWs]⟩
  | (k, v) :: r, h => by
    rw [okWk, Bool.and_eq_true, Bool.and_eq_true] at h
    obtain ⟨i1, i2⟩ := okWk_split h.2
    exact ⟨by rw [List.map_cons, okWs, h.1.1, i1]; rfl, by rw [List.map_cons, okWs, h.1.2, i2]; rfl⟩
mutual
theorem shown_leW : ∀ d : PyData, okW d = true → d.shown.length ≤ szW d
  | .none, _ => by have := shown_le .none rfl; rw [szD] at this; rw [szW]; omega
  | .bool b, _ => by have := shown_le (.bool b) rfl; rw [szD] at this; rw [szW]; omega
  | .int i, h => by
    have := shown_le (.int i) (by rw [okW] at h; rw [modD]; exact h)
    rw [szD] at this; rw [szW]; omega
  | .str x, _ => by rw [szW]; exact Nat.le_refl _
  | .list xs, h => by
    have h2 : okWs xs = true := by rw [okW] at h; exact h
    have b := shownAll_leW xs h2
    have a := listText_le (PyData.shownAll xs)
    rw [szW, PyData.shown]
    omega
  | .tuple xs, h => by
    have h2 : okWs xs = true := by rw [okW] at h; exact h
    have b := shownAll_leW xs h2
    have a := tupleText_le (PyData.shownAll xs)
    rw [szW, PyData.shown]
    omega
  | .dict D, h => by
    have h2 : okWk D = true := by rw [okW] at h; exact h
    have b := shownKv_leW D h2
    have a := join_le (PyData.shownKv D)
    rw [szW, PyData.shown]
    unfold dictText
    rw [Str.length_append, Str.length_append]
    have : ("{" : Str).length = 1 := rfl
    have : ("}" : Str).length = 1 := rfl
    omega
theorem shownAll_leW : ∀ xs : List PyData, okWs xs = true → pile (PyData.shownAll xs) ≤ szWs xs
  | [], _ => by rw [PyData.shownAll, szWs]; exact Nat.le_refl _
  | x :: xs, h => by
    rw [okWs, Bool.and_eq_true] at h
    have a := shown_leW x h.1
    have b := shownAll_leW xs h.2
    rw [szWs, PyData.shownAll]
    show x.shown.length + 2 + pile (PyData.shownAll xs) ≤ _
    omega
theorem shownKv_leW : ∀ D : List (PyData × PyData), okWk D = true → pile (PyData.shownKv D) ≤ szWk D
  | [], _ => by rw [PyData.shownKv, szWk]; exact Nat.le_refl _
  | (k, v) :: r, h => by
    rw [okWk, Bool.and_eq_true, Bool.and_eq_true] at h
    have a := shown_leW k h.1.1
    have b := shown_leW v h.1.2
    have c := shownKv_leW r h.2
    rw [szWk, PyData.shownKv]
    show (k.shown ++ (": " : Str) ++ v.shown).length + 2 + pile (PyData.shownKv r) ≤ _
    rw [Str.length_append, Str.length_append]
    have : (": " : Str).length = 2 := rfl
    omega
end
section
variable {X : Cx} {pins : List (Addr × Obj)} {σ : L2.St} {H : Hp} {s : Shared}
mutual
theorem DW.reads (I : Inv X pins σ H s) : ∀ {v : V} {d : PyData} (_ : DW X.K H v d) (u : Value), RelV v u → ∃ as, Reads s.heap u d as
  | _, _, .non, _, r => ⟨_, (show _ = Value.none from r) ▸ Reads.none⟩
  | _, _, .bl b, _, r => ⟨_, (show _ = Value.bool b from r) ▸ Reads.bool b⟩
  | _, _, .int i, _, r => by
    obtain ⟨t, q⟩ := r
    rw [q]
    exact ⟨_, Reads.int i t⟩
  | _, _, .str x, _, r => by
    obtain ⟨t, q⟩ := r
    rw [q]
    exact ⟨_, Reads.str x t⟩
  | _, _, .lst h t, u, r => by
    have r' : u = Value.ref _ := r
    subst r'
    obtain ⟨its, rv, ⟨o, n, ho, hc, _, hd⟩, _⟩ := I.list h
    obtain ⟨as, hr⟩ := DWs.reads I t its rv
    exact ⟨_, Reads.list ho hc hd hr⟩
  | _, _, .tup h t, u, r => by
    have r' : u = Value.ref _ := r
    subst r'
    obtain ⟨its, rv, ⟨o, ho, hc, n, hd⟩, _⟩ := I.tuple h
    obtain ⟨as, hr⟩ := DWs.reads I t its rv
    exact ⟨_, Reads.tuple ho hc hd hr⟩
  | _, _, .dic h t1 t2, u, r => by
    have r' : u = Value.ref _ := r
    subst r'
    obtain ⟨_, _, vs, rel, o, es, ep, h1, h2, h3, h4⟩ := I.hok _ _ h
    obtain ⟨rk, rvv⟩ := keys_vals (P := X.prog) (w := X.w) rel h4.2.1
    obtain ⟨as1, R1⟩ := DWs.reads I t1 _ rk
    obtain ⟨as2, R2⟩ := DWs.reads I t2 _ rvv
    exact ⟨_, Reads.dict h1 h2.1 h3 R1 R2⟩
theorem DWs.reads (I : Inv X pins σ H s) : ∀ {vs : List V} {ds : List PyData} (_ : DWs X.K H vs ds) (us : List Value), Vals vs us → ∃ as, ReadsAll s.heap us ds as
  | _, _, .nil, _, r => by
    cases r
    exact ⟨_, ReadsAll.nil⟩
  | _, _, .cons h1 h2, _, r => by
    cases r with
    | cons r1 r2 =>
      obtain ⟨as, q1⟩ := DW.reads I h1 _ r1
      obtain ⟨bs, q2⟩ := DWs.reads I h2 _ r2
      exact ⟨_, ReadsAll.cons q1 q2⟩
end
mutual
theorem DW.rk (I : Inv X pins σ H s) : ∀ {v : V} {d : PyData} (_ : DW X.K H v d) (u : Value), RelV v u → okW d = true → d.shown.length ≤ sizeLine → ∃ bs, ReadAtMost s.heap d.depth bs ∧ ReprK X.prog X.w bs s.heap d.depth u d.shown
  | _, _, .non, _, r, _, _ => ⟨[], (fun _ q => by cases q), by rw [PyData.shown, (show _ = Value.none from r)]; exact .of_is ReprIs.none _ _ _⟩
  | _, _, .bl b, _, r, _, _ => ⟨[], (fun _ q => by cases q), by rw [PyData.shown, (show _ = Value.bool b from r)]; exact .of_is (ReprIs.bool b) _ _ _⟩
  | _, _, .int i, _, r, h, _ => by
    obtain ⟨t, rfl⟩ := r
    rw [okW] at h
    have := log_of (of_decide_eq_true h)
    exact ⟨[], (fun _ q => by cases q), by rw [PyData.shown]; exact .of_is (ReprIs.int t (by omega)) _ _ _⟩
  | _, _, .str x, _, r, _, hz => by
    obtain ⟨t, rfl⟩ := r
    rw [PyData.shown] at hz
    exact ⟨[], (fun _ q => by cases q), by rw [PyData.shown]; exact .of_is (ReprIs.str x t hz) _ _ _⟩
  | _, _, .lst h t, u, r, hok, hz => by
    have r' : u = Value.ref _ := r
    subst r'
    rw [okW] at hok
    rw [PyData.shown] at hz
    obtain ⟨its, rv, ⟨o, n, ho, hc, _, hd⟩, _⟩ := I.list h
    obtain ⟨as, hr⟩ := DWs.reads I t its rv
    obtain ⟨bs, hb, hk⟩ := DWs.rk I t its rv hok fun x hx => Nat.le_trans (listText_mem_le hx) hz
    have R := Reads.list ho hc hd hr
    have far := not_mem_of_deeper R (by rw [PyData.depth]; omega) hb
    refine ⟨_, ReadAtMost.cons R (by rw [PyData.depth]; omega) hb, ?_⟩
    rw [PyData.depth, PyData.shown]
    cases its with
    | nil =>
      cases rv
      cases t
      rw [PyData.shownAll, listText_nil]
      exact ReprK.listEmpty ho hc hd
    | cons y l => exact ReprK.list ho hc hd far (by rw [hk.length_eq]; rfl) fun i y e => hk.item i y (by rw [List.getElem?_toArray] at e; exact e)
  | _, _, .tup h t, u, r, hok, hz => by
    have r' : u = Value.ref _ := r
    subst r'
    rw [okW] at hok
    rw [PyData.shown] at hz
    obtain ⟨its, rv, ⟨o, ho, hc, n, hd⟩, _⟩ := I.tuple h
    obtain ⟨as, hr⟩ := DWs.reads I t its rv
    obtain ⟨bs, hb, hk⟩ := DWs.rk I t its rv hok fun x hx => Nat.le_trans (tupleText_mem_le hx) hz
    have R := Reads.tuple ho hc hd hr
    have far := not_mem_of_deeper R (by rw [PyData.depth]; omega) hb
    refine ⟨_, ReadAtMost.cons R (by rw [PyData.depth]; omega) hb, ?_⟩
    rw [PyData.depth, PyData.shown]
    exact ReprK.tuple ho hc hd far hk
  | _, _, .dic (D := D) h t1 t2, u, r, hok, hz => by
    have r' : u = Value.ref _ := r
    subst r'
    rw [okW] at hok
    obtain ⟨o1, o2⟩ := okWk_split hok
    rw [PyData.shown] at hz
    obtain ⟨_, sy, vs, rel, o, es, ep, h1, h2, h3, h4⟩ := I.hok _ _ h
    obtain ⟨rk, rvv⟩ := keys_vals (P := X.prog) (w := X.w) rel h4.2.1
    obtain ⟨as1, R1⟩ := DWs.reads I t1 _ rk
    obtain ⟨as2, R2⟩ := DWs.reads I t2 _ rvv
    obtain ⟨bs1, b1, k1⟩ := DWs.rk I t1 _ rk o1 fun t ht => let ⟨p, hp, hl⟩ := PyData.shownKv_key_le D t ht; Nat.le_trans hl (Nat.le_trans (dictText_mem_le hp) hz)
    obtain ⟨bs2, b2, k2⟩ := DWs.rk I t2 _ rvv o2 fun t ht => let ⟨p, hp, hl⟩ := PyData.shownKv_val_le D t ht; Nat.le_trans hl (Nat.le_trans (dictText_mem_le hp) hz)
    have R : Reads s.heap (.ref _) (.dict D) _ := Reads.dict h1 h2.1 h3 R1 R2
    have hb : ReadAtMost s.heap (PyData.depthKv D) (bs1 ++ bs2) := (b1.mono (PyData.depthAll_keys_le D)).append (b2.mono (PyData.depthAll_vals_le D))
    have far := not_mem_of_deeper R (by rw [PyData.depth]; omega) hb
    refine ⟨_, ReadAtMost.cons R (by rw [PyData.depth]; omega) hb, ?_⟩
    rw [PyData.depth, PyData.shown, PyData.shownKv_eq]
    exact ReprK.dict h1 h2.1 h3 sy far (ReprEntriesK.of_two es.toList _ _ (k1.more_le (fun b hb => List.mem_append_left _ hb) (PyData.depthAll_keys_le D)) (k2.more_le (fun b hb => List.mem_append_right _ hb) (PyData.depthAll_vals_le D)))
theorem DWs.rk (I : Inv X pins σ H s) : ∀ {vs : List V} {ds : List PyData} (_ : DWs X.K H vs ds) (us : List Value), Vals vs us → okWs ds = true → (∀ x ∈ PyData.shownAll ds, x.length ≤ sizeLine) → ∃ bs, ReadAtMost s.heap (PyData.depthAll ds) bs ∧ ReprAllK X.prog X.w bs s.heap (PyData.depthAll ds) us (PyData.shownAll ds)
  | _, _, .nil, _, r, _, _ => by
    cases r
    exact ⟨[], (fun _ q => by cases q), by rw [PyData.shownAll]; exact .nil⟩
  | _, _, .cons h1 h2, _, r, hok, hz => by
    cases r with
    | cons r1 r2 =>
      rw [okWs, Bool.and_eq_true] at hok
      rw [PyData.shownAll] at hz
      obtain ⟨p1, a1, k1⟩ := DW.rk I h1 _ r1 hok.1 (hz _ List.mem_cons_self)
      obtain ⟨p2, a2, k2⟩ := DWs.rk I h2 _ r2 hok.2 fun x hx => hz x (List.mem_cons_of_mem _ hx)
      rw [PyData.shownAll, PyData.depthAll]
      refine ⟨p1 ++ p2, fun b hm => ?_, .cons ((k1.more fun b hb => List.mem_append_left _ hb).level_le (by omega)) (k2.more_le (fun b hb => List.mem_append_right _ hb) (by omega))⟩
      rcases List.mem_append.mp hm with q | q
      · obtain ⟨e, f, r, g⟩ := a1 b q
        exact ⟨e, f, r, by omega⟩
      · obtain ⟨e, f, r, g⟩ := a2 b q
        exact ⟨e, f, r, by omega⟩
end
end
/-- repr of a list, a tuple or a dict of data -/
def rReprW (K : PySem.W.Frag) : List V → Hp → VK → Prop := fun xs H Q => ∃ (a : Addr) (d : PyData), xs = [.ref a] ∧ DW K H (.ref a) d ∧ okW d = true ∧ d.depth ≤ 40 ∧ szW d ≤ 1000000 ∧ Q (.str d.shown) H
section
variable {X : Cx}
theorem call_reprW (hg : X.A.guards = some []) (hu : X.A.units + 64 < cLine) : CallR X (.builtin "repr") (rReprW X.K) := by
  intro pins s σ H xs us Q I r h
  obtain ⟨a, d, rfl, hd, hok, hdep, hsz, q⟩ := h
  have hl : d.shown.length ≤ sizeLine := by
    have := shown_leW d hok
    rw [sizeLine_eq]
    omega
  obtain ⟨u, rfl, ru⟩ := vals1 r
  obtain rfl : u = Value.ref a := ru
  have kk : ∀ b o, s.heap.get? b = some o → s.heap.get? b = some o := fun _ _ e => e
  cases hd with
  | lst h t =>
    rename_i vs ds
    rw [okW] at hok
    rw [PyData.shown] at hl q
    rw [PyData.depth] at hdep
    obtain ⟨its, rv, ⟨o, n, ho, hc, _, hdt⟩, _⟩ := I.list h
    obtain ⟨as, hr⟩ := DWs.reads I t its rv
    obtain ⟨bs, hb, hk⟩ := DWs.rk I t its rv hok fun x hx => Nat.le_trans (listText_mem_le hx) hl
    have far := not_mem_of_deeper (Reads.list ho hc hdt hr) (by rw [PyData.depth]; omega) hb
    refine call_repr_slot (by omega) ⟨o, ho, hc⟩ F.slot_list_repr.toG ?_
    cases its with
    | nil =>
      cases rv
      cases t
      rw [PyData.shownAll, listText_nil] at q
      exact call_list_repr_empty ⟨o, ho, hc⟩ ho hdt ⟨_, _, rfl, .str _, H, I.tok _, ⟨_, rfl⟩, q⟩
    | cons y l =>
      exact call_list_reprK ho hc hdt far (by rw [hk.length_eq]; rfl) (fun i y e => hk.item i y (by rw [List.getElem?_toArray] at e; exact e)) hg (fun b _ => Clear.nil b) (by show X.A.units + 1 + _ < cLine; omega) kk
        (fun h' u tk k => ⟨_, _, rfl, .str _, H, I.kept k, ⟨_, rfl⟩, q⟩) hl
  | tup h t =>
    rename_i vs ds
    rw [okW] at hok
    rw [PyData.shown] at hl q
    rw [PyData.depth] at hdep
    obtain ⟨its, rv, ⟨o, ho, hc, n, hdt⟩, _⟩ := I.tuple h
    obtain ⟨as, hr⟩ := DWs.reads I t its rv
    obtain ⟨bs, hb, hk⟩ := DWs.rk I t its rv hok fun x hx => Nat.le_trans (tupleText_mem_le hx) hl
    have far := not_mem_of_deeper (Reads.tuple ho hc hdt hr) (by rw [PyData.depth]; omega) hb
    refine call_repr_slot (by omega) ⟨o, ho, hc⟩ F.slot_tuple_repr ?_
    exact call_tuple_reprK ho hc hdt far hk hg (fun b _ => Clear.nil b) (by show X.A.units + 1 + _ < cLine; omega) kk
      (fun h' u tk k => ⟨_, _, rfl, .str _, H, I.kept k, ⟨_, rfl⟩, q⟩) hl
  | dic h t1 t2 =>
    rename_i kvs D
    rw [okW] at hok
    obtain ⟨o1, o2⟩ := okWk_split hok
    rw [PyData.shown] at hl q
    rw [PyData.depth] at hdep
    obtain ⟨_, sy, vs, rel, o, es, ep, h1, h2, h3, h4⟩ := I.hok _ _ h
    obtain ⟨rk, rvv⟩ := keys_vals (P := X.prog) (w := X.w) rel h4.2.1
    obtain ⟨as1, R1⟩ := DWs.reads I t1 _ rk
    obtain ⟨as2, R2⟩ := DWs.reads I t2 _ rvv
    obtain ⟨bs1, b1, k1⟩ := DWs.rk I t1 _ rk o1 fun t ht => let ⟨p, hp, hl2⟩ := PyData.shownKv_key_le D t ht; Nat.le_trans hl2 (Nat.le_trans (dictText_mem_le hp) hl)
    obtain ⟨bs2, b2, k2⟩ := DWs.rk I t2 _ rvv o2 fun t ht => let ⟨p, hp, hl2⟩ := PyData.shownKv_val_le D t ht; Nat.le_trans hl2 (Nat.le_trans (dictText_mem_le hp) hl)
    have R : Reads s.heap (.ref a) (.dict D) _ := Reads.dict h1 h2.1 h3 R1 R2
    have hb : ReadAtMost s.heap (PyData.depthKv D) (bs1 ++ bs2) := (b1.mono (PyData.depthAll_keys_le D)).append (b2.mono (PyData.depthAll_vals_le D))
    have far := not_mem_of_deeper R (by rw [PyData.depth]; omega) hb
    rw [PyData.shownKv_eq] at hl q
    refine call_repr_slot (by omega) ⟨o, h1, h2.1⟩ F.slot_dict_repr ?_
    exact call_dict_reprK (d := PyData.depthKv D) (as := bs1 ++ bs2) h1 h2.1 h3 sy far (ReprEntriesK.of_two es.toList _ _ (k1.more_le (fun b hb => List.mem_append_left _ hb) (PyData.depthAll_keys_le D)) (k2.more_le (fun b hb => List.mem_append_right _ hb) (PyData.depthAll_vals_le D))) hg (fun b _ => Clear.nil b) (by show X.A.units + 1 + _ < cLine; omega) kk
      (fun h' u tk k => ⟨_, _, rfl, .str _, H, I.kept k, ⟨_, rfl⟩, q⟩) hl
end
/-! ### pins as a dict -/
theorem an_mem {ps : List (Int × Int)} {x a : Int} (h : anOf ps x = some a) : (x, a) ∈ ps := by
  unfold anOf at h
  cases q : ps.find? (fun e => decide (e.1 = x)) with
  | none => rw [q] at h; cases h
  | some e =>
    rw [q] at h
    have h2 := List.find?_some q
    have h1 : e.2 = a := Option.some.inj h
    have h3 : e.1 = x := of_decide_eq_true h2
    rw [← h1, ← h3]
    exact List.mem_of_find?_eq_some q
theorem nP {ps : List (Int × Int)} : ∀ x y, HO.dK (pinK ps) ≠ .dK (dk x y) := fun x y h => by
  have h := HO.dK.inj h
  unfold dk at h
  cases ps with
  | nil => cases h
  | cons e r =>
    have h2 : ((.inl e.1 : Key), V.int e.2) :: pinK r = [(.inr "digits", .int x), (.inr "mixed", .int y)] := h
    have h3 := congrArg Prod.fst (List.cons.inj h2).1
    cases h3
theorem pin_put {ps : List (Int × Int)} {x a : Int} (h : x ∉ ps.map Prod.fst) : putK (pinK ps) (.inl x : Key) (.int a) = pinK (ps ++ [(x, a)]) := by
  have hv : valV (pinK ps) (.inl x : Key) = none := by
    rw [val_pin]
    cases q : anOf ps x with
    | none => rfl
    | some b => exact absurd (List.mem_map.mpr ⟨_, an_mem q, rfl⟩) h
  rw [putK_new _ hv]
  unfold pinK
  rw [List.map_append]; rfl
theorem pin_len (ps : List (Int × Int)) : (pinK ps).length = ps.length := by unfold pinK; rw [List.length_map]
theorem cut_in {xs : List V} {lo hi : Option Int} {v : V} (h : v ∈ cutV xs lo hi) : v ∈ xs := by
  unfold cutV at h
  exact List.mem_of_mem_drop (List.mem_of_mem_take h)
/-! ### sorted, < of data -/
theorem each_vals {β : Type} {val : β → V} : ∀ {bs : List β} {us : List Value}, Vals (bs.map val) us → PySem.W.EachIs (fun u b => RelV (val b) u) us bs
  | [], _, .nil => .nil
  | _ :: _, _, .cons r t => .cons r (each_vals t)
theorem vals_each {β : Type} {val : β → V} : ∀ {us : List Value} {bs : List β}, PySem.W.EachIs (fun u b => RelV (val b) u) us bs → Vals (bs.map val) us
  | _, _, .nil => .nil
  | _, _, .cons r t => .cons r (vals_each t)
/-- sorted(xs) of data that can be compared -/
def rSortD (K : PySem.W.Frag) : List V → Hp → VK → Prop := fun xs H Q => ∃ (a : Addr) (β : Type) (bs : List β) (enc : β → PyData) (val : β → V), xs = [.ref a] ∧ SqL K H a (bs.map val) ∧ (∀ b ∈ bs, DV K H (val b) (enc b)) ∧ PySem.W.AllAlike (bs.map enc) ∧ PySem.W.Sortable (bs.map enc) ∧ (∀ b ∈ bs, (enc b).depth ≤ 40) ∧
  ∀ p, H p = none → Q (.ref p) (upd H p (.lst ((bs.mergeSort (PySem.W.dataLe false enc)).map val)))
section
variable {X : Cx}
theorem each_reads {β : Type} {enc : β → PyData} {val : β → V} {pins : List (Addr × Obj)} {σ : L2.St} {H : Hp} {s : Shared} (I : L2.Inv X pins σ H s) : ∀ {us : List Value} {bs : List β}, PySem.W.EachIs (fun u b => RelV (val b) u) us bs → (∀ b ∈ bs, DV X.K H (val b) (enc b)) → PySem.W.EachIs (fun u b => ∃ as, Reads s.heap u (enc b) as) us bs
  | _, _, .nil, _ => .nil
  | _, _, .cons r t, h => .cons (DV.reads I _ _ _ (h _ List.mem_cons_self) r) (each_reads I t fun b hb => h b (List.mem_cons_of_mem _ hb))
theorem call_sortD (hu : X.A.units + 64 < cLine) : CallR X (.builtin "sorted") (rSortD X.K) := by
  intro pins s σ H xs us Q I r h
  obtain ⟨a, β, bs, enc, val, rfl, hS, hd, hal, hk, hdep, q⟩ := h
  obtain ⟨its, rv, hl, hz⟩ := I.list hS
  obtain ⟨u, rfl, ru⟩ := vals1 r
  obtain rfl : u = Value.ref a := ru
  have e := each_vals rv
  rw [List.length_map] at hz
  refine PySem.W.sorted_data (R := fun u b => RelV (val b) u) (vs := its) hl.isList e (each_reads I e hd) hal hk hz (fun b hb => by have := hdep b hb; omega) fun out hlen hout => ?_
  obtain ⟨n, hn⟩ := sortedAll_at s.heap its out.toArray
  have hle : s.heap.objs.size ≤ s.heap.objs.size + 1 := Nat.le_succ _
  refine ⟨.ref (s.heap.objs.size + 1), upd H (s.heap.objs.size + 1) (.lst ((bs.mergeSort (PySem.W.dataLe false enc)).map val)), I.laid (t' := s.toks) (fun b o e => sortedAll_old e) hle ⟨?_, out, n, vals_each hout, hn⟩, rfl, q _ (I.hok.fresh hle)⟩
  rw [List.length_map, List.length_mergeSort]
  exact hz
/-- x < y of data that can be compared -/
def rLtD (K : PySem.W.Frag) : R2 := fun x y H Q => ∃ dx dy : PyData, DV K H x dx ∧ DV K H y dy ∧ PySem.W.alike dx dy = true ∧ dx ≠ .none ∧ dx.depth ≤ 40 ∧ Q (.bl (PySem.W.dataLt dx dy)) H
theorem op_ltD (hu : X.A.units + 64 < cLine) : OpR X (compareOp .Lt) (rLtD X.K) := by
  intro pins s σ H x y v u Q I rx ry h
  obtain ⟨dx, dy, hx, hy, ha, hn, hdp, q⟩ := h
  obtain ⟨as, r1⟩ := DV.reads I _ _ _ hx rx
  obtain ⟨bs, r2⟩ := DV.reads I _ _ _ hy ry
  exact PySem.W.lt_data r1 r2 ha hn (by omega) ⟨.bl _, H, I, rfl, q⟩
end
/-! ### the places of the anchors -/
theorem idx_hit {R : List Int} {x : Int} (h : x ∈ R) : R[R.idxOf x]? = some x := by
  rw [List.getElem?_eq_getElem (List.idxOf_lt_length_of_mem h)]
  exact congrArg some (List.getElem_idxOf _)
theorem idx_miss : ∀ {R : List Int} {x z : Int} {m : Nat}, m < R.idxOf x → R[m]? = some z → z ≠ x
  | [], x, z, m, hm, hz => by simp at hz
  | y :: R, x, z, m, hm, hz => by
    by_cases e : y = x
    · subst e
      simp at hm
    · have hb : (y == x) = false := by simpa using e
      rw [List.idxOf_cons, hb, cond_false] at hm
      cases m with
      | zero => rw [← Option.some.inj hz]; exact e
      | succ m => exact idx_miss (R := R) (by omega) hz
theorem ix1 {ids : List Int} {x : Int} (hx : x ∈ ids) : (ids.map V.int)[ids.idxOf x]? = some (.int x) := by rw [List.getElem?_map, idx_hit hx]; rfl
theorem ix2 (x : Int) : eqV (.int x) (.int x) = true := by rw [eqV_int]; exact decide_eq_true rfl
theorem ix3 {ids : List Int} {x : Int} (m : Nat) (z : V) (hm : m < ids.idxOf x) (hz : (ids.map V.int)[m]? = some z) : eqV z (.int x) = false := by
  obtain ⟨z, hz2, rfl⟩ := int_at hz
  rw [eqV_int]
  exact decide_eq_false (idx_miss hm hz2)
theorem alike_int (x y : Int) : PySem.W.alike (.int x) (.int y) = true := by rw [PySem.W.alike]
theorem DVs.intsT {K : PySem.W.Frag} {H : Hp} : ∀ ks : List Int, DVs K H (ks.map V.int) (ks.map PyData.int)
  | [] => .nil
  | k :: r => .cons (.int k) (DVs.intsT r)
/-! ### dict(zip(xs, ys)) -/
inductive Zipped : List V → List V → List (Key × V) → Prop
  | nil1 {ys : List V} : Zipped [] ys []
  | nil2 {xs : List V} : Zipped xs [] []
  | cons {k : Key} {v : V} {xs ys : List V} {kvs : List (Key × V)} : Zipped xs ys kvs → Zipped (kV k :: xs) (v :: ys) ((k, v) :: kvs)
theorem zip_prs {P : Program} {w : World} {xs ys : List V} {kvs : List (Key × V)} (h : Zipped xs ys kvs) : ∀ {us ws : List Value}, Vals xs us → Vals ys ws →
    ∃ prs : List (Key × Value), KV kvs prs ∧ prs.length = min us.length ws.length ∧ ∀ (i : Nat) (key v : Value), us[i]? = some key → ws[i]? = some v → ∃ k, prs[i]? = some (k, v) ∧ (mixKind P w).is k key = true := by
  induction h with
  | nil1 =>
    intro us ws r1 r2
    cases r1
    exact ⟨[], .nil, by simp, fun i key v e _ => by simp at e⟩
  | nil2 =>
    intro us ws r1 r2
    cases r2
    exact ⟨[], .nil, by simp, fun i key v _ e => by simp at e⟩
  | cons t ih =>
    intro us ws r1 r2
    cases r1 with
    | cons a1 a2 =>
      cases r2 with
      | cons b1 b2 =>
        obtain ⟨prs, i1, i2, i3⟩ := ih a2 b2
        rename_i k0 v0 _ _ _ _ _ w0 _
        refine ⟨(k0, w0) :: prs, .cons ⟨rfl, b1⟩ i1, by rw [List.length_cons, List.length_cons, List.length_cons, i2]; omega, fun i key v e1 e2 => ?_⟩
        cases i with
        | zero =>
          obtain rfl := Option.some.inj e1
          obtain rfl := Option.some.inj e2
          exact ⟨_, rfl, kV_is a1⟩
        | succ i => exact i3 i key v e1 e2
theorem vals_len : ∀ {xs : List V} {us : List Value}, Vals xs us → xs.length = us.length
  | _, _, .nil => rfl
  | _, _, .cons _ t => congrArg Nat.succ (vals_len t)
def tDZip (K : PySem.W.Frag) (ta : TA) : TE := fun σ H Q => ta σ H fun vs H1 => ∃ (a b : Addr) (xs ys : List V) (kvs : List (Key × V)), vs = [.ref a, .ref b] ∧ SqL K H1 a xs ∧ SqL K H1 b ys ∧ Zipped xs ys kvs ∧
  ∀ p, H1 p = none → Q (.ref p) (upd H1 p (.dK (mergeK [] kvs)))
section
variable {X : Cx}
theorem pe_dictZip {e e2 : Expr} {ta : TA} {p p2 pos pos2 : Pos} (hc : X.calm = true) (hg : Gl X "dict") (hm : X.mg "dict" = none) (hg2 : Gl X "zip") (hm2 : X.mg "zip" = none) (ha : PA X [e, e2] ta)
    (hs0 : starEach [.Call (.Name "zip" p2) [e, e2] [] pos2] X.env = [(false, eval (.Call (.Name "zip" p2) [e, e2] [] pos2) X.env)] := by rfl)
    (hs : starEach [e, e2] X.env = (false, eval e X.env) :: starEach [e2] X.env := by rfl) (hpl : (backTo pos2 (starEach [e2] X.env)).any (·.1) = false := by rfl) :
    PE X (.Call (.Name "dict" p) [.Call (.Name "zip" p2) [e, e2] [] pos2] [] pos) (tDZip X.K ta) := by
  refine ⟨fun pins s σ H Q I h => ?_⟩
  refine wpAny_Call_Name_kw (ld_blt I hg hm boot_dict ?_)
  refine PyProof.Rows.callWith_type1 ?_ hs0 rfl
  rw [hs0]
  show wpAny _ _ (spliced [(false, eval (.Call (.Name "zip" p2) [e, e2] [] pos2) X.env)]) _ _ s
  refine Calls.spliced_cons ?_
  refine wpAny_Call_Name_kw (ld_blt I hg2 hm2 PyProof.Rows.boot_zip (PyProof.Rows.callWith_type1 (thn (ha.run pos2 pins s σ H _ I h) fun us s1 ⟨vs, H1, I1, r1, q1⟩ => ?_) hs hpl))
  obtain ⟨a, b, xs, ys, kvs, ex, hqx, hqy, hz0, q⟩ := q1
  subst ex
  obtain ⟨u1, u2, rfl, ra, rb⟩ := vals2 r1
  obtain rfl : u1 = Value.ref a := ra
  obtain rfl : u2 = Value.ref b := rb
  obtain ⟨its, rv, p1, sz1⟩ := I1.list hqx
  obtain ⟨its2, rv2, p3, sz2⟩ := I1.list hqy
  have la : a < s1.heap.objs.size := p1.lt
  have lb : b < s1.heap.objs.size := p3.lt
  refine call_zip_2 p1.isList p3.isList fun h' hz hTI hTO h1 h2 hsz hk => Calls.spliced_nil ?_
  obtain ⟨prs, k1, k2, k3⟩ := zip_prs (P := X.prog) (w := X.w) hz0 rv rv2
  have hl1 := Heap.IsList.at p1.isList (h' := h') fun o e => hk _ o e
  have hl2 := Heap.IsList.at p3.isList (h' := h') fun o e => hk _ o e
  refine PySem.call_dict_pairs (knd := mixKind X.prog X.w) (kvs := prs) (PairArg.zip (s1.heap.objs.size + 4) (s1.heap.objs.size + 2) (s1.heap.objs.size + 3) s1.heap.objs.size (s1.heap.objs.size + 1) a b (PySem.W.ktu_apart s1.heap.objs.size a b la lb) its.toArray its2.toArray) (I1.ok.hd hc)
    ⟨hz, hTI, ⟨_, _, hTO⟩, h1, h2, hl1, hl2⟩ ⟨by rw [k2]; simp, fun i key v hr => k3 i key v (by simpa using hr.1) (by simpa using hr.2)⟩ (by have e1 := vals_len rv; rw [List.size_toArray, List.size_toArray, ← e1]; exact Nat.le_trans (Nat.min_le_left _ _) sz1) fun h3 tk hd' hk3 => ?_
  have hle : s1.heap.objs.size ≤ h'.objs.size := by rw [hsz]; exact Nat.le_add_right _ _
  have hm : (h'.objs.size == sysModules) = false := beq_eq_false_iff_ne.mpr (Nat.ne_of_gt (Nat.lt_of_lt_of_le I1.big hle))
  have hlen : (mergeK [] kvs).length ≤ sizeLine := by
    refine Nat.le_trans (length_mergeK kvs []) ?_
    rw [List.length_nil, Nat.zero_add, k1.length, k2]
    have e1 := vals_len rv
    rw [← e1]
    exact Nat.le_trans (Nat.min_le_left _ _) sz1
  have kk : ∀ c o, s1.heap.get? c = some o → h3.get? c = some o := fun c o e => by
    have hlt := Heap.lt_size e
    refine hk3 c o ?_ (hk _ _ e)
    simp only [List.mem_cons, List.not_mem_nil, or_false, not_or]
    exact ⟨Nat.ne_of_lt (Nat.lt_of_lt_of_le hlt (Nat.le_add_right _ _)), Nat.ne_of_lt (Nat.lt_of_lt_of_le hlt (Nat.le_add_right _ _)), Nat.ne_of_lt hlt, Nat.ne_of_lt (Nat.lt_of_lt_of_le hlt (Nat.le_add_right _ _))⟩
  exact ⟨.ref h'.objs.size, upd H1 h'.objs.size (.dK (mergeK [] kvs)), I1.laid (t' := tk) kk hle (show ObjOk X.prog X.w _ _ _ (.dK (mergeK [] kvs)) from ⟨hlen, hm, merged [] prs, KV.merge k1 .nil, hd'⟩), rfl, q _ (I1.hok.fresh hle)⟩
end
/-! ### dicts of ids -/
theorem idx_of_at {l : List Int} (nd : l.Nodup) {i : Nat} {x : Int} (h : l[i]? = some x) : l.idxOf x = i := by
  obtain ⟨h1, h2⟩ := List.getElem?_eq_some_iff.mp h
  rw [← h2]
  exact nd.idxOf_getElem i h1
theorem an_of : ∀ {ps : List (Int × Int)}, (ps.map Prod.fst).Nodup → ∀ e ∈ ps, anOf ps e.1 = some e.2
  | [], _, e, h => by cases h
  | f :: ps, nd, e, h => by
    obtain ⟨n1, n2⟩ := List.nodup_cons.mp nd
    rcases List.mem_cons.mp h with q | q
    · subst q
      unfold anOf
      rw [List.find?_cons_of_pos (by exact decide_eq_true rfl)]
      rfl
    · have hne : ¬ f.1 = e.1 := fun z => n1 (by rw [z]; exact List.mem_map.mpr ⟨e, q, rfl⟩)
      have ih := an_of n2 e q
      unfold anOf at ih ⊢
      rw [List.find?_cons_of_neg (by intro z; exact hne (of_decide_eq_true z))]
      exact ih
theorem merge_freshP : ∀ (more acc : List (Key × V)), ((acc ++ more).map Prod.fst).Nodup → mergeK acc more = acc ++ more
  | [], acc, _ => by rw [List.append_nil]; rfl
  | p :: r, acc, h => by
    have hp : putK acc p.1 p.2 = acc ++ [p] := by
      unfold putK
      rw [if_neg]
      intro z
      obtain ⟨q, hq, e⟩ := List.any_eq_true.mp z
      have e := of_decide_eq_true e
      rw [List.map_append, List.map_cons] at h
      have := (List.nodup_append.mp h).2.2 q.1 (List.mem_map.mpr ⟨q, hq, rfl⟩) p.1 List.mem_cons_self
      exact this e
    show mergeK (putK acc p.1 p.2) r = _
    rw [hp, merge_freshP r (acc ++ [p]) (by rw [List.append_assoc]; exact h), List.append_assoc]
    rfl
/-! ### as data -/
def pinD (ps : List (Int × Int)) : List (PyData × PyData) := ps.map fun e => (.int e.1, .int e.2)
theorem pin_dw {K : PySem.W.Frag} {H : Hp} {d : Addr} {ps : List (Int × Int)} (h : H d = some (.dK (pinK ps))) : DW K H (.ref d) (.dict (pinD ps)) := by
  refine .dic h ?_ ?_
  · have e1 : (pinK ps).map (fun kv => kV kv.1) = (ps.map Prod.fst).map V.int := by unfold pinK; rw [List.map_map, List.map_map]; rfl
    have e2 : (pinD ps).map Prod.fst = (ps.map Prod.fst).map PyData.int := by unfold pinD; rw [List.map_map, List.map_map]; rfl
    rw [e1, e2]
    exact DWs.ints _
  · have e1 : (pinK ps).map Prod.snd = (ps.map Prod.snd).map V.int := by unfold pinK; rw [List.map_map, List.map_map]; rfl
    have e2 : (pinD ps).map Prod.snd = (ps.map Prod.snd).map PyData.int := by unfold pinD; rw [List.map_map, List.map_map]; rfl
    rw [e1, e2]
    exact DWs.ints _
theorem ints_okW : ∀ xs : List Int, (∀ z ∈ xs, 0 ≤ z ∧ z ≤ 1000000) → okWs (xs.map .int) = true ∧ szWs (xs.map .int) = xs.length * 305
  | [], _ => ⟨by rw [List.map_nil, okWs], by rw [List.map_nil, szWs]; rfl⟩
  | x :: r, h => by
    obtain ⟨i1, i2⟩ := ints_okW r fun z hz => h z (List.mem_cons_of_mem _ hz)
    have hx := h x List.mem_cons_self
    refine ⟨?_, ?_⟩
    · rw [List.map_cons, okWs, okW, i1, decide_eq_true (small_abs (by omega) (by omega))]; rfl
    · rw [List.map_cons, szWs, szW, i2, List.length_cons]; omega
theorem pins_okW : ∀ ps : List (Int × Int), (∀ e ∈ ps, (0 ≤ e.1 ∧ e.1 ≤ 1000000) ∧ 0 ≤ e.2 ∧ e.2 ≤ 1000000) → okWk (pinD ps) = true ∧ szWk (pinD ps) = ps.length * 610 ∧ PyData.depthKv (pinD ps) = 0
  | [], _ => ⟨by rw [pinD, List.map_nil, okWk], by rw [pinD, List.map_nil, szWk]; rfl, by rw [pinD, List.map_nil, PyData.depthKv]⟩
  | e :: r, h => by
    obtain ⟨i1, i2, i3⟩ := pins_okW r fun z hz => h z (List.mem_cons_of_mem _ hz)
    obtain ⟨h1, h2⟩ := h e List.mem_cons_self
    have eD : pinD (e :: r) = (.int e.1, .int e.2) :: pinD r := rfl
    rw [eD]
    refine ⟨?_, ?_, ?_⟩
    · rw [okWk, okW, okW, i1, decide_eq_true (small_abs (by omega) (by omega)), decide_eq_true (small_abs (by omega) (by omega))]; rfl
    · rw [szWk, szW, szW, i2, List.length_cons]; omega
    · rw [PyData.depthKv, PyData.depth, PyData.depth, i3]; rfl
structure RokW (d : PyData) : Prop where
  o : okW d = true
  dep : d.depth ≤ 40
  sz : szW d ≤ 1000000
theorem rok_list {ids : List Int} (hI : ∀ z ∈ ids, 0 ≤ z ∧ z ≤ 1000000) (hl : ids.length ≤ 300) : RokW (.list (ids.map .int)) := by
  obtain ⟨o1, o2⟩ := ints_okW ids hI
  refine ⟨by rw [okW]; exact o1, by rw [PyData.depth, PySem.W.depth_ints]; decide, by rw [szW, o2]; omega⟩
/-! ### for k, v in d.items(), the pairs not kept -/
def isT (T : Addr) (xs : List V) : Heap → Prop := fun h => ∃ its, Vals xs its ∧ IsTup h T its.toArray
section
variable {X : Cx} {pins : List (Addr × Obj)} {σ : L2.St} {H : Hp} {s : Shared}
theorem _root_.L2.Inv.drop {T : Addr} {φ : Heap → Prop} (I : L2.Inv X pins σ (upd H T (.ext φ)) s) (hT : H T = none) : L2.Inv X pins σ H s := by
  have up : ∀ {b : Addr} {u : HO}, H b = some u → (upd H T (.ext φ)) b = some u := fun {b u} e => by rw [upd_ne (ne_of_none e hT)]; exact e
  have down : ∀ {b : Addr}, (upd H T (.ext φ)) b = none → H b = none := fun {b} e => by
    by_cases z : b = T
    · rw [z]; exact hT
    · rw [upd_ne z] at e; exact e
  have back : ∀ {b : Addr} {u : HO}, (upd H T (.ext φ)) b = some u → (∀ ψ, u ≠ .ext ψ) → H b = some u := fun {b u} e n => by
    by_cases z : b = T
    · rw [z, upd_same] at e
      exact absurd (Option.some.inj e).symm (n φ)
    · rw [upd_ne z] at e; exact e
  refine ⟨I.ok, I.os, I.bare, ⟨I.base.keep, I.base.slot, fun b o e n hx => down (I.base.free b o e n hx), I.base.there, fun b xs e => back (I.base.tups b xs e) (fun _ z => by cases z), fun b o u e => back (I.base.frzs b o u e) (fun _ z => by cases z), fun b ps e => ?_⟩,
    I.loc, I.cell, down I.free, fun x c e => down (I.freeC x c e), fun p hp => ?_, fun b u e => ?_, I.len⟩
  · obtain ⟨more, q⟩ := I.base.tbls b ps e
    exact ⟨more, back q (fun _ z => by cases z)⟩
  · obtain ⟨h1, h2, h3⟩ := I.pin p hp
    exact ⟨h1, down h2, h3⟩
  · exact (I.hok b u (up e)).stay (fun _ _ _ q => q) (fun c q => back q (fun _ z => by cases z)) fun c xs q => back q (fun _ z => by cases z)
end
def gTupE (n : Nat) (t : TGs) : TG := fun v σ H' Q => ∃ (T : Addr) (xs : List V) (H : Hp), v = .ref T ∧ H T = none ∧ H' = upd H T (.ext (isT T xs)) ∧ xs.length = n ∧ t xs σ H Q
def ItiE (d : Addr) (o : Obj) (kvs : List (Key × V)) : It :=
  ⟨fun i H => H d = some (.frz o (.dK kvs)) ∧ i < kvs.length, fun i H x H' => ∃ T k v, kvs[i]? = some (k, v) ∧ x = .ref T ∧ H T = none ∧ H' = upd H T (.ext (isT T [kV k, v])), fun i H => H d = some (.frz o (.dK kvs)) ∧ kvs.length ≤ i⟩
def iItemsE (td : TE) : TI := fun σ H R => td σ H fun x H1 => ∃ d o kvs, x = .ref d ∧ H1 d = some (.frz o (.dK kvs)) ∧ R (ItiE d o kvs) H1
section
variable {X : Cx}
theorem pg_tupE {es : List Expr} {k : Nat} {t : TGs} {n : Nat} {pos : Pos} (hc : X.calm = true) (h : PGs X es t)
    (hn : (assignEach es X.env).length = n := by rfl) (hst : (assignEach es X.env).findIdx? (·.1) = none := by rfl) : PG X (.Tuple es k pos) (gTupE n t) := by
  refine ⟨fun pins s σ H v u Q I r hw => ?_⟩
  obtain ⟨T, xs, H0, e1, hT, e2, hl, hw⟩ := hw
  subst e1
  subst e2
  cases r
  obtain ⟨⟨its, rv, ht⟩, _, _⟩ : ObjOk X.prog X.w (upd H0 T (.ext (isT T xs))) s.heap T (.ext (isT T xs)) := I.hok T _ upd_same
  have I0 := I.drop hT
  refine assign_Tuple_tuple (I.ok.hd hc) ht (by simp [hn, ← hl, rv.length]) hst fun h' hx => ?_
  have I1 : L2.Inv X pins σ H0 { s with heap := h' } := I0.kept (t' := s.toks) fun b o e => hx b o (Nat.ne_of_lt (Heap.lt_size e)) e
  exact h.run pins _ σ H0 xs _ Q I1 (by simpa using rv) hw
end
section
variable {P : Program} {w : World} {K : PySem.W.Frag} {d : Addr} {o : Obj} {es : Array DictEntry} {ep : Nat}
theorem turn_itemsE {kvs : List (Key × V)} {elts : List Expr} {kk : Nat} {tpos : Pos} (it : Addr) (hod : o.data = .dict es ep) :
    Turn P w K (.Tuple elts kk tpos) (ItiE d o kvs) [it] it (fun i h => ∃ ok ov, IsItemIter h it d i kvs.length ep ok ov) where
  mem := by simp
  obj := fun i h st b hb => by
    have e : b = it := by simpa using hb
    subst e
    obtain ⟨ok, ov, e⟩ := st
    exact ⟨_, e, fun v z => nomatch z⟩
  keep := fun i h h' st k => let ⟨ok, ov, e⟩ := st; ⟨ok, ov, k it (by simp) _ e⟩
  item := by
    intro X hP hw hK hc i pins s σ H E I hf st hg
    subst hP hw hK
    obtain ⟨hd, hi⟩ := hg
    obtain ⟨hs, hgd, hx, es', ep', vs, hdt, hsz, kv, hm⟩ := I.frzK hd
    obtain ⟨rfl, rfl⟩ := dict_ep hod hdt
    obtain ⟨⟨k, v⟩, hkv⟩ : ∃ p, kvs[i]? = some p := ⟨kvs[i], List.getElem?_eq_getElem hi⟩
    obtain ⟨u, hu, ru⟩ := kv_get kv hkv
    have hl : kvs.length = vs.length := Paired.length kv
    obtain ⟨ok, ov, he⟩ := st
    rw [hl] at he
    have hlt : it < s.heap.objs.size := Heap.lt_size he
    refine wpAny_pyNext_items_item he hm hu fun key h' hkey ho hT hz hk => ?_
    refine ⟨_, rfl, wpAny_letOwnedTupleGo_items (s := { s with heap := h' }) ho fun h'' he' sb => ?_⟩
    have hT2 : h''.get? s.heap.objs.size = some { cls := .type "tuple", data := .seq #[key, u] } := (sb.2 _ (Nat.ne_of_gt hlt)).trans hT
    have new : ObjOk X.prog X.w (upd H s.heap.objs.size (.ext (isT s.heap.objs.size [kV k, v]))) h'' s.heap.objs.size (.ext (isT s.heap.objs.size [kV k, v])) :=
      ⟨⟨[key, u], .cons (relV_key (show keyIs k key = true from hkey)) (.cons ru .nil), ⟨_, hT2, rfl, _, rfl⟩⟩, ⟨_, hT2⟩, fun h1 h2 ⟨its, rv, ob, e, c⟩ kk => ⟨its, rv, ob, kk _ e, c⟩⟩
    have I1 : L2.Inv X pins σ (upd H s.heap.objs.size (.ext (isT s.heap.objs.size [kV k, v]))) { s with heap := h'' } :=
      I.turnedNew (t' := s.toks) (ch := [it]) (fun b ob hb e => (sb.2 b (by simpa using hb)).trans (hk b ob (by simpa using hb) e)) hf (Nat.le_refl _) new
    refine ⟨.ref s.heap.objs.size, _, I1, rfl, ⟨_, k, v, hkv, rfl, I.hok.fresh (Nat.le_refl _), rfl⟩, ⟨key, u, ?_⟩, fun b hb => ?_⟩
    · rw [hl]; exact he'
    · have e : b = it := by simpa using hb
      rw [e, upd_ne (Nat.ne_of_lt hlt)]
      exact (hf it (by simp)).1
  done := by
    intro X hP hw hK hc i pins s σ H E I hf st hg
    subst hP hw hK
    obtain ⟨hd, hi⟩ := hg
    obtain ⟨f0, f1, f2, f3, f4, f5⟩ := hf it (by simp)
    obtain ⟨hs, hgd, hx, es', ep', vs, hdt, hsz, kv, hm⟩ := I.frzK hd
    obtain ⟨rfl, rfl⟩ := dict_ep hod hdt
    have hl : kvs.length = vs.length := Paired.length kv
    obtain ⟨ok, ov, he⟩ := st
    rw [hl] at he
    exact wpAny_pyNext_items_end (I.ok.hd hc) he hm (List.getElem?_eq_none (by omega)) fun h' eb => ⟨rfl, I.turned (t' := s.toks) (fun b ob hb e => eb b ob hb e) f0 f1 f3 f4 f5⟩
  self := fun A i s Q E st h => let ⟨_, _, e⟩ := st; PySem.W.kcp_self e h
end
section
variable {X : Cx} {e : Expr} {td : TE} {apos cpos : Pos}
theorem pi_itemsE {elts : List Expr} {kk : Nat} {tpos : Pos} (he : PE X e td) (hbase : attributeBase e "items" X.env (eval e X.env) = eval e X.env := by rfl) (hline : (apos.endLine == cpos.line) = true := by rfl) :
    PI X (.Tuple elts kk tpos) (.Call (.Attribute e "items" apos) [] [] cpos) (iItemsE td) := by
  refine ⟨fun pins s σ H R I h => ?_⟩
  refine wpAny_Call_method (T := "dict") (id := "dict.items") hbase rfl hline F.plainAttrs_dict F.slot_dict_items F.type_dict_items (thn (he.run pins s σ H _ I h) fun u s1 ⟨x, H1, I1, rx, d, o, kvs, ex, hd, q⟩ => ?_)
  subst ex
  obtain rfl : u = Value.ref d := rx
  obtain ⟨hs, hgd, hx, es, ep, vs, hdt, hsz, kv, hm⟩ := I1.frzK hd
  have hl : kvs.length = vs.length := Paired.length kv
  refine ⟨hm.dictOf.typeIs, hm.dictOf.mapOf.noDict, ?_⟩
  have I2 : L2.Inv X pins σ H1 { s1 with heap := s1.heap.push { cls := .type "dict_items", data := .fields #[.ref d] } } := I1.kept (t' := s1.toks) fun b ob q => Heap.get?_push_of_some _ q
  have fin : wpAny (model X.prog X.w) X.A (pyIter (.ref s1.heap.objs.size)) (PIE X pins σ (.Tuple elts kk tpos) R) X.xe { s1 with heap := s1.heap.push { cls := .type "dict_items", data := .fields #[.ref d] } } := by
    refine wpAny_pyIter_items (d := d) (knd := mixKind X.prog X.w) ⟨_, Heap.get?_push_size _ rfl, rfl, rfl⟩ (hm.push _) (pi_one (tk := s1.toks) I2 _ (turn_itemsE _ hdt) ⟨.none, .none, ?_⟩ q)
    rw [hl]
    exact Heap.get?_push_size _ rfl
  show wpAny _ _ (callWith cpos (.builtin "dict.items") [.ref d] [] []) _ X.xe s1
  exact method_meetsIn F.slot_dict_items F.entry_dict_items rfl (PySem.evalArgs_none ⟨rfl, hm.dictOf.typeIs, F.args_dict_items_1 _, _, meets_dict_items (mixKind X.prog X.w) d hs, ⟨vs, hm.dictOf⟩, fin⟩)
end
/-- the walk over all items -/
theorem walk_itemsE {d : Addr} {o : Obj} {kvs : List (Key × V)} : Walk (ItiE d o kvs) kvs.length (fun H => H d = some (.frz o (.dK kvs))) (fun i H x H' => ∃ T k v, kvs[i]? = some (k, v) ∧ x = .ref T ∧ H T = none ∧ H' = upd H T (.ext (isT T [kV k, v]))) :=
  ⟨fun _ _ hi q => ⟨q, hi⟩, fun _ q => ⟨q, Nat.le_refl _⟩, fun _ _ _ _ _ _ y => y⟩
/-! ### dicts made by comprehensions -/
theorem dc_it {J : It} {n : Nat} {G : Hp → Prop} {Y : Nat → Hp → V → Hp → Prop} (w : Walk J n G Y) {g : TG} {tt : TT} {tk tv : TE} {vs : List Nat} {σ : L2.St} {H1 : Hp} {D : Addr} {Qd : Hp → Prop} (Pv : Nat → Hp → Prop) (h0 : Pv 0 (upd H1 D (.dK []))) (hG : ∀ i H, i ≤ n → Pv i H → G H)
    (hs : ∀ i x H H', i < n → Pv i H → Y i H x H' → g x (wipe σ vs) H' fun σ2 H2 => wipe σ2 vs = wipe σ vs ∧ tt σ2 H2 fun b H3 =>
      if b = true then tk σ2 H3 fun y H4 => tv σ2 H4 fun z H5 => ∃ kvs k, y = kV k ∧ H5 D = some (.dK kvs) ∧ kvs.length < sizeLine ∧ Pv (i + 1) (upd H5 D (.dK (putK kvs k z))) else Pv (i + 1) H3) (hd : ∀ H, Pv n H → Qd H) :
    ∃ W : Nat → Nat → Hp → Prop, (∃ m, W 0 m (upd H1 D (.dK []))) ∧ ∀ i m H, W i m H →
      (J.stop i H ∧ Qd H) ∨ (J.go i H ∧ ∃ Nx : Hp → Prop, (∀ H', Nx H' → ∃ m', m' < m ∧ W (i + 1) m' H') ∧ ∀ x H', J.yld i H x H' → g x (wipe σ vs) H' fun σ2 H2 => wipe σ2 vs = wipe σ vs ∧ tt σ2 H2 fun b H3 =>
        if b = true then tk σ2 H3 fun y H4 => tv σ2 H4 fun z H5 => ∃ kvs k, y = kV k ∧ H5 D = some (.dK kvs) ∧ kvs.length < sizeLine ∧ Nx (upd H5 D (.dK (putK kvs k z))) else Nx H3) := by
  refine ⟨fun i m H => m = n - i ∧ i ≤ n ∧ Pv i H, ⟨n, by simp, Nat.zero_le _, h0⟩, ?_⟩
  rintro i m H ⟨rfl, hi, p⟩
  have q := hG i H hi p
  by_cases hlt : i < n
  · refine .inr ⟨w.goes i H hlt q, Pv (i + 1), fun H' p' => ⟨n - (i + 1), by omega, rfl, hlt, p'⟩, fun x H' y => hs i x H H' hlt p (w.yields i H x H' hlt q y)⟩
  · have e : i = n := by omega
    subst e
    exact .inl ⟨w.stops H q, hd H p⟩
/-! ### numbers by ids -/
/-- f of each id -/
def tabP (f : Int → Int) (l : List Int) : List (Int × Int) := l.map fun x => (x, f x)
theorem tab_keys (f : Int → Int) (l : List Int) : (tabP f l).map Prod.fst = l := by unfold tabP; rw [List.map_map]; simp [Function.comp_def]
theorem tab_len (f : Int → Int) (l : List Int) : (tabP f l).length = l.length := by unfold tabP; rw [List.length_map]
theorem tab_an {f : Int → Int} {l : List Int} {x : Int} (h : x ∈ l) : anOf (tabP f l) x = some (f x) := by
  induction l with
  | nil => cases h
  | cons y r ih =>
    unfold anOf tabP
    rw [List.map_cons]
    by_cases e : y = x
    · subst e
      rw [List.find?_cons_of_pos (by exact decide_eq_true rfl)]; rfl
    · rw [List.find?_cons_of_neg (by intro z; exact e (of_decide_eq_true z))]
      rcases List.mem_cons.mp h with q | q
      · exact absurd q.symm e
      · exact ih q
theorem tab_snoc {f : Int → Int} {l : List Int} {i : Nat} {x : Int} (h : l[i]? = some x) : tabP f (l.take (i + 1)) = tabP f (l.take i) ++ [(x, f x)] := by
  unfold tabP
  rw [take_snoc h, List.map_append]; rfl
theorem tab_new {f : Int → Int} {l : List Int} {i : Nat} {x : Int} (nd : l.Nodup) (h : l[i]? = some x) : x ∉ (tabP f (l.take i)).map Prod.fst := by
  rw [tab_keys]
  intro q
  obtain ⟨j, hj⟩ := List.mem_iff_getElem?.mp q
  rw [List.getElem?_take] at hj
  split at hj
  · rename_i hji
    have e := (List.getElem?_inj (by have := (List.getElem?_eq_some_iff.mp h).1; omega) nd).mp (hj.trans h.symm)
    omega
  · cases hj
section
variable {P : Program} {w : World} {K : PySem.W.Frag} {mg : Str → Option Value} {base : Heap}
/-- places_of -/
def spPlaces (K : PySem.W.Frag) : Sp := fun vs H Q _ => ∃ (o : Addr) (ids : List Int), vs = [.ref o] ∧ SqL K H o (ids.map V.int) ∧ ids.Nodup ∧ ids.length ≤ 300 ∧
  ∀ (q : Addr) (H' : Hp), Same H H' → H q = none → H' q = some (.dK (pinK (tabP (ixI ids) ids))) → Q (.ref q) H'
theorem scPlaces : FnScope ["order", "row_id", "place"] ["order"] (defScope sPlaces) := ⟨rfl, rfl, rfl, by decide +kernel, rfl, by decide +kernel, by decide +kernel⟩
theorem ok_places {f : Addr} {fd : FuncData} (F : Fun K "places_of" "places_of" sPlaces f fd) (T : mg "enumerate" = none) : FnOk P w K mg base CX0 1 f fd ["order"] (spPlaces K) := by
  refine F.ok scPlaces (fun vs H Q E h => ?_) (fun cdv A outer s H vs Q E hr h => ?_)
  · obtain ⟨o, ids, rfl, _⟩ := h
    rfl
  · obtain ⟨o, ids, rfl, ho, nd, hlen, k⟩ := h
    refine ⟨_, pss_one (ps_ret (pe_dc (own := [("place", 2), ("row_id", 1)]) (tt := tYes) (g := gTup K 2 (gCons (gName 2) (gCons (gName 1) gNil))) rfl scPlaces.nd (pi_enum (by rfl) T (pa_cons (pv 0) pa_nil)) (blkOk_by (N := ["order", "row_id", "place"]) (sc := defScope sPlaces) (by decide +kernel))
        (fun _ _ _ _ _ => pg_tup rfl (pgs_cons (pg_name (i := 2) scPlaces.nd rfl (Or.inl rfl)) (pgs_cons (pg_name (i := 1) scPlaces.nd rfl (Or.inl rfl)) pgs_nil))) (fun _ _ _ _ _ => pts_nil) (fun _ _ _ _ _ => pv 1) (fun _ _ _ _ _ => pv 2))), ?_⟩
    have h16 : sizeLine = 16777216 := sizeLine_eq
    refine ⟨_, rfl, o, _, rfl, ho, fun D hD => ?_⟩
    refine dc_it (walk_enum (K := K) (a := o) (xs := ids.map V.int)) (fun i H' => Same H H' ∧ i ≤ ids.length ∧ H' D = some (.dK (pinK (tabP (ixI ids) (ids.take i))))) ⟨Same.new hD, Nat.zero_le _, by rw [List.take_zero]; exact upd_same⟩ (fun i H' _ q => q.1.seq ho) ?_ ?_
    · rintro i y H1 H2 hi ⟨s1, hil, hP⟩ ⟨T0, x', y', rfl, hT, rfl, e1, e2⟩
      rw [List.length_map] at hi
      obtain rfl := Option.some.inj e1
      obtain ⟨x, hx, rfl⟩ := int_at e2
      refine ⟨T0, _, rfl, SqT.of upd_same, rfl, _, _, rfl, _, _, rfl, rfl, rfl, ?_⟩
      have s2 := Same.new (o := .tup [.int (i : Int), .int x]) hT
      refine ⟨_, rfl, _, rfl, pinK (tabP (ixI ids) (ids.take i)), .inl x, rfl, s2 _ _ hP, by rw [pin_len, tab_len, List.length_take, h16]; omega, fun b u e => by rw [upd_ne (ne_of_none e hD)]; exact s2 _ _ (s1 _ _ e), hi, ?_⟩
      have ei : ixI ids x = (i : Int) := by unfold ixI; rw [idx_of_at nd hx]
      rw [upd_same, pin_put (tab_new nd hx), tab_snoc hx, ei]
    · rintro H1 ⟨s1, _, hP⟩
      rw [List.length_map, List.take_length] at hP
      exact k D H1 s1 hD hP
/-- weights: none, or a dict -/
def WtAt (H : Hp) (v : V) (wo : Option (List (Int × Int))) : Prop := (v = .non ∧ wo = none) ∨ ∃ d ws, v = .ref d ∧ wo = some ws ∧ H d = some (.dK (pinK ws))
def wtI (wo : Option (List (Int × Int))) (x : Int) : Int := match wo with
  | none => 1
  | some ws => (anOf ws x).getD 1
theorem WtAt.same {H H' : Hp} {v : V} {wo : Option (List (Int × Int))} (s : Same H H') (h : WtAt H v wo) : WtAt H' v wo := by
  rcases h with h | ⟨d, ws, h1, h2, h3⟩
  · exact .inl h
  · exact .inr ⟨d, ws, h1, h2, s _ _ h3⟩
def spFull (K : PySem.W.Frag) : Sp := fun vs H Q _ => ∃ (o : Addr) (v : V) (ids : List Int) (wo : Option (List (Int × Int))), vs = [.ref o, v] ∧ SqL K H o (ids.map V.int) ∧ WtAt H v wo ∧ ids.Nodup ∧ ids.length ≤ 300 ∧
  ∀ (q : Addr) (H' : Hp), Same H H' → H q = none → H' q = some (.dK (pinK (tabP (wtI wo) ids))) → Q (.ref q) H'
theorem scFull : FnScope ["ids", "weights", "given", "row_id"] ["ids", "weights"] (defScope sFull) := ⟨rfl, rfl, rfl, by decide +kernel, rfl, by decide +kernel, by decide +kernel⟩
theorem ok_full {f : Addr} {fd : FuncData} (F : Fun K "full_weights" "full_weights" sFull f fd) : FnOk P w K mg base CX0 1 f fd ["ids", "weights"] (spFull K) := by
  refine F.ok scFull (fun vs H Q E h => ?_) (fun cdv A outer s H vs Q E hr h => ?_)
  · obtain ⟨o, v, ids, wo, rfl, _⟩ := h
    rfl
  · obtain ⟨o, v, ids, wo, rfl, ho, hw, nd, hlen, k⟩ := h
    have hu := hu_of hr
    refine ⟨_, pss_cons (ps_set (i := 2) scFull.nd rfl (Or.inr rfl) (pe_ifExp (pt_cmpR op_isN (pv 1) pe_non (nomark _)) pe_dnewK (pv 1)))
      (pss_one (ps_ret (pe_dc (own := [("row_id", 3)]) (tt := tYes) (g := gName 3) rfl scFull.nd (pi_list (pv 0)) (blkOk_by (N := ["ids", "weights", "given", "row_id"]) (sc := defScope sFull) (by decide +kernel))
        (fun _ _ _ _ _ => pg_name (i := 3) scFull.nd rfl (Or.inl rfl)) (fun _ _ _ _ _ => pts_nil) (fun _ _ _ _ _ => pv 3) (fun _ _ _ _ _ => pe_dget2 hu (pv 2) (pv 3) pe_int ⟨rfl, rfl, rfl, rfl⟩)))), ?_⟩
    have h16 : sizeLine = 16777216 := sizeLine_eq
    have go : ∀ (g : Addr) (ws : List (Int × Int)) (H1 : Hp), Same H H1 → H1 g = some (.dK (pinK ws)) → (∀ x, wtI wo x = (anOf ws x).getD 1) →
        (tRet (tDc (iList (cxOf CX0 P w K mg base ["ids", "weights", "given", "row_id"] "full_weights" (defScope sFull) f cdv A outer s H E).K (tVar 0)) (gName 3) tYes (tVar 3) (tDGet2 (tVar 2) (tVar 3) (tC (.int 1))) [3])) { nx := fun _ H' => Q .non H', rt := Q } [some (.ref o), some v, some (.ref g), none] H1 := by
      intro g ws H1 s1 hg hwt
      refine ⟨_, rfl, o, rfl, ⟨_, s1.seq ho⟩, fun D hD => ?_⟩
      refine dc_it (walk_list (K := K) (a := o) (xs := ids.map V.int)) (fun i H' => Same H1 H' ∧ i ≤ ids.length ∧ H' D = some (.dK (pinK (tabP (wtI wo) (ids.take i))))) ⟨Same.new hD, Nat.zero_le _, by rw [List.take_zero]; exact upd_same⟩ (fun i H' _ q => (s1.trans q.1).seq ho) ?_ ?_
      · rintro i y H2 H3 hi ⟨s2, hil, hP⟩ ⟨rfl, e2⟩
        rw [List.length_map] at hi
        obtain ⟨x, hx, rfl⟩ := int_at e2
        refine ⟨rfl, _, rfl, _, rfl, g, rfl, .inl ⟨_, .inl (s2 _ _ hg)⟩, _, rfl, _, DGet.k (k := (.inl x : Key)) (s2 _ _ hg), ?_⟩
        have ev : (valV (pinK ws) (.inl x : Key)).getD (.int 1) = .int (wtI wo x) := by
          rw [val_pin, hwt]
          cases anOf ws x <;> rfl
        rw [ev]
        refine ⟨pinK (tabP (wtI wo) (ids.take i)), .inl x, rfl, hP, by rw [pin_len, tab_len, List.length_take, h16]; omega, fun b u e => by rw [upd_ne (ne_of_none e hD)]; exact s2 _ _ e, hi, ?_⟩
        rw [upd_same, pin_put (tab_new nd hx), tab_snoc hx]
      · rintro H2 ⟨s2, _, hP⟩
        rw [List.length_map, List.take_length] at hP
        exact k D H2 (s1.trans s2) (Same.free s1 hD) hP
    rcases hw with ⟨rfl, rfl⟩ | ⟨d, ws, rfl, rfl, hd⟩
    · refine ⟨_, rfl, rfl, _, rfl, iteT ?_⟩
      intro p hp
      exact go p [] _ (Same.new hp) upd_same fun x => rfl
    · refine ⟨_, rfl, rfl, _, rfl, iteF ⟨_, rfl, ?_⟩⟩
      exact go d ws H (Same.refl H) hd fun x => rfl
end
section
variable {K : PySem.W.Frag} {x qual : Str} {params : Arguments} {body : List Stmt} {scope : Scope} {kws : List (Str × V)} {f : Addr} {fd : FuncData} {ps : List Str}
/-- all keyword-only parameters are written by name, in their sequence -/
theorem FunD.kbindsA (F : FunD K x qual params body scope [] kws f fd) (n : Nat) (ks : List Str)
    (h : ∀ (kV doc pm : Value) (an : Option Addr) (cdv ct : Value) (us ws : List Value), us.length = n → ws.length = ks.length → bindArgs (PySem.W.fnOf x qual params body scope .none kV doc pm an cdv ct) ⟨us, ks.zip ws⟩ = pure (ps.zip (us ++ ws))) :
    KBn K fd ps n ks (fun us ws => us ++ ws) (fun vs zs => vs ++ zs) := by
  obtain ⟨oc, od, dV, kV, doc, pm, an, cdv, ct, osl, rfl, lk, hcd, hD, hK⟩ := F.ex
  rcases hD with ⟨_, rfl⟩ | ⟨e, _⟩
  · exact ⟨fun s us ws X l1 l2 => .of_eq (h kV doc pm an cdv ct us ws l1 l2), fun r1 r2 => r1.append r2⟩
  · exact absurd rfl e
/-- all keyword-only parameters are written by name, in the reverse sequence -/
theorem FunD.kbindsR (F : FunD K x qual params body scope [] kws f fd) (n : Nat) (ks : List Str)
    (h : ∀ (kV doc pm : Value) (an : Option Addr) (cdv ct : Value) (us ws : List Value), us.length = n → ws.length = ks.length → bindArgs (PySem.W.fnOf x qual params body scope .none kV doc pm an cdv ct) ⟨us, ks.zip ws⟩ = pure (ps.zip (us ++ ws.reverse))) :
    KBn K fd ps n ks (fun us ws => us ++ ws.reverse) (fun vs zs => vs ++ zs.reverse) := by
  obtain ⟨oc, od, dV, kV, doc, pm, an, cdv, ct, osl, rfl, lk, hcd, hD, hK⟩ := F.ex
  have rev : ∀ {zs : List V} {ws : List Value}, Vals zs ws → Vals zs.reverse ws.reverse := by
    intro zs
    induction zs with
    | nil => intro ws h; cases h; exact .nil
    | cons v r ih =>
      intro ws h
      cases h with
      | cons a t =>
        rw [List.reverse_cons, List.reverse_cons]
        exact (ih t).append (.cons a .nil)
  rcases hD with ⟨_, rfl⟩ | ⟨e, _⟩
  · exact ⟨fun s us ws X l1 l2 => .of_eq (h kV doc pm an cdv ct us ws l1 l2), fun r1 r2 => r1.append (rev r2)⟩
  · exact absurd rfl e
/-- keyword-only defaults, no others: n positional values, keywords named ks; ms: the keyword-only parameters that lack -/
theorem FunD.kbinds0 (F : FunD K x qual params body scope [] kws f fd) (n : Nat) (ks : List Str) (ms : List (Str × V)) (g : {α : Type} → List α → List α → List α → List α) (hk : kws ≠ []) (hms : ∀ q ∈ ms, q ∈ kws)
    (hrel : ∀ {vs mz zs : List V} {us mv ws : List Value}, Vals vs us → Vals mz mv → Vals zs ws → Vals (g vs mz zs) (g us mv ws))
    (h : ∀ (D : Addr) (doc pm : Value) (an : Option Addr) (cdv ct : Value) (us mv ws : List Value), us.length = n → mv.length = ms.length → ws.length = ks.length →
      KwChain D ((ms.map (·.1)).zip mv) (bindArgs (PySem.W.fnOf x qual params body scope .none (.ref D) doc pm an cdv ct) ⟨us, ks.zip ws⟩) (ps.zip (g us mv ws))) :
    ∃ mv : List Value, Vals (ms.map (·.2)) mv ∧ KBn K fd ps n ks (fun us ws => g us mv ws) (fun vs zs => g vs (ms.map (·.2)) zs) := by
  obtain ⟨oc, od, dV, kV, doc, pm, an, cdv, ct, osl, rfl, lk, hcd, hD, hK⟩ := F.ex
  rcases hD with ⟨_, rfl⟩ | ⟨e, _⟩
  · rcases hK with e | ⟨D, rfl, hq⟩
    · exact absurd e hk
    · obtain ⟨mv, hl, rk, hks⟩ := kwd_vals (ms := ms) fun q hm => hq q (hms q hm)
      refine ⟨mv, rk, ⟨fun s us ws X l1 l2 => ?_, fun r1 r2 => hrel r1 rk r2⟩⟩
      exact BindsTo.of_looks fun M => KwChain.looks X hks (h D doc pm an cdv ct us mv ws l1 hl l2)
  · exact absurd rfl e
end
/-! ### favoured_worths -/
def worthI (wo : Option (List (Int × Int))) (n : Nat) (fav : List Int) (x : Int) : Int := wtI wo x * ((n : Int) + 1) + (if x ∈ fav then 1 else 0)
structure TxtW (mg : Str → Option Value) : Prop where
  set : mg "set" = none
  len : mg "len" = none
section
variable {P : Program} {w : World} {K : PySem.W.Frag} {mg : Str → Option Value} {base : Heap}
def spFavs (K : PySem.W.Frag) : Sp := fun vs H Q _ => ∃ (g fv : Addr) (v : V) (ids fav : List Int) (wo : Option (List (Int × Int))), vs = [.ref g, v, .ref fv] ∧ SqL K H g (ids.map V.int) ∧ WtAt H v wo ∧ (SqL K H fv (fav.map V.int) ∨ SqT K H fv (fav.map V.int)) ∧ fav.length ≤ 4000 ∧ ids.Nodup ∧ ids.length ≤ 300 ∧ (∀ x ∈ ids, (wtI wo x).natAbs < 2 ^ 300) ∧
  ∀ (q : Addr) (H' : Hp), Same H H' → H q = none → H' q = some (.dK (pinK (tabP (worthI wo ids.length fav) ids))) → Q (.ref q) H'
abbrev NF : List Str := ["goal", "weights", "favoured", "liked", "full", "scale", "row_id"]
theorem scFavs : FnScope NF ["goal", "weights", "favoured"] (defScope sFavs) := ⟨rfl, rfl, rfl, by decide +kernel, rfl, by decide +kernel, by decide +kernel⟩
theorem ok_favs {f fF : Addr} {fd fdF : FuncData} (F : Fun K "favoured_worths" "favoured_worths" sFavs f fd) (T : TxtW mg) (GF : FnOk P w K mg base CX0 1 fF fdF ["ids", "weights"] (spFull K)) (kF : PySem.W.keepIn K (.ref fF) = true) (bF : L2.Binds K fdF ["ids", "weights"] []) (mF : mg "full_weights" = some (.ref fF)) :
    FnOk P w K mg base CX0 2 f fd ["goal", "weights", "favoured"] (spFavs K) := by
  refine F.ok scFavs (fun vs H Q E h => ?_) (fun cdv A outer s H vs Q E hr h => ?_)
  · obtain ⟨g, fv, v, ids, fav, wo, rfl, _⟩ := h
    rfl
  · obtain ⟨g, fv, v, ids, fav, wo, rfl, hg, hw, hf, hfl, nd, hlen, hwb, k⟩ := h
    have hu := hu_of hr
    refine ⟨_, pss_cons (ps_set (i := 3) scFavs.nd rfl (Or.inr rfl) (pe_callTy (cr_setI rfl) (by rfl) T.set (by decide +kernel) (pa_cons (pv 2) pa_nil)))
      (pss_cons (ps_set (i := 4) scFavs.nd rfl (Or.inr rfl) (pe_call GF hr rfl mF kF bF .nil pass0 (pa_cons (pv 0) (pa_cons (pv 1) pa_nil))))
      (pss_cons (ps_set (i := 5) scFavs.nd rfl (Or.inr rfl) (pe_op op_add (pe_callB call_len_seq (by rfl) T.len PySem.boot_len (pa_cons (pv 0) pa_nil)) pe_int))
      (pss_one (ps_ret (pe_dc (own := [("row_id", 6)]) (tt := tYes) (g := gName 6) rfl scFavs.nd (pi_list (pv 0)) (blkOk_by (N := NF) (sc := defScope sFavs) (by decide +kernel))
        (fun _ _ _ _ _ => pg_name (i := 6) scFavs.nd rfl (Or.inl rfl)) (fun _ _ _ _ _ => pts_nil) (fun _ _ _ _ _ => pv 6)
        (fun _ _ _ _ _ => pe_op op_add (pe_op op_mulG (pe_dget hu (pv 4) (pv 6) (fun _ _ => rfl)) (pv 5)) (pe_ifExp (pt_cmpR op_inSet (pv 6) (pv 3) (by rfl)) pe_int pe_int))))))), ?_⟩
    have h16 : sizeLine = 16777216 := sizeLine_eq
    refine ⟨_, rfl, fv, fav, rfl, hf, hfl, fun q S n hq hS hn => ?_⟩
    have s1 := Same.new (o := .set S n) hq
    have hS1 : (upd H q (.set S n)) q = some (.set S n) := upd_same
    generalize upd H q (.set S n) = H1 at s1 hS1 ⊢
    refine ⟨_, rfl, _, rfl, g, v, ids, wo, rfl, s1.seq hg, hw.same s1, nd, hlen, fun d H2 s2 hd hD => ?_⟩
    have s12 := s1.trans s2
    refine ⟨_, rfl, g, _, rfl, .inl (s12.seq hg), _, _, rfl, rfl, ?_⟩
    refine ⟨_, rfl, g, rfl, ⟨_, s12.seq hg⟩, fun D hDn => ?_⟩
    refine dc_it (walk_list (K := K) (a := g) (xs := ids.map V.int)) (fun i H' => Same H2 H' ∧ i ≤ ids.length ∧ H' D = some (.dK (pinK (tabP (worthI wo ids.length fav) (ids.take i))))) ⟨Same.new hDn, Nat.zero_le _, by rw [List.take_zero]; exact upd_same⟩ (fun i H' _ q => (s12.trans q.1).seq hg) ?_ ?_
    · rintro i y H3 H4 hi ⟨s3, hil, hP⟩ ⟨rfl, e2⟩
      rw [List.length_map] at hi
      obtain ⟨x, hx, rfl⟩ := int_at e2
      have hxm := List.mem_of_getElem? hx
      have dg : DGet H4 d (.int x) (some (.int (wtI wo x))) := by
        have := DGet.k (k := (.inl x : Key)) (s3 _ _ hD)
        rw [val_pin, tab_an hxm] at this
        exact this
      have hmul : IntMulOk (wtI wo x) (((ids.map V.int).length : Nat) + 1) := by
        refine mulOk_bits (a := 300) (b := 20) (bits_le (hwb x hxm)) (bits_le ?_) (by decide)
        rw [List.length_map]
        have : (2 : Nat) ^ 20 = 1048576 := by decide
        omega
      have fin : ∀ z : Int, z = (if x ∈ fav then 1 else 0) → ∃ kvs k, V.int x = kV k ∧ H4 D = some (.dK kvs) ∧ kvs.length < sizeLine ∧ (Same H2 (upd H4 D (.dK (putK kvs k (.int (wtI wo x * ((((ids.map V.int).length : Nat) : Int) + 1) + z))))) ∧ i + 1 ≤ ids.length ∧ (upd H4 D (.dK (putK kvs k (.int (wtI wo x * ((((ids.map V.int).length : Nat) : Int) + 1) + z))))) D = some (.dK (pinK (tabP (worthI wo ids.length fav) (ids.take (i + 1)))))) := by
        rintro z rfl
        refine ⟨pinK (tabP (worthI wo ids.length fav) (ids.take i)), .inl x, rfl, hP, by rw [pin_len, tab_len, List.length_take, h16]; omega, fun b u e => by rw [upd_ne (ne_of_none e hDn)]; exact s3 _ _ e, hi, ?_⟩
        rw [upd_same, pin_put (tab_new nd hx), tab_snoc hx, List.length_map]
        rfl
      refine ⟨rfl, _, rfl, _, rfl, _, rfl, d, _, rfl, dg, _, rfl, _, _, rfl, rfl, hmul, ?_⟩
      refine ⟨_, rfl, _, rfl, x, q, S, n, rfl, rfl, s3 _ _ (s2 _ _ hS1), _, rfl, ?_⟩
      have eS : (if false = true then !S x else S x) = decide (x ∈ fav) := hS.1 x
      rw [eS]
      refine ite2 (fun c => ?_) (fun c => ?_)
      · exact ⟨_, _, rfl, rfl, fin 1 (by rw [if_pos (of_decide_eq_true c)])⟩
      · exact ⟨_, _, rfl, rfl, fin 0 (by rw [if_neg (fun z => c (decide_eq_true z))])⟩
    · rintro H3 ⟨s3, _, hP⟩
      rw [List.length_map, List.take_length] at hP
      exact k D H3 (s12.trans s3) (Same.free s12 hDn) hP
end
/-! ### max(xs, default=d) -/
def maxI (d : Int) : List Int → Int
  | [] => d
  | n :: ns => ns.foldl max n
def rMaxDef (K : PySem.W.Frag) : List V → List V → Hp → VK → Prop := fun vs zs H Q => ∃ (a : Addr) (ns : List Int) (d : Int), vs = [.ref a] ∧ zs = [.int d] ∧ SqL K H a (ns.map V.int) ∧ Q (.int (maxI d ns)) H
theorem alike_allI (ns : List Int) : PySem.W.AlikeAll (ns.map .int) := by
  refine ⟨fun x hx y hy => ?_, fun x hx => ?_⟩
  · obtain ⟨a, _, rfl⟩ := List.mem_map.mp hx
    obtain ⟨b, _, rfl⟩ := List.mem_map.mp hy
    exact alike_int a b
  · obtain ⟨a, _, rfl⟩ := List.mem_map.mp hx
    exact fun z => by cases z
section
variable {X : Cx}
theorem cr_maxDef (hc : X.calm = true) (hu : X.A.units + 64 < cLine) : CallRK X (.builtin "max") [Str.ofString "default"] (rMaxDef X.K) := by
  intro pins s σ H vs zs us ws Q I r rz h
  obtain ⟨a, ns, d, rfl, rfl, hs, q⟩ := h
  obtain rfl := Vals.ref1 r
  obtain ⟨w1, rfl, t, rfl⟩ := vals1 rz
  obtain ⟨its, rv, hl, hz⟩ := I.list hs
  obtain ⟨as, hr⟩ := DVs.reads I _ _ _ (DVs.intsT (K := X.K) (H := H) ns) rv
  refine PySem.W.max_list_default (as := as) (I.ok.hd hc) hl.isList hr (alike_allI ns) (by rw [PySem.W.depth_ints]; omega) (fun e h' tk hk => ?_) fun y ys i v h' tk bs e hv hrd hk => ?_
  · have e0 : ns = [] := List.map_eq_nil_iff.mp e
    subst e0
    exact ⟨.int d, H, I.kept hk, ⟨t, rfl⟩, q⟩
  · cases ns with
    | nil => cases e
    | cons n ns =>
      rw [List.map_cons] at e
      obtain ⟨rfl, rfl⟩ := List.cons.inj e
      rw [PySem.W.maxD_ints] at hrd
      cases hrd
      exact ⟨.int _, H, I.kept hk, ⟨_, rfl⟩, q⟩
end
/-! ### top_levels -/
def levS (pl wf : Int → Int) (acc : List (Int × Int)) (x : Int) : Int × Int := (pl x, wf x + maxI 0 ((acc.filter fun e => decide (e.1 < pl x)).map Prod.snd))
def levF (pl wf : Int → Int) (l : List Int) : List (Int × Int) := l.foldl (fun acc x => acc ++ [levS pl wf acc x]) []
theorem lev_snoc (pl wf : Int → Int) (l : List Int) (x : Int) : levF pl wf (l ++ [x]) = levF pl wf l ++ [levS pl wf (levF pl wf l) x] := by
  unfold levF
  rw [List.foldl_append]; rfl
def topI (pl wf : Int → Int) (l : List Int) (x : Int) : Int := (levS pl wf (levF pl wf (l.take (l.idxOf x))) x).2
theorem lev_len (pl wf : Int → Int) (l : List Int) : (levF pl wf l).length = l.length := by
  have : ∀ (l : List Int) (acc : List (Int × Int)), (l.foldl (fun acc x => acc ++ [levS pl wf acc x]) acc).length = acc.length + l.length := by
    intro l
    induction l with
    | nil => intro acc; rfl
    | cons x r ih => intro acc; rw [List.foldl_cons, ih, List.length_append, List.length_cons, List.length_cons, List.length_nil]; omega
  have := this l []
  rw [List.length_nil, Nat.zero_add] at this
  exact this
/-- pairs of numbers, in a list -/
def PairsI (H : Hp) (D : Addr) (es : List (Addr × Int × Int)) : Prop := H D = some (.lst (es.map fun e => .ref e.1)) ∧ ∀ e ∈ es, H e.1 = some (.tup [.int e.2.1, .int e.2.2])
theorem PairsI.same {H H' : Hp} {D : Addr} {es : List (Addr × Int × Int)} (h : PairsI H D es) (s : Same H H') : PairsI H' D es := ⟨s _ _ h.1, fun e he => s _ _ (h.2 e he)⟩
theorem PairsI.push {H : Hp} {D t : Addr} {es : List (Addr × Int × Int)} {a b : Int} (h : PairsI H D es) (ht : H t = some (.tup [.int a, .int b])) : PairsI (upd H D (.lst (es.map (fun e => V.ref e.1) ++ [.ref t]))) D (es ++ [(t, a, b)]) := by
  obtain ⟨h1, h2⟩ := h
  refine ⟨by rw [upd_same, List.map_append]; rfl, fun e he => ?_⟩
  rcases List.mem_append.mp he with q | q
  · have a1 := h2 e q
    rw [upd_ne (ne_of a1 h1 (fun z => by cases z))]; exact a1
  · rw [List.mem_singleton.mp q]
    rw [upd_ne (ne_of ht h1 (fun z => by cases z))]; exact ht
theorem PairsI.put {H : Hp} {D x : Addr} {u o : HO} {es : List (Addr × Int × Int)} (h : PairsI H D es) (hx : H x = some u) (n1 : ∀ xs, HO.lst xs ≠ u) (n2 : ∀ xs, HO.tup xs ≠ u) : PairsI (upd H x o) D es :=
  ⟨by rw [upd_ne (ne_of h.1 hx (n1 _))]; exact h.1, fun e he => by rw [upd_ne (ne_of (h.2 e he) hx (n2 _))]; exact h.2 e he⟩
structure TxtM (mg : Str → Option Value) : Prop where
  max : mg "max" = none
section
variable {P : Program} {w : World} {K : PySem.W.Frag} {mg : Str → Option Value} {base : Heap}
def spTops (K : PySem.W.Frag) : Sp := fun vs H Q _ => ∃ (b g wd : Addr) (bs ids : List Int) (ws : List (Int × Int)) (wf : Int → Int), vs = [.ref b, .ref g, .ref wd] ∧ SqL K H b (bs.map V.int) ∧ SqL K H g (ids.map V.int) ∧ H wd = some (.dK (pinK ws)) ∧ (∀ x ∈ ids, anOf ws x = some (wf x)) ∧ bs.Nodup ∧ bs.length ≤ 300 ∧ ids.Nodup ∧ ids.length ≤ 300 ∧ (∀ x ∈ ids, x ∈ bs) ∧
  ∀ (q : Addr) (H' : Hp), Same H H' → H q = none → H' q = some (.dK (pinK (tabP (topI (ixI bs) wf ids) ids))) → Q (.ref q) H'
abbrev NT : List Str := ["base", "goal", "worths", "places", "found", "levels", "row_id", "place", "level", "before", "other"]
theorem scTops : FnScope NT ["base", "goal", "worths"] (defScope sTops) := ⟨rfl, rfl, rfl, by decide +kernel, rfl, by decide +kernel, by decide +kernel⟩
theorem ok_tops {f fP : Addr} {fd fdP : FuncData} (F : Fun K "top_levels" "top_levels" sTops f fd) (T : TxtM mg) (GP : FnOk P w K mg base CX0 1 fP fdP ["order"] (spPlaces K)) (kP : PySem.W.keepIn K (.ref fP) = true) (bP : L2.Binds K fdP ["order"] []) (mP : mg "places_of" = some (.ref fP)) :
    FnOk P w K mg base CX0 2 f fd ["base", "goal", "worths"] (spTops K) := by
  refine F.ok scTops (fun vs H Q E h => ?_) (fun cdv A outer s H vs Q E hr h => ?_)
  · obtain ⟨b, g, wd, bs, ids, ws, wf, rfl, _⟩ := h
    rfl
  · obtain ⟨b, g, wd, bs, ids, ws, wf, rfl, hb, hg, hw, hwf, nb, lb, nd, hlen, hsub, k⟩ := h
    have hu := hu_of hr
    have h64 := hu64 hr
    refine ⟨_, pss_cons (ps_set (i := 3) scTops.nd rfl (Or.inl rfl) (pe_call GP hr rfl mP kP bP .nil pass0 (pa_cons (pv 0) pa_nil)))
      (pss_cons (ps_set (i := 4) scTops.nd rfl (Or.inl rfl) (pe_lst pa_nil))
      (pss_cons (ps_set (i := 5) scTops.nd rfl (Or.inl rfl) pe_dnewK)
      (pss_cons (ps_for PassesOwn.never rfl (pi_list (pv 1)) (pg_name (i := 6) scTops.nd rfl (Or.inl rfl))
        (pss_cons (ps_set (i := 7) scTops.nd rfl (Or.inr rfl) (pe_dget hu (pv 3) (pv 6) (fun _ _ => rfl)))
        (pss_cons (ps_set (i := 8) scTops.nd rfl (Or.inl rfl) (pe_op op_add (pe_dget hu (pv 2) (pv 6) (fun _ _ => rfl)) (pe_callBK (cr_maxDef rfl h64) (by rfl) T.max (by decide +kernel)
            (pa_cons (pe_lc (own := [("before", 9), ("other", 10)]) (g := gTup K 2 (gCons (gName 9) (gCons (gName 10) gNil))) rfl scTops.nd (pi_list (pv 4)) (blkOk_by (N := NT) (sc := defScope sTops) (by decide +kernel))
              (fun _ _ _ _ _ => pg_tup rfl (pgs_cons (pg_name (i := 9) scTops.nd rfl (Or.inl rfl)) (pgs_cons (pg_name (i := 10) scTops.nd rfl (Or.inl rfl)) pgs_nil))) (fun _ _ _ _ _ => pts_one (pt_cmpR op_lt (pv 9) (pv 7) (nomark _))) (fun _ _ _ _ _ => pv 10)) pa_nil) (pk_cons pe_int pk_nil))))
        (pss_cons (ps_expr (pe_bm PySem.F.plainAttrs_list PySem.F.slot_list_append PySem.F.type_list_append mt_append (pv 4) (pa_cons (pe_tup (pa_cons (pv 7) (pa_cons (pv 8) pa_nil))) pa_nil)))
        (pss_one (ps_dput hu (pv 5) (pv 6) (pv 8) rfl))))))
      (pss_one (ps_ret (pv 5)))))), ?_⟩
    have h16 : sizeLine = 16777216 := sizeLine_eq
    refine ⟨_, rfl, b, bs, rfl, hb, nb, lb, fun pd H1 s1 hpd hP => ?_⟩
    refine ⟨Nat.zero_le _, fun fo hfo => fun ld hld => ?_⟩
    have nfl : fo ≠ ld := ne_of_none upd_same hld
    have hld1 : H1 ld = none := Same.free (Same.new (o := .lst []) hfo) hld
    obtain ⟨pl, hpl⟩ : ∃ pl, pl = ixI bs := ⟨_, rfl⟩
    rw [← hpl] at hP k
    have sfo := Same.new (o := .lst []) hfo
    have sld := Same.new (o := .dK []) hld
    have s2 : Same H1 (upd (upd H1 fo (.lst [])) ld (.dK [])) := sfo.trans sld
    refine ⟨_, rfl, g, rfl, ⟨_, (s1.trans s2).seq hg⟩, for_list (K := K) (a := g) (xs := ids.map V.int) (fun i σ H' => ∃ (es : List (Addr × Int × Int)) (v6 v7 v8 : Option V), σ = [some (.ref b), some (.ref g), some (.ref wd), some (.ref pd), some (.ref fo), some (.ref ld), v6, v7, v8, none, none] ∧ Same H1 H' ∧ PairsI H' fo es ∧
        es.map (fun e => e.2) = levF pl wf (ids.take i) ∧ H' ld = some (.dK (pinK (tabP (topI pl wf ids) (ids.take i)))) ∧ i ≤ ids.length)
      ⟨[], none, none, none, rfl, s2, ⟨sld _ _ upd_same, fun e h => by cases h⟩, by rw [List.take_zero]; rfl, by rw [List.take_zero]; exact upd_same, Nat.zero_le _⟩ (fun i σ H' _ ⟨_, _, _, _, _, s, _⟩ => (s1.trans s).seq hg) ?_ ?_⟩
    · rintro i y σ H3 hi ⟨es, v6, v7, v8, rfl, s3, hE, he, hL, hil⟩
      obtain ⟨x, hx, rfl⟩ := int_at (i := i) (by assumption)
      have hxm := List.mem_of_getElem? hx
      have hil2 : i < ids.length := (List.getElem?_eq_some_iff.mp hx).1
      have s13 := s1.trans s3
      have dgp : DGet H3 pd (.int x) (some (.int (pl x))) := by
        have := DGet.k (k := (.inl x : Key)) (s3 _ _ hP)
        rw [val_pin, tab_an (hsub x hxm)] at this
        exact this
      have dgw : DGet H3 wd (.int x) (some (.int (wf x))) := by
        have := DGet.k (k := (.inl x : Key)) (s13 _ _ hw)
        rw [val_pin, hwf x hxm] at this
        exact this
      have hel : es.length ≤ 300 := by
        have := congrArg List.length he
        rw [List.length_map, lev_len, List.length_take] at this
        omega
      refine ⟨_, rfl, _, rfl, pd, _, rfl, dgp, ?_⟩
      refine ⟨_, rfl, _, rfl, wd, _, rfl, dgw, _, rfl, fo, rfl, ⟨_, SqL.of hE.1⟩, fun D hD => ?_⟩
      refine lc_list (K := K) (a := fo) (xs := es.map fun e => V.ref e.1) (fun j H' => Same H3 H' ∧ H' D = some (.lst (((((es.take j).map fun e => e.2).filter fun e => decide (e.1 < pl x)).map Prod.snd).map V.int))) ⟨Same.new hD, by rw [List.take_zero]; exact upd_same⟩ (fun j H' _ q => SqL.of (q.1 _ _ hE.1)) ?_ ?_
      · rintro j y H4 hj ⟨s4, hA⟩
        obtain ⟨e, hej, rfl⟩ : ∃ e, es[j]? = some e ∧ y = V.ref e.1 := by
          rw [List.getElem?_map] at hj
          cases q : es[j]? with
          | none => rw [q] at hj; cases hj
          | some c => rw [q] at hj; exact ⟨c, rfl, (Option.some.inj hj).symm⟩
        have ht := s4 _ _ (hE.2 e (List.mem_of_getElem? hej))
        have hfl : ((((es.take j).map fun e => e.2).filter fun e => decide (e.1 < pl x)).map Prod.snd).length ≤ 300 := by
          rw [List.length_map]
          have := List.length_filter_le (fun e : Int × Int => decide (e.1 < pl x)) ((es.take j).map fun e => e.2)
          rw [List.length_map, List.length_take] at this
          omega
        refine ⟨e.1, _, rfl, SqT.of ht, rfl, _, _, rfl, _, _, rfl, rfl, rfl, _, rfl, _, rfl, _, _, rfl, rfl, _, rfl, ite2 (fun c => ?_) (fun c => ?_)⟩
        · have c : e.2.1 < pl x := of_decide_eq_true c
          refine ⟨_, rfl, _, hA, by rw [List.length_map, h16]; omega, fun b u q => by rw [upd_ne (ne_of_none q hD)]; exact s4 _ _ q, ?_⟩
          rw [upd_same, take_snoc hej, List.map_append, List.filter_append, List.map_append, List.map_append]
          congr 3
          show _ = ((([e.2] : List (Int × Int)).filter fun e => decide (e.1 < pl x)).map Prod.snd).map V.int
          rw [List.filter_cons_of_pos (by exact decide_eq_true c)]; rfl
        · have c : ¬ e.2.1 < pl x := fun z => c (decide_eq_true z)
          refine ⟨s4, ?_⟩
          rw [hA, take_snoc hej, List.map_append, List.filter_append]
          have : ([e].map fun e => e.2).filter (fun e => decide (e.1 < pl x)) = [] := by
            show ([e.2] : List (Int × Int)).filter (fun e => decide (e.1 < pl x)) = []
            rw [List.filter_cons_of_neg (by rw [decide_eq_false c]; exact fun z => by cases z)]; rfl
          rw [this, List.append_nil]
      · rintro H4 ⟨s4, hA⟩
        rw [List.length_map, List.take_length, he] at hA
        refine ⟨D, _, 0, rfl, rfl, SqL.of hA, _, _, rfl, rfl, ?_⟩
        have hE4 := hE.same s4
        have hL4 := s4 _ _ hL
        refine ⟨_, rfl, .inl ⟨rfl, _, SqL.of hE4.1⟩, _, rfl, _, rfl, by rw [h16]; show 2 ≤ 16777216; decide, fun t ht => ?_⟩
        have st := Same.new (o := .tup [.int (pl x), .int (wf x + maxI 0 (((levF pl wf (ids.take i)).filter fun e => decide (e.1 < pl x)).map Prod.snd))]) ht
        have hE5 := hE4.same st
        refine ⟨fo, _, _, rfl, rfl, hE5.1, by rw [List.length_map, h16]; omega, ?_⟩
        have hE6 := hE5.push upd_same
        have hL6 := st _ _ hL4
        have s6 := (s3.trans s4).trans st
        have hL7 : (upd (upd H4 t (.tup [.int (pl x), .int (wf x + maxI 0 (((levF pl wf (ids.take i)).filter fun e => decide (e.1 < pl x)).map Prod.snd))])) fo (.lst (es.map (fun e => V.ref e.1) ++ [.ref t]))) ld = some (.dK (pinK (tabP (topI pl wf ids) (ids.take i)))) := by rw [upd_ne nfl.symm]; exact hL6
        refine ⟨_, rfl, _, rfl, _, rfl, ld, _, rfl, DPut.k (k := (.inl x : Key)) hL7 (by rw [pin_len, tab_len, List.length_take, h16]; omega), ?_⟩
        rw [pin_put (tab_new nd hx)]
        refine ⟨es ++ [(t, pl x, wf x + maxI 0 (((levF pl wf (ids.take i)).filter fun e => decide (e.1 < pl x)).map Prod.snd))], _, _, _, rfl, fun c u q => ?_, hE6.put hL7 (fun _ z => by cases z) (fun _ z => by cases z), ?_, ?_, hil2⟩
        · rw [upd_ne (ne_of_none q hld1), upd_ne (ne_of_none q hfo)]
          exact s6 _ _ q
        · rw [List.map_append, he, take_snoc hx, lev_snoc]; rfl
        · rw [upd_same, tab_snoc hx]
          have : topI pl wf ids x = wf x + maxI 0 (((levF pl wf (ids.take i)).filter fun e => decide (e.1 < pl x)).map Prod.snd) := by
            unfold topI levS
            rw [idx_of_at nd hx]
          rw [this]
    · rintro σ H3 ⟨es, v6, v7, v8, rfl, s3, hE, he, hL, _⟩
      rw [List.length_map, List.take_length] at hL
      exact ⟨_, rfl, k ld H3 (s1.trans s3) (Same.free s1 hld1) hL⟩
end
/-! ### max(d.values(), default=d) -/
def valsO (p d : Addr) : HO := .ext fun h => h.IsValuesView p d
def rValsK : V → List V → Hp → VK → Prop := fun x xs H Q => ∃ (a : Addr) (kvs : List (Key × V)), x = .ref a ∧ xs = [] ∧ H a = some (.dK kvs) ∧ ∀ p, H p = none → Q (.ref p) (upd H p (valsO p a))
def rMaxV : List V → List V → Hp → VK → Prop := fun vs zs H Q => ∃ (p a : Addr) (kvs : List (Key × V)) (ns : List Int) (d : Int), vs = [.ref p] ∧ zs = [.int d] ∧ H p = some (valsO p a) ∧ H a = some (.dK kvs) ∧ kvs.map Prod.snd = ns.map V.int ∧ Q (.int (maxI d ns)) H
section
variable {X : Cx}
theorem mt_valsK : MtR X "dict.values" rValsK := by
  intro pins s σ H x xs v us Q I rx rxs h
  obtain ⟨a, kvs, rfl, rfl, ha, q⟩ := h
  cases rx
  cases rxs
  obtain ⟨_, hsys, vs, rel, dof⟩ := dk_of I.hok ha
  obtain ⟨ep, dat⟩ := dof.dictAt
  obtain ⟨ob, es, ho, ex, hdat, hko, hpr, hnd⟩ := dat
  refine call_meetsIn F.slot_dict_values ⟨ob, ho, ex.1⟩ F.entry_dict_values (F.args_dict_values_1 _) (meets_dict_values (mixKind X.prog X.w) a hsys) ⟨⟨vs, dof⟩, ?_⟩
  exact ⟨.ref s.heap.objs.size, upd H s.heap.objs.size (valsO s.heap.objs.size a), I.laid (t' := s.toks) (fun b u e => Heap.get?_push_of_some _ e) (Nat.le_refl _) ⟨⟨_, Heap.get?_push_size _ rfl, rfl, rfl⟩, ⟨_, Heap.get?_push_size _ rfl⟩, fun h1 h2 x k => let ⟨o, ho, r⟩ := x; ⟨o, k o ho, r⟩⟩, rfl, q _ (I.hok.fresh (Nat.le_refl _))⟩
theorem fold_max (l : List Int) : ∀ (n : Int), (∀ m, m ∈ n :: l → m ≤ l.foldl max n) ∧ l.foldl max n ∈ n :: l := by
  induction l with
  | nil => intro n; exact ⟨fun m h => by rw [List.mem_singleton.mp h]; exact Int.le_refl _, List.mem_singleton.mpr rfl⟩
  | cons y r ih =>
    intro n
    obtain ⟨i1, i2⟩ := ih (max n y)
    rw [List.foldl_cons]
    refine ⟨fun m h => ?_, ?_⟩
    · have h0 := i1 (max n y) List.mem_cons_self
      rcases List.mem_cons.mp h with e | h
      · rw [e]; omega
      · rcases List.mem_cons.mp h with e | h
        · rw [e]; omega
        · exact i1 m (List.mem_cons_of_mem _ h)
    · rcases List.mem_cons.mp i2 with e | h
      · rw [e]
        rcases Int.le_total n y with q | q
        · rw [Int.max_eq_right q]; exact List.mem_cons_of_mem _ List.mem_cons_self
        · rw [Int.max_eq_left q]; exact List.mem_cons_self
      · exact List.mem_cons_of_mem _ (List.mem_cons_of_mem _ h)
theorem maxI_is {d M : Int} {ns : List Int} (h1 : M ∈ ns) (h2 : ∀ y ∈ ns, y ≤ M) : maxI d ns = M := by
  cases ns with
  | nil => cases h1
  | cons n r =>
    obtain ⟨i1, i2⟩ := fold_max r n
    exact Int.le_antisymm (h2 _ i2) (i1 _ h1)
theorem cr_maxVals (hc : X.calm = true) : CallRK X (.builtin "max") [Str.ofString "default"] rMaxV := by
  intro pins s σ H vs zs us ws Q I r rz h
  obtain ⟨p, a, kvs, is, d, rfl, rfl, hp, ha, hv, q⟩ := h
  obtain rfl := Vals.ref1 r
  obtain ⟨w1, rfl, t, rfl⟩ := vals1 rz
  obtain ⟨_, hsys, vs, rel, dof⟩ := dk_of I.hok ha
  obtain ⟨ep, dat⟩ := dof.dictAt
  obtain ⟨hview, _, _⟩ : ObjOk X.prog X.w H s.heap p (valsO p a) := I.hok p _ hp
  have hlt : a < s.heap.objs.size := by
    obtain ⟨ob, es, ho, _⟩ := id dat
    exact Heap.lt_size ho
  have hlv : vs.length = is.length := by
    have e1 := congrArg List.length hv
    rw [List.length_map, List.length_map] at e1
    rw [← e1]
    exact (KV.length rel).symm
  have hval : ∀ (i : Nat) (v : Value), (∃ k, vs[i]? = some (k, v)) → ∃ t, v = Value.int (is.getD i 0) t := fun i v ⟨k, hk⟩ => by
    obtain ⟨x, h1, h2⟩ := KV.at' rel hk
    have e1 : (kvs.map (·.2))[i]? = some x := by rw [List.getElem?_map, h1] <;> rfl
    have hv' : kvs.map (·.2) = is.map V.int := hv
    rw [hv', List.getElem?_map] at e1
    obtain ⟨j, hj, e2⟩ := Option.map_eq_some_iff.mp e1
    subst e2
    obtain ⟨t, e3⟩ := h2
    refine ⟨t, ?_⟩
    rw [e3, List.getD_eq_getElem?_getD, hj] <;> rfl
  refine PySem.call_max_walkD (wpAny_pyIter_values (v := p) (d := a) hview dat ?_)
  have old : ∀ {s' : Shared}, Moved [s.heap.objs.size] (fun a b => b = a) { s with heap := s.heap.push { cls := .type "dict_valueiterator", data := .fields #[.ref a, .int 0 0, .int vs.length 0, .int ep 0] } } s' → ∃ h' tk, s' = { s with heap := h', toks := tk } ∧ ∀ b o, s.heap.get? b = some o → h'.get? b = some o := fun {s'} m => PySem.W.moved_old rfl rfl m
  refine ⟨_, _, _, _, _, _, _, s.heap, _, rfl, (Walks.dictValues (knd := mixKind X.prog X.w) (A := X.A.in1) (I.ok.hd hc) s.heap.objs.size a (Nat.ne_of_lt hlt) vs ep).toS, ⟨⟨_, Heap.get?_push_size _ rfl, rfl, rfl⟩, dat.keep fun b u e => Heap.get?_push_of_some _ e⟩, fun b hb => ?_, fun b o e hb => ?_, fun b o e => Heap.get?_push_of_some _ e,
    fun hn s' m => ?_, fun hn => ⟨fun i j vi vj s Q E _ hi hj hq => CmpOf.ints_gt (fun i => is.getD i 0) hval i j vi vj s Q E hi hj hq, fun v s' hP m => ?_⟩⟩
  · show b < (s.heap.push _).objs.size
    rw [Heap.size_push]
    rcases List.mem_cons.mp hb with e | hb
    · rw [e]; exact Nat.lt_succ_self _
    · rw [List.mem_singleton.mp hb]; exact Nat.lt_succ_of_lt hlt
  · exact absurd (Heap.lt_size e) ((List.mem_singleton.mp hb) ▸ Nat.lt_irrefl _)
  · obtain ⟨h', tk, rfl, hk⟩ := old m
    have e0 : is = [] := List.eq_nil_of_length_eq_zero (by omega)
    subst e0
    exact ⟨.int d, H, I.kept (t' := tk) hk, ⟨t, rfl⟩, q⟩
  · obtain ⟨h', tk, rfl, hk⟩ := old m
    obtain ⟨t2, rfl⟩ := hval _ v hP
    obtain ⟨b1, b2⟩ := argBest_gt (fun i => is.getD i 0) (vs.length - 1)
    refine ⟨.int _, H, I.kept (t' := tk) hk, ⟨t2, rfl⟩, ?_⟩
    have e : maxI d is = is.getD (argBest (fun i j => decide (is.getD i 0 > is.getD j 0)) (vs.length - 1)) 0 := by
      refine maxI_is ?_ fun y hy => ?_
      · have hl : argBest (fun i j => decide (is.getD i 0 > is.getD j 0)) (vs.length - 1) < is.length := by omega
        rw [List.getD_eq_getElem?_getD, List.getElem?_eq_getElem hl]
        exact List.getElem_mem hl
      · obtain ⟨j, hj, rfl⟩ := List.getElem_of_mem hy
        have := b2 j (by omega)
        rw [List.getD_eq_getElem?_getD, List.getElem?_eq_getElem hj] at this
        exact this
    rw [e] at q
    exact q
end
section
variable {P : Program} {w : World} {K : PySem.W.Frag} {mg : Str → Option Value} {base : Heap} {x qual : Str} {params : Arguments} {body : List Stmt} {scope : Scope} {dvs : List V} {kws : List (Str × V)} {f : Addr} {fd : FuncData}
theorem FunD.ok0 {N ps : List Str} {k : Nat} {sp : Sp} (F : FunD K x qual params body scope dvs kws f fd) (S : FnScope N ps scope) (len : ∀ vs H Q E, sp vs H Q E → vs.length = ps.length)
    (hbody : ∀ (cdv : Value) (A : Around) (outer : List Env) (s : Shared) (H : Hp) (vs : List V) (Q : VK) (E : XK), Room k (A.deeper (envOfC qual scope s.heap.objs.size f cdv)) → sp vs H Q E →
      ∃ t, PSs (cxOf CX0 P w K mg base N qual scope f cdv A outer s H E).nox body t ∧ t { nx := fun _ H' => Q .non H', rt := Q } (start N vs) H) : FnOk P w K mg base CX0 (k + 1) f fd ps sp := by
  refine L2.FunD.ok F S len fun cdv A outer s H vs Q E hr hsp => ?_
  obtain ⟨t, h, q⟩ := hbody cdv A outer s H vs Q E hr hsp
  exact ⟨t, h.nox, q⟩
end
/-! ### best_straight -/
def bestS (f wf : Int → Int) (acc : List Int × Int) (x : Int) : List Int × Int := if f x = acc.2 then (acc.1 ++ [x], acc.2 - wf x) else acc
def bestG (f wf : Int → Int) (m0 : Int) (l : List Int) : List Int × Int := l.foldl (bestS f wf) ([], m0)
theorem best_snoc (f wf : Int → Int) (m0 : Int) (l : List Int) (x : Int) : bestG f wf m0 (l ++ [x]) = bestS f wf (bestG f wf m0 l) x := by
  unfold bestG
  rw [List.foldl_append]; rfl
theorem best_sub (f wf : Int → Int) (m0 : Int) : ∀ l : List Int, ∃ m, l.length = l.length ∧ bestG f wf m0 l = ((bestG f wf m0 l).1, m) := fun l => ⟨_, rfl, rfl⟩
theorem foldr_snoc {α : Type} {p : List α → Prop} (h0 : p []) (h1 : ∀ l x, p l → p (l ++ [x])) : ∀ l, p l := by
  intro l
  have : ∀ n (l : List α), l.length = n → p l := by
    intro n
    induction n with
    | zero => intro l hl; rw [List.eq_nil_of_length_eq_zero hl]; exact h0
    | succ n ih =>
      intro l hl
      rcases List.eq_nil_or_concat l with e | ⟨l0, x, e⟩
      · rw [e] at hl; cases hl
      · rw [e, List.concat_eq_append]
        refine h1 l0 x (ih l0 ?_)
        rw [e, List.concat_eq_append, List.length_append] at hl
        exact Nat.succ.inj hl
  exact this _ l rfl
theorem best_sublist (f wf : Int → Int) (m0 : Int) (l : List Int) : (bestG f wf m0 l).1.Sublist l := by
  refine foldr_snoc (p := fun l => (bestG f wf m0 l).1.Sublist l) (List.Sublist.refl _) (fun l x ih => ?_) l
  show (bestG f wf m0 (l ++ [x])).1.Sublist (l ++ [x])
  rw [best_snoc]
  unfold bestS
  split
  · exact List.Sublist.append ih (List.Sublist.refl _)
  · exact ih.trans (List.sublist_append_left _ _)
def tallF (bs ids : List Int) (wf : Int → Int) : Int → Int := topI (ixI bs.reverse) wf ids.reverse
def bestF (bs ids : List Int) (wf : Int → Int) : List Int := (bestG (tallF bs ids wf) wf (maxI 0 (ids.reverse.map (tallF bs ids wf))) ids).1
section
variable {P : Program} {w : World} {K : PySem.W.Frag} {mg : Str → Option Value} {base : Heap}
def spBest (K : PySem.W.Frag) : Sp := fun vs H Q _ => ∃ (b g fv : Addr) (v : V) (bs ids fav : List Int) (wo : Option (List (Int × Int))), vs = [.ref b, .ref g, v, .ref fv] ∧ SqL K H b (bs.map V.int) ∧ SqL K H g (ids.map V.int) ∧ WtAt H v wo ∧ (SqL K H fv (fav.map V.int) ∨ SqT K H fv (fav.map V.int)) ∧ fav.length ≤ 4000 ∧
  bs.Nodup ∧ bs.length ≤ 300 ∧ ids.Nodup ∧ ids.length ≤ 300 ∧ (∀ x ∈ ids, x ∈ bs) ∧ (∀ x ∈ ids, (wtI wo x).natAbs < 2 ^ 300) ∧
  ∀ (q : Addr) (H' : Hp), Same H H' → H q = none → H' q = some (.lst ((bestF bs ids (worthI wo ids.length fav)).map V.int)) → Q (.ref q) H'
abbrev NB : List Str := ["base", "goal", "weights", "favoured", "worths", "levels", "missing", "best", "row_id"]
theorem scBest : FnScope NB ["base", "goal", "weights", "favoured"] (defScope sBest) := ⟨rfl, rfl, rfl, by decide +kernel, rfl, by decide +kernel, by decide +kernel⟩
theorem ok_best {f fV fT : Addr} {fd fdV fdT : FuncData} {kws : List (Str × V)} (F : FunD K "best_straight" "best_straight" (defArgs sBest) (defBody sBest) (defScope sBest) [] kws f fd) (T : TxtM mg)
    (GV : FnOk P w K mg base CX0 2 fV fdV ["goal", "weights", "favoured"] (spFavs K)) (kV : PySem.W.keepIn K (.ref fV) = true) (bV : L2.Binds K fdV ["goal", "weights", "favoured"] []) (mV : mg "favoured_worths" = some (.ref fV))
    (GT : FnOk P w K mg base CX0 2 fT fdT ["base", "goal", "worths"] (spTops K)) (kT : PySem.W.keepIn K (.ref fT) = true) (bT : L2.Binds K fdT ["base", "goal", "worths"] []) (mT : mg "top_levels" = some (.ref fT)) :
    FnOk P w K mg base CX0 3 f fd ["base", "goal", "weights", "favoured"] (spBest K) := by
  refine FunD.ok0 F scBest (fun vs H Q E h => ?_) (fun cdv A outer s H vs Q E hr h => ?_)
  · obtain ⟨b, g, fv, v, bs, ids, fav, wo, rfl, _⟩ := h
    rfl
  · obtain ⟨b, g, fv, v, bs, ids, fav, wo, rfl, hb, hg, hw, hf, hfl, nb, lb, nd, hlen, hsub, hwb, k⟩ := h
    have hu := hu_of hr
    have h64 := hu64 hr
    refine ⟨_, pss_cons (ps_set (i := 4) scBest.nd rfl (Or.inl rfl) (pe_call GV hr rfl mV kV bV .nil pass0 (pa_cons (pv 1) (pa_cons (pv 2) (pa_cons (pv 3) pa_nil)))))
      (pss_cons (ps_set (i := 5) scBest.nd rfl (Or.inl rfl) (pe_call GT hr rfl mT kT bT .nil pass0 (pa_cons (pe_revL (pv 0)) (pa_cons (pe_revL (pv 1)) (pa_cons (pv 4) pa_nil)))))
      (pss_cons (ps_set (i := 6) scBest.nd rfl (Or.inl rfl) (pe_callBK (cr_maxVals rfl) (by rfl) T.max (by decide +kernel) (pa_cons (pe_bm0 PySem.F.plainAttrs_dict PySem.F.slot_dict_values PySem.F.type_dict_values mt_valsK (pv 5)) pa_nil) (pk_cons pe_int pk_nil)))
      (pss_cons (ps_set (i := 7) scBest.nd rfl (Or.inl rfl) (pe_lst pa_nil))
      (pss_cons (ps_for PassesOwn.never rfl (pi_list (pv 1)) (pg_name (i := 8) scBest.nd rfl (Or.inl rfl))
        (pss_one (ps_if (pt_cmpR op_eq (pe_dget hu (pv 5) (pv 8) (fun _ _ => rfl)) (pv 6) (nomark _))
          (pss_cons (ps_expr (pe_bm PySem.F.plainAttrs_list PySem.F.slot_list_append PySem.F.type_list_append mt_append (pv 7) (pa_cons (pv 8) pa_nil)))
          (pss_one (ps_set (i := 6) scBest.nd rfl (Or.inl rfl) (pe_op op_sub (pv 6) (pe_dget hu (pv 4) (pv 8) (fun _ _ => rfl)))))) pss_nil)))
      (pss_one (ps_ret (pv 7))))))), ?_⟩
    have h16 : sizeLine = 16777216 := sizeLine_eq
    refine ⟨_, rfl, _, rfl, _, rfl, g, fv, v, ids, fav, wo, rfl, hg, hw, hf, hfl, nd, hlen, hwb, fun d H1 s1 hd hD => ?_⟩
    obtain ⟨wf, hwf⟩ : ∃ wf, wf = worthI wo ids.length fav := ⟨_, rfl⟩
    rw [← hwf] at hD
    have hb1 := s1.seq hb
    have hg1 := s1.seq hg
    refine ⟨_, rfl, b, _, rfl, hb1, fun p hp => ?_⟩
    have sp := Same.new (o := .lst (bs.map V.int).reverse) hp
    have hP : upd H1 p (.lst (bs.map V.int).reverse) p = some (.lst (bs.map V.int).reverse) := upd_same
    generalize upd H1 p (.lst (bs.map V.int).reverse) = H2 at sp hP ⊢
    refine ⟨_, rfl, g, _, rfl, sp.seq hg1, fun r hr2 => ?_⟩
    have sr := Same.new (o := .lst (ids.map V.int).reverse) hr2
    have hR : upd H2 r (.lst (ids.map V.int).reverse) r = some (.lst (ids.map V.int).reverse) := upd_same
    generalize upd H2 r (.lst (ids.map V.int).reverse) = H3 at sr hR ⊢
    have hP3 := sr _ _ hP
    have hD3 := sr _ _ (sp _ _ hD)
    have s3 := s1.trans (sp.trans sr)
    rw [← List.map_reverse] at hP3 hR
    refine ⟨_, rfl, p, r, d, bs.reverse, ids.reverse, _, wf, rfl, SqL.of hP3, SqL.of hR, hD3, fun x hx => tab_an (List.mem_reverse.mp hx), ((List.reverse_perm bs).nodup_iff).mpr nb, by rw [List.length_reverse]; exact lb, ((List.reverse_perm ids).nodup_iff).mpr nd, by rw [List.length_reverse]; exact hlen, fun x hx => List.mem_reverse.mpr (hsub x (List.mem_reverse.mp hx)), fun lv H4 s4 hlv hL => ?_⟩
    have ht : topI (ixI bs.reverse) wf ids.reverse = tallF bs ids wf := rfl
    rw [ht] at hL
    obtain ⟨tf, htf⟩ : ∃ tf, tf = tallF bs ids wf := ⟨_, rfl⟩
    rw [← htf] at hL
    have s14 := s3.trans s4
    have hD4 := s4 _ _ hD3
    refine ⟨_, rfl, .inr (.inr (.inl ⟨rfl, .inl ⟨_, hL⟩⟩)), lv, _, rfl, rfl, hL, fun vp hvp => ?_⟩
    have sv := Same.new (o := valsO vp lv) hvp
    have hV : upd H4 vp (valsO vp lv) vp = some (valsO vp lv) := upd_same
    generalize upd H4 vp (valsO vp lv) = H5 at sv hV ⊢
    have hL5 := sv _ _ hL
    have hD5 := sv _ _ hD4
    refine ⟨vp, lv, _, ids.reverse.map tf, 0, rfl, rfl, hV, hL5, by unfold pinK tabP; rw [List.map_map, List.map_map, List.map_map]; rfl, ?_⟩
    refine ⟨Nat.zero_le _, fun B hB => ?_⟩
    have sB := Same.new (o := .lst []) hB
    have hBn : H1 B = none := Same.free (sp.trans (sr.trans (s4.trans sv))) hB
    have s5 := s14.trans sv
    refine ⟨_, rfl, g, rfl, ⟨_, (s5.trans sB).seq hg⟩, for_list (K := K) (a := g) (xs := ids.map V.int) (fun i σ H' => ∃ (v8 : Option V), σ = [some (.ref b), some (.ref g), some v, some (.ref fv), some (.ref d), some (.ref lv), some (.int (bestG tf wf (maxI 0 (ids.reverse.map tf)) (ids.take i)).2), some (.ref B), v8] ∧ Same H5 H' ∧ H' B = some (.lst ((bestG tf wf (maxI 0 (ids.reverse.map tf)) (ids.take i)).1.map V.int)) ∧ i ≤ ids.length)
      ⟨none, by rw [List.take_zero]; rfl, sB, by rw [List.take_zero]; exact upd_same, Nat.zero_le _⟩ (fun i σ H' _ ⟨_, _, s, _⟩ => (s5.trans s).seq hg) ?_ ?_⟩
    · rintro i y σ H6 hi ⟨v8, rfl, s6, hA, hil⟩
      obtain ⟨x, hx, rfl⟩ := int_at (i := i) (by assumption)
      have hxm := List.mem_of_getElem? hx
      have hil2 : i < ids.length := (List.getElem?_eq_some_iff.mp hx).1
      obtain ⟨acc, hacc⟩ : ∃ acc, acc = bestG tf wf (maxI 0 (ids.reverse.map tf)) (ids.take i) := ⟨_, rfl⟩
      have hns : bestG tf wf (maxI 0 (ids.reverse.map tf)) (ids.take (i + 1)) = bestS tf wf acc x := by rw [take_snoc hx, best_snoc, hacc]
      have hal : acc.1.length ≤ 300 := by
        have := (best_sublist tf wf (maxI 0 (ids.reverse.map tf)) (ids.take i)).length_le
        rw [← hacc, List.length_take] at this
        omega
      rw [← hacc] at hA
      rw [hns, ← hacc]
      have dgl : DGet H6 lv (.int x) (some (.int (tf x))) := by
        have := DGet.k (k := (.inl x : Key)) (s6 _ _ hL5)
        rw [val_pin, tab_an (List.mem_reverse.mpr hxm)] at this
        exact this
      have dgw : DGet H6 d (.int x) (some (.int (wf x))) := by
        have := DGet.k (k := (.inl x : Key)) (s6 _ _ hD5)
        rw [val_pin, tab_an hxm] at this
        exact this
      refine ⟨_, rfl, _, rfl, lv, _, rfl, dgl, _, rfl, ?_⟩
      refine ⟨rfl, _, rfl, ite2 (fun c => ?_) (fun c => ?_)⟩
      · have c : tf x = acc.2 := V.int.inj (of_decide_eq_true c)
        have hst : bestS tf wf acc x = (acc.1 ++ [x], acc.2 - wf x) := if_pos c
        rw [hst]
        refine ⟨_, rfl, .inl ⟨rfl, _, SqL.of hA⟩, _, rfl, B, _, _, rfl, rfl, hA, by rw [List.length_map, h16]; omega, ?_⟩
        have hBd : d ≠ B := ne_of (s6 _ _ hD5) hA (fun z => by cases z)
        have dgw2 : DGet (upd H6 B (.lst (acc.1.map V.int ++ [.int x]))) d (.int x) (some (.int (wf x))) := by
          have := DGet.k (k := (.inl x : Key)) (show upd H6 B (.lst (acc.1.map V.int ++ [.int x])) d = some (.dK (pinK (tabP wf ids))) by rw [upd_ne hBd]; exact s6 _ _ hD5)
          rw [val_pin, tab_an hxm] at this
          exact this
        refine ⟨_, rfl, _, rfl, _, rfl, d, _, rfl, dgw2, _, _, rfl, rfl, ?_⟩
        refine ⟨_, rfl, fun q u e => ?_, ?_, hil2⟩
        · rw [upd_ne (ne_of_none e hB)]; exact s6 _ _ e
        · rw [upd_same, List.map_append]; rfl
      · have c : ¬ tf x = acc.2 := fun z => c (decide_eq_true (by rw [z]))
        have hst : bestS tf wf acc x = acc := if_neg c
        rw [hst]
        exact ⟨_, rfl, s6, hA, hil2⟩
    · rintro σ H6 ⟨v8, rfl, s6, hA, _⟩
      rw [List.length_map, List.take_length] at hA
      rw [List.length_map, List.take_length]
      exact ⟨_, rfl, k B H6 (s5.trans s6) (Same.free s1 hBn) (by rw [hA, htf, hwf]; rfl)⟩
end
def sumW (wo : Option (List (Int × Int))) (ids : List Int) : Int := (ids.map (wtI wo)).sum
open Sem (wp)
/-! ### code that doesn't wake the generators that sleep: they stay as they are -/
def asleep : GenState → Bool
  | .suspended .. => true
  | _ => false
/-- the same line, but nothing goes on from it -/
def deadF (F : Frame) : Frame := .ret (fun _ => .unsupported "") none false [] F.where_.1 F.where_.2 []
def dead : GenState → GenState
  | .suspended _ _ c p fs _ => .suspended (fun _ => .unsupported "") [] c p (fs.map deadF) false
  | x => x
theorem dead_seen (x : GenState) : (dead x).seen = x.seen := by
  cases x with
  | suspended k l c p fs cl =>
    show (GenStatus.suspended, some ((c, p) :: (fs.map deadF).map Frame.where_)) = (GenStatus.suspended, some ((c, p) :: fs.map Frame.where_))
    rw [List.map_map]
    congr 3
  | fresh c => rfl
  | running => rfl
  | finished => rfl
/-- no generator's frame among them -/
def NoG (fs : List Frame) : Prop := ∀ F ∈ fs, ∃ k h g l c p kp, F = .ret k h g l c p kp
def NoGS : GenState → Prop
  | .suspended _ _ _ _ fs _ => NoG fs
  | _ => True
def NoGE : End → Prop
  | .susp _ _ _ _ _ _ fs => NoG fs
  | _ => True
theorem NoG.nil : NoG [] := fun _ h => by cases h
theorem NoG.cons {k h g l c p kp fs} (q : NoG fs) : NoG (.ret k h g l c p kp :: fs) := fun F hF => by
  rcases List.mem_cons.mp hF with e | e
  · exact ⟨_, _, _, _, _, _, _, e⟩
  · exact q F e
theorem NoG.tail {F : Frame} {fs} (q : NoG (F :: fs)) : NoG fs := fun F' h => q F' (List.mem_cons_of_mem _ h)
theorem NoG.append {fs gs} (a : NoG fs) (b : NoG gs) : NoG (fs ++ gs) := fun F h => (List.mem_append.mp h).elim (a F) (b F)
theorem NoG.split : ∀ {fs : List Frame}, NoG fs → splitAtGen fs = none
  | [], _ => rfl
  | F :: fs, q => by
    obtain ⟨k, h, g, l, c, p, kp, rfl⟩ := q _ List.mem_cons_self
    show (splitAtGen fs).map _ = none
    rw [NoG.split q.tail]; rfl
def pick (G : Array GenState) (i : Nat) (x : GenState) : GenState :=
  match G[i]? with
  | some y => if asleep y = true then y else x
  | none => x
def back (G : Array GenState) (s : Shared) : Shared := { s with gens := s.gens.mapIdx (pick G) }
structure Put (G : Array GenState) (s : Shared) : Prop where
  sz : G.size ≤ s.gens.size
  at_ : ∀ (i : Nat) (y : GenState), G[i]? = some y → asleep y = true → s.gens[i]? = some (dead y)
  no : ∀ (i : Nat) (x : GenState), s.gens[i]? = some x → NoGS x
section
variable {M : Model} {G : Array GenState} {s : Shared}
theorem back_size : (back G s).gens.size = s.gens.size := by
  show (s.gens.mapIdx (pick G)).size = _
  rw [Array.size_mapIdx]
theorem back_get (i : Nat) : (back G s).gens[i]? = s.gens[i]?.map (pick G i) := by
  show (s.gens.mapIdx (pick G))[i]? = _
  rw [Array.getElem?_mapIdx]
theorem pick_off {i : Nat} {x : GenState} (h : ∀ y, G[i]? = some y → asleep y = false) : pick G i x = x := by
  unfold pick
  split
  · rename_i y e
    rw [h y e, if_neg Bool.false_ne_true]
  · rfl
theorem pick_seen {i : Nat} {x : GenState} (h : Put G s) (e : s.gens[i]? = some x) : (pick G i x).seen = x.seen := by
  unfold pick
  split
  · rename_i y ey
    cases a : asleep y with
    | false => rw [if_neg Bool.false_ne_true]
    | true =>
      rw [if_pos rfl]
      have q := h.at_ i y ey a
      rw [e] at q
      rw [Option.some.inj q, dead_seen]
  · rfl
theorem shared_ext {a b : Shared} (h1 : a.heap = b.heap) (h2 : a.gens = b.gens) (h3 : a.drawn = b.drawn) (h4 : a.toks = b.toks) (h5 : a.os = b.os) : a = b := by
  cases a; cases b; cases h1; cases h2; cases h3; cases h4; cases h5; rfl
theorem back_set {g : Nat} {x : GenState} (h : ∀ y, G[g]? = some y → asleep y = false) : back G (s.setGen g x) = (back G s).setGen g x := by
  refine shared_ext rfl ?_ rfl rfl rfl
  refine Array.ext_getElem? fun i => ?_
  rw [back_get]
  show ((s.gens.setIfInBounds g x)[i]?).map (pick G i) = ((back G s).gens.setIfInBounds g x)[i]?
  by_cases e : g = i
  · subst e
    by_cases hl : g < s.gens.size
    · rw [Array.getElem?_setIfInBounds_self_of_lt hl, Array.getElem?_setIfInBounds_self_of_lt (by rw [back_size]; exact hl)]
      show some (pick G g x) = some x
      rw [pick_off h]
    · rw [Array.getElem?_eq_none (by rw [Array.size_setIfInBounds]; omega), Array.getElem?_eq_none (by rw [Array.size_setIfInBounds, back_size]; omega)]
      rfl
  · rw [Array.getElem?_setIfInBounds_ne e, Array.getElem?_setIfInBounds_ne e, back_get]
theorem back_push {x : GenState} (h : G.size ≤ s.gens.size) : back G { s with gens := s.gens.push x } = { back G s with gens := (back G s).gens.push x } := by
  refine shared_ext rfl ?_ rfl rfl rfl
  refine Array.ext_getElem? fun i => ?_
  rw [back_get]
  show ((s.gens.push x)[i]?).map (pick G i) = ((back G s).gens.push x)[i]?
  rw [Array.getElem?_push, Array.getElem?_push, back_size, back_get]
  by_cases e : i = s.gens.size
  · rw [if_pos e, if_pos e]
    show some (pick G i x) = some x
    rw [pick_off fun y hy => by
      rw [Array.getElem?_eq_none (by omega)] at hy
      cases hy]
  · rw [if_neg e, if_neg e]
theorem Put.set {g : Nat} {x : GenState} (P : Put G s) (h : ∀ y, G[g]? = some y → asleep y = false) (hx : NoGS x) : Put G (s.setGen g x) where
  sz := by
    show _ ≤ (s.gens.setIfInBounds g x).size
    rw [Array.size_setIfInBounds]; exact P.sz
  at_ := fun i y e a => by
    show (s.gens.setIfInBounds g x)[i]? = _
    have ne : g ≠ i := fun z => by
      subst z
      rw [h y e] at a; cases a
    rw [Array.getElem?_setIfInBounds_ne ne]
    exact P.at_ i y e a
  no := fun i z e => by
    have e : (s.gens.setIfInBounds g x)[i]? = some z := e
    by_cases q : g = i
    · subst q
      by_cases hl : g < s.gens.size
      · rw [Array.getElem?_setIfInBounds_self_of_lt hl] at e
        rw [← Option.some.inj e]; exact hx
      · rw [Array.getElem?_eq_none (by rw [Array.size_setIfInBounds]; omega)] at e
        cases e
    · rw [Array.getElem?_setIfInBounds_ne q] at e
      exact P.no i z e
theorem Put.push {x : GenState} (P : Put G s) (hx : NoGS x) : Put G { s with gens := s.gens.push x } where
  sz := by
    show _ ≤ (s.gens.push x).size
    rw [Array.size_push]; have := P.sz; omega
  at_ := fun i y e a => by
    show (s.gens.push x)[i]? = _
    have q := P.at_ i y e a
    have hl : i < s.gens.size := (Array.getElem?_eq_some_iff.mp q).1
    rw [Array.getElem?_push, if_neg (by omega)]
    exact q
  no := fun i z e => by
    have e : (s.gens.push x)[i]? = some z := e
    rw [Array.getElem?_push] at e
    split at e
    · rw [← Option.some.inj e]; exact hx
    · exact P.no i z e
theorem Put.heap {h : Heap} {t : Nat} {d : Drawn} {o : OsState} (P : Put G s) : Put G { s with heap := h, toks := t, drawn := d, os := o } := ⟨P.sz, P.at_, P.no⟩
theorem no_unsup {Γ : PySem.Ctx} {p : Pos} {m : String} {fs : List Frame} {s s' : Shared} {e : End} : ¬ Runs M Γ p (.unsupported m) fs s e s' := by
  intro h
  generalize ht : (Sem.unsupported m : Sem PySem.Fin) = t at h
  induction h with
  | segRet _ _ ih _ => exact ih ht
  | segGen _ _ ih _ => exact ih ht
  | segSuspOut _ _ ih => exact ih ht
  | segSuspGen _ _ _ _ ih _ => exact ih ht
  | _ => cases ht
theorem off_of {g : Nat} {x : GenState} (P : Put G s) (e : s.gens[g]? = some x) (n : ∀ k l c p fs cl, x = .suspended k l c p fs cl → ∃ r, k r ≠ .unsupported "") : ∀ y, G[g]? = some y → asleep y = false := fun y hy => by
  cases a : asleep y with
  | false => rfl
  | true =>
    have q := P.at_ g y hy a
    rw [e] at q
    cases y with
    | suspended k l c p fs cl =>
      obtain ⟨r, hr⟩ := n _ _ _ _ _ _ (Option.some.inj q)
      exact absurd rfl hr
    | fresh c => cases a
    | running => cases a
    | finished => cases a
theorem back_some {g : Nat} {x : GenState} (e : s.gens[g]? = some x) (h : ∀ y, G[g]? = some y → asleep y = false) : (back G s).gens[g]? = some x := by
  rw [back_get, e]
  show some (pick G g x) = _
  rw [pick_off h]
theorem noGE_state {e : End} (h : NoGE e) : NoGS e.genState := by
  cases e with
  | ret r => exact True.intro
  | susp v g l k c p fs => exact h
theorem runs_back {Γ : PySem.Ctx} {p : Pos} {t : Sem PySem.Fin} {fs : List Frame} {s s' : Shared} {e : End} (h : Runs M Γ p t fs s e s') : NoG fs → Put G s → Runs M Γ p t fs (back G s) e (back G s') ∧ Put G s' ∧ NoGE e := by
  induction h with
  | done => exact fun _ P => ⟨.done, P, True.intro⟩
  | raise => exact fun _ P => ⟨.raise, P, True.intro⟩
  | again hq _ ih => exact fun n P => let ⟨a, b⟩ := ih .nil P; ⟨.again hq a, b⟩
  | rule _ ih => exact fun n P => let ⟨a, b⟩ := ih .nil P; ⟨.rule a, b⟩
  | «at» _ ih => exact fun n P => let ⟨a, b⟩ := ih .nil P; ⟨.at a, b⟩
  | load ho _ ih => exact fun n P => let ⟨a, b⟩ := ih .nil P; ⟨.load ho a, b⟩
  | update ho _ ih => exact fun n P => let ⟨a, b⟩ := ih .nil P.heap; ⟨.update ho a, b⟩
  | loadIfAlive _ ih => exact fun n P => let ⟨a, b⟩ := ih .nil P; ⟨.loadIfAlive a, b⟩
  | point _ ih => exact fun n P => let ⟨a, b⟩ := ih .nil P; ⟨.point a, b⟩
  | alloc _ ih => exact fun n P => let ⟨a, b⟩ := ih .nil P.heap; ⟨.alloc a, b⟩
  | fresh _ ih => exact fun n P => let ⟨a, b⟩ := ih .nil P.heap; ⟨.fresh a, b⟩
  | ask _ ih => exact fun n P => let ⟨a, b⟩ := ih .nil P; ⟨.ask a, b⟩
  | choose hn _ ih => exact fun n P => let ⟨a, b⟩ := ih .nil P.heap; ⟨.choose hn a, b⟩
  | os _ ih => exact fun n P => let ⟨a, b⟩ := ih .nil P.heap; ⟨.os a, b⟩
  | handled _ ih => exact fun n P => let ⟨a, b⟩ := ih .nil P; ⟨.handled a, b⟩
  | genState hg _ ih =>
    refine fun n P => let ⟨a, b⟩ := ih .nil P; ⟨.genState (st := pick G _ _) (by rw [back_get, hg]; rfl) ?_, b⟩
    rw [pick_seen P hg]; exact a
  | stack _ ih => exact fun n P => let ⟨a, b⟩ := ih .nil P; ⟨.stack a, b⟩
  | thread _ ih => exact fun n P => let ⟨a, b⟩ := ih .nil P; ⟨.thread a, b⟩
  | newGen _ ih =>
    refine fun n P => let ⟨a, b⟩ := ih .nil (P.push True.intro); ⟨.newGen ?_, b⟩
    rw [back_push P.sz] at a
    rw [back_size]; exact a
  | call _ _ ih1 ih2 =>
    refine fun n P => ?_
    obtain ⟨a1, b1, _⟩ := ih1 .nil P
    obtain ⟨a2, b2⟩ := ih2 .nil b1
    exact ⟨.call a1 a2, b2⟩
  | callSusp _ ih =>
    refine fun n P => ?_
    obtain ⟨a1, b1, c1⟩ := ih .nil P
    exact ⟨.callSusp a1, b1, NoG.append c1 (.cons .nil)⟩
  | yield => exact fun _ P => ⟨.yield, P, NoG.nil⟩
  | resumeFresh hg _ hq _ ih1 ih2 =>
    refine fun n P => ?_
    have off := off_of P hg fun _ _ _ _ _ _ z => by cases z
    obtain ⟨a1, b1, c1⟩ := ih1 .nil (P.set off True.intro)
    obtain ⟨a2, b2⟩ := ih2 .nil (b1.set off (noGE_state c1))
    rw [back_set off] at a1 a2
    exact ⟨.resumeFresh (back_some hg off) a1 hq a2, b2⟩
  | resumeSuspended hg h1 hq _ ih1 ih2 =>
    refine fun n P => ?_
    have off := off_of P hg fun _ _ _ _ _ _ z => by
      cases z
      exact ⟨_, fun q => by rw [q] at h1; exact no_unsup h1⟩
    obtain ⟨a1, b1, c1⟩ := ih1 (P.no _ _ hg) (P.set off True.intro)
    obtain ⟨a2, b2⟩ := ih2 .nil (b1.set off (noGE_state c1))
    rw [back_set off] at a1 a2
    exact ⟨.resumeSuspended (back_some hg off) a1 hq a2, b2⟩
  | resumeJustStarted hg hv _ ih =>
    refine fun n P => let ⟨a, b⟩ := ih .nil P; ⟨.resumeJustStarted (back_some hg (off_of P hg fun _ _ _ _ _ _ z => by cases z)) hv a, b⟩
  | resumeThrowFresh hg _ ih =>
    refine fun n P => ?_
    have off := off_of P hg fun _ _ _ _ _ _ z => by cases z
    obtain ⟨a, b⟩ := ih .nil (P.set off True.intro)
    rw [back_set off] at a
    exact ⟨.resumeThrowFresh (back_some hg off) a, b⟩
  | resumeRunning hg _ ih => exact fun n P => let ⟨a, b⟩ := ih .nil P; ⟨.resumeRunning (back_some hg (off_of P hg fun _ _ _ _ _ _ z => by cases z)) a, b⟩
  | resumeFinished hg _ ih => exact fun n P => let ⟨a, b⟩ := ih .nil P; ⟨.resumeFinished (back_some hg (off_of P hg fun _ _ _ _ _ _ z => by cases z)) a, b⟩
  | segRet _ _ ih1 ih2 =>
    refine fun n P => ?_
    obtain ⟨a1, b1, _⟩ := ih1 .nil P
    obtain ⟨a2, b2⟩ := ih2 n.tail b1
    exact ⟨.segRet a1 a2, b2⟩
  | segGen _ _ ih1 ih2 =>
    refine fun n P => ?_
    obtain ⟨k, h, g, l, c, p, kp, z⟩ := n _ List.mem_cons_self
    cases z
  | segSuspOut hs _ ih =>
    refine fun n P => ?_
    obtain ⟨a1, b1, c1⟩ := ih .nil P
    exact ⟨.segSuspOut hs a1, b1, NoG.append c1 n⟩
  | segSuspGen hs _ _ _ _ _ =>
    refine fun n P => ?_
    rw [n.split] at hs
    cases hs

theorem wp_back {α : Type} {Γ : PySem.Ctx} (t : Sem α) : ∀ (Q : α → Pos → Shared → Prop) (E : Value → Pos → Shared → Prop) (p : Pos) (s : Shared), Put G s → wp M Γ t Q E p s →
    wp M Γ t (fun a p' s' => ∃ s1, Put G s1 ∧ s' = back G s1 ∧ Q a p' s1) (fun e p' s' => ∃ s1, Put G s1 ∧ s' = back G s1 ∧ E e p' s1) p (back G s) := by
  induction t with
  | pure a => exact fun Q E p s P h => ⟨s, P, rfl, h⟩
  | raise e => exact fun Q E p s P h => ⟨s, P, rfl, h⟩
  | unsupported _ => exact fun Q E p s _ h => h
  | finish _ => exact fun Q E p s _ h => h
  | rule _ k ih => exact fun Q E p s P h => ih () Q E p s P h
  | «at» p' k ih => exact fun Q E p s P h => ih () Q E p' s P h
  | load a _ k ih => exact fun Q E p s P ⟨o, ho, h⟩ => ⟨o, ho, ih o Q E p s P h⟩
  | update a _ f k ih => exact fun Q E p s P h => ⟨h.1, ih () Q E p _ P.heap h.2⟩
  | loadIfAlive a k ih => exact fun Q E p s P h => ih _ Q E p s P h
  | point _ k ih => exact fun Q E p s P h => ih () Q E p s P h
  | register _ _ => exact fun Q E p s _ h => h
  | alloc o k ih => exact fun Q E p s P h => ih _ Q E p _ P.heap h
  | fresh k ih => exact fun Q E p s P h => ih _ Q E p _ P.heap h
  | ask k ih => exact fun Q E p s P h => ih _ Q E p s P h
  | choose src m k ih => exact fun Q E p s P h => ⟨h.1, ih _ Q E p _ P.heap h.2⟩
  | os q _ k ih => exact fun Q E p s P h => ih _ Q E p _ P.heap h
  | call c hd _ _ k ih =>
    rintro Q E p s P ⟨r, s', hr, h⟩
    obtain ⟨a, b, _⟩ := runs_back (show Runs M _ _ _ _ _ _ _ from hr) .nil P
    exact ⟨r, _, a, ih r Q E p s' b h⟩
  | handled own k ih => exact fun Q E p s P h => ih _ Q E p s P h
  | genState g k ih =>
    rintro Q E p s P ⟨st, hs, h⟩
    refine ⟨pick G g st, by rw [back_get, hs]; rfl, ?_⟩
    rw [pick_seen P hs]
    exact ih _ Q E p s P h
  | newGen c k ih =>
    intro Q E p s P h
    have q := ih _ Q E p _ (P.push (x := .fresh c) True.intro) h
    rw [back_push P.sz] at q
    show wp M Γ (k (back G s).gens.size) _ _ p { back G s with gens := (back G s).gens.push (.fresh c) }
    rw [back_size]
    exact q
  | resume g r l k ih =>
    rintro Q E p s P ⟨res, s', hw, h⟩
    cases e : s.gens[g]? with
    | none =>
      unfold Wakes at hw
      rw [e] at hw
      exact hw.elim
    | some x =>
      have go : (∀ y, G[g]? = some y → asleep y = false) → Wakes M Γ p g r (back G s) res (back G s') ∧ Put G s' := by
        intro off
        unfold Wakes at hw ⊢
        rw [back_some e off]
        rw [e] at hw
        cases x with
        | fresh c =>
          cases r with
          | send v =>
            cases v
            case none =>
              obtain ⟨e1, s1, hr, hq, hres, hs⟩ := hw
              obtain ⟨a1, b1, c1⟩ := runs_back hr .nil (P.set off True.intro)
              rw [back_set off] at a1
              subst hs
              exact ⟨⟨e1, _, a1, hq, hres, by rw [back_set off]⟩, b1.set off (noGE_state c1)⟩
            all_goals (obtain ⟨h1, h2⟩ := hw; subst h2; exact ⟨⟨h1, rfl⟩, P⟩)
          | throw v =>
            obtain ⟨h1, h2⟩ := hw
            subst h2
            exact ⟨⟨h1, by rw [back_set off]⟩, P.set off True.intro⟩
        | suspended k₀ l₀ c₀ p₀ fs cl =>
          obtain ⟨e1, s1, hr, hq, hres, hs⟩ := hw
          obtain ⟨a1, b1, c1⟩ := runs_back hr (P.no _ _ e) (P.set off True.intro)
          rw [back_set off] at a1
          subst hs
          exact ⟨⟨e1, _, a1, hq, hres, by rw [back_set off]⟩, b1.set off (noGE_state c1)⟩
        | running => obtain ⟨h1, h2⟩ := hw; subst h2; exact ⟨⟨h1, rfl⟩, P⟩
        | finished => obtain ⟨h1, h2⟩ := hw; subst h2; exact ⟨⟨h1, rfl⟩, P⟩
      have off := off_of P e fun k₀ l₀ c₀ p₀ fs cl z => by
        subst z
        unfold Wakes at hw
        rw [e] at hw
        obtain ⟨e1, s1, hr, _⟩ := hw
        exact ⟨r, fun q => by rw [q] at hr; exact no_unsup hr⟩
      obtain ⟨a, b⟩ := go off
      exact ⟨res, _, a, ih res Q E p s' b h⟩
  | yield _ _ _ _ => exact fun Q E p s _ h => h
  | stack k ih => exact fun Q E p s P h => ih _ Q E p s P h
  | fork _ _ => exact fun Q E p s _ h => h
  | thread k ih => exact fun Q E p s P h => ih _ Q E p s P h
  | await _ _ _ _ _ => exact fun Q E p s _ h => h
/-- all that sleeps can't be woken -/
def kill (s : Shared) : Shared := { s with gens := s.gens.map dead }
theorem put_kill (s : Shared) : Put s.gens (kill s) where
  sz := by
    show _ ≤ (s.gens.map dead).size
    rw [Array.size_map]; exact Nat.le_refl _
  at_ := fun i y e _ => by
    show (s.gens.map dead)[i]? = _
    rw [Array.getElem?_map, e]; rfl
  no := fun i x e => by
    have e : (s.gens.map dead)[i]? = some x := e
    rw [Array.getElem?_map] at e
    cases q : s.gens[i]? with
    | none => rw [q] at e; cases e
    | some y =>
      rw [q] at e
      have e := Option.some.inj e
      subst e
      cases y with
      | suspended k l c p fs cl =>
        intro F hF
        obtain ⟨F', _, e'⟩ := List.mem_map.mp hF
        exact ⟨_, _, _, _, _, _, _, e'.symm⟩
      | fresh c => exact True.intro
      | running => exact True.intro
      | finished => exact True.intro
theorem back_kill (s : Shared) : back s.gens (kill s) = s := by
  refine shared_ext rfl ?_ rfl rfl rfl
  refine Array.ext_getElem? fun i => ?_
  rw [back_get]
  show ((s.gens.map dead)[i]?).map _ = _
  rw [Array.getElem?_map]
  cases e : s.gens[i]? with
  | none => rfl
  | some x =>
    show some (pick s.gens i (dead x)) = some x
    unfold pick
    rw [e]
    dsimp only
    cases a : asleep x with
    | true => rw [if_pos rfl]
    | false =>
      rw [if_neg Bool.false_ne_true]
      cases x with
      | suspended k l c p fs cl => cases a
      | fresh c => rfl
      | running => rfl
      | finished => rfl
/-- what is shown of a state in which nothing that sleeps can be woken: all that sleeps stays as it is -/
theorem wpAny_still {α : Type} {A : Around} {t : Sem α} {Q : α → Shared → Prop} {E : Value → Shared → Prop} {s : Shared} (h : wpAny M A t Q E (kill s)) :
    wpAny M A t (fun a s' => ∃ s1, Put s.gens s1 ∧ s' = back s.gens s1 ∧ Q a s1) (fun e s' => ∃ s1, Put s.gens s1 ∧ s' = back s.gens s1 ∧ E e s1) s := by
  intro Γ p hΓ
  have q := wp_back t _ _ p _ (put_kill s) (h Γ p hΓ)
  rw [back_kill] at q
  exact q
theorem allBare_kill {s : Shared} (h : AllBare s.gens) : AllBare (kill s).gens := fun y hy => by
  have hy : y ∈ s.gens.map dead := hy
  obtain ⟨x, hx, e⟩ := Array.mem_map.mp hy
  subst e
  cases x with
  | suspended k l c p fs cl => rfl
  | fresh c => rfl
  | running => rfl
  | finished => rfl
theorem allBare_back {G : Array GenState} {s : Shared} (hG : AllBare G) (h : AllBare s.gens) : AllBare (back G s).gens := fun y hy => by
  obtain ⟨i, hi, e⟩ := Array.mem_iff_getElem.mp hy
  have q : (back G s).gens[i]? = some y := by rw [Array.getElem?_eq_getElem hi, e]
  rw [back_get] at q
  cases z : s.gens[i]? with
  | none => rw [z] at q; cases q
  | some x =>
    rw [z] at q
    have q : pick G i x = y := Option.some.inj q
    have hx := h x (Array.mem_of_getElem? z)
    unfold pick at q
    split at q
    · rename_i u eu
      split at q
      · subst q; exact hG u (Array.mem_of_getElem? eu)
      · subst q; exact hx
    · subst q; exact hx
theorem back_sleeps {G : Array GenState} {s : Shared} {i : Nat} {y : GenState} (P : Put G s) (e : G[i]? = some y) (a : asleep y = true) : (back G s).gens[i]? = some y := by
  rw [back_get, P.at_ i y e a]
  show some (pick G i (dead y)) = _
  unfold pick
  rw [e]
  dsimp only
  rw [if_pos a]
end
/-! ### a stretch of a generator's code, up to where it sleeps or ends -/
/-- from here the code c comes to an end of which Φ holds -/
def Way (M : Model) (A : Around) (Φ : End → Shared → Prop) (c : Code) (t : Sem PySem.Fin) (fs : List Frame) (s : Shared) : Prop :=
  ∀ (Γ : PySem.Ctx) (p : Pos), Γ.code = c → Γ.Woken A → ∃ e s', Runs M Γ p t fs s e s' ∧ Φ e s'
section
variable {M : Model} {A : Around} {Φ : End → Shared → Prop} {c : Code} {fs : List Frame} {s : Shared}
theorem way_wrap {α : Type} {m : Sem α} {K : α → Sem PySem.Fin} {J : Value → Sem PySem.Fin} {gd : Bool → Bool} {lv : List Value → List Value}
    (h : wpAny M (A.over c fs) m (fun a s' => Way M A Φ c (K a) fs s') (fun x s' => Way M A Φ c (J x) fs s') s) : Way M A Φ c (m.wrap K J gd lv) fs s := by
  rintro Γ p rfl hw
  exact runs_wrap_of_wp K J gd lv m (h (Γ.over fs) p (hw.over fs)) (fun a p1 s1 q => q Γ p1 rfl hw) fun x p1 s1 q => q Γ p1 rfl hw
theorem way_bind {α β : Type} {m : Sem α} {f : α → Sem β} {K : β → Sem PySem.Fin} {J : Value → Sem PySem.Fin} {gd : Bool → Bool} {lv : List Value → List Value}
    (h : wpAny M (A.over c fs) m (fun a s' => Way M A Φ c ((f a).wrap K J gd lv) fs s') (fun x s' => Way M A Φ c (J x) fs s') s) : Way M A Φ c ((m >>= f).wrap K J gd lv) fs s := by
  rw [Sem.bind_eq_wrap', Sem.wrap_wrap]
  exact way_wrap h
theorem way_at {q : Pos} {k : Unit → Sem PySem.Fin} (h : Way M A Φ c (k ()) fs s) : Way M A Φ c (.at q k) fs s :=
  way_wrap (m := standAt q) (K := k) (J := .raise) (gd := id) (lv := id) (wpAny_standAt h)
theorem way_point {l : List Value} {k : Unit → Sem PySem.Fin} (h : Way M A Φ c (k ()) fs s) : Way M A Φ c (.point l k) fs s :=
  way_wrap (m := point) (K := k) (J := .raise) (gd := id) (lv := fun _ => l) (wpAny_point h)
theorem way_call {c' : Code} {h : Option Value} {g : Bool} {l : List Value} {k : Result → Sem PySem.Fin} (hc : ∀ p, Way M A Φ c' (M.den c') (.ret k h g l c p [] :: fs) s) : Way M A Φ c (.call c' h g l k) fs s := by
  rintro Γ p rfl hw
  obtain ⟨e, s1, r, q⟩ := hc p (Γ.goto c') p rfl (hw.goto c')
  exact ⟨e, s1, runs_call_seg r, q⟩
theorem way_leaf {k : Result → Sem PySem.Fin} {h : Option Value} {g : Bool} {l kp : List Value} {c₁ : Code} {p₁ : Pos} (r : Result) (hk : Way M A Φ c₁ (k r) fs s) : Way M A Φ c (leafOf r) (.ret k h g l c₁ p₁ kp :: fs) s := by
  rintro Γ p rfl hw
  obtain ⟨e, s1, x, q⟩ := hk (Γ.goto c₁) p₁ rfl (hw.goto c₁)
  exact ⟨e, s1, Runs.pop r x, q⟩
theorem way_again {c' : Code} (hq : c'.quiet = true) (hc : Way M A Φ c' (M.den c') fs s) : Way M A Φ c (.pure (.again c')) fs s := by
  rintro Γ p rfl hw
  obtain ⟨e, s1, r, q⟩ := hc (Γ.goto c') p rfl (hw.goto c')
  exact ⟨e, s1, Runs.head (c₁ := c') (fun _ _ x => .again hq x) r, q⟩
theorem way_end (r : Result) (h : Φ (.ret r) s) : Way M A Φ c (leafOf r) [] s := by
  rintro Γ p rfl _
  exact ⟨.ret r, s, Runs.leaf r, h⟩
/-- it sleeps -/
theorem way_yield {v : Value} {g : Bool} {l : List Value} {k : Resume → Sem PySem.Fin} (hfs : splitAtGen fs = none) (h : ∀ p, Φ (.susp v g l k c p fs) s) : Way M A Φ c (.yield v g l k) fs s := by
  rintro Γ p rfl _
  exact ⟨_, s, Runs.yield' fs hfs, h p⟩
end
section
variable {M : Model} {A : Around} {Φ : End → Shared → Prop} {c : Code} {fs : List Frame} {s : Shared} {env : Env} {K : Flow → Sem PySem.Fin} {J : Value → Sem PySem.Fin} {gd : Bool → Bool} {lv : List Value → List Value}
theorem execs_two : ∀ (a b : List Stmt), execs (a ++ b) env = execs a env >>= fun f => match f with | .next => execs b env | f => pure f
  | [], b => rfl
  | st :: a, b => by
    rw [List.cons_append, execs_cons, execs_cons, execs_two a b]
    show Sem.bind _ _ = Sem.bind (Sem.bind _ _) _
    rw [Sem.bind_assoc]
    congr 1
    funext f
    cases f <;> rfl
theorem way_execs {a b : List Stmt} (h : wpAny M (A.over c fs) (execs a env) (fun f s' => f = .next ∧ Way M A Φ c ((execs b env).wrap K J gd lv) fs s') (fun _ _ => False) s) : Way M A Φ c ((execs (a ++ b) env).wrap K J gd lv) fs s := by
  rw [execs_two]
  refine way_bind (wpAny_mono h (fun f s1 ⟨e, q⟩ => ?_) fun _ _ z => z.elim)
  subst e
  exact q
theorem way_cons {st : Stmt} {rest : List Stmt} (h : Way M A Φ c ((exec st env).wrap (fun f => match f with | .next => (execs rest env).wrap K J gd lv | f => K f) J gd lv) fs s) : Way M A Φ c ((execs (st :: rest) env).wrap K J gd lv) fs s := by
  rw [execs_cons_wrap]; exact h
/-- yield e: how it goes on is told by what is left -/
theorem way_Yield {e : Expr} {yp pos : Pos} (hfs : splitAtGen fs = none) (hgd : gd false = false)
    (h : wpAny M (A.over c fs) (eval e env) (fun v s' => ∀ l k p, (∀ A' Φ' s'', Way M A' Φ' c (K .next) fs s'' → Way M A' Φ' c (k (.send .none)) fs s'') → Φ (.susp v false l k c p fs) s') (fun _ _ => False) s)
    (hco : env.scope.isCoroutine = false := by rfl) (hi : interactive env = false := by rfl) : Way M A Φ c ((exec (.Expr (.Yield (some e) yp) pos) env).wrap K J gd lv) fs s := by
  rw [exec_Expr env _ pos hi rfl]
  show Way M A Φ c (.at pos fun _ => (((eval e env >>= fun v => (standAt yp >>= fun _ => yieldOut env v))) >>= fun x => dropValue (.Yield (some e) yp) pos x).wrap K J gd lv) fs s
  have out : ∀ v, yieldOut env v = yieldValue v := fun v => by simp only [yieldOut, hco, Bool.false_eq_true, if_false]
  simp only [out]
  refine way_at ?_
  rw [Sem.bind_eq_wrap', Sem.bind_eq_wrap', Sem.wrap_wrap, Sem.wrap_wrap]
  refine way_wrap (wpAny_mono h (fun v s1 q => ?_) fun _ _ z => z.elim)
  refine way_at ?_
  refine way_yield hfs fun p => ?_
  have fin : ∀ (g : Bool) (l : List Value) (k : Resume → Sem PySem.Fin), g = false → (∀ A' Φ' s'', Way M A' Φ' c (K .next) fs s'' → Way M A' Φ' c (k (.send .none)) fs s'') → Φ (.susp v g l k c p fs) s1 := fun g l k e w => by
    subst e
    exact q l k p w
  exact fin _ _ _ hgd fun A' Φ' s'' w => w
/-- for .. in ..: what is walked is at hand -/
theorem way_For {tg iter : Expr} {body : List Stmt} {pos : Pos}
    (h : wpAny M (A.over c fs) (eval iter env) (fun x s1 => wpAny M (A.over c fs) (pyIter x) (fun it s2 => ∀ (k : Result → Sem PySem.Fin) (g : Bool) (l : List Value) (p : Pos), g = gd false → (∀ A' Φ' s3, Way M A' Φ' c (K .next) fs s3 → Way M A' Φ' c (k (.ok .next)) fs s3) →
      Way M A Φ (.forLoop tg it body [] env) (M.den (.forLoop tg it body [] env)) (.ret k none g l c p [] :: fs) s2) (fun _ _ => False) s1) (fun _ _ => False) s)
    (hs : ∀ x, foldedSetIterable iter env x = pure x := by intro _; rfl) : Way M A Φ c ((exec (.For tg iter body [] pos) env).wrap K J gd lv) fs s := by
  rw [exec_For]
  refine way_bind (wpAny_standAt (way_bind (wpAny_mono h (fun x s1 q => way_bind (wpAny_of_eq (hs x) (way_bind (wpAny_standAt (way_bind (wpAny_holding (wpAny_mono q (fun it s2 q2 => ?_) fun _ _ z => z.elim))))))) fun _ _ z => z.elim)))
  exact way_call fun p => q2 _ _ _ p rfl fun A' Φ' s3 w => w
end
section
variable {prog : Program} {w : World} {A : Around} {Φ : End → Shared → Prop} {fs : List Frame} {s : Shared} {env : Env}
/-- one turn of it -/
theorem way_forLoop {tg : Expr} {it : Value} {body : List Stmt} {k : Result → Sem PySem.Fin} {g : Bool} {l kp : List Value} {c : Code} {p : Pos} {L : Code} (hL : L = .forLoop tg it body [] env)
    (h : wpAny (model prog w) (A.over L (.ret k none g l c p kp :: fs)) (pyNext it) (fun r s1 => match r with
      | none => Way (model prog w) A Φ c (k (.ok .next)) fs s1
      | some v => wpAny (model prog w) (A.over L (.ret k none g l c p kp :: fs)) (letOwnedTupleGo tg it v) (fun _ s2 => wpAny (model prog w) (A.over L (.ret k none g l c p kp :: fs)) (assign tg env v) (fun _ s3 =>
          Way (model prog w) A Φ L ((execs body env).wrap (fun f => match f with
            | .next | .cont => .pure (.again L)
            | .brk => .pure (.done .next)
            | .ret v => .pure (.done (.ret v))) (fun e => (do noteFrame e env; theTreesLotGoes e : Sem Unit).wrap (fun _ => .raise e) .raise id id) id id) (.ret k none g l c p kp :: fs) s3) (fun _ _ => False) s2) (fun _ _ => False) s1) (fun _ _ => False) s) :
    Way (model prog w) A Φ L ((model prog w).den L) (.ret k none g l c p kp :: fs) s := by
  subst hL
  show Way _ A Φ _ ((forTurn tg it body [] env).onRaise (fun x => do noteFrame x env; theTreesLotGoes x)) _ s
  unfold forTurn
  rw [Sem.onRaise_eq_wrap]
  refine way_bind (wpAny_standAt (way_bind (wpAny_onRaise (wpAny_mono h (fun r s1 q => ?_) fun _ _ z => z.elim))))
  cases r with
  | none =>
    refine way_again rfl ?_
    show Way _ A Φ _ (do return Fin.done (← (execs [] env).onRaise (fun x => do noteFrame x env; theTreesLotGoes x))) _ s1
    exact way_leaf (.ok .next) q
  | some v =>
    refine way_bind (wpAny_mono q (fun _ s2 q2 => way_bind (wpAny_mono q2 (fun _ s3 q3 => ?_) fun _ _ z => z.elim)) fun _ _ z => z.elim)
    show Way _ A Φ _ ((execs body env >>= _).wrap _ _ _ _) _ s3
    rw [Sem.bind_eq_wrap', Sem.wrap_wrap]
    rw [Sem.wrap_congr (execs body env) _ _ (K' := fun f => match f with
            | .next | .cont => .pure (.again (.forLoop tg it body [] env))
            | .brk => .pure (.done .next)
            | .ret v => .pure (.done (.ret v))) (H' := (fun e => (do noteFrame e env; theTreesLotGoes e : Sem Unit).wrap (fun _ => .raise e) .raise id id))
        (fun f => by cases f <;> rfl) (fun e => by first | exact Sem.bind_eq_wrap _ _ | (show (do noteFrame e env; theTreesLotGoes e : Sem Unit).bind (fun _ => .raise e) = _; rw [Sem.bind_eq_wrap]))]
    exact q3
/-- a generator's code from its beginning -/
theorem way_func {body : List Stmt}
    (h : Way (model prog w) A Φ (.func body env) ((execs body env).wrap (fun f => .pure (.done (.ret (match f with | .ret v => v | _ => .none)))) (fun e => (leaving env e).wrap (fun _ => .raise e) .raise id id) id id) fs s) :
    Way (model prog w) A Φ (.func body env) ((model prog w).den (.func body env)) fs s := by
  show Way _ A Φ _ (.point [] fun _ => ((execs body env).onRaise (leaving env)) >>= _) fs s
  refine way_point ?_
  rw [Sem.onRaise_eq_wrap, Sem.bind_eq_wrap', Sem.wrap_wrap]
  rw [Sem.wrap_congr (execs body env) _ _ (K' := fun f => .pure (.done (.ret (match f with | .ret v => v | _ => .none)))) (H' := fun e => (leaving env e).wrap (fun _ => .raise e) .raise id id) (fun f => by cases f <;> rfl)
    (fun e => by rw [Sem.bind_eq_wrap, Sem.wrap_wrap]; rfl)]
  exact h
end
/-! ### a generator is woken -/
def Rest (M : Model) (A : Around) (Φ : End → Shared → Prop) (gs : GenState) (s : Shared) : Prop :=
  match gs with
  | .fresh c => Way M A Φ c (M.den c) [] s
  | .suspended k _ c _ fs _ => Way M A Φ c (k (.send .none)) fs s
  | _ => False
section
variable {M : Model} {A : Around} {Φ : End → Shared → Prop} {s : Shared}
theorem wpAny_wake {α : Type} {E : Value → Shared → Prop} {g : Nat} {gs : GenState} {l : List Value} {k : GenResult → Sem α} {Q : α → Shared → Prop} (hg : s.gens[g]? = some gs) (h : Rest M A Φ gs (s.setGen g .running))
    (hk : ∀ e s1, Φ e s1 → e.quiet = true ∧ wpAny M A (k e.result) Q E (s1.setGen g e.genState)) : wpAny M A (.resume g (.send .none) l k) Q E s := by
  intro Γ p hΓ
  rw [Sem.wp_resume]
  cases gs with
  | fresh c =>
    obtain ⟨e, s1, r, q⟩ := h (Γ.wake c p) p rfl (hΓ.wake c p)
    obtain ⟨hq, hw⟩ := hk e s1 q
    refine ⟨e.result, s1.setGen g e.genState, ?_, hw Γ p hΓ⟩
    unfold Wakes
    rw [hg]
    exact ⟨e, s1, r, hq, rfl, rfl⟩
  | suspended k0 l0 c p0 fs cl =>
    obtain ⟨e, s1, r, q⟩ := h (Γ.wake c p) p0 rfl (hΓ.wake c p)
    obtain ⟨hq, hw⟩ := hk e s1 q
    refine ⟨e.result, s1.setGen g e.genState, ?_, hw Γ p hΓ⟩
    unfold Wakes
    rw [hg]
    exact ⟨e, s1, r, hq, rfl, rfl⟩
  | running => exact h.elim
  | finished => exact h.elim
end
section
variable {P : Program} {w : World} {A : Around} {Φ : End → Shared → Prop} {E : Value → Shared → Prop} {s : Shared}
/-- next of a generator: it hands out a value, or it has come to its end -/
theorem next_gen {a : Addr} {g : Nat} {gs : GenState} {Q : Option Value → Shared → Prop} (hh : A.handled = none) (hl : s.heap.NoLimit) (hroom : A.depth < recursionLimit) (hg : s.heap.IsGen a g) (hgs : s.gens[g]? = some gs) (hgo : Rest (model P w) A.in1 Φ gs (s.setGen g .running))
    (hk : ∀ e s1, Φ e s1 → e.quiet = true ∧ match e with
      | .susp v _ _ _ _ _ _ => Q (some v) (s1.setGen g e.genState)
      | .ret r => (r = .ok (.ret .none)) ∧ ∀ h', (∀ b o, s1.heap.get? b = some o → h'.get? b = some o) → Q none { s1.setGen g .finished with heap := h' }) : wpAny (model P w) A (pyNext (.ref a)) Q E s := by
  unfold pyNext
  refine wpAny_bind (wpAny_attempt ?_)
  refine wpAny_callSpecial?_slot (name := Str.ofString "__next__") hg.typeIs slot_gen_next ?_
  refine wpAny_call_entry slot_gen_next hg.typeIs entry_gen_next ?_ (args_gen_next _)
  show wpAny _ A.in1 (Builtin.Generator.genWake (.ref a) (.send .none)) _ _ s
  unfold Builtin.Generator.genWake
  refine wpAny_bind (wpAny_holding (wpAny_genNumber hg (wpAny_bind (wpAny_genState hgs ?_))))
  cases gs with
  | running => exact hgo.elim
  | finished => exact hgo.elim
  | _ =>
    refine wpAny_bind (wpAny_roomToWake hl hroom ?_)
    show wpAny _ A.in1 (.resume g (.send .none) [] _) _ _ s
    refine wpAny_wake hgs hgo fun e s1 q => ?_
    obtain ⟨hq, q2⟩ := hk e s1 q
    refine ⟨hq, ?_⟩
    cases e with
    | susp v g0 l0 k0 c0 p0 fs0 => exact wpAny_pure ⟨v, rfl, wpAny_pure q2⟩
    | ret r =>
      obtain ⟨rfl, q3⟩ := q2
      show wpAny _ A.in1 (newExc (.type "StopIteration") [] >>= _) _ _ _
      refine wpAny_bind ?_
      simp only [newExc, newTuple]
      refine wpAny_bind (wpAny_newObj_type ?_ (by size_fits))
      refine wpAny_bind (m := firstArgMember _ _) (wpAny_of_eq (a := Value.none) (by first | rfl | (simp only [firstArgMember]; rfl)) ?_)
      refine wpAny_newObj_type ?_ (by size_fits)
      simp only [raiseNew]
      refine wpAny_bind (wpAny_bind (wpAny_handled ?_))
      rw [show A.in1.handled = none from hh]
      refine wpAny_throw ?_
      refine wpAny_bind (wpAny_isInstance (T := "StopIteration") (b := true) ⟨_, Heap.get?_push_size _ rfl, rfl⟩ isSubtype_stop ?_)
      exact wpAny_pure (q3 _ fun b o hb => Heap.get?_push_of_some _ (Heap.get?_push_of_some _ hb))
end
open GenW
/-! ### what a generator holds of the heap -/
theorem Inv.regen {X : Cx} {pins : List (Addr × Obj)} {σ : L2.St} {H : Hp} {s : Shared} (I : L2.Inv X pins σ H s) {g : Array GenState} (hg : AllBare g) : L2.Inv X pins σ H { s with gens := g } :=
  ⟨I.ok, I.os, hg, I.base, I.loc, I.cell, I.free, I.freeC, I.pin, I.hok, I.len⟩
def lay (pr : List (Addr × HO)) (H : Hp) : Hp := pr.foldr (fun q H => upd H q.1 q.2) H
theorem lay_off {H : Hp} {b : Addr} : ∀ {pr : List (Addr × HO)}, (∀ q ∈ pr, q.1 ≠ b) → lay pr H b = H b
  | [], _ => rfl
  | q :: pr, h => by
    show upd (lay pr H) q.1 q.2 b = _
    rw [upd_ne (Ne.symm (h q List.mem_cons_self))]
    exact lay_off fun q hq => h q (List.mem_cons_of_mem _ hq)
theorem lay_in {A B : Hp} {b : Addr} : ∀ {pr : List (Addr × HO)}, (∃ q ∈ pr, q.1 = b) → lay pr A b = lay pr B b
  | [], h => by obtain ⟨_, h, _⟩ := h; cases h
  | q :: pr, h => by
    show upd (lay pr A) q.1 q.2 b = upd (lay pr B) q.1 q.2 b
    by_cases e : b = q.1
    · subst e; rw [upd_same, upd_same]
    · rw [upd_ne e, upd_ne e]
      obtain ⟨u, hu, eu⟩ := h
      rcases List.mem_cons.mp hu with z | z
      · subst z; exact absurd eu.symm e
      · exact lay_in ⟨u, z, eu⟩
theorem lay_val {H : Hp} {b : Addr} : ∀ {pr : List (Addr × HO)}, (∃ q ∈ pr, q.1 = b) → ∃ q ∈ pr, lay pr H b = some q.2
  | [], h => by obtain ⟨_, h, _⟩ := h; cases h
  | q :: pr, h => by
    by_cases e : b = q.1
    · exact ⟨q, List.mem_cons_self, by subst e; exact upd_same⟩
    · obtain ⟨u, hu, eu⟩ := h
      rcases List.mem_cons.mp hu with z | z
      · subst z; exact absurd eu.symm e
      · obtain ⟨v, hv, ev⟩ := lay_val (H := H) ⟨u, z, eu⟩
        exact ⟨v, List.mem_cons_of_mem _ hv, by
          show upd (lay pr H) q.1 q.2 b = _
          rw [upd_ne e]; exact ev⟩
/-- neither the dict of an instance nor a tuple: nothing else leans on it -/
def PureO : HO → Prop
  | .own _ => False
  | .tup _ => False
  | _ => True
/-- what stood below n, without these -/
def freedO : Obj := { cls := .none, data := .freed }
def trunc (n : Nat) (fp : List Addr) (h : Heap) : Heap := { h with objs := (h.objs.extract 0 n).mapIdx fun i o => if i ∈ fp then freedO else o }
theorem trunc_le {n : Nat} {fp : List Addr} {h : Heap} : (trunc n fp h).objs.size ≤ n := by
  show ((h.objs.extract 0 n).mapIdx _).size ≤ n
  rw [Array.size_mapIdx, Array.size_extract]; omega
theorem trunc_size {n : Nat} {fp : List Addr} {h : Heap} (hn : n ≤ h.objs.size) : (trunc n fp h).objs.size = n := by
  show ((h.objs.extract 0 n).mapIdx _).size = n
  rw [Array.size_mapIdx, Array.size_extract]; omega
theorem ext_at {α : Type} {xs : Array α} {n b : Nat} (hb : b < n) : (xs.extract 0 n)[b]? = xs[b]? := by
  by_cases z : b < xs.size
  · have q : b < (xs.extract 0 n).size := by rw [Array.size_extract]; omega
    rw [Array.getElem?_eq_getElem q, Array.getElem?_eq_getElem z, Array.getElem_extract]
    simp
  · have q : (xs.extract 0 n).size ≤ b := by rw [Array.size_extract]; omega
    have z' : xs.size ≤ b := by omega
    rw [Array.getElem?_eq_none q, Array.getElem?_eq_none z']
theorem trunc_lt {n : Nat} {fp : List Addr} {h : Heap} {b : Addr} (hb : b < n) (hf : b ∉ fp) : (trunc n fp h).get? b = h.get? b := by
  have e : (trunc n fp h).objs[b]? = h.objs[b]? := by
    show ((h.objs.extract 0 n).mapIdx _)[b]? = _
    rw [Array.getElem?_mapIdx, ext_at hb]
    cases h.objs[b]? with
    | none => rfl
    | some o =>
      show some (if b ∈ fp then freedO else o) = some o
      rw [if_neg hf]
  unfold Heap.get?
  rw [e]
theorem trunc_some {n : Nat} {fp : List Addr} {h : Heap} {b : Addr} {o : Obj} (e : (trunc n fp h).get? b = some o) : b < n ∧ b ∉ fp ∧ h.get? b = some o := by
  have hb : b < n := Nat.lt_of_lt_of_le (Heap.lt_size e) trunc_le
  have hf : b ∉ fp := fun z => by
    have q : (trunc n fp h).objs[b]? = none ∨ (trunc n fp h).objs[b]? = some freedO := by
      show ((h.objs.extract 0 n).mapIdx _)[b]? = _ ∨ ((h.objs.extract 0 n).mapIdx _)[b]? = _
      rw [Array.getElem?_mapIdx]
      cases (h.objs.extract 0 n)[b]? with
      | none => exact .inl rfl
      | some o =>
        refine .inr ?_
        show some (if b ∈ fp then freedO else o) = _
        rw [if_pos z]
    unfold Heap.get? at e
    rcases q with q | q
    · rw [q] at e; cases e
    · rw [q] at e; cases e
  rw [trunc_lt hb hf] at e
  exact ⟨hb, hf, e⟩
def below (L : Nat) (H : Hp) : Hp := fun b => if b < L then H b else none
theorem below_lt {L b : Nat} {H : Hp} (h : b < L) : below L H b = H b := if_pos h
theorem below_some {L b : Nat} {H : Hp} {o : HO} (h : below L H b = some o) : b < L ∧ H b = some o := by
  unfold below at h
  split at h
  · rename_i c; exact ⟨c, h⟩
  · cases h
/-- what is not tracked, above L, but for the generator's own: each as it is -/
def Hx (L : Nat) (h : Heap) (fp : List Addr) (H : Hp) : Hp := fun b => match H b with
  | some u => some u
  | none => if L ≤ b ∧ b ∉ fp then (h.get? b).map fun o => .ext fun h' => h'.get? b = some o else none
section
variable {L : Nat} {h : Heap} {fp : List Addr} {H : Hp} {b : Addr}
theorem hx_some {u : HO} (e : H b = some u) : Hx L h fp H b = some u := by unfold Hx; rw [e]
theorem hx_lt (hb : b < L) : Hx L h fp H b = H b := by
  unfold Hx
  cases e : H b with
  | some u => rfl
  | none => exact if_neg fun z => absurd (Nat.lt_of_lt_of_le hb z.1) (Nat.lt_irrefl _)
theorem hx_own (hb : b ∈ fp) : Hx L h fp H b = H b := by
  unfold Hx
  cases e : H b with
  | some u => rfl
  | none => exact if_neg fun z => z.2 hb
theorem hx_out {o : Obj} (hn : H b = none) (hL : L ≤ b) (hb : b ∉ fp) (e : h.get? b = some o) : Hx L h fp H b = some (.ext fun h' => h'.get? b = some o) := by
  unfold Hx
  rw [hn]
  show (if L ≤ b ∧ b ∉ fp then _ else _) = _
  rw [if_pos ⟨hL, hb⟩, e]; rfl
theorem hx_inv {u : HO} (e : Hx L h fp H b = some u) : H b = some u ∨ (H b = none ∧ L ≤ b ∧ b ∉ fp ∧ ∃ o, h.get? b = some o ∧ u = .ext fun h' => h'.get? b = some o) := by
  unfold Hx at e
  split at e
  · rename_i v q
    exact .inl (q.trans e)
  · rename_i q
    refine .inr ⟨q, ?_⟩
    split at e
    · rename_i c
      cases z : h.get? b with
      | none => rw [z] at e; cases e
      | some o =>
        rw [z] at e
        exact ⟨c.1, c.2, o, rfl, (Option.some.inj e).symm⟩
    · cases e
theorem hx_none (hn : H b = none) (e : h.get? b = none) : Hx L h fp H b = none := by
  cases q : Hx L h fp H b with
  | none => rfl
  | some u =>
    rcases hx_inv q with z | ⟨_, _, _, o, z, _⟩
    · rw [hn] at z; cases z
    · rw [e] at z; cases z
theorem same_hx : Same H (Hx L h fp H) := fun b u e => hx_some e
theorem hok_hx {P : Program} {w : World} (ok : HOk P w H h) : HOk P w (Hx L h fp H) h := fun b u e => by
  rcases hx_inv e with z | ⟨_, _, _, o, z, eu⟩
  · exact (ok b u z).stay (fun _ _ _ q => q) (fun c q => hx_some q) fun c xs q => hx_some q
  · subst eu
    exact ⟨z, ⟨o, z⟩, fun h1 h2 q k => k o q⟩
end
theorem ObjOk.there {P : Program} {w : World} {H : Hp} {h : Heap} {a : Addr} {o : HO} (x : L2.ObjOk P w H h a o) : ∃ ob, h.get? a = some ob := by
  induction o with
  | lst xs => obtain ⟨_, its, n, _, e⟩ := x; exact ⟨_, e⟩
  | tup xs => obtain ⟨_, its, _, ob, e, _⟩ := x; exact ⟨_, e⟩
  | dK kvs => obtain ⟨_, _, vs, _, ob, es, ep, e, _⟩ := x; exact ⟨_, e⟩
  | dT kvs => obtain ⟨_, _, xs, _, ob, es, ep, e, _⟩ := x; exact ⟨_, e⟩
  | set S n => obtain ⟨ob, es, ep, t, e, _⟩ := x; exact ⟨_, e⟩
  | ins C dx fs => obtain ⟨_, _, _, e, _⟩ := x; exact ⟨_, e⟩
  | own y => exact x
  | xd fs => obtain ⟨mA, ⟨od, es, ep, e, _⟩, _⟩ := x; exact ⟨_, e⟩
  | rng lo hi => obtain ⟨t, u, v, e⟩ := x; exact ⟨_, e⟩
  | frz ob u ih => exact ⟨_, x.1⟩
  | tbl ps => exact ⟨_, (show h.get? a = some { cls := .none, data := .fields ps } from x)⟩
  | met f y => exact ⟨_, (show h.get? a = some (PySem.W.methodObj (.ref f) (.ref y)) from x)⟩
  | ext φ => exact x.2.1
open GenW
/-! ### a generator's frame, at any time that it is woken -/
def gCx (P : Program) (w : World) (K : PySem.W.Frag) (mg : Str → Option Value) (base : Heap) (N : List Str) (qual : Str) (scope : Scope) (f : Addr) (cd : Value) (Ag : Around) (outer : List Env) (L : Addr) (s : Shared) (H : Hp) : Cx where
  prog := P
  w := w
  K := K
  mg := mg
  base := base
  A := Ag.deeper (envOfC qual scope L f cd)
  N := N
  s_0 := s
  H_0 := H
  env := envOfC qual scope L f cd
  outer := outer
  stack := envOfC qual scope L f cd :: outer
  ex := []
  fn := fun _ => true
  calm := true
  pn := []
  xe := fun _ _ => False
def SlotsAt (env : Env) (N : List Str) (σ : L2.St) (h : Heap) : Prop :=
  ∃ m, h.Ns env.locals m ∧ ∀ (i : Nat) (x : Str) (v : V), N[i]? = some x → σ[i]? = some (some v) → Vis env.scope x → ∃ u, RelV v u ∧ Look env h m x u
theorem lookup_mem {x : Str} {k : NameKind} : ∀ {l : List (Str × NameKind)}, l.lookup x = some k → (x, k) ∈ l := fun h => PySem.mem_of_lookup h
theorem SlotsAt.stay {env : Env} {N : List Str} {σ : L2.St} {h h' : Heap} (nc : ∀ y ∈ env.scope.names, y.2 ≠ .cell ∧ y.2 ≠ .free) (x : SlotsAt env N σ h) (k : ∀ o, h.get? env.locals = some o → h'.get? env.locals = some o) : SlotsAt env N σ h' := by
  obtain ⟨m, ⟨o, es, ep, ho, r⟩, q⟩ := x
  refine ⟨m, ⟨o, es, ep, k o ho, r⟩, fun i y v h1 h2 h3 => ?_⟩
  obtain ⟨u, rv, l⟩ := q i y v h1 h2 h3
  refine ⟨u, rv, ?_⟩
  rcases l with l | ⟨l, _⟩
  · exact .inl l
  · rcases l with l | l
    · exact absurd rfl (nc _ (lookup_mem l)).1
    · exact absurd rfl (nc _ (lookup_mem l)).2
theorem cells_nil {n : Nat} : ∀ {l : List (Str × NameKind)} {acc : List (Str × Addr)}, (∀ y ∈ l, y.2 ≠ .cell) → cellsFrom n l acc = acc
  | [], _, _ => rfl
  | (x, k) :: l, acc, h => by
    unfold cellsFrom
    have q : (k == NameKind.cell) = false := by
      have := h _ List.mem_cons_self
      cases k <;> first | rfl | exact absurd rfl this
    rw [q, if_neg Bool.false_ne_true]
    exact cells_nil fun y hy => h y (List.mem_cons_of_mem _ hy)
theorem frames_trunc {base h : Heap} {L : Nat} {fp : List Addr} : ∀ {l : List Env}, h.FunFrames base l → (∀ b ∈ frs l, b < L ∧ b ∉ fp) → (trunc L fp h).FunFrames base l
  | [], _, _ => trivial
  | env :: l, x, hl => by
    obtain ⟨hk, ⟨a, o, hf, hn, ho, hd⟩, hr⟩ := x
    have ha : a ∈ frs (env :: l) := by
      show a ∈ List.filterMap _ _
      rw [List.filterMap_cons, hf]
      exact List.mem_cons_self
    refine ⟨hk, ⟨a, o, hf, hn, by rw [trunc_lt (hl a ha).1 (hl a ha).2]; exact ho, hd⟩, frames_trunc hr fun b hb => hl b ?_⟩
    show b ∈ List.filterMap _ _
    rw [List.filterMap_cons, hf]
    exact List.mem_cons_of_mem _ hb
section
variable {P : Program} {w : World} {K : PySem.W.Frag} {mg : Str → Option Value} {base : Heap} {N : List Str} {qual : Str} {scope : Scope} {f : Addr} {cd : Value} {A0 Ag : Around} {outer : List Env} {L ga : Addr} {fp : List Addr} {go : Obj} {s s1 : Shared} {H Hg H3 : Hp} {σ σ2 : L2.St}
/-- the frame's state, told anew of the state at hand -/
theorem regX (e0 : Env0 P w K mg base A0 outer s H) (hd : Ag.handled = none) (hfm : Ag.frames = some outer) (hsz : L ≤ s.heap.objs.size) (hb : base.objs.size ≤ L) (hfr : ∀ b ∈ frs outer, b < L ∧ b ∉ fp) (hbf : ∀ b o, base.get? b = some o → b ∉ fp) (hfn : ∀ b ∈ fp, H b = none) (hk : scope.kind = .function) (nc : ∀ y ∈ scope.names, y.2 ≠ .cell ∧ y.2 ≠ .free)
    (loc : SlotsAt (envOfC qual scope L f cd) N σ s.heap) (hL : Hg L = none) (pin : s.heap.get? ga = some go ∧ Hg ga = none ∧ ga ≠ L ∧ L ≤ ga ∧ ∀ v, go.data ≠ .cell v) (hok : HOk P w Hg s.heap) (len : σ.length = N.length) (agree : ∀ b, b < L → b ∉ fp → Hg b = H b) :
    L2.Inv (gCx P w K mg base N qual scope f cd Ag outer L { s with heap := trunc L fp s.heap } (below L H)) [(ga, go)] σ Hg s := by
  have cn : (envOfC qual scope L f cd).cells = [] := cells_nil fun y hy => (nc y hy).1
  have ncell : ∀ x c, (envOfC qual scope L f cd).cells.lookup x = some c → False := fun x c e => by rw [cn] at e; cases e
  have tsz : (trunc L fp s.heap).objs.size = L := trunc_size hsz
  have bl : ∀ {b o}, base.get? b = some o → b < L := fun e => Nat.lt_of_lt_of_le (Heap.lt_size e) hb
  refine ⟨⟨e0.mod, hk, rfl, rfl, Nat.le_of_eq tsz, fun x y c h1 _ => (ncell x c h1).elim, fun x hx => ?_, fun x c _ h => (ncell x c h).elim, fun _ => hd, Around.frames_deeper hfm, .inr ⟨rfl, rfl⟩, fun b z => absurd (show b ∈ ([] : List Addr) from z) (by simp), fun b o e => ?_, ?_, fun b _ _ z => absurd (show b ∈ ([] : List Addr) from z) (by simp), fun b z => absurd (show b ∈ ([] : List Addr) from z) (by simp), frames_trunc e0.funs hfr, fun b hb => ?_⟩,
    rfl, e0.bare, ⟨fun b o e _ _ _ => (trunc_some e).2.2, fun b o e _ _ _ => ⟨o.slots, (trunc_some e).2.2⟩, fun b o e n _ => ?_, fun b o e _ => ⟨o, (trunc_some e).2.2⟩, fun b xs e => ?_, fun b o u e => ?_, fun b ps e => ⟨#[], ?_⟩⟩, loc, fun x c e => (ncell x c e).elim, hL, fun x c e => (ncell x c e).elim, fun p hp => ?_, hok, len⟩
  · have hx : scope.names.lookup x = some .cell ∨ scope.names.lookup x = some .free := hx
    rcases hx with hx | hx
    · exact absurd rfl (nc _ (lookup_mem hx)).1
    · exact absurd rfl (nc _ (lookup_mem hx)).2
  · obtain ⟨h1, h2⟩ := e0.bs b o e
    refine ⟨?_, ?_⟩
    · show (trunc L fp s.heap).get? b = _
      rw [trunc_lt (bl e) (hbf b o e)]; exact h1
    · show below L H b = none
      rw [below_lt (bl e)]; exact h2
  · show base.objs.size ≤ (trunc L fp s.heap).objs.size
    rw [tsz]; exact hb
  · show below L H b = none
    rw [below_lt (hfr b hb).1]; exact e0.frf b hb
  · obtain ⟨z, z2, _⟩ := trunc_some e
    have n : below L H b = none := n
    rw [below_lt z] at n
    rw [agree b z z2]; exact n
  · obtain ⟨z, q⟩ := below_some e
    rw [agree b z (fun z2 => by rw [hfn b z2] at q; cases q)]; exact q
  · obtain ⟨z, q⟩ := below_some e
    rw [agree b z (fun z2 => by rw [hfn b z2] at q; cases q)]; exact q
  · obtain ⟨z, q⟩ := below_some e
    rw [agree b z (fun z2 => by rw [hfn b z2] at q; cases q), q]; simp
  · have hp : p ∈ [(ga, go)] := hp
    rw [List.mem_singleton.mp hp]
    exact ⟨pin.1, pin.2.1, pin.2.2.1, fun z => absurd (hfr ga z).1 (Nat.not_lt.mpr pin.2.2.2.1), pin.2.2.2.2⟩
/-- what may be the generator's, as its caller sees it -/
def Mine (X : Cx) (pins : List (Addr × Obj)) (b : Addr) : Prop := b ≠ X.env.locals ∧ b ∉ X.fs ∧ (b ∈ X.ex ∨ X.s_0.heap.objs.size ≤ b) ∧ (∀ x c, X.env.cells.lookup x = some c → c ≠ b) ∧ ∀ p ∈ X.pn ++ pins, p.1 ≠ b
theorem Mine.ok {X : Cx} {pins : List (Addr × Obj)} {b : Addr} (m : Mine X pins b) (h : H b = none) : FpOk X pins H b := ⟨h, m⟩
theorem Mine.of {X : Cx} {pins : List (Addr × Obj)} {b : Addr} (m : FpOk X pins H b) : Mine X pins b := m.2
/-- its caller's state behind a stretch of it -/
theorem recover {X : Cx} {pins : List (Addr × Obj)} {σc : L2.St} {fp : List Addr} {pr Nw : List (Addr × HO)} {ip : List (Addr × Obj)} {s0 : Shared} (hP : X.prog = P) (hw : X.w = w) (hX : X.stack = outer) (I : L2.Inv X pins σc H s)
    (hs0 : s0.heap = trunc L fp s.heap) (hos : s0.os = s.os) (g : L2.Inv (gCx P w K mg base N qual scope f cd Ag outer L s0 (below L H)) ip σ2 H3 s1) (hH : H3 = lay Nw (lay pr (Hx L s.heap fp H))) (hN : ∀ q ∈ Nw, lay pr (Hx L s.heap fp H) q.1 = none) (hpr : ∀ q ∈ pr, Hx L s.heap fp H q.1 = none ∧ PureO q.2)
    (hfr : ∀ b ∈ frs outer, b < L) (hm : ∀ b ∈ fp, Mine X pins b) : L2.Inv X pins σc (lay Nw H) s1 := by
  have gb : Un (frs outer) [] (below L H) H3 s0.heap s1.heap := g.base
  have gok : HOk P w H3 s1.heap := g.hok
  have noE : ∀ b : Addr, b ∉ ([] : List Addr) := fun b => by simp
  have prN : ∀ {b : Addr}, Hx L s.heap fp H b ≠ none → ∀ q ∈ pr, q.1 ≠ b := fun {b} h q hq e => h (by rw [← e]; exact (hpr q hq).1)
  have nwN : ∀ {b : Addr}, Hx L s.heap fp H b ≠ none → ∀ q ∈ Nw, q.1 ≠ b := fun {b} h q hq e => by
    have z := hN q hq
    rw [e, lay_off (prN h)] at z
    exact h z
  have at3 : ∀ {b : Addr}, Hx L s.heap fp H b ≠ none → H3 b = Hx L s.heap fp H b := fun {b} h => by rw [hH, lay_off (nwN h), lay_off (prN h)]
  have low : ∀ {b : Addr} {o : Obj}, b < L → b ∉ fp → s.heap.get? b = some o → s0.heap.get? b = some o := fun h hf e => by rw [hs0, trunc_lt h hf]; exact e
  -- what is new stands nowhere
  have nwOff : ∀ {b : Addr} {o : Obj}, s.heap.get? b = some o → b ∉ fp → H b = none → ∀ q ∈ Nw, q.1 ≠ b := fun {b o} e hb n q hq z => by
    by_cases hl : b < L
    · have h3 : H3 b = none := gb.free b o (low hl hb e) (by rw [below_lt hl]; exact n) (noE b)
      rw [hH] at h3
      obtain ⟨v, _, ev⟩ := lay_val (H := lay pr (Hx L s.heap fp H)) ⟨q, hq, z⟩
      rw [ev] at h3; cases h3
    · exact nwN (by rw [hx_out n (Nat.not_lt.mp hl) hb e]; exact fun z => by cases z) q hq z
  have keepHi : ∀ {b : Addr} {o : Obj}, L ≤ b → s.heap.get? b = some o → b ∉ fp → H b = none → s1.heap.get? b = some o := fun {b o} hl e hb n => by
    have hx := hx_out (fp := fp) n hl hb e
    have z : H3 b = _ := (at3 (by rw [hx]; exact fun z => by cases z)).trans hx
    exact (gok b _ z).1
  have trk : ∀ {b : Addr} {u : HO}, H b = some u → H3 b = some u ∧ lay Nw H b = some u := fun {b u} e => by
    have hx : Hx L s.heap fp H b = some u := hx_some e
    have ne : Hx L s.heap fp H b ≠ none := by rw [hx]; exact fun z => by cases z
    exact ⟨(at3 ne).trans hx, by rw [lay_off (nwN ne)]; exact e⟩
  refine I.call' (ch := fp) (g.os.trans hos) ⟨fun b o e n hb hc => ?_, fun b o e n hb hc => ?_, fun b o e n hc => ?_, fun b o e hc => ?_, fun b xs e => (trk e).2, fun b o u e => (trk e).2, fun b ps e => ⟨#[], by rw [(trk e).2]; simp⟩⟩ (fun b u e => ?_) g.bare fun b hb => ?_
  · by_cases hl : b < L
    · exact gb.keep b o (low hl hc e) (by rw [below_lt hl]; exact n) (by rw [← hX]; exact hb) (noE b)
    · exact keepHi (Nat.not_lt.mp hl) e hc n
  · have hl : b < L := hfr b (by rw [← hX]; exact hb)
    exact gb.slot b o (low hl hc e) (by rw [below_lt hl]; exact n) (by rw [← hX]; exact hb) (noE b)
  · rw [lay_off (nwOff e hc n)]; exact n
  · by_cases hl : b < L
    · exact gb.there b o (low hl hc e) (noE b)
    · cases q : H b with
      | none => exact ⟨o, keepHi (Nat.not_lt.mp hl) e hc q⟩
      | some u => exact ObjOk.there (gok b u (trk q).1)
  · have h3 : H3 b = some u := by
      by_cases z : ∃ q ∈ Nw, q.1 = b
      · rw [hH, lay_in (B := H) z]; exact e
      · rw [lay_off fun q hq ee => z ⟨q, hq, ee⟩] at e
        exact (trk e).1
    have down : ∀ {c : Addr} {u : HO}, H3 c = some u → (∀ φ, u ≠ .ext φ) → ¬ PureO u → lay Nw H c = some u := fun {c u} e ne np => by
      by_cases z : ∃ q ∈ Nw, q.1 = c
      · rw [hH, lay_in (B := H) z] at e; exact e
      · rw [hH, lay_off fun q hq ee => z ⟨q, hq, ee⟩] at e
        by_cases z2 : ∃ q ∈ pr, q.1 = c
        · obtain ⟨q, hq, ev⟩ := lay_val (H := Hx L s.heap fp H) z2
          rw [ev] at e
          rw [← Option.some.inj e] at np
          exact absurd (hpr q hq).2 np
        · rw [lay_off fun q hq ee => z2 ⟨q, hq, ee⟩] at e
          rcases hx_inv e with h | ⟨_, _, _, o, _, eu⟩
          · exact (trk h).2
          · exact absurd eu (ne _)
    show L2.ObjOk X.prog X.w (lay Nw H) s1.heap b u
    rw [hP, hw]
    exact (gok b u h3).stay (fun _ _ _ q => q) (fun c q => down q (fun _ z => by cases z) fun z => z) fun c xs q => down q (fun _ z => by cases z) fun z => z
  · obtain ⟨m1, m2, m3, m4, m5⟩ := hm b hb
    exact ⟨m3, m1, m4, m5⟩
end
open GenW
/-- what a generator keeps for itself: a list, or a dict that it walks -/
def OwnO : HO → Prop
  | .lst _ => True
  | .dK _ => True
  | .frz _ (.dK _) => True
  | _ => False
theorem OwnO.pure {o : HO} (h : OwnO o) : PureO o := by
  cases o <;> first | exact True.intro | exact h.elim
theorem OwnO.there {P : Program} {w : World} {H : Hp} {h : Heap} {a : Addr} {o : HO} (x : L2.ObjOk P w H h a o) (q : OwnO o) : ∃ ob, h.get? a = some ob ∧ ∀ v, ob.data ≠ .cell v := by
  cases o with
  | lst xs => obtain ⟨_, its, n, _, e⟩ := x; exact ⟨_, e, fun v z => by cases z⟩
  | dK kvs => obtain ⟨_, _, vs, _, ob, es, ep, e, _, d, _⟩ := x; exact ⟨_, e, fun v z => by rw [d] at z; cases z⟩
  | frz ob u =>
    cases u with
    | dK kvs =>
      obtain ⟨e0, _, _, vs, _, ob', es, ep, e, _, d, _⟩ := x
      exact ⟨_, e, fun v z => by rw [d] at z; cases z⟩
    | _ => exact q.elim
  | _ => exact q.elim
theorem OwnO.keep {P : Program} {w : World} {H H' : Hp} {h h' : Heap} {a : Addr} {o : HO} (x : L2.ObjOk P w H h a o) (q : OwnO o) (k : ∀ ob, h.get? a = some ob → h'.get? a = some ob) : L2.ObjOk P w H' h' a o := by
  cases o with
  | lst xs => obtain ⟨z, its, n, r, e⟩ := x; exact ⟨z, its, n, r, k _ e⟩
  | dK kvs => obtain ⟨z, y, vs, r, ob, es, ep, e, c⟩ := x; exact ⟨z, y, vs, r, ob, es, ep, k _ e, c⟩
  | frz ob u =>
    cases u with
    | dK kvs => obtain ⟨e0, z, y, vs, r, ob', es, ep, e, c⟩ := x; exact ⟨k _ e0, z, y, vs, r, ob', es, ep, k _ e, c⟩
    | _ => exact q.elim
  | _ => exact q.elim
theorem hok_lay {P : Program} {w : World} {H : Hp} {h : Heap} {pr : List (Addr × HO)} (ok : HOk P w H h) (fr : ∀ q ∈ pr, H q.1 = none) (hp : ∀ b u, (∃ q ∈ pr, q.1 = b) → lay pr H b = some u → L2.ObjOk P w (lay pr H) h b u) : HOk P w (lay pr H) h := fun b u e => by
  by_cases z : ∃ q ∈ pr, q.1 = b
  · exact hp b u z e
  · rw [lay_off fun q hq ee => z ⟨q, hq, ee⟩] at e
    have up : ∀ {c : Addr} {v : HO}, H c = some v → lay pr H c = some v := fun {c v} e => by
      rw [lay_off fun q hq ee => ?_]
      · exact e
      · rw [← ee, fr q hq] at e; cases e
    exact (ok b u e).stay (fun _ _ _ q => q) (fun c q => up q) fun c xs q => up q
/-! ### what is promised of a generator -/
/-- it stands ahead of the wake n - m -/
def Rdy (M : Model) (A : Around) (X : Cx) (pins : List (Addr × Obj)) (ga g n : Nat) (G : Nat → Hp → Prop) (Yd : Nat → V → List (Addr × HO) → Prop) : Nat → GenState → List Addr → Heap → Prop
  | 0, gs, fp, h0 => ∀ (s : Shared) (σ : L2.St) (H : Hp), L2.Inv X pins σ H s → (∀ b ∈ fp, H b = none ∧ ∀ o, h0.get? b = some o → s.heap.get? b = some o) → G n H →
      Rest M A (fun e s1 => e = .ret (.ok (.ret .none)) ∧ L2.Inv X pins σ H s1) gs s
  | m + 1, gs, fp, h0 => ∀ (s : Shared) (σ : L2.St) (H : Hp), L2.Inv X pins σ H s → (∀ b ∈ fp, H b = none ∧ ∀ o, h0.get? b = some o → s.heap.get? b = some o) → G (n - (m + 1)) H →
      Rest M A (fun e s1 => ∃ v l k c p fs, e = .susp v false l k c p fs ∧ e.quiet = true ∧ ∃ y Nw fp', RelV y v ∧ Yd (n - (m + 1)) y Nw ∧ (∀ q ∈ Nw, H q.1 = none) ∧ L2.Inv X pins σ (lay Nw H) s1 ∧
        (∀ b ∈ fp', FpOk X pins (lay Nw H) b ∧ ∃ o, s1.heap.get? b = some o ∧ ∀ v, o.data ≠ .cell v) ∧ ga ∈ fp' ∧ s1.heap.IsGen ga g ∧ Rdy M A X pins ga g n G Yd m e.genState fp' s1.heap) gs s
def Outp (M : Model) (A : Around) (X : Cx) (pins : List (Addr × Obj)) (ga g n : Nat) (G : Nat → Hp → Prop) (Yd : Nat → V → List (Addr × HO) → Prop) : Nat → L2.St → Hp → End → Shared → Prop
  | 0, σ, H => fun e s1 => e = .ret (.ok (.ret .none)) ∧ L2.Inv X pins σ H s1
  | m + 1, σ, H => fun e s1 => ∃ v l k c p fs, e = .susp v false l k c p fs ∧ e.quiet = true ∧ ∃ y Nw fp', RelV y v ∧ Yd (n - (m + 1)) y Nw ∧ (∀ q ∈ Nw, H q.1 = none) ∧ L2.Inv X pins σ (lay Nw H) s1 ∧
      (∀ b ∈ fp', FpOk X pins (lay Nw H) b ∧ ∃ o, s1.heap.get? b = some o ∧ ∀ v, o.data ≠ .cell v) ∧ ga ∈ fp' ∧ s1.heap.IsGen ga g ∧ Rdy M A X pins ga g n G Yd m e.genState fp' s1.heap
/-- the turns of its loop, by their readings -/
structure GTurn (n : Nat) (G : Nat → Hp → Prop) (Yd : Nat → V → List (Addr × HO) → Prop) (gt : TG) (te : TE) (tp : TS) (J : It) (pr : List (Addr × HO)) (Lp Mid : Nat → L2.St → Prop) : Prop where
  go : ∀ i σ H, i < n → G i H → (∀ q ∈ pr, H q.1 = none) → Lp i σ → J.go i (lay pr H) ∧ ∀ x H', J.yld i (lay pr H) x H' → gt x σ H' fun σ2 H2 => te σ2 H2 fun y H3 => ∃ Nw, H3 = lay Nw (lay pr H) ∧ (∀ q ∈ Nw, lay pr H q.1 = none) ∧ Yd i y Nw ∧ Mid i σ2
  post : ∀ i σ H, i < n → G (i + 1) H → (∀ q ∈ pr, H q.1 = none) → Mid i σ → tp { nx := fun σ4 H4 => H4 = lay pr H ∧ Lp (i + 1) σ4, rt := fun _ _ => False } σ (lay pr H)
  stop : ∀ σ H, G n H → (∀ q ∈ pr, H q.1 = none) → Lp n σ → J.stop n (lay pr H)
structure GDer (P : Program) (w : World) (K : PySem.W.Frag) (mg : Str → Option Value) (base : Heap) (N : List Str) (qual : Str) (scope : Scope) (f : Addr) (cd : Value) (k : Nat) (pre : List Stmt) (tg iter e : Expr) (post : List Stmt) (tpre : TS) (wi : TI) (gt : TG) (te : TE) (tp : TS) : Prop where
  d : ∀ (Ag : Around) (outer : List Env) (L : Addr) (s : Shared) (H : Hp), Room k (Ag.deeper (envOfC qual scope L f cd)) →
    PSs (gCx P w K mg base N qual scope f cd Ag outer L s H) pre tpre ∧ PI (gCx P w K mg base N qual scope f cd Ag outer L s H) tg iter wi ∧ PG (gCx P w K mg base N qual scope f cd Ag outer L s H) tg gt ∧
    PE (gCx P w K mg base N qual scope f cd Ag outer L s H) e te ∧ PSs (gCx P w K mg base N qual scope f cd Ag outer L s H) post tp
section
variable {X : Cx} {pins : List (Addr × Obj)} {N : List Str} {qual : Str} {scope : Scope} {f : Addr} {cd : Value} {k : Nat} {pre post body : List Stmt} {tg iter e : Expr} {tpre tp : TS} {wi : TI} {gt : TG} {te : TE} {n L ga g : Nat} {go : Obj} {G : Nat → Hp → Prop} {Yd : Nat → V → List (Addr × HO) → Prop}
  {J : It} {pr : List (Addr × HO)} {Lp Mid : Nat → L2.St → Prop} {fpi : List Addr} {it : Addr} {tn : Nat → Heap → Prop} {yp ypos : Pos}
abbrev gC (X : Cx) (N : List Str) (qual : Str) (scope : Scope) (f : Addr) (cd : Value) (L : Addr) (fp : List Addr) (s : Shared) (H : Hp) : Cx := gCx X.prog X.w X.K X.mg X.base N qual scope f cd X.A.in1 X.stack L { s with heap := trunc L fp s.heap } (below L H)
/-- what is fixed of a generator, as it was made -/
structure GFix (X : Cx) (scope : Scope) (L ga g : Nat) (go : Obj) : Prop where
  hd : X.A.handled = none
  lt : L < ga
  base : X.base.objs.size ≤ L
  frs : ∀ b ∈ frs X.stack, b < L
  kind : scope.kind = .function
  nc : ∀ y ∈ scope.names, y.2 ≠ .cell ∧ y.2 ≠ .free
  co : scope.isCoroutine = false
  go : go.cls = .type "generator" ∧ (∃ nm qn, go.data = .fields #[.int g 0, nm, qn]) ∧ go.slots = #[]
theorem GFix.gen {h : Heap} (F : GFix X scope L ga g go) (e : h.get? ga = some go) : h.IsGen ga g := by
  obtain ⟨nm, qn, d⟩ := F.go.2.1
  exact ⟨go, nm, qn, e, F.go.1, d, F.go.2.2⟩
theorem GFix.ncell (F : GFix X scope L ga g go) : ∀ v, go.data ≠ .cell v := fun v z => by
  obtain ⟨nm, qn, d⟩ := F.go.2.1
  rw [d] at z; cases z
theorem Mine.nofr {b : Addr} {σ : L2.St} {H : Hp} {s : Shared} (m : Mine X pins b) (I : L2.Inv X pins σ H s) : b ∉ L2.frs X.stack := fun z => by
  rcases List.mem_cons.mp (I.stkSub b z) with q | q
  · exact m.1 q
  · exact m.2.1 q
theorem Mine.nobase {b : Addr} {σ : L2.St} {H : Hp} {s : Shared} (m : Mine X pins b) (I : L2.Inv X pins σ H s) {o : Obj} (e : X.base.get? b = some o) : False := by
  rcases m.2.2.1 with q | q
  · exact I.ok.noex b o e q
  · exact absurd (Nat.lt_of_lt_of_le (Heap.lt_size e) I.ok.bsz) (Nat.not_lt.mpr q)
/-- its iterator's objects are its own -/
theorem gC_fp {fp : List Addr} {sw : Shared} {H Hc : Hp} {ip : List (Addr × Obj)} (F : GFix X scope L ga g go) (hip : ∀ p ∈ ip, p.1 = ga) (hfi : ∀ b ∈ fpi, L ≤ b ∧ b ≠ L ∧ b ≠ ga) (hn : ∀ b ∈ fpi, Hc b = none) :
    ∀ b ∈ fpi, FpOk (gC X N qual scope f cd L fp sw H) ip Hc b := fun b hb => by
  obtain ⟨h1, h2, h3⟩ := hfi b hb
  have cn : (envOfC qual scope L f cd).cells = [] := cells_nil fun y hy => (F.nc y hy).1
  refine ⟨hn b hb, h2, fun z => absurd (F.frs b z) (Nat.not_lt.mpr h1), .inr (Nat.le_trans trunc_le h1), fun x c e => ?_, fun q hq => ?_⟩
  · have e : (envOfC qual scope L f cd).cells.lookup x = some c := e
    rw [cn] at e; cases e
  · have hq : q ∈ [] ++ ip := hq
    rw [List.nil_append] at hq
    rw [hip q hq]; exact Ne.symm h3
theorem loop_top (F : GFix X scope L ga g go) (hr : Room k (X.A.in1.deeper (envOfC qual scope L f cd))) (D : GDer X.prog X.w X.K X.mg X.base N qual scope f cd k pre tg iter e post tpre wi gt te tp)
    (T : Turn X.prog X.w X.K tg J fpi it tn) (U : GTurn n G Yd gt te tp J pr Lp Mid) (hG : ∀ i H H', Same H H' → G i H → G i H') (ho : ∀ q ∈ pr, OwnO q.2) (hi : interactive (envOfC qual scope L f cd) = false)
    (hmi : ∀ b ∈ fpi ++ pr.map (·.1), Mine X pins b) (hfi : ∀ b ∈ fpi, L ≤ b ∧ b ≠ L ∧ b ≠ ga) (hmL : Mine X pins L) (hmg : Mine X pins ga) :
    ∀ (m i : Nat), i + m = n → ∀ (sw s : Shared) (σc σ : L2.St) (H : Hp) (fp0 : List Addr) (kk : Result → Sem PySem.Fin) (gd : Bool) (l kp : List Value) (p : Pos), gd = false → L2.Inv X pins σc H sw → L2.Inv (gC X N qual scope f cd L fp0 sw H) [(ga, go)] σ (lay pr (Hx L sw.heap fp0 H)) s →
      tn i s.heap → G i H → Lp i σ → (∀ b ∈ fpi, lay pr (Hx L sw.heap fp0 H) b = none) → (∀ q ∈ pr, Hx L sw.heap fp0 H q.1 = none) → (∀ b ∈ fp0, Mine X pins b) →
      (∀ A' Φ' s3, Φ' (.ret (.ok (.ret .none))) s3 → Way (model X.prog X.w) A' Φ' (.func body (envOfC qual scope L f cd)) (kk (.ok .next)) [] s3) →
      Way (model X.prog X.w) X.A.in1 (Outp (model X.prog X.w) X.A.in1 X pins ga g n G Yd m σc H)
        (.forLoop tg (.ref it) (.Expr (.Yield (some e) yp) ypos :: post) [] (envOfC qual scope L f cd)) ((model X.prog X.w).den (.forLoop tg (.ref it) (.Expr (.Yield (some e) yp) ypos :: post) [] (envOfC qual scope L f cd))) [.ret kk none gd l (.func body (envOfC qual scope L f cd)) p kp] s := by
  generalize hL0 : (Code.forLoop tg (.ref it) (.Expr (.Yield (some e) yp) ypos :: post) [] (envOfC qual scope L f cd)) = LC
  have ov : ∀ {kk : Result → Sem PySem.Fin} {gd : Bool} {l kp : List Value} {p : Pos}, X.A.in1.over LC [.ret kk none gd l (.func body (envOfC qual scope L f cd)) p kp] = X.A.in1.deeper (envOfC qual scope L f cd) := fun {kk gd l kp p} => by
    rw [← hL0, over_loop rfl rfl, over_func]
  intro m
  induction m with
  | zero =>
    intro i him sw s σc σ H fp0 kk gd l kp p hgd I gI htn hg hLp hfn hpn hm0 hkk
    have ein : i = n := by omega
    subst ein
    have gG := hG i H _ (same_hx (L := L) (h := sw.heap) (fp := fp0)) hg
    refine way_forLoop hL0.symm ?_
    rw [ov]
    have st := gC_fp (N := N) (qual := qual) (f := f) (cd := cd) (fp := fp0) (sw := sw) (H := H) (ip := [(ga, go)]) F (fun p hp => by rw [List.mem_singleton.mp hp]) hfi hfn
    refine wpAny_mono (T.done (gC X N qual scope f cd L fp0 sw H) rfl rfl rfl rfl i [(ga, go)] s σ _ (fun _ _ => False) gI st htn (U.stop σ _ gG hpn hLp)) (fun r s1 ⟨hr1, gI1⟩ => ?_) fun _ _ z => z
    subst hr1
    refine hkk _ _ s1 ⟨rfl, ?_⟩
    exact recover (Nw := []) (pr := pr) (fp := fp0) (s0 := { sw with heap := trunc L fp0 sw.heap }) rfl rfl rfl I rfl rfl gI1 rfl (fun q hq => by cases hq) (fun q hq => ⟨hpn q hq, (ho q hq).pure⟩) F.frs hm0
  | succ m ih =>
    intro i him sw s σc σ H fp0 kk gd l kp p hgd I gI htn hg hLp hfn hpn hm0 hkk
    subst hgd
    have ein : n - (m + 1) = i := by omega
    have gG := hG i H _ (same_hx (L := L) (h := sw.heap) (fp := fp0)) hg
    refine way_forLoop hL0.symm ?_
    rw [ov]
    have st := gC_fp (N := N) (qual := qual) (f := f) (cd := cd) (fp := fp0) (sw := sw) (H := H) (ip := [(ga, go)]) F (fun p hp => by rw [List.mem_singleton.mp hp]) hfi hfn
    obtain ⟨hgo, hyl⟩ := U.go i σ _ (by omega) gG hpn hLp
    refine wpAny_mono (T.item (gC X N qual scope f cd L fp0 sw H) rfl rfl rfl rfl i [(ga, go)] s σ _ (fun _ _ => False) gI st htn hgo) (fun r s1 ⟨u, hr1, h1⟩ => ?_) fun _ _ z => z
    subst hr1
    refine wpAny_mono h1 (fun _ s2 ⟨x, H2, gI2, rx, y2, tn2, n2⟩ => ?_) fun _ _ z => z
    obtain ⟨dpre, dit, dg, de, dpost⟩ := D.d X.A.in1 X.stack L { sw with heap := trunc L fp0 sw.heap } (below L H) hr
    have gI2' := gI2.pinned (gC_fp (N := N) (qual := qual) (f := f) (cd := cd) (fp := fp0) (sw := sw) (H := H) (ip := [(ga, go)]) F (fun p hp => by rw [List.mem_singleton.mp hp]) hfi n2) (T.obj _ _ tn2)
    refine wpAny_mono (dg.run _ s2 σ H2 x u _ gI2' rx (hyl x H2 y2)) (fun _ s3 ⟨σ3, H3, gI3, q3⟩ => ?_) fun _ _ z => z
    refine way_cons (way_Yield rfl rfl ?_ F.co hi)
    rw [ov]
    refine wpAny_mono (de.run _ s3 σ3 H3 _ gI3 q3) (fun v s4 ⟨y, H4, gI4, ry, Nw, hH4, hNw, hYd, hMid⟩ => ?_) fun _ _ z => z
    intro l' k' p' hres
    have Ic := recover (Nw := Nw) (pr := pr) (fp := fp0) (s0 := { sw with heap := trunc L fp0 sw.heap }) rfl rfl rfl I rfl rfl gI4 hH4 hNw (fun q hq => ⟨hpn q hq, (ho q hq).pure⟩) F.frs hm0
    -- what is the generator's
    have hpL : ∀ q ∈ pr, q.1 ≠ L := fun q hq e => by
      have z : lay pr (Hx L sw.heap fp0 H) L = none := gI.free
      obtain ⟨v, _, ev⟩ := lay_val (H := Hx L sw.heap fp0 H) ⟨q, hq, e⟩
      rw [ev] at z; cases z
    have gpin := gI4.pin (ga, go) (List.mem_append_right _ (List.mem_append_left _ (List.mem_singleton.mpr rfl)))
    have hpG : ∀ q ∈ pr, q.1 ≠ ga := fun q hq e => by
      have z := (gI.pin (ga, go) (List.mem_append_right _ (List.mem_singleton.mpr rfl))).2.1
      obtain ⟨v, _, ev⟩ := lay_val (H := Hx L sw.heap fp0 H) ⟨q, hq, e⟩
      rw [ev] at z; cases z
    have hxn : ∀ {b}, Hx L sw.heap fp0 H b = none → H b = none := fun {b} h => by
      cases q : H b with
      | none => rfl
      | some u => rw [hx_some q] at h; cases h
    have off4 : ∀ {b}, H4 b = none → lay Nw H b = none := fun {b} h => by
      by_cases z : ∃ q ∈ Nw, q.1 = b
      · obtain ⟨v, _, ev⟩ := lay_val (H := lay pr (Hx L sw.heap fp0 H)) z
        rw [hH4, ev] at h; cases h
      · rw [hH4, lay_off fun q hq ee => z ⟨q, hq, ee⟩] at h
        rw [lay_off fun q hq ee => z ⟨q, hq, ee⟩]
        by_cases z2 : ∃ q ∈ pr, q.1 = b
        · obtain ⟨v, _, ev⟩ := lay_val (H := Hx L sw.heap fp0 H) z2
          rw [ev] at h; cases h
        · rw [lay_off fun q hq ee => z2 ⟨q, hq, ee⟩] at h
          exact hxn h
    have pr4 : ∀ {b}, (∃ q ∈ pr, q.1 = b) → H4 b = lay pr (Hx L sw.heap fp0 H) b ∧ lay Nw H b = none := fun {b} ⟨q, hq, e⟩ => by
      have nn : ∀ v ∈ Nw, v.1 ≠ b := fun v hv z => by
        have a := hNw v hv
        obtain ⟨c, _, ec⟩ := lay_val (H := Hx L sw.heap fp0 H) ⟨q, hq, e⟩
        rw [z, ec] at a; cases a
      refine ⟨by rw [hH4, lay_off nn], ?_⟩
      rw [lay_off nn, ← e]
      exact hxn (hpn q hq)
    have obj4 : ∀ b ∈ fpi, ∃ o, s4.heap.get? b = some o ∧ (∀ v, o.data ≠ .cell v) ∧ H4 b = none ∧ s2.heap.get? b = some o := fun b hb => by
      obtain ⟨o, e, d⟩ := T.obj _ _ tn2 b hb
      have z := gI4.pin (b, o) (List.mem_append_right _ (List.mem_append_right _ (mem_pinsAt hb e)))
      exact ⟨o, z.1, d, z.2.1, e⟩
    refine ⟨v, l', k', _, p', _, rfl, rfl, y, Nw, L :: ga :: (fpi ++ pr.map (·.1)), ry, by rw [ein]; exact hYd, fun q hq => ?_, Ic, fun b hb => ?_, List.mem_cons_of_mem _ List.mem_cons_self, F.gen gpin.1, ?_⟩
    · have z := hNw q hq
      cases e : H q.1 with
      | none => rfl
      | some u =>
        have ne : ∀ v ∈ pr, v.1 ≠ q.1 := fun v hv ee => by
          rw [← ee, hxn (hpn v hv)] at e; cases e
        rw [lay_off ne, hx_some e] at z; cases z
    · rcases List.mem_cons.mp hb with e | hb
      · subst e
        obtain ⟨mm, ⟨o, es, ep, ho', d, _⟩, _⟩ := gI4.loc
        exact ⟨hmL.ok (off4 gI4.free), o, ho', fun v z => by rw [d] at z; cases z⟩
      rcases List.mem_cons.mp hb with e | hb
      · subst e
        exact ⟨hmg.ok (off4 gpin.2.1), go, gpin.1, F.ncell⟩
      rcases List.mem_append.mp hb with hb' | hb'
      · obtain ⟨o, e1, e2, e3, _⟩ := obj4 b hb'
        exact ⟨(hmi b hb).ok (off4 e3), o, e1, e2⟩
      · obtain ⟨q, hq, e⟩ := List.mem_map.mp hb'
        obtain ⟨e1, e2⟩ := pr4 ⟨q, hq, e⟩
        obtain ⟨w, hw, ew⟩ := lay_val (H := Hx L sw.heap fp0 H) ⟨q, hq, e⟩
        obtain ⟨o, e3, e4⟩ := OwnO.there (gI4.hok b w.2 (e1.trans ew)) (ho w hw)
        exact ⟨(hmi b hb).ok e2, o, e3, e4⟩
    · -- woken again
      generalize hfp : L :: ga :: (fpi ++ pr.map (·.1)) = fp'
      have mL : L ∈ fp' := by rw [← hfp]; exact List.mem_cons_self
      have mG : ga ∈ fp' := by rw [← hfp]; exact List.mem_cons_of_mem _ List.mem_cons_self
      have mI : ∀ b ∈ fpi, b ∈ fp' := fun b hb => by rw [← hfp]; exact List.mem_cons_of_mem _ (List.mem_cons_of_mem _ (List.mem_append_left _ hb))
      have mP : ∀ q ∈ pr, q.1 ∈ fp' := fun q hq => by rw [← hfp]; exact List.mem_cons_of_mem _ (List.mem_cons_of_mem _ (List.mem_append_right _ (List.mem_map.mpr ⟨q, hq, rfl⟩)))
      have mm : ∀ b ∈ fp', Mine X pins b := fun b hb => by
        rw [← hfp] at hb
        rcases List.mem_cons.mp hb with e | hb
        · rw [e]; exact hmL
        rcases List.mem_cons.mp hb with e | hb
        · rw [e]; exact hmg
        · exact hmi b hb
      have again : ∀ (s : Shared) (σ' : L2.St) (H' : Hp), L2.Inv X pins σ' H' s → (∀ b ∈ fp', H' b = none ∧ ∀ o, s4.heap.get? b = some o → s.heap.get? b = some o) → G (i + 1) H' → Way (model X.prog X.w) X.A.in1 (Outp (model X.prog X.w) X.A.in1 X pins ga g n G Yd m σ' H')
          LC (k' (.send .none)) [.ret kk none false l (.func body (envOfC qual scope L f cd)) p kp] s := by
        intro s σ' H' I' hk' hg'
        refine hres _ _ s ?_
        obtain ⟨mm4, ⟨oL, es, ep, hoL, dL, rL⟩, _⟩ := id gI4.loc
        have sL : s.heap.get? L = some oL := (hk' L mL).2 oL hoL
        have fr' : ∀ q ∈ pr, Hx L s.heap fp' H' q.1 = none := fun q hq => by rw [hx_own (mP q hq)]; exact (hk' _ (mP q hq)).1
        have loc' : SlotsAt (envOfC qual scope L f cd) N σ3 s.heap := SlotsAt.stay F.nc (show SlotsAt (envOfC qual scope L f cd) N σ3 s4.heap from gI4.loc) fun o e => (hk' L mL).2 o e
        have hgL : lay pr (Hx L s.heap fp' H') L = none := by rw [lay_off hpL, hx_own mL]; exact (hk' L mL).1
        have hgG : lay pr (Hx L s.heap fp' H') ga = none := by rw [lay_off hpG, hx_own mG]; exact (hk' ga mG).1
        have hok' : HOk X.prog X.w (lay pr (Hx L s.heap fp' H')) s.heap := by
          refine hok_lay (hok_hx I'.hok) fr' fun b u z e => ?_
          obtain ⟨q, hq, eq⟩ := z
          obtain ⟨e1, _⟩ := pr4 ⟨q, hq, eq⟩
          have e2 : H4 b = some u := by rw [e1, lay_in (B := Hx L s.heap fp' H') ⟨q, hq, eq⟩]; exact e
          obtain ⟨w, hw, ew⟩ := lay_val (H := Hx L s.heap fp' H') ⟨q, hq, eq⟩
          rw [ew] at e
          have eu := Option.some.inj e
          subst eu
          exact OwnO.keep (gI4.hok b _ e2) (ho w hw) fun ob h => (hk' b (by rw [← eq]; exact mP q hq)).2 ob h
        have gI' := regX (P := X.prog) (w := X.w) (K := X.K) (mg := X.mg) (base := X.base) (N := N) (qual := qual) (scope := scope) (f := f) (cd := cd) (Ag := X.A.in1) (outer := X.stack) (L := L) (ga := ga) (go := go) (fp := fp') (Hg := lay pr (Hx L s.heap fp' H')) (σ := σ3) I'.env0 F.hd I'.ok.frames (Nat.le_of_lt (Heap.lt_size sL)) F.base
          (fun b hb => ⟨F.frs b hb, fun z => (mm b z).nofr I' hb⟩) (fun b o e z => (mm b z).nobase I' e) (fun b hb => (hk' b hb).1) F.kind F.nc loc' hgL ⟨(hk' ga mG).2 go gpin.1, hgG, Ne.symm (Nat.ne_of_lt F.lt), Nat.le_of_lt F.lt, F.ncell⟩ hok' gI4.len fun b hb hbf => by
            rw [lay_off fun q hq e => hbf (by rw [← e]; exact mP q hq), hx_lt hb]
        have hfn' : ∀ b ∈ fpi, lay pr (Hx L s.heap fp' H') b = none := fun b hb => by
          rw [lay_off fun q hq e => ?_, hx_own (mI b hb)]
          · exact (hk' b (mI b hb)).1
          · obtain ⟨c, _, ec⟩ := lay_val (H := Hx L sw.heap fp0 H) ⟨q, hq, e⟩
            rw [hfn b hb] at ec; cases ec
        have st' := gC_fp (N := N) (qual := qual) (f := f) (cd := cd) (fp := fp') (sw := s) (H := H') (ip := [(ga, go)]) F (fun p hp => by rw [List.mem_singleton.mp hp]) hfi hfn'
        have objs : ∀ b ∈ fpi, ∃ o, s.heap.get? b = some o ∧ (∀ v, o.data ≠ .cell v) := fun b hb => by
          obtain ⟨o, e1, e2, _⟩ := obj4 b hb
          exact ⟨o, (hk' b (mI b hb)).2 o e1, e2⟩
        have gI2'' := gI'.pinned st' objs
        obtain ⟨_, _, _, _, dp'⟩ := D.d X.A.in1 X.stack L { s with heap := trunc L fp' s.heap } (below L H') hr
        refine way_wrap (gd := id) (lv := id) ?_
        rw [ov]
        have gG' := hG (i + 1) H' _ (same_hx (L := L) (h := s.heap) (fp := fp')) hg'
        refine wpAny_mono (dp'.run _ s σ3 _ _ gI2'' (U.post i σ3 _ (by omega) gG' fr' hMid)) (fun fl s5 hs5 => ?_) fun _ _ z => z.elim
        cases fl with
        | next =>
          obtain ⟨σ5, H5, gI5, eH5, hLp5⟩ := hs5
          subst eH5
          refine way_again (by rw [← hL0]; rfl) ?_
          refine ih (i + 1) (by omega) s s5 σ' σ5 H' fp' kk false l kp p rfl I' gI5.unpinned (T.keep _ _ _ tn2 fun b hb o e => ?_) hg' hLp5 hfn' fr' mm hkk
          obtain ⟨o', e1, _, _, e2⟩ := obj4 b hb
          rw [e] at e2
          obtain rfl := Option.some.inj e2
          exact (gI5.pin (b, o) (List.mem_append_right _ (List.mem_append_right _ (mem_pinsAt hb ((hk' b (mI b hb)).2 o e1))))).1
        | brk => obtain ⟨_, _, _, z⟩ := hs5; exact z.elim
        | cont => obtain ⟨_, _, _, z⟩ := hs5; exact z.elim
        | ret v => obtain ⟨_, _, _, _, _, z⟩ := hs5; exact z.elim
      cases m with
      | zero =>
        intro s σ' H' I' hk' hg'
        have e1 : n = i + 1 := by omega
        rw [e1] at hg'
        exact again s σ' H' I' hk' hg'
      | succ m' =>
        intro s σ' H' I' hk' hg'
        have e1 : n - (m' + 1) = i + 1 := by omega
        rw [e1] at hg'
        exact again s σ' H' I' hk' hg'
end
open GenW
open Sem (wp)
/-! ### what was freed stays so: what is new stands at a new place -/
def Gone (b : Addr) (s : Shared) : Prop := b < s.heap.objs.size ∧ s.heap.get? b = none
theorem Gone.update {b a : Addr} {s : Shared} {f : Obj → Obj} (x : Gone b s) (h : (s.heap.get? a).isSome) : Gone b { s with heap := s.heap.update a f } := by
  refine ⟨?_, ?_⟩
  · show b < (s.heap.update a f).objs.size
    rw [Heap.size_after_update]; exact x.1
  · show (s.heap.update a f).get? b = none
    rw [Heap.get?_update_other _ _ fun e => ?_]
    · exact x.2
    · rw [e, x.2] at h; cases h
theorem Gone.push {b : Addr} {s : Shared} {o : Obj} (x : Gone b s) : Gone b { s with heap := s.heap.push o } := by
  have hl : b < (s.heap.push o).objs.size := by rw [Heap.size_push]; exact Nat.lt_succ_of_lt x.1
  refine ⟨hl, ?_⟩
  show (s.heap.push o).get? b = none
  have e : (s.heap.push o).objs[b]? = s.heap.objs[b]? := by
    have h1 := x.1
    obtain ⟨⟨objs, l⟩, _, _, _, _⟩ := s
    show (objs.push o)[b]? = objs[b]?
    rw [Array.getElem?_push, if_neg (Nat.ne_of_lt h1)]
  unfold Heap.get?
  rw [e]
  exact x.2
theorem runs_gone {M : Model} {Γ : PySem.Ctx} {p : Pos} {t : Sem PySem.Fin} {fs : List Frame} {s s' : Shared} {e : End} {b : Addr} (h : Runs M Γ p t fs s e s') : Gone b s → Gone b s' := by
  induction h with
  | update ho _ ih => exact fun x => ih (x.update ho)
  | alloc _ ih => exact fun x => ih x.push
  | call _ _ ih1 ih2 => exact fun x => ih2 (ih1 x)
  | resumeFresh _ _ _ _ ih1 ih2 => exact fun x => ih2 (ih1 x)
  | resumeSuspended _ _ _ _ ih1 ih2 => exact fun x => ih2 (ih1 x)
  | segRet _ _ ih1 ih2 => exact fun x => ih2 (ih1 x)
  | segGen _ _ ih1 ih2 => exact fun x => ih2 (ih1 x)
  | segSuspGen _ _ _ _ ih1 ih2 => exact fun x => ih2 (ih1 x)
  | done => exact id
  | raise => exact id
  | yield => exact id
  | _ => first | (rename_i ih; exact fun x => ih x) | skip
/-- what is there behind it, and wasn't ahead of it, stands at a new place -/
theorem wpAny_new {M : Model} {α : Type} {A : Around} {t : Sem α} {Q : α → Shared → Prop} {E : Value → Shared → Prop} {s : Shared} (h : wpAny M A t Q E s) :
    wpAny M A t (fun a s' => (∀ b, Gone b s → Gone b s') ∧ Q a s') (fun e s' => (∀ b, Gone b s → Gone b s') ∧ E e s') s := fun Γ p hΓ => by
  have q := h Γ p hΓ
  -- for all at once
  have all : ∀ (t : Sem α) (Q : α → Pos → Shared → Prop) (E : Value → Pos → Shared → Prop) (p : Pos) (s0 s : Shared), (∀ b, Gone b s0 → Gone b s) → wp M Γ t Q E p s →
      wp M Γ t (fun a p' s' => (∀ b, Gone b s0 → Gone b s') ∧ Q a p' s') (fun e p' s' => (∀ b, Gone b s0 → Gone b s') ∧ E e p' s') p s := by
    intro t
    induction t with
    | pure a => exact fun Q E p s0 s x h => ⟨x, h⟩
    | raise e => exact fun Q E p s0 s x h => ⟨x, h⟩
    | unsupported _ => exact fun Q E p s0 s _ h => h
    | finish _ => exact fun Q E p s0 s _ h => h
    | rule _ k ih => exact fun Q E p s0 s x h => ih () Q E p s0 s x h
    | «at» p' k ih => exact fun Q E p s0 s x h => ih () Q E p' s0 s x h
    | load a _ k ih => exact fun Q E p s0 s x ⟨o, ho, h⟩ => ⟨o, ho, ih o Q E p s0 s x h⟩
    | update a _ f k ih => exact fun Q E p s0 s x h => ⟨h.1, ih () Q E p s0 _ (fun b z => (x b z).update h.1) h.2⟩
    | loadIfAlive a k ih => exact fun Q E p s0 s x h => ih _ Q E p s0 s x h
    | point _ k ih => exact fun Q E p s0 s x h => ih () Q E p s0 s x h
    | register _ _ => exact fun Q E p s0 s _ h => h
    | alloc o k ih => exact fun Q E p s0 s x h => ih _ Q E p s0 _ (fun b z => (x b z).push) h
    | fresh k ih => exact fun Q E p s0 s x h => ih _ Q E p s0 _ x h
    | ask k ih => exact fun Q E p s0 s x h => ih _ Q E p s0 s x h
    | choose src m k ih => exact fun Q E p s0 s x h => ⟨h.1, ih _ Q E p s0 _ x h.2⟩
    | os q _ k ih => exact fun Q E p s0 s x h => ih _ Q E p s0 _ x h
    | call c hd _ _ k ih => exact fun Q E p s0 s x ⟨r, s', hr, h⟩ => ⟨r, s', hr, ih r Q E p s0 s' (fun b z => runs_gone (show Runs M _ _ _ _ _ _ _ from hr) (x b z)) h⟩
    | handled own k ih => exact fun Q E p s0 s x h => ih _ Q E p s0 s x h
    | genState g k ih => exact fun Q E p s0 s x ⟨st, hs, h⟩ => ⟨st, hs, ih _ Q E p s0 s x h⟩
    | newGen c k ih => exact fun Q E p s0 s x h => ih _ Q E p s0 _ x h
    | resume g r l k ih =>
      rintro Q E p s0 s x ⟨res, s', hw, h⟩
      refine ⟨res, s', hw, ih res Q E p s0 s' (fun b z => ?_) h⟩
      have x := x b z
      unfold Wakes at hw
      split at hw
      · exact hw.elim
      · split at hw
        · obtain ⟨e1, s1, hr, _, _, rfl⟩ := hw
          exact (show Gone b s1 from runs_gone hr (show Gone b (s.setGen g .running) from x))
        · rw [hw.2]; exact x
        · rw [hw.2]; exact x
      · obtain ⟨e1, s1, hr, _, _, rfl⟩ := hw
        exact (show Gone b s1 from runs_gone hr (show Gone b (s.setGen g .running) from x))
      · rw [hw.2]; exact x
      · rw [hw.2]; exact x
    | yield _ _ _ _ => exact fun Q E p s0 s _ h => h
    | stack k ih => exact fun Q E p s0 s x h => ih _ Q E p s0 s x h
    | fork _ _ => exact fun Q E p s0 s _ h => h
    | thread k ih => exact fun Q E p s0 s x h => ih _ Q E p s0 s x h
    | await _ _ _ _ _ => exact fun Q E p s0 s _ h => h
  exact all t _ _ p s s (fun _ z => z) q
open GenW
section
variable {X : Cx} {pins : List (Addr × Obj)} {N : List Str} {qual : Str} {scope : Scope} {f : Addr} {cd : Value} {k : Nat} {pre post body : List Stmt} {tg iter e : Expr} {tpre tp : TS} {wi : TI} {gt : TG} {te : TE} {n L ga g : Nat} {go : Obj} {G : Nat → Hp → Prop} {Yd : Nat → V → List (Addr × HO) → Prop} {yp ypos fpos : Pos} {σ0 : L2.St} {h0 : Heap}
/-- a generator that has not begun -/
theorem rdy_fresh (F : GFix X scope L ga g go) (hr : Room k (X.A.in1.deeper (envOfC qual scope L f cd))) (D : GDer X.prog X.w X.K X.mg X.base N qual scope f cd k pre tg iter e post tpre wi gt te tp) (hG : ∀ i H H', Same H H' → G i H → G i H')
    (hi : interactive (envOfC qual scope L f cd) = false) (hs : ∀ x, foldedSetIterable iter (envOfC qual scope L f cd) x = pure x) (hb : body = pre ++ [.For tg iter (.Expr (.Yield (some e) yp) ypos :: post) [] fpos])
    (first : ∀ H, G 0 H → tpre { nx := fun σ1 H1 => wi σ1 H1 fun J H2 => ∃ pr Lp Mid, H2 = lay pr H ∧ (∀ q ∈ pr, H q.1 = none ∧ OwnO q.2) ∧ Lp 0 σ1 ∧ GTurn n G Yd gt te tp J pr Lp Mid, rt := fun _ _ => False } σ0 H)
    (loc : SlotsAt (envOfC qual scope L f cd) N σ0 h0) (len : σ0.length = N.length) (hga : h0.get? ga = some go) (hmL : Mine X pins L) (hmg : Mine X pins ga) :
    Rdy (model X.prog X.w) X.A.in1 X pins ga g n G Yd n (.fresh (.func body (envOfC qual scope L f cd))) [L, ga] h0 := by
  have mm : ∀ b ∈ [L, ga], Mine X pins b := fun b hb => by
    rcases List.mem_cons.mp hb with e | hb
    · rw [e]; exact hmL
    · rw [List.mem_singleton.mp hb]; exact hmg
  have mL : L ∈ [L, ga] := List.mem_cons_self
  have mG : ga ∈ [L, ga] := List.mem_cons_of_mem _ (List.mem_singleton.mpr rfl)
  have main : ∀ (s : Shared) (σ' : L2.St) (H : Hp), L2.Inv X pins σ' H s → (∀ b ∈ [L, ga], H b = none ∧ ∀ o, h0.get? b = some o → s.heap.get? b = some o) → G 0 H →
      Way (model X.prog X.w) X.A.in1 (Outp (model X.prog X.w) X.A.in1 X pins ga g n G Yd n σ' H) (.func body (envOfC qual scope L f cd)) ((model X.prog X.w).den (.func body (envOfC qual scope L f cd))) [] s := by
    intro s σ' H I hk hg
    obtain ⟨m0, ⟨oL, es, ep, hoL, dL, rL⟩, _⟩ := id loc
    have sL : s.heap.get? L = some oL := (hk L mL).2 oL hoL
    have hxL : Hx L s.heap [L, ga] H L = none := by rw [hx_own mL]; exact (hk L mL).1
    have hxG : Hx L s.heap [L, ga] H ga = none := by rw [hx_own mG]; exact (hk ga mG).1
    have gI := regX (P := X.prog) (w := X.w) (K := X.K) (mg := X.mg) (base := X.base) (N := N) (qual := qual) (scope := scope) (f := f) (cd := cd) (Ag := X.A.in1) (outer := X.stack) (L := L) (ga := ga) (go := go) (fp := [L, ga]) (Hg := Hx L s.heap [L, ga] H) (σ := σ0) I.env0 F.hd I.ok.frames (Nat.le_of_lt (Heap.lt_size sL)) F.base
      (fun b hb => ⟨F.frs b hb, fun z => (mm b z).nofr I hb⟩) (fun b o e z => (mm b z).nobase I e) (fun b hb => (hk b hb).1) F.kind F.nc (SlotsAt.stay F.nc loc fun o e => (hk L mL).2 o e) hxL ⟨(hk ga mG).2 go hga, hxG, Ne.symm (Nat.ne_of_lt F.lt), Nat.le_of_lt F.lt, F.ncell⟩ (hok_hx I.hok) len fun b hb hbf => hx_lt hb
    obtain ⟨dpre, dit, dg, de, dpost⟩ := D.d X.A.in1 X.stack L { s with heap := trunc L [L, ga] s.heap } (below L H) hr
    have gG := hG 0 H _ (same_hx (L := L) (h := s.heap) (fp := [L, ga])) hg
    refine way_func ?_
    rw [hb]
    refine way_execs ?_
    rw [over_func]
    refine wpAny_mono (wpAny_new (dpre.run [(ga, go)] s σ0 _ _ gI (first _ gG))) (fun fl s1 ⟨new1, hs1⟩ => ?_) fun _ _ z => z.2.elim
    cases fl with
    | brk => obtain ⟨_, _, _, z⟩ := hs1; exact z.elim
    | cont => obtain ⟨_, _, _, z⟩ := hs1; exact z.elim
    | ret v => obtain ⟨_, _, _, _, _, z⟩ := hs1; exact z.elim
    | next =>
      obtain ⟨σ1, H1, gI1, q1⟩ := hs1
      refine ⟨rfl, way_cons (way_For ?_ hs)⟩
      rw [over_func]
      refine wpAny_mono (wpAny_new (dit.run [(ga, go)] s1 σ1 H1 _ gI1 q1)) (fun v s2 ⟨new2, hs2⟩ => ?_) fun _ _ z => z.2.elim
      refine wpAny_mono (wpAny_new hs2) (fun itv s3 ⟨new3, hs3⟩ => ?_) fun _ _ z => z.2.elim
      intro kk gd l p hgd hres
      obtain ⟨it, fpi, tn, J, H2, eit, gI3, T, tn0, hfp, pr, Lp, Mid, hH2, hpr, hLp, U⟩ := hs3
      subst eit
      subst hH2
      have gone : ∀ b, b < s.heap.objs.size → s.heap.get? b = none → s3.heap.get? b = none := fun b h1 h2 => (new3 b (new2 b (new1 b ⟨h1, h2⟩))).2
      have fresh : ∀ b, Hx L s.heap [L, ga] H b = none → b ≠ L → b ≠ ga → (L ≤ b ∨ lay pr (Hx L s.heap [L, ga] H) b ≠ none) → (∃ o, s3.heap.get? b = some o) → s.heap.objs.size ≤ b ∧ H b = none := fun b h1 h2 h3 h4 ⟨o, h5⟩ => by
        have hn : H b = none := by
          cases q : H b with
          | none => rfl
          | some u => rw [hx_some q] at h1; cases h1
        have nf : b ∉ [L, ga] := fun z => by
          rcases List.mem_cons.mp z with e | z
          · exact h2 e
          · exact h3 (List.mem_singleton.mp z)
        refine ⟨Nat.not_lt.mp fun hlt => ?_, hn⟩
        cases e : s.heap.get? b with
        | none => rw [gone b hlt e] at h5; cases h5
        | some ob =>
          by_cases hl : b < L
          · have t1 : (trunc L [L, ga] s.heap).get? b = some ob := by rw [trunc_lt hl nf]; exact e
            have z : lay pr (Hx L s.heap [L, ga] H) b = none := gI3.base.free b ob t1 (by show below L H b = none; rw [below_lt hl]; exact hn) (by show b ∉ ([] : List Addr); simp)
            rcases h4 with h4 | h4
            · exact absurd hl (Nat.not_lt.mpr h4)
            · exact h4 z
          · rw [hx_out hn (Nat.not_lt.mp hl) nf e] at h1; cases h1
      have prF : ∀ q ∈ pr, s.heap.objs.size ≤ q.1 ∧ H q.1 = none := fun q hq => by
        obtain ⟨c, hc, ec⟩ := lay_val (H := Hx L s.heap [L, ga] H) ⟨q, hq, rfl⟩
        have nL : q.1 ≠ L := fun z => by
          have a : lay pr (Hx L s.heap [L, ga] H) L = none := gI3.free
          have e2 := (congrArg (lay pr (Hx L s.heap [L, ga] H)) z).symm.trans ec
          rw [a] at e2; cases e2
        have nG : q.1 ≠ ga := fun z => by
          have a := (gI3.pin (ga, go) (List.mem_append_right _ (List.mem_singleton.mpr rfl))).2.1
          have a : lay pr (Hx L s.heap [L, ga] H) ga = none := a
          have e2 := (congrArg (lay pr (Hx L s.heap [L, ga] H)) z).symm.trans ec
          rw [a] at e2; cases e2
        exact fresh q.1 (hpr q hq).1 nL nG (.inr (by rw [ec]; exact fun z => by cases z)) (ObjOk.there (gI3.hok q.1 c.2 ec))
      have ftr : (trunc L [L, ga] s.heap).objs.size = L := trunc_size (Nat.le_of_lt (Heap.lt_size sL))
      have hfi : ∀ b ∈ fpi, L ≤ b ∧ b ≠ L ∧ b ≠ ga := fun b hb => by
        obtain ⟨_, h2, _, h4, _, h6⟩ := hfp b hb
        refine ⟨?_, h2, fun z => h6 (ga, go) (List.mem_append_right _ (List.mem_singleton.mpr rfl)) z.symm⟩
        rcases h4 with h4 | h4
        · exact absurd (show b ∈ ([] : List Addr) from h4) (by simp)
        · have h4 : (trunc L [L, ga] s.heap).objs.size ≤ b := h4
          rw [ftr] at h4; exact h4
      have fiF : ∀ b ∈ fpi, s.heap.objs.size ≤ b ∧ H b = none := fun b hb => by
        obtain ⟨h1, h2, h3⟩ := hfi b hb
        have a : lay pr (Hx L s.heap [L, ga] H) b = none := (hfp b hb).1
        have a2 : Hx L s.heap [L, ga] H b = none := by
          by_cases z : ∃ q ∈ pr, q.1 = b
          · obtain ⟨c, _, ec⟩ := lay_val (H := Hx L s.heap [L, ga] H) z
            rw [ec] at a; cases a
          · rw [lay_off fun q hq ee => z ⟨q, hq, ee⟩] at a; exact a
        obtain ⟨o, e1, _⟩ := T.obj _ _ tn0 b hb
        exact fresh b a2 h2 h3 (.inl h1) ⟨o, e1⟩
      refine loop_top (n := n) (i := 0) (N := N) F hr D T U hG (fun q hq => (hpr q hq).2) hi (fun b hb => ?_) hfi hmL hmg n (Nat.zero_add _) s s3 σ' σ1 H [L, ga] kk gd l [] p hgd I gI3 tn0 hg hLp (fun b hb => (hfp b hb).1) (fun q hq => (hpr q hq).1) mm fun A' Φ' s4 w => ?_
      · rcases List.mem_append.mp hb with hb | hb
        · exact (I.fpOk (fiF b hb).1 (fiF b hb).2).2
        · obtain ⟨q, hq, e⟩ := List.mem_map.mp hb
          rw [← e]
          exact (I.fpOk (prF q hq).1 (prF q hq).2).2
      · refine hres A' Φ' s4 ?_
        exact way_end (.ok (.ret .none)) w
  cases n with
  | zero => exact fun s σ' H I hk hg => main s σ' H I hk hg
  | succ m =>
    intro s σ' H I hk hg
    rw [Nat.sub_self] at hg
    exact main s σ' H I hk hg
end
open GenW
/-- a generator def's promise: how many it hands out, what must stand ahead of each wake, what is handed out with the objects that are new -/
abbrev SpY := List V → Nat → (Nat → Hp → Prop) → (Nat → V → List (Addr × HO) → Prop) → Prop
/-- a generator that has been made -/
def GMd (P : Program) (w : World) (K : PySem.W.Frag) (mg : Str → Option Value) (base : Heap) (A : Around) (outer : List Env) (n : Nat) (G : Nat → Hp → Prop) (Yd : Nat → V → List (Addr × HO) → Prop) (u : Value) (s s' : Shared) : Prop :=
  ∃ L ga g gs, u = .ref ga ∧ s.heap.objs.size ≤ L ∧ L < ga ∧ s'.os = s.os ∧ AllBare s'.gens ∧ (∀ b o, s.heap.get? b = some o → s'.heap.get? b = some o) ∧ s'.gens[g]? = some gs ∧ s'.heap.IsGen ga g ∧ (∀ b ∈ [L, ga], ∃ o, s'.heap.get? b = some o ∧ ∀ v, o.data ≠ .cell v) ∧
    ∀ (X : Cx) (pins : List (Addr × Obj)), X.prog = P → X.w = w → X.K = K → X.mg = mg → X.base = base → X.A = A → X.stack = outer → Mine X pins L → Mine X pins ga →
      ∀ h0 : Heap, (∀ b ∈ [L, ga], ∀ o, s'.heap.get? b = some o → h0.get? b = some o) → Rdy (model P w) A.in1 X pins ga g n G Yd n gs [L, ga] h0
structure GenFn (P : Program) (w : World) (K : PySem.W.Frag) (mg : Str → Option Value) (base : Heap) (k : Nat) (f : Addr) (fd : FuncData) (ps : List Str) (sp : SpY) : Prop where
  len : ∀ vs n G Yd, sp vs n G Yd → vs.length = ps.length
  go : ∀ {A : Around} {outer : List Env} {s : Shared} {H : Hp} {args : Args} {us : List Value} {vs : List V} {n : Nat} {G : Nat → Hp → Prop} {Yd : Nat → V → List (Addr × HO) → Prop}, Room k A → Env0 P w K mg base A outer s H → BindsTo s fd args (ps.zip us) → Vals vs us → sp vs n G Yd →
    codeAny (model P w) A (.call (.ref f) args) (fun r s' => ∃ u, r = .ok (.ret u) ∧ GMd P w K mg base A outer n G Yd u s s') s
/-! the parts of a def whose body ends in a loop that begins with yield -/
def noPos : Pos := ⟨0, 0, 0, 0⟩
def noE : Expr := .Name "" noPos
def lastO : List Stmt → Stmt
  | [] => .Pass noPos
  | s :: r => match r with
    | [] => s
    | _ :: _ => lastO r
def initO : List Stmt → List Stmt
  | [] => []
  | s :: r => match r with
    | [] => []
    | _ :: _ => s :: initO r
def lastS (st : Stmt) : Stmt := lastO (defBody st)
def tgOf : Stmt → Expr
  | .For t _ _ _ _ => t
  | _ => noE
def iterOf : Stmt → Expr
  | .For _ t _ _ _ => t
  | _ => noE
def bodOf : Stmt → List Stmt
  | .For _ _ b _ _ => b
  | _ => []
def fpOf : Stmt → Pos
  | .For _ _ _ _ p => p
  | _ => noPos
def yldOf : List Stmt → Expr
  | .Expr (.Yield (some e) _) _ :: _ => e
  | _ => noE
def ypOf : List Stmt → Pos
  | .Expr (.Yield _ p) _ :: _ => p
  | _ => noPos
def yposOf : List Stmt → Pos
  | .Expr _ p :: _ => p
  | _ => noPos
section
variable {P : Program} {w : World} {K : PySem.W.Frag} {mg : Str → Option Value} {base : Heap}
/-- by its body -/
theorem GenFn.mk' {x qual : Str} {st : Stmt} {f : Addr} {fd : FuncData} {N ps : List Str} {k : Nat} {sp : SpY} (F : Fun K x qual st f fd) (S : GScope N ps (defScope st)) (nc : ∀ y ∈ (defScope st).names, y.2 ≠ .cell ∧ y.2 ≠ .free)
    (hb : defBody st = initO (defBody st) ++ [.For (tgOf (lastS st)) (iterOf (lastS st)) (.Expr (.Yield (some (yldOf (bodOf (lastS st)))) (ypOf (bodOf (lastS st)))) (yposOf (bodOf (lastS st))) :: (bodOf (lastS st)).tail) [] (fpOf (lastS st))]) (hs : ∀ (env : Env) (x : Value), foldedSetIterable (iterOf (lastS st)) env x = pure x) (len : ∀ vs n G Yd, sp vs n G Yd → vs.length = ps.length)
    (body : ∀ (cdv : Value) (vs : List V) (n : Nat) (G : Nat → Hp → Prop) (Yd : Nat → V → List (Addr × HO) → Prop), sp vs n G Yd → (∀ i H H', Same H H' → G i H → G i H') ∧ ∃ tpre wi gt te tp, GDer P w K mg base N qual (defScope st) f cdv k (initO (defBody st)) (tgOf (lastS st)) (iterOf (lastS st)) (yldOf (bodOf (lastS st))) (bodOf (lastS st)).tail tpre wi gt te tp ∧
      ∀ H, G 0 H → tpre { nx := fun σ1 H1 => wi σ1 H1 fun J H2 => ∃ pr Lp Mid, H2 = lay pr H ∧ (∀ q ∈ pr, H q.1 = none ∧ OwnO q.2) ∧ Lp 0 σ1 ∧ GTurn n G Yd gt te tp J pr Lp Mid, rt := fun _ _ => False } (start N vs) H) : GenFn P w K mg base (k + 1) f fd ps sp := by
  obtain ⟨oc, od, kV, doc, pm, an, cdv, ct, osl, rfl, lk, hcd⟩ := F.ex
  refine ⟨len, ?_⟩
  intro A outer s H args us vs n G Yd hr e0 hbd r hsp
  obtain ⟨hG, tpre, wi, gt, te, tp, D, first⟩ := body cdv vs n G Yd hsp
  have hl := len _ _ _ _ hsp
  have KX : K.In s.heap := e0.mod.kin.keeps fun b o e => (e0.bs b o e).1
  have lim : s.heap.NoLimit := e0.mod.nolimit.keeps fun b o e => (e0.bs b o e).1
  have kinds : ∀ q ∈ ps.zip us, (defScope st).names.lookup q.1 = some .local ∨ ((defScope st).names.lookup q.1 = some .cell ∧ ((cellsFrom (s.heap.objs.size + 1) (defScope st).names []).lookup q.1).isSome = true) := by
    rintro ⟨a, v⟩ hq
    exact (S.par a (List.of_mem_zip hq).1).elim .inl fun c => .inr ⟨c, PySem.W.cellsFrom_some _ _ _ (.inl c)⟩
  refine codeAny_call_generator hr.depth (KX _ _ lk) rfl S.co S.gen rfl (PySem.W.codeRec_of KX hcd) (hbd _ _ _ _ ?_)
  refine wpAny_newFunctionEnv_cells S.kind kinds fun env he s1 ic => ?_
  subst he
  refine ⟨lim.keeps ic.toInCall.keep, _, rfl, ?_⟩
  obtain ⟨h1, tk, es1, hk1⟩ := ic.done
  have os1 : s1.os = s.os := by rw [es1]
  have gen1 : s1.gens = s.gens := by rw [es1]
  have lt1 : s.heap.objs.size < s1.heap.objs.size := ic.toInCall.ns.lt
  have kp1 : ∀ b o, s.heap.get? b = some o → s1.heap.get? b = some o := ic.toInCall.keep
  have I1 : L2.Inv (gcxOf P w K mg base N qual (defScope st) f cdv A outer s H (fun _ _ _ => False) []) [] (start N vs) H s1 := inv_startG S hr.hd e0 hl r ic
  have loc1 : SlotsAt (envOfC qual (defScope st) s.heap.objs.size f cdv) N (start N vs) s1.heap := I1.loc
  have main : ∀ (go : Obj) (nm qn : Value) (tk2 : Nat), go.cls = .type "generator" → go.data = .fields #[.int s1.gens.size 0, nm, qn] → go.slots = #[] → (∀ h : Heap, (h.push go).get? h.objs.size = some go) →
      GMd P w K mg base A outer n G Yd (.ref s1.heap.objs.size) s { s1 with gens := s1.gens.push (.fresh (.func (defBody st) (envOfC qual (defScope st) s.heap.objs.size f cdv))), toks := tk2, heap := s1.heap.push go } := by
    intro go nm qn tk2 hgc hgd hgs hgp
    have hpushed : (s1.heap.push go).get? s1.heap.objs.size = some go := hgp _
    have isg : (s1.heap.push go).IsGen s1.heap.objs.size s1.gens.size := ⟨go, nm, qn, hpushed, hgc, hgd, hgs⟩
    obtain ⟨m0, ⟨oL, es, ep, hoL, dL, rL⟩, _⟩ := id loc1
    have hoL : s1.heap.get? s.heap.objs.size = some oL := hoL
    refine ⟨s.heap.objs.size, s1.heap.objs.size, s1.gens.size, _, rfl, Nat.le_refl _, lt1, os1, AllBare.push (by rw [gen1]; exact e0.bare) rfl, fun b o e => Heap.get?_push_of_some _ (kp1 b o e), Array.getElem?_push_size .., isg, fun b hb => ?_, ?_⟩
    · rcases List.mem_cons.mp hb with e | hb
      · rw [e]
        exact ⟨oL, Heap.get?_push_of_some _ hoL, fun v z => by rw [dL] at z; cases z⟩
      · rw [List.mem_singleton.mp hb]
        exact ⟨go, hpushed, fun v z => by rw [hgd] at z; cases z⟩
    · intro X pins hP hw hK hm hB hA hS mL mG h0 hk
      subst hP; subst hw; subst hK; subst hm; subst hB; subst hA; subst hS
      have kL := hk s.heap.objs.size List.mem_cons_self oL (Heap.get?_push_of_some _ hoL)
      have kG := hk s1.heap.objs.size (List.mem_cons_of_mem _ (List.mem_singleton.mpr rfl)) go hpushed
      have Fx : GFix X (defScope st) s.heap.objs.size s1.heap.objs.size s1.gens.size go := ⟨hr.hd, lt1, e0.bsz, fun b hb => by
        obtain ⟨_, o, ho, _⟩ := e0.funs.mem hb
        exact Heap.lt_size ho, S.kind, nc, S.co, hgc, ⟨nm, qn, hgd⟩, hgs⟩
      refine rdy_fresh (go := go) Fx ?_ D hG ?_ (fun x => hs _ x) hb first (SlotsAt.stay nc loc1 fun o e => ?_) I1.len kG mL mG
      · exact ⟨hr.hd, by have := hr.dp; show X.A.depth + 1 + 3 * k + 5 < _; omega, by have := hr.un; show X.A.units + 1 + 3 + 16 * k + 200 < _; omega⟩
      · exact I1.quiet
      · have e : s1.heap.get? s.heap.objs.size = some o := e
        exact hk s.heap.objs.size List.mem_cons_self o (Heap.get?_push_of_some _ e)
  exact main _ _ _ _ rfl rfl rfl fun h => Heap.get?_push_size _ rfl
end
/-! ### for .. in f(..) -/
section
variable {X : Cx} {pins : List (Addr × Obj)} {σ : L2.St} {H : Hp} {s : Shared}
theorem SP.regen {D : Ends} {fl : Flow} {s' : Shared} (h : SP X pins D fl s') {G : Array GenState} (hg : AllBare G) : SP X pins D fl { s' with gens := G } := by
  cases fl with
  | next => obtain ⟨σ, H, I, q⟩ := h; exact ⟨σ, H, Inv.regen I hg, q⟩
  | brk => obtain ⟨σ, H, I, q⟩ := h; exact ⟨σ, H, Inv.regen I hg, q⟩
  | cont => obtain ⟨σ, H, I, q⟩ := h; exact ⟨σ, H, Inv.regen I hg, q⟩
  | ret u => obtain ⟨v, σ, H, I, r, q⟩ := h; exact ⟨v, σ, H, Inv.regen I hg, r, q⟩
/-- a run from here leaves asleep what is asleep -/
theorem still {α : Type} {t : Sem α} {R : α → Shared → Prop} {E : Value → Shared → Prop} (I : L2.Inv X pins σ H s) (h : ∀ s, L2.Inv X pins σ H s → wpAny (model X.prog X.w) X.A t (fun a s' => AllBare s'.gens ∧ R a s') (fun _ _ => False) s) (hR : ∀ a s' G, AllBare G → R a s' → R a { s' with gens := G }) :
    wpAny (model X.prog X.w) X.A t (fun a s' => R a s' ∧ ∀ (i : Nat) y, s.gens[i]? = some y → asleep y = true → s'.gens[i]? = some y) E s := by
  refine wpAny_mono (wpAny_still (h (kill s) (Inv.regen I (allBare_kill I.bare)))) (fun a s' ⟨s1, P, e, hb, hr⟩ => ?_) fun _ _ ⟨_, _, _, z⟩ => z.elim
  subst e
  exact ⟨hR a s1 _ (allBare_back I.bare hb) hr, fun i y e a => back_sleeps P e a⟩
end
open GenW
abbrev TGm := L2.St → Hp → (Nat → (Nat → Hp → Prop) → (Nat → V → List (Addr × HO) → Prop) → Hp → Prop) → Prop
/-- an expression whose value is a generator that has been made -/
structure PGn (X : Cx) (e : Expr) (t : TGm) : Prop where
  run : ∀ (pins : List (Addr × Obj)) (s : Shared) (σ : L2.St) (H : Hp) (R : Nat → (Nat → Hp → Prop) → (Nat → V → List (Addr × HO) → Prop) → Hp → Prop), L2.Inv X pins σ H s → t σ H R →
    wpAny (model X.prog X.w) X.A (eval e X.env) (fun u s' => ∃ n G Yd H1 s1, L2.Inv X pins σ H1 s1 ∧ GMd X.prog X.w X.K X.mg X.base X.A X.stack n G Yd u s1 s' ∧ R n G Yd H1) X.xe s
def tGm (sp : SpY) (t : TA) : TGm := fun σ H R => t σ H fun vs H1 => ∃ n G Yd, sp vs n G Yd ∧ R n G Yd H1
section
variable {X : Cx} {k : Nat} {f : Addr} {fd : FuncData} {ps : List Str} {sp : SpY} {x : Str} {p pos : Pos} {e : Expr} {es : List Expr} {t : TA}
/-- f(e, ..) -/
theorem pgn_call (F : GenFn X.prog X.w X.K X.mg X.base k f fd ps sp) (hr : Room k X.A) (hx : Gl X x) (hm : X.mg x = some (.ref f)) (hk : PySem.W.keepIn X.K (.ref f) = true) (hb : L2.Binds X.K fd ps [])
    (ha : PA X (e :: es) t) (hdb : (x == ("__debug__" : Str)) = false := by decide) (he : starEach (e :: es) X.env = (false, eval e X.env) :: starEach es X.env := by rfl) (hpl : (backTo pos (starEach es X.env)).any (·.1) = false := by rfl) :
    PGn X (.Call (.Name x p) (e :: es) [] pos) (tGm sp t) := by
  constructor
  intro pins s σ H R I h
  have run : ∀ {us : List Value} {vs : List V} {H1 : Hp} {s1 : Shared}, L2.Inv X pins σ H1 s1 → Vals vs us → (∃ n G Yd, sp vs n G Yd ∧ R n G Yd H1) →
      wpAny (model X.prog X.w) X.A (call (.ref f) us) (fun u s' => ∃ n G Yd H1 s1, L2.Inv X pins σ H1 s1 ∧ GMd X.prog X.w X.K X.mg X.base X.A X.stack n G Yd u s1 s' ∧ R n G Yd H1) X.xe s1 := by
    intro us vs H1 s1 I1 r q
    obtain ⟨n, G, Yd, q1, q2⟩ := q
    have hl : us.length = ps.length := by rw [← r.length]; exact F.len _ _ _ _ q1
    have bt := hb s1 us I1.kIn (by rw [List.append_nil]; exact hl)
    rw [List.append_nil] at bt
    refine wpAny_call (codeAny_mono (F.go hr I1.env0 bt r q1) ?_)
    rintro r s2 ⟨u, rfl, z⟩
    exact ⟨n, G, Yd, H1, s1, I1, z, q2⟩
  refine wpAny_Call_Name_kw (ld_glob I hx hm ?_ hdb)
  exact PySem.W.callWith_K (h₀ := X.base) I.ok.mod.kin hk (thn (ha.run pos pins s σ H _ I h) fun us s1 ⟨vs, H1, I1, r, q⟩ => ⟨I1.kIn, run I1 r q⟩) he hpl
end
def tForG (t : TGm) (g : TG) (tb : TS) : TS := fun D σ H => t σ H fun n G Yd H1 => ∃ Pv : Nat → L2.St → Hp → Prop, Pv 0 σ H1 ∧ (∀ i σ H, i ≤ n → Pv i σ H → G i H) ∧
  (∀ i σ H y Nw, i < n → Pv i σ H → Yd i y Nw → (∀ q ∈ Nw, H q.1 = none) → g y σ (lay Nw H) fun σ2 H2 => tb { D with nx := Pv (i + 1), ct := Pv (i + 1), bk := D.nx } σ2 H2) ∧ ∀ σ H, Pv n σ H → D.nx σ H
section
variable {X : Cx} {pins : List (Addr × Obj)} {σ : L2.St} {H : Hp} {s s' : Shared}
/-- the maker's state, once the generator is there -/
theorem GMd.inv {n : Nat} {G : Nat → Hp → Prop} {Yd : Nat → V → List (Addr × HO) → Prop} {u : Value} (I : L2.Inv X pins σ H s) (m : GMd X.prog X.w X.K X.mg X.base X.A X.stack n G Yd u s s') :
    ∃ L ga g gs, u = .ref ga ∧ L < ga ∧ s'.gens[g]? = some gs ∧ s'.heap.IsGen ga g ∧ L2.Inv X pins σ H s' ∧ (∀ b ∈ [L, ga], FpOk X pins H b ∧ ∃ o, s'.heap.get? b = some o ∧ ∀ v, o.data ≠ .cell v) ∧
      ∀ (Y : Cx) (pins : List (Addr × Obj)), Y.prog = X.prog → Y.w = X.w → Y.K = X.K → Y.mg = X.mg → Y.base = X.base → Y.A = X.A → Y.stack = X.stack → Mine Y pins L → Mine Y pins ga →
        ∀ h0 : Heap, (∀ b ∈ [L, ga], ∀ o, s'.heap.get? b = some o → h0.get? b = some o) → Rdy (model X.prog X.w) X.A.in1 Y pins ga g n G Yd n gs [L, ga] h0 := by
  obtain ⟨L, ga, g, gs, e, hL, hlt, hos, hba, hk, hg, hgen, hobj, hy⟩ := m
  have I2 : L2.Inv X pins σ H s' := I.call' (ch := []) hos (Un.kept hk) (I.hok.kept hk) hba fun b z => by cases z
  refine ⟨L, ga, g, gs, e, hlt, hg, hgen, I2, fun b hb => ⟨?_, hobj b hb⟩, hy⟩
  have hb' : s.heap.objs.size ≤ b := by
    rcases List.mem_cons.mp hb with z | hb
    · rw [z]; exact hL
    · rw [List.mem_singleton.mp hb]; exact Nat.le_trans hL (Nat.le_of_lt hlt)
  exact I.fpOk hb' (I.hok.fresh hb')
/-- nothing is let go ahead of the store -/
theorem go_gen {M : Model} {A : Around} {E : Value → Shared → Prop} {tg : Expr} {ga g : Nat} {u : Value} {Q : Unit → Shared → Prop} (hg : s.heap.IsGen ga g) (hQ : Q () s) : wpAny M A (letOwnedTupleGo tg (.ref ga) u) Q E s := by
  obtain ⟨o, nm, qn, ho, hc, hd, _⟩ := hg
  exact go_of ho hc hd (by decide) hQ
/-- the loop's state ahead of a wake -/
structure Ahead (X : Cx) (pins : List (Addr × Obj)) (ga g n : Nat) (G : Nat → Hp → Prop) (Yd : Nat → V → List (Addr × HO) → Prop) (m : Nat) (σ : L2.St) (H : Hp) (s : Shared) : Prop where
  ex : ∃ (gs : GenState) (fp : List Addr) (h0 : Heap), s.gens[g]? = some gs ∧ Rdy (model X.prog X.w) X.A.in1 X pins ga g n G Yd m gs fp h0 ∧ (∀ b ∈ fp, FpOk X pins H b ∧ ∀ o, h0.get? b = some o → s.heap.get? b = some o)
  inv : L2.Inv X pins σ H s
  gen : s.heap.IsGen ga g
/-- the next is asked for -/
theorem Ahead.next {ga g n m : Nat} {G : Nat → Hp → Prop} {Yd : Nat → V → List (Addr × HO) → Prop} {E : Value → Shared → Prop} (h : Ahead X pins ga g n G Yd m σ H s) (hr : Room 0 X.A) (hg : G (n - m) H) (hm : m ≤ n) {Q : Option Value → Shared → Prop}
    (hQ0 : m = 0 → ∀ s', L2.Inv X pins σ H s' → Q none s')
    (hQ1 : ∀ m', m = m' + 1 → ∀ (v : Value) (y : V) (Nw : List (Addr × HO)) (fp : List Addr) (gs : GenState) (s' : Shared), RelV y v → Yd (n - m) y Nw → (∀ q ∈ Nw, H q.1 = none) → L2.Inv X pins σ (lay Nw H) s' →
      (∀ b ∈ fp, FpOk X pins (lay Nw H) b ∧ ∃ o, s'.heap.get? b = some o ∧ ∀ v, o.data ≠ .cell v) → ga ∈ fp → s'.heap.IsGen ga g → s'.gens[g]? = some gs → asleep gs = true → Rdy (model X.prog X.w) X.A.in1 X pins ga g n G Yd m' gs fp s'.heap → Q (some v) s') :
    wpAny (model X.prog X.w) X.A (pyNext (.ref ga)) Q E s := by
  obtain ⟨⟨gs, fp, h0, hgs, hrd, hfp⟩, I, hgen⟩ := h
  have hgl : g < s.gens.size := (Array.getElem?_eq_some_iff.mp hgs).1
  have bare2 : ∀ {s1 : Shared} {x : GenState}, AllBare s1.gens → x.bare = true → AllBare (s1.setGen g x).gens := fun h hx => allBare_setGen h hx
  have Ir : L2.Inv X pins σ H (s.setGen g .running) := Inv.regen I (bare2 I.bare rfl)
  refine wpAny_mono (wpAny_gsz (n := g + 1) hgl (Q := fun a s' => Q a s') (E := E) ?_) (fun _ _ z => z) fun _ _ z => z
  refine next_gen (Φ := Outp (model X.prog X.w) X.A.in1 X pins ga g n G Yd m σ H) hr.hd I.nolimit hr.depth hgen hgs ?_ fun e s1 he => ?_
  · cases m with
    | zero => exact hrd _ σ H Ir (fun b hb => ⟨(hfp b hb).1.1, (hfp b hb).2⟩) hg
    | succ m' => exact hrd _ σ H Ir (fun b hb => ⟨(hfp b hb).1.1, (hfp b hb).2⟩) hg
  · cases m with
    | zero =>
      obtain ⟨rfl, I1⟩ := he
      refine ⟨rfl, rfl, fun h' hk _ => hQ0 rfl _ ?_⟩
      have I2 : L2.Inv X pins σ H (s1.setGen g .finished) := Inv.regen I1 (bare2 I1.bare rfl)
      exact I2.kept (t' := s1.toks) hk
    | succ m' =>
      obtain ⟨v, l, k, c, p, fs, rfl, hq, y, Nw, fp', ry, hYd, hNw, I1, hfp', mg, hgen', hrd'⟩ := he
      refine ⟨hq, fun hsz => ?_⟩
      have hsz' : g < s1.gens.size := by
        have q : (s1.setGen g (End.susp v false l k c p fs).genState).gens.size = s1.gens.size := setGen_size _ _ _
        have hsz : g + 1 ≤ (s1.setGen g (End.susp v false l k c p fs).genState).gens.size := hsz
        omega
      exact hQ1 m' rfl v y Nw fp' _ _ ry hYd hNw (Inv.regen I1 (bare2 I1.bare (End.bare_of_quiet hq))) hfp' mg hgen' (setGen_at hsz') rfl hrd'
/-- what was pinned is as it was -/
theorem pin_at {fp : List Addr} {h : Heap} {σ' : L2.St} {H' : Hp} (I : L2.Inv X (pins ++ pinsAt fp h) σ' H' s) {b : Addr} (hb : b ∈ fp) {o : Obj} (e : h.get? b = some o) : s.heap.get? b = some o ∧ H' b = none :=
  let z := I.pin (b, o) (List.mem_append_right _ (List.mem_append_right _ (mem_pinsAt hb e)))
  ⟨z.1, z.2.1⟩
theorem Ahead.back {ga g n m : Nat} {G : Nat → Hp → Prop} {Yd : Nat → V → List (Addr × HO) → Prop} {fp : List Addr} {gs : GenState} {h3 : Heap} {H3 : Hp} (I : L2.Inv X (pins ++ pinsAt fp h3) σ H s) (hfp : ∀ b ∈ fp, FpOk X pins H3 b ∧ ∃ o, h3.get? b = some o ∧ ∀ v, o.data ≠ .cell v) (mg : ga ∈ fp) (hgen : h3.IsGen ga g)
    (hgs : s.gens[g]? = some gs) (hrd : Rdy (model X.prog X.w) X.A.in1 X pins ga g n G Yd m gs fp h3) : Ahead X pins ga g n G Yd m σ H s where
  ex := ⟨gs, fp, h3, hgs, hrd, fun b hb => by
    obtain ⟨f1, o, e, _⟩ := hfp b hb
    exact ⟨⟨(pin_at I hb e).2, f1.2⟩, fun o e => (pin_at I hb e).1⟩⟩
  inv := I.unpinned
  gen := by
    obtain ⟨o, nm, qn, e, r⟩ := hgen
    exact ⟨o, nm, qn, (pin_at I mg e).1, r⟩
end
section
variable {X : Cx}
theorem ps_forG {tg iter : Expr} {body : List Stmt} {t : TGm} {g : TG} {tb : TS} {pos : Pos} (hx : X.xe = fun _ _ => False) (hr : Room 0 X.A) (hi : PGn X iter t) (hg : PG X tg g) (hb : PSs X body tb)
    (hs : ∀ x, foldedSetIterable iter X.env x = pure x := by intro _; rfl) : PS X (.For tg iter body [] pos) (tForG t g tb) := by
  refine ⟨fun pins s σ H D I h => ?_⟩
  refine wpAny_For (thn (hi.run pins s σ H _ I h) fun u s1 ⟨n, G, Yd, H1, s0, I0, gm, hR⟩ => ?_) hs
  obtain ⟨L, ga, gn, gs, rfl, hlt, hgs, hgen, I1, hfp, hy⟩ := GMd.inv I0 gm
  obtain ⟨Pv, p0, hG, turn, done⟩ := hR
  refine wpAny_pyIter_gen hgen ?_
  refine codeAny_forLoop_any (fun m s' => m ≤ n ∧ ∃ σ' H', Ahead X pins ga gn n G Yd m σ' H' s' ∧ Pv (n - m) σ' H') ?_ n ⟨Nat.le_refl _, σ, H1, ⟨⟨gs, [L, ga], s1.heap, hgs, hy X pins rfl rfl rfl rfl rfl rfl rfl (hfp L List.mem_cons_self).1.2 (hfp ga (List.mem_cons_of_mem _ (List.mem_singleton.mpr rfl))).1.2 s1.heap (fun _ _ _ e => e), fun b hb => ⟨(hfp b hb).1, fun _ e => e⟩⟩, I1, hgen⟩, by rw [Nat.sub_self]; exact p0⟩
  rintro m s2 ⟨hm, σ2, H2, ha, hp⟩
  refine ha.next hr (hG (n - m) σ2 H2 (Nat.sub_le ..) hp) hm (fun e s3 I3 => ?_) (fun m' e v y Nw fp gs' s3 ry hYd hNw I3 hfp3 mg hgen3 hgs3 hsl hrd => ?_)
  · subst e
    exact wpAny_execs_nil ⟨σ2, H2, I3, done σ2 H2 hp⟩
  · subst e
    refine go_gen hgen3 ?_
    have I3' := I3.pinned (fun b hb => (hfp3 b hb).1) (fun b hb => (hfp3 b hb).2)
    have e1 : n - (m' + 1) + 1 = n - m' := by omega
    have tn := turn (n - (m' + 1)) σ2 H2 y Nw (by omega) hp hYd hNw
    rw [e1] at tn
    have ag : ∀ s, L2.Inv X (pins ++ pinsAt fp s3.heap) σ2 (lay Nw H2) s → wpAny (model X.prog X.w) X.A (assign tg X.env v) (fun _ s' => AllBare s'.gens ∧ ∃ σ' H', L2.Inv X (pins ++ pinsAt fp s3.heap) σ' H' s' ∧ tb { D with nx := Pv (n - m'), ct := Pv (n - m'), bk := D.nx } σ' H') (fun _ _ => False) s := fun s I => by
      have q := hg.run _ s σ2 (lay Nw H2) y v _ I ry tn
      rw [hx] at q
      exact thn q fun _ s' ⟨σ', H', I', q'⟩ => ⟨I'.bare, σ', H', I', q'⟩
    refine thn (still I3' ag fun _ s' G hG ⟨σ', H', I', q'⟩ => ⟨σ', H', Inv.regen I' hG, q'⟩) fun _ s4 ⟨⟨σ4, H4, I4, q4⟩, sl4⟩ => ?_
    have bd : ∀ s, L2.Inv X (pins ++ pinsAt fp s3.heap) σ4 H4 s → wpAny (model X.prog X.w) X.A (execs body X.env) (fun fl s' => AllBare s'.gens ∧ SP X (pins ++ pinsAt fp s3.heap) { D with nx := Pv (n - m'), ct := Pv (n - m'), bk := D.nx } fl s') (fun _ _ => False) s := fun s I => by
      have q := hb.run _ s σ4 H4 _ I q4
      rw [hx] at q
      refine thn q fun fl s' z => ⟨?_, z⟩
      cases fl with
      | next => obtain ⟨_, _, I', _⟩ := z; exact I'.bare
      | brk => obtain ⟨_, _, I', _⟩ := z; exact I'.bare
      | cont => obtain ⟨_, _, I', _⟩ := z; exact I'.bare
      | ret u => obtain ⟨_, _, _, I', _⟩ := z; exact I'.bare
    refine thn (still I4 bd fun fl s' G hG z => SP.regen z hG) fun fl s5 ⟨hs5, sl5⟩ => ?_
    have g5 : s5.gens[gn]? = some gs' := sl5 gn gs' (sl4 gn gs' hgs3 hsl) hsl
    cases fl with
    | next =>
      obtain ⟨σ5, H5, I5, n5⟩ := hs5
      exact ⟨m', Nat.lt_succ_self _, by omega, σ5, H5, Ahead.back I5 hfp3 mg hgen3 g5 hrd, n5⟩
    | cont =>
      obtain ⟨σ5, H5, I5, n5⟩ := hs5
      exact ⟨m', Nat.lt_succ_self _, by omega, σ5, H5, Ahead.back I5 hfp3 mg hgen3 g5 hrd, n5⟩
    | brk => obtain ⟨σ5, H5, I5, q5⟩ := hs5; exact ⟨σ5, H5, I5.unpinned, q5⟩
    | ret v => obtain ⟨x5, σ5, H5, I5, r5, q5⟩ := hs5; exact ⟨x5, σ5, H5, I5.unpinned, r5, q5⟩
end
section
variable {X : Cx} {K : PySem.W.Frag}
theorem pi_listK {tg l : Expr} {tl : TE} (h : X.K = K) (hl : PE X l tl) : PI X tg l (iList K tl) := by
  subst h
  exact pi_list hl
theorem call_listK (h : X.K = K) : CallR X (.type "list") (fun xs H Q => ∃ p ys, xs = [.ref p] ∧ (SqL K H p ys ∨ SqT K H p ys) ∧ ∀ l, H l = none → Q (.ref l) (upd H l (.lst ys))) := by
  subst h
  exact call_list_of
end
open GenW
/-! ### [elt for x in own_generator(..)] -/
def tLcG (t : TGm) (g : TG) (tt : TT) (te : TE) (vs : List Nat) : TE := fun σ H Q => t σ H fun n G Yd H1 => ∀ D, H1 D = none → ∃ Pv : Nat → Hp → Prop, Pv 0 (upd H1 D (.lst [])) ∧ (∀ i H, i ≤ n → Pv i H → G i H) ∧
  (∀ i H y Nw, i < n → Pv i H → Yd i y Nw → (∀ q ∈ Nw, H q.1 = none) → g y (wipe σ vs) (lay Nw H) fun σ2 H2 => wipe σ2 vs = wipe σ vs ∧ tt σ2 H2 fun b H3 =>
    if b = true then te σ2 H3 fun y H4 => ∃ acc, H4 D = some (.lst acc) ∧ acc.length < sizeLine ∧ Pv (i + 1) (upd H4 D (.lst (acc ++ [y]))) else Pv (i + 1) H3) ∧ ∀ H, Pv n H → Q (.ref D) H
section
variable {X : Cx} {pins : List (Addr × Obj)} {σ : L2.St} {H : Hp} {s : Shared} {α : Type}
theorem stillS {t : Sem α} {Φ : L2.St → Hp → Prop} {E : Value → Shared → Prop} (I : L2.Inv X pins σ H s) (h : ∀ s, L2.Inv X pins σ H s → wpAny (model X.prog X.w) X.A t (fun _ s' => ∃ σ' H', L2.Inv X pins σ' H' s' ∧ Φ σ' H') (fun _ _ => False) s) :
    wpAny (model X.prog X.w) X.A t (fun _ s' => (∃ σ' H', L2.Inv X pins σ' H' s' ∧ Φ σ' H') ∧ ∀ (i : Nat) y, s.gens[i]? = some y → asleep y = true → s'.gens[i]? = some y) E s :=
  still I (fun s I => thn (h s I) fun _ _ ⟨σ', H', I', q⟩ => ⟨I'.bare, σ', H', I', q⟩) fun _ _ _ hG ⟨σ', H', I', q⟩ => ⟨σ', H', Inv.regen I' hG, q⟩
theorem stillB {t : Sem α} {Φ : α → Hp → Prop} {E : Value → Shared → Prop} (I : L2.Inv X pins σ H s) (h : ∀ s, L2.Inv X pins σ H s → wpAny (model X.prog X.w) X.A t (fun a s' => ∃ H', L2.Inv X pins σ H' s' ∧ Φ a H') (fun _ _ => False) s) :
    wpAny (model X.prog X.w) X.A t (fun a s' => (∃ H', L2.Inv X pins σ H' s' ∧ Φ a H') ∧ ∀ (i : Nat) y, s.gens[i]? = some y → asleep y = true → s'.gens[i]? = some y) E s :=
  still I (fun s I => thn (h s I) fun _ _ ⟨H', I', q⟩ => ⟨I'.bare, H', I', q⟩) fun _ _ _ hG ⟨H', I', q⟩ => ⟨H', Inv.regen I' hG, q⟩
theorem stillV {t : Sem Value} {Φ : V → Hp → Prop} {E : Value → Shared → Prop} (I : L2.Inv X pins σ H s) (h : ∀ s, L2.Inv X pins σ H s → wpAny (model X.prog X.w) X.A t (fun a s' => ∃ y H', L2.Inv X pins σ H' s' ∧ RelV y a ∧ Φ y H') (fun _ _ => False) s) :
    wpAny (model X.prog X.w) X.A t (fun a s' => (∃ y H', L2.Inv X pins σ H' s' ∧ RelV y a ∧ Φ y H') ∧ ∀ (i : Nat) y, s.gens[i]? = some y → asleep y = true → s'.gens[i]? = some y) E s :=
  still I (fun s I => thn (h s I) fun _ _ ⟨y, H', I', r, q⟩ => ⟨I'.bare, y, H', I', r, q⟩) fun _ _ _ hG ⟨y, H', I', r, q⟩ => ⟨y, H', Inv.regen I' hG, r, q⟩
end
section
variable {X : Cx}
theorem lcG_core {pins : List (Addr × Obj)} {s : Shared} {σ : L2.St} {H : Hp} {Q : VK} {elt tg iter : Expr} {ifs : List Expr} {scope : Scope} {own : List (Str × Nat)} {pos pos' : Pos} {t : TGm} {g : TG} {tt : TT} {te : TE} {use : Option (Value → Sem Unit)} {Qf : Value → Shared → Prop}
    (hr : Room 0 X.A) (hN : X.N.Nodup) (I : L2.Inv X pins σ H s) (hi : PGn X iter t) (ok : BlkOk X.N X.env.scope scope own)
    (hg : ∀ (s : Shared) (H : Hp) (C : Addr) (cl : List (Str × Addr)) (fp : List Addr), PG (X.blk s H scope (compEnvC scope cl C X.env) fp) tg g) (ht : ∀ (s : Shared) (H : Hp) (C : Addr) (cl : List (Str × Addr)) (fp : List Addr), PTs (X.blk s H scope (compEnvC scope cl C X.env) fp) ifs tt)
    (he : ∀ (s : Shared) (H : Hp) (C : Addr) (cl : List (Str × Addr)) (fp : List Addr), PE (X.blk s H scope (compEnvC scope cl C X.env) fp) elt te) (hs : ∀ x, foldedSetIterable iter X.env x = pure x)
    (h : tLcG t g tt te (own.map (·.2)) σ H Q)
    (hRR : ∀ D C s' m H', L2.Inv X pins σ H' s' → Q (.ref D) H' → s'.heap.Ns C m → FpOk X pins H' C → compPost (model X.prog X.w) X.A X.xe use Qf (.ref D) C (.ok .next) s') :
    wpAny (model X.prog X.w) X.A (comprehension (.ListComp elt [⟨tg, iter, ifs, 0⟩] scope pos) scope X.env pos' (newList []) false (eval iter X.env) use) Qf X.xe s := by
  have hfree : ∀ y ∈ scope.names, y.2 = .free → ∃ c, X.env.cells.lookup y.1 = some c := fun y hy e => by
    rcases ok.free y hy e with k | k
    · exact I.ok.has _ (.inl k)
    · exact I.ok.has _ (.inr k)
  refine wpAny_comprehension_free (use := use) rfl hs (closure_ok hfree) ok.kind (fun y hy e => by rw [ok.uniq y hy, e])
    (thn (hi.run pins s σ H _ I h) fun u s1 ⟨n, G, Yd, H1, s0, I0, gm, hR⟩ => ?_)
  obtain ⟨L, ga, gn, gs, rfl, hlt, hgs, hgen, I1, hfp, hy⟩ := GMd.inv I0 gm
  refine wpAny_pyIter_gen hgen ?_
  refine wpAny_newObj_type (newEnv_comp ?_) (by show 0 ≤ sizeLine; decide)
  generalize hD : s1.heap.objs.size = D
  have hDn : H1 D = none := I1.hok.fresh (Nat.le_of_eq hD)
  obtain ⟨Pv, p0, hG, turn, done⟩ := hR D hDn
  have sz : ∀ b ∈ [L, ga], b < s1.heap.objs.size := fun b hb => by
    obtain ⟨_, o, e, _⟩ := hfp b hb
    exact Heap.lt_size e
  generalize hs3 : ({ s1 with heap := s1.heap.push { cls := .type "list", data := .seq ([] : List Value).toArray } } : Shared) = s3
  have I3 : L2.Inv X pins σ (upd H1 D (.lst [])) s3 := by
    rw [← hs3]
    refine I1.laid (t' := s1.toks) (fun b o e => Heap.get?_push_of_some _ e) (Nat.le_of_eq hD) ⟨Nat.zero_le _, [], 0, .nil, ?_⟩
    rw [← hD]
    exact Heap.get?_push_size _ rfl
  have h3 : s3.heap = s1.heap.push { cls := .type "list", data := .seq ([] : List Value).toArray } := by rw [← hs3]
  have g3 : s3.gens = s1.gens := by rw [← hs3]
  have f3 : ∀ b ∈ [L, ga], FpOk X pins (upd H1 D (.lst [])) b ∧ b < s3.heap.objs.size := fun b hb => by
    have hlt := sz b hb
    refine ⟨⟨?_, (hfp b hb).1.2⟩, by rw [h3, Heap.size_push]; exact Nat.lt_succ_of_lt hlt⟩
    rw [upd_ne (by rw [← hD]; exact Nat.ne_of_lt hlt)]
    exact (hfp b hb).1.1
  have I4 := block_start I3 ok hN f3
  have pg := hg s3 (upd H1 D (.lst [])) s3.heap.objs.size (cellsFrom (s3.heap.objs.size + 1) scope.names (cloFrom X.env.cells scope.names [])) [L, ga]
  have pt := ht s3 (upd H1 D (.lst [])) s3.heap.objs.size (cellsFrom (s3.heap.objs.size + 1) scope.names (cloFrom X.env.cells scope.names [])) [L, ga]
  have pe := he s3 (upd H1 D (.lst [])) s3.heap.objs.size (cellsFrom (s3.heap.objs.size + 1) scope.names (cloFrom X.env.cells scope.names [])) [L, ga]
  show codeAny _ _ (.compStart (.ListComp elt [⟨tg, iter, ifs, 0⟩] scope pos) 0 (.ref ga) (.ref D) (compEnvC scope (cellsFrom (s3.heap.objs.size + 1) scope.names (cloFrom X.env.cells scope.names [])) s3.heap.objs.size X.env)) (compPost (model X.prog X.w) X.A X.xe use Qf (.ref D) s3.heap.objs.size) { s3 with heap := pushCells (s3.heap.push { cls := .type "dict", data := .dict #[] }) scope.names }
  generalize hce : compEnvC scope (cellsFrom (s3.heap.objs.size + 1) scope.names (cloFrom X.env.cells scope.names [])) s3.heap.objs.size X.env = ce at I4 pg pt pe ⊢
  have cL : ce.locals = s3.heap.objs.size := by subst hce; rfl
  generalize hH3 : upd H1 D (.lst []) = H3 at I3 I4 pg pt pe p0 f3
  generalize hs4 : ({ s3 with heap := pushCells (s3.heap.push { cls := .type "dict", data := .dict #[] }) scope.names } : Shared) = s4 at I4 ⊢
  have keep4 : ∀ b o, s1.heap.get? b = some o → s4.heap.get? b = some o := fun b o e => by
    rw [← hs4]
    refine pushCells_keeps _ _ _ _ (Heap.get?_push_of_some _ ?_)
    rw [h3]
    exact Heap.get?_push_of_some _ e
  have g4 : s4.gens = s1.gens := by rw [← hs4]; exact g3
  have gen4 : s4.heap.IsGen ga gn := by
    obtain ⟨o, nm, qn, e, r⟩ := hgen
    exact ⟨o, nm, qn, keep4 _ _ e, r⟩
  have nfp : ∀ b ∈ [L, ga], H3 b = none := fun b hb => (f3 b hb).1.1
  have stat : ∀ {σ' : L2.St} {H' : Hp} {s' : Shared}, L2.Inv (X.blk s3 H3 scope ce [L, ga]) [] σ' H' s' → (∀ b ∈ [L, ga], H' b = none) → ∀ b ∈ [L, ga], FpOk (X.blk s3 H3 scope ce [L, ga]) [] H' b := fun {σ' H' s'} I' hn b hb =>
    ⟨hn b hb, (I'.ok.exf b hb).1, I'.ok.exfs b hb, .inl hb, fun x c e => (I'.ok.exf b hb).2 x c e, fun p hp => absurd (show p ∈ ([] : List (Addr × Obj)) ++ [] from hp) (by simp)⟩
  have sta0 := stat I4 nfp
  have A0 : Ahead (X.blk s3 H3 scope ce [L, ga]) [] ga gn n G Yd n (wipe σ (own.map (·.2))) H3 s4 :=
    ⟨⟨gs, [L, ga], s1.heap, by rw [g4]; exact hgs, hy (X.blk s3 H3 scope ce [L, ga]) [] rfl rfl rfl rfl rfl rfl rfl (sta0 L List.mem_cons_self).2 (sta0 ga (List.mem_cons_of_mem _ (List.mem_singleton.mpr rfl))).2 s1.heap (fun _ _ _ e => e), fun b hb => ⟨sta0 b hb, fun o e => keep4 b o e⟩⟩, I4, gen4⟩
  have loop : codeAny (model X.prog X.w) X.A (.compLoop (.ListComp elt [⟨tg, iter, ifs, 0⟩] scope pos) 0 (.ref ga) (.ref D) ce) (compPost (model X.prog X.w) X.A X.xe use Qf (.ref D) s3.heap.objs.size) s4 := by
    refine compLoop_any (fun m s' => m ≤ n ∧ ∃ H', Ahead (X.blk s3 H3 scope ce [L, ga]) [] ga gn n G Yd m (wipe σ (own.map (·.2))) H' s' ∧ Pv (n - m) H') ?_ n ⟨Nat.le_refl _, H3, A0, by rw [Nat.sub_self]; exact p0⟩
    rintro m s2 ⟨hm, H2, ha, hp⟩
    refine ha.next (X := X.blk s3 H3 scope ce [L, ga]) hr (hG (n - m) H2 (Nat.sub_le ..) hp) hm (fun e s5 I5 => ?_) (fun m' e v y Nw fp gs' s5 ry hYd hNw I5 hfp5 mg hgen5 hgs5 hsl hrd => ?_)
    · subst e
      have I7 : L2.Inv X pins σ H2 s5 := I3.call' (ch := [L, ga]) I5.os I5.base I5.hok I5.bare fun b hb => ⟨(f3 b hb).1.2.2.2.1, (f3 b hb).1.2.1, (f3 b hb).1.2.2.2.2.1, (f3 b hb).1.2.2.2.2.2⟩
      have nC : H2 s3.heap.objs.size = none := by
        have z : H2 ce.locals = none := I5.free
        rw [cL] at z
        exact z
      obtain ⟨m, hn, _⟩ := I5.loc
      have hn : s5.heap.Ns ce.locals m := hn
      rw [cL] at hn
      exact hRR D s3.heap.objs.size s5 m H2 I7 (done H2 hp) hn (I3.fpOk (Nat.le_refl _) nC)
    · subst e
      refine go_gen hgen5 ?_
      have I5' := I5.pinned (fun b hb => (hfp5 b hb).1) (fun b hb => (hfp5 b hb).2)
      have e1 : n - (m' + 1) + 1 = n - m' := by omega
      have tn := turn (n - (m' + 1)) H2 y Nw (by omega) hp hYd hNw
      rw [e1] at tn
      refine thnF (stillS (X := X.blk s3 H3 scope ce [L, ga]) I5' fun s I => pg.run _ s (wipe σ (own.map (·.2))) (lay Nw H2) y v _ I ry tn) fun _ s6 z6 => ?_
      obtain ⟨⟨σ6, H6, I6, hw6, q6⟩, sl6⟩ := z6
      refine thnF (stillB (X := X.blk s3 H3 scope ce [L, ga]) I6 fun s I => pt.run _ s σ6 H6 _ I q6) fun b s7 z7 => ?_
      obtain ⟨⟨H7, I7, q7⟩, sl7⟩ := z7
      have fin : ∀ {s' : Shared} {H' : Hp}, L2.Inv (X.blk s3 H3 scope ce [L, ga]) ([] ++ pinsAt fp s5.heap) σ6 H' s' → s'.gens[gn]? = some gs' → Pv (n - m') H' →
          ∃ m, m < m' + 1 ∧ m ≤ n ∧ ∃ H', Ahead (X.blk s3 H3 scope ce [L, ga]) [] ga gn n G Yd m (wipe σ (own.map (·.2))) H' s' ∧ Pv (n - m) H' := fun {s' H'} I' eg pv => by
        have hl : (wipe σ (own.map (·.2))).length = σ6.length := by rw [← hw6, wipe_length]
        have Iw := I'.weak hl (fun j v e => by rw [← hw6] at e; exact (wipe_some e).1)
        exact ⟨m', Nat.lt_succ_self _, by omega, H', Ahead.back Iw hfp5 mg hgen5 eg hrd, pv⟩
      have e7 : s7.gens[gn]? = some gs' := sl7 gn gs' (sl6 gn gs' hgs5 hsl) hsl
      cases b with
      | false =>
        simp only [Bool.false_eq_true, if_false] at q7 ⊢
        exact fin I7 e7 q7
      | true =>
        simp only [if_true] at q7 ⊢
        refine thnF (stillV (X := X.blk s3 H3 scope ce [L, ga]) I7 fun s I => pe.run _ s σ6 H7 _ I q7) fun z s8 z8 => ?_
        obtain ⟨⟨yv, H8, I8, r8, acc, hD8, hz8, nx⟩, sl8⟩ := z8
        have e8 := sl8 gn gs' e7 hsl
        have ap := fun (s : Shared) (I : L2.Inv (X.blk s3 H3 scope ce [L, ga]) ([] ++ pinsAt fp s5.heap) σ6 H8 s) => app_ok (X := X.blk s3 H3 scope ce [L, ga]) (Q := fun _ s' => AllBare s'.gens ∧ L2.Inv (X.blk s3 H3 scope ce [L, ga]) ([] ++ pinsAt fp s5.heap) σ6 (upd H8 D (.lst (acc ++ [yv]))) s') (E := fun _ _ => False) I hD8 hz8 r8 fun s11 I11 => ⟨I11.bare, I11⟩
        refine thnF (still (X := X.blk s3 H3 scope ce [L, ga]) I8 ap fun _ s' G hG I' => Inv.regen I' hG) fun _ s9 z9 => ?_
        obtain ⟨I9, sl9⟩ := z9
        exact fin I9 (sl9 gn gs' e8 hsl) nx
  exact codeAny_compStart_list loop (wpAny_pyIter_gen gen4 loop)
/-- as a value -/
theorem pe_lcG {elt tg iter : Expr} {ifs : List Expr} {scope : Scope} {own : List (Str × Nat)} {pos : Pos} {t : TGm} {g : TG} {tt : TT} {te : TE} (hr : Room 0 X.A) (hN : X.N.Nodup) (hi : PGn X iter t) (ok : BlkOk X.N X.env.scope scope own)
    (hg : ∀ (s : Shared) (H : Hp) (C : Addr) (cl : List (Str × Addr)) (fp : List Addr), PG (X.blk s H scope (compEnvC scope cl C X.env) fp) tg g) (ht : ∀ (s : Shared) (H : Hp) (C : Addr) (cl : List (Str × Addr)) (fp : List Addr), PTs (X.blk s H scope (compEnvC scope cl C X.env) fp) ifs tt)
    (he : ∀ (s : Shared) (H : Hp) (C : Addr) (cl : List (Str × Addr)) (fp : List Addr), PE (X.blk s H scope (compEnvC scope cl C X.env) fp) elt te) (hs : ∀ x, foldedSetIterable iter X.env x = pure x := by intro _; rfl) :
    PE X (.ListComp elt [⟨tg, iter, ifs, 0⟩] scope pos) (tLcG t g tt te (own.map (·.2))) := by
  refine ⟨fun pins s σ H Q I h => ?_⟩
  rw [eval_ListComp]
  refine lcG_core hr hN I hi ok hg ht he hs h fun D C s' m H' I' q hn f => ⟨m, hn, fun h'' sb => ?_⟩
  obtain ⟨f0, f1, f2, f3, f4, f5⟩ := f
  exact ⟨.ref D, H', I'.turned (t' := s'.toks) (fun b o hb e => (sb.2 b hb).trans e) f0 f1 f3 f4 f5, rfl, q⟩
end
open GenW
/-! ### {k: v for x in own_generator(..)} -/
def tDcG (t : TGm) (g : TG) (tt : TT) (tk tv : TE) (vs : List Nat) : TE := fun σ H Q => t σ H fun n G Yd H1 => ∀ D, H1 D = none → ∃ Pv : Nat → Hp → Prop, Pv 0 (upd H1 D (.dK [])) ∧ (∀ i H, i ≤ n → Pv i H → G i H) ∧
  (∀ i H y Nw, i < n → Pv i H → Yd i y Nw → (∀ q ∈ Nw, H q.1 = none) → g y (wipe σ vs) (lay Nw H) fun σ2 H2 => wipe σ2 vs = wipe σ vs ∧ tt σ2 H2 fun b H3 =>
    if b = true then tk σ2 H3 fun y H4 => tv σ2 H4 fun z H5 => ∃ kvs k, y = kV k ∧ H5 D = some (.dK kvs) ∧ kvs.length < sizeLine ∧ Pv (i + 1) (upd H5 D (.dK (putK kvs k z))) else Pv (i + 1) H3) ∧ ∀ H, Pv n H → Q (.ref D) H
section
variable {X : Cx}
theorem dcG_core {pins : List (Addr × Obj)} {s : Shared} {σ : L2.St} {H : Hp} {Q : VK} {kx vx tg iter : Expr} {ifs : List Expr} {scope : Scope} {own : List (Str × Nat)} {pos pos' : Pos} {t : TGm} {g : TG} {tt : TT} {tk tv : TE} {use : Option (Value → Sem Unit)} {Qf : Value → Shared → Prop}
    (hr : Room 0 X.A) (hN : X.N.Nodup) (I : L2.Inv X pins σ H s) (hi : PGn X iter t) (ok : BlkOk X.N X.env.scope scope own)
    (hg : ∀ (s : Shared) (H : Hp) (C : Addr) (cl : List (Str × Addr)) (fp : List Addr), PG (X.blk s H scope (compEnvC scope cl C X.env) fp) tg g) (ht : ∀ (s : Shared) (H : Hp) (C : Addr) (cl : List (Str × Addr)) (fp : List Addr), PTs (X.blk s H scope (compEnvC scope cl C X.env) fp) ifs tt)
    (hk : ∀ (s : Shared) (H : Hp) (C : Addr) (cl : List (Str × Addr)) (fp : List Addr), PE (X.blk s H scope (compEnvC scope cl C X.env) fp) kx tk)
    (he : ∀ (s : Shared) (H : Hp) (C : Addr) (cl : List (Str × Addr)) (fp : List Addr), PE (X.blk s H scope (compEnvC scope cl C X.env) fp) vx tv) (hs : ∀ x, foldedSetIterable iter X.env x = pure x)
    (h : tDcG t g tt tk tv (own.map (·.2)) σ H Q)
    (hRR : ∀ D C s' m H', L2.Inv X pins σ H' s' → Q (.ref D) H' → s'.heap.Ns C m → FpOk X pins H' C → compPost (model X.prog X.w) X.A X.xe use Qf (.ref D) C (.ok .next) s') :
    wpAny (model X.prog X.w) X.A (comprehension (.DictComp kx vx [⟨tg, iter, ifs, 0⟩] scope pos) scope X.env pos' newDict false (eval iter X.env) use) Qf X.xe s := by
  have hfree : ∀ y ∈ scope.names, y.2 = .free → ∃ c, X.env.cells.lookup y.1 = some c := fun y hy e => by
    rcases ok.free y hy e with k | k
    · exact I.ok.has _ (.inl k)
    · exact I.ok.has _ (.inr k)
  refine wpAny_comprehension_free (use := use) rfl hs (closure_ok hfree) ok.kind (fun y hy e => by rw [ok.uniq y hy, e])
    (thn (hi.run pins s σ H _ I h) fun u s1 ⟨n, G, Yd, H1, s0, I0, gm, hR⟩ => ?_)
  obtain ⟨L, ga, gn, gs, rfl, hlt, hgs, hgen, I1, hfp, hy⟩ := GMd.inv I0 gm
  refine wpAny_pyIter_gen hgen ?_
  refine wpAny_newObj_type (newEnv_comp ?_)
  generalize hD : s1.heap.objs.size = D
  have hDn : H1 D = none := I1.hok.fresh (Nat.le_of_eq hD)
  obtain ⟨Pv, p0, hG, turn, done⟩ := hR D hDn
  have sz : ∀ b ∈ [L, ga], b < s1.heap.objs.size := fun b hb => by
    obtain ⟨_, o, e, _⟩ := hfp b hb
    exact Heap.lt_size e
  generalize hs3 : ({ s1 with heap := s1.heap.push { cls := .type "dict", data := .dict #[] } } : Shared) = s3
  have I3 : L2.Inv X pins σ (upd H1 D (.dK [])) s3 := by
    rw [← hs3]
    refine I1.laid (t' := s1.toks) (fun b o e => Heap.get?_push_of_some _ e) (Nat.le_of_eq hD) ?_
    rw [← hD]
    exact dk_empty s1.heap I1.big
  have h3 : s3.heap = s1.heap.push { cls := .type "dict", data := .dict #[] } := by rw [← hs3]
  have g3 : s3.gens = s1.gens := by rw [← hs3]
  have f3 : ∀ b ∈ [L, ga], FpOk X pins (upd H1 D (.dK [])) b ∧ b < s3.heap.objs.size := fun b hb => by
    have hlt := sz b hb
    refine ⟨⟨?_, (hfp b hb).1.2⟩, by rw [h3, Heap.size_push]; exact Nat.lt_succ_of_lt hlt⟩
    rw [upd_ne (by rw [← hD]; exact Nat.ne_of_lt hlt)]
    exact (hfp b hb).1.1
  have I4 := block_start I3 ok hN f3
  have pg := hg s3 (upd H1 D (.dK [])) s3.heap.objs.size (cellsFrom (s3.heap.objs.size + 1) scope.names (cloFrom X.env.cells scope.names [])) [L, ga]
  have pt := ht s3 (upd H1 D (.dK [])) s3.heap.objs.size (cellsFrom (s3.heap.objs.size + 1) scope.names (cloFrom X.env.cells scope.names [])) [L, ga]
  have pk := hk s3 (upd H1 D (.dK [])) s3.heap.objs.size (cellsFrom (s3.heap.objs.size + 1) scope.names (cloFrom X.env.cells scope.names [])) [L, ga]
  have pe := he s3 (upd H1 D (.dK [])) s3.heap.objs.size (cellsFrom (s3.heap.objs.size + 1) scope.names (cloFrom X.env.cells scope.names [])) [L, ga]
  show codeAny _ _ (.compStart (.DictComp kx vx [⟨tg, iter, ifs, 0⟩] scope pos) 0 (.ref ga) (.ref D) (compEnvC scope (cellsFrom (s3.heap.objs.size + 1) scope.names (cloFrom X.env.cells scope.names [])) s3.heap.objs.size X.env)) (compPost (model X.prog X.w) X.A X.xe use Qf (.ref D) s3.heap.objs.size) { s3 with heap := pushCells (s3.heap.push { cls := .type "dict", data := .dict #[] }) scope.names }
  generalize hce : compEnvC scope (cellsFrom (s3.heap.objs.size + 1) scope.names (cloFrom X.env.cells scope.names [])) s3.heap.objs.size X.env = ce at I4 pg pt pk pe ⊢
  have cL : ce.locals = s3.heap.objs.size := by subst hce; rfl
  generalize hH3 : upd H1 D (.dK []) = H3 at I3 I4 pg pt pk pe p0 f3
  generalize hs4 : ({ s3 with heap := pushCells (s3.heap.push { cls := .type "dict", data := .dict #[] }) scope.names } : Shared) = s4 at I4 ⊢
  have keep4 : ∀ b o, s1.heap.get? b = some o → s4.heap.get? b = some o := fun b o e => by
    rw [← hs4]
    refine pushCells_keeps _ _ _ _ (Heap.get?_push_of_some _ ?_)
    rw [h3]
    exact Heap.get?_push_of_some _ e
  have g4 : s4.gens = s1.gens := by rw [← hs4]; exact g3
  have gen4 : s4.heap.IsGen ga gn := by
    obtain ⟨o, nm, qn, e, r⟩ := hgen
    exact ⟨o, nm, qn, keep4 _ _ e, r⟩
  have nfp : ∀ b ∈ [L, ga], H3 b = none := fun b hb => (f3 b hb).1.1
  have stat : ∀ {σ' : L2.St} {H' : Hp} {s' : Shared}, L2.Inv (X.blk s3 H3 scope ce [L, ga]) [] σ' H' s' → (∀ b ∈ [L, ga], H' b = none) → ∀ b ∈ [L, ga], FpOk (X.blk s3 H3 scope ce [L, ga]) [] H' b := fun {σ' H' s'} I' hn b hb =>
    ⟨hn b hb, (I'.ok.exf b hb).1, I'.ok.exfs b hb, .inl hb, fun x c e => (I'.ok.exf b hb).2 x c e, fun p hp => absurd (show p ∈ ([] : List (Addr × Obj)) ++ [] from hp) (by simp)⟩
  have sta0 := stat I4 nfp
  have A0 : Ahead (X.blk s3 H3 scope ce [L, ga]) [] ga gn n G Yd n (wipe σ (own.map (·.2))) H3 s4 :=
    ⟨⟨gs, [L, ga], s1.heap, by rw [g4]; exact hgs, hy (X.blk s3 H3 scope ce [L, ga]) [] rfl rfl rfl rfl rfl rfl rfl (sta0 L List.mem_cons_self).2 (sta0 ga (List.mem_cons_of_mem _ (List.mem_singleton.mpr rfl))).2 s1.heap (fun _ _ _ e => e), fun b hb => ⟨sta0 b hb, fun o e => keep4 b o e⟩⟩, I4, gen4⟩
  have loop : codeAny (model X.prog X.w) X.A (.compLoop (.DictComp kx vx [⟨tg, iter, ifs, 0⟩] scope pos) 0 (.ref ga) (.ref D) ce) (compPost (model X.prog X.w) X.A X.xe use Qf (.ref D) s3.heap.objs.size) s4 := by
    refine compLoop_anyD (fun m s' => m ≤ n ∧ ∃ H', Ahead (X.blk s3 H3 scope ce [L, ga]) [] ga gn n G Yd m (wipe σ (own.map (·.2))) H' s' ∧ Pv (n - m) H') ?_ n ⟨Nat.le_refl _, H3, A0, by rw [Nat.sub_self]; exact p0⟩
    rintro m s2 ⟨hm, H2, ha, hp⟩
    refine ha.next (X := X.blk s3 H3 scope ce [L, ga]) hr (hG (n - m) H2 (Nat.sub_le ..) hp) hm (fun e s5 I5 => ?_) (fun m' e v y Nw fp gs' s5 ry hYd hNw I5 hfp5 mg hgen5 hgs5 hsl hrd => ?_)
    · subst e
      have I7 : L2.Inv X pins σ H2 s5 := I3.call' (ch := [L, ga]) I5.os I5.base I5.hok I5.bare fun b hb => ⟨(f3 b hb).1.2.2.2.1, (f3 b hb).1.2.1, (f3 b hb).1.2.2.2.2.1, (f3 b hb).1.2.2.2.2.2⟩
      have nC : H2 s3.heap.objs.size = none := by
        have z : H2 ce.locals = none := I5.free
        rw [cL] at z
        exact z
      obtain ⟨m, hn, _⟩ := I5.loc
      have hn : s5.heap.Ns ce.locals m := hn
      rw [cL] at hn
      exact hRR D s3.heap.objs.size s5 m H2 I7 (done H2 hp) hn (I3.fpOk (Nat.le_refl _) nC)
    · subst e
      refine go_gen hgen5 ?_
      have I5' := I5.pinned (fun b hb => (hfp5 b hb).1) (fun b hb => (hfp5 b hb).2)
      have e1 : n - (m' + 1) + 1 = n - m' := by omega
      have tn := turn (n - (m' + 1)) H2 y Nw (by omega) hp hYd hNw
      rw [e1] at tn
      refine thnF (stillS (X := X.blk s3 H3 scope ce [L, ga]) I5' fun s I => pg.run _ s (wipe σ (own.map (·.2))) (lay Nw H2) y v _ I ry tn) fun _ s6 z6 => ?_
      obtain ⟨⟨σ6, H6, I6, hw6, q6⟩, sl6⟩ := z6
      refine thnF (stillB (X := X.blk s3 H3 scope ce [L, ga]) I6 fun s I => pt.run _ s σ6 H6 _ I q6) fun b s7 z7 => ?_
      obtain ⟨⟨H7, I7, q7⟩, sl7⟩ := z7
      have fin : ∀ {s' : Shared} {H' : Hp}, L2.Inv (X.blk s3 H3 scope ce [L, ga]) ([] ++ pinsAt fp s5.heap) σ6 H' s' → s'.gens[gn]? = some gs' → Pv (n - m') H' →
          ∃ m, m < m' + 1 ∧ m ≤ n ∧ ∃ H', Ahead (X.blk s3 H3 scope ce [L, ga]) [] ga gn n G Yd m (wipe σ (own.map (·.2))) H' s' ∧ Pv (n - m) H' := fun {s' H'} I' eg pv => by
        have hl : (wipe σ (own.map (·.2))).length = σ6.length := by rw [← hw6, wipe_length]
        have Iw := I'.weak hl (fun j v e => by rw [← hw6] at e; exact (wipe_some e).1)
        exact ⟨m', Nat.lt_succ_self _, by omega, H', Ahead.back Iw hfp5 mg hgen5 eg hrd, pv⟩
      have e7 : s7.gens[gn]? = some gs' := sl7 gn gs' (sl6 gn gs' hgs5 hsl) hsl
      cases b with
      | false =>
        simp only [Bool.false_eq_true, if_false] at q7 ⊢
        exact fin I7 e7 q7
      | true =>
        simp only [if_true] at q7 ⊢
        refine thnF (stillV (X := X.blk s3 H3 scope ce [L, ga]) I7 fun s I => pk.run _ s σ6 H7 _ I q7) fun z s8 z8 => ?_
        obtain ⟨⟨yk, H8, I8, r8, q8⟩, sl8⟩ := z8
        have e8 := sl8 gn gs' e7 hsl
        refine thnF (stillV (X := X.blk s3 H3 scope ce [L, ga]) I8 fun s I => pe.run _ s σ6 H8 _ I q8) fun z2 s9 z9 => ?_
        obtain ⟨⟨yv, H9, I9, r9, kvs, k, ek, hD9, hz9, nx⟩, sl9⟩ := z9
        have e9 := sl9 gn gs' e8 hsl
        subst ek
        have ap := fun (s : Shared) (I : L2.Inv (X.blk s3 H3 scope ce [L, ga]) ([] ++ pinsAt fp s5.heap) σ6 H9 s) => d_dictSet (X := X.blk s3 H3 scope ce [L, ga]) (Q := fun _ s' => AllBare s'.gens ∧ L2.Inv (X.blk s3 H3 scope ce [L, ga]) ([] ++ pinsAt fp s5.heap) σ6 (upd H9 D (.dK (putK kvs k yv))) s') (E := fun _ _ => False) I hD9 hz9 r8 r9 fun s11 I11 => ⟨I11.bare, I11⟩
        refine thnF (still (X := X.blk s3 H3 scope ce [L, ga]) I9 ap fun _ s' G hG I' => Inv.regen I' hG) fun _ s10 z10 => ?_
        obtain ⟨I10, sl10⟩ := z10
        exact fin I10 (sl10 gn gs' e9 hsl) nx
  exact codeAny_compStart_dict loop (wpAny_pyIter_gen gen4 loop)
/-- as a value -/
theorem pe_dcG {kx vx tg iter : Expr} {ifs : List Expr} {scope : Scope} {own : List (Str × Nat)} {pos : Pos} {t : TGm} {g : TG} {tt : TT} {tk tv : TE} (hr : Room 0 X.A) (hN : X.N.Nodup) (hi : PGn X iter t) (ok : BlkOk X.N X.env.scope scope own)
    (hg : ∀ (s : Shared) (H : Hp) (C : Addr) (cl : List (Str × Addr)) (fp : List Addr), PG (X.blk s H scope (compEnvC scope cl C X.env) fp) tg g) (ht : ∀ (s : Shared) (H : Hp) (C : Addr) (cl : List (Str × Addr)) (fp : List Addr), PTs (X.blk s H scope (compEnvC scope cl C X.env) fp) ifs tt)
    (hk : ∀ (s : Shared) (H : Hp) (C : Addr) (cl : List (Str × Addr)) (fp : List Addr), PE (X.blk s H scope (compEnvC scope cl C X.env) fp) kx tk)
    (he : ∀ (s : Shared) (H : Hp) (C : Addr) (cl : List (Str × Addr)) (fp : List Addr), PE (X.blk s H scope (compEnvC scope cl C X.env) fp) vx tv) (hs : ∀ x, foldedSetIterable iter X.env x = pure x := by intro _; rfl) :
    PE X (.DictComp kx vx [⟨tg, iter, ifs, 0⟩] scope pos) (tDcG t g tt tk tv (own.map (·.2))) := by
  refine ⟨fun pins s σ H Q I h => ?_⟩
  rw [arm_eval_DictComp]
  refine dcG_core hr hN I hi ok hg ht hk he hs h fun D C s' m H' I' q hn f => ⟨m, hn, fun h'' sb => ?_⟩
  obtain ⟨f0, f1, f2, f3, f4, f5⟩ := f
  exact ⟨.ref D, H', I'.turned (t' := s'.toks) (fun b o hb e => (sb.2 b hb).trans e) f0 f1 f3 f4 f5, rfl, q⟩
end
/-! ### neighbours -/
def befor (ns : List Int) (i : Nat) : Int := ((0 :: ns)[i]?).getD 0
def here (ns : List Int) (i : Nat) : Int := (ns[i]?).getD 0
def spNeigh (K : PySem.W.Frag) : SpY := fun vs n G Yd => ∃ (a : Addr) (ns : List Int), vs = [.ref a] ∧ n = ns.length ∧ G = (fun i H => i = 0 → SqL K H a (ns.map V.int)) ∧ Yd = fun i y Nw => ∃ T, y = .ref T ∧ Nw = [(T, .tup [.int (befor ns i), .int (here ns i)])]
section
variable {P : Program} {w : World} {K : PySem.W.Frag} {mg : Str → Option Value} {base : Heap}
theorem scNeigh : GScope ["order", "before", "row_id"] ["order"] (defScope sNeigh) := ⟨rfl, rfl, rfl, by decide +kernel, rfl, by decide +kernel, by decide +kernel⟩
theorem ok_neigh {f : Addr} {fd : FuncData} (F : Fun K "neighbours" "neighbours" sNeigh f fd) (T : mg "list" = none) : GenFn P w K mg base 1 f fd ["order"] (spNeigh K) := by
  refine GenFn.mk' (k := 0) (N := ["order", "before", "row_id"]) F scNeigh (by decide +kernel) rfl (fun _ _ => rfl) (fun vs n G Yd h => ?_) fun cdv vs n G Yd h => ?_
  · obtain ⟨a, ns, rfl, _⟩ := h
    rfl
  · obtain ⟨a, ns, rfl, rfl, rfl, rfl⟩ := h
    refine ⟨fun i H H' s q e => Same.sq s (q e), _, _, _, _, _, ⟨fun Ag outer L s H hr => ⟨pss_one (ps_set (i := 1) scNeigh.nd rfl (.inl rfl) pe_int), pi_listK (K := K) rfl (pe_callTy (call_listK (K := K) rfl) (by rfl) T (by decide +kernel) (pa_cons (pv 0) pa_nil)), pg_name (i := 2) scNeigh.nd rfl (.inl rfl),
      pe_tup (pa_cons (pv 1) (pa_cons (pv 2) pa_nil)), pss_one (ps_set (i := 1) scNeigh.nd rfl (.inl rfl) (pv 2))⟩⟩, fun H g0 => ?_⟩
    have hS := g0 rfl
    refine ⟨_, rfl, a, _, rfl, .inl hS, fun p hp => ⟨p, rfl, ⟨ns.map V.int, SqL.of upd_same⟩, ?_⟩⟩
    refine ⟨[(p, .lst (ns.map V.int))], fun i σ => ∃ v, σ = [some (.ref a), some (.int (befor ns i)), v], fun i σ => σ = [some (.ref a), some (.int (befor ns i)), some (.int (here ns i))], rfl, fun q hq => ?_, ⟨none, rfl⟩, ⟨?_, ?_, ?_⟩⟩
    · rw [List.mem_singleton.mp hq]
      exact ⟨hp, True.intro⟩
    · rintro i σ H hi _ hfr ⟨v, rfl⟩
      have sq : SqL K (upd H p (.lst (ns.map V.int))) p (ns.map V.int) := SqL.of upd_same
      have hat : (ns.map V.int)[i]? = some (.int (here ns i)) := by
        rw [List.getElem?_map, List.getElem?_eq_getElem hi]
        show some (V.int ns[i]) = some (V.int ((ns[i]?).getD 0))
        rw [List.getElem?_eq_getElem hi]; rfl
      refine ⟨⟨_, _, sq, hat⟩, fun x H' y => ?_⟩
      obtain ⟨rfl, y⟩ := y
      have y := y _ sq
      rw [hat] at y
      obtain rfl := Option.some.inj y
      refine ⟨_, rfl, _, rfl, by show 2 ≤ sizeLine; decide, fun T hT => ⟨[(T, .tup [.int (befor ns i), .int (here ns i)])], rfl, fun q hq => ?_, ⟨T, rfl, rfl⟩, rfl⟩⟩
      rw [List.mem_singleton.mp hq]
      exact hT
    · rintro i σ H hi _ _ rfl
      refine ⟨_, rfl, rfl, some (.int (here ns i)), ?_⟩
      show [some (V.ref a), some (V.int (here ns i)), some (V.int (here ns i))] = [some (V.ref a), some (V.int (befor ns (i + 1))), some (V.int (here ns i))]
      rfl
    · rintro σ H _ _ _
      exact ⟨_, SqL.of upd_same, by rw [List.length_map]; exact Nat.le_refl _⟩
end
open GenW
structure TxtU (mg : Str → Option Value) : Prop where
  sum : mg "sum" = none
  list : mg "list" = none
  set : mg "set" = none
section
variable {P : Program} {w : World} {K : PySem.W.Frag} {mg : Str → Option Value} {base : Heap}
/-! ### least_pins -/
/-- the id before each one that is not free -/
def leastP (ids fr : List Int) : List (Int × Int) := (((List.range ids.length).filter fun i => decide (here ids i ∉ fr))).map fun i => (here ids i, befor ids i)
def leastQ (ids fr : List Int) (n : Nat) : List (Int × Int) := (((List.range n).filter fun i => decide (here ids i ∉ fr))).map fun i => (here ids i, befor ids i)
theorem leastQ_len (ids fr : List Int) (n : Nat) : (leastQ ids fr n).length ≤ n := by
  unfold leastQ
  rw [List.length_map]
  exact Nat.le_trans (List.length_filter_le _ _) (by rw [List.length_range]; exact Nat.le_refl _)
theorem here_inj {ids : List Int} (nd : ids.Nodup) {i j : Nat} (hi : i < ids.length) (hj : j < ids.length) (h : here ids i = here ids j) : i = j := by
  unfold here at h
  rw [List.getElem?_eq_getElem hi, List.getElem?_eq_getElem hj] at h
  have h : ids[i] = ids[j] := h
  refine (List.getElem?_inj hi nd).mp ?_
  rw [List.getElem?_eq_getElem hi, List.getElem?_eq_getElem hj, h]
theorem leastQ_new {ids fr : List Int} {n : Nat} (nd : ids.Nodup) (h : n < ids.length) : here ids n ∉ (leastQ ids fr n).map Prod.fst := by
  unfold leastQ
  rw [List.map_map]
  intro q
  obtain ⟨i, hi, e⟩ := List.mem_map.mp q
  have hi := List.mem_range.mp (List.mem_filter.mp hi).1
  have := here_inj nd (Nat.lt_trans hi h) h e
  omega
theorem leastQ_in {ids fr : List Int} {n : Nat} (h : here ids n ∉ fr) : leastQ ids fr (n + 1) = leastQ ids fr n ++ [(here ids n, befor ids n)] := by
  unfold leastQ
  rw [List.range_succ, List.filter_append, List.map_append]
  congr 1
  rw [List.filter_cons_of_pos (by exact decide_eq_true h)]; rfl
theorem leastQ_out {ids fr : List Int} {n : Nat} (h : here ids n ∈ fr) : leastQ ids fr (n + 1) = leastQ ids fr n := by
  unfold leastQ
  rw [List.range_succ, List.filter_append, List.map_append]
  rw [List.filter_cons_of_neg (by intro z; exact (of_decide_eq_true z) h)]
  exact List.append_nil _
def spLeast (K : PySem.W.Frag) : Sp := fun vs H Q _ => ∃ (b g fv : Addr) (v : V) (bs ids fav : List Int) (wo : Option (List (Int × Int))), vs = [.ref b, .ref g, v, .ref fv] ∧ SqL K H b (bs.map V.int) ∧ SqL K H g (ids.map V.int) ∧ WtAt H v wo ∧ (SqL K H fv (fav.map V.int) ∨ SqT K H fv (fav.map V.int)) ∧ fav.length ≤ 4000 ∧
  bs.Nodup ∧ bs.length ≤ 300 ∧ ids.Nodup ∧ ids.length ≤ 300 ∧ (∀ x ∈ ids, x ∈ bs) ∧ (∀ x ∈ ids, (wtI wo x).natAbs < 2 ^ 300) ∧
  ∀ (q : Addr) (H' : Hp), Same H H' → H q = none → H' q = some (.dK (pinK (leastP ids (bestF bs ids (worthI wo ids.length fav))))) → Q (.ref q) H'
abbrev NLe : List Str := ["base", "goal", "weights", "favoured", "free", "row_id", "before"]
theorem scLeast : FnScope NLe ["base", "goal", "weights", "favoured"] (defScope sLeast) := ⟨rfl, rfl, rfl, by decide +kernel, rfl, by decide +kernel, by decide +kernel⟩
theorem best_len (bs ids : List Int) (wf : Int → Int) : (bestF bs ids wf).length ≤ ids.length := (best_sublist _ _ _ _).length_le
theorem ok_least {f fB fN : Addr} {fd fdB fdN : FuncData} {kws : List (Str × V)} (F : FunD K "least_pins" "least_pins" (defArgs sLeast) (defBody sLeast) (defScope sLeast) [] kws f fd) (T : TxtU mg)
    (GB : FnOk P w K mg base CX0 3 fB fdB ["base", "goal", "weights", "favoured"] (spBest K)) (kB : PySem.W.keepIn K (.ref fB) = true) (bB : KBn K fdB ["base", "goal", "weights", "favoured"] 2 ["weights", "favoured"] (fun us ws => us ++ ws) (fun vs zs => vs ++ zs)) (mB : mg "best_straight" = some (.ref fB))
    (GN : GenFn P w K mg base 1 fN fdN ["order"] (spNeigh K)) (kN : PySem.W.keepIn K (.ref fN) = true) (bN : L2.Binds K fdN ["order"] []) (mN : mg "neighbours" = some (.ref fN)) :
    FnOk P w K mg base CX0 4 f fd ["base", "goal", "weights", "favoured"] (spLeast K) := by
  refine FunD.ok0 F scLeast (fun vs H Q E h => ?_) (fun cdv A outer s H vs Q E hr h => ?_)
  · obtain ⟨b, g, fv, v, bs, ids, fav, wo, rfl, _⟩ := h
    rfl
  · obtain ⟨b, g, fv, v, bs, ids, fav, wo, rfl, hb, hg, hw, hf, hfl, nb, lb, nd, hlen, hsub, hwb, k⟩ := h
    have hr0 : Room 0 _ := hr.mono (by decide)
    have hr1 : Room 1 _ := hr.mono (by decide)
    refine ⟨_, pss_cons (ps_set (i := 4) scLeast.nd rfl (Or.inr rfl) (pe_callTy (cr_setI rfl) (by rfl) T.set (by decide +kernel) (pa_cons (pe_callN GB hr rfl mB kB bB pass0 (pa_cons (pv 0) (pa_cons (pv 1) pa_nil)) (pk_cons (pv 2) (pk_cons (pv 3) pk_nil))) pa_nil)))
      (pss_one (ps_ret (pe_dcG (own := [("before", 6), ("row_id", 5)]) (g := gTup K 2 (gCons (gName 6) (gCons (gName 5) gNil))) hr0 scLeast.nd (pgn_call GN hr1 rfl mN kN bN (pa_cons (pv 1) pa_nil)) (blkOk_by (N := NLe) (sc := defScope sLeast) (by decide +kernel))
        (fun _ _ _ _ _ => pg_tup rfl (pgs_cons (pg_name (i := 6) scLeast.nd rfl (Or.inl rfl)) (pgs_cons (pg_name (i := 5) scLeast.nd rfl (Or.inl rfl)) pgs_nil))) (fun _ _ _ _ _ => pts_one (pt_cmpR op_notInSet (pv 5) (pv 4) (by rfl))) (fun _ _ _ _ _ => pv 5) (fun _ _ _ _ _ => pv 6)))), ?_⟩
    have h16 : sizeLine = 16777216 := sizeLine_eq
    refine ⟨_, rfl, _, rfl, _, rfl, _, rfl, rfl, rfl, b, g, fv, v, bs, ids, fav, wo, rfl, hb, hg, hw, hf, hfl, nb, lb, nd, hlen, hsub, hwb, fun q H1 s1 hq hQ => ?_⟩
    obtain ⟨fr, hfr⟩ : ∃ fr, fr = bestF bs ids (worthI wo ids.length fav) := ⟨_, rfl⟩
    have hfrl : fr.length ≤ 300 := by rw [hfr]; exact Nat.le_trans (best_len ..) hlen
    rw [← hfr] at hQ k
    refine ⟨q, fr, rfl, .inl (SqL.of hQ), by omega, fun q2 S n hq2 hS hn => ?_⟩
    have s2 := Same.new (o := .set S n) hq2
    have hS2 : upd H1 q2 (.set S n) q2 = some (.set S n) := upd_same
    generalize upd H1 q2 (.set S n) = H2 at s2 hS2 ⊢
    have s12 := s1.trans s2
    refine ⟨_, rfl, _, _, _, ⟨g, ids, rfl, rfl, rfl, rfl⟩, fun D hD => ?_⟩
    refine ⟨fun i H' => Same H2 H' ∧ H' D = some (.dK (pinK (leastQ ids fr i))), ⟨Same.new hD, upd_same⟩, fun i H' _ q _ => (s12.trans q.1).seq hg, ?_, ?_⟩
    · rintro i H' y Nw hi ⟨s3, hP⟩ ⟨T, rfl, rfl⟩ hN
      have hT : H' T = none := hN _ (List.mem_singleton.mpr rfl)
      have sT : Same H' (lay [(T, .tup [.int (befor ids i), .int (here ids i)])] H') := Same.new hT
      have hT9 : (lay [(T, .tup [.int (befor ids i), .int (here ids i)])] H') T = some (.tup [.int (befor ids i), .int (here ids i)]) := upd_same
      generalize (lay [(T, .tup [.int (befor ids i), .int (here ids i)])] H' : Hp) = H9 at sT hT9 ⊢
      have hP9 := sT _ _ hP
      have s9 := s3.trans sT
      refine ⟨T, _, rfl, SqT.of hT9, rfl, _, _, rfl, _, _, rfl, rfl, rfl, _, rfl, _, rfl, here ids i, q2, S, n, rfl, rfl, s9 _ _ hS2, ?_⟩
      have hlq := leastQ_len ids fr i
      have hS' : S (here ids i) = decide (here ids i ∈ fr) := hS.1 _
      refine ⟨_, rfl, ite2 (fun c => ?_) (fun c => ?_)⟩
      · have c : here ids i ∉ fr := by
          intro z
          have c2 : (!S (here ids i)) = true := c
          rw [hS', decide_eq_true z] at c2
          cases c2
        refine ⟨_, rfl, _, rfl, pinK (leastQ ids fr i), .inl (here ids i), rfl, hP9, by rw [pin_len, h16]; omega, fun b u e => by rw [upd_ne (ne_of_none e hD)]; exact s9 _ _ e, ?_⟩
        rw [upd_same, pin_put (leastQ_new nd hi), leastQ_in c]
      · have c : here ids i ∈ fr := by
          apply Classical.byContradiction
          intro z
          have c2 : ¬ (!S (here ids i)) = true := c
          rw [hS', decide_eq_false z] at c2
          exact c2 rfl
        refine ⟨s9, ?_⟩
        rw [leastQ_out c]
        exact hP9
    · rintro H3 ⟨s3, hP⟩
      exact k D H3 (s12.trans s3) (Same.free s12 hD) hP
end
theorem kids_snoc {base : List Int} {p : Int → Option Int} {i : Nat} {x : Int} (h : base[i]? = some x) (a : Int) : kidsOf (base.take (i + 1)) p a = kidsOf (base.take i) p a ++ (if p x = some a then [x] else []) := by
  unfold kidsOf
  rw [take_snoc h, List.filter_append]
  congr 1
  by_cases e : p x = some a
  · rw [if_pos e, List.filter_cons_of_pos (by rw [beq_iff_eq]; exact e)]; rfl
  · rw [if_neg e, List.filter_cons_of_neg (by rw [beq_iff_eq]; exact e)]; rfl
theorem loose_snoc {base : List Int} {p : Int → Option Int} {i : Nat} {x : Int} (h : base[i]? = some x) : looseOf (base.take (i + 1)) p = looseOf (base.take i) p ++ (if p x = none then [x] else []) := by
  unfold looseOf
  rw [take_snoc h, List.filter_append]
  congr 1
  by_cases e : p x = none
  · rw [if_pos e, List.filter_cons_of_pos (by rw [beq_iff_eq]; exact e)]; rfl
  · rw [if_neg e, List.filter_cons_of_neg (by rw [beq_iff_eq]; exact e)]; rfl
theorem len_kids (base : List Int) (p : Int → Option Int) (a : Int) : (kidsOf base p a).length ≤ base.length := List.length_filter_le _ _
theorem len_loose (base : List Int) (p : Int → Option Int) : (looseOf base p).length ≤ base.length := List.length_filter_le _ _
section
variable {P : Program} {w : World} {K : PySem.W.Frag} {mg : Str → Option Value} {base : Heap}
/-! ### spread -/
def spSpread (K : PySem.W.Frag) : Sp := fun vs H Q _ => ∃ (l h : Addr) (ids : List Int) (p : Int → Option Int) (r : Int → Nat) (N : Nat), vs = [.ref l, .ref h] ∧ H l = some (.lst ((looseOf ids p).map V.int)) ∧ (∃ G n, HungAt G n H h (kidsOf ids p)) ∧ Forest ids p r N ∧ ids.length ≤ 300 ∧
  ∀ (q : Addr) (H' : Hp), Same H H' → H q = none → H' q = some (.lst ((laidOf ids p r N).map V.int)) → Q (.ref q) H'
theorem scSpread : FnScope ["loose", "hung", "waiting", "order", "row_id"] ["loose", "hung"] (defScope sSpread) := ⟨rfl, rfl, rfl, by decide +kernel, rfl, by decide +kernel, by decide +kernel⟩
theorem HungAt.get {G H : Hp} {n : Nat} {h z : Addr} {f : Int → List Int} (g : HungAt G n H h f) (a : Int) (hz : H z = some (.lst [])) : ∃ o, DGet H h (.int a) o ∧ ∃ l, o.getD (.ref z) = .ref l ∧ H l = some (.lst ((f a).map V.int)) := by
  obtain ⟨kvs, h1, _, h2, h3⟩ := g
  have d := DGet.k (k := (.inl a : Key)) h1
  rcases h2 a with ⟨q1, q2⟩ | ⟨l, q1, q2, _⟩
  · rw [q1] at d
    exact ⟨_, d, z, rfl, by rw [q2]; exact hz⟩
  · rw [q1] at d
    exact ⟨_, d, l, rfl, q2⟩
theorem HungAt.isD {G H : Hp} {n : Nat} {h : Addr} {f : Int → List Int} (g : HungAt G n H h f) : IsD H h := by
  obtain ⟨kvs, h1, _⟩ := g
  exact .inl ⟨kvs, .inl h1⟩
theorem flat_len {ids : List Int} {p : Int → Option Int} {r : Int → Nat} {N : Nat} (F : Forest ids p r N) : ∀ l : List Int, (∀ x ∈ l, x ∈ ids) → l.length ≤ (l.flatMap (treeOf ids p r N)).length
  | [], _ => Nat.zero_le _
  | x :: l, h => by
    have ih := flat_len F l fun y hy => h y (List.mem_cons_of_mem _ hy)
    rw [List.flatMap_cons, List.length_append, tree_eq F (h x List.mem_cons_self), List.length_cons, List.length_cons]
    omega
theorem ok_spread {f : Addr} {fd : FuncData} (F : Fun K "spread" "spread" sSpread f fd) (nlen : mg "len" = none) : FnOk P w K mg base CX0 1 f fd ["loose", "hung"] (spSpread K) := by
  refine F.ok scSpread (fun vs H Q E h => ?_) (fun cdv A outer s H vs Q E hr h => ?_)
  · obtain ⟨l, h, ids, p, r, N, rfl, _⟩ := h
    rfl
  · obtain ⟨l, h, ids, p, r, N, rfl, hl, ⟨G, n, hh⟩, Fo, hlen, k⟩ := h
    have hu := hu_of hr
    refine ⟨_, pss_cons (ps_set (i := 2) scSpread.nd rfl (Or.inl rfl) (pe_revL (pe_op op_cat (pe_dget2 hu (pv 1) pe_int (pe_lst pa_nil) ⟨rfl, rfl, rfl, rfl⟩) (pv 0))))
      (pss_cons (ps_set (i := 3) scSpread.nd rfl (Or.inl rfl) (pe_lst pa_nil))
      (pss_cons (ps_while PassesOwn.never (pt_cmpR op_gt (pe_callB call_len_seq (by rfl) nlen PySem.boot_len (pa_cons (pv 2) pa_nil)) pe_int (nomark _))
        (pss_cons (ps_set (i := 4) scSpread.nd rfl (Or.inl rfl) (pe_bm0 PySem.F.plainAttrs_list PySem.F.slot_list_pop PySem.F.type_list_pop mt_pop (pv 2)))
        (pss_cons (ps_expr (pe_bm PySem.F.plainAttrs_list PySem.F.slot_list_append PySem.F.type_list_append mt_append (pv 3) (pa_cons (pv 4) pa_nil)))
        (pss_one (ps_expr (pe_bm PySem.F.plainAttrs_list PySem.F.slot_list_extend PySem.F.type_list_extend mt_extend (pv 2) (pa_cons (pe_revL (pe_dget2 hu (pv 1) (pv 4) (pe_lst pa_nil) ⟨rfl, rfl, rfl, rfl⟩)) pa_nil)))))))
      (pss_one (ps_ret (pv 3))))), ?_⟩
    have h16 : sizeLine = 16777216 := sizeLine_eq
    have hperm := (laid_perm Fo).length_eq
    refine ⟨_, rfl, h, rfl, hh.isD, Nat.zero_le _, fun z hz => ?_⟩
    have hh1 := hh.same (Same.new (o := .lst []) hz)
    obtain ⟨o, d1, l1, e1, g1⟩ := hh1.get 0 upd_same
    have lk := len_kids ids p 0
    have ll := len_loose ids p
    refine ⟨o, d1, _, rfl, l1, l, _, _, e1, rfl, g1, Same.new hz _ _ hl, by rw [List.length_map, List.length_map, h16]; omega, fun c hc => ?_⟩
    refine ⟨c, _, rfl, SqL.of upd_same, fun wq hwq => ?_⟩
    have e2 : ((kidsOf ids p 0).map V.int ++ (looseOf ids p).map V.int).reverse = ((kidsOf ids p 0 ++ looseOf ids p).reverse).map V.int := by rw [← List.map_append, List.map_reverse]
    rw [e2]
    have s1 : Same H (upd (upd (upd H z (.lst [])) c (.lst ((kidsOf ids p 0).map V.int ++ (looseOf ids p).map V.int))) wq (.lst (((kidsOf ids p 0 ++ looseOf ids p).reverse).map V.int))) := (Same.new hz).trans ((Same.new hc).trans (Same.new hwq))
    have hwq0 : H wq = none := Same.free ((Same.new (o := .lst []) hz).trans (Same.new (o := .lst ((kidsOf ids p 0).map V.int ++ (looseOf ids p).map V.int)) hc)) hwq
    have hW0 : (upd (upd (upd H z (.lst [])) c (.lst ((kidsOf ids p 0).map V.int ++ (looseOf ids p).map V.int))) wq (.lst (((kidsOf ids p 0 ++ looseOf ids p).reverse).map V.int))) wq = some (.lst (((kidsOf ids p 0 ++ looseOf ids p).reverse).map V.int)) := upd_same
    generalize (upd (upd (upd H z (.lst [])) c (.lst ((kidsOf ids p 0).map V.int ++ (looseOf ids p).map V.int))) wq (.lst (((kidsOf ids p 0 ++ looseOf ids p).reverse).map V.int))) = H1 at s1 hW0 ⊢
    refine ⟨Nat.zero_le _, fun od hod => ?_⟩
    have hod0 : H od = none := Same.free s1 hod
    have nwo : wq ≠ od := ne_of_none hW0 hod
    refine ⟨fun m σ H' => ∃ (W os : List Int) (v : Option V), σ = [some (.ref l), some (.ref h), some (.ref wq), some (.ref od), v] ∧ m = (W.reverse.flatMap (treeOf ids p r N)).length ∧ Same H H' ∧ H' wq = some (.lst (W.map V.int)) ∧ H' od = some (.lst (os.map V.int)) ∧
        os ++ W.reverse.flatMap (treeOf ids p r N) = laidOf ids p r N ∧ ∀ x ∈ W, x ∈ ids,
      ⟨_, (kidsOf ids p 0 ++ looseOf ids p).reverse, [], none, rfl, rfl, s1.trans (Same.new hod), by rw [upd_ne nwo]; exact hW0, upd_same, by rw [List.reverse_reverse]; rfl, fun x hx => tops_in (List.mem_reverse.mp hx)⟩, ?_⟩
    rintro m σ H2 ⟨W, os, v, rfl, rfl, s2, hW, hO, hlaid, hin⟩
    have hlen2 : os.length + (W.reverse.flatMap (treeOf ids p r N)).length = ids.length := by rw [← List.length_append, hlaid, hperm]
    have hWl := flat_len Fo W.reverse fun x hx => hin x (List.mem_reverse.mp hx)
    rw [List.length_reverse] at hWl
    refine ⟨_, rfl, wq, _, rfl, .inl (SqL.of hW), _, _, rfl, rfl, _, rfl, ?_⟩
    rcases List.eq_nil_or_concat W with rfl | ⟨W0, x, rfl⟩
    · refine iteF ?_
      refine ⟨_, rfl, k od H2 s2 hod0 ?_⟩
      rw [hO, ← hlaid]
      rw [List.reverse_nil, List.flatMap_nil, List.append_nil]
    · refine ite2 (fun _ => ?_) (fun c => absurd (decide_eq_true (by rw [List.length_map, List.concat_eq_append, List.length_append]; show (0 : Int) < ((W0.length + 1 : Nat) : Int); omega)) c)
      rw [List.concat_eq_append] at *
      have hx : x ∈ ids := hin x (by simp)
      have erev : (W0 ++ [x]).reverse = x :: W0.reverse := by simp
      rw [erev, List.flatMap_cons, tree_eq Fo hx] at hlaid hlen2 hWl ⊢
      refine ⟨fun σ' H' => ∃ m', m' < ((x :: (kidsOf ids p x).flatMap (treeOf ids p r N)) ++ W0.reverse.flatMap (treeOf ids p r N)).length ∧ ∃ (W os : List Int) (v : Option V), σ' = [some (.ref l), some (.ref h), some (.ref wq), some (.ref od), v] ∧ m' = (W.reverse.flatMap (treeOf ids p r N)).length ∧ Same H H' ∧ H' wq = some (.lst (W.map V.int)) ∧ H' od = some (.lst (os.map V.int)) ∧
        os ++ W.reverse.flatMap (treeOf ids p r N) = laidOf ids p r N ∧ ∀ x ∈ W, x ∈ ids, fun _ _ z => z, ?_⟩
      have hl0 : (W0 ++ [x]).length = W0.length + 1 := by rw [List.length_append]; rfl
      rw [hl0] at hWl
      rw [List.length_append, List.length_cons] at hlen2 hWl
      refine ⟨_, rfl, .inl ⟨rfl, _, SqL.of hW⟩, wq, _, .int x, rfl, rfl, hW, by rw [List.length_map, List.map_append, hl0]; simp, ?_⟩
      have ed : ((W0 ++ [x]).map V.int).dropLast = W0.map V.int := by rw [List.map_append]; simp
      rw [ed]
      have s3 : Same H (upd H2 wq (.lst (W0.map V.int))) := fun b o e => by rw [upd_ne (ne_of_none e hwq0)]; exact s2 _ _ e
      have hO3 : (upd H2 wq (.lst (W0.map V.int))) od = some (.lst (os.map V.int)) := by rw [upd_ne nwo.symm]; exact hO
      have hW3 : (upd H2 wq (.lst (W0.map V.int))) wq = some (.lst (W0.map V.int)) := upd_same
      generalize upd H2 wq (.lst (W0.map V.int)) = H3 at s3 hO3 hW3 ⊢
      refine ⟨_, rfl, .inl ⟨rfl, _, SqL.of hO3⟩, _, rfl, od, _, _, rfl, rfl, hO3, by rw [List.length_map, h16]; omega, ?_⟩
      have s4 : Same H (upd H3 od (.lst (os.map V.int ++ [.int x]))) := fun b o e => by rw [upd_ne (ne_of_none e hod0)]; exact s3 _ _ e
      have hO4 : (upd H3 od (.lst (os.map V.int ++ [.int x]))) od = some (.lst ((os ++ [x]).map V.int)) := by rw [upd_same, List.map_append]; rfl
      have hW4 : (upd H3 od (.lst (os.map V.int ++ [.int x]))) wq = some (.lst (W0.map V.int)) := by rw [upd_ne nwo]; exact hW3
      generalize upd H3 od (.lst (os.map V.int ++ [.int x])) = H4 at s4 hO4 hW4 ⊢
      have hh4 := hh.same s4
      refine ⟨_, rfl, .inl ⟨rfl, _, SqL.of hW4⟩, _, rfl, h, rfl, hh4.isD, _, rfl, Nat.zero_le _, fun z2 hz2 => ?_⟩
      have s5 := Same.new (o := .lst []) hz2
      obtain ⟨o2, d2, l2, e3, g2⟩ := (hh4.same s5).get x upd_same
      refine ⟨o2, d2, l2, _, e3, SqL.of g2, fun c2 hc2 => ?_⟩
      have s6 := s5.trans (Same.new (o := .lst ((kidsOf ids p x).map V.int).reverse) hc2)
      have lk2 := len_kids ids p x
      refine ⟨wq, c2, _, _, rfl, rfl, s6 _ _ hW4, upd_same, by rw [List.length_reverse, List.length_map, List.length_map, h16]; omega, ?_⟩
      refine ⟨(((W0 ++ (kidsOf ids p x).reverse).reverse).flatMap (treeOf ids p r N)).length, ?_, W0 ++ (kidsOf ids p x).reverse, os ++ [x], some (.int x), rfl, rfl, ?_, ?_, ?_, ?_, ?_⟩
      · rw [List.reverse_append, List.reverse_reverse, List.flatMap_append, List.length_append, List.length_append, List.length_cons]; omega
      · intro b o e
        rw [upd_ne (ne_of_none e hwq0)]
        exact s6 _ _ (s4 _ _ e)
      · rw [upd_same, List.map_append, List.map_reverse]
      · rw [upd_ne nwo.symm]
        exact s6 _ _ hO4
      · rw [← hlaid, List.reverse_append, List.reverse_reverse, List.flatMap_append]
        simp [List.append_assoc]
      · intro y hy
        rcases List.mem_append.mp hy with q | q
        · exact hin y (List.mem_append_left _ q)
        · exact (mem_kids.mp (List.mem_reverse.mp q)).1
/-! ### lay -/
def spLay (K : PySem.W.Frag) : Sp := fun vs H Q _ => ∃ (b d : Addr) (ids : List Int) (ps : List (Int × Int)) (r : Int → Nat) (N : Nat), vs = [.ref b, .ref d] ∧ SqL K H b (ids.map V.int) ∧ H d = some (.dK (pinK ps)) ∧ Forest ids (anOf ps) r N ∧ ids.length ≤ 300 ∧
  ∀ (q : Addr) (H' : Hp), Same H H' → H q = none → H' q = some (.lst ((laidOf ids (anOf ps) r N).map V.int)) → Q (.ref q) H'
theorem scLay : FnScope ["base", "pins", "hung", "row_id"] ["base", "pins"] (defScope sLay) := ⟨rfl, rfl, rfl, by decide +kernel, rfl, by decide +kernel, by decide +kernel⟩
theorem push_kids {ids : List Int} {p : Int → Option Int} {i : Nat} {x a : Int} (h : ids[i]? = some x) (hp : p x = some a) : pushF (kidsOf (ids.take i) p) a x = kidsOf (ids.take (i + 1)) p := by
  funext b
  unfold pushF
  rw [kids_snoc h b, hp]
  by_cases e : b = a
  · rw [if_pos e, if_pos (by rw [e]), e]
  · rw [if_neg e, if_neg (fun z => e (Option.some.inj z).symm), List.append_nil]
theorem keep_kids {ids : List Int} {p : Int → Option Int} {i : Nat} {x : Int} (h : ids[i]? = some x) (hp : p x = none) : kidsOf (ids.take i) p = kidsOf (ids.take (i + 1)) p := by
  funext b
  rw [kids_snoc h b, hp, if_neg (fun z => by cases z), List.append_nil]
theorem ok_lay {f fS : Addr} {fd fdS : FuncData} (F : Fun K "lay" "lay" sLay f fd) (GS : FnOk P w K mg base CX0 1 fS fdS ["loose", "hung"] (spSpread K)) (kS : PySem.W.keepIn K (.ref fS) = true) (bS : L2.Binds K fdS ["loose", "hung"] []) (mS : mg "spread" = some (.ref fS)) :
    FnOk P w K mg base CX0 2 f fd ["base", "pins"] (spLay K) := by
  refine F.ok scLay (fun vs H Q E h => ?_) (fun cdv A outer s H vs Q E hr h => ?_)
  · obtain ⟨b, d, ids, ps, r, N, rfl, _⟩ := h
    rfl
  · obtain ⟨b, d, ids, ps, r, N, rfl, hb, hd, Fo, hlen, k⟩ := h
    have hu := hu_of hr
    refine ⟨_, pss_cons (ps_set (i := 2) scLay.nd rfl (Or.inl rfl) pe_dnewK)
      (pss_cons (ps_for PassesOwn.never rfl (pi_list (pv 0)) (pg_name (i := 3) scLay.nd rfl (Or.inl rfl))
        (pss_one (ps_if (pt_cmp (pc_din hu (pv 3) (pv 1)))
          (pss_one (ps_expr (pe_bm PySem.F.plainAttrs_list PySem.F.slot_list_append PySem.F.type_list_append mt_append (pe_dsetd (pv 2) (pe_dget hu (pv 1) (pv 3) (fun _ _ => rfl)) (pe_lst pa_nil) ⟨rfl, rfl, rfl, rfl⟩) (pa_cons (pv 3) pa_nil)))) pss_nil)))
      (pss_one (ps_ret (pe_call GS hr rfl mS kS bS .nil pass0 (pa_cons (pe_lc (own := [("row_id", 3)]) (g := gName 3) rfl scLay.nd (pi_list (pv 0)) (blkOk_by (N := ["base", "pins", "hung", "row_id"]) (sc := defScope sLay) (by decide +kernel))
        (fun _ _ _ _ _ => pg_name (i := 3) scLay.nd rfl (Or.inl rfl)) (fun _ _ _ _ _ => pts_one (pt_cmp (pc_dnotin hu (pv 3) (pv 1)))) (fun _ _ _ _ _ => pv 3)) (pa_cons (pv 2) pa_nil)))))), ?_⟩
    have h16 : sizeLine = 16777216 := sizeLine_eq
    intro h hh
    refine ⟨_, rfl, b, rfl, ⟨_, (Same.new hh).seq hb⟩, for_list (K := K) (a := b) (xs := ids.map V.int) (fun i σ H' => ∃ v : Option V, σ = [some (.ref b), some (.ref d), some (.ref h), v] ∧ Same H H' ∧ i ≤ ids.length ∧ HungAt H i H' h (kidsOf (ids.take i) (anOf ps)))
      ⟨none, rfl, Same.new hh, Nat.zero_le _, by rw [List.take_zero]; exact HungAt.nil upd_same⟩ (fun i σ H' _ ⟨_, _, s, _⟩ => s.seq hb) ?_ ?_⟩
    · rintro i y σ H1 hi ⟨v, rfl, s1, hil, hg⟩
      obtain ⟨x, hx, rfl⟩ := int_at hi
      have hil2 : i < ids.length := (List.getElem?_eq_some_iff.mp hx).1
      have hd1 := s1 _ _ hd
      have hv := val_pin ps x
      have dg := DGet.k (k := (.inl x : Key)) hd1
      refine ⟨_, rfl, _, rfl, d, _, rfl, dg, _, rfl, ?_⟩
      rw [hv]
      cases ea : anOf ps x with
      | none =>
        refine iteF ⟨_, rfl, s1, hil2, ?_⟩
        rw [← keep_kids hx ea]
        obtain ⟨kvs, g1, g2, g3⟩ := hg
        exact ⟨kvs, g1, by omega, g3⟩
      | some a =>
        rw [hv, ea] at dg
        refine iteT ?_
        refine ⟨_, rfl, h, rfl, hg.isD, _, rfl, _, rfl, d, _, rfl, dg, Nat.zero_le _, fun z hz => ?_⟩
        have gz : H z = none := Same.free s1 hz
        obtain ⟨kvs, k1, k2, k3, k4⟩ := hg.push (a := a) (x := x) hz gz hh s1
        have ep := push_kids hx ea
        refine ⟨kvs, .inl a, k1, rfl, by rw [h16]; omega, fun v hv => ?_, fun hv => ?_⟩
        · obtain ⟨l, rfl, q1, q2, q3, _⟩ := k3 v hv
          have hfl : (kidsOf (ids.take i) (anOf ps) a).length ≤ ids.length := Nat.le_trans (len_kids _ _ _) (List.length_take_le' _ _)
          refine ⟨.inl ⟨rfl, _, SqL.of q1⟩, _, rfl, l, _, _, rfl, rfl, q1, by rw [List.length_map, h16]; omega, ?_⟩
          refine ⟨_, rfl, q3, hil2, ?_⟩
          rw [← ep]; exact q2
        · obtain ⟨q1, q2, q3⟩ := k4 hv
          refine ⟨.inl ⟨rfl, _, SqL.of q1⟩, _, rfl, z, _, _, rfl, rfl, q1, by rw [h16]; decide, ?_⟩
          refine ⟨_, rfl, q3, hil2, ?_⟩
          rw [← ep]; exact q2
    · rintro σ H1 ⟨v, rfl, s1, _, hg⟩
      rw [List.length_map, List.take_length] at hg
      have hd1 := s1 _ _ hd
      refine ⟨_, rfl, b, rfl, ⟨_, s1.seq hb⟩, fun D hD => ?_⟩
      refine lc_list (K := K) (a := b) (xs := ids.map V.int) (fun j H' => Same H1 H' ∧ H' D = some (.lst ((looseOf (ids.take j) (anOf ps)).map V.int))) ⟨Same.new hD, upd_same⟩ (fun j H' _ q => (s1.trans q.1).seq hb) ?_ ?_
      · rintro j y H2 hj ⟨s2, hL⟩
        obtain ⟨x, hx, rfl⟩ := int_at hj
        have hjl : j < ids.length := (List.getElem?_eq_some_iff.mp hx).1
        have dg := DGet.k (k := (.inl x : Key)) (s2 _ _ hd1)
        refine ⟨rfl, _, rfl, _, rfl, d, _, rfl, dg, _, rfl, ?_⟩
        rw [val_pin]
        cases ea : anOf ps x with
        | none =>
          refine iteT ⟨_, rfl, _, hL, ?_, fun c u e => by rw [upd_ne (ne_of_none e hD)]; exact s2 c u e, ?_⟩
          · rw [List.length_map, h16]
            have := len_loose (ids.take j) (anOf ps)
            rw [List.length_take] at this
            omega
          · rw [upd_same, loose_snoc hx, if_pos ea, List.map_append]; rfl
        | some a =>
          refine iteF ⟨s2, ?_⟩
          rw [hL, loose_snoc hx, if_neg (by rw [ea]; exact fun z => by cases z), List.append_nil]
      · rintro H2 ⟨s2, hL⟩
        rw [List.length_map, List.take_length] at hL
        refine ⟨_, rfl, D, h, ids, anOf ps, r, N, rfl, hL, ⟨_, _, hg.same s2⟩, Fo, hlen, fun q H' s3 hq hQ => ?_⟩
        exact k q H' (s1.trans (s2.trans s3)) (Same.free (s1.trans s2) hq) hQ
end
/-! ### what hangs below an id -/
def downs (ids : List Int) (p : Int → Option Int) (r : Int → Nat) (N : Nat) (x : Int) : List Int := (kidsOf ids p x).flatMap (treeOf ids p r N)
theorem sub_len {l m : List Int} (nl : l.Nodup) (nm : m.Nodup) (h : ∀ x ∈ l, x ∈ m) : l.length ≤ m.length := by
  have : l.Perm (m.filter fun x => decide (x ∈ l)) := (List.perm_ext_iff_of_nodup nl (nm.filter _)).mpr fun a => by
    rw [List.mem_filter, decide_eq_true_iff]
    exact ⟨fun q => ⟨h a q, q⟩, fun q => q.2⟩
  rw [this.length_eq]
  exact List.length_filter_le _ _
section
variable {ids : List Int} {p : Int → Option Int} {r : Int → Nat} {N : Nat}
theorem tree_downs (F : Forest ids p r N) {x : Int} (hx : x ∈ ids) : treeOf ids p r N x = x :: downs ids p r N x := tree_eq F hx
theorem downs_in (F : Forest ids p r N) {x y : Int} (h : y ∈ downs ids p r N x) : y ∈ ids := by
  obtain ⟨c, hc, hy⟩ := List.mem_flatMap.mp h
  exact ((tree_ok F _ c (mem_kids.mp hc).1 (Nat.le_refl _)).1 y hy).1
theorem downs_none (F : Forest ids p r N) {x : Int} (hx : x ∉ ids) (h0 : x ≠ 0) : downs ids p r N x = [] := by
  unfold downs
  have : kidsOf ids p x = [] := List.filter_eq_nil_iff.mpr fun y hy h => by
    rw [beq_iff_eq] at h
    rcases F.anc y hy x h with q | q
    · exact h0 q
    · exact hx q.1
  rw [this]; rfl
theorem downs_nodup (F : Forest ids p r N) (x : Int) : (downs ids p r N x).Nodup := by
  by_cases hx : x ∈ ids
  · have h := (tree_ok F _ x hx (Nat.le_refl _)).2
    rw [tree_downs F hx] at h
    exact (List.pairwise_cons.mp h).2.imp fun {a b} h e => by subst e; exact List.lt_irrefl _ h
  · by_cases h0 : x = 0
    · subst h0
      have h := laid_nodup F
      unfold laidOf at h
      rw [List.flatMap_append] at h
      exact (List.nodup_append.mp h).1
    · rw [downs_none F hx h0]; exact List.nodup_nil
theorem downs_len (F : Forest ids p r N) (x : Int) : (downs ids p r N x).length ≤ ids.length := sub_len (downs_nodup F x) F.nd fun y hy => downs_in F hy
theorem kids_nodup (F : Forest ids p r N) (x : Int) : (kidsOf ids p x).Nodup := F.nd.filter _
theorem flat_split (f : Int → List Int) : ∀ l : List Int, (l.flatMap fun k => k :: f k).Perm (l ++ l.flatMap f)
  | [] => List.Perm.refl _
  | x :: l => by
    rw [List.flatMap_cons, List.flatMap_cons, List.cons_append, List.cons_append]
    refine List.Perm.cons x ?_
    refine ((flat_split f l).append_left (f x)).trans ?_
    rw [← List.append_assoc, ← List.append_assoc]
    exact List.perm_append_comm.append_right _
theorem flat_congr {f g : Int → List Int} : ∀ l : List Int, (∀ x ∈ l, f x = g x) → l.flatMap f = l.flatMap g
  | [], _ => rfl
  | x :: l, h => by rw [List.flatMap_cons, List.flatMap_cons, h x List.mem_cons_self, flat_congr l fun y hy => h y (List.mem_cons_of_mem _ hy)]
/-- the ids directly below, then all below these -/
theorem downs_split (F : Forest ids p r N) (x : Int) : (downs ids p r N x).Perm (kidsOf ids p x ++ (kidsOf ids p x).flatMap (downs ids p r N)) := by
  unfold downs
  rw [flat_congr (g := fun k => k :: downs ids p r N k) _ fun k hk => tree_downs F (mem_kids.mp hk).1]
  exact flat_split _ _
theorem downs_all (F : Forest ids p r N) : ∀ l : List Int, (l.flatMap (downs ids p r N)).Perm (l.flatMap (kidsOf ids p) ++ (l.flatMap (kidsOf ids p)).flatMap (downs ids p r N))
  | [] => List.Perm.refl _
  | x :: l => by
    have ih := downs_all F l
    rw [List.flatMap_cons, List.flatMap_cons, List.flatMap_append]
    refine ((downs_split F x).append ih).trans ?_
    rw [List.append_assoc, List.append_assoc]
    refine List.Perm.append_left _ ?_
    rw [← List.append_assoc, ← List.append_assoc]
    exact List.perm_append_comm.append_right _
/-- an id's tree stands together -/
theorem tree_part (F : Forest ids p r N) : ∀ (n : Nat) (y : Int), y ∈ ids → N - r y ≤ n → ∀ x ∈ treeOf ids p r N y, ∃ A B, treeOf ids p r N y = A ++ treeOf ids p r N x ++ B
  | 0, y, hy, h => by have := F.lt y hy; omega
  | n + 1, y, hy, h => by
    intro x hx
    have hlt := F.lt y hy
    rw [tree_eq F hy] at hx
    rcases List.mem_cons.mp hx with e | hx
    · rw [e]; exact ⟨[], [], by simp⟩
    · obtain ⟨c, hc, hx⟩ := List.mem_flatMap.mp hx
      obtain ⟨c1, c2⟩ := kid_up F hy hc
      obtain ⟨A, B, e⟩ := tree_part F n c c1 (by omega) x hx
      obtain ⟨l1, l2, el⟩ := List.append_of_mem hc
      refine ⟨y :: l1.flatMap (treeOf ids p r N) ++ A, B ++ l2.flatMap (treeOf ids p r N), ?_⟩
      rw [tree_eq F hy, el, List.flatMap_append, List.flatMap_cons, e]
      simp [List.append_assoc]
termination_by n => n
theorem laid_part (F : Forest ids p r N) {x : Int} (hx : x ∈ ids) : ∃ A B, laidOf ids p r N = A ++ x :: downs ids p r N x ++ B := by
  obtain ⟨c, hc, hy⟩ := List.mem_flatMap.mp (laid_all F _ x hx (Nat.le_refl _))
  obtain ⟨A, B, e⟩ := tree_part F _ c (tops_in hc) (Nat.le_refl _) x hy
  obtain ⟨l1, l2, el⟩ := List.append_of_mem hc
  refine ⟨l1.flatMap (treeOf ids p r N) ++ A, B ++ l2.flatMap (treeOf ids p r N), ?_⟩
  unfold laidOf
  rw [el, List.flatMap_append, List.flatMap_cons, e, tree_downs F hx]
  simp [List.append_assoc]
theorem laid_behind (F : Forest ids p r N) {x : Int} (hx : x ∈ ids) : ((laidOf ids p r N).drop ((laidOf ids p r N).idxOf x + 1)).take (downs ids p r N x).length = downs ids p r N x := by
  obtain ⟨A, B, e⟩ := laid_part F hx
  have nd := laid_nodup F
  have hi : (laidOf ids p r N).idxOf x = A.length := idx_of_at nd (by rw [e]; simp)
  rw [hi, e]
  simp
theorem laid_first (F : Forest ids p r N) : (laidOf ids p r N).take (downs ids p r N 0).length = downs ids p r N 0 := by
  unfold laidOf downs
  rw [List.flatMap_append]
  simp
end
/-! ### the pins of an anchor -/
def hangF (ps : List (Int × Int)) (a : Int) : List Int := (ps.filter fun e => decide (e.2 = a)).map Prod.fst
theorem hang_snoc (ps : List (Int × Int)) (e : Int × Int) (a : Int) : hangF (ps ++ [e]) a = hangF ps a ++ (if e.2 = a then [e.1] else []) := by
  unfold hangF
  rw [List.filter_append, List.map_append]
  congr 1
  by_cases h : e.2 = a
  · rw [if_pos h, List.filter_cons_of_pos (by exact decide_eq_true h)]; rfl
  · rw [if_neg h, List.filter_cons_of_neg (by rw [decide_eq_false h]; exact fun z => by cases z)]; rfl
theorem map_filter_nodup {ps : List (Int × Int)} (nd : (ps.map Prod.fst).Nodup) (q : Int × Int → Bool) : ((ps.filter q).map Prod.fst).Nodup :=
  List.Sublist.nodup (List.Sublist.map Prod.fst List.filter_sublist) nd
theorem hang_kids {ids : List Int} {ps : List (Int × Int)} (nd : ids.Nodup) (nk : (ps.map Prod.fst).Nodup) (hm : ∀ e ∈ ps, e.1 ∈ ids) (a : Int) : (hangF ps a).Perm (kidsOf ids (anOf ps) a) := by
  refine (List.perm_ext_iff_of_nodup (map_filter_nodup nk _) (nd.filter _)).mpr fun x => ?_
  show _ ↔ x ∈ kidsOf ids (anOf ps) a
  rw [mem_kids]
  constructor
  · intro h
    obtain ⟨e, he, rfl⟩ := List.mem_map.mp h
    obtain ⟨h1, h2⟩ := List.mem_filter.mp he
    exact ⟨hm e h1, by rw [an_of nk e h1, of_decide_eq_true h2]⟩
  · rintro ⟨_, h⟩
    exact List.mem_map.mpr ⟨_, List.mem_filter.mpr ⟨an_mem h, decide_eq_true rfl⟩, rfl⟩
/-- the ids whose anchor is among some -/
def amongF (ps : List (Int × Int)) (l : List Int) : List Int := (ps.filter fun e => decide (e.2 ∈ l)).map Prod.fst
theorem among_kids {ids : List Int} {ps : List (Int × Int)} (nd : ids.Nodup) (nk : (ps.map Prod.fst).Nodup) (hm : ∀ e ∈ ps, e.1 ∈ ids) {l : List Int} (nl : l.Nodup) : (amongF ps l).Perm (l.flatMap (kidsOf ids (anOf ps))) := by
  have nf : (l.flatMap (kidsOf ids (anOf ps))).Nodup := by
    refine List.pairwise_flatMap.mpr ⟨fun a _ => nd.filter _, nl.imp fun {a b} hab x hx y hy e => ?_⟩
    subst e
    have h1 := (mem_kids.mp hx).2
    have h2 := (mem_kids.mp hy).2
    rw [h1] at h2
    exact hab (Option.some.inj h2)
  refine (List.perm_ext_iff_of_nodup (map_filter_nodup nk _) nf).mpr fun x => ?_
  rw [List.mem_flatMap]
  constructor
  · intro h
    obtain ⟨e, he, rfl⟩ := List.mem_map.mp h
    obtain ⟨h1, h2⟩ := List.mem_filter.mp he
    exact ⟨e.2, of_decide_eq_true h2, mem_kids.mpr ⟨hm e h1, an_of nk e h1⟩⟩
  · rintro ⟨a, ha, hx⟩
    exact List.mem_map.mpr ⟨_, List.mem_filter.mpr ⟨an_mem (mem_kids.mp hx).2, decide_eq_true ha⟩, rfl⟩
def leI (a b : Int) : Bool := decide (a ≤ b)
theorem sort_perm {a b : List Int} (h : a.Perm b) : a.mergeSort leI = b.mergeSort leI := by
  have up : ∀ l : List Int, (l.mergeSort leI).Pairwise (fun x y => x ≤ y) := fun l => by
    have := List.pairwise_mergeSort (le := leI) (fun a b c x y => decide_eq_true (Int.le_trans (of_decide_eq_true x) (of_decide_eq_true y)))
      (fun a b => by
        unfold leI
        rcases Int.le_total a b with q | q
        · rw [decide_eq_true q]; rfl
        · rw [decide_eq_true q, Bool.or_true]) l
    exact this.imp fun z => of_decide_eq_true z
  exact List.Perm.eq_of_pairwise (le := fun x y => x ≤ y) (fun x y _ _ h1 h2 => Int.le_antisymm h1 h2) (up a) (up b) (((List.mergeSort_perm _ _).trans h).trans (List.mergeSort_perm _ _).symm)
/-! ### least pins hang without circles -/
theorem here_at {ids : List Int} {i : Nat} {x : Int} (h : ids[i]? = some x) : here ids i = x := by unfold here; rw [h]; rfl
theorem here_idx {ids : List Int} {x : Int} (h : x ∈ ids) : here ids (ids.idxOf x) = x := by
  unfold here
  rw [List.getElem?_eq_getElem (List.idxOf_lt_length_of_mem h), List.getElem_idxOf]; rfl
theorem befor_zero (ids : List Int) : befor ids 0 = 0 := rfl
theorem befor_succ (ids : List Int) (i : Nat) : befor ids (i + 1) = here ids i := by
  unfold befor here
  rw [List.getElem?_cons_succ]
theorem leastP_mem {ids fr : List Int} {e : Int × Int} : e ∈ leastP ids fr ↔ ∃ i, i < ids.length ∧ here ids i ∉ fr ∧ e = (here ids i, befor ids i) := by
  unfold leastP
  constructor
  · intro h
    obtain ⟨i, hi, rfl⟩ := List.mem_map.mp h
    obtain ⟨h1, h2⟩ := List.mem_filter.mp hi
    exact ⟨i, List.mem_range.mp h1, of_decide_eq_true h2, rfl⟩
  · rintro ⟨i, h1, h2, rfl⟩
    exact List.mem_map.mpr ⟨i, List.mem_filter.mpr ⟨List.mem_range.mpr h1, decide_eq_true h2⟩, rfl⟩
theorem leastP_keys {ids fr : List Int} (nd : ids.Nodup) : ((leastP ids fr).map Prod.fst).Nodup := by
  unfold leastP
  rw [List.map_map]
  have h : ((List.range ids.length).filter fun i => decide (here ids i ∉ fr)).Nodup := List.nodup_range.filter _
  refine List.pairwise_map.mpr (h.imp_of_mem fun {i j} hi hj hij e => hij ?_)
  exact here_inj nd (List.mem_range.mp (List.mem_filter.mp hi).1) (List.mem_range.mp (List.mem_filter.mp hj).1) e
theorem here_mem {ids : List Int} {i : Nat} (h : i < ids.length) : here ids i ∈ ids := by
  unfold here
  rw [List.getElem?_eq_getElem h]
  exact List.getElem_mem h
theorem idx_here {ids : List Int} (nd : ids.Nodup) {i : Nat} (h : i < ids.length) : ids.idxOf (here ids i) = i := by
  refine idx_of_at nd ?_
  unfold here
  rw [List.getElem?_eq_getElem h]; rfl
theorem an_least {ids fr : List Int} {x a : Int} (h : anOf (leastP ids fr) x = some a) : ∃ i, i < ids.length ∧ here ids i ∉ fr ∧ x = here ids i ∧ a = befor ids i := by
  obtain ⟨i, h1, h2, e⟩ := leastP_mem.mp (an_mem h)
  exact ⟨i, h1, h2, congrArg Prod.fst e, congrArg Prod.snd e⟩
theorem least_forest {bs ids fr : List Int} (nb : bs.Nodup) (nd : ids.Nodup) (nz : ∀ x ∈ bs, x ≠ 0) (sub : ∀ x ∈ bs, x ∈ ids) (sup : ∀ x ∈ ids, x ∈ bs) : Forest bs (anOf (leastP ids fr)) (fun x => ids.idxOf x) ids.length where
  nd := nb
  nz := nz
  lt := fun x hx => List.idxOf_lt_length_of_mem (sub x hx)
  anc := fun x hx a h => by
    obtain ⟨i, h1, h2, rfl, rfl⟩ := an_least h
    cases i with
    | zero => exact .inl rfl
    | succ j =>
      rw [befor_succ]
      refine .inr ⟨sup _ (here_mem (by omega)), ?_⟩
      show ids.idxOf (here ids j) < ids.idxOf (here ids (j + 1))
      rw [idx_here nd (by omega), idx_here nd h1]
      omega
theorem leastP_len (ids fr : List Int) : (leastP ids fr).length ≤ ids.length := leastQ_len ids fr ids.length
theorem least_in {ids fr : List Int} {e : Int × Int} (h : e ∈ leastP ids fr) : e.1 ∈ ids := by
  obtain ⟨i, h1, _, rfl⟩ := leastP_mem.mp h
  exact here_mem h1
/-! ### the level cover -/
def insU (x : Int) : List Int → List Int
  | [] => [x]
  | y :: r => if x < y then x :: y :: r else if x = y then y :: r else y :: insU x r
theorem insU_mem (x : Int) : ∀ (l : List Int) (z : Int), z ∈ insU x l ↔ z = x ∨ z ∈ l
  | [], z => by unfold insU; simp
  | y :: r, z => by
    unfold insU
    split
    · simp
    · split
      · rename_i h
        subst h
        simp
      · rw [List.mem_cons, insU_mem x r z, List.mem_cons]
        constructor
        · rintro (h | h | h)
          · exact .inr (.inl h)
          · exact .inl h
          · exact .inr (.inr h)
        · rintro (h | h | h)
          · exact .inr (.inl h)
          · exact .inl h
          · exact .inr (.inr h)
theorem insU_up (x : Int) : ∀ {l : List Int}, l.Pairwise (· < ·) → (insU x l).Pairwise (· < ·)
  | [], _ => List.pairwise_singleton _ _
  | y :: r, h => by
    obtain ⟨h1, h2⟩ := List.pairwise_cons.mp h
    unfold insU
    split
    · rename_i q
      refine List.pairwise_cons.mpr ⟨fun z hz => ?_, h⟩
      rcases List.mem_cons.mp hz with e | e
      · rw [e]; exact q
      · exact Int.lt_trans q (h1 z e)
    · split
      · exact h
      · refine List.pairwise_cons.mpr ⟨fun z hz => ?_, insU_up x h2⟩
        rcases (insU_mem x r z).mp hz with e | e
        · rw [e]; omega
        · exact h1 z e
/-- the different numbers of a list, ascending -/
def boundsI (l : List Int) : List Int := l.foldr insU []
theorem bounds_mem : ∀ (l : List Int) (z : Int), z ∈ boundsI l ↔ z ∈ l
  | [], z => Iff.rfl
  | x :: r, z => by
    show z ∈ insU x (boundsI r) ↔ _
    rw [insU_mem, bounds_mem r z, List.mem_cons]
theorem bounds_up : ∀ l : List Int, (boundsI l).Pairwise (· < ·)
  | [] => List.Pairwise.nil
  | x :: r => insU_up x (bounds_up r)
theorem up_nodup {l : List Int} (h : l.Pairwise (· < ·)) : l.Nodup := h.imp fun {a b} z e => by omega
theorem up_eq {a b : List Int} (ha : a.Pairwise (· < ·)) (hb : b.Pairwise (· < ·)) (h : ∀ z, z ∈ a ↔ z ∈ b) : a = b :=
  List.Perm.eq_of_pairwise (le := fun x y : Int => x < y) (fun x y _ _ h1 h2 => by omega) ha hb ((List.perm_ext_iff_of_nodup (up_nodup ha) (up_nodup hb)).mpr fun z => h z)
theorem insU_len (x : Int) : ∀ l : List Int, (insU x l).length ≤ l.length + 1
  | [] => Nat.le_refl _
  | y :: r => by
    have := insU_len x r
    unfold insU
    split
    · exact Nat.le_refl _
    · split
      · exact Nat.le_succ _
      · rw [List.length_cons, List.length_cons]; omega
theorem bounds_len : ∀ l : List Int, (boundsI l).length ≤ l.length
  | [] => Nat.le_refl _
  | x :: r => by
    have a := insU_len x (boundsI r)
    have b := bounds_len r
    show (insU x (boundsI r)).length ≤ _
    rw [List.length_cons]; omega
/-- the runs between bounds that follow each other -/
def runsOf (ids : List Int) (tp fl : Int → Int) (b : List Int) : List (Int × List Int) := (b.zip (b.drop 1)).map fun e => (e.2 - e.1, ids.filter fun x => decide (fl x ≤ e.1) && decide (e.2 ≤ tp x))
def covF (ids : List Int) (tp fl : Int → Int) : List (Int × List Int) := runsOf ids tp fl (boundsI (ids.map fl ++ ids.map tp))
theorem cov_len (ids : List Int) (tp fl : Int → Int) : (covF ids tp fl).length ≤ 2 * ids.length := by
  unfold covF runsOf
  have := bounds_len (ids.map fl ++ ids.map tp)
  rw [List.length_append, List.length_map, List.length_map] at this
  rw [List.length_map, List.length_zip]
  omega
theorem cov_sub {ids : List Int} {tp fl : Int → Int} {r : Int × List Int} (h : r ∈ covF ids tp fl) : r.2.Sublist ids := by
  unfold covF runsOf at h
  obtain ⟨e, _, rfl⟩ := List.mem_map.mp h
  exact List.filter_sublist
/-! ### runs in the heap -/
def RunAt (H : Hp) (v : V) (r : Int × List Int) : Prop := ∃ t u, v = .ref t ∧ H t = some (.tup [.int r.1, .ref u]) ∧ H u = some (.tup (r.2.map V.int))
theorem RunAt.same {H H' : Hp} {v : V} {r : Int × List Int} (s : Same H H') (h : RunAt H v r) : RunAt H' v r := by
  obtain ⟨t, u, e, h1, h2⟩ := h
  exact ⟨t, u, e, s _ _ h1, s _ _ h2⟩
theorem RunAt.put {H : Hp} {v : V} {r : Int × List Int} {q : Addr} {xs : List V} {o : HO} (hq : H q = some (.lst xs)) (h : RunAt H v r) : RunAt (upd H q o) v r := by
  obtain ⟨t, u, e, h1, h2⟩ := h
  exact ⟨t, u, e, by rw [upd_ne (ne_of h1 hq (fun z => by cases z))]; exact h1, by rw [upd_ne (ne_of h2 hq (fun z => by cases z))]; exact h2⟩
def RunsAt (H : Hp) (q : Addr) (rs : List (Int × List Int)) : Prop := ∃ vs : List V, H q = some (.lst vs) ∧ vs.length = rs.length ∧ ∀ (i : Nat) (v : V) (r : Int × List Int), vs[i]? = some v → rs[i]? = some r → RunAt H v r
theorem RunsAt.nil {H : Hp} {q : Addr} (h : H q = some (.lst [])) : RunsAt H q [] := ⟨[], h, rfl, fun i v r e => by simp at e⟩
theorem RunsAt.same {H H' : Hp} {q : Addr} {rs : List (Int × List Int)} (s : Same H H') (h : RunsAt H q rs) : RunsAt H' q rs := by
  obtain ⟨vs, h1, h2, h3⟩ := h
  exact ⟨vs, s _ _ h1, h2, fun i v r e1 e2 => (h3 i v r e1 e2).same s⟩
theorem RunsAt.push {H : Hp} {q : Addr} {rs : List (Int × List Int)} {v : V} {r : Int × List Int} (h : RunsAt H q rs) (hv : RunAt H v r) : ∃ vs, H q = some (.lst vs) ∧ vs.length = rs.length ∧ RunsAt (upd H q (.lst (vs ++ [v]))) q (rs ++ [r]) := by
  obtain ⟨vs, h1, h2, h3⟩ := h
  refine ⟨vs, h1, h2, vs ++ [v], upd_same, by rw [List.length_append, List.length_append, h2]; rfl, fun i w t e1 e2 => ?_⟩
  by_cases hi : i < vs.length
  · rw [List.getElem?_append_left hi] at e1
    rw [List.getElem?_append_left (by omega)] at e2
    exact (h3 i w t e1 e2).put h1
  · rw [List.getElem?_append_right (by omega)] at e1
    rw [List.getElem?_append_right (by omega)] at e2
    have hj : i - vs.length = 0 := by
      cases z : i - vs.length with
      | zero => rfl
      | succ m => rw [z] at e1; simp at e1
    rw [hj] at e1
    rw [show i - rs.length = 0 by omega] at e2
    simp at e1 e2
    subst e1; subst e2
    exact hv.put h1
/-! ### the best straight set: what the greedy walk finds -/
theorem foldl_max : ∀ (l : List Int) (a : Int), a ≤ l.foldl max a ∧ (∀ x ∈ l, x ≤ l.foldl max a) ∧ (l.foldl max a = a ∨ l.foldl max a ∈ l)
  | [], a => ⟨Int.le_refl _, (fun x h => by cases h), .inl rfl⟩
  | b :: l, a => by
    obtain ⟨h1, h2, h3⟩ := foldl_max l (max a b)
    rw [List.foldl_cons]
    refine ⟨by omega, fun x hx => ?_, ?_⟩
    · rcases List.mem_cons.mp hx with e | e
      · omega
      · exact h2 x e
    · rcases h3 with e | e
      · rcases Int.le_total a b with q | q
        · exact .inr (by rw [e, Int.max_eq_right q]; exact List.mem_cons_self)
        · exact .inl (by rw [e, Int.max_eq_left q])
      · exact .inr (List.mem_cons_of_mem _ e)
theorem maxI_ge {d : Int} : ∀ {l : List Int} {x : Int}, x ∈ l → x ≤ maxI d l
  | n :: ns, x, h => by
    obtain ⟨h1, h2, _⟩ := foldl_max ns n
    rcases List.mem_cons.mp h with e | e
    · rw [e]; exact h1
    · exact h2 x e
theorem maxI_in {d : Int} : ∀ {l : List Int}, l ≠ [] → maxI d l ∈ l
  | [], h => absurd rfl h
  | n :: ns, _ => by
    obtain ⟨_, _, h3⟩ := foldl_max ns n
    show ns.foldl max n ∈ n :: ns
    rcases h3 with e | e
    · rw [e]; exact List.mem_cons_self
    · exact List.mem_cons_of_mem _ e
theorem maxI_eq {d m : Int} {l : List Int} (h1 : m ∈ l) (h2 : ∀ x ∈ l, x ≤ m) : maxI d l = m := by
  have a := maxI_ge (d := d) h1
  have b := h2 _ (maxI_in (d := d) (l := l) (fun z => by rw [z] at h1; cases h1))
  omega
theorem maxI_set {d : Int} {l m : List Int} (h : ∀ x, x ∈ l ↔ x ∈ m) : maxI d l = maxI d m := by
  by_cases e : l = []
  · subst e
    have : m = [] := List.eq_nil_iff_forall_not_mem.mpr fun x hx => by have := (h x).mpr hx; cases this
    rw [this]
  · exact (maxI_eq ((h _).mp (maxI_in e)) fun x hx => maxI_ge ((h x).mpr hx)).symm
theorem maxI_pos {l : List Int} (h : ∀ x ∈ l, 0 < x) : 0 ≤ maxI 0 l := by
  by_cases e : l = []
  · rw [e]; exact Int.le_refl _
  · have := h _ (maxI_in (d := 0) e); omega
/-- f x: the weight of x and of what can best follow it in the list -/
def Tall (pl wf f : Int → Int) : List Int → Prop
  | [] => True
  | x :: r => f x = wf x + maxI 0 ((r.filter fun y => decide (pl y < pl x)).map f) ∧ Tall pl wf f r
def grL (f wf : Int → Int) : Int → List Int → List Int
  | _, [] => []
  | m, x :: r => if f x = m then x :: grL f wf (m - wf x) r else grL f wf m r
def mostI (pl f : Int → Int) (c : Int) (l : List Int) : Int := maxI 0 ((l.filter fun y => decide (pl y < c)).map f)
section
variable {pl wf f : Int → Int}
theorem tall_pos : ∀ {l : List Int}, Tall pl wf f l → (∀ x ∈ l, 0 < wf x) → ∀ x ∈ l, wf x ≤ f x
  | [], _, _, x, h => by cases h
  | y :: r, ht, hw, x, h => by
    have ih := tall_pos ht.2 fun z hz => hw z (List.mem_cons_of_mem _ hz)
    rcases List.mem_cons.mp h with e | e
    · subst e
      have := ht.1
      have q : 0 ≤ maxI 0 ((r.filter fun y => decide (pl y < pl x)).map f) := maxI_pos fun z hz => by
        obtain ⟨u, hu, rfl⟩ := List.mem_map.mp hz
        have hu := (List.mem_filter.mp hu).1
        have a := ih u hu
        have b := hw u (List.mem_cons_of_mem _ hu)
        omega
      omega
    · exact ih x e
theorem tall_key {x y : Int} {r : List Int} (h : Tall pl wf f (x :: r)) (hy : y ∈ r) (hp : pl y < pl x) : wf x + f y ≤ f x := by
  have := h.1
  have q : f y ≤ maxI 0 ((r.filter fun y => decide (pl y < pl x)).map f) := maxI_ge (List.mem_map.mpr ⟨y, List.mem_filter.mpr ⟨hy, decide_eq_true hp⟩, rfl⟩)
  omega
theorem most_cons_in {c x : Int} {r : List Int} (h : pl x < c) (hp : ∀ y ∈ x :: r, 0 < f y) : mostI pl f c (x :: r) = max (f x) (mostI pl f c r) := by
  unfold mostI
  rw [List.filter_cons_of_pos (by exact decide_eq_true h), List.map_cons]
  by_cases e : (r.filter fun y => decide (pl y < c)).map f = []
  · rw [e]
    show f x = max (f x) 0
    have := hp x List.mem_cons_self
    omega
  · have a := maxI_in (d := 0) e
    refine maxI_eq ?_ fun z hz => ?_
    · rcases Int.le_total (f x) (maxI 0 ((r.filter fun y => decide (pl y < c)).map f)) with q | q
      · rw [Int.max_eq_right q]; exact List.mem_cons_of_mem _ a
      · rw [Int.max_eq_left q]; exact List.mem_cons_self
    · rcases List.mem_cons.mp hz with q | q
      · omega
      · have := maxI_ge (d := 0) q
        omega
theorem most_cons_out {c x : Int} {r : List Int} (h : ¬ pl x < c) : mostI pl f c (x :: r) = mostI pl f c r := by
  unfold mostI
  rw [List.filter_cons_of_neg (by intro z; exact h (of_decide_eq_true z))]
theorem most_in {c : Int} {l : List Int} (h : mostI pl f c l ≠ 0) : ∃ y ∈ l, pl y < c ∧ f y = mostI pl f c l := by
  unfold mostI at h ⊢
  have e : (l.filter fun y => decide (pl y < c)).map f ≠ [] := fun z => h (by rw [z]; rfl)
  obtain ⟨y, hy, e2⟩ := List.mem_map.mp (maxI_in (d := 0) e)
  obtain ⟨h1, h2⟩ := List.mem_filter.mp hy
  exact ⟨y, h1, of_decide_eq_true h2, e2⟩
def StrD (pl : Int → Int) (s : List Int) : Prop := s.Pairwise fun x y => pl y < pl x
/-- the greedy walk's set: straight, of the greatest weight, and the first of those by the places nx (falling) -/
theorem greedy (nx : Int → Int) : ∀ (l : List Int) (c : Int), Tall pl wf f l → (∀ x ∈ l, 0 < wf x) → l.Pairwise (fun a b => nx b < nx a) →
    (∀ y ∈ grL f wf (mostI pl f c l) l, pl y < c) ∧ StrD pl (grL f wf (mostI pl f c l) l) ∧ ((grL f wf (mostI pl f c l) l).map wf).sum = mostI pl f c l ∧
    ∀ s : List Int, s.Sublist l → StrD pl s → (∀ y ∈ s, pl y < c) → (s.map wf).sum ≤ mostI pl f c l ∧ ((s.map wf).sum = mostI pl f c l → s = grL f wf (mostI pl f c l) l ∨ s.map nx < (grL f wf (mostI pl f c l) l).map nx)
  | [], c, _, _, _ => by
    refine ⟨(fun y hy => by cases hy), List.Pairwise.nil, rfl, fun s hs _ _ => ?_⟩
    rw [List.eq_nil_of_sublist_nil hs]
    exact ⟨Int.le_refl _, fun _ => .inl rfl⟩
  | x :: r, c, ht, hw, hn => by
    have hw' : ∀ z ∈ r, 0 < wf z := fun z hz => hw z (List.mem_cons_of_mem _ hz)
    have hn' := (List.pairwise_cons.mp hn).2
    have hnx := (List.pairwise_cons.mp hn).1
    have hfp : ∀ y ∈ x :: r, 0 < f y := fun y hy => by
      have a := tall_pos ht hw y hy
      have b := hw y hy
      omega
    have hxw := hw x List.mem_cons_self
    have hfx : f x = wf x + mostI pl f (pl x) r := ht.1
    have ihc := greedy nx r c ht.2 hw' hn'
    have ihx := greedy nx r (pl x) ht.2 hw' hn'
    -- s begins with x or not
    have spl : ∀ s : List Int, s.Sublist (x :: r) → s.Sublist r ∨ ∃ s', s = x :: s' ∧ s'.Sublist r := fun s hs => by
      cases hs with
      | cons _ h => exact .inl h
      | cons_cons _ h => exact .inr ⟨_, rfl, h⟩
    -- with x first
    have top : ∀ s' : List Int, s'.Sublist r → StrD pl (x :: s') → ((x :: s').map wf).sum ≤ f x ∧ (((x :: s').map wf).sum = f x → s' = grL f wf (mostI pl f (pl x) r) r ∨ s'.map nx < (grL f wf (mostI pl f (pl x) r) r).map nx) := fun s' h1 h2 => by
      obtain ⟨p1, p2⟩ := List.pairwise_cons.mp h2
      obtain ⟨q1, q2⟩ := ihx.2.2.2 s' h1 p2 p1
      rw [List.map_cons, List.sum_cons]
      exact ⟨by omega, fun e => q2 (by omega)⟩
    by_cases hc : pl x < c
    · rw [most_cons_in hc hfp]
      have hmr : 0 ≤ mostI pl f c r := maxI_pos fun z hz => by
        obtain ⟨u, hu, rfl⟩ := List.mem_map.mp hz
        exact hfp u (List.mem_cons_of_mem _ (List.mem_filter.mp hu).1)
      by_cases hx : f x = max (f x) (mostI pl f c r)
      · rw [← hx]
        have eg : grL f wf (f x) (x :: r) = x :: grL f wf (mostI pl f (pl x) r) r := by
          rw [grL, if_pos rfl]
          congr 2
          omega
        rw [eg]
        obtain ⟨i1, i2, i3, i4⟩ := ihx
        refine ⟨fun y hy => ?_, List.pairwise_cons.mpr ⟨i1, i2⟩, by rw [List.map_cons, List.sum_cons, i3]; omega, fun s hs hst hsc => ?_⟩
        · rcases List.mem_cons.mp hy with e | e
          · rw [e]; exact hc
          · have := i1 y e; omega
        · rcases spl s hs with h | ⟨s', rfl, h⟩
          · have a := (ihc.2.2.2 s h hst hsc).1
            refine ⟨by omega, fun e => .inr ?_⟩
            cases s with
            | nil =>
              have := hfp x List.mem_cons_self
              rw [List.map_nil, List.sum_nil] at e; omega
            | cons y s' =>
              rw [List.map_cons, List.map_cons]
              exact List.cons_lt_cons_iff.mpr (.inl (hnx y (h.subset List.mem_cons_self)))
          · obtain ⟨t1, t2⟩ := top s' h hst
            refine ⟨t1, fun e => ?_⟩
            rcases t2 e with q | q
            · exact .inl (by rw [q])
            · rw [List.map_cons, List.map_cons]
              exact .inr (List.cons_lt_cons_iff.mpr (.inr ⟨rfl, q⟩))
      · have em : max (f x) (mostI pl f c r) = mostI pl f c r := by omega
        have hlt : f x < mostI pl f c r := by omega
        rw [em]
        have eg : grL f wf (mostI pl f c r) (x :: r) = grL f wf (mostI pl f c r) r := by rw [grL, if_neg (by omega)]
        rw [eg]
        obtain ⟨i1, i2, i3, i4⟩ := ihc
        refine ⟨i1, i2, i3, fun s hs hst hsc => ?_⟩
        rcases spl s hs with h | ⟨s', rfl, h⟩
        · exact i4 s h hst hsc
        · obtain ⟨t1, _⟩ := top s' h hst
          exact ⟨by omega, fun e => by omega⟩
    · rw [most_cons_out hc]
      have hne : f x ≠ mostI pl f c r := fun e => by
        have h0 := hfp x List.mem_cons_self
        obtain ⟨y, hy, hyc, ey⟩ := most_in (pl := pl) (f := f) (c := c) (l := r) (by omega)
        have := tall_key ht hy (by omega)
        omega
      have eg : grL f wf (mostI pl f c r) (x :: r) = grL f wf (mostI pl f c r) r := by rw [grL, if_neg hne]
      rw [eg]
      obtain ⟨i1, i2, i3, i4⟩ := ihc
      refine ⟨i1, i2, i3, fun s hs hst hsc => ?_⟩
      rcases spl s hs with h | ⟨s', rfl, h⟩
      · exact i4 s h hst hsc
      · exact absurd (hsc x List.mem_cons_self) hc
end
theorem bestG_gr (f wf : Int → Int) : ∀ (l : List Int) (acc : List Int) (m : Int), (l.foldl (bestS f wf) (acc, m)).1 = acc ++ grL f wf m l
  | [], acc, m => by rw [grL, List.append_nil]; rfl
  | x :: r, acc, m => by
    rw [List.foldl_cons, grL]
    unfold bestS
    by_cases h : f x = m
    · rw [if_pos h, if_pos h]
      show (r.foldl (bestS f wf) (acc ++ [x], m - wf x)).1 = _
      rw [bestG_gr f wf r, List.append_assoc]; rfl
    · rw [if_neg h, if_neg h]
      exact bestG_gr f wf r acc m
theorem bestG_eq (f wf : Int → Int) (m : Int) (l : List Int) : (bestG f wf m l).1 = grL f wf m l := by
  unfold bestG
  rw [bestG_gr, List.nil_append]
/-! ### the levels of the reversed lists -/
theorem topI_at {pl wf : Int → Int} {a b : List Int} {x : Int} (nd : (a ++ x :: b).Nodup) : topI pl wf (a ++ x :: b) x = (levS pl wf (levF pl wf a) x).2 := by
  unfold topI
  have hx : x ∉ a := fun h => (List.nodup_append.mp nd).2.2 x h x List.mem_cons_self rfl
  have e : (a ++ x :: b).idxOf x = a.length := by
    rw [List.idxOf_append, if_neg hx, List.idxOf_cons_self, Nat.zero_add]
  rw [e, List.take_left]
theorem levF_map {pl wf : Int → Int} {l : List Int} (nd : l.Nodup) : ∀ (a b : List Int), l = a ++ b → levF pl wf a = a.map fun y => (pl y, topI pl wf l y) := by
  intro a
  refine foldr_snoc (p := fun a => ∀ b, l = a ++ b → levF pl wf a = a.map fun y => (pl y, topI pl wf l y)) (fun b _ => rfl) (fun a x ih b e => ?_) a
  show levF pl wf (a ++ [x]) = (a ++ [x]).map _
  have e2 : l = a ++ x :: b := by rw [e, List.append_assoc]; rfl
  rw [lev_snoc, ih (x :: b) e2, List.map_append]
  congr 1
  have q : topI pl wf l x = (levS pl wf (levF pl wf a) x).2 := by
    rw [e2]
    exact topI_at (by rw [← e2]; exact nd)
  rw [ih (x :: b) e2] at q
  show [levS pl wf (a.map fun y => (pl y, topI pl wf l y)) x] = [(pl x, topI pl wf l x)]
  rw [q]; rfl
/-- the level of an id by the ones ahead of it -/
theorem topI_step {pl wf : Int → Int} {l a b : List Int} {x : Int} (nd : l.Nodup) (e : l = a ++ x :: b) : topI pl wf l x = wf x + maxI 0 ((a.filter fun y => decide (pl y < pl x)).map (topI pl wf l)) := by
  have q : topI pl wf l x = (levS pl wf (levF pl wf a) x).2 := by
    have nd2 := nd
    rw [e] at nd2 ⊢
    exact topI_at nd2
  rw [q, levF_map nd a _ e]
  show wf x + maxI 0 (((a.map fun y => (pl y, topI pl wf l y)).filter fun e => decide (e.1 < pl x)).map Prod.snd) = _
  rw [List.filter_map, List.map_map]
  rfl
theorem tall_rev {pl wf : Int → Int} {ids : List Int} (nd : ids.Nodup) : Tall pl wf (topI pl wf ids.reverse) ids := by
  have nr : ids.reverse.Nodup := ((List.reverse_perm ids).nodup_iff).mpr nd
  have go : ∀ (l c : List Int), ids = c ++ l → Tall pl wf (topI pl wf ids.reverse) l := by
    intro l
    induction l with
    | nil => intro c _; exact True.intro
    | cons x r ih =>
      intro c e
      refine ⟨?_, ih (c ++ [x]) (by rw [e, List.append_assoc]; rfl)⟩
      have e2 : ids.reverse = r.reverse ++ x :: c.reverse := by
        rw [e]; simp
      rw [topI_step nr e2]
      congr 1
      refine maxI_set fun z => ?_
      simp only [List.mem_map, List.mem_filter, List.mem_reverse]
  exact go ids [] rfl
def timesI (rs : List (Int × List Int)) (x : Int) : Int := (rs.map fun r => r.1 * ((r.2.count x : Nat) : Int)).sum
def sumT (rs : List (Int × List Int)) : Int := (rs.map Prod.fst).sum
theorem top_bound {pl wf : Int → Int} {l : List Int} {M : Int} (nd : l.Nodup) (hw : ∀ x ∈ l, 0 ≤ wf x ∧ wf x ≤ M) : ∀ (n : Nat) (a b : List Int) (x : Int), a.length ≤ n → l = a ++ x :: b → 0 ≤ topI pl wf l x ∧ topI pl wf l x ≤ M * ((a.length : Int) + 1) ∧ 0 ≤ topI pl wf l x - wf x
  | n, a, b, x, hn, e => by
    have hx : x ∈ l := by rw [e]; exact List.mem_append_right _ List.mem_cons_self
    obtain ⟨w0, w1⟩ := hw x hx
    rw [topI_step nd e]
    have key : 0 ≤ maxI 0 ((a.filter fun y => decide (pl y < pl x)).map (topI pl wf l)) ∧ maxI 0 ((a.filter fun y => decide (pl y < pl x)).map (topI pl wf l)) ≤ M * (a.length : Int) := by
      by_cases h0 : (a.filter fun y => decide (pl y < pl x)).map (topI pl wf l) = []
      · rw [h0]
        exact ⟨Int.le_refl _, Int.mul_nonneg (by omega) (by omega)⟩
      · obtain ⟨y, hy, ey⟩ := List.mem_map.mp (maxI_in (d := 0) h0)
        rw [← ey]
        have hya := (List.mem_filter.mp hy).1
        obtain ⟨a1, a2, ea⟩ := List.append_of_mem hya
        have hlen : a.length = a1.length + (a2.length + 1) := by rw [ea, List.length_append, List.length_cons]
        cases n with
        | zero => omega
        | succ m =>
          obtain ⟨q1, q2, _⟩ := top_bound nd hw m a1 (a2 ++ x :: b) y (by omega) (by rw [e, ea, List.append_assoc]; rfl)
          refine ⟨q1, Int.le_trans q2 ?_⟩
          refine Int.mul_le_mul_of_nonneg_left ?_ (by omega)
          omega
    refine ⟨by omega, ?_, by omega⟩
    rw [Int.mul_add, Int.mul_one]
    omega
/-! ### the greedy set is the best by weight, favoured ids, places -/
theorem idx_lt {l : List Int} {x : Int} (h : x ∈ l) : l.idxOf x < l.length := List.idxOf_lt_length_of_mem h
theorem at_idx {l : List Int} {x : Int} (h : x ∈ l) : l[l.idxOf x]? = some x := by
  rw [List.getElem?_eq_getElem (idx_lt h), List.getElem_idxOf]
theorem ixI_rev {bs : List Int} (nb : bs.Nodup) {x : Int} (h : x ∈ bs) : ixI bs.reverse x = (bs.length : Int) - 1 - ixI bs x := by
  have h1 := idx_lt h
  have h2 : bs.reverse[bs.length - 1 - bs.idxOf x]? = some x := by
    rw [List.getElem?_reverse (by omega)]
    have : bs.length - 1 - (bs.length - 1 - bs.idxOf x) = bs.idxOf x := by omega
    rw [this]
    exact at_idx h
  unfold ixI
  rw [idx_of_at (((List.reverse_perm bs).nodup_iff).mpr nb) h2]
  omega
theorem ixI_bound {bs : List Int} {x : Int} (h : x ∈ bs) : 0 ≤ ixI bs x ∧ ixI bs x < (bs.length : Int) := by
  have := idx_lt h
  unfold ixI
  omega
/-- ids in the sequence of both orders -/
def Strt (bs : List Int) (s : List Int) : Prop := s.Pairwise fun x y => ixI bs x < ixI bs y
theorem strD_iff {bs s : List Int} (nb : bs.Nodup) (h : ∀ x ∈ s, x ∈ bs) : StrD (ixI bs.reverse) s ↔ Strt bs s := by
  unfold StrD Strt
  constructor
  · intro q
    refine q.imp_of_mem fun {a b} ha hb z => ?_
    rw [ixI_rev nb (h a ha), ixI_rev nb (h b hb)] at z
    omega
  · intro q
    refine q.imp_of_mem fun {a b} ha hb z => ?_
    rw [ixI_rev nb (h a ha), ixI_rev nb (h b hb)]
    omega
theorem nx_pair {ids : List Int} (nd : ids.Nodup) : ids.Pairwise fun a b => (0 - ixI ids b) < (0 - ixI ids a) := by
  have h : ids.Pairwise fun a b => ixI ids a < ixI ids b := by
    refine List.pairwise_iff_getElem.mpr fun i j hi hj hij => ?_
    unfold ixI
    rw [nd.idxOf_getElem i hi, nd.idxOf_getElem j hj]
    omega
  exact h.imp fun z => by omega
theorem best_main {bs ids : List Int} {wf : Int → Int} (nb : bs.Nodup) (nd : ids.Nodup) (sub : ∀ x ∈ ids, x ∈ bs) (hw : ∀ x ∈ ids, 0 < wf x) :
    (bestF bs ids wf).Sublist ids ∧ Strt bs (bestF bs ids wf) ∧ ∀ s : List Int, s.Sublist ids → Strt bs s → (s.map wf).sum ≤ ((bestF bs ids wf).map wf).sum ∧
      ((s.map wf).sum = ((bestF bs ids wf).map wf).sum → s = bestF bs ids wf ∨ (s.map fun x => 0 - ixI ids x) < (bestF bs ids wf).map fun x => 0 - ixI ids x) := by
  have hsub := best_sublist (tallF bs ids wf) wf (maxI 0 (ids.reverse.map (tallF bs ids wf))) ids
  obtain ⟨c, hc⟩ : ∃ c : Int, c = (bs.length : Int) := ⟨_, rfl⟩
  have hlt : ∀ x ∈ ids, ixI bs.reverse x < c := fun x hx => by
    have := ixI_bound (bs := bs.reverse) (List.mem_reverse.mpr (sub x hx))
    rw [List.length_reverse] at this
    omega
  have em : maxI 0 (ids.reverse.map (tallF bs ids wf)) = mostI (ixI bs.reverse) (tallF bs ids wf) c ids := by
    refine maxI_set fun z => ?_
    simp only [List.mem_map, List.mem_filter, List.mem_reverse]
    constructor
    · rintro ⟨a, h, e⟩
      exact ⟨a, ⟨h, decide_eq_true (hlt a h)⟩, e⟩
    · rintro ⟨a, ⟨h, _⟩, e⟩
      exact ⟨a, h, e⟩
  have eb : bestF bs ids wf = grL (tallF bs ids wf) wf (mostI (ixI bs.reverse) (tallF bs ids wf) c ids) ids := by
    unfold bestF
    rw [bestG_eq, em]
  obtain ⟨g1, g2, g3, g4⟩ := greedy (pl := ixI bs.reverse) (wf := wf) (f := tallF bs ids wf) (fun x => 0 - ixI ids x) ids c (tall_rev nd) hw (nx_pair nd)
  rw [← eb] at g1 g2 g3 g4
  have hin : ∀ x ∈ bestF bs ids wf, x ∈ bs := fun x hx => sub x (hsub.subset hx)
  refine ⟨hsub, (strD_iff nb hin).mp g2, fun s hs hst => ?_⟩
  have hsin : ∀ x ∈ s, x ∈ bs := fun x hx => sub x (hs.subset hx)
  rw [g3]
  exact g4 s hs ((strD_iff nb hsin).mpr hst) fun y hy => hlt y (hs.subset hy)
/-- how many are favoured -/
def cntI (fav s : List Int) : Int := ((s.filter fun x => decide (x ∈ fav)).length : Nat)
theorem cnt_bound (fav s : List Int) : 0 ≤ cntI fav s ∧ cntI fav s ≤ (s.length : Int) := by
  unfold cntI
  have := List.length_filter_le (fun x => decide (x ∈ fav)) s
  omega
theorem worth_sum (wo : Option (List (Int × Int))) (n : Nat) (fav : List Int) : ∀ s : List Int, (s.map (worthI wo n fav)).sum = sumW wo s * ((n : Int) + 1) + cntI fav s
  | [] => by unfold sumW cntI; simp
  | x :: s => by
    have ih := worth_sum wo n fav s
    unfold sumW cntI at ih ⊢
    rw [List.map_cons, List.sum_cons, ih, List.map_cons, List.sum_cons, Int.add_mul]
    unfold worthI
    by_cases h : x ∈ fav
    · rw [if_pos h, List.filter_cons_of_pos (by exact decide_eq_true h), List.length_cons]
      omega
    · rw [if_neg h, List.filter_cons_of_neg (by intro z; exact h (of_decide_eq_true z))]
      omega
/-- the law's comparison: weight, favoured ids, places -/
def kLt (wo : Option (List (Int × Int))) (fav ids a b : List Int) : Prop := sumW wo a < sumW wo b ∨ (sumW wo a = sumW wo b ∧ (cntI fav a < cntI fav b ∨ (cntI fav a = cntI fav b ∧ (a.map fun x => 0 - ixI ids x) < b.map fun x => 0 - ixI ids x)))
instance (wo : Option (List (Int × Int))) (fav ids a b : List Int) : Decidable (kLt wo fav ids a b) := by unfold kLt; exact inferInstance
theorem kLt_asymm {wo : Option (List (Int × Int))} {fav ids a b : List Int} (h : kLt wo fav ids a b) : ¬ kLt wo fav ids b a := by
  unfold kLt at h ⊢
  intro q
  have hl : (a.map fun x => 0 - ixI ids x) < (b.map fun x => 0 - ixI ids x) → (b.map fun x => 0 - ixI ids x) < (a.map fun x => 0 - ixI ids x) → False := fun h1 h2 => List.lt_irrefl _ (List.lt_trans h1 h2)
  rcases h with h | ⟨h1, h | ⟨h2, h⟩⟩ <;> rcases q with q | ⟨q1, q | ⟨q2, q⟩⟩ <;> first | omega | exact hl h q
theorem best_kLt {bs ids fav : List Int} {wo : Option (List (Int × Int))} (nb : bs.Nodup) (nd : ids.Nodup) (sub : ∀ x ∈ ids, x ∈ bs) (hw : ∀ x ∈ ids, 1 ≤ wtI wo x) {s : List Int} (hs : s.Sublist ids) (hst : Strt bs s) :
    s = bestF bs ids (worthI wo ids.length fav) ∨ kLt wo fav ids s (bestF bs ids (worthI wo ids.length fav)) := by
  have hw0 : ∀ x ∈ ids, 0 < worthI wo ids.length fav x := fun x hx => by
    have h1 := hw x hx
    unfold worthI
    have : 0 < wtI wo x * ((ids.length : Int) + 1) := Int.mul_pos (by omega) (by omega)
    split <;> omega
  obtain ⟨b1, b2, b3⟩ := best_main nb nd sub hw0
  obtain ⟨q1, q2⟩ := b3 s hs hst
  rw [worth_sum, worth_sum] at q1 q2
  obtain ⟨g, hg⟩ : ∃ g, g = bestF bs ids (worthI wo ids.length fav) := ⟨_, rfl⟩
  rw [← hg] at q1 q2 b1 ⊢
  have c1 := cnt_bound fav s
  have c2 := cnt_bound fav g
  have l1 := hs.length_le
  have l2 := b1.length_le
  rcases Int.lt_trichotomy (sumW wo s) (sumW wo g) with h | h | h
  · exact .inr (.inl h)
  · rw [h] at q1 q2
    rcases Int.lt_trichotomy (cntI fav s) (cntI fav g) with z | z | z
    · exact .inr (.inr ⟨h, .inl z⟩)
    · rcases q2 (by omega) with e | e
      · exact .inl e
      · exact .inr (.inr ⟨h, .inr ⟨z, e⟩⟩)
    · omega
  · have m : (sumW wo g + 1) * ((ids.length : Int) + 1) ≤ sumW wo s * ((ids.length : Int) + 1) := Int.mul_le_mul_of_nonneg_right (by omega) (by omega)
    rw [Int.add_mul, Int.one_mul] at m
    omega
/-! ### a search through all sets -/
def setsL (l : List Int) : List (List Int) := l.foldl (fun acc x => acc ++ acc.map (· ++ [x])) [[]]
theorem sets_snoc (l : List Int) (x : Int) : setsL (l ++ [x]) = setsL l ++ (setsL l).map (· ++ [x]) := by
  unfold setsL
  rw [List.foldl_append]; rfl
theorem sets_len (l : List Int) : (setsL l).length = 2 ^ l.length := by
  refine foldr_snoc (p := fun l => (setsL l).length = 2 ^ l.length) rfl (fun l x ih => ?_) l
  show (setsL (l ++ [x])).length = 2 ^ (l ++ [x]).length
  rw [sets_snoc, List.length_append, List.length_map, ih, List.length_append]
  show 2 ^ l.length + 2 ^ l.length = 2 ^ (l.length + 1)
  rw [Nat.pow_succ]
  omega
theorem sets_mem (l : List Int) : ∀ s, s ∈ setsL l ↔ s.Sublist l := by
  refine foldr_snoc (p := fun l => ∀ s, s ∈ setsL l ↔ s.Sublist l) (fun s => ?_) (fun l x ih s => ?_) l
  · show s ∈ [[]] ↔ s.Sublist []
    rw [List.mem_singleton, List.sublist_nil]
  · show s ∈ setsL (l ++ [x]) ↔ s.Sublist (l ++ [x])
    rw [sets_snoc, List.mem_append, List.mem_map, ih s]
    constructor
    · rintro (h | ⟨t, h, rfl⟩)
      · exact h.trans (List.sublist_append_left _ _)
      · exact ((ih t).mp h).append (List.Sublist.refl _)
    · intro h
      obtain ⟨a, b, rfl, ha, hb⟩ := List.sublist_append_iff.mp h
      cases hb with
      | cons _ hb =>
        rw [List.sublist_nil.mp hb, List.append_nil]
        exact .inl ha
      | cons_cons _ hb =>
        rw [List.sublist_nil.mp hb]
        exact .inr ⟨a, (ih a).mpr ha, rfl⟩
def stepB (wo : Option (List (Int × Int))) (fav bs ids : List Int) (acc : Option (List Int)) (s : List Int) : Option (List Int) :=
  if (s.map (ixI bs)) = (s.map (ixI bs)).mergeSort (fun a b => decide (a ≤ b)) then match acc with
    | none => some s
    | some b => if kLt wo fav ids b s then some s else some b
  else acc
theorem sorted_iff {bs s : List Int} (hs : s.Nodup) (h : ∀ x ∈ s, x ∈ bs) : (s.map (ixI bs)) = (s.map (ixI bs)).mergeSort (fun a b => decide (a ≤ b)) ↔ Strt bs s := by
  have inj : ∀ x ∈ s, ∀ y ∈ s, ixI bs x = ixI bs y → x = y := fun x hx y hy e => by
    have a := at_idx (h x hx)
    have b := at_idx (h y hy)
    unfold ixI at e
    rw [Int.ofNat.inj e, b] at a
    exact (Option.some.inj a).symm
  have le := List.pairwise_mergeSort (le := fun a b : Int => decide (a ≤ b)) (fun a b c x y => decide_eq_true (Int.le_trans (of_decide_eq_true x) (of_decide_eq_true y))) (fun a b => by
      rcases Int.le_total a b with q | q
      · rw [decide_eq_true q]; rfl
      · rw [decide_eq_true q, Bool.or_true]) (s.map (ixI bs))
  constructor
  · intro e
    rw [← e] at le
    have le2 := List.pairwise_map.mp le
    have both := hs.and le2
    refine both.imp_of_mem fun {a b} ha hb z => ?_
    have z2 : ixI bs a ≤ ixI bs b := of_decide_eq_true z.2
    have : ixI bs a ≠ ixI bs b := fun e => z.1 (inj a ha b hb e)
    omega
  · intro st
    refine (List.mergeSort_of_pairwise (List.pairwise_map.mpr (st.imp fun z => decide_eq_true (by omega)))).symm
theorem search {wo : Option (List (Int × Int))} {fav bs ids g : List Int} (hg : (g.map (ixI bs)) = (g.map (ixI bs)).mergeSort (fun a b => decide (a ≤ b))) : ∀ (R : List (List Int)) (acc : Option (List Int)),
    (∀ s ∈ R, (s.map (ixI bs)) = (s.map (ixI bs)).mergeSort (fun a b => decide (a ≤ b)) → s = g ∨ kLt wo fav ids s g) → (g ∈ R ∨ acc = some g) → (∀ b, acc = some b → b = g ∨ kLt wo fav ids b g) → R.foldl (stepB wo fav bs ids) acc = some g
  | [], acc, _, h, _ => by
    rcases h with h | h
    · cases h
    · exact h
  | s :: R, acc, hR, h, hacc => by
    rw [List.foldl_cons]
    have hR' := fun t ht => hR t (List.mem_cons_of_mem _ ht)
    have irr : ¬ kLt wo fav ids g g := fun z => kLt_asymm z z
    -- the step keeps what is asked
    have key : (s = g → stepB wo fav bs ids acc s = some g) ∧ (acc = some g → stepB wo fav bs ids acc s = some g) ∧ (∀ b, stepB wo fav bs ids acc s = some b → b = g ∨ kLt wo fav ids b g) := by
      unfold stepB
      refine ⟨fun e => ?_, fun e => ?_, fun b => ?_⟩
      · subst e
        rw [if_pos hg]
        cases acc with
        | none => rfl
        | some b =>
          show (if kLt wo fav ids b s then some s else some b) = some s
          rcases hacc b rfl with q | q
          · rw [q]; split <;> rfl
          · rw [if_pos q]
      · subst e
        split
        · rename_i hs
          show (if kLt wo fav ids g s then some s else some g) = some g
          rcases hR s List.mem_cons_self hs with q | q
          · rw [q, if_neg irr]
          · rw [if_neg (kLt_asymm q)]
        · rfl
      · split
        · rename_i hs
          have qs := hR s List.mem_cons_self hs
          cases acc with
          | none =>
            intro e
            rw [← Option.some.inj e]; exact qs
          | some c =>
            show (if kLt wo fav ids c s then some s else some c) = some b → _
            intro e
            split at e
            · rw [← Option.some.inj e]; exact qs
            · rw [← Option.some.inj e]; exact hacc c rfl
        · exact hacc b
    obtain ⟨k1, k2, k3⟩ := key
    refine search hg R _ hR' ?_ k3
    rcases h with h | h
    · rcases List.mem_cons.mp h with e | e
      · exact .inr (k1 e.symm)
      · exact .inl e
    · exact .inr (k2 h)
/-- what the search finds is what the greedy walk finds -/
theorem search_best {bs ids fav : List Int} {wo : Option (List (Int × Int))} (nb : bs.Nodup) (nd : ids.Nodup) (sub : ∀ x ∈ ids, x ∈ bs) (hw : ∀ x ∈ ids, 1 ≤ wtI wo x) :
    (setsL ids).foldl (stepB wo fav bs ids) none = some (bestF bs ids (worthI wo ids.length fav)) := by
  have hw0 : ∀ x ∈ ids, 0 < worthI wo ids.length fav x := fun x hx => by
    have h1 := hw x hx
    unfold worthI
    have : 0 < wtI wo x * ((ids.length : Int) + 1) := Int.mul_pos (by omega) (by omega)
    split <;> omega
  obtain ⟨b1, b2, _⟩ := best_main nb nd sub hw0
  have sb : ∀ {s : List Int}, s.Sublist ids → s.Nodup ∧ ∀ x ∈ s, x ∈ bs := fun h => ⟨nd.sublist h, fun x hx => sub x (h.subset hx)⟩
  refine search ((sorted_iff (sb b1).1 (sb b1).2).mpr b2) _ _ (fun s hs e => ?_) (.inl ((sets_mem ids _).mpr b1)) (fun b z => by cases z)
  have h1 := (sets_mem ids s).mp hs
  exact best_kLt nb nd sub hw h1 ((sorted_iff (sb h1).1 (sb h1).2).mp e)
/-! ### level covers and straight sets: the pure part -/
theorem pair_split {x y : Int} : ∀ {l : List Int}, [x, y].Sublist l → ∃ a b, l = a ++ y :: b ∧ x ∈ a := by
  intro l
  induction l with
  | nil => intro h; cases h
  | cons z r ih =>
    intro h
    cases h with
    | cons _ h =>
      obtain ⟨a, b, e, hx⟩ := ih h
      exact ⟨z :: a, b, by rw [e]; rfl, List.mem_cons_of_mem _ hx⟩
    | cons_cons _ h =>
      obtain ⟨a, b, e⟩ := List.append_of_mem (h.subset List.mem_cons_self)
      exact ⟨x :: a, b, by rw [e]; rfl, List.mem_cons_self⟩
/-! neighbours in an ascending list -/
theorem adj_facts : ∀ {b : List Int}, b.Pairwise (· < ·) → ∀ e ∈ b.zip (b.drop 1), e.1 < e.2 ∧ e.1 ∈ b ∧ e.2 ∈ b ∧ ∀ z ∈ b, z ≤ e.1 ∨ e.2 ≤ z := by
  intro b
  induction b with
  | nil => intro _ e h; simp at h
  | cons x r ih =>
    intro hp e h
    obtain ⟨p1, p2⟩ := List.pairwise_cons.mp hp
    cases r with
    | nil => simp at h
    | cons y r =>
      have h' : e ∈ (x, y) :: (y :: r).zip ((y :: r).drop 1) := h
      rcases List.mem_cons.mp h' with q | q
      · subst q
        refine ⟨p1 y List.mem_cons_self, List.mem_cons_self, List.mem_cons_of_mem _ List.mem_cons_self, fun z hz => ?_⟩
        rcases List.mem_cons.mp hz with q | q
        · left; show z ≤ x; omega
        · right
          rcases List.mem_cons.mp q with q2 | q2
          · show y ≤ z; omega
          · have := (List.pairwise_cons.mp p2).1 z q2
            show y ≤ z; omega
      · obtain ⟨i1, i2, i3, i4⟩ := ih p2 e q
        refine ⟨i1, List.mem_cons_of_mem _ i2, List.mem_cons_of_mem _ i3, fun z hz => ?_⟩
        rcases List.mem_cons.mp hz with q | q
        · left; have := p1 _ i2; omega
        · exact i4 z q
def lastI : Int → List Int → Int
  | x, [] => x
  | _, y :: r => lastI y r
theorem last_mem : ∀ (r : List Int) (x : Int), lastI x r ∈ x :: r
  | [], x => List.mem_cons_self
  | y :: r, x => List.mem_cons_of_mem _ (last_mem r y)
theorem last_top : ∀ (r : List Int) (x : Int), (x :: r).Pairwise (· < ·) → ∀ z ∈ x :: r, x ≤ z ∧ z ≤ lastI x r
  | [], x, _, z, h => by
    rcases List.mem_cons.mp h with e | e
    · subst e; exact ⟨Int.le_refl _, Int.le_refl _⟩
    · cases e
  | y :: r, x, hp, z, h => by
    obtain ⟨p1, p2⟩ := List.pairwise_cons.mp hp
    have a := p1 y List.mem_cons_self
    have b := (last_top r y p2 y List.mem_cons_self).2
    show x ≤ z ∧ z ≤ lastI y r
    rcases List.mem_cons.mp h with e | e
    · subst e; exact ⟨Int.le_refl _, by omega⟩
    · have := last_top r y p2 z e
      exact ⟨by omega, this.2⟩
theorem tele (c : Int → Int) : ∀ (r : List Int) (x : Int), (((x :: r).zip r).map fun e => c e.2 - c e.1).sum = c (lastI x r) - c x
  | [], x => by show (0 : Int) = c x - c x; omega
  | y :: r, x => by
    show (c y - c x) + (((y :: r).zip r).map fun e => c e.2 - c e.1).sum = c (lastI y r) - c x
    rw [tele c r y]; omega
theorem adj_sum {b : List Int} (hb : b.Pairwise (· < ·)) {lo hi : Int} (h1 : lo ∈ b) (h2 : hi ∈ b) (h : lo ≤ hi) :
    ((b.zip (b.drop 1)).map fun e => if lo ≤ e.1 ∧ e.2 ≤ hi then e.2 - e.1 else 0).sum = hi - lo := by
  cases b with
  | nil => cases h1
  | cons x r =>
    have e : (((x :: r).zip ((x :: r).drop 1)).map fun e => if lo ≤ e.1 ∧ e.2 ≤ hi then e.2 - e.1 else 0) = ((x :: r).zip r).map fun e => (max lo (min hi e.2)) - (max lo (min hi e.1)) := by
      refine List.map_congr_left fun e he => ?_
      obtain ⟨a1, a2, a3, a4⟩ := adj_facts hb e he
      have b1 := a4 lo h1
      have b2 := a4 hi h2
      by_cases q : lo ≤ e.1 ∧ e.2 ≤ hi
      · rw [if_pos q]; omega
      · rw [if_neg q]; omega
    rw [e, tele (fun z => max lo (min hi z)) r x]
    have l1 := (last_top r x hb lo h1).1
    have l2 := (last_top r x hb hi h2).2
    show max lo (min hi (lastI x r)) - max lo (min hi x) = _
    omega
theorem adj_all {b : List Int} : ((b.zip (b.drop 1)).map fun e => e.2 - e.1).sum = match b with | [] => 0 | x :: r => lastI x r - x := by
  cases b with
  | nil => rfl
  | cons x r => exact tele (fun z => z) r x
/-! the tops -/
section
variable {pl wf : Int → Int} {ids : List Int}
theorem top_dis (nd : ids.Nodup) {x y : Int} (h : [x, y].Sublist ids) (hp : pl x < pl y) : topI pl wf ids x ≤ topI pl wf ids y - wf y := by
  obtain ⟨a, b, e, hx⟩ := pair_split h
  have st := topI_step (pl := pl) (wf := wf) nd e
  have m : topI pl wf ids x ≤ maxI 0 ((a.filter fun z => decide (pl z < pl y)).map (topI pl wf ids)) := maxI_ge (List.mem_map.mpr ⟨x, List.mem_filter.mpr ⟨hx, decide_eq_true hp⟩, rfl⟩)
  omega
theorem floor_at (nd : ids.Nodup) {x : Int} (hx : x ∈ ids) : topI pl wf ids x - wf x = 0 ∨ ∃ u ∈ ids, [u, x].Sublist ids ∧ pl u < pl x ∧ topI pl wf ids x - wf x = topI pl wf ids u := by
  obtain ⟨a, b, e⟩ := List.append_of_mem hx
  have st := topI_step (pl := pl) (wf := wf) nd e
  by_cases h0 : (a.filter fun z => decide (pl z < pl x)).map (topI pl wf ids) = []
  · rw [h0] at st
    left
    have : maxI 0 ([] : List Int) = 0 := rfl
    omega
  · right
    obtain ⟨u, hu, eu⟩ := List.mem_map.mp (maxI_in (d := 0) h0)
    obtain ⟨h1, h2⟩ := List.mem_filter.mp hu
    refine ⟨u, by rw [e]; exact List.mem_append_left _ h1, ?_, of_decide_eq_true h2, by omega⟩
    rw [e]
    exact List.Sublist.append (List.singleton_sublist.mpr h1) (List.singleton_sublist.mpr List.mem_cons_self)
theorem floor_pos (nd : ids.Nodup) (hw : ∀ x ∈ ids, 0 < wf x) {x : Int} (hx : x ∈ ids) : 0 ≤ topI pl wf ids x - wf x := by
  obtain ⟨a, b, e⟩ := List.append_of_mem hx
  exact (top_bound nd (M := maxI 0 (ids.map wf)) (fun z hz => ⟨by have := hw z hz; omega, maxI_ge (List.mem_map.mpr ⟨z, hz, rfl⟩)⟩) a.length a b x (Nat.le_refl _) e).2.2
abbrev lvl (pl wf : Int → Int) (ids : List Int) : List (Int × List Int) := covF ids (topI pl wf ids) (fun x => topI pl wf ids x - wf x)
abbrev bnd (pl wf : Int → Int) (ids : List Int) : List Int := boundsI (ids.map (fun x => topI pl wf ids x - wf x) ++ ids.map (topI pl wf ids))
theorem bnd_fl {x : Int} (hx : x ∈ ids) : topI pl wf ids x - wf x ∈ bnd pl wf ids := (bounds_mem _ _).mpr (List.mem_append_left _ (List.mem_map.mpr ⟨x, hx, rfl⟩))
theorem bnd_tp {x : Int} (hx : x ∈ ids) : topI pl wf ids x ∈ bnd pl wf ids := (bounds_mem _ _).mpr (List.mem_append_right _ (List.mem_map.mpr ⟨x, hx, rfl⟩))
theorem bnd_in {z : Int} (h : z ∈ bnd pl wf ids) : ∃ x ∈ ids, z = topI pl wf ids x - wf x ∨ z = topI pl wf ids x := by
  rcases List.mem_append.mp ((bounds_mem _ _).mp h) with q | q
  · obtain ⟨x, hx, e⟩ := List.mem_map.mp q; exact ⟨x, hx, .inl e.symm⟩
  · obtain ⟨x, hx, e⟩ := List.mem_map.mp q; exact ⟨x, hx, .inr e.symm⟩
theorem lvl_run {r : Int × List Int} (h : r ∈ lvl pl wf ids) : ∃ e ∈ (bnd pl wf ids).zip ((bnd pl wf ids).drop 1), r = (e.2 - e.1, ids.filter fun x => decide (topI pl wf ids x - wf x ≤ e.1) && decide (e.2 ≤ topI pl wf ids x)) := by
  obtain ⟨e, he, q⟩ := List.mem_map.mp (show r ∈ ((bnd pl wf ids).zip ((bnd pl wf ids).drop 1)).map _ from h)
  exact ⟨e, he, q.symm⟩
theorem lvl_in {r : Int × List Int} {e : Int × Int} (h : r = (e.2 - e.1, ids.filter fun x => decide (topI pl wf ids x - wf x ≤ e.1) && decide (e.2 ≤ topI pl wf ids x))) (x : Int) : x ∈ r.2 ↔ x ∈ ids ∧ topI pl wf ids x - wf x ≤ e.1 ∧ e.2 ≤ topI pl wf ids x := by
  rw [h]
  show x ∈ ids.filter _ ↔ _
  rw [List.mem_filter, Bool.and_eq_true, decide_eq_true_iff, decide_eq_true_iff]
/-- two ids of a run stand in the reverse sequence -/
theorem lvl_apart (nd : ids.Nodup) {r : Int × List Int} (h : r ∈ lvl pl wf ids) {x y : Int} (hs : [x, y].Sublist ids) (hx : x ∈ r.2) (hy : y ∈ r.2) : ¬ pl x < pl y := by
  obtain ⟨e, he, q⟩ := lvl_run h
  have a := (adj_facts (bounds_up _) e he).1
  have b := ((lvl_in q x).mp hx).2
  have c := ((lvl_in q y).mp hy).2
  intro hp
  have := top_dis (wf := wf) nd hs hp
  omega
theorem lvl_pos {r : Int × List Int} (h : r ∈ lvl pl wf ids) : 1 ≤ r.1 := by
  obtain ⟨e, he, q⟩ := lvl_run h
  have a := (adj_facts (bounds_up _) e he).1
  rw [q]
  show 1 ≤ e.2 - e.1
  omega
theorem lvl_some (nd : ids.Nodup) (hw : ∀ x ∈ ids, 0 < wf x) {r : Int × List Int} (h : r ∈ lvl pl wf ids) : r.2 ≠ [] := by
  obtain ⟨e, he, q⟩ := lvl_run h
  obtain ⟨a1, a2, a3, a4⟩ := adj_facts (bounds_up _) e he
  have key : ∃ u ∈ ids, topI pl wf ids u = e.2 := by
    obtain ⟨x, hx, h1 | h1⟩ := bnd_in a3
    · rcases floor_at (pl := pl) (wf := wf) nd hx with z | ⟨u, hu, _, _, z⟩
      · obtain ⟨y, hy, h2⟩ := bnd_in a2
        have p := floor_pos (pl := pl) nd hw hy
        have p2 := hw y hy
        rcases h2 with h2 | h2 <;> omega
      · exact ⟨u, hu, by omega⟩
    · exact ⟨x, hx, h1.symm⟩
  obtain ⟨u, hu, eu⟩ := key
  have b := a4 _ (bnd_fl (pl := pl) (wf := wf) hu)
  have p2 := hw u hu
  intro hn
  have := (lvl_in q u).mpr ⟨hu, by omega, by omega⟩
  rw [hn] at this
  cases this
theorem count_one {l : List Int} (nd : l.Nodup) (x : Int) : l.count x = if x ∈ l then 1 else 0 := by
  by_cases h : x ∈ l
  · rw [if_pos h]
    have a := List.nodup_iff_count.mp nd x
    have b := List.count_pos_iff.mpr h
    omega
  · rw [if_neg h]; exact List.count_eq_zero.mpr h
/-- each id is in as many runs as it weighs -/
theorem lvl_times (nd : ids.Nodup) (hw : ∀ x ∈ ids, 0 < wf x) {x : Int} (hx : x ∈ ids) : timesI (lvl pl wf ids) x = wf x := by
  unfold timesI
  show ((((bnd pl wf ids).zip ((bnd pl wf ids).drop 1)).map fun e => (e.2 - e.1, ids.filter fun x => decide (topI pl wf ids x - wf x ≤ e.1) && decide (e.2 ≤ topI pl wf ids x))).map fun r => r.1 * ((r.2.count x : Nat) : Int)).sum = _
  rw [List.map_map]
  have hlt := hw x hx
  have s := adj_sum (bounds_up (ids.map (fun x => topI pl wf ids x - wf x) ++ ids.map (topI pl wf ids))) (bnd_fl (pl := pl) (wf := wf) hx) (bnd_tp (pl := pl) (wf := wf) hx) (by omega)
  have e2 : wf x = topI pl wf ids x - (topI pl wf ids x - wf x) := by omega
  rw [e2, ← s]
  congr 1
  refine List.map_congr_left fun e he => ?_
  show (e.2 - e.1) * (((ids.filter fun x => decide (topI pl wf ids x - wf x ≤ e.1) && decide (e.2 ≤ topI pl wf ids x)).count x : Nat) : Int) = _
  rw [count_one (nd.sublist List.filter_sublist)]
  have i := lvl_in (pl := pl) (wf := wf) (ids := ids) (e := e) rfl x
  by_cases q : topI pl wf ids x - wf x ≤ e.1 ∧ e.2 ≤ topI pl wf ids x
  · rw [if_pos (i.mpr ⟨hx, q⟩), if_pos q]
    show (e.2 - e.1) * 1 = _
    omega
  · rw [if_neg (fun z => q (i.mp z).2), if_neg q]
    show (e.2 - e.1) * 0 = _
    omega
/-- the times of a level cover together -/
theorem lvl_sum (nd : ids.Nodup) (hw : ∀ x ∈ ids, 0 < wf x) : sumT (lvl pl wf ids) = maxI 0 (ids.map (topI pl wf ids)) := by
  have e1 : sumT (lvl pl wf ids) = (((bnd pl wf ids).zip ((bnd pl wf ids).drop 1)).map fun e => e.2 - e.1).sum := by
    unfold sumT
    show ((((bnd pl wf ids).zip ((bnd pl wf ids).drop 1)).map fun e => (e.2 - e.1, ids.filter fun x => decide (topI pl wf ids x - wf x ≤ e.1) && decide (e.2 ≤ topI pl wf ids x))).map Prod.fst).sum = _
    rw [List.map_map]; rfl
  rw [e1, adj_all]
  have up : (bnd pl wf ids).Pairwise (· < ·) := bounds_up _
  have hm : ∀ z, z ∈ bnd pl wf ids → ∃ x ∈ ids, z = topI pl wf ids x - wf x ∨ z = topI pl wf ids x := fun z h => bnd_in h
  have hf : ∀ x ∈ ids, topI pl wf ids x - wf x ∈ bnd pl wf ids := fun x hx => bnd_fl hx
  have ht : ∀ x ∈ ids, topI pl wf ids x ∈ bnd pl wf ids := fun x hx => bnd_tp hx
  cases hids : ids with
  | nil => rfl
  | cons x0 r0 =>
    have hx0 : x0 ∈ ids := by rw [hids]; exact List.mem_cons_self
    rw [← hids]
    generalize bnd pl wf ids = B at up hm hf ht ⊢
    cases B with
    | nil => have := ht x0 hx0; cases this
    | cons z r =>
      show lastI z r - z = _
      have st := topI_step (pl := pl) (wf := wf) nd (a := []) hids
      have m0 : maxI 0 ((([] : List Int).filter fun y => decide (pl y < pl x0)).map (topI pl wf ids)) = 0 := rfl
      have f0 := (last_top r z up _ (hf x0 hx0)).1
      have z0 : z = 0 := by
        obtain ⟨y, hy, h2⟩ := hm z List.mem_cons_self
        have p := floor_pos (pl := pl) nd hw hy
        have p2 := hw y hy
        rcases h2 with h2 | h2 <;> omega
      have hne : ids.map (topI pl wf ids) ≠ [] := by rw [hids]; intro h; cases h
      obtain ⟨u, hu, eu⟩ := List.mem_map.mp (maxI_in (d := 0) hne)
      have l1 := (last_top r z up _ (ht u hu)).2
      obtain ⟨y, hy, h2⟩ := hm _ (last_mem r z)
      have l2 := maxI_ge (d := 0) (List.mem_map.mpr ⟨y, hy, rfl⟩ : topI pl wf ids y ∈ ids.map (topI pl wf ids))
      have p2 := hw y hy
      rcases h2 with h2 | h2 <;> omega
/-! straight sets -/
def StrP (pl : Int → Int) (s : List Int) : Prop := s.Pairwise fun x y => pl x < pl y
def meetI (s r : List Int) : Int := (s.map fun x => ((r.count x : Nat) : Int)).sum
theorem meet_zero {s r : List Int} (h : ∀ x ∈ s, x ∉ r) : meetI s r = 0 := by
  induction s with
  | nil => rfl
  | cons x s ih =>
    show ((r.count x : Nat) : Int) + meetI s r = 0
    rw [ih fun z hz => h z (List.mem_cons_of_mem _ hz), List.count_eq_zero.mpr (h x List.mem_cons_self)]
    rfl
theorem meet_one {s r : List Int} (nr : r.Nodup) (h : s.Pairwise fun x y => ¬ (x ∈ r ∧ y ∈ r)) : meetI s r = 0 ∨ meetI s r = 1 := by
  induction s with
  | nil => exact .inl rfl
  | cons x s ih =>
    obtain ⟨h1, h2⟩ := List.pairwise_cons.mp h
    have e : meetI (x :: s) r = ((r.count x : Nat) : Int) + meetI s r := rfl
    rw [e, count_one nr]
    by_cases q : x ∈ r
    · rw [if_pos q, meet_zero fun z hz => fun hr => h1 z hz ⟨q, hr⟩]
      exact .inr rfl
    · rw [if_neg q]
      rcases ih h2 with i | i
      · rw [i]; exact .inl rfl
      · rw [i]; exact .inr rfl
theorem lvl_meet (nd : ids.Nodup) {s : List Int} (hs : s.Sublist ids) (hst : StrP pl s) {r : Int × List Int} (h : r ∈ lvl pl wf ids) : meetI s r.2 = 0 ∨ meetI s r.2 = 1 := by
  refine meet_one (nd.sublist (cov_sub h)) ?_
  refine List.pairwise_iff_forall_sublist.mpr fun {x y} hxy => ?_
  rintro ⟨hx, hy⟩
  exact lvl_apart nd h (hxy.trans hs) hx hy (List.pairwise_iff_forall_sublist.mp hst hxy)
theorem times_swap (s : List Int) : ∀ rs : List (Int × List Int), (s.map (timesI rs)).sum = (rs.map fun r => r.1 * meetI s r.2).sum
  | [] => by
    show (s.map fun _ => (0 : Int)).sum = 0
    induction s with
    | nil => rfl
    | cons x s ih => rw [List.map_cons, List.sum_cons, ih]; rfl
  | r :: rs => by
    rw [List.map_cons, List.sum_cons, ← times_swap s rs]
    clear times_swap
    induction s with
    | nil => show (0 : Int) = r.1 * 0 + 0; omega
    | cons x s ih =>
      rw [List.map_cons, List.sum_cons, ih, List.map_cons, List.sum_cons]
      have e1 : timesI (r :: rs) x = r.1 * ((r.2.count x : Nat) : Int) + timesI rs x := rfl
      have e2 : meetI (x :: s) r.2 = ((r.2.count x : Nat) : Int) + meetI s r.2 := rfl
      rw [e1, e2, Int.mul_add]
      omega
theorem lvl_swap (nd : ids.Nodup) (hw : ∀ x ∈ ids, 0 < wf x) {s : List Int} (hs : s.Sublist ids) : (s.map wf).sum = ((lvl pl wf ids).map fun r => r.1 * meetI s r.2).sum := by
  rw [← times_swap]
  congr 1
  exact List.map_congr_left fun x hx => (lvl_times nd hw (hs.subset hx)).symm
theorem sum_le : ∀ {rs : List (Int × List Int)} {s : List Int}, (∀ r ∈ rs, 1 ≤ r.1) → (∀ r ∈ rs, meetI s r.2 = 0 ∨ meetI s r.2 = 1) → (rs.map fun r => r.1 * meetI s r.2).sum ≤ sumT rs ∧ ((rs.map fun r => r.1 * meetI s r.2).sum = sumT rs → ∀ r ∈ rs, meetI s r.2 = 1)
  | [], s, _, _ => ⟨Int.le_refl _, fun _ r h => by cases h⟩
  | r :: rs, s, h1, h2 => by
    obtain ⟨i1, i2⟩ := sum_le (rs := rs) (s := s) (fun z hz => h1 z (List.mem_cons_of_mem _ hz)) (fun z hz => h2 z (List.mem_cons_of_mem _ hz))
    have p := h1 r List.mem_cons_self
    rw [List.map_cons, List.sum_cons, show sumT (r :: rs) = r.1 + sumT rs from rfl]
    rcases h2 r List.mem_cons_self with q | q
    · rw [q, Int.mul_zero]
      exact ⟨by omega, fun e => by omega⟩
    · rw [q, Int.mul_one]
      refine ⟨by omega, fun e z hz => ?_⟩
      rcases List.mem_cons.mp hz with w | w
      · rw [w]; exact q
      · exact i2 (by omega) z w
/-- no straight set weighs more than a level cover's size; one that weighs as much meets each run -/
theorem lvl_dual (nd : ids.Nodup) (hw : ∀ x ∈ ids, 0 < wf x) {s : List Int} (hs : s.Sublist ids) (hst : StrP pl s) :
    (s.map wf).sum ≤ sumT (lvl pl wf ids) ∧ ((s.map wf).sum = sumT (lvl pl wf ids) → ∀ r ∈ lvl pl wf ids, meetI s r.2 = 1) := by
  rw [lvl_swap (pl := pl) nd hw hs]
  exact sum_le (fun r hr => lvl_pos hr) fun r hr => lvl_meet nd hs hst hr
/-- a straight set up to an id that weighs as much as its top -/
theorem top_chain (nd : ids.Nodup) : ∀ (n : Nat) (a b : List Int) (x : Int), a.length ≤ n → ids = a ++ x :: b → ∃ s : List Int, s.Sublist a ∧ StrP pl (s ++ [x]) ∧ ((s ++ [x]).map wf).sum = topI pl wf ids x
  | n, a, b, x, hn, e => by
    have st := topI_step (pl := pl) (wf := wf) nd e
    by_cases h0 : (a.filter fun z => decide (pl z < pl x)).map (topI pl wf ids) = []
    · rw [h0] at st
      refine ⟨[], List.nil_sublist _, List.pairwise_singleton _ _, ?_⟩
      rw [st]
      show wf x + 0 = wf x + 0
      rfl
    · obtain ⟨u, hu, eu⟩ := List.mem_map.mp (maxI_in (d := 0) h0)
      obtain ⟨h1, h2⟩ := List.mem_filter.mp hu
      have h2 := of_decide_eq_true h2
      obtain ⟨a1, a2, ea⟩ := List.append_of_mem h1
      have hlen : a.length = a1.length + (a2.length + 1) := by rw [ea, List.length_append, List.length_cons]
      cases n with
      | zero => omega
      | succ m =>
        obtain ⟨s, s1, s2, s3⟩ := top_chain nd m a1 (a2 ++ x :: b) u (by omega) (by rw [e, ea, List.append_assoc]; rfl)
        refine ⟨s ++ [u], ?_, ?_, ?_⟩
        · rw [ea]
          exact s1.append (List.singleton_sublist.mpr List.mem_cons_self)
        · refine List.pairwise_append.mpr ⟨s2, List.pairwise_singleton _ _, fun z hz y hy => ?_⟩
          obtain rfl := List.mem_singleton.mp hy
          rcases List.mem_append.mp hz with q | q
          · have := (List.pairwise_append.mp s2).2.2 z q u List.mem_cons_self
            omega
          · rw [List.mem_singleton.mp q]; exact h2
        · rw [List.map_append, List.sum_append, s3, st, ← eu]
          show _ + (wf x + 0) = _
          omega
end
/-- the best straight set weighs as much as the level cover -/
theorem best_size {bs ids : List Int} {wf : Int → Int} (nb : bs.Nodup) (nd : ids.Nodup) (sub : ∀ x ∈ ids, x ∈ bs) (hw : ∀ x ∈ ids, 0 < wf x) :
    ((bestF bs ids wf).map wf).sum = sumT (lvl (ixI bs) wf ids) ∧ ∀ r ∈ lvl (ixI bs) wf ids, meetI (bestF bs ids wf) r.2 = 1 := by
  obtain ⟨b1, b2, b3⟩ := best_main nb nd sub hw
  obtain ⟨d1, d2⟩ := lvl_dual (pl := ixI bs) nd hw b1 b2
  have ge : sumT (lvl (ixI bs) wf ids) ≤ ((bestF bs ids wf).map wf).sum := by
    rw [lvl_sum nd hw]
    by_cases h0 : ids.map (topI (ixI bs) wf ids) = []
    · rw [h0]
      have := (b3 [] (List.nil_sublist _) List.Pairwise.nil).1
      exact this
    · obtain ⟨u, hu, eu⟩ := List.mem_map.mp (maxI_in (d := 0) h0)
      obtain ⟨a, b, e⟩ := List.append_of_mem hu
      obtain ⟨s, s1, s2, s3⟩ := top_chain (pl := ixI bs) (wf := wf) nd a.length a b u (Nat.le_refl _) e
      have := (b3 (s ++ [u]) (by rw [e]; exact s1.append (List.singleton_sublist.mpr List.mem_cons_self)) s2).1
      rw [s3] at this
      omega
  have eq : ((bestF bs ids wf).map wf).sum = sumT (lvl (ixI bs) wf ids) := by omega
  exact ⟨eq, d2 eq⟩
/-! ### orders joined: the best set -/
theorem ixI_left {a b : List Int} {x : Int} (h : x ∈ a) : ixI (a ++ b) x = ixI a x := by
  unfold ixI
  rw [List.idxOf_append, if_pos h]
theorem ixI_right {a b : List Int} {x : Int} (h : x ∉ a) : ixI (a ++ b) x = (a.length : Int) + ixI b x := by
  unfold ixI
  rw [List.idxOf_append, if_neg h]
  omega
theorem lex_tail {c d : List Int} : ∀ {a b : List Int}, (∀ y ∈ c, ∀ x ∈ b, y < x) → a < b → a ++ c < b ++ d
  | _, [], _, h => absurd h (List.not_lt_nil _)
  | [], x :: b, hc, _ => by
    cases c with
    | nil => exact List.nil_lt_cons _ _
    | cons y c => exact List.cons_lt_cons_iff.mpr (.inl (hc y List.mem_cons_self x List.mem_cons_self))
  | z :: a, x :: b, hc, h => by
    rcases List.cons_lt_cons_iff.mp h with h | ⟨e, h⟩
    · exact List.cons_lt_cons_iff.mpr (.inl h)
    · exact List.cons_lt_cons_iff.mpr (.inr ⟨e, lex_tail (fun y hy w hw => hc y hy w (List.mem_cons_of_mem _ hw)) h⟩)
theorem lex_head {c d : List Int} : ∀ (a : List Int), c < d → a ++ c < a ++ d
  | [], h => h
  | _ :: a, h => List.cons_lt_cons_iff.mpr (.inr ⟨rfl, lex_head a h⟩)
theorem lex_shift {f g : Int → Int} {k : Int} : ∀ {a b : List Int}, (∀ x ∈ a, g x = f x - k) → (∀ x ∈ b, g x = f x - k) → a.map f < b.map f → a.map g < b.map g
  | _, [], _, _, h => absurd h (List.not_lt_nil _)
  | [], x :: b, _, _, _ => List.nil_lt_cons _ _
  | z :: a, x :: b, ha, hb, h => by
    have e1 := ha z List.mem_cons_self
    have e2 := hb x List.mem_cons_self
    rcases List.cons_lt_cons_iff.mp h with h | ⟨e, h⟩
    · exact List.cons_lt_cons_iff.mpr (.inl (by omega))
    · exact List.cons_lt_cons_iff.mpr (.inr ⟨by omega, lex_shift (fun y hy => ha y (List.mem_cons_of_mem _ hy)) (fun y hy => hb y (List.mem_cons_of_mem _ hy)) h⟩)
section
variable {b1 b2 g1 g2 f1 f2 fv : List Int} {w1 w2 wo : Option (List (Int × Int))}
theorem sumW_app (wo : Option (List (Int × Int))) (a b : List Int) : sumW wo (a ++ b) = sumW wo a + sumW wo b := by
  unfold sumW; rw [List.map_append, List.sum_append]
theorem sumW_same {wo wo' : Option (List (Int × Int))} {s : List Int} (h : ∀ x ∈ s, wtI wo' x = wtI wo x) : sumW wo' s = sumW wo s := by
  unfold sumW; rw [List.map_congr_left h]
theorem strt_join {s1 s2 : List Int} (dj : ∀ x ∈ b2, x ∉ b1) (h1 : ∀ x ∈ s1, x ∈ b1) (h2 : ∀ x ∈ s2, x ∈ b2) : Strt (b1 ++ b2) (s1 ++ s2) ↔ Strt b1 s1 ∧ Strt b2 s2 := by
  unfold Strt
  rw [List.pairwise_append]
  constructor
  · rintro ⟨p, q, _⟩
    refine ⟨p.imp_of_mem fun {a b} ha hb z => ?_, q.imp_of_mem fun {a b} ha hb z => ?_⟩
    · rw [ixI_left (h1 a ha), ixI_left (h1 b hb)] at z; exact z
    · rw [ixI_right (dj a (h2 a ha)), ixI_right (dj b (h2 b hb))] at z; omega
  · rintro ⟨p, q⟩
    refine ⟨p.imp_of_mem fun {a b} ha hb z => ?_, q.imp_of_mem fun {a b} ha hb z => ?_, fun a ha b hb => ?_⟩
    · rw [ixI_left (h1 a ha), ixI_left (h1 b hb)]; exact z
    · rw [ixI_right (dj a (h2 a ha)), ixI_right (dj b (h2 b hb))]; omega
    · rw [ixI_left (h1 a ha), ixI_right (dj b (h2 b hb))]
      have := List.idxOf_lt_length_of_mem (h1 a ha)
      unfold ixI
      omega
theorem kLt_left {a b c d : List Int} (dj : ∀ x ∈ g2, x ∉ g1) (ha : ∀ x ∈ a, x ∈ g1) (hb : ∀ x ∈ b, x ∈ g1) (hc : ∀ x ∈ c, x ∈ g2) (h : kLt wo fv g1 a b) (h2 : kLt wo fv g2 c d ∨ c = d) : kLt wo fv (g1 ++ g2) (a ++ c) (b ++ d) := by
  have cap : ∀ u v : List Int, cntI fv (u ++ v) = cntI fv u + cntI fv v := fun u v => by unfold cntI; simp [List.filter_append, List.countP_append]
  have lx : (a.map fun x => 0 - ixI g1 x) < (b.map fun x => 0 - ixI g1 x) → ((a ++ c).map fun x => 0 - ixI (g1 ++ g2) x) < (b ++ d).map fun x => 0 - ixI (g1 ++ g2) x := fun h => by
    rw [List.map_append, List.map_append]
    have ea : (a.map fun x => 0 - ixI (g1 ++ g2) x) = a.map fun x => 0 - ixI g1 x := List.map_congr_left fun x hx => by rw [ixI_left (ha x hx)]
    have eb : (b.map fun x => 0 - ixI (g1 ++ g2) x) = b.map fun x => 0 - ixI g1 x := List.map_congr_left fun x hx => by rw [ixI_left (hb x hx)]
    rw [ea, eb]
    refine lex_tail (fun y hy x hx => ?_) h
    obtain ⟨y0, hy0, rfl⟩ := List.mem_map.mp hy
    obtain ⟨x0, hx0, rfl⟩ := List.mem_map.mp hx
    rw [ixI_right (dj y0 (hc y0 hy0))]
    have := List.idxOf_lt_length_of_mem (hb x0 hx0)
    unfold ixI
    omega
  unfold kLt at h h2 ⊢
  rw [sumW_app, sumW_app, cap, cap]
  rcases h2 with h2 | rfl
  · rcases h with h | ⟨p, h | ⟨q, h⟩⟩ <;> rcases h2 with h2 | ⟨p2, h2 | ⟨q2, h2⟩⟩ <;> first | exact .inl (by omega) | exact .inr ⟨by omega, .inl (by omega)⟩ | exact .inr ⟨by omega, .inr ⟨by omega, lx h⟩⟩
  · rcases h with h | ⟨p, h | ⟨q, h⟩⟩
    · exact .inl (by omega)
    · exact .inr ⟨by omega, .inl (by omega)⟩
    · exact .inr ⟨by omega, .inr ⟨by omega, lx h⟩⟩
theorem kLt_right {a c d : List Int} (dj : ∀ x ∈ g2, x ∉ g1) (hc : ∀ x ∈ c, x ∈ g2) (hd : ∀ x ∈ d, x ∈ g2) (h : kLt wo fv g2 c d) : kLt wo fv (g1 ++ g2) (a ++ c) (a ++ d) := by
  have cap : ∀ u v : List Int, cntI fv (u ++ v) = cntI fv u + cntI fv v := fun u v => by unfold cntI; simp [List.filter_append, List.countP_append]
  unfold kLt at h ⊢
  rw [sumW_app, sumW_app, cap, cap]
  rcases h with h | ⟨p, h | ⟨q, h⟩⟩
  · exact .inl (by omega)
  · exact .inr ⟨by omega, .inl (by omega)⟩
  · refine .inr ⟨by omega, .inr ⟨by omega, ?_⟩⟩
    rw [List.map_append, List.map_append]
    refine lex_head _ (lex_shift (k := (g1.length : Int)) (fun x hx => ?_) (fun x hx => ?_) h)
    · rw [ixI_right (dj x (hc x hx))]; omega
    · rw [ixI_right (dj x (hd x hx))]; omega
theorem best_join0 (n1 : b1.Nodup) (n2 : b2.Nodup) (m1 : g1.Nodup) (m2 : g2.Nodup) (sb1 : ∀ x ∈ g1, x ∈ b1) (sb2 : ∀ x ∈ g2, x ∈ b2) (dj : ∀ x ∈ b2, x ∉ b1) (hw : ∀ x ∈ g1 ++ g2, 1 ≤ wtI wo x) :
    bestF (b1 ++ b2) (g1 ++ g2) (worthI wo (g1 ++ g2).length fv) = bestF b1 g1 (worthI wo g1.length fv) ++ bestF b2 g2 (worthI wo g2.length fv) := by
  have djg : ∀ x ∈ g2, x ∉ g1 := fun x hx h => dj x (sb2 x hx) (sb1 x h)
  have nb : (b1 ++ b2).Nodup := List.nodup_append.mpr ⟨n1, n2, fun x hx y hy e => dj y hy (e ▸ hx)⟩
  have ng : (g1 ++ g2).Nodup := List.nodup_append.mpr ⟨m1, m2, fun x hx y hy e => djg y hy (e ▸ hx)⟩
  have sub : ∀ x ∈ g1 ++ g2, x ∈ b1 ++ b2 := fun x hx => by
    rcases List.mem_append.mp hx with h | h
    · exact List.mem_append_left _ (sb1 x h)
    · exact List.mem_append_right _ (sb2 x h)
  have hw1 : ∀ x ∈ g1, 1 ≤ wtI wo x := fun x hx => hw x (List.mem_append_left _ hx)
  have hw2 : ∀ x ∈ g2, 1 ≤ wtI wo x := fun x hx => hw x (List.mem_append_right _ hx)
  have wp : ∀ (n : Nat) (l : List Int), (∀ x ∈ l, 1 ≤ wtI wo x) → ∀ x ∈ l, 0 < worthI wo n fv x := fun n l hw x hx => by
    have h1 := hw x hx
    have : 0 < wtI wo x * ((n : Int) + 1) := Int.mul_pos (show 0 < wtI wo x by omega) (by omega)
    unfold worthI
    split <;> omega
  obtain ⟨p1, p2, _⟩ := best_main n1 m1 sb1 (wp g1.length g1 hw1)
  obtain ⟨q1, q2, _⟩ := best_main n2 m2 sb2 (wp g2.length g2 hw2)
  obtain ⟨r1, r2, _⟩ := best_main nb ng sub (wp (g1 ++ g2).length _ hw)
  obtain ⟨c1, c2, ec, k1, k2⟩ := List.sublist_append_iff.mp r1
  have i1 : ∀ x ∈ c1, x ∈ g1 := fun x hx => k1.subset hx
  have i2 : ∀ x ∈ c2, x ∈ g2 := fun x hx => k2.subset hx
  rw [ec] at r2
  obtain ⟨t1, t2⟩ := (strt_join dj (fun x hx => sb1 x (i1 x hx)) (fun x hx => sb2 x (i2 x hx))).mp r2
  have st := (strt_join dj (fun x hx => sb1 x (p1.subset hx)) (fun x hx => sb2 x (q1.subset hx))).mpr ⟨p2, q2⟩
  rcases best_kLt (fav := fv) nb ng sub hw (p1.append q1) st with h | h
  · exact h.symm
  · exfalso
    have u1 := best_kLt (fav := fv) n1 m1 sb1 hw1 k1 t1
    have u2 := best_kLt (fav := fv) n2 m2 sb2 hw2 k2 t2
    rw [ec] at h
    rcases u1 with e1 | u1
    · rcases u2 with e2 | u2
      · rw [← e1, ← e2] at h
        exact kLt_asymm h h
      · rw [← e1] at h
        exact kLt_asymm h (kLt_right djg i2 (fun x hx => q1.subset hx) u2)
    · exact kLt_asymm h (kLt_left djg i1 (fun x hx => p1.subset hx) i2 u1 (u2.symm.imp id id))
end
/-! ### orders joined: least pins -/
theorem here_left {a b : List Int} {i : Nat} (h : i < a.length) : here (a ++ b) i = here a i := by
  unfold here
  rw [List.getElem?_append_left h]
theorem here_right {a b : List Int} (i : Nat) : here (a ++ b) (a.length + i) = here b i := by
  unfold here
  rw [List.getElem?_append_right (Nat.le_add_right _ _), Nat.add_sub_cancel_left]
theorem befor_succJ (ids : List Int) (i : Nat) : befor ids (i + 1) = here ids i := by
  unfold befor here
  rw [List.getElem?_cons_succ]
theorem here_memJ {a : List Int} {i : Nat} (h : i < a.length) : here a i ∈ a := by
  unfold here
  rw [List.getElem?_eq_getElem h]
  exact List.getElem_mem h
theorem least_join {g1 g2 B1 B2 : List Int} {la : Int} (hla : g1.getLast? = some la) (dj : ∀ x ∈ g2, x ∉ g1) (h1 : ∀ x ∈ B1, x ∈ g1) (h2 : ∀ x ∈ B2, x ∈ g2) (nz : ∀ x ∈ g2, x ≠ 0) :
    leastP (g1 ++ g2) (B1 ++ B2) = leastP g1 B1 ++ (leastP g2 B2).map fun e => (e.1, if e.2 = 0 then la else e.2) := by
  unfold leastP
  rw [List.length_append, List.range_add, List.filter_append, List.map_append]
  congr 1
  · have ef : (List.range g1.length).filter (fun i => decide (here (g1 ++ g2) i ∉ B1 ++ B2)) = (List.range g1.length).filter fun i => decide (here g1 i ∉ B1) := by
      refine List.filter_congr fun i hi => ?_
      have hi := List.mem_range.mp hi
      rw [here_left hi]
      have hm := here_memJ hi
      refine decide_eq_decide.mpr ⟨fun h q => h (List.mem_append_left _ q), fun h q => ?_⟩
      rcases List.mem_append.mp q with q | q
      · exact h q
      · exact dj _ (h2 _ q) hm
    rw [ef]
    refine List.map_congr_left fun i hi => ?_
    have hi := List.mem_range.mp (List.mem_filter.mp hi).1
    rw [here_left hi]
    congr 1
    cases i with
    | zero => rfl
    | succ i => rw [befor_succJ, befor_succJ, here_left (by omega)]
  · rw [List.filter_map, List.map_map, List.map_map]
    have ef : (List.range g2.length).filter ((fun i => decide (here (g1 ++ g2) i ∉ B1 ++ B2)) ∘ fun x => g1.length + x) = (List.range g2.length).filter fun i => decide (here g2 i ∉ B2) := by
      refine List.filter_congr fun i hi => ?_
      have hi := List.mem_range.mp hi
      show decide (here (g1 ++ g2) (g1.length + i) ∉ B1 ++ B2) = _
      rw [here_right]
      have hm := here_memJ hi
      refine decide_eq_decide.mpr ⟨fun h q => h (List.mem_append_right _ q), fun h q => ?_⟩
      rcases List.mem_append.mp q with q | q
      · exact dj _ hm (h1 _ q)
      · exact h q
    rw [ef]
    refine List.map_congr_left fun i hi => ?_
    have hi := List.mem_range.mp (List.mem_filter.mp hi).1
    show (here (g1 ++ g2) (g1.length + i), befor (g1 ++ g2) (g1.length + i)) = (here g2 i, if befor g2 i = 0 then la else befor g2 i)
    rw [here_right]
    congr 1
    have hp : 0 < g1.length := by
      cases g1 with
      | nil => cases hla
      | cons _ _ => exact Nat.succ_pos _
    cases i with
    | zero =>
      have e0 : befor g2 0 = 0 := rfl
      obtain ⟨k, hk⟩ : ∃ k, g1.length = k + 1 := ⟨g1.length - 1, by omega⟩
      rw [if_pos e0, Nat.add_zero, hk, befor_succJ, here_left (by omega)]
      unfold here
      rw [show k = g1.length - 1 by omega, ← List.getLast?_eq_getElem?, hla]; rfl
    | succ i =>
      have hm := here_memJ (a := g2) (i := i) (by omega)
      rw [befor_succJ, if_neg (nz _ hm), ← Nat.add_assoc, befor_succJ, here_right]
/-- the two halves' own tables -/
theorem worth_congr {wo wo' : Option (List (Int × Int))} {n : Nat} {f f' : List Int} {l : List Int} (hw : ∀ x ∈ l, wtI wo' x = wtI wo x) (hf : ∀ x ∈ l, (x ∈ f' ↔ x ∈ f)) : ∀ x ∈ l, worthI wo' n f' x = worthI wo n f x := fun x hx => by
  unfold worthI
  rw [hw x hx]
  by_cases c : x ∈ f
  · rw [if_pos c, if_pos ((hf x hx).mpr c)]
  · rw [if_neg c, if_neg (fun z => c ((hf x hx).mp z))]
theorem best_congr {bs ids : List Int} {wf wf' : Int → Int} (nb : bs.Nodup) (nd : ids.Nodup) (sub : ∀ x ∈ ids, x ∈ bs) (hw : ∀ x ∈ ids, 0 < wf x) (h : ∀ x ∈ ids, wf' x = wf x) : bestF bs ids wf' = bestF bs ids wf := by
  obtain ⟨a1, a2, a3⟩ := best_main nb nd sub hw
  obtain ⟨b1, b2, b3⟩ := best_main (wf := wf') nb nd sub fun x hx => by rw [h x hx]; exact hw x hx
  have e : ∀ s : List Int, s.Sublist ids → (s.map wf').sum = (s.map wf).sum := fun s hs => by rw [List.map_congr_left fun x hx => h x (hs.subset hx)]
  obtain ⟨k1, k2⟩ := a3 _ b1 b2
  obtain ⟨k3, k4⟩ := b3 _ a1 a2
  rw [e _ a1, e _ b1] at k3 k4
  have es := Int.le_antisymm k1 k3
  rcases k2 es with z | z
  · exact z
  · rcases k4 es.symm with y | y
    · exact y.symm
    · exact absurd (List.lt_trans z y) (List.lt_irrefl _)
/-- each half with its own table and its own favoured ids -/
theorem best_join {b1 b2 g1 g2 f1 f2 fv : List Int} {w1 w2 wo : Option (List (Int × Int))} (n1 : b1.Nodup) (n2 : b2.Nodup) (m1 : g1.Nodup) (m2 : g2.Nodup) (sb1 : ∀ x ∈ g1, x ∈ b1) (sb2 : ∀ x ∈ g2, x ∈ b2) (dj : ∀ x ∈ b2, x ∉ b1)
    (hw1 : ∀ x ∈ g1, 1 ≤ wtI w1 x) (hw2 : ∀ x ∈ g2, 1 ≤ wtI w2 x) (e1 : ∀ x ∈ g1, wtI wo x = wtI w1 x) (e2 : ∀ x ∈ g2, wtI wo x = wtI w2 x) (k1 : ∀ x ∈ g1, (x ∈ fv ↔ x ∈ f1)) (k2 : ∀ x ∈ g2, (x ∈ fv ↔ x ∈ f2)) :
    bestF (b1 ++ b2) (g1 ++ g2) (worthI wo (g1 ++ g2).length fv) = bestF b1 g1 (worthI w1 g1.length f1) ++ bestF b2 g2 (worthI w2 g2.length f2) := by
  have wp : ∀ (w : Option (List (Int × Int))) (n : Nat) (f l : List Int), (∀ x ∈ l, 1 ≤ wtI w x) → ∀ x ∈ l, 0 < worthI w n f x := fun w n f l hw x hx => by
    have h1 := hw x hx
    have : 0 < wtI w x * ((n : Int) + 1) := Int.mul_pos (show 0 < wtI w x by omega) (by omega)
    unfold worthI
    split <;> omega
  have hw : ∀ x ∈ g1 ++ g2, 1 ≤ wtI wo x := fun x hx => by
    rcases List.mem_append.mp hx with h | h
    · rw [e1 x h]; exact hw1 x h
    · rw [e2 x h]; exact hw2 x h
  rw [best_join0 n1 n2 m1 m2 sb1 sb2 dj hw, best_congr n1 m1 sb1 (wp w1 g1.length f1 g1 hw1) (worth_congr e1 k1), best_congr n2 m2 sb2 (wp w2 g2.length f2 g2 hw2) (worth_congr e2 k2)]
/-! ### the least pins, laid over base, give the goal -/
theorem ix_upQ {l : List Int} (nd : l.Nodup) : l.Pairwise fun x y => ixI l x < ixI l y := (nx_pair nd).imp fun z => by omega
theorem least_keysQ (ids fr : List Int) : (leastP ids fr).map Prod.fst = ids.filter fun x => decide (x ∉ fr) := by
  have at1 : ∀ {i : Nat} {x : Int}, ids[i]? = some x → here ids i = x := fun {i x} h => by unfold here; rw [h]; rfl
  have e : ids = (List.range ids.length).map (here ids) := by
    refine List.ext_getElem (by rw [List.length_map, List.length_range]) fun i h1 h2 => ?_
    rw [List.getElem_map, List.getElem_range]
    exact (at1 (List.getElem?_eq_getElem h1)).symm
  have e2 : ids.filter (fun x => decide (x ∉ fr)) = ((List.range ids.length).map (here ids)).filter fun x => decide (x ∉ fr) := congrArg _ e
  rw [e2, List.filter_map]
  unfold leastP
  rw [List.map_map]
  rfl
variable {bs ids fr : List Int}
theorem find_mem {ps : List (Int × Int)} (nd : (ps.map Prod.fst).Nodup) {e : Int × Int} (h : e ∈ ps) : anOf ps e.1 = some e.2 := by
  induction ps with
  | nil => cases h
  | cons q ps ih =>
    rw [List.map_cons, List.nodup_cons] at nd
    unfold anOf
    rcases List.mem_cons.mp h with rfl | h
    · rw [List.find?_cons_of_pos (by exact decide_eq_true rfl)]; rfl
    · have hne : ¬ q.1 = e.1 := fun z => nd.1 (by rw [z]; exact List.mem_map.mpr ⟨e, h, rfl⟩)
      rw [List.find?_cons_of_neg (by exact fun z => hne (of_decide_eq_true z))]
      exact ih nd.2 h
theorem an_none {ps : List (Int × Int)} {x : Int} (h : x ∉ ps.map Prod.fst) : anOf ps x = none := by
  unfold anOf
  rw [List.find?_eq_none.mpr fun e he z => h (List.mem_map.mpr ⟨e, he, of_decide_eq_true z⟩)]; rfl
theorem an_free (nd : ids.Nodup) {x : Int} (h : x ∈ fr) : anOf (leastP ids fr) x = none := by
  refine an_none ?_
  rw [least_keysQ]
  exact fun z => (of_decide_eq_true (List.mem_filter.mp z).2) h
theorem an_pin (nd : ids.Nodup) {i : Nat} (hi : i < ids.length) (h : here ids i ∉ fr) : anOf (leastP ids fr) (here ids i) = some (befor ids i) :=
  find_mem (leastP_keys nd) (leastP_mem.mpr ⟨i, hi, h, rfl⟩)
def Begins (bs fr a : List Int) (p : List Int) : Prop := (∃ s, p = 0 :: s) ∨ ∃ f s, f ∈ fr ∧ f ∈ a ∧ p = 1 :: ixI bs f :: s
theorem path_begins (nb : bs.Nodup) (nd : ids.Nodup) (nz : ∀ x ∈ bs, x ≠ 0) (sub : ∀ x ∈ bs, x ∈ ids) (sup : ∀ x ∈ ids, x ∈ bs) :
    ∀ i : Nat, i < ids.length → Begins bs fr (ids.take (i + 1)) (pathOf bs (anOf (leastP ids fr)) (fun x => ids.idxOf x) (here ids i))
  | i, hi => by
    have Fo := least_forest (fr := fr) nb nd nz sub sup
    have hm : here ids i ∈ ids := here_mem hi
    have htk : here ids i ∈ ids.take (i + 1) := by
      rw [take_snoc (x := here ids i) (by
        obtain ⟨x, hx⟩ : ∃ x, ids[i]? = some x := ⟨_, List.getElem?_eq_getElem hi⟩
        rw [here_at hx]; exact hx)]
      exact List.mem_append_right _ List.mem_cons_self
    by_cases c : here ids i ∈ fr
    · rw [path_none (an_free nd c)]
      exact .inr ⟨_, [], c, htk, rfl⟩
    · have ap := an_pin nd hi c
      cases i with
      | zero =>
        rw [befor_zero] at ap
        rw [path_top ap]
        exact .inl ⟨_, rfl⟩
      | succ j =>
        rw [befor_succ] at ap
        have hj : here ids j ∈ ids := here_mem (by omega)
        obtain ⟨_, e⟩ := path_step Fo (sup _ hm) ap (nz _ (sup _ hj))
        rw [e]
        rcases path_begins nb nd nz sub sup j (by omega) with ⟨s, h⟩ | ⟨f, s, h1, h2, h3⟩
        · exact .inl ⟨s ++ [ixI bs (here ids (j + 1))], by rw [h]; rfl⟩
        · exact .inr ⟨f, s ++ [ixI bs (here ids (j + 1))], h1, (List.take_subset_take_left ids (by omega)) h2, by rw [h3]; rfl⟩
theorem adj_pair {α : Type} {R : α → α → Prop} (tr : ∀ a b c, R a b → R b c → R a c) : ∀ l : List α, (∀ i a b, l[i]? = some a → l[i + 1]? = some b → R a b) → l.Pairwise R
  | [], _ => List.Pairwise.nil
  | [x], _ => List.pairwise_singleton _ _
  | x :: y :: l, h => by
    have ih := adj_pair tr (y :: l) fun i a b h1 h2 => h (i + 1) a b h1 h2
    refine List.pairwise_cons.mpr ⟨fun z hz => ?_, ih⟩
    have hxy := h 0 x y rfl rfl
    rcases List.mem_cons.mp hz with rfl | hz
    · exact hxy
    · exact tr _ _ _ hxy ((List.pairwise_cons.mp ih).1 z hz)
theorem adj_lt (f : Int → List Int) {l : List Int} (h : ∀ i a b, l[i]? = some a → l[i + 1]? = some b → f a < f b) : l.Pairwise fun a b => f a < f b :=
  adj_pair (R := fun a b => f a < f b) (fun a b c h1 h2 => List.lt_trans (show f a < f b from h1) (show f b < f c from h2)) l h
theorem least_lay (nb : bs.Nodup) (nd : ids.Nodup) (nz : ∀ x ∈ bs, x ≠ 0) (sub : ∀ x ∈ bs, x ∈ ids) (sup : ∀ x ∈ ids, x ∈ bs) (hs : fr.Sublist ids) (hst : StrP (ixI bs) fr) :
    laidOf bs (anOf (leastP ids fr)) (fun x => ids.idxOf x) ids.length = ids := by
  have Fo := least_forest (fr := fr) nb nd nz sub sup
  have hp : ids.Pairwise fun a b => pathOf bs (anOf (leastP ids fr)) (fun x => ids.idxOf x) a < pathOf bs (anOf (leastP ids fr)) (fun x => ids.idxOf x) b := by
    refine adj_lt (pathOf bs (anOf (leastP ids fr)) (fun x => ids.idxOf x)) fun i a b h1 h2 => ?_
    have hi := (List.getElem?_eq_some_iff.mp h1).1
    have hi2 := (List.getElem?_eq_some_iff.mp h2).1
    obtain rfl := here_at h1
    obtain rfl := here_at h2
    by_cases c : here ids (i + 1) ∈ fr
    · rw [path_none (an_free nd c)]
      rcases path_begins (fr := fr) nb nd nz sub sup i hi with ⟨s, h⟩ | ⟨f, s, f1, f2, h⟩
      · rw [h]
        exact List.cons_lt_cons_iff.mpr (.inl (by decide))
      · rw [h]
        refine List.cons_lt_cons_iff.mpr (.inr ⟨rfl, List.cons_lt_cons_iff.mpr (.inl ?_)⟩)
        -- f stands before the id
        obtain ⟨j, hj⟩ := List.mem_iff_getElem?.mp f2
        rw [List.getElem?_take] at hj
        split at hj
        · rename_i hji
          have fu : ∀ {l : List Int}, l.Sublist ids → StrP (ixI bs) l → f ∈ l → here ids (i + 1) ∈ l → ixI bs f < ixI bs (here ids (i + 1)) := fun {l} hl hp m1 m2 => by
            obtain ⟨u, hu⟩ := List.mem_iff_getElem?.mp m1
            obtain ⟨v, hv⟩ := List.mem_iff_getElem?.mp m2
            have hul := (List.getElem?_eq_some_iff.mp hu).1
            have hvl := (List.getElem?_eq_some_iff.mp hv).1
            rcases Nat.lt_trichotomy u v with q | q | q
            · have := List.pairwise_iff_getElem.mp hp u v hul hvl q
              rw [List.getElem?_eq_getElem hul] at hu
              rw [List.getElem?_eq_getElem hvl] at hv
              rw [Option.some.inj hu, Option.some.inj hv] at this
              exact this
            · subst q
              rw [hu] at hv
              have e := Option.some.inj hv
              rw [e] at hj
              have := (List.getElem?_inj (by omega) nd).mp (hj.trans h2.symm)
              omega
            · exfalso
              have up := (ix_upQ nd).sublist hl
              have := List.pairwise_iff_getElem.mp up v u hvl hul q
              rw [List.getElem?_eq_getElem hul] at hu
              rw [List.getElem?_eq_getElem hvl] at hv
              rw [Option.some.inj hu, Option.some.inj hv] at this
              unfold ixI at this
              rw [idx_here nd hi2] at this
              have e3 := here_at hj
              rw [← e3, idx_here nd (by omega)] at this
              omega
          exact fu hs hst f1 c
        · cases hj
    · have ap := an_pin nd hi2 c
      rw [befor_succ] at ap
      have hm : here ids (i + 1) ∈ ids := here_mem hi2
      obtain ⟨_, e⟩ := path_step Fo (sup _ hm) ap (nz _ (sup _ (here_mem hi)))
      rw [e]
      exact app_lt _
  have hperm : ids.Perm bs := (List.perm_ext_iff_of_nodup nd nb).mpr fun x => ⟨sup x, sub x⟩
  exact List.Perm.eq_of_pairwise (fun x y _ _ h1 h2 => absurd (List.lt_trans h1 h2) (List.lt_irrefl _)) (laid_up Fo) hp ((laid_perm Fo).trans hperm.symm)

/-- with favoured ids, too, the best straight set weighs as much as the level cover -/
theorem best_sizeF {wo : Option (List (Int × Int))} (fav : List Int) (nb : bs.Nodup) (nd : ids.Nodup) (sub : ∀ x ∈ ids, x ∈ bs) (hw : ∀ x ∈ ids, 1 ≤ wtI wo x) :
    sumW wo (bestF bs ids (worthI wo ids.length fav)) = sumT (lvl (ixI bs) (wtI wo) ids) := by
  have hw0 : ∀ x ∈ ids, 0 < wtI wo x := fun x hx => by have := hw x hx; omega
  have hw1 : ∀ x ∈ ids, 0 < worthI wo ids.length fav x := fun x hx => by
    have : 0 < wtI wo x * ((ids.length : Int) + 1) := Int.mul_pos (hw0 x hx) (by omega)
    unfold worthI
    split <;> omega
  obtain ⟨b1, b2, b3⟩ := best_main nb nd sub hw1
  obtain ⟨c1, c2, c3⟩ := best_main nb nd sub hw0
  obtain ⟨e1, _⟩ := best_size nb nd sub hw0
  have d1 := (lvl_dual (pl := ixI bs) nd hw0 b1 b2).1
  have f1 := (b3 _ c1 c2).1
  rw [worth_sum, worth_sum] at f1
  have n1 := cnt_bound fav (bestF bs ids (wtI wo))
  have n2 := cnt_bound fav (bestF bs ids (worthI wo ids.length fav))
  have l2 := b1.length_le
  have f3 : sumW wo (bestF bs ids (wtI wo)) = sumT (lvl (ixI bs) (wtI wo) ids) := e1
  have f4 : sumW wo (bestF bs ids (worthI wo ids.length fav)) ≤ sumT (lvl (ixI bs) (wtI wo) ids) := d1
  rcases Int.lt_or_eq_of_le f4 with h | h
  · have m : (sumW wo (bestF bs ids (worthI wo ids.length fav)) + 1) * ((ids.length : Int) + 1) ≤ sumW wo (bestF bs ids (wtI wo)) * ((ids.length : Int) + 1) := Int.mul_le_mul_of_nonneg_right (by omega) (by omega)
    rw [Int.add_mul, Int.one_mul] at m
    omega
  · exact h
/-! ### straight sets are lists that both orders have in them -/
theorem sub_filter {s l : List Int} (nd : l.Nodup) (h : s.Sublist l) : l.filter (fun x => decide (x ∈ s)) = s := by
  induction h with
  | slnil => rfl
  | @cons s l a h ih =>
    have nd := List.nodup_cons.mp nd
    have ha : a ∉ s := fun z => nd.1 (h.subset z)
    rw [List.filter_cons_of_neg (by simpa using ha)]
    exact ih nd.2
  | @cons_cons s l a h ih =>
    have nd := List.nodup_cons.mp nd
    rw [List.filter_cons_of_pos (by simp)]
    congr 1
    have := ih nd.2
    refine Eq.trans (List.filter_congr fun x hx => ?_) this
    have hxa : x ≠ a := fun z => nd.1 (z ▸ hx)
    simp [hxa]
theorem sub_same {s t l : List Int} (nd : l.Nodup) (hs : s.Sublist l) (ht : t.Sublist l) (h : ∀ x, x ∈ s ↔ x ∈ t) : s = t := by
  rw [← sub_filter nd hs, ← sub_filter nd ht]
  exact List.filter_congr fun x _ => decide_eq_decide.mpr (h x)
theorem ix_at {l : List Int} (nd : l.Nodup) {i : Nat} {x : Int} (h : l[i]? = some x) : ixI l x = (i : Int) := by
  unfold ixI
  rw [idx_of_at nd h]
theorem strt_of {l s : List Int} (nd : l.Nodup) (h : s.Sublist l) : Strt l s := ((nx_pair nd).imp fun {a b} z => show ixI l a < ixI l b by omega).sublist h
theorem strt_sub {l s : List Int} (nd : l.Nodup) (hm : ∀ x ∈ s, x ∈ l) (h : Strt l s) : s.Sublist l := by
  have e : l.filter (fun x => decide (x ∈ s)) = s := by
    have p1 : (l.filter fun x => decide (x ∈ s)).Pairwise fun a b => ixI l a < ixI l b := strt_of nd List.filter_sublist
    have ns : s.Nodup := h.imp fun {a b} z e => by rw [e] at z; exact Int.lt_irrefl _ z
    have hp : (l.filter fun x => decide (x ∈ s)).Perm s := (List.perm_ext_iff_of_nodup (nd.filter _) ns).mpr fun x => by
      rw [List.mem_filter, decide_eq_true_iff]
      exact ⟨fun z => z.2, fun z => ⟨hm x z, z⟩⟩
    exact List.Perm.eq_of_pairwise (fun x y _ _ h1 h2 => by omega) p1 h hp
  rw [← e]
  exact List.filter_sublist
theorem sumW_filter (wo : Option (List (Int × Int))) (p : Int → Bool) : ∀ l : List Int, sumW wo (l.filter p) + sumW wo (l.filter fun x => !p x) = sumW wo l
  | [] => rfl
  | x :: l => by
    have i := sumW_filter wo p l
    unfold sumW at i ⊢
    cases h : p x with
    | true =>
      rw [List.filter_cons_of_pos h, List.filter_cons_of_neg (by simp [h]), List.map_cons, List.sum_cons, List.map_cons, List.sum_cons]
      omega
    | false =>
      rw [List.filter_cons_of_neg (by simp [h]), List.filter_cons_of_pos (by simp [h]), List.map_cons, List.sum_cons, List.map_cons, List.sum_cons]
      omega
theorem sumW_pos {wo : Option (List (Int × Int))} : ∀ {l : List Int}, (∀ x ∈ l, 1 ≤ wtI wo x) → (l.length : Int) ≤ sumW wo l
  | [], _ => Int.le_refl _
  | x :: l, h => by
    have i := sumW_pos (l := l) fun y hy => h y (List.mem_cons_of_mem _ hy)
    have := h x List.mem_cons_self
    unfold sumW at i ⊢
    rw [List.map_cons, List.sum_cons, List.length_cons]
    omega
/-- a set that has another one in it and weighs no more is that one -/
theorem no_more {wo : Option (List (Int × Int))} {l s t : List Int} (nd : l.Nodup) (hs : s.Sublist l) (ht : t.Sublist l) (hw : ∀ x ∈ l, 1 ≤ wtI wo x) (h : ∀ x ∈ s, x ∈ t) (hle : sumW wo t ≤ sumW wo s) : t = s := by
  have e1 : t.filter (fun x => decide (x ∈ s)) = s := by
    refine sub_same nd (List.filter_sublist.trans ht) hs fun x => ?_
    rw [List.mem_filter, decide_eq_true_iff]
    exact ⟨fun z => z.2, fun z => ⟨h x z, z⟩⟩
  have e2 := sumW_filter wo (fun x => decide (x ∈ s)) t
  rw [e1] at e2
  have e3 := sumW_pos (wo := wo) (l := t.filter fun x => !decide (x ∈ s)) fun x hx => hw x (ht.subset (List.mem_filter.mp hx).1)
  have e4 : t.filter (fun x => !decide (x ∈ s)) = [] := List.length_eq_zero_iff.mp (by omega)
  refine sub_same nd ht hs fun x => ⟨fun hx => ?_, h x⟩
  apply Classical.byContradiction
  intro z
  have : x ∈ t.filter fun x => !decide (x ∈ s) := List.mem_filter.mpr ⟨hx, by simp [z]⟩
  rw [e4] at this
  cases this
/-- what is the heaviest and has all favoured ids, and is the only one, is the best one -/
theorem best_is {bs ids S fav : List Int} {wo : Option (List (Int × Int))} (nb : bs.Nodup) (nd : ids.Nodup) (sub : ∀ x ∈ ids, x ∈ bs) (hw : ∀ x ∈ ids, 1 ≤ wtI wo x) (h1 : S.Sublist ids) (h2 : S.Sublist bs)
    (hf : ∀ x ∈ ids, x ∈ fav → x ∈ S) (hm : ∀ T : List Int, T.Sublist ids → T.Sublist bs → sumW wo T ≤ sumW wo S) (hu : ∀ T : List Int, T.Sublist ids → T.Sublist bs → sumW wo T = sumW wo S → (∀ x ∈ S, x ∈ fav → x ∈ T) → T = S) :
    bestF bs ids (worthI wo ids.length fav) = S := by
  have hw0 : ∀ x ∈ ids, 0 < worthI wo ids.length fav x := fun x hx => by
    have h1 := hw x hx
    unfold worthI
    have : 0 < wtI wo x * ((ids.length : Int) + 1) := Int.mul_pos (by omega) (by omega)
    split <;> omega
  obtain ⟨b1, b2, b3⟩ := best_main nb nd sub hw0
  have q1 := (b3 S h1 (strt_of nb h2)).1
  rw [worth_sum, worth_sum] at q1
  obtain ⟨g, hg⟩ : ∃ g, g = bestF bs ids (worthI wo ids.length fav) := ⟨_, rfl⟩
  rw [← hg] at q1 b1 b2 ⊢
  have b4 := strt_sub nb (fun x hx => sub x (b1.subset hx)) b2
  have c1 := cnt_bound fav S
  have c2 := cnt_bound fav g
  have l1 := h1.length_le
  have l2 := b1.length_le
  have m1 := hm g b1 b4
  have hwt : sumW wo g = sumW wo S := by
    rcases Int.lt_or_eq_of_le m1 with h | h
    · have m : (sumW wo g + 1) * ((ids.length : Int) + 1) ≤ sumW wo S * ((ids.length : Int) + 1) := Int.mul_le_mul_of_nonneg_right (by omega) (by omega)
      rw [Int.add_mul, Int.one_mul] at m
      omega
    · exact h
  refine hu g b1 b4 hwt fun x hx hxf => ?_
  rw [hwt] at q1
  have ef : ids.filter (fun x => decide (x ∈ fav)) = S.filter fun x => decide (x ∈ fav) := by
    refine sub_same nd List.filter_sublist (List.filter_sublist.trans h1) fun y => ?_
    rw [List.mem_filter, List.mem_filter, decide_eq_true_iff]
    exact ⟨fun z => ⟨hf y z.1 z.2, z.2⟩, fun z => ⟨h1.subset z.1, z.2⟩⟩
  have eg : g.filter (fun x => decide (x ∈ fav)) = ids.filter fun x => decide (x ∈ fav) := by
    refine (b1.filter _).eq_of_length_le ?_
    rw [ef]
    unfold cntI at q1
    omega
  have : x ∈ g.filter fun x => decide (x ∈ fav) := by
    rw [eg, ef]
    exact List.mem_filter.mpr ⟨hx, decide_eq_true hxf⟩
  exact (List.mem_filter.mp this).1
/-- the best set stays when its ids are the favoured ones -/
theorem best_heavy {bs ids fav : List Int} {wo : Option (List (Int × Int))} (nb : bs.Nodup) (nd : ids.Nodup) (sub : ∀ x ∈ ids, x ∈ bs) (hw : ∀ x ∈ ids, 1 ≤ wtI wo x) {S : List Int} (hS : S = bestF bs ids (worthI wo ids.length fav)) :
    S.Sublist ids ∧ S.Sublist bs ∧ ∀ T : List Int, T.Sublist ids → T.Sublist bs → sumW wo T ≤ sumW wo S := by
  have hw0 : ∀ x ∈ ids, 0 < worthI wo ids.length fav x := fun x hx => by
    have h1 := hw x hx
    unfold worthI
    have : 0 < wtI wo x * ((ids.length : Int) + 1) := Int.mul_pos (by omega) (by omega)
    split <;> omega
  obtain ⟨b1, b2, b3⟩ := best_main nb nd sub hw0
  rw [← hS] at b1 b2
  refine ⟨b1, strt_sub nb (fun x hx => sub x (b1.subset hx)) b2, fun T t1 t2 => ?_⟩
  rcases best_kLt (fav := fav) nb nd sub hw t1 (strt_of nb t2) with e | e
  · rw [hS, ← e]; exact Int.le_refl _
  · rw [← hS] at e
    rcases e with e | e
    · omega
    · omega
/-! ### pins, id by id -/
def pinsFrom (fr : List Int) : Int → List Int → List (Int × Int)
  | _, [] => []
  | p, x :: l => if x ∈ fr then pinsFrom fr x l else (x, p) :: pinsFrom fr x l
theorem pf_in {fr l : List Int} {p x : Int} (h : x ∈ fr) : pinsFrom fr p (x :: l) = pinsFrom fr x l := if_pos h
theorem pf_out {fr l : List Int} {p x : Int} (h : x ∉ fr) : pinsFrom fr p (x :: l) = (x, p) :: pinsFrom fr x l := if_neg h
theorem pf_range (fr : List Int) : ∀ (l : List Int) (p : Int), (((List.range l.length).filter fun i => decide (here l i ∉ fr))).map (fun i => (here l i, ((p :: l)[i]?).getD 0)) = pinsFrom fr p l
  | [], _ => rfl
  | x :: l, p => by
    have ih := pf_range fr l x
    have e : ((List.range l.length).map Nat.succ).filter (fun i => decide (here (x :: l) i ∉ fr)) = ((List.range l.length).filter fun i => decide (here l i ∉ fr)).map Nat.succ := by
      rw [List.filter_map]
      rfl
    rw [List.length_cons, List.range_succ_eq_map]
    by_cases h : x ∈ fr
    · rw [List.filter_cons_of_neg (by simpa [here] using h), e, List.map_map, pf_in h, ← ih]
      rfl
    · rw [List.filter_cons_of_pos (by simpa [here] using h), e, List.map_cons, List.map_map, pf_out h, ← ih]
      rfl
theorem least_from (ids fr : List Int) : leastP ids fr = pinsFrom fr 0 ids := pf_range fr ids 0
theorem pf_congr {fr fr' : List Int} : ∀ {l : List Int} (p : Int), (∀ x ∈ l, (x ∈ fr ↔ x ∈ fr')) → pinsFrom fr p l = pinsFrom fr' p l
  | [], _, _ => rfl
  | x :: l, p, h => by
    have ih := pf_congr (l := l) x fun y hy => h y (List.mem_cons_of_mem _ hy)
    by_cases c : x ∈ fr
    · rw [pf_in c, pf_in ((h x List.mem_cons_self).mp c), ih]
    · rw [pf_out c, pf_out fun z => c ((h x List.mem_cons_self).mpr z), ih]
/-- a free id ahead of a free id, or at the end -/
theorem pf_put {fr fr' : List Int} {n : Int} (hn : n ∈ fr') : ∀ (a b : List Int) (p : Int), (∀ x ∈ a ++ b, (x ∈ fr ↔ x ∈ fr')) → (∀ x l, b = x :: l → x ∈ fr') → pinsFrom fr' p (a ++ n :: b) = pinsFrom fr p (a ++ b)
  | [], b, p, h, hb => by
    rw [List.nil_append, List.nil_append, pf_in hn, pf_congr (fr := fr) (fr' := fr') p fun x hx => h x (by rw [List.nil_append]; exact hx)]
    cases b with
    | nil => rfl
    | cons x l => rw [pf_in (hb x l rfl), pf_in (hb x l rfl)]
  | y :: a, b, p, h, hb => by
    have ih := pf_put hn a b y (fun x hx => h x (List.mem_cons_of_mem _ hx)) hb
    by_cases c : y ∈ fr
    · rw [List.cons_append, List.cons_append, pf_in c, pf_in ((h y List.mem_cons_self).mp c), ih]
    · rw [List.cons_append, List.cons_append, pf_out c, pf_out fun z => c ((h y List.mem_cons_self).mpr z), ih]
/-- a pinned id is dropped: its follower gets its anchor -/
def dropE (x a : Int) (ps : List (Int × Int)) : List (Int × Int) := (ps.filter fun e => decide (e.1 ≠ x)).map fun e => (e.1, if e.2 = x then a else e.2)
theorem pf_same {fr : List Int} {x a : Int} : ∀ {l : List Int} {p : Int}, p ≠ x → x ∉ l → dropE x a (pinsFrom fr p l) = pinsFrom fr p l
  | [], _, _, _ => rfl
  | y :: l, p, hp, hx => by
    have hy : y ≠ x := fun z => hx (z ▸ List.mem_cons_self)
    have ih := pf_same (fr := fr) (a := a) (l := l) hy fun z => hx (List.mem_cons_of_mem _ z)
    by_cases c : y ∈ fr
    · rw [pf_in c]; exact ih
    · rw [pf_out c]
      unfold dropE at ih ⊢
      rw [List.filter_cons_of_pos (by simpa using hy), List.map_cons, ih, if_neg hp]
theorem pf_drop {fr : List Int} {x : Int} (hx : x ∉ fr) : ∀ (a b : List Int) (p : Int), p ≠ x → x ∉ a → x ∉ b →
    ∃ an, (x, an) ∈ pinsFrom fr p (a ++ x :: b) ∧ dropE x an (pinsFrom fr p (a ++ x :: b)) = pinsFrom fr p (a ++ b)
  | [], b, p, hp, _, hb => by
    refine ⟨p, by rw [List.nil_append, pf_out hx]; exact List.mem_cons_self, ?_⟩
    rw [List.nil_append, List.nil_append, pf_out hx]
    have e0 : ∀ l : List (Int × Int), dropE x p ((x, p) :: l) = dropE x p l := fun l => by
      unfold dropE
      rw [List.filter_cons_of_neg (by simp)]
    rw [e0]
    cases b with
    | nil => rfl
    | cons y l =>
      have hy : y ≠ x := fun z => hb (z ▸ List.mem_cons_self)
      have hl : x ∉ l := fun z => hb (List.mem_cons_of_mem _ z)
      have ih := pf_same (fr := fr) (a := p) (l := l) hy hl
      by_cases c : y ∈ fr
      · rw [pf_in c, pf_in c]; exact ih
      · rw [pf_out c, pf_out c]
        unfold dropE at ih ⊢
        rw [List.filter_cons_of_pos (by simpa using hy), List.map_cons, ih, if_pos rfl]
  | y :: a, b, p, hp, ha, hb => by
    have hy : y ≠ x := fun z => ha (z ▸ List.mem_cons_self)
    obtain ⟨an, h1, h2⟩ := pf_drop hx a b y hy (fun z => ha (List.mem_cons_of_mem _ z)) hb
    rw [List.cons_append, List.cons_append]
    by_cases c : y ∈ fr
    · rw [pf_in c, pf_in c]; exact ⟨an, h1, h2⟩
    · rw [pf_out c, pf_out c]
      refine ⟨an, List.mem_cons_of_mem _ h1, ?_⟩
      unfold dropE at h2 ⊢
      rw [List.filter_cons_of_pos (by simpa using hy), List.map_cons, h2, if_neg hp]
theorem least_drop {ids fr : List Int} {x : Int} (nd : ids.Nodup) (nz : ∀ y ∈ ids, y ≠ 0) (hx : x ∈ ids) (hf : x ∉ fr) :
    ∃ an, anOf (leastP ids fr) x = some an ∧ dropE x an (leastP ids fr) = leastP (ids.filter fun y => decide (y ≠ x)) fr := by
  obtain ⟨a, b, e⟩ := List.append_of_mem hx
  have nd2 := nd
  rw [e] at nd2
  have nd3 := List.nodup_append.mp nd2
  have hb : x ∉ b := (List.nodup_cons.mp nd3.2.1).1
  have ha : x ∉ a := fun z => nd3.2.2 x z x List.mem_cons_self rfl
  obtain ⟨an, h1, h2⟩ := pf_drop hf a b 0 (nz x hx).symm ha hb
  rw [← e, ← least_from] at h1 h2
  refine ⟨an, find_mem (leastP_keys nd) h1, ?_⟩
  have ef : ids.filter (fun y => decide (y ≠ x)) = a ++ b := by
    rw [e, List.filter_append, List.filter_cons_of_neg (by simp)]
    congr 1
    · exact List.filter_eq_self.mpr fun y hy => decide_eq_true fun z => ha (z ▸ hy)
    · exact List.filter_eq_self.mpr fun y hy => decide_eq_true fun z => hb (z ▸ hy)
  rw [h2, ef, least_from]
/-! ### a new id in base -/
theorem split_one {a b c d : List Int} {x : Int} (ha : x ∉ a) (hc : x ∉ c) (h : a ++ x :: b = c ++ x :: d) : a = c ∧ b = d := by
  induction a generalizing c with
  | nil =>
    cases c with
    | nil => exact ⟨rfl, (List.cons.inj h).2⟩
    | cons z c =>
      have := (List.cons.inj h).1
      exact absurd (this ▸ List.mem_cons_self) hc
  | cons y a ih =>
    cases c with
    | nil =>
      have := (List.cons.inj h).1
      exact absurd (this ▸ List.mem_cons_self) ha
    | cons z c =>
      obtain ⟨h1, h2⟩ := List.cons.inj h
      obtain ⟨e1, e2⟩ := ih (fun q => ha (List.mem_cons_of_mem _ q)) (fun q => hc (List.mem_cons_of_mem _ q)) h2
      exact ⟨by rw [h1, e1], e2⟩
theorem sub_split {a b c d : List Int} {x : Int} (nd : (c ++ x :: d).Nodup) (h : (a ++ x :: b).Sublist (c ++ x :: d)) : a.Sublist c ∧ b.Sublist d := by
  have nd2 := List.nodup_append.mp nd
  have hd : x ∉ d := (List.nodup_cons.mp nd2.2.1).1
  have hc : x ∉ c := fun z => nd2.2.2 x z x List.mem_cons_self rfl
  have nda := h.nodup nd
  have ha : x ∉ a := fun z => (List.nodup_append.mp nda).2.2 x z x List.mem_cons_self rfl
  obtain ⟨u, v, e, hu, hv⟩ := List.sublist_append_iff.mp h
  have hxu : x ∉ u := fun z => hc (hu.subset z)
  cases hv with
  | cons _ hv =>
    have : x ∈ u ++ v := by rw [← e]; exact List.mem_append_right _ List.mem_cons_self
    rcases List.mem_append.mp this with z | z
    · exact absurd z hxu
    · exact absurd (hv.subset z) hd
  | cons_cons _ hv =>
    obtain ⟨e1, e2⟩ := split_one ha hxu e
    exact ⟨e1 ▸ hu, e2 ▸ hv⟩
/-- the goal and the best set with a new id -/
theorem new_goal {l1 l2 ids S : List Int} {n : Int} (nd : ids.Nodup) (hS : S.Sublist ids) (hb : S.Sublist (l1 ++ l2)) (hn : n ∉ ids) :
    ∃ g1 g2 S1 S2, ids = g1 ++ g2 ∧ S = S1 ++ S2 ∧ S1.Sublist g1 ∧ S2.Sublist g2 ∧ S1.Sublist l1 ∧ S2.Sublist l2 ∧ ∀ x l, g2 = x :: l → x ∈ S := by
  obtain ⟨S1, S2, e, h1, h2⟩ := List.sublist_append_iff.mp hb
  cases S2 with
  | nil =>
    rw [List.append_nil] at e
    exact ⟨ids, [], S1, [], by rw [List.append_nil], by rw [List.append_nil]; exact e, e ▸ hS, List.Sublist.refl _, h1, h2, fun x l z => by cases z⟩
  | cons b S2 =>
    have hbm : b ∈ ids := hS.subset (by rw [e]; exact List.mem_append_right _ List.mem_cons_self)
    obtain ⟨g1, g2, eg⟩ := List.append_of_mem hbm
    rw [e, eg] at hS
    rw [eg] at nd
    obtain ⟨k1, k2⟩ := sub_split nd hS
    refine ⟨g1, b :: g2, S1, b :: S2, eg, e, k1, k2.cons_cons b, h1, h2, fun x l z => ?_⟩
    rw [← (List.cons.inj z).1, e]
    exact List.mem_append_right _ List.mem_cons_self
theorem new_best {l1 l2 g1 g2 S1 S2 fav : List Int} {n : Int} {wo : Option (List (Int × Int))} (nb : (l1 ++ n :: l2).Nodup) (nd : (g1 ++ n :: g2).Nodup) (sub : ∀ x ∈ g1 ++ g2, x ∈ l1 ++ l2) (hw : ∀ x ∈ g1 ++ n :: g2, 1 ≤ wtI wo x)
    (a1 : S1.Sublist g1) (a2 : S2.Sublist g2) (b1 : S1.Sublist l1) (b2 : S2.Sublist l2) (hm : ∀ T : List Int, T.Sublist (g1 ++ g2) → T.Sublist (l1 ++ l2) → sumW wo T ≤ sumW wo (S1 ++ S2))
    (f1 : ∀ x ∈ S1 ++ S2, x ∈ fav) (f2 : ∀ x ∈ fav, x ∈ S1 ++ S2 ∨ x = n) :
    bestF (l1 ++ n :: l2) (g1 ++ n :: g2) (worthI wo (g1 ++ n :: g2).length fav) = S1 ++ n :: S2 := by
  have ndG := List.nodup_append.mp nd
  have ndB := List.nodup_append.mp nb
  have hng1 : n ∉ g1 := fun z => ndG.2.2 n z n List.mem_cons_self rfl
  have hng2 : n ∉ g2 := (List.nodup_cons.mp ndG.2.1).1
  have hnl1 : n ∉ l1 := fun z => ndB.2.2 n z n List.mem_cons_self rfl
  have hnl2 : n ∉ l2 := (List.nodup_cons.mp ndB.2.1).1
  have cut : ∀ {u v : List Int}, n ∉ u → n ∉ v → (u ++ n :: v).filter (fun x => decide (x ≠ n)) = u ++ v := fun {u v} hu hv => by
    rw [List.filter_append, List.filter_cons_of_neg (by simp)]
    congr 1
    · exact List.filter_eq_self.mpr fun y hy => decide_eq_true fun z => hu (z ▸ hy)
    · exact List.filter_eq_self.mpr fun y hy => decide_eq_true fun z => hv (z ▸ hy)
  have nd0 : (g1 ++ g2).Nodup := by rw [← cut hng1 hng2]; exact nd.filter _
  have wS : sumW wo (S1 ++ n :: S2) = sumW wo (S1 ++ S2) + wtI wo n := by
    unfold sumW
    rw [List.map_append, List.map_append, List.sum_append, List.sum_append, List.map_cons, List.sum_cons]
    omega
  have wn := hw n (List.mem_append_right _ List.mem_cons_self)
  -- a straight set without the new id
  have less : ∀ T : List Int, T.Sublist (g1 ++ n :: g2) → T.Sublist (l1 ++ n :: l2) → (T.filter fun x => decide (x ≠ n)).Sublist (g1 ++ g2) ∧ (T.filter fun x => decide (x ≠ n)).Sublist (l1 ++ l2) ∧ sumW wo T ≤ sumW wo (T.filter fun x => decide (x ≠ n)) + wtI wo n ∧ (n ∉ T → sumW wo T = sumW wo (T.filter fun x => decide (x ≠ n))) := fun T t1 t2 => by
    have q1 := t1.filter fun x => decide (x ≠ n)
    have q2 := t2.filter fun x => decide (x ≠ n)
    rw [cut hng1 hng2] at q1
    rw [cut hnl1 hnl2] at q2
    have e := sumW_filter wo (fun x => decide (x ≠ n)) T
    have nT := t1.nodup nd
    have e5 : n ∉ T → T.filter (fun x => !decide (x ≠ n)) = [] := fun h => List.filter_eq_nil_iff.mpr fun y hy => by
      have : y ≠ n := fun z => h (z ▸ hy)
      simp [this]
    refine ⟨q1, q2, ?_, fun h => ?_⟩
    · by_cases h : n ∈ T
      · have e6 : T.filter (fun x => !decide (x ≠ n)) = [n] := by
          obtain ⟨u, v, ee⟩ := List.append_of_mem h
          rw [ee] at nT ⊢
          have nT2 := List.nodup_append.mp nT
          have hu : n ∉ u := fun z => nT2.2.2 n z n List.mem_cons_self rfl
          have hv : n ∉ v := (List.nodup_cons.mp nT2.2.1).1
          have z : ∀ w : List Int, n ∉ w → w.filter (fun x => !decide (x ≠ n)) = [] := fun w hw => List.filter_eq_nil_iff.mpr fun y hy => by
            have : y ≠ n := fun z => hw (z ▸ hy)
            simp [this]
          rw [List.filter_append, List.filter_cons_of_pos (by simp), z u hu, z v hv]; rfl
        rw [e6] at e
        have : sumW wo [n] = wtI wo n := by unfold sumW; simp
        omega
      · rw [e5 h] at e
        have : sumW wo [] = 0 := rfl
        omega
    · rw [e5 h] at e
      have : sumW wo [] = 0 := rfl
      omega
  refine best_is nb nd (fun x hx => ?_) hw (a1.append (a2.cons_cons n)) (b1.append (b2.cons_cons n)) (fun x _ hx => ?_) (fun T t1 t2 => ?_) fun T t1 t2 tw tf => ?_
  · by_cases e : x = n
    · rw [e]; exact List.mem_append_right _ List.mem_cons_self
    · have : x ∈ g1 ++ g2 := by
        rcases List.mem_append.mp hx with z | z
        · exact List.mem_append_left _ z
        · rcases List.mem_cons.mp z with z | z
          · exact absurd z e
          · exact List.mem_append_right _ z
      rcases List.mem_append.mp (sub x this) with z | z
      · exact List.mem_append_left _ z
      · exact List.mem_append_right _ (List.mem_cons_of_mem _ z)
  · rcases f2 x hx with z | z
    · rcases List.mem_append.mp z with z | z
      · exact List.mem_append_left _ z
      · exact List.mem_append_right _ (List.mem_cons_of_mem _ z)
    · rw [z]; exact List.mem_append_right _ List.mem_cons_self
  · obtain ⟨q1, q2, q3, _⟩ := less T t1 t2
    have := hm _ q1 q2
    omega
  · obtain ⟨q1, q2, q3, q4⟩ := less T t1 t2
    have hin : ∀ x ∈ S1 ++ S2, x ∈ T := fun x hx => tf x (by
      rcases List.mem_append.mp hx with z | z
      · exact List.mem_append_left _ z
      · exact List.mem_append_right _ (List.mem_cons_of_mem _ z)) (f1 x hx)
    have nS : n ∉ S1 ++ S2 := fun z => by
      rcases List.mem_append.mp z with z | z
      · exact hng1 (a1.subset z)
      · exact hng2 (a2.subset z)
    have m1 := hm _ q1 q2
    have hnT : n ∈ T := Classical.byContradiction fun z => by
      have := q4 z
      omega
    have e0 : T.filter (fun x => decide (x ≠ n)) = S1 ++ S2 := no_more (wo := wo) nd0 (a1.append a2) q1 (fun x hx => hw x (by
        rcases List.mem_append.mp hx with z | z
        · exact List.mem_append_left _ z
        · exact List.mem_append_right _ (List.mem_cons_of_mem _ z))) (fun x hx => List.mem_filter.mpr ⟨hin x hx, decide_eq_true fun z => nS (z ▸ hx)⟩) m1
    refine sub_same nd t1 (a1.append (a2.cons_cons n)) fun x => ?_
    by_cases e : x = n
    · rw [e]
      exact ⟨fun _ => List.mem_append_right _ List.mem_cons_self, fun _ => hnT⟩
    · constructor
      · intro hx
        have : x ∈ T.filter fun x => decide (x ≠ n) := List.mem_filter.mpr ⟨hx, decide_eq_true e⟩
        rw [e0] at this
        rcases List.mem_append.mp this with z | z
        · exact List.mem_append_left _ z
        · exact List.mem_append_right _ (List.mem_cons_of_mem _ z)
      · intro hx
        refine hin x ?_
        rcases List.mem_append.mp hx with z | z
        · exact List.mem_append_left _ z
        · rcases List.mem_cons.mp z with z | z
          · exact absurd z e
          · exact List.mem_append_right _ z
/-- a pinned id is dropped -/
theorem drop_best {bs ids S fav : List Int} {x : Int} {wo : Option (List (Int × Int))} (nb : bs.Nodup) (nd : ids.Nodup) (sub : ∀ y ∈ ids, y ∈ bs) (hw : ∀ y ∈ ids, 1 ≤ wtI wo y) (h1 : S.Sublist ids) (h2 : S.Sublist bs)
    (hm : ∀ T : List Int, T.Sublist ids → T.Sublist bs → sumW wo T ≤ sumW wo S) (hx : x ∉ S) (hf : ∀ y, y ∈ fav ↔ y ∈ S) :
    bestF (bs.filter fun y => decide (y ≠ x)) (ids.filter fun y => decide (y ≠ x)) (worthI wo (ids.filter fun y => decide (y ≠ x)).length fav) = S := by
  have keep : ∀ l : List Int, l.filter (fun y => decide (y ≠ x)) = S.filter (fun y => decide (y ≠ x)) ∨ True := fun _ => .inr trivial
  have eS : S.filter (fun y => decide (y ≠ x)) = S := List.filter_eq_self.mpr fun y hy => decide_eq_true fun z => hx (z ▸ hy)
  have k1 := h1.filter fun y => decide (y ≠ x)
  have k2 := h2.filter fun y => decide (y ≠ x)
  rw [eS] at k1 k2
  refine best_is (nb.filter _) (nd.filter _) (fun y hy => ?_) (fun y hy => hw y (List.mem_filter.mp hy).1) k1 k2 (fun y _ hy => (hf y).mp hy) (fun T t1 t2 => hm T (t1.trans List.filter_sublist) (t2.trans List.filter_sublist)) fun T t1 t2 tw tf => ?_
  · obtain ⟨z1, z2⟩ := List.mem_filter.mp hy
    exact List.mem_filter.mpr ⟨sub y z1, z2⟩
  · exact no_more (wo := wo) nd h1 (t1.trans List.filter_sublist) hw (fun y hy => tf y hy ((hf y).mpr hy)) (Int.le_of_eq tw)
/-- the best set stays when its ids are favoured -/
theorem same_best {bs ids S fav : List Int} {wo : Option (List (Int × Int))} (nb : bs.Nodup) (nd : ids.Nodup) (sub : ∀ y ∈ ids, y ∈ bs) (hw : ∀ y ∈ ids, 1 ≤ wtI wo y) (h1 : S.Sublist ids) (h2 : S.Sublist bs)
    (hm : ∀ T : List Int, T.Sublist ids → T.Sublist bs → sumW wo T ≤ sumW wo S) (hf : ∀ y, y ∈ fav ↔ y ∈ S) : bestF bs ids (worthI wo ids.length fav) = S :=
  best_is nb nd sub hw h1 h2 (fun y _ hy => (hf y).mp hy) hm fun T t1 t2 tw tf => no_more (wo := wo) nd h1 t1 hw (fun y hy => tf y hy ((hf y).mpr hy)) (Int.le_of_eq tw)
/-! ### numbers sorted -/
theorem sJ1 (js : List Int) : PySem.W.AllAlike (js.map fun z => PyData.int z) := PySem.W.AllAlike.of fun b b' => alike_int b b'
theorem sJ2 (js : List Int) : PySem.W.Sortable (js.map fun z => PyData.int z) := PySem.W.Sortable.others (enc := fun z : Int => PyData.int z) (fun b => ⟨fun z => (by cases z), fun xs z => (by cases z)⟩)
theorem sJ3 (z : Int) : (PyData.int z).depth ≤ 40 := by rw [PyData.depth]; decide
def leJ (a b : Int) : Bool := decide (a ≤ b)
theorem sJ4 (js : List Int) : js.mergeSort (PySem.W.dataLe false fun z => PyData.int z) = js.mergeSort leJ := by rw [PySem.W.dataLe_int]; rfl
theorem sortJ {a b : List Int} (h : a.Perm b) : a.mergeSort leJ = b.mergeSort leJ := by
  have up : ∀ l : List Int, (l.mergeSort leJ).Pairwise (fun x y => x ≤ y) := fun l => by
    have := List.pairwise_mergeSort (le := leJ) (fun a b c x y => decide_eq_true (Int.le_trans (of_decide_eq_true x) (of_decide_eq_true y))) (fun a b => by
      unfold leJ
      rcases Int.le_total a b with q | q
      · rw [decide_eq_true q]; rfl
      · rw [decide_eq_true q, Bool.or_true]) l
    exact this.imp fun z => of_decide_eq_true z
  exact List.Perm.eq_of_pairwise (le := fun x y => x ≤ y) (fun x y _ _ h1 h2 => Int.le_antisymm h1 h2) (up a) (up b) (((List.mergeSort_perm _ _).trans h).trans (List.mergeSort_perm _ _).symm)
/-! ### list(d.values()), sorted(set) -/
def rListVals : List V → Hp → VK → Prop := fun vs H Q => ∃ (p a : Addr) (kvs : List (Key × V)), vs = [.ref p] ∧ H p = some (valsO p a) ∧ H a = some (.dK kvs) ∧ ∀ q, H q = none → Q (.ref q) (upd H q (.lst (kvs.map Prod.snd)))
def rSortSet : List V → Hp → VK → Prop := fun vs H Q => ∃ (a : Addr) (S : Int → Bool) (n : Nat), vs = [.ref a] ∧ H a = some (.set S n) ∧ n < 64 ∧
  ∀ (p : Addr) (ns : List Int), H p = none → ns.Pairwise (· < ·) → (∀ k, k ∈ ns ↔ S k = true) → ns.length = n → Q (.ref p) (upd H p (.lst (ns.map V.int)))
section
variable {X : Cx}
theorem cr_listVals (hc : X.calm = true) : CallR X (.type "list") rListVals := by
  intro pins s σ H vs us Q I r h
  obtain ⟨p, a, kvs, rfl, hp, ha, q⟩ := h
  obtain rfl := Vals.ref1 r
  obtain ⟨hz, hsys, ws, rel, dof⟩ := dk_of I.hok ha
  obtain ⟨ep, dat⟩ := dof.dictAt
  obtain ⟨hview, _, _⟩ : L2.ObjOk X.prog X.w H s.heap p (valsO p a) := I.hok p _ hp
  have hl : kvs.length = ws.length := Paired.length rel
  refine PySem.W.kdl_call (PySem.W.kdl_values (knd := mixKind X.prog X.w) (kvs := ws) (ep := ep)) (I.ok.hd hc) ⟨hview, dat⟩ (by rw [← hl]; exact hz) fun h' tk acc' c' hkeep hS hacc => ?_
  refine ⟨.ref s.heap.objs.size, upd H s.heap.objs.size (.lst (kvs.map Prod.snd)), I.laid (t' := tk) hkeep (Nat.le_refl _) (show L2.ObjOk X.prog X.w _ _ _ (.lst (kvs.map Prod.snd)) from ⟨?_, acc'.toList, c', ?_, ?_⟩), rfl, q _ (I.hok.fresh (Nat.le_refl _))⟩
  · rw [List.length_map]; exact hz
  · have el : acc'.toList.length = acc'.size := by simp
    refine vals_of_at (by rw [List.length_map, el, hacc.1, hl]) fun j x u h1 h2 => ?_
    obtain ⟨k, hky⟩ := hacc.2 j u (by rw [← Array.getElem?_toList]; exact h2)
    obtain ⟨y, e1, e2⟩ := KV.at' rel hky
    have e3 : (kvs.map Prod.snd)[j]? = some y := by rw [List.getElem?_map, e1]; rfl
    rw [e3] at h1
    cases h1
    exact e2
  · rw [Array.toArray_toList]; exact hS
end
/-! ### set(list of ints), as a set that can be sorted -/
section
variable {P : Program} {w : World} {A : Around} {E : Value → Shared → Prop} {s : Shared}
/-- the set that has just been laid -/
abbrev setOb (w : World) : Obj := { cls := .type "set", dict := none, data := .set #[] 0 (.fresh 0 0 (!w.params.followText "set-order")) }
theorem call_setL {l : Addr} {items : Array Value} (ns : List Int) {Q : Value → Shared → Prop} (hh : A.handled = none) (hl : s.heap.IsList l items) (hit : IntsAre items.toList ns) (hb : ns.length + 1 < scanBound)
    (h : ∀ (h' : Heap) (tk c : Nat), SetR w h' s.heap.objs.size (fun j => decide (j ∈ ns)) c → c ≤ ns.length → (∀ b o, s.heap.get? b = some o → h'.get? b = some o) → Q (.ref s.heap.objs.size) { s with heap := h', toks := tk }) :
    wpAny (model P w) A (call (.type "set") [.ref l]) Q E s := by
  have hisz : items.size = ns.length := by
    have q := IntsAre.length hit
    rw [Array.length_toList] at q
    exact q
  obtain ⟨c, tl, hmro⟩ := F.called_set.mro
  have hmade := F.called_set.made
  have hsub := F.called_set.sub
  refine wpAny_call (codeAny_of_tree ?_)
  show wpAny _ _ (callAny (.type "set") _) _ _ _
  refine wpAny_pure ⟨Code.quiet_builtin _ (by decide +kernel), codeAny_builtin F.entry_type_call ?_⟩
  rw [Around.under_plain (weight_type_call_type "set" [.ref l] []) rfl]
  have h1 := F.called_set.notType
  have h2 := F.called_set.canCreate
  have hct := F.typeCall_set_1 (.ref l)
  repeat (any_goals (first | assumption | wp_step))
  refine codeAny_mono (code_set_led1 (.ref l) (E := E) (Q₁ := fun obj s₁ => obj = .ref s.heap.objs.size ∧ s₁ = { s with heap := s.heap.push (setOb w) }) ⟨rfl, rfl⟩) fun r s₁ hr => ?_
  cases r with
  | error e => exact hr
  | ok fl =>
    cases fl with
    | ret obj =>
      obtain ⟨rfl, rfl⟩ := hr
      have hS : (s.heap.push (setOb w)).get? s.heap.objs.size = some (setOb w) := Heap.get?_push_size _ rfl
      have hT : Shared.TypeIs { s with heap := s.heap.push (setOb w) } (.ref s.heap.objs.size) "set" := ⟨_, hS, rfl⟩
      have hli := F.called_set.init.lookup
      have hbi := F.called_set.init.bind (.ref s.heap.objs.size)
      repeat (any_goals (first | assumption | wp_step))
      refine codeAny_mono (codeAny_call_builtin (R := wants (fun r s₂ => r = .none ∧ ∃ h' tk c, s₂ = { s with heap := h', toks := tk } ∧ SetR w h' s.heap.objs.size (fun j => decide (j ∈ ns)) c ∧ c ≤ ns.length ∧
          (∀ b o, s.heap.get? b = some o → h'.get? b = some o)) E) F.called_set.init.plain F.entry_set_init (check_set_init_1 hT ?_)) fun r₂ s₂ hr₂ => ?_
      · obtain ⟨ol, hol, hcl, nl, hdl⟩ := hl
        obtain ⟨ocls, odict, odata, oslots⟩ := ol
        simp only at hcl hdl
        subst hcl; subst hdl
        have hol' : (s.heap.push (setOb w)).get? l = some { cls := .type "list", dict := odict, data := .seq items nl, slots := oslots } := Heap.get?_push_of_some _ hol
        have hsls := F.sub_list_set
        have hslf := F.sub_list_frozenset
        have hne : (Value.type "list" == Value.type "dict") = false := by decide
        have hl1 : (s.heap.push (setOb w)).IsList l items := ⟨_, hol', rfl, nl, rfl⟩
        unfold Builtin.«set.__init__» noKeywords Builtin.Frozenset.updateFrom
        generalize hPI : pyIter = PI
        wp_walk
        subst hPI
        refine wpAny_pyIter_list hl1 ?_
        refine wpAny_bind (wpAny_runValue ?_)
        have hlS : l < s.heap.objs.size := Heap.lt_size hol
        have hh3 : A.in1.in1.in1.handled = none := by simp [hh]
        have hz1 : (s.heap.push (setOb w)).objs.size = s.heap.objs.size + 1 := Heap.size_push ..
        have hneI : l ≠ (s.heap.push (setOb w)).objs.size := by rw [hz1]; exact Nat.ne_of_lt (Nat.lt_succ_of_lt hlS)
        have hSf : s.heap.objs.size ∉ [(s.heap.push (setOb w)).objs.size, l] := by
          rw [hz1]
          simp only [List.mem_cons, List.not_mem_nil, or_false, not_or]
          exact ⟨Nat.ne_of_lt (Nat.lt_succ_self _), Nat.ne_of_gt hlS⟩
        have hval : ∀ (i : Nat) (v : Value), items[i]? = some v → ∃ k t, ns[i]? = some k ∧ v = .int k t := fun i v hv => by
          have hi : i < ns.length := by rw [← hisz]; exact (Array.getElem?_eq_some_iff.mp hv).1
          obtain ⟨t, e⟩ := PyProof.Rows.IntsAre.int_at hit i v (by rw [Array.getElem?_toList]; exact hv)
          refine ⟨ns[i], t, List.getElem?_eq_getElem hi, ?_⟩
          rw [e, List.getD_eq_getElem?_getD, List.getElem?_eq_getElem hi] <;> rfl
        refine set_update_ints ((Walks.list hh3 _ l hneI items).toS) s.heap.objs.size hSf ns hisz hb hval (items.size - 0) 0 _ (by omega) (Nat.zero_le _) ⟨⟨_, Heap.get?_push_size _ rfl, rfl, rfl⟩, (hl1.push _)⟩ ?hS0 ?hR
        case hS0 => exact ⟨0, Nat.le_refl 0, setR_new_at (Heap.get?_push_of_some _ hS)⟩
        case hR =>
          intro s' c' hm hc' hS'
          obtain ⟨h', g2, d', tk', os'⟩ := s'
          have eg : g2 = s.gens := hm.gens
          have ed : d' = s.drawn := hm.drawn
          have eo : os' = s.os := hm.os
          subst eg; subst ed; subst eo
          show wpAny _ _ _ _ _ _
          refine wpAny_pure ?_
          show wpAny _ _ (ret Value.none) _ _ _
          rw [hisz] at hc'
          refine wpAny_pure ⟨rfl, h', tk', c', rfl, hS', hc', fun b o e => ?_⟩
          have hb0 : b < s.heap.objs.size := Heap.lt_size e
          have hb2 : b ≠ (s.heap.push (setOb w)).objs.size := by rw [hz1]; exact Nat.ne_of_lt (Nat.lt_succ_of_lt hb0)
          exact hm.heap b o (by simp only [List.mem_cons, List.not_mem_nil, or_false, not_or]; exact ⟨Nat.ne_of_lt hb0, hb2⟩) (Heap.get?_push_of_some _ (Heap.get?_push_of_some _ e))
      · cases r₂ with
        | error e => exact hr₂
        | ok fl₂ =>
          cases fl₂ with
          | ret r =>
            obtain ⟨rfl, h', tk, c', rfl, hS', hc', hk'⟩ := hr₂
            repeat (any_goals (first | assumption | wp_step))
            exact h _ _ _ hS' hc' hk'
          | _ => exact hr₂.elim
    | _ => exact hr.elim
end
section
variable {X : Cx}
def rSetL (K : PySem.W.Frag) (w : World) : List V → Hp → VK → Prop := fun xs H Q => ∃ (p : Addr) (ns : List Int), xs = [.ref p] ∧ SqL K H p (ns.map V.int) ∧ ns.length ≤ 4000 ∧
  ∀ (q : Addr) (n : Nat), H q = none → n ≤ ns.length → Q (.ref q) (upd H q (SetO w q (fun j => decide (j ∈ ns)) n))
theorem cr_setL (hc : X.calm = true) : CallR X (.type "set") (rSetL X.K X.w) := by
  intro pins s σ H xs us Q I r h
  obtain ⟨p, ns, rfl, hq, hlen, k⟩ := h
  rw [Vals.ref1 r]
  have hs : scanBound = 4096 := rfl
  obtain ⟨its, rv, pl, hz⟩ := I.list hq
  refine call_setL ns (I.ok.hd hc) pl.isList (Vals.ints rv) (by rw [hs]; omega) fun h' tk c R hle kk => ?_
  have I' := I.laid (a := s.heap.objs.size) (o := SetO X.w s.heap.objs.size (fun j => decide (j ∈ ns)) c) (h' := h') (t' := tk) (fun b u e => kk b u e) (Nat.le_refl _) (setO_new R)
  exact ⟨.ref _, _, I', rfl, k _ _ (I.hok.fresh (Nat.le_refl _)) hle⟩
end
/-! ### sorted(a set of ints), of any size -/
def rSortS (w : World) : List V → Hp → VK → Prop := fun vs H Q => ∃ (a : Addr) (S : Int → Bool) (n : Nat), vs = [V.ref a] ∧ H a = some (SetO w a S n) ∧ n < 4096 ∧
  ∀ (ns : List Int) (p : Addr), ns.Pairwise (· < ·) → (∀ k : Int, k ∈ ns ↔ S k = true) → ns.length = n → H p = none → Q (.ref p) (upd H p (.lst (ns.map V.int)))
theorem each_ints : ∀ {vs : List Value} {ns : List Int}, IntsAre vs ns → PySem.W.EachIs (fun u b => RelV (V.int b) u) vs ns := by
  intro vs ns h
  induction h with
  | nil => exact .nil
  | cons _ _ _ ih => exact .cons ⟨_, rfl⟩ ih
theorem cr_sortS {X : Cx} (hc : X.calm = true) (hu : X.A.units + 64 < cLine) : CallR X (.builtin "sorted") (rSortS X.w) := by
  intro pins s σ H vs us Q I r h
  obtain ⟨a, S, n, rfl, ha, h64, q⟩ := h
  obtain ⟨o, es, ep, t, ho, hex, hd, g, nd, hm, hb, hf, hn, hr, hl⟩ := setO_get I ha
  rw [Vals.ref1 r]
  refine PyProof.Rows.call_function_entry_kw kind_sorted plain_sorted entry_sorted (args_sorted1 _) ?_
  unfold Builtin.«sorted»
  refine wpAny_bind (m := checkCount "sorted" 1 1 _) (wpAny_pure ?_)
  refine wpAny_bind (collect_set (A := X.A.in1) (I.ok.hd hc) ⟨o, ho, hex.1, hd⟩ hf hb hr hl fun s1 vs k1 hz g1 o1 pm => ?_)
  have hvl : vs.length = n := by rw [pm.length_eq, List.length_map, Array.length_toList]; exact hn
  have hI : IntsAre vs (vs.map Builtin.Re.reRawOf) := ints_of vs fun v hv => by
    obtain ⟨e, he, q⟩ := List.mem_map.mp (pm.mem_iff.mp hv)
    obtain ⟨k, tk, h1, _⟩ := g e he
    exact ⟨k, tk, by rw [← q]; exact h1⟩
  have pk : (vs.map Builtin.Re.reRawOf).Perm (es.toList.map keyOf) := by
    have q := pm.map Builtin.Re.reRawOf
    rw [List.map_map] at q
    exact q
  have h16 : sizeLine = 16777216 := sizeLine_eq
  refine wpAny_bind (wpAny_newList ?_ (by rw [hvl]; omega))
  have ho2 : (s1.heap.push (seqObj "list" vs.toArray 0)).get? s1.heap.objs.size = some (seqObj "list" vs.toArray 0) := Heap.get?_push_size _ rfl
  refine wpAny_bind (wpAny_holding ?_)
  obtain ⟨ms, hms⟩ : ∃ ms, ms = vs.map Builtin.Re.reRawOf := ⟨_, rfl⟩
  rw [← hms] at hI pk
  have hml : ms.length = n := by rw [hms, List.length_map]; exact hvl
  have e := each_ints hI
  have e2 : ∀ {us : List Value} {bs : List Int}, PySem.W.EachIs (fun u b => RelV (V.int b) u) us bs → PySem.W.EachIs (fun u b => ∃ as, Reads (s1.heap.push (seqObj "list" vs.toArray 0)) u (PyData.int b) as ∧ s1.heap.objs.size ∉ as) us bs := by
    intro us bs z
    induction z with
    | nil => exact .nil
    | cons r _ ih =>
      obtain ⟨t, rfl⟩ := r
      exact .cons ⟨[], .int _ t, fun z => by cases z⟩ ih
  refine PySem.W.list_sort_data (A := X.A.in1) (s := { s1 with heap := s1.heap.push (seqObj "list" vs.toArray 0) }) (enc := fun z : Int => PyData.int z) ho2 e (e2 e) (sJ1 ms) (sJ2 ms) (by omega) (fun b _ => ?_) fun out hol hout => ?_
  · have := sJ3 b
    show X.A.units + 1 + 1 + (PyData.int b).depth < cLine
    omega
  · obtain ⟨c, hc2⟩ := PyProof.Rows.sortedHeap_at (out := out.toArray) ho2
    have k : ∀ b u, s.heap.get? b = some u → (sortedHeap (s1.heap.push (seqObj "list" vs.toArray 0)) s1.heap.objs.size vs out.toArray).get? b = some u := fun b u e => by
      have q := k1 b u e
      have hb := Heap.lt_size q
      rw [sortedHeap_old (Nat.ne_of_lt hb) (by rw [size_push']; exact Nat.lt_succ_of_lt hb)]
      exact Heap.get?_push_of_some _ q
    refine wpAny_pure ⟨_, rfl, ?_⟩
    have hvals := vals_each (val := V.int) hout
    rw [sJ4] at hvals
    obtain ⟨ns, hns⟩ : ∃ ns, ns = ms.mergeSort leJ := ⟨_, rfl⟩
    rw [← hns] at hvals
    have pn : ns.Perm (es.toList.map keyOf) := by rw [hns]; exact (List.mergeSort_perm _ _).trans pk
    have hnl : ns.length = n := by rw [hns, List.length_mergeSort]; exact hml
    have le : ns.Pairwise (fun x y => x ≤ y) := by
      rw [hns]
      have := List.pairwise_mergeSort (le := leJ) (fun a b c x y => decide_eq_true (Int.le_trans (of_decide_eq_true x) (of_decide_eq_true y))) (fun a b => by
        unfold leJ
        rcases Int.le_total a b with q | q
        · rw [decide_eq_true q]; rfl
        · rw [decide_eq_true q, Bool.or_true]) ms
      exact this.imp fun z => of_decide_eq_true z
    have lt : ns.Pairwise (· < ·) := lt_of_le_nodup ns le (pn.nodup_iff.mpr nd)
    have hlen : (ns.map V.int).length ≤ sizeLine := by rw [List.length_map, hnl]; omega
    have hpn : H s1.heap.objs.size = none := I.hok.fresh hz
    have J : L2.Inv X pins σ (upd H s1.heap.objs.size (.lst (ns.map V.int))) { s with heap := sortedHeap (s1.heap.push (seqObj "list" vs.toArray 0)) s1.heap.objs.size vs out.toArray, gens := s1.gens, drawn := s1.drawn, toks := s1.toks } :=
      I.call (ch := []) (Un.laid k hz hpn) (I.hok.laid k hz ⟨hlen, out, c, hvals, hc2⟩) (by show AllBare s1.gens; rw [g1]; exact I.bare) (fun _ z => nomatch z)
    have es : ({ s1 with heap := sortedHeap (s1.heap.push (seqObj "list" vs.toArray 0)) s1.heap.objs.size vs out.toArray } : Shared) = { s with heap := sortedHeap (s1.heap.push (seqObj "list" vs.toArray 0)) s1.heap.objs.size vs out.toArray, gens := s1.gens, drawn := s1.drawn, toks := s1.toks } := by
      cases s1
      cases s
      cases o1
      rfl
    rw [es]
    exact ⟨.ref s1.heap.objs.size, _, J, rfl, q ns s1.heap.objs.size lt (fun k => by rw [pn.mem_iff, ← hm k]) hnl hpn⟩
/-! ### level_cover -/
structure TxtC (mg : Str → Option Value) : Prop where
  list : mg "list" = none
  set : mg "set" = none
  sorted : mg "sorted" = none
  zip : mg "zip" = none
  tuple : mg "tuple" = none
section
variable {P : Program} {w : World} {K : PySem.W.Frag} {mg : Str → Option Value} {base : Heap}
abbrev NC : List Str := ["base", "goal", "weights", "full", "tops", "floors", "bounds", "cover", "low", "high", "ids", "row_id"]
theorem scCover : FnScope NC ["base", "goal", "weights"] (defScope sCover) := ⟨rfl, rfl, rfl, by decide +kernel, rfl, by decide +kernel, by decide +kernel⟩
def spCover (K : PySem.W.Frag) : Sp := fun vs H Q _ => ∃ (b g : Addr) (v : V) (bs ids : List Int) (wo : Option (List (Int × Int))), vs = [.ref b, .ref g, v] ∧ SqL K H b (bs.map V.int) ∧ SqL K H g (ids.map V.int) ∧ WtAt H v wo ∧
  bs.Nodup ∧ bs.length ≤ 300 ∧ ids.Nodup ∧ ids.length ≤ 300 ∧ (∀ x ∈ ids, x ∈ bs) ∧
  ∀ (q : Addr) (H' : Hp), Same H H' → H q = none → RunsAt H' q (covF ids (topI (ixI bs) (wtI wo) ids) fun x => topI (ixI bs) (wtI wo) ids x - wtI wo x) → Q (.ref q) H'
theorem pin_vals (f : Int → Int) (l : List Int) : (pinK (tabP f l)).map Prod.snd = (l.map f).map V.int := by
  unfold pinK tabP
  rw [List.map_map, List.map_map, List.map_map]; rfl
theorem ok_cover {f fU fT : Addr} {fd fdU fdT : FuncData} {kws : List (Str × V)} (F : FunD K "level_cover" "level_cover" (defArgs sCover) (defBody sCover) (defScope sCover) [] kws f fd) (T : TxtC mg)
    (GU : FnOk P w K mg base CX0 1 fU fdU ["ids", "weights"] (spFull K)) (kU : PySem.W.keepIn K (.ref fU) = true) (bU : L2.Binds K fdU ["ids", "weights"] []) (mU : mg "full_weights" = some (.ref fU))
    (GT : FnOk P w K mg base CX0 2 fT fdT ["base", "goal", "worths"] (spTops K)) (kT : PySem.W.keepIn K (.ref fT) = true) (bT : L2.Binds K fdT ["base", "goal", "worths"] []) (mT : mg "top_levels" = some (.ref fT)) :
    FnOk P w K mg base CX0 3 f fd ["base", "goal", "weights"] (spCover K) := by
  refine FunD.ok0 F scCover (fun vs H Q E h => ?_) (fun cdv A outer s H vs Q E hr h => ?_)
  · obtain ⟨b, g, v, bs, ids, wo, rfl, _⟩ := h
    rfl
  · obtain ⟨b, g, v, bs, ids, wo, rfl, hb, hg, hw, nb, lb, nd, hlen, hsub, k⟩ := h
    have hu := hu_of hr
    have h64 := hu64 hr
    have hr1 : Room 1 _ := hr.mono (by decide)
    refine ⟨_, pss_cons (ps_set (i := 3) scCover.nd rfl (Or.inr rfl) (pe_call GU hr1 rfl mU kU bU .nil pass0 (pa_cons (pv 1) (pa_cons (pv 2) pa_nil))))
    (pss_cons (ps_set (i := 4) scCover.nd rfl (Or.inr rfl) (pe_call GT hr rfl mT kT bT .nil pass0 (pa_cons (pv 0) (pa_cons (pv 1) (pa_cons (pv 3) pa_nil)))))
    (pss_cons (ps_set (i := 5) scCover.nd rfl (Or.inr rfl) (pe_dc (own := [("row_id", 11)]) (tt := tYes) (g := gName 11) rfl scCover.nd (pi_list (pv 1)) (blkOk_by (N := NC) (sc := defScope sCover) (by decide +kernel))
        (fun _ _ _ _ _ => pg_name (i := 11) scCover.nd rfl (Or.inl rfl)) (fun _ _ _ _ _ => pts_nil) (fun _ _ _ _ _ => pv 11) (fun _ _ _ _ _ => pe_op op_sub (pe_dget hu (pv 4) (pv 11) (fun _ _ => rfl)) (pe_dget hu (pv 3) (pv 11) (fun _ _ => rfl)))))
    (pss_cons (ps_set (i := 6) scCover.nd rfl (Or.inl rfl) (pe_callB (cr_sortS rfl h64) (by rfl) T.sorted (by decide +kernel) (pa_cons (pe_callTy (cr_setL rfl) (by rfl) T.set (by decide +kernel) (pa_cons (pe_op op_cat
        (pe_callTy (cr_listVals rfl) (by rfl) T.list (by decide +kernel) (pa_cons (pe_bm0 PySem.F.plainAttrs_dict PySem.F.slot_dict_values PySem.F.type_dict_values mt_valsK (pv 5)) pa_nil))
        (pe_callTy (cr_listVals rfl) (by rfl) T.list (by decide +kernel) (pa_cons (pe_bm0 PySem.F.plainAttrs_dict PySem.F.slot_dict_values PySem.F.type_dict_values mt_valsK (pv 4)) pa_nil))) pa_nil)) pa_nil)))
    (pss_cons (ps_set (i := 7) scCover.nd rfl (Or.inl rfl) (pe_lst pa_nil))
    (pss_cons (ps_for PassesOwn.never rfl (pi_zip (by rfl) T.zip (pa_cons (pv 6) (pa_cons (pe_slice sl_list (pv 6) (po_some pe_int) po_none) pa_nil))) (pg_tup rfl (pgs_cons (pg_name (i := 8) scCover.nd rfl (Or.inr rfl)) (pgs_cons (pg_name (i := 9) scCover.nd rfl (Or.inr rfl)) pgs_nil)))
      (pss_cons (ps_setLc (i := 10) (own := [("row_id", 11)]) (g := gName 11) rfl scCover.nd rfl rfl rfl (pi_list (pv 1)) (blkOk_by (N := NC) (sc := defScope sCover) (by decide +kernel)) (fun _ _ _ _ _ => pg_name (i := 11) scCover.nd rfl (Or.inl rfl))
        (fun _ _ _ _ _ => pts_one (PW.pt (pw_and (pt_cmpR op_le (pe_dget hu (pv 5) (pv 11) (fun _ _ => rfl)) (pv 8) (nomark _)) (pw_and1 (pt_cmpR op_le (pv 9) (pe_dget hu (pv 4) (pv 11) (fun _ _ => rfl)) (nomark _)))))) (fun _ _ _ _ _ => pv 11))
      (pss_one (ps_expr (pe_bm PySem.F.plainAttrs_list PySem.F.slot_list_append PySem.F.type_list_append mt_append (pv 7) (pa_cons (pe_tup (pa_cons (pe_op op_sub (pv 9) (pv 8)) (pa_cons (pe_callTy call_tuple_of (by rfl) T.tuple (by decide +kernel) (pa_cons (pv 10) pa_nil)) pa_nil))) pa_nil))))))
    (pss_one (ps_ret (pv 7)))))))), ?_⟩
    have h16 : sizeLine = 16777216 := sizeLine_eq
    refine ⟨_, rfl, _, rfl, g, v, ids, wo, rfl, hg, hw, nd, hlen, fun fu H1 s1 hfu hFU => ?_⟩
    refine ⟨_, rfl, _, rfl, _, rfl, b, g, fu, bs, ids, _, wtI wo, rfl, s1.seq hb, s1.seq hg, hFU, fun x hx => tab_an hx, nb, lb, nd, hlen, hsub, fun tq H2 s2 htq hTP => ?_⟩
    obtain ⟨tp, htp⟩ : ∃ tp, tp = topI (ixI bs) (wtI wo) ids := ⟨_, rfl⟩
    rw [← htp] at hTP k
    have s12 := s1.trans s2
    have hFU2 := s2 _ _ hFU
    -- floors
    refine ⟨_, rfl, g, rfl, ⟨_, s12.seq hg⟩, fun D hD => ?_⟩
    obtain ⟨fl, hfl⟩ : ∃ fl : Int → Int, fl = fun x => tp x - wtI wo x := ⟨_, rfl⟩
    rw [← hfl] at k
    refine dc_it (walk_list (K := K) (a := g) (xs := ids.map V.int)) (fun i H' => Same H2 H' ∧ i ≤ ids.length ∧ H' D = some (.dK (pinK (tabP fl (ids.take i))))) ⟨Same.new hD, Nat.zero_le _, by rw [List.take_zero]; exact upd_same⟩ (fun i H' _ q => (s12.trans q.1).seq hg) ?_ ?_
    · rintro i y H3 H4 hi ⟨s3, hil, hP⟩ ⟨rfl, e2⟩
      rw [List.length_map] at hi
      obtain ⟨x, hx, rfl⟩ := int_at e2
      have hxm := List.mem_of_getElem? hx
      have dgt : DGet H4 tq (.int x) (some (.int (tp x))) := by
        have := DGet.k (k := (.inl x : Key)) (s3 _ _ hTP)
        rw [val_pin, tab_an hxm] at this
        exact this
      have dgf : DGet H4 fu (.int x) (some (.int (wtI wo x))) := by
        have := DGet.k (k := (.inl x : Key)) (s3 _ _ hFU2)
        rw [val_pin, tab_an hxm] at this
        exact this
      refine ⟨rfl, _, rfl, _, rfl, _, rfl, tq, _, rfl, dgt, _, rfl, _, rfl, fu, _, rfl, dgf, _, _, rfl, rfl, ?_⟩
      refine ⟨pinK (tabP fl (ids.take i)), .inl x, rfl, hP, by rw [pin_len, tab_len, List.length_take, h16]; omega, fun b u e => by rw [upd_ne (ne_of_none e hD)]; exact s3 _ _ e, hi, ?_⟩
      rw [upd_same, pin_put (tab_new nd hx), tab_snoc hx, hfl]
    · rintro H3 ⟨s3, _, hFLD⟩
      rw [List.length_map, List.take_length] at hFLD
      have s13 := s12.trans s3
      have hTP3 := s3 _ _ hTP
      -- bounds
      refine ⟨_, rfl, .inr (.inr (.inl ⟨rfl, .inl ⟨_, hFLD⟩⟩)), D, _, rfl, rfl, hFLD, fun v1 hv1 => ?_⟩
      have sv1 := Same.new (o := valsO v1 D) hv1
      have hV1 : upd H3 v1 (valsO v1 D) v1 = some (valsO v1 D) := upd_same
      generalize (upd H3 v1 (valsO v1 D) : Hp) = H4 at sv1 hV1 ⊢
      refine ⟨v1, D, _, rfl, hV1, sv1 _ _ hFLD, fun l1 hl1 => ?_⟩
      rw [pin_vals]
      have sl1 := Same.new (o := .lst ((ids.map fl).map V.int)) hl1
      have hL1 : upd H4 l1 (.lst ((ids.map fl).map V.int)) l1 = some (.lst ((ids.map fl).map V.int)) := upd_same
      generalize (upd H4 l1 (.lst ((ids.map fl).map V.int)) : Hp) = H5 at sl1 hL1 ⊢
      have s35 := sv1.trans sl1
      refine ⟨_, rfl, .inr (.inr (.inl ⟨rfl, .inl ⟨_, s35 _ _ hTP3⟩⟩)), tq, _, rfl, rfl, s35 _ _ hTP3, fun v2 hv2 => ?_⟩
      have sv2 := Same.new (o := valsO v2 tq) hv2
      have hV2 : upd H5 v2 (valsO v2 tq) v2 = some (valsO v2 tq) := upd_same
      generalize (upd H5 v2 (valsO v2 tq) : Hp) = H6 at sv2 hV2 ⊢
      refine ⟨v2, tq, _, rfl, hV2, sv2 _ _ (s35 _ _ hTP3), fun l2 hl2 => ?_⟩
      rw [pin_vals]
      have sl2 := Same.new (o := .lst ((ids.map tp).map V.int)) hl2
      have hL2 : upd H6 l2 (.lst ((ids.map tp).map V.int)) l2 = some (.lst ((ids.map tp).map V.int)) := upd_same
      generalize (upd H6 l2 (.lst ((ids.map tp).map V.int)) : Hp) = H7 at sl2 hL2 ⊢
      have hL17 := sl2 _ _ (sv2 _ _ hL1)
      refine ⟨l1, l2, _, _, rfl, rfl, hL17, hL2, by rw [List.length_map, List.length_map, List.length_map, List.length_map, h16]; omega, fun l3 hl3 => ?_⟩
      rw [← List.map_append]
      have sl3 := Same.new (o := .lst ((ids.map fl ++ ids.map tp).map V.int)) hl3
      have hL3 : upd H7 l3 (.lst ((ids.map fl ++ ids.map tp).map V.int)) l3 = some (.lst ((ids.map fl ++ ids.map tp).map V.int)) := upd_same
      generalize (upd H7 l3 (.lst ((ids.map fl ++ ids.map tp).map V.int)) : Hp) = H8 at sl3 hL3 ⊢
      have s38 := s35.trans (sv2.trans (sl2.trans sl3))
      refine ⟨l3, _, rfl, SqL.of hL3, by rw [List.length_append, List.length_map, List.length_map]; omega, fun sq n hsq hn => ?_⟩
      rw [List.length_append, List.length_map, List.length_map] at hn
      have ssq := Same.new (o := SetO w sq (fun j => decide (j ∈ ids.map fl ++ ids.map tp)) n) hsq
      refine ⟨sq, _, n, rfl, upd_same, by omega, fun bd bp hup hmem hbl hbp => ?_⟩
      have ebd : bd = boundsI (ids.map fl ++ ids.map tp) := up_eq hup (bounds_up _) fun z => by
        rw [hmem z, bounds_mem]
        exact ⟨of_decide_eq_true, fun h => decide_eq_true h⟩
      have ek : covF ids tp fl = runsOf ids tp fl bd := by rw [ebd]; rfl
      rw [ek] at k
      generalize hG9 : upd (upd H8 sq (SetO _ sq _ n)) bp (.lst (bd.map V.int)) = H9
      have hBD : H9 bp = some (.lst (bd.map V.int)) := by rw [← hG9]; exact upd_same
      have s39 : Same H3 H9 := by rw [← hG9]; exact s38.trans ((Same.new hsq).trans (Same.new hbp))
      have hbl600 : bd.length ≤ 600 := by omega
      -- cover
      refine ⟨Nat.zero_le _, fun cq hcq => ?_⟩
      have scq := Same.new (o := .lst []) hcq
      have hC0 : RunsAt (upd H9 cq (.lst [])) cq [] := RunsAt.nil upd_same
      have hcH : H cq = none := Same.free (s13.trans s39) hcq
      refine ⟨_, rfl, _, rfl, _, rfl, bp, _, rfl, SqL.of (scq _ _ hBD), fun b2 hb2 => ?_⟩
      have ecut : cutV (bd.map V.int) (some (1 : Int)) none = (bd.drop 1).map V.int := by
        rw [show (1 : Int) = ((1 : Nat) : Int) from rfl, cut_from, List.map_drop]
      rw [ecut]
      have sb2 := Same.new (o := .lst ((bd.drop 1).map V.int)) hb2
      have hB2 : upd (upd H9 cq (.lst [])) b2 (.lst ((bd.drop 1).map V.int)) b2 = some (.lst ((bd.drop 1).map V.int)) := upd_same
      have hC1 := hC0.same sb2
      have hBD1 := sb2 _ _ (scq _ _ hBD)
      have s910 := scq.trans sb2
      generalize (upd (upd H9 cq (.lst [])) b2 (.lst ((bd.drop 1).map V.int)) : Hp) = H10 at hB2 hC1 hBD1 s910 ⊢
      have hb2c : b2 ≠ cq := by
        obtain ⟨xs, q, _⟩ := hC0
        exact (ne_of_none q hb2).symm
      have rl : (runsOf ids tp fl bd).length = (bd.drop 1).length := by
        unfold runsOf
        rw [List.length_map, List.length_zip, List.length_drop]
        omega
      have gH : ∀ {H' : Hp}, Same H9 H' → SqL K H' g (ids.map V.int) := fun s => (s13.trans (s39.trans s)).seq hg
      refine ⟨bp, b2, _, _, rfl, SqL.of hBD1, SqL.of hB2, for_it (walk_zip (K := K) (a := bp) (b := b2) (xs := bd.map V.int) (ys := (bd.drop 1).map V.int) (n := (bd.drop 1).length) (by rw [List.length_map, List.length_map, List.length_drop]; omega))
        (fun i σ H' => ∃ v8 v9 v10 : Option V, σ = [some (.ref b), some (.ref g), some v, some (.ref fu), some (.ref tq), some (.ref D), some (.ref bp), some (.ref cq), v8, v9, v10, none] ∧ Same H9 H' ∧ H' b2 = some (.lst ((bd.drop 1).map V.int)) ∧ RunsAt H' cq ((runsOf ids tp fl bd).take i) ∧ i ≤ (bd.drop 1).length)
        ⟨none, none, none, rfl, s910, hB2, by rw [List.take_zero]; exact hC1, Nat.zero_le _⟩ (fun i σ H' _ ⟨_, _, _, _, s, h2, _⟩ => ⟨SqL.of (s _ _ hBD), SqL.of h2⟩) ?_ ?_⟩
      · rintro i y σ H11 H12 hi ⟨v8, v9, v10, rfl, s11, hB11, hC11, hil⟩ ⟨T0, x', y', rfl, hT0, rfl, e1, e2⟩
        obtain ⟨lo, hlo, rfl⟩ := int_at (show (bd.map V.int)[i]? = some x' from e1)
        obtain ⟨hi', hhi, rfl⟩ := int_at (show ((bd.drop 1).map V.int)[i]? = some y' from e2)
        have hrun : (runsOf ids tp fl bd)[i]? = some (hi' - lo, ids.filter fun x => decide (fl x ≤ lo) && decide (hi' ≤ tp x)) := by
          unfold runsOf
          rw [List.getElem?_map, (List.getElem?_zip_eq_some (z := (lo, hi'))).mpr ⟨hlo, hhi⟩]; rfl
        have sT0 := Same.new (o := .tup [V.int lo, V.int hi']) hT0
        have hT : upd H11 T0 (.tup [V.int lo, V.int hi']) T0 = some (.tup [V.int lo, V.int hi']) := upd_same
        have hB12 := sT0 _ _ hB11
        have hC12 := hC11.same sT0
        have s12' := s11.trans sT0
        generalize (upd H11 T0 (.tup [V.int lo, V.int hi']) : Hp) = H12 at sT0 hT hB12 hC12 s12' ⊢
        refine ⟨T0, _, rfl, SqT.of hT, rfl, _, _, rfl, _, _, rfl, rfl, ?_⟩
        -- the ids between
        refine ⟨_, rfl, g, rfl, ⟨_, gH s12'⟩, fun E1 hE1 => ?_⟩
        refine lc_list (K := K) (a := g) (xs := ids.map V.int) (fun j H' => Same H12 H' ∧ H' E1 = some (.lst (((ids.take j).filter fun x => decide (fl x ≤ lo) && decide (hi' ≤ tp x)).map V.int)) ∧ j ≤ ids.length) ⟨Same.new hE1, by rw [List.take_zero]; exact upd_same, Nat.zero_le _⟩ (fun j H' _ z => gH (s12'.trans z.1)) ?_ ?_
        · rintro j y H13 hj ⟨s13', hA, hjl⟩
          obtain ⟨x, hx, rfl⟩ := int_at hj
          have hjl2 : j < ids.length := (List.getElem?_eq_some_iff.mp hx).1
          have hxm := List.mem_of_getElem? hx
          have z3 : Same H3 H13 := s39.trans (s12'.trans s13')
          have dgl : DGet H13 D (.int x) (some (.int (fl x))) := by
            have := DGet.k (k := (.inl x : Key)) (z3 _ _ hFLD)
            rw [val_pin, tab_an hxm] at this
            exact this
          have dgt : DGet H13 tq (.int x) (some (.int (tp x))) := by
            have := DGet.k (k := (.inl x : Key)) (z3 _ _ hTP3)
            rw [val_pin, tab_an hxm] at this
            exact this
          have hfl2 := List.length_filter_le (fun x => decide (fl x ≤ lo) && decide (hi' ≤ tp x)) (ids.take j)
          rw [List.length_take] at hfl2
          have no : (decide (fl x ≤ lo) && decide (hi' ≤ tp x)) = false → (Same H12 H13 ∧ H13 E1 = some (.lst (((ids.take (j + 1)).filter fun x => decide (fl x ≤ lo) && decide (hi' ≤ tp x)).map V.int)) ∧ j + 1 ≤ ids.length) := fun e => by
            refine ⟨s13', ?_, hjl2⟩
            rw [hA, take_snoc hx, List.filter_append, List.filter_cons_of_neg (by rw [e]; exact fun z => by cases z), List.filter_nil, List.append_nil]
          refine ⟨rfl, _, rfl, _, rfl, D, _, rfl, dgl, _, rfl, _, _, rfl, rfl, _, rfl, ite2 (fun c1 => ?_) (fun c1 => ?_)⟩
          · refine ⟨_, rfl, _, rfl, _, rfl, tq, _, rfl, dgt, _, _, rfl, rfl, _, rfl, ite2 (fun c2 => ?_) (fun c2 => ?_)⟩
            · refine ⟨_, rfl, _, hA, by rw [List.length_map, h16]; omega, fun b u q => by rw [upd_ne (ne_of_none q hE1)]; exact s13' _ _ q, ?_, hjl2⟩
              rw [upd_same, take_snoc hx, List.filter_append, List.filter_cons_of_pos (by rw [c1, c2]; rfl), List.map_append]; rfl
            · exact no (by rw [Bool.not_eq_true _ |>.mp c2, Bool.and_false])
          · exact no (by rw [Bool.not_eq_true _ |>.mp c1, Bool.false_and])
        · rintro H13 ⟨s13', hA, _⟩
          rw [List.length_map, List.take_length] at hA
          have hC13 := hC12.same s13'
          obtain ⟨ys, hys, _⟩ := id hC13
          refine ⟨_, rfl, .inl ⟨rfl, _, SqL.of hys⟩, _, rfl, _, rfl, _, _, rfl, rfl, _, rfl, E1, _, rfl, .inl ⟨SqL.of hA, fun u hu' => ?_⟩⟩
          have su := Same.new (o := .tup ((ids.filter fun x => decide (fl x ≤ lo) && decide (hi' ≤ tp x)).map V.int)) hu'
          have hU : upd H13 u (.tup ((ids.filter fun x => decide (fl x ≤ lo) && decide (hi' ≤ tp x)).map V.int)) u = some (.tup ((ids.filter fun x => decide (fl x ≤ lo) && decide (hi' ≤ tp x)).map V.int)) := upd_same
          generalize (upd H13 u (.tup ((ids.filter fun x => decide (fl x ≤ lo) && decide (hi' ≤ tp x)).map V.int)) : Hp) = H14 at su hU ⊢
          refine ⟨by show 2 ≤ sizeLine; decide, fun t ht => ?_⟩
          have st := Same.new (o := .tup [V.int (hi' - lo), V.ref u]) ht
          have hRun : RunAt (upd H14 t (.tup [V.int (hi' - lo), V.ref u])) (.ref t) (hi' - lo, ids.filter fun x => decide (fl x ≤ lo) && decide (hi' ≤ tp x)) := ⟨t, u, rfl, upd_same, st _ _ hU⟩
          have s1215 := s13'.trans (su.trans st)
          have hC15 := hC12.same s1215
          have hB15 := s1215 _ _ hB12
          have s915 := s12'.trans s1215
          generalize (upd H14 t (.tup [V.int (hi' - lo), V.ref u]) : Hp) = H15 at hRun hC15 hB15 s915 ⊢
          obtain ⟨xs, q1, q2, q3⟩ := hC15.push hRun
          have hi6 : i < 600 := by
            have := hi
            rw [List.length_drop] at this
            omega
          refine ⟨cq, _, _, rfl, rfl, q1, by rw [q2, List.length_take, h16]; omega, _, _, _, rfl, fun b u e => ?_, ?_, ?_, hi⟩
          · rw [upd_ne (ne_of_none e hcq)]; exact s915 _ _ e
          · rw [upd_ne hb2c]; exact hB15
          · rw [take_snoc hrun]; exact q3
      · rintro σ H11 ⟨v8, v9, v10, rfl, s11, hB11, hC11, _⟩
        rw [← rl, List.take_length] at hC11
        exact ⟨_, rfl, k cq H11 (s13.trans (s39.trans s11)) hcH hC11⟩
end
/-! ### only new lists and dicts laid -/
def Ly (H H' : Hp) : Prop := ∃ pr : List (Addr × HO), H' = lay pr H ∧ ∀ q ∈ pr, H q.1 = none ∧ OwnO q.2
theorem Ly.refl (H : Hp) : Ly H H := ⟨[], rfl, fun q h => by cases h⟩
theorem Ly.put {H H' : Hp} {x : Addr} {o : HO} (h : Ly H H') (hx : H x = none) (ho : OwnO o) : Ly H (upd H' x o) := by
  obtain ⟨pr, e, h1⟩ := h
  refine ⟨(x, o) :: pr, by rw [e]; rfl, fun q hq => ?_⟩
  rcases List.mem_cons.mp hq with z | z
  · rw [z]; exact ⟨hx, ho⟩
  · exact h1 q z
theorem Ly.same {H H' : Hp} (h : Ly H H') : Same H H' := fun b o e => by
  obtain ⟨pr, e1, h1⟩ := h
  rw [e1, lay_off fun q hq z => ?_]
  · exact e
  · rw [← z, (h1 q hq).1] at e; cases e
theorem Ly.free {H H' : Hp} {x : Addr} (h : Ly H H') (hx : H' x = none) : H x = none := Same.free h.same hx
theorem Ly.new {H H' : Hp} {x : Addr} {o : HO} (h : Ly H H') (hx : H' x = none) (ho : OwnO o) : Ly H (upd H' x o) := h.put (h.free hx) ho
theorem lay_congr {H1 H2 : Hp} {b : Addr} (h : H1 b = H2 b) : ∀ pr : List (Addr × HO), lay pr H1 b = lay pr H2 b
  | [] => h
  | q :: pr => by
    show upd (lay pr H1) q.1 q.2 b = upd (lay pr H2) q.1 q.2 b
    by_cases e : b = q.1
    · rw [e, upd_same, upd_same]
    · rw [upd_ne e, upd_ne e]; exact lay_congr h pr
theorem Ly.unlock {H H' : Hp} {d : Addr} {u v : HO} (hd : H d = some u) (h : Ly (upd H d v) H') : Ly H (upd H' d u) := by
  obtain ⟨pr, e, h1⟩ := h
  have nd : ∀ q ∈ pr, q.1 ≠ d := fun q hq z => by
    have := (h1 q hq).1
    rw [z, upd_same] at this; cases this
  refine ⟨pr, ?_, fun q hq => ⟨?_, (h1 q hq).2⟩⟩
  · funext b
    by_cases z : b = d
    · rw [z, upd_same, lay_off nd]; exact hd.symm
    · rw [upd_ne z, e]
      exact lay_congr (upd_ne z) pr
  · have := (h1 q hq).1
    rw [upd_ne (nd q hq)] at this; exact this
theorem HungAt.unlock {H H' : Hp} {d h : Addr} {u v : HO} {n : Nat} {f : Int → List Int} (hh : H h = none) (hd : H d = some u) (g : HungAt (upd H d v) n H' h f) : HungAt H n (upd H' d u) h f := by
  obtain ⟨kvs, h1, hn, h2, h3⟩ := g
  have nhd : h ≠ d := fun z => by rw [z, hd] at hh; cases hh
  refine ⟨kvs, by rw [upd_ne nhd]; exact h1, hn, fun a => ?_, h3⟩
  rcases h2 a with q | ⟨l, q1, q2, q3⟩
  · exact .inl q
  · have nl : l ≠ d := fun z => by rw [z, upd_same] at q3; cases q3
    exact .inr ⟨l, q1, by rw [upd_ne nl]; exact q2, by rw [upd_ne nl] at q3; exact q3⟩
theorem HungAt.get2 {G H H' : Hp} {n : Nat} {h z : Addr} {f : Int → List Int} (g : HungAt G n H h f) (a : Int) (s : Same H H') (hz : H' z = some (.lst [])) :
    ∃ o, DGet H' h (.int a) o ∧ ∃ l, o.getD (.ref z) = .ref l ∧ H' l = some (.lst ((f a).map V.int)) ∧ (l = z ∨ ∃ u, H l = some u) := by
  obtain ⟨kvs, h1, _, h2, h3⟩ := g
  have d := DGet.k (k := (.inl a : Key)) (s _ _ h1)
  rcases h2 a with ⟨q1, q2⟩ | ⟨l, q1, q2, _⟩
  · rw [q1] at d
    exact ⟨_, d, z, rfl, by rw [q2]; exact hz, .inl rfl⟩
  · rw [q1] at d
    exact ⟨_, d, l, rfl, s _ _ q2, .inr ⟨_, q2⟩⟩
section
variable {P : Program} {w : World} {K : PySem.W.Frag} {mg : Str → Option Value} {base : Heap}
/-- the pins of the ids, as they stand -/
structure PinSet (ids : List Int) (ps : List (Int × Int)) (r : Int → Nat) (N : Nat) : Prop where
  F : Forest ids (anOf ps) r N
  keys : (ps.map Prod.fst).Nodup
  mem : ∀ e ∈ ps, e.1 ∈ ids
  len : ids.length ≤ 100
theorem PinSet.few {ids : List Int} {ps : List (Int × Int)} {r : Int → Nat} {N : Nat} (h : PinSet ids ps r N) : ps.length ≤ 100 := by
  have := sub_len h.keys h.F.nd fun x hx => by
    obtain ⟨e, he, rfl⟩ := List.mem_map.mp hx
    exact h.mem e he
  rw [List.length_map] at this
  have := h.len
  omega
def spHang (K : PySem.W.Frag) : Sp := fun vs H Q _ => ∃ (d : Addr) (ids : List Int) (ps : List (Int × Int)) (r : Int → Nat) (N : Nat) (x : Int), vs = [.ref d, .int x] ∧ H d = some (.dK (pinK ps)) ∧ PinSet ids ps r N ∧
  ∀ (q : Addr) (H' : Hp) (js : List Int), Ly H H' → H' q = some (.lst (js.map V.int)) → js.Perm (downs ids (anOf ps) r N x) → Q (.ref q) H'
abbrev NH : List Str := ["pins", "row_id", "hung", "pinned", "anchor", "waiting", "found", "nearest"]
theorem scHang : FnScope NH ["pins", "row_id"] (defScope sHanging) := ⟨rfl, rfl, rfl, by decide +kernel, rfl, by decide +kernel, by decide +kernel⟩
theorem ok_hang {f : Addr} {fd : FuncData} (F : Fun K "hanging" "hanging" sHanging f fd) (nlen : mg "len" = none) : FnOk P w K mg base CX0 1 f fd ["pins", "row_id"] (spHang K) := by
  refine F.ok scHang (fun vs H Q E h => ?_) (fun cdv A outer s H vs Q E hr h => ?_)
  · obtain ⟨d, ids, ps, r, N, x, rfl, _⟩ := h
    rfl
  · obtain ⟨d, ids, ps, r, N, x, rfl, hd, hp, k⟩ := h
    have hu := hu_of hr
    refine ⟨_, pss_cons (ps_set (i := 2) scHang.nd rfl (Or.inl rfl) pe_dnewK)
      (pss_cons (ps_lock (ps_for PassesOwn.never rfl (pi_itemsE (pv 0)) (pg_tupE rfl (pgs_cons (pg_name (i := 3) scHang.nd rfl (Or.inl rfl)) (pgs_cons (pg_name (i := 4) scHang.nd rfl (Or.inl rfl)) pgs_nil)))
        (pss_one (ps_expr (pe_bm PySem.F.plainAttrs_list PySem.F.slot_list_append PySem.F.type_list_append mt_append (pe_dsetd (pv 2) (pv 4) (pe_lst pa_nil) ⟨rfl, rfl, rfl, rfl⟩) (pa_cons (pv 3) pa_nil))))))
      (pss_cons (ps_set (i := 5) scHang.nd rfl (Or.inl rfl) (pe_lst (pa_cons (pv 1) pa_nil)))
      (pss_cons (ps_set (i := 6) scHang.nd rfl (Or.inl rfl) (pe_lst pa_nil))
      (pss_cons (ps_while PassesOwn.never (pt_cmpR op_gt (pe_callB call_len_seq (by rfl) nlen PySem.boot_len (pa_cons (pv 5) pa_nil)) pe_int (nomark _))
        (pss_cons (ps_set (i := 7) scHang.nd rfl (Or.inl rfl) (pe_dget2 hu (pv 2) (pe_bm0 PySem.F.plainAttrs_list PySem.F.slot_list_pop PySem.F.type_list_pop mt_pop (pv 5)) (pe_lst pa_nil) ⟨rfl, rfl, rfl, rfl⟩))
        (pss_cons (ps_expr (pe_bm PySem.F.plainAttrs_list PySem.F.slot_list_extend PySem.F.type_list_extend mt_extend (pv 6) (pa_cons (pv 7) pa_nil)))
        (pss_one (ps_expr (pe_bm PySem.F.plainAttrs_list PySem.F.slot_list_extend PySem.F.type_list_extend mt_extend (pv 5) (pa_cons (pv 7) pa_nil)))))))
      (pss_one (ps_ret (pv 6))))))), ?_⟩
    have h16 : sizeLine = 16777216 := sizeLine_eq
    have hpl := hp.few
    intro h hh
    have nhd : h ≠ d := fun z => by rw [z, hd] at hh; cases hh
    have hd1 : (upd H h (.dK [])) d = some (.dK (pinK ps)) := Same.new hh _ _ hd
    refine ⟨d, _, hd1, True.intro, fun od => ?_⟩
    have hHL : upd (upd H h (.dK [])) d (.frz od (.dK (pinK ps))) = upd (upd H d (.frz od (.dK (pinK ps)))) h (.dK []) := by
      funext b
      by_cases e1 : b = d
      · rw [e1, upd_same, upd_ne nhd.symm, upd_same]
      · rw [upd_ne e1]
        by_cases e2 : b = h
        · rw [e2, upd_same, upd_same]
        · rw [upd_ne e2, upd_ne e2, upd_ne e1]
    rw [hHL]
    have hhL : (upd H d (.frz od (.dK (pinK ps)))) h = none := by rw [upd_ne nhd]; exact hh
    have hdL : (upd H d (.frz od (.dK (pinK ps)))) d = some (.frz od (.dK (pinK ps))) := upd_same
    generalize hHLd : upd H d (.frz od (.dK (pinK ps))) = HL at hhL hdL ⊢
    refine ⟨_, rfl, d, od, pinK ps, rfl, (Same.new hhL) _ _ hdL, ?_⟩
    refine for_it (walk_itemsE (d := d) (o := od) (kvs := pinK ps)) (fun i σ H' => ∃ v3 v4 : Option V, σ = [some (.ref d), some (.int x), some (.ref h), v3, v4, none, none, none] ∧ Ly HL H' ∧ i ≤ ps.length ∧ HungAt HL i H' h (hangF (ps.take i)))
      ⟨none, none, rfl, (Ly.refl HL).new hhL True.intro, Nat.zero_le _, by rw [List.take_zero]; exact HungAt.nil upd_same⟩ (fun i σ H' _ ⟨_, _, _, L, _⟩ => L.same _ _ hdL) ?_ ?_
    · rintro i y σ H1 H2 hi ⟨v3, v4, rfl, L1, hil, hg⟩ ⟨T, ky, v, hkv, rfl, hT, rfl⟩
      rw [pin_len] at hi
      obtain ⟨e, he, hke, hve⟩ : ∃ e, ps[i]? = some e ∧ ky = .inl e.1 ∧ v = .int e.2 := by
        unfold pinK at hkv
        rw [List.getElem?_map, List.getElem?_eq_getElem hi] at hkv
        have q := Option.some.inj hkv
        exact ⟨ps[i], List.getElem?_eq_getElem hi, (congrArg Prod.fst q).symm, (congrArg Prod.snd q).symm⟩
      subst hke
      subst hve
      refine ⟨T, [.int e.1, .int e.2], H1, rfl, hT, rfl, rfl, _, _, rfl, _, _, rfl, rfl, ?_⟩
      refine ⟨_, rfl, h, rfl, hg.isD, _, rfl, Nat.zero_le _, fun z hz => ?_⟩
      have gz : HL z = none := L1.free hz
      obtain ⟨kvs, k1, k2, k3, k4⟩ := hg.push (a := e.2) (x := e.1) hz gz hhL L1.same
      have ep : pushF (hangF (ps.take i)) e.2 e.1 = hangF (ps.take (i + 1)) := by
        funext b
        rw [take_snoc he, hang_snoc]
        unfold pushF
        by_cases q : b = e.2
        · rw [if_pos q, if_pos q.symm, q]
        · rw [if_neg q, if_neg (fun z => q z.symm), List.append_nil]
      refine ⟨kvs, .inl e.2, k1, rfl, by rw [h16]; omega, fun v hv => ?_, fun hv => ?_⟩
      · obtain ⟨l, rfl, q1, q2, q3, q4⟩ := k3 v hv
        have hfl : (hangF (ps.take i) e.2).length ≤ 100 := by
          unfold hangF
          rw [List.length_map]
          have := List.length_filter_le (fun g : Int × Int => decide (g.2 = e.2)) (ps.take i)
          rw [List.length_take] at this
          omega
        refine ⟨.inl ⟨rfl, _, SqL.of q1⟩, _, rfl, l, _, _, rfl, rfl, q1, by rw [List.length_map, h16]; omega, ?_⟩
        refine ⟨_, _, rfl, (L1.new (o := .lst []) hz True.intro).put q4 True.intro, by omega, ?_⟩
        rw [← ep]; exact q2
      · obtain ⟨q1, q2, q3⟩ := k4 hv
        refine ⟨.inl ⟨rfl, _, SqL.of q1⟩, _, rfl, z, _, _, rfl, rfl, q1, by rw [h16]; decide, ?_⟩
        refine ⟨_, _, rfl, ((L1.new (o := .lst []) hz True.intro).put (o := .dK (putK kvs (.inl e.2 : Key) (.ref z))) hhL True.intro).put gz True.intro, by omega, ?_⟩
        rw [← ep]; exact q2
    · rintro σ H1 ⟨v3, v4, rfl, L1, _, hg⟩
      rw [pin_len, List.take_length] at hg
      refine ⟨L1.same _ _ hdL, ?_⟩
      subst hHLd
      have L2 := L1.unlock hd
      have hg2 := hg.unlock hh hd
      generalize upd H1 d (.dK (pinK ps)) = H2 at L2 hg2 ⊢
      have s2 : ∀ {b : Addr}, H2 b = none → H b = none := fun e => L2.free e
      refine ⟨_, rfl, by rw [h16]; show 1 ≤ 16777216; decide, fun wq hwq => ?_⟩
      have L3 := L2.new hwq (o := .lst [.int x]) True.intro
      have S3 : Same H2 (upd H2 wq (.lst [.int x])) := Same.new hwq
      have hwq0 := L2.free hwq
      have hW3 : (upd H2 wq (.lst [.int x])) wq = some (.lst ([x].map V.int)) := upd_same
      generalize upd H2 wq (.lst [.int x]) = H3 at L3 S3 hW3 ⊢
      refine ⟨Nat.zero_le _, fun fo hfo => ?_⟩
      have hfo0 := L3.free hfo
      have hfo2 : H2 fo = none := Same.free S3 hfo
      have nwf : wq ≠ fo := ne_of_none hW3 hfo
      refine ⟨fun m σ H' => ∃ (W Fd : List Int) (v7 : Option V), σ = [some (.ref d), some (.int x), some (.ref h), v3, v4, some (.ref wq), some (.ref fo), v7] ∧ m = (W.flatMap fun w => w :: downs ids (anOf ps) r N w).length ∧ Ly H H' ∧ Same H2 H' ∧
          H' wq = some (.lst (W.map V.int)) ∧ H' fo = some (.lst (Fd.map V.int)) ∧ (Fd ++ W.flatMap (downs ids (anOf ps) r N)).Perm (downs ids (anOf ps) r N x) ∧ W.length ≤ 1 + Fd.length,
        ⟨_, [x], [], none, rfl, rfl, L3.new hfo True.intro, S3.trans (Same.new hfo), Same.new hfo _ _ hW3, upd_same, by rw [List.nil_append, List.flatMap_cons, List.flatMap_nil, List.append_nil], by show 1 ≤ 1 + 0; omega⟩, ?_⟩
      rintro m σ H4 ⟨W, Fd, v7, rfl, rfl, L4, S4, hW4, hF4, hperm, hWl⟩
      have hg4 := hg2.same S4
      have hFl : Fd.length ≤ 100 := by
        have := hperm.length_eq
        rw [List.length_append] at this
        have := downs_len hp.F x
        have := hp.len
        omega
      refine ⟨_, rfl, wq, _, rfl, .inl (SqL.of hW4), _, _, rfl, rfl, _, rfl, ?_⟩
      rcases List.eq_nil_or_concat W with rfl | ⟨W0, y, rfl⟩
      · refine iteF ?_
        refine ⟨_, rfl, k fo H4 Fd L4 hF4 ?_⟩
        rw [List.flatMap_nil, List.append_nil] at hperm
        exact hperm
      · refine ite2 (fun _ => ?_) (fun c => absurd (decide_eq_true (by rw [List.length_map, List.concat_eq_append, List.length_append]; show (0 : Int) < ((W0.length + 1 : Nat) : Int); omega)) c)
        rw [List.concat_eq_append] at *
        have hl0 : (W0 ++ [y]).length = W0.length + 1 := by rw [List.length_append]; rfl
        refine ⟨fun σ' H' => ∃ m', m' < ((W0 ++ [y]).flatMap fun w => w :: downs ids (anOf ps) r N w).length ∧ ∃ (W Fd : List Int) (v7 : Option V), σ' = [some (.ref d), some (.int x), some (.ref h), v3, v4, some (.ref wq), some (.ref fo), v7] ∧ m' = (W.flatMap fun w => w :: downs ids (anOf ps) r N w).length ∧ Ly H H' ∧ Same H2 H' ∧
            H' wq = some (.lst (W.map V.int)) ∧ H' fo = some (.lst (Fd.map V.int)) ∧ (Fd ++ W.flatMap (downs ids (anOf ps) r N)).Perm (downs ids (anOf ps) r N x) ∧ W.length ≤ 1 + Fd.length, fun _ _ z => z, ?_⟩
        refine ⟨_, rfl, h, rfl, hg4.isD, _, rfl, .inl ⟨rfl, _, SqL.of hW4⟩, wq, _, .int y, rfl, rfl, hW4, by rw [List.length_map, List.map_append, hl0]; simp, ?_⟩
        have ed : ((W0 ++ [y]).map V.int).dropLast = W0.map V.int := by rw [List.map_append]; simp
        rw [ed]
        have L5 : Ly H (upd H4 wq (.lst (W0.map V.int))) := L4.put hwq0 True.intro
        have S5 : Same H2 (upd H4 wq (.lst (W0.map V.int))) := fun b o e => by rw [upd_ne (ne_of_none e hwq)]; exact S4 _ _ e
        have hW5 : (upd H4 wq (.lst (W0.map V.int))) wq = some (.lst (W0.map V.int)) := upd_same
        have hF5 : (upd H4 wq (.lst (W0.map V.int))) fo = some (.lst (Fd.map V.int)) := by rw [upd_ne nwf.symm]; exact hF4
        generalize upd H4 wq (.lst (W0.map V.int)) = H5 at L5 S5 hW5 hF5 ⊢
        refine ⟨Nat.zero_le _, fun z hz => ?_⟩
        have L6 := L5.new hz (o := .lst []) True.intro
        have S6 := S5.trans (Same.new (o := .lst []) hz)
        have hW6 := Same.new (o := .lst []) hz _ _ hW5
        have hF6 := Same.new (o := .lst []) hz _ _ hF5
        obtain ⟨o2, d2, l2, e3, g2, hor⟩ := hg2.get2 y S6 upd_same
        have nlf : l2 ≠ fo ∧ l2 ≠ wq := by
          rcases hor with q | ⟨u, q⟩
          · rw [q]; exact ⟨(ne_of_none hF5 hz).symm, (ne_of_none hW5 hz).symm⟩
          · exact ⟨ne_of_none q hfo2, ne_of_none q hwq⟩
        generalize upd H5 z (.lst []) = H6 at L6 S6 hW6 hF6 d2 g2 ⊢
        refine ⟨o2, d2, ?_⟩
        rw [e3]
        have hkp := hang_kids hp.F.nd hp.keys hp.mem y
        have hkl : (hangF ps y).length ≤ 100 := by
          rw [hkp.length_eq]
          exact Nat.le_trans (len_kids _ _ _) hp.len
        refine ⟨_, rfl, .inl ⟨rfl, _, SqL.of hF6⟩, _, rfl, fo, l2, _, _, rfl, rfl, hF6, g2, by rw [List.length_map, List.length_map, h16]; omega, ?_⟩
        have hpn : (Fd ++ (W0 ++ [y]).flatMap (downs ids (anOf ps) r N)).Perm ((Fd ++ hangF ps y) ++ (W0 ++ hangF ps y).flatMap (downs ids (anOf ps) r N)) := by
          rw [List.flatMap_append, List.flatMap_append, List.flatMap_cons, List.flatMap_nil, List.append_nil, List.append_assoc]
          refine List.Perm.append_left _ ?_
          have e1 := downs_split hp.F y
          have e2 : (downs ids (anOf ps) r N y).Perm (hangF ps y ++ (hangF ps y).flatMap (downs ids (anOf ps) r N)) := e1.trans (hkp.symm.append (List.Perm.flatMap_right _ hkp.symm))
          refine (e2.append_left _).trans ?_
          rw [← List.append_assoc, ← List.append_assoc]
          exact List.perm_append_comm.append_right _
        have L7 : Ly H (upd H6 fo (.lst (Fd.map V.int ++ (hangF ps y).map V.int))) := L6.put hfo0 True.intro
        have S7 : Same H2 (upd H6 fo (.lst (Fd.map V.int ++ (hangF ps y).map V.int))) := fun b o e => by rw [upd_ne (ne_of_none e hfo2)]; exact S6 _ _ e
        have hW7 : (upd H6 fo (.lst (Fd.map V.int ++ (hangF ps y).map V.int))) wq = some (.lst (W0.map V.int)) := by rw [upd_ne nwf]; exact hW6
        have hF7 : (upd H6 fo (.lst (Fd.map V.int ++ (hangF ps y).map V.int))) fo = some (.lst ((Fd ++ hangF ps y).map V.int)) := by rw [upd_same, List.map_append]
        have g7 : (upd H6 fo (.lst (Fd.map V.int ++ (hangF ps y).map V.int))) l2 = some (.lst ((hangF ps y).map V.int)) := by rw [upd_ne nlf.1]; exact g2
        generalize upd H6 fo (.lst (Fd.map V.int ++ (hangF ps y).map V.int)) = H7 at L7 S7 hW7 hF7 g7 ⊢
        rw [hl0] at hWl
        refine ⟨_, rfl, .inl ⟨rfl, _, SqL.of hW7⟩, _, rfl, wq, l2, _, _, rfl, rfl, hW7, g7, by rw [List.length_map, List.length_map, h16]; omega, ?_⟩
        refine ⟨((W0 ++ hangF ps y).flatMap fun w => w :: downs ids (anOf ps) r N w).length, ?_, W0 ++ hangF ps y, Fd ++ hangF ps y, some (.ref l2), rfl, rfl, L7.put hwq0 True.intro, fun b o e => by rw [upd_ne (ne_of_none e hwq)]; exact S7 _ _ e, by rw [upd_same, List.map_append], by rw [upd_ne nwf.symm]; exact hF7, hpn.symm.trans hperm, by rw [List.length_append, List.length_append]; omega⟩
        have e1 := (downs_split hp.F y).length_eq
        have e2 := ((flat_split (downs ids (anOf ps) r N) (hangF ps y)).trans (hkp.append (List.Perm.flatMap_right _ hkp))).length_eq
        rw [List.flatMap_append, List.flatMap_append, List.flatMap_cons, List.flatMap_nil, List.append_nil, List.length_append, List.length_append, List.length_cons, e2, e1]
        omega
end
open GenW
/-! ### a generator that may be woken wherever there is room -/
/-- a generator that has been made -/
def GMdA (P : Program) (w : World) (K : PySem.W.Frag) (mg : Str → Option Value) (base : Heap) (kk : Nat) (outer : List Env) (n : Nat) (G : Nat → Hp → Prop) (Yd : Nat → V → List (Addr × HO) → Prop) (u : Value) (s s' : Shared) : Prop :=
  ∃ L ga g gs, u = .ref ga ∧ s.heap.objs.size ≤ L ∧ L < ga ∧ s'.os = s.os ∧ AllBare s'.gens ∧ (∀ b o, s.heap.get? b = some o → s'.heap.get? b = some o) ∧ s'.gens[g]? = some gs ∧ s'.heap.IsGen ga g ∧ (∀ b ∈ [L, ga], ∃ o, s'.heap.get? b = some o ∧ ∀ v, o.data ≠ .cell v) ∧
    ∀ (X : Cx) (pins : List (Addr × Obj)), X.prog = P → X.w = w → X.K = K → X.mg = mg → X.base = base → Room kk X.A → X.stack = outer → Mine X pins L → Mine X pins ga →
      ∀ h0 : Heap, (∀ b ∈ [L, ga], ∀ o, s'.heap.get? b = some o → h0.get? b = some o) → Rdy (model P w) X.A.in1 X pins ga g n G Yd n gs [L, ga] h0
structure GenFnA (P : Program) (w : World) (K : PySem.W.Frag) (mg : Str → Option Value) (base : Heap) (k : Nat) (f : Addr) (fd : FuncData) (ps : List Str) (sp : SpY) : Prop where
  len : ∀ vs n G Yd, sp vs n G Yd → vs.length = ps.length
  go : ∀ {A : Around} {outer : List Env} {s : Shared} {H : Hp} {args : Args} {us : List Value} {vs : List V} {n : Nat} {G : Nat → Hp → Prop} {Yd : Nat → V → List (Addr × HO) → Prop}, Room k A → Env0 P w K mg base A outer s H → BindsTo s fd args (ps.zip us) → Vals vs us → sp vs n G Yd →
    codeAny (model P w) A (.call (.ref f) args) (fun r s' => ∃ u, r = .ok (.ret u) ∧ GMdA P w K mg base k outer n G Yd u s s') s
section
variable {P : Program} {w : World} {K : PySem.W.Frag} {mg : Str → Option Value} {base : Heap}
/-- by its body -/
theorem GenFnA.mk' {x qual : Str} {st : Stmt} {f : Addr} {fd : FuncData} {N ps : List Str} {k : Nat} {sp : SpY} (F : Fun K x qual st f fd) (S : GScope N ps (defScope st)) (nc : ∀ y ∈ (defScope st).names, y.2 ≠ .cell ∧ y.2 ≠ .free)
    (hb : defBody st = initO (defBody st) ++ [.For (tgOf (lastS st)) (iterOf (lastS st)) (.Expr (.Yield (some (yldOf (bodOf (lastS st)))) (ypOf (bodOf (lastS st)))) (yposOf (bodOf (lastS st))) :: (bodOf (lastS st)).tail) [] (fpOf (lastS st))]) (hs : ∀ (env : Env) (x : Value), foldedSetIterable (iterOf (lastS st)) env x = pure x) (len : ∀ vs n G Yd, sp vs n G Yd → vs.length = ps.length)
    (body : ∀ (cdv : Value) (vs : List V) (n : Nat) (G : Nat → Hp → Prop) (Yd : Nat → V → List (Addr × HO) → Prop), sp vs n G Yd → (∀ i H H', Same H H' → G i H → G i H') ∧ ∃ tpre wi gt te tp, GDer P w K mg base N qual (defScope st) f cdv k (initO (defBody st)) (tgOf (lastS st)) (iterOf (lastS st)) (yldOf (bodOf (lastS st))) (bodOf (lastS st)).tail tpre wi gt te tp ∧
      ∀ H, G 0 H → tpre { nx := fun σ1 H1 => wi σ1 H1 fun J H2 => ∃ pr Lp Mid, H2 = lay pr H ∧ (∀ q ∈ pr, H q.1 = none ∧ OwnO q.2) ∧ Lp 0 σ1 ∧ GTurn n G Yd gt te tp J pr Lp Mid, rt := fun _ _ => False } (start N vs) H) : GenFnA P w K mg base (k + 1) f fd ps sp := by
  obtain ⟨oc, od, kV, doc, pm, an, cdv, ct, osl, rfl, lk, hcd⟩ := F.ex
  refine ⟨len, ?_⟩
  intro A outer s H args us vs n G Yd hr e0 hbd r hsp
  obtain ⟨hG, tpre, wi, gt, te, tp, D, first⟩ := body cdv vs n G Yd hsp
  have hl := len _ _ _ _ hsp
  have KX : K.In s.heap := e0.mod.kin.keeps fun b o e => (e0.bs b o e).1
  have lim : s.heap.NoLimit := e0.mod.nolimit.keeps fun b o e => (e0.bs b o e).1
  have kinds : ∀ q ∈ ps.zip us, (defScope st).names.lookup q.1 = some .local ∨ ((defScope st).names.lookup q.1 = some .cell ∧ ((cellsFrom (s.heap.objs.size + 1) (defScope st).names []).lookup q.1).isSome = true) := by
    rintro ⟨a, v⟩ hq
    exact (S.par a (List.of_mem_zip hq).1).elim .inl fun c => .inr ⟨c, PySem.W.cellsFrom_some _ _ _ (.inl c)⟩
  refine codeAny_call_generator hr.depth (KX _ _ lk) rfl S.co S.gen rfl (PySem.W.codeRec_of KX hcd) (hbd _ _ _ _ ?_)
  refine wpAny_newFunctionEnv_cells S.kind kinds fun env he s1 ic => ?_
  subst he
  refine ⟨lim.keeps ic.toInCall.keep, _, rfl, ?_⟩
  obtain ⟨h1, tk, es1, hk1⟩ := ic.done
  have os1 : s1.os = s.os := by rw [es1]
  have gen1 : s1.gens = s.gens := by rw [es1]
  have lt1 : s.heap.objs.size < s1.heap.objs.size := ic.toInCall.ns.lt
  have kp1 : ∀ b o, s.heap.get? b = some o → s1.heap.get? b = some o := ic.toInCall.keep
  have I1 : L2.Inv (gcxOf P w K mg base N qual (defScope st) f cdv A outer s H (fun _ _ _ => False) []) [] (start N vs) H s1 := inv_startG S hr.hd e0 hl r ic
  have loc1 : SlotsAt (envOfC qual (defScope st) s.heap.objs.size f cdv) N (start N vs) s1.heap := I1.loc
  have main : ∀ (go : Obj) (nm qn : Value) (tk2 : Nat), go.cls = .type "generator" → go.data = .fields #[.int s1.gens.size 0, nm, qn] → go.slots = #[] → (∀ h : Heap, (h.push go).get? h.objs.size = some go) →
      GMdA P w K mg base (k + 1) outer n G Yd (.ref s1.heap.objs.size) s { s1 with gens := s1.gens.push (.fresh (.func (defBody st) (envOfC qual (defScope st) s.heap.objs.size f cdv))), toks := tk2, heap := s1.heap.push go } := by
    intro go nm qn tk2 hgc hgd hgs hgp
    have hpushed : (s1.heap.push go).get? s1.heap.objs.size = some go := hgp _
    have isg : (s1.heap.push go).IsGen s1.heap.objs.size s1.gens.size := ⟨go, nm, qn, hpushed, hgc, hgd, hgs⟩
    obtain ⟨m0, ⟨oL, es, ep, hoL, dL, rL⟩, _⟩ := id loc1
    have hoL : s1.heap.get? s.heap.objs.size = some oL := hoL
    refine ⟨s.heap.objs.size, s1.heap.objs.size, s1.gens.size, _, rfl, Nat.le_refl _, lt1, os1, AllBare.push (by rw [gen1]; exact e0.bare) rfl, fun b o e => Heap.get?_push_of_some _ (kp1 b o e), Array.getElem?_push_size .., isg, fun b hb => ?_, ?_⟩
    · rcases List.mem_cons.mp hb with e | hb
      · rw [e]
        exact ⟨oL, Heap.get?_push_of_some _ hoL, fun v z => by rw [dL] at z; cases z⟩
      · rw [List.mem_singleton.mp hb]
        exact ⟨go, hpushed, fun v z => by rw [hgd] at z; cases z⟩
    · intro X pins hP hw hK hm hB hA hS mL mG h0 hk
      subst hP; subst hw; subst hK; subst hm; subst hB; subst hS
      have kL := hk s.heap.objs.size List.mem_cons_self oL (Heap.get?_push_of_some _ hoL)
      have kG := hk s1.heap.objs.size (List.mem_cons_of_mem _ (List.mem_singleton.mpr rfl)) go hpushed
      have Fx : GFix X (defScope st) s.heap.objs.size s1.heap.objs.size s1.gens.size go := ⟨hA.hd, lt1, e0.bsz, fun b hb => by
        obtain ⟨_, o, ho, _⟩ := e0.funs.mem hb
        exact Heap.lt_size ho, S.kind, nc, S.co, hgc, ⟨nm, qn, hgd⟩, hgs⟩
      refine rdy_fresh (go := go) Fx ?_ D hG ?_ (fun x => hs _ x) hb first (SlotsAt.stay nc loc1 fun o e => ?_) I1.len kG mL mG
      · exact ⟨hA.hd, by have := hA.dp; show X.A.depth + 1 + 3 * k + 5 < _; omega, by have := hA.un; show X.A.units + 1 + 3 + 16 * k + 200 < _; omega⟩
      · exact I1.quiet
      · have e : s1.heap.get? s.heap.objs.size = some o := e
        exact hk s.heap.objs.size List.mem_cons_self o (Heap.get?_push_of_some _ e)
  exact main _ _ _ _ rfl rfl rfl fun h => Heap.get?_push_size _ rfl
end
/-- an expression whose value is a generator that has been made -/
structure PGnA (X : Cx) (kk : Nat) (e : Expr) (t : TGm) : Prop where
  run : ∀ (pins : List (Addr × Obj)) (s : Shared) (σ : L2.St) (H : Hp) (R : Nat → (Nat → Hp → Prop) → (Nat → V → List (Addr × HO) → Prop) → Hp → Prop), L2.Inv X pins σ H s → t σ H R →
    wpAny (model X.prog X.w) X.A (eval e X.env) (fun u s' => ∃ n G Yd H1 s1, L2.Inv X pins σ H1 s1 ∧ GMdA X.prog X.w X.K X.mg X.base kk X.stack n G Yd u s1 s' ∧ R n G Yd H1) X.xe s
section
variable {X : Cx} {k : Nat} {f : Addr} {fd : FuncData} {ps : List Str} {sp : SpY} {x : Str} {p pos : Pos} {e : Expr} {es : List Expr} {t : TA}
/-- f(e, ..) -/
theorem pgn_callA (F : GenFnA X.prog X.w X.K X.mg X.base k f fd ps sp) (hr : Room k X.A) (hx : Gl X x) (hm : X.mg x = some (.ref f)) (hk : PySem.W.keepIn X.K (.ref f) = true) (hb : L2.Binds X.K fd ps [])
    (ha : PA X (e :: es) t) (hdb : (x == ("__debug__" : Str)) = false := by decide) (he : starEach (e :: es) X.env = (false, eval e X.env) :: starEach es X.env := by rfl) (hpl : (backTo pos (starEach es X.env)).any (·.1) = false := by rfl) :
    PGnA X k (.Call (.Name x p) (e :: es) [] pos) (tGm sp t) := by
  constructor
  intro pins s σ H R I h
  have run : ∀ {us : List Value} {vs : List V} {H1 : Hp} {s1 : Shared}, L2.Inv X pins σ H1 s1 → Vals vs us → (∃ n G Yd, sp vs n G Yd ∧ R n G Yd H1) →
      wpAny (model X.prog X.w) X.A (call (.ref f) us) (fun u s' => ∃ n G Yd H1 s1, L2.Inv X pins σ H1 s1 ∧ GMdA X.prog X.w X.K X.mg X.base k X.stack n G Yd u s1 s' ∧ R n G Yd H1) X.xe s1 := by
    intro us vs H1 s1 I1 r q
    obtain ⟨n, G, Yd, q1, q2⟩ := q
    have hl : us.length = ps.length := by rw [← r.length]; exact F.len _ _ _ _ q1
    have bt := hb s1 us I1.kIn (by rw [List.append_nil]; exact hl)
    rw [List.append_nil] at bt
    refine wpAny_call (codeAny_mono (F.go hr I1.env0 bt r q1) ?_)
    rintro r s2 ⟨u, rfl, z⟩
    exact ⟨n, G, Yd, H1, s1, I1, z, q2⟩
  refine wpAny_Call_Name_kw (ld_glob I hx hm ?_ hdb)
  exact PySem.W.callWith_K (h₀ := X.base) I.ok.mod.kin hk (thn (ha.run pos pins s σ H _ I h) fun us s1 ⟨vs, H1, I1, r, q⟩ => ⟨I1.kIn, run I1 r q⟩) he hpl
end
section
variable {X : Cx} {pins : List (Addr × Obj)} {σ : L2.St} {H : Hp} {s s' : Shared}
/-- the maker's state, once the generator is there -/
theorem GMdA.inv {kk n : Nat} {G : Nat → Hp → Prop} {Yd : Nat → V → List (Addr × HO) → Prop} {u : Value} (I : L2.Inv X pins σ H s) (m : GMdA X.prog X.w X.K X.mg X.base kk X.stack n G Yd u s s') :
    ∃ L ga g gs, u = .ref ga ∧ L < ga ∧ s'.gens[g]? = some gs ∧ s'.heap.IsGen ga g ∧ L2.Inv X pins σ H s' ∧ (∀ b ∈ [L, ga], FpOk X pins H b ∧ ∃ o, s'.heap.get? b = some o ∧ ∀ v, o.data ≠ .cell v) ∧
      ∀ (Y : Cx) (pins : List (Addr × Obj)), Y.prog = X.prog → Y.w = X.w → Y.K = X.K → Y.mg = X.mg → Y.base = X.base → Room kk Y.A → Y.stack = X.stack → Mine Y pins L → Mine Y pins ga →
        ∀ h0 : Heap, (∀ b ∈ [L, ga], ∀ o, s'.heap.get? b = some o → h0.get? b = some o) → Rdy (model X.prog X.w) Y.A.in1 Y pins ga g n G Yd n gs [L, ga] h0 := by
  obtain ⟨L, ga, g, gs, e, hL, hlt, hos, hba, hk, hg, hgen, hobj, hy⟩ := m
  have I2 : L2.Inv X pins σ H s' := I.call' (ch := []) hos (Un.kept hk) (I.hok.kept hk) hba fun b z => by cases z
  refine ⟨L, ga, g, gs, e, hlt, hg, hgen, I2, fun b hb => ⟨?_, hobj b hb⟩, hy⟩
  have hb' : s.heap.objs.size ≤ b := by
    rcases List.mem_cons.mp hb with z | hb
    · rw [z]; exact hL
    · rw [List.mem_singleton.mp hb]; exact Nat.le_trans hL (Nat.le_of_lt hlt)
  exact I.fpOk hb' (I.hok.fresh hb')
end
open GenW
/-! ### list(own_generator(..)) -/
theorem _root_.L2.Inv.withA {X : Cx} {pins : List (Addr × Obj)} {σ : L2.St} {H : Hp} {s : Shared} {A' : Around} (I : L2.Inv X pins σ H s) (hh : X.calm = true → A'.handled = none) (hf : A'.frames = some X.stack) : L2.Inv { X with A := A' } pins σ H s :=
  ⟨{ I.ok with hd := hh, frames := hf }, I.os, I.bare, I.base, I.loc, I.cell, I.free, I.freeC, I.pin, I.hok, I.len⟩
theorem _root_.L2.Inv.unA {X : Cx} {pins : List (Addr × Obj)} {σ : L2.St} {H : Hp} {s : Shared} {A' : Around} (ok : X.Ok) (I : L2.Inv { X with A := A' } pins σ H s) : L2.Inv X pins σ H s :=
  ⟨ok, I.os, I.bare, I.base, I.loc, I.cell, I.free, I.freeC, I.pin, I.hok, I.len⟩
def tListA (t : TGm) : TE := fun σ H Q => t σ H fun n G Yd H1 => n < sizeLine ∧ ∀ D, H1 D = none → ∃ Pv : Nat → List V → Hp → Prop, Pv 0 [] (upd H1 D (.lst [])) ∧ (∀ i vs H, i ≤ n → Pv i vs H → G i H ∧ H D = some (.lst vs) ∧ vs.length = i) ∧
  (∀ i vs H y Nw, i < n → Pv i vs H → Yd i y Nw → (∀ q ∈ Nw, H q.1 = none) → Pv (i + 1) (vs ++ [y]) (upd (lay Nw H) D (.lst (vs ++ [y])))) ∧ ∀ vs H, Pv n vs H → Q (.ref D) H
theorem vals_snoc : ∀ {xs : List V} {us : List Value} {y : V} {v : Value}, Vals xs us → RelV y v → Vals (xs ++ [y]) (us ++ [v])
  | _, _, _, _, .nil, r => .cons r .nil
  | _, _, _, _, .cons a t, r => .cons a (vals_snoc t r)
section
variable {X : Cx}
theorem pe_listA {e : Expr} {t : TGm} {kk : Nat} {p pos : Pos} (h : PGnA X kk e t) (hr : Room (kk + 3) X.A) (hg : Gl X "list") (hm : X.mg "list" = none) (he : starEach [e] X.env = [(false, eval e X.env)] := by rfl) : PE X (.Call (.Name "list" p) [e] [] pos) (tListA t) := by
  refine ⟨fun pins s σ H Q I hq => ?_⟩
  refine wpAny_Call_Name_kw (ld_blt I hg hm boot_list ?_)
  refine PyProof.Rows.callWith_type1 ?_ he rfl
  rw [he]
  show wpAny _ _ (spliced [(false, eval e X.env)]) _ _ s
  refine Calls.spliced_cons (thn (h.run pins s σ H _ I hq) fun u s1 ⟨n, G, Yd, H1, s0, I0, gm, hn, hR⟩ => ?_)
  refine Calls.spliced_nil ?_
  obtain ⟨L, ga, gn, gs, rfl, hlt, hgs, hgen, I1, hfp, hy⟩ := GMdA.inv I0 gm
  have gaL : ga < s1.heap.objs.size := by
    obtain ⟨o, nm, qn, e, _⟩ := hgen
    exact Heap.lt_size e
  have hSa : s1.heap.objs.size ≠ ga := Nat.ne_of_gt gaL
  have hDn : H1 s1.heap.objs.size = none := I1.hok.fresh (Nat.le_refl _)
  obtain ⟨Pv, p0, hG, turn, done⟩ := hR _ hDn
  refine callType_codes (Q₁ := fun obj s₁ => obj = .ref s1.heap.objs.size ∧ s₁ = { s1 with heap := s1.heap.push { cls := .type "list", data := .seq #[] } }) F.called_list (F.typeCall_list_1 _) F.entry_list_init
    (code_list_new _ ⟨rfl, rfl⟩) fun obj s₁ h₁ => ?_
  obtain ⟨rfl, rfl⟩ := h₁
  have hS : (s1.heap.push { cls := .type "list", data := .seq #[] }).get? s1.heap.objs.size = some { cls := .type "list", data := .seq #[] } := Heap.get?_push_size _ rfl
  refine ⟨⟨_, hS, rfl⟩, F.args_list_init_2 _ _, ?_⟩
  show wpAny _ X.A.in1.in1 (do let old ← Builtin.List.listItems (.ref s1.heap.objs.size); Builtin.List.listUpdate (.ref s1.heap.objs.size) (fun _ => #[]); letGo old.toList.reverse; Builtin.List.listExtendWith (.ref s1.heap.objs.size) (.ref ga) .none) _ _ _
  refine wpAny_bind ?_
  unfold Builtin.List.listItems
  refine wpAny_bind (wpAny_seqItems hS rfl (wpAny_pure ?_))
  show wpAny _ X.A.in1.in1 (updateSeq s1.heap.objs.size (fun _ => #[]) >>= fun _ => letGo (#[] : Array Value).toList.reverse >>= fun _ => Builtin.List.listExtendWith (.ref s1.heap.objs.size) (.ref ga) .none) _ _ _
  refine wpAny_bind (wpAny_updateSeq hS rfl ?_)
  have hS2 := Heap.get?_update_self (Obj.mapSeq (fun _ => (#[] : Array Value))) hS rfl
  refine wpAny_bind (wpAny_letGo ?_)
  unfold Builtin.List.listExtendWith
  have up : ∀ (h : Heap) (f : Obj → Obj), (∀ b o, s1.heap.get? b = some o → h.get? b = some o) → ∀ b o, s1.heap.get? b = some o → (h.update s1.heap.objs.size f).get? b = some o := fun h f q b o e =>
    (Heap.get?_update_other _ _ (Ne.symm (Nat.ne_of_lt (Heap.lt_size e)))).trans (q b o e)
  have k1 : ∀ b o, s1.heap.get? b = some o → (s1.heap.push { cls := .type "list", data := .seq #[] }).get? b = some o := fun b o e => Heap.get?_push_of_some _ e
  have k2 := up _ (Obj.mapSeq (fun _ => (#[] : Array Value))) k1
  have gty : ∀ {h : Heap}, (∀ b o, s1.heap.get? b = some o → h.get? b = some o) → h.IsGen ga gn := fun {h} q => hgen.keeps q
  refine wpAny_bind (wpAny_typeOf (Heap.IsGen.typeIs (s := { s1 with heap := _ }) (gty k2)) ?_)
  have h1 : Builtin.List.listSameRef (.ref s1.heap.objs.size) (.ref ga) = false := by simp [Builtin.List.listSameRef, hSa]
  have h2 : (Value.type "generator" == Value.type "list") = false := by decide
  have h3 : (Value.type "generator" == Value.type "tuple") = false := by decide
  simp only [h1, h2, h3, Bool.or_false, Bool.false_eq_true, if_false]
  refine wpAny_bind (wpAny_pyIter_gen (s := { s1 with heap := _ }) (gty k2) ?_)
  refine wpAny_bind (wpAny_holding ?_)
  unfold Builtin.List.listLengthHint
  refine wpAny_bind (wpAny_specialOf (Heap.IsGen.typeIs (s := { s1 with heap := _ }) (gty k2)) F.gen_no_len ?_)
  show wpAny _ X.A.in1.in1 (specialOf (Value.ref ga) (Str.ofString "__length_hint__") >>= _) _ _ _
  refine wpAny_bind (wpAny_specialOf (Heap.IsGen.typeIs (s := { s1 with heap := _ }) (gty k2)) F.gen_no_hint ?_)
  refine wpAny_pure ?_
  show wpAny _ X.A.in1.in1 (rule "list.extend.makes-room" >>= fun _ => Builtin.List.listTouch (.ref s1.heap.objs.size) >>= fun _ =>
    again (.builtin "list.extend.loop" ⟨[.ref s1.heap.objs.size, .ref ga, .none], []⟩)) _ _ _
  refine wpAny_bind (wpAny_rule ?_)
  refine wpAny_bind ?_
  show wpAny _ X.A.in1.in1 (updateSeq s1.heap.objs.size (·.push .none) >>= fun _ => updateSeq s1.heap.objs.size (·.pop)) _ _ _
  refine wpAny_bind (wpAny_updateSeq hS2 rfl ?_)
  have hS3 := Heap.get?_update_self (Obj.mapSeq (·.push Value.none)) hS2 rfl
  refine wpAny_updateSeq (hz := by seq_fits) hS3 rfl ?_
  have hS4 := Heap.get?_update_self (Obj.mapSeq (·.pop)) hS3 rfl
  have k4 := up _ (Obj.mapSeq (·.pop)) (up _ (Obj.mapSeq (·.push Value.none)) k2)
  refine wpAny_pure ⟨plainId_quiet F.plain_extend_loop _, ?_⟩
  generalize hh4 : ((((s1.heap.push { cls := .type "list", data := .seq #[] }).update s1.heap.objs.size (Obj.mapSeq (fun _ => (#[] : Array Value)))).update s1.heap.objs.size (Obj.mapSeq (·.push Value.none))).update s1.heap.objs.size (Obj.mapSeq (·.pop))) = h4 at hS4 k4 ⊢
  generalize hD : s1.heap.objs.size = D at *
  have Y0 : Room kk X.A.in1.in1 := ⟨hr.hd, by have := hr.dp; show X.A.depth + 3 * kk + 5 < _; omega, by have := hr.un; show X.A.units + 1 + 1 + 16 * kk + 200 < _; omega⟩
  have I4 : L2.Inv X pins σ (upd H1 D (.lst [])) { s1 with heap := h4 } := I1.laid (t' := s1.toks) k4 (Nat.le_of_eq hD) ⟨Nat.zero_le _, [], _, .nil, hS4⟩
  have I4' : L2.Inv { X with A := X.A.in1.in1 } pins σ (upd H1 D (.lst [])) { s1 with heap := h4 } := I4.withA (fun _ => hr.hd) I1.ok.frames
  have A0 : Ahead { X with A := X.A.in1.in1 } pins ga gn n G Yd n σ (upd H1 D (.lst [])) { s1 with heap := h4 } := by
    refine ⟨⟨gs, [L, ga], s1.heap, hgs, hy { X with A := X.A.in1.in1 } pins rfl rfl rfl rfl rfl Y0 rfl (hfp L List.mem_cons_self).1.2 (hfp ga (List.mem_cons_of_mem _ (List.mem_singleton.mpr rfl))).1.2 s1.heap (fun _ _ _ e => e), fun b hb => ⟨⟨?_, (hfp b hb).1.2⟩, fun o e => k4 b o e⟩⟩, I4', gty k4⟩
    obtain ⟨f1, o, e, _⟩ := hfp b hb
    rw [upd_ne (by rw [← hD]; exact Nat.ne_of_lt (Heap.lt_size e))]
    exact f1.1
  have loop : ∀ (m : Nat) (s : Shared) (vs : List V) (H : Hp), m ≤ n → Ahead { X with A := X.A.in1.in1 } pins ga gn n G Yd m σ H s → Pv (n - m) vs H →
      codeAny (model X.prog X.w) X.A.in1 (.builtin "list.extend.loop" ⟨[.ref D, .ref ga, .none], []⟩) (fun r s' => r = .ok (.ret .none) ∧ ∃ x H', L2.Inv X pins σ H' s' ∧ RelV x (.ref D) ∧ Q x H') s := by
    intro m
    induction m with
    | zero =>
      intro s vs H hm ha hp
      refine codeAny_builtin F.entry_extend_loop ?_
      rw [Around.under_plainId F.plain_extend_loop _]
      show wpAny _ X.A.in1.in1 (pyNext (.ref ga) >>= _) _ _ s
      refine wpAny_bind (ha.next (X := { X with A := X.A.in1.in1 }) (Y0.mono (Nat.zero_le _)) (hG _ vs H (Nat.sub_le ..) hp).1 hm (fun e s3 I3 => ?_) (fun m' e v y Nw fp gs' s3 ry hYd hNw I3 hfp3 mg hgen3 hgs3 hsl hrd => ?_))
      · exact wpAny_pure ⟨rfl, .ref D, H, I3.unA I1.ok, rfl, done vs H (by rw [Nat.sub_zero] at hp; exact hp)⟩
      · cases e
    | succ m ih =>
      intro s vs H hm ha hp
      refine codeAny_builtin F.entry_extend_loop ?_
      rw [Around.under_plainId F.plain_extend_loop _]
      show wpAny _ X.A.in1.in1 (pyNext (.ref ga) >>= _) _ _ s
      obtain ⟨hGi, hHD, hvl⟩ := hG (n - (m + 1)) vs H (Nat.sub_le ..) hp
      refine wpAny_bind (ha.next (X := { X with A := X.A.in1.in1 }) (Y0.mono (Nat.zero_le _)) hGi hm (fun e s3 I3 => ?_) (fun m' e v y Nw fp gs' s3 ry hYd hNw I3 hfp3 mg hgen3 hgs3 hsl hrd => ?_))
      · cases e
      · obtain rfl : m = m' := Nat.succ.inj e
        have hD3 : lay Nw H D = some (.lst vs) := by
          rw [lay_off fun q hq z => ?_]
          · exact hHD
          · have := hNw q hq
            rw [z, hHD] at this; cases this
        obtain ⟨_, its, c, rv, eS⟩ : ObjOk X.prog X.w (lay Nw H) s3.heap D (.lst vs) := I3.hok D _ hD3
        have hil : its.length = vs.length := (Paired.length rv).symm
        show wpAny _ X.A.in1.in1 (updateSeq D (·.push v) >>= _) _ _ _
        refine wpAny_bind ?_
        refine wpAny_updateSeq eS rfl (wpAny_pure ⟨plainId_quiet F.plain_extend_loop _, ?_⟩) (by rw [List.size_toArray, hil]; omega) (by show (its.toArray.push v).size ≤ sizeLine + 1; rw [Array.size_push, List.size_toArray, hil]; omega)
        have keep : ∀ b o, b ≠ D → s3.heap.get? b = some o → (s3.heap.update D (Obj.mapSeq (·.push v))).get? b = some o := fun b o hb e => (Heap.get?_update_other _ _ (Ne.symm hb)).trans e
        have eS2 := Heap.get?_update_self (Obj.mapSeq (·.push v)) eS rfl
        have I5 : L2.Inv { X with A := X.A.in1.in1 } pins σ (upd (lay Nw H) D (.lst (vs ++ [y]))) { s3 with heap := s3.heap.update D (Obj.mapSeq (·.push v)) } :=
          I3.write (x := D) (e := D) (t' := s3.toks) (by rw [hD3]; exact True.intro) (.inl rfl) keep ⟨_, eS2⟩ ⟨by rw [List.length_append]; show vs.length + 1 ≤ _; omega, its ++ [v], _, vals_snoc rv ry, by rw [← List.push_toArray]; exact eS2⟩
        have nD : ∀ b ∈ fp, b ≠ D := fun b hb z => by
          have := (hfp3 b hb).1.1
          rw [z, hD3] at this; cases this
        have e1 : n - (m + 1) + 1 = n - m := by omega
        refine ih _ (vs ++ [y]) (upd (lay Nw H) D (.lst (vs ++ [y]))) (by omega) ⟨⟨gs', fp, s3.heap, hgs3, hrd, fun b hb => ⟨⟨?_, (hfp3 b hb).1.2⟩, fun o e => keep b o (nD b hb) e⟩⟩, I5, ?_⟩ ?_
        · rw [upd_ne (nD b hb)]
          exact (hfp3 b hb).1.1
        · obtain ⟨o, nm, qn, e, r⟩ := hgen3
          exact ⟨o, nm, qn, keep ga o (nD ga mg) e, r⟩
        · rw [← e1]
          exact turn (n - (m + 1)) vs H y Nw (by omega) hp hYd hNw
  refine codeAny_mono (loop n _ [] (upd H1 D (.lst [])) (Nat.le_refl _) A0 (by rw [Nat.sub_self]; exact p0)) ?_
  rintro r s' ⟨rfl, x, H', I', rx, q⟩
  exact ⟨rfl, x, H', I', rx, q⟩
end
/-! ### followers -/
theorem call_sortDK {X : Cx} {K : PySem.W.Frag} (h : X.K = K) (hu : X.A.units + 64 < cLine) : CallR X (.builtin "sorted") (rSortD K) := by
  subst h
  exact call_sortD hu
theorem sI1 (js : List Int) : PySem.W.AllAlike (js.map fun z => PyData.int z) := PySem.W.AllAlike.of fun b b' => alike_int b b'
theorem sI2 (js : List Int) : PySem.W.Sortable (js.map fun z => PyData.int z) := PySem.W.Sortable.others (enc := fun z : Int => PyData.int z) (fun b => ⟨fun z => (by cases z), fun xs z => (by cases z)⟩)
theorem sI3 (z : Int) : (PyData.int z).depth ≤ 40 := by rw [PyData.depth]; decide
theorem sI4 (js : List Int) : js.mergeSort (PySem.W.dataLe false fun z => PyData.int z) = js.mergeSort leI := by rw [PySem.W.dataLe_int]; rfl
def folL (ids : List Int) (ps : List (Int × Int)) (r : Int → Nat) (N : Nat) (x : Int) : List Int := (downs ids (anOf ps) r N x).mergeSort leI
theorem fol_perm (ids : List Int) (ps : List (Int × Int)) (r : Int → Nat) (N : Nat) (x : Int) : (folL ids ps r N x).Perm (downs ids (anOf ps) r N x) := List.mergeSort_perm _ _
def hereI (ns : List Int) (i : Nat) : Int := (ns[i]?).getD 0
def spFoll (K : PySem.W.Frag) : SpY := fun vs n G Yd => ∃ (d : Addr) (ids : List Int) (ps : List (Int × Int)) (r : Int → Nat) (N : Nat) (x : Int), vs = [.ref d, .int x] ∧ PinSet ids ps r N ∧ n = (folL ids ps r N x).length ∧ G = (fun i H => i = 0 → H d = some (.dK (pinK ps))) ∧
  Yd = fun i y Nw => y = .int (hereI (folL ids ps r N x) i) ∧ Nw = []
section
variable {P : Program} {w : World} {K : PySem.W.Frag} {mg : Str → Option Value} {base : Heap}
theorem scFoll : GScope ["pins", "row_id", "follower"] ["pins", "row_id"] (defScope sFollowers) := ⟨rfl, rfl, rfl, by decide +kernel, rfl, by decide +kernel, by decide +kernel⟩
theorem ok_foll {f fH : Addr} {fd fdH : FuncData} (F : Fun K "followers" "followers" sFollowers f fd) (T : mg "sorted" = none) (GH : FnOk P w K mg base CX0 1 fH fdH ["pins", "row_id"] (spHang K)) (kH : PySem.W.keepIn K (.ref fH) = true) (bH : L2.Binds K fdH ["pins", "row_id"] []) (mH : mg "hanging" = some (.ref fH)) :
    GenFnA P w K mg base 2 f fd ["pins", "row_id"] (spFoll K) := by
  refine GenFnA.mk' (k := 1) (N := ["pins", "row_id", "follower"]) F scFoll (by decide +kernel) rfl (fun _ _ => rfl) (fun vs n G Yd h => ?_) fun cdv vs n G Yd h => ?_
  · obtain ⟨d, ids, ps, r, N, x, rfl, _⟩ := h
    rfl
  · obtain ⟨d, ids, ps, r, N, x, rfl, hp, rfl, rfl, rfl⟩ := h
    refine ⟨fun i H H' s q e => s _ _ (q e), _, _, _, _, _, ⟨fun Ag outer L s H hr => ⟨pss_nil, pi_listK (K := K) rfl (pe_callB (call_sortDK (K := K) rfl (hu64 hr)) (by rfl) T (by decide +kernel) (pa_cons (pe_call GH hr rfl mH kH bH .nil pass0 (pa_cons (pv 0) (pa_cons (pv 1) pa_nil))) pa_nil)), pg_name (i := 2) scFoll.nd rfl (.inl rfl),
      pv 2, pss_nil⟩⟩, fun H g0 => ?_⟩
    refine ⟨_, rfl, _, rfl, d, ids, ps, r, N, x, rfl, g0 rfl, hp, fun q H' js hLy hq hperm => ?_⟩
    refine ⟨q, Int, js, (fun z => .int z), V.int, rfl, SqL.of hq, fun b _ => .int b, sI1 js, sI2 js, fun b _ => sI3 b, fun p hp' => ⟨p, rfl, ⟨_, SqL.of upd_same⟩, ?_⟩⟩
    rw [sI4]
    have eL : js.mergeSort leI = folL ids ps r N x := sort_perm hperm
    rw [eL]
    have hp0 := hLy.free hp'
    obtain ⟨pr, rfl, hpr⟩ := hLy
    generalize folL ids ps r N x = L
    refine ⟨(p, .lst (L.map V.int)) :: pr, fun i σ => ∃ v, σ = [some (.ref d), some (.int x), v], fun i σ => ∃ v, σ = [some (.ref d), some (.int x), v], rfl, fun q hq => ?_, ⟨none, rfl⟩, ⟨?_, ?_, ?_⟩⟩
    · rcases List.mem_cons.mp hq with e | e
      · rw [e]; exact ⟨hp0, True.intro⟩
      · exact hpr q e
    · rintro i σ H hi _ hfr ⟨v, rfl⟩
      have sq : SqL K (lay ((p, .lst (L.map V.int)) :: pr) H) p (L.map V.int) := SqL.of upd_same
      have hat : (L.map V.int)[i]? = some (.int (hereI L i)) := by
        unfold hereI
        rw [List.getElem?_map, List.getElem?_eq_getElem hi]
        rfl
      refine ⟨⟨_, _, sq, hat⟩, fun x H' y => ?_⟩
      obtain ⟨rfl, y⟩ := y
      have y := y _ sq
      rw [hat] at y
      obtain rfl := Option.some.inj y
      exact ⟨_, rfl, [], rfl, fun q hq => (by cases hq), ⟨rfl, rfl⟩, _, rfl⟩
    · rintro i σ H hi _ _ ⟨v, rfl⟩
      exact ⟨rfl, v, rfl⟩
    · rintro σ H _ _ _
      exact ⟨_, SqL.of upd_same, by rw [List.length_map]; exact Nat.le_refl _⟩
end
theorem seqIndex_nat {k n : Nat} (h : k < n) : seqIndex? (k : Int) n = some k := by
  unfold seqIndex?
  have h1 : ¬ ((k : Int) < 0) := by omega
  simp only [h1, if_false]
  have h2 : (decide (0 ≤ (k : Int)) && decide ((k : Int) < (n : Int))) = true := by
    rw [Bool.and_eq_true]
    exact ⟨decide_eq_true (by omega), decide_eq_true (by omega)⟩
  rw [if_pos h2]
  simp
theorem erase_map (js : List Int) (k : Nat) : (js.map V.int).eraseIdx k = (js.eraseIdx k).map V.int := by
  exact L2.erase_mapI js k
section
variable {P : Program} {w : World} {K : PySem.W.Frag} {mg : Str → Option Value} {base : Heap}
/-! ### the things in a drawn sequence -/
def spShuf (K : PySem.W.Frag) : Sp := fun vs H Q _ => ∃ (d t : Addr) (js : List Int), vs = [.ref d, .ref t] ∧ DeckAt H d ∧ SqL K H t (js.map V.int) ∧ js.length ≤ 300 ∧
  ∀ (p : Addr) (ks : List Int) (H' : Hp), H p = none → But d H H' → DeckAt H' d → H' p = some (.lst (ks.map V.int)) → ks.Perm js → Q (.ref p) H'
structure TxtS (mg : Str → Option Value) : Prop where
  len : mg "len" = none
  list : mg "list" = none
theorem scShuf : FnScope ["tape", "ids", "left", "found"] ["tape", "ids"] (defScope sShuf) := ⟨rfl, rfl, rfl, by decide +kernel, rfl, by decide +kernel, by decide +kernel⟩
theorem ok_shuf {f fD : Addr} {fd fdD : FuncData} (F : Fun K "_law_shuffled" "_law_shuffled" sShuf f fd) (T : TxtS mg) (FD : Fun K "_law_pick" "_law_pick" sDraw fD fdD) (bD : L2.Binds K fdD ["tape", "size"] []) (mD : mg "_law_pick" = some (.ref fD)) :
    FnOk P w K mg base CX0 2 f fd ["tape", "ids"] (spShuf K) := by
  have GD : FnOk P w K mg base CX0 1 fD fdD ["tape", "size"] spDraw := ok_draw FD
  refine F.ok scShuf (fun vs H Q E h => ?_) (fun cdv A outer s H vs Q E hr h => ?_)
  · obtain ⟨d, t, js, rfl, _⟩ := h
    rfl
  · obtain ⟨d, t, js, rfl, D, hT, hj, k⟩ := h
    have h64 := hu64 hr
    refine ⟨_, pss_cons (ps_set (i := 2) scShuf.nd rfl (Or.inl rfl) (pe_callTy call_list_of (by rfl) T.list (by decide +kernel) (pa_cons (pv 1) pa_nil)))
      (pss_cons (ps_set (i := 3) scShuf.nd rfl (Or.inl rfl) (pe_lst pa_nil))
      (pss_cons (ps_while PassesOwn.never (pt_cmpR (op_neL h64) (pv 2) (pe_lst pa_nil) (nomark _))
        (pss_one (ps_expr (pe_bm PySem.F.plainAttrs_list PySem.F.slot_list_append PySem.F.type_list_append mt_append (pv 3) (pa_cons
          (pe_bm PySem.F.plainAttrs_list PySem.F.slot_list_pop PySem.F.type_list_pop mt_popAt (pv 2) (pa_cons (pe_call GD hr rfl mD FD.kp bD .nil pass0 (pa_cons (pv 0) (pa_cons (pe_callB call_len_seq (by rfl) T.len PySem.boot_len (pa_cons (pv 2) pa_nil)) pa_nil))) pa_nil)) pa_nil)))))
      (pss_one (ps_ret (pv 3))))), ?_⟩
    refine ⟨_, rfl, t, _, rfl, .inl hT, fun l hl => ?_⟩
    have F1 : Fs d H [(l, .lst (js.map V.int))] _ := (Fs.start D).new hl nl
    refine ⟨Nat.zero_le _, fun r hr' => ?_⟩
    have F2 := F1.new hr' (o := .lst []) nl
    have hr0 : H r = none := Same.free (Same.new (o := .lst (js.map V.int)) hl) hr'
    have nlr : l ≠ r := ne_of_none F1.g0 hr'
    refine ⟨fun m σ H' => ∃ (ls fs : List Int), σ = [some (.ref d), some (.ref t), some (.ref l), some (.ref r)] ∧ m = ls.length ∧ (fs ++ ls).Perm js ∧ But d H H' ∧ DeckAt H' d ∧ H' l = some (.lst (ls.map V.int)) ∧ H' r = some (.lst (fs.map V.int)),
      ⟨_, js, [], rfl, rfl, List.Perm.refl _, F2.1, F2.deck, F2.g1, F2.g0⟩, ?_⟩
    rintro m σ H1 ⟨ls, fs, rfl, rfl, hp, B1, D1, hL, hR⟩
    have hlen : fs.length + ls.length = js.length := by have := hp.length_eq; rw [List.length_append] at this; exact this
    refine ⟨_, rfl, Nat.zero_le _, fun q hq => ?_⟩
    have s2 : Same H1 (upd H1 q (.lst [])) := Same.new hq
    refine ⟨l, q, ls, [], rfl, rfl, SqL.of (s2 _ _ hL), SqL.of upd_same, _, rfl, ?_⟩
    by_cases h0 : ls = []
    · subst h0
      refine iteF ?_
      rw [List.append_nil] at hp
      exact ⟨_, rfl, k r fs _ hr0 (B1.trans (But.of s2)) (D1.same s2) (s2 _ _ hR) hp⟩
    · rw [decide_eq_false h0]
      refine iteT ?_
      have hpos : 0 < ls.length := List.length_pos_iff.mpr h0
      refine ⟨fun σ' H' => ∃ m', m' < ls.length ∧ ∃ (ls fs : List Int), σ' = [some (.ref d), some (.ref t), some (.ref l), some (.ref r)] ∧ m' = ls.length ∧ (fs ++ ls).Perm js ∧ But d H H' ∧ DeckAt H' d ∧ H' l = some (.lst (ls.map V.int)) ∧ H' r = some (.lst (fs.map V.int)), fun _ _ z => z, ?_⟩
      have D2 := D1.same s2
      refine ⟨_, rfl, .inl ⟨rfl, _, SqL.of (s2 _ _ hR)⟩, _, rfl, .inl ⟨rfl, _, SqL.of (s2 _ _ hL)⟩, _, rfl, _, rfl, l, _, rfl, .inl (SqL.of (s2 _ _ hL)), d, _, rfl, D2, by rw [List.length_map]; omega, by rw [List.length_map]; omega, fun z H3 z0 z1 D3 B3 => ?_⟩
      rw [List.length_map] at z1
      obtain ⟨i, rfl⟩ : ∃ m : Nat, z = (m : Int) := ⟨z.toNat, by omega⟩
      have hi : i < ls.length := by omega
      have hL3 := B3.lst D2 (s2 _ _ hL)
      have hR3 := B3.lst D2 (s2 _ _ hR)
      have hy : ls[i]? = some ls[i] := List.getElem?_eq_getElem hi
      refine ⟨l, _, _, i, .int ls[i], rfl, rfl, hL3, by omega, by omega, seqIndex_nat (by rw [List.length_map]; exact hi), by rw [List.getElem?_map, hy]; rfl, ?_⟩
      rw [erase_map]
      have hR4 : upd H3 l (.lst ((ls.eraseIdx i).map V.int)) r = some (.lst (fs.map V.int)) := by rw [upd_ne nlr.symm]; exact hR3
      refine ⟨r, _, _, rfl, rfl, hR4, by rw [List.length_map]; exact small1000 (by omega), ?_⟩
      have hel : (ls.eraseIdx i).length + 1 = ls.length := by rw [List.length_eraseIdx_of_lt hi]; omega
      refine ⟨(ls.eraseIdx i).length, by omega, ls.eraseIdx i, fs ++ [ls[i]], rfl, rfl, ?_, ?_, ?_, ?_, ?_⟩
      · rw [List.append_assoc]
        exact (List.Perm.append_left fs (L2.erase_perm ls i _ hy)).trans hp
      · intro b o hb e
        have nbl : b ≠ l := ne_of_none e hl
        have nbr : b ≠ r := ne_of_none e hr0
        rw [upd_ne nbr, upd_ne nbl]
        exact B3 b o hb (s2 _ _ (B1 b o hb e))
      · obtain ⟨x, y, hd, rr⟩ := D3
        have n1 : d ≠ l := (ne_of hL3 hd (nl _ _)).symm
        have n2 : d ≠ r := (ne_of hR3 hd (nl _ _)).symm
        exact ⟨x, y, by rw [upd_ne n2, upd_ne n1]; exact hd, rr⟩
      · rw [upd_ne nlr, upd_same]
      · rw [upd_same, List.map_append]; rfl
end
/-- an object of the row may be laid anew -/
theorem Fs.reput {d x : Addr} {Hd H1 : Hp} {fs : List (Addr × HO)} {o o' : HO} (F : Fs d Hd ((x, o) :: fs) H1) (h0 : Hd x = none) (hn : ∀ p ∈ fs, p.1 ≠ x) : Fs d Hd ((x, o') :: fs) (upd H1 x o') := by
  obtain ⟨f1, ⟨a, b, q, r⟩, f3⟩ := F
  have hd : x ≠ d := (f3 _ List.mem_cons_self).1
  refine ⟨fun c u hc e => ?_, ⟨a, b, by rw [upd_ne hd.symm]; exact q, r⟩, fun p hp => ?_⟩
  · rw [upd_ne (ne_of_none e h0)]
    exact f1 c u hc e
  · rcases List.mem_cons.mp hp with e | e
    · subst e; exact ⟨hd, upd_same⟩
    · exact ⟨(f3 p (List.mem_cons_of_mem _ e)).1, by rw [upd_ne (hn p e)]; exact (f3 p (List.mem_cons_of_mem _ e)).2⟩
section
variable {P : Program} {w : World} {K : PySem.W.Frag} {mg : Str → Option Value} {base : Heap}
/-! ### ids -/
/-- so many different ids -/
def IdsL (js : List Int) : Prop := js.Nodup ∧ ∀ z ∈ js, 1 ≤ z ∧ z ≤ 1000000
structure TxtI (mg : Str → Option Value) : Prop where
  len : mg "len" = none
  list : mg "list" = none
  range : mg "range" = none
def spIds : Sp := fun vs H Q _ => ∃ (d : Addr) (n : Nat), vs = [.ref d, .int n] ∧ DeckAt H d ∧ n ≤ 100 ∧
  ∀ (l : Addr) (js : List Int) (H' : Hp), H l = none → But d H H' → DeckAt H' d → H' l = some (.lst (js.map V.int)) → js.length = n → IdsL js → Q (.ref l) H'
def stepL : List Int := [1, 1, 37, 9999]
theorem steps_ok {s : Int} (h : s ∈ stepL) : 1 ≤ s ∧ s ≤ 9999 := by
  have : ∀ s ∈ stepL, 1 ≤ s ∧ s ≤ 9999 := by decide
  exact this s h
def upTo (s : Int) (n : Nat) : List Int := (List.range n).map fun (i : Nat) => 1 + s * (i : Int)
theorem upTo_len (s : Int) (n : Nat) : (upTo s n).length = n := by simp [upTo]
theorem upTo_succ (s : Int) (n : Nat) : upTo s (n + 1) = upTo s n ++ [1 + s * (n : Int)] := by
  unfold upTo
  rw [List.range_succ, List.map_append]; rfl
theorem upTo_ids {s : Int} {n : Nat} (h1 : 1 ≤ s) (h2 : s ≤ 9999) (hn : n ≤ 100) : IdsL (upTo s n) := by
  refine ⟨?_, fun z hz => ?_⟩
  · unfold upTo
    refine List.pairwise_map.mpr ((List.nodup_range).imp fun {a b} h e => h ?_)
    have : s * (a : Int) = s * (b : Int) := by omega
    have h0 : s ≠ 0 := by omega
    have := Int.eq_of_mul_eq_mul_left h0 this
    omega
  · obtain ⟨i, hi, rfl⟩ := List.mem_map.mp hz
    have hi := List.mem_range.mp hi
    have a1 : 0 ≤ s * (i : Int) := Int.mul_nonneg (by omega) (by omega)
    have a2 : s * (i : Int) ≤ 9999 * 99 := Int.mul_le_mul h2 (by omega) (by omega) (by omega)
    omega
theorem scIds : FnScope ["tape", "size", "step", "place"] ["tape", "size"] (defScope sIds) := ⟨rfl, rfl, rfl, by decide +kernel, rfl, by decide +kernel, by decide +kernel⟩
theorem ok_ids {f fC fS : Addr} {fd fdC fdS : FuncData} (F : Fun K "_law_ids" "_law_ids" sIds f fd) (T : TxtI mg)
    (GC : FnOk P w K mg base CX0 2 fC fdC ["tape", "items"] (spChoose K)) (kC : PySem.W.keepIn K (.ref fC) = true) (bC : L2.Binds K fdC ["tape", "items"] []) (mC : mg "_law_one_of" = some (.ref fC))
    (GS : FnOk P w K mg base CX0 2 fS fdS ["tape", "ids"] (spShuf K)) (kS : PySem.W.keepIn K (.ref fS) = true) (bS : L2.Binds K fdS ["tape", "ids"] []) (mS : mg "_law_shuffled" = some (.ref fS)) :
    FnOk P w K mg base CX0 3 f fd ["tape", "size"] spIds := by
  refine F.ok scIds (fun vs H Q E h => ?_) (fun cdv A outer s H vs Q E hr h => ?_)
  · obtain ⟨d, n, rfl, _⟩ := h
    rfl
  · obtain ⟨d, n, rfl, D, n1, k⟩ := h
    refine ⟨_, pss_cons (ps_set (i := 2) scIds.nd rfl (Or.inr rfl) (pe_call GC hr rfl mC kC bC .nil pass0 (pa_cons (pv 0) (pa_cons (pe_lst (pa_cons pe_int (pa_cons pe_int (pa_cons pe_int (pa_cons pe_int pa_nil))))) pa_nil))))
      (pss_one (ps_ret (pe_call GS hr rfl mS kS bS .nil pass0 (pa_cons (pv 0) (pa_cons (pe_lc (own := [("place", 3)]) (g := gName 3) (tt := tYes) rfl scIds.nd (pi_range1 rfl T.range (pa_cons (pv 1) pa_nil)) (blkOk_by (N := ["tape", "size", "step", "place"]) (sc := defScope sIds) (by decide +kernel))
        (fun _ _ _ _ _ => pg_name (i := 3) scIds.nd rfl (Or.inl rfl)) (fun _ _ _ _ _ => pts_nil) (fun _ _ _ _ _ => pe_op op_add pe_int (pe_op op_mul (pv 2) (pv 3)))) pa_nil))))), ?_⟩
    have h16 : sizeLine = 16777216 := sizeLine_eq
    refine ⟨_, rfl, by show 4 ≤ sizeLine; rw [h16]; decide, fun p hp => ?_⟩
    have F1 : Fs d H [(p, .lst (stepL.map V.int))] (upd H p (.lst (stepL.map V.int))) := (Fs.start D).new hp nl
    refine ⟨d, p, stepL.map V.int, rfl, F1.deck, SqL.of F1.g0, (by intro z; cases z), (by show 4 < 1000000; decide), fun v H2 hv D2 B2 => ?_⟩
    obtain ⟨st, hst, rfl⟩ := List.mem_map.mp hv
    obtain ⟨s1, s2⟩ := steps_ok hst
    have F2 := (F1.step D2 B2).tail
    refine ⟨_, rfl, _, rfl, (n : Int), rfl, by omega, by omega, fun D' hD' => ?_⟩
    obtain ⟨a0, a1, a2⟩ := F2.apart hD'
    refine lc_range (lo := 0) (n := ((n : Int)).toNat) (fun i H' => Fs d H [(D', .lst ((upTo st i).map V.int))] H') (F2.new (o := .lst []) hD' nl) ?_ ?_
    · rintro i H' hi F3
      refine ⟨rfl, ?_⟩
      have i100 : (i : Int) ≤ 100 := by omega
      refine ⟨_, rfl, _, rfl, _, _, rfl, rfl, .inr ⟨by omega, by omega⟩, _, _, rfl, rfl, ?_⟩
      refine ⟨_, F3.g0, by rw [List.length_map, upTo_len, h16]; omega, ?_⟩
      have := F3.reput (o' := .lst ((upTo st i).map V.int ++ [V.int (1 + st * (0 + (i : Int)))])) a0 a2
      rw [upTo_succ, List.map_append]
      rw [Int.zero_add] at this ⊢
      exact this
    · rintro H' F3
      have e : ((n : Int)).toNat = n := by omega
      rw [e] at F3
      have hI := upTo_ids (n := n) s1 s2 n1
      refine ⟨d, D', upTo st n, rfl, F3.deck, SqL.of F3.g0, by rw [upTo_len]; omega, fun q ks H5 hq B5 D5 hQ hperm => ?_⟩
      have F5 := F3.step D5 B5
      refine k q ks H5 ?_ F5.1 D5 hQ ?_ ⟨hperm.nodup_iff.mpr hI.1, fun z hz => hI.2 z (hperm.mem_iff.mp hz)⟩
      · cases e : H q with
        | none => rfl
        | some u =>
          have hqd : q ≠ d := fun z => by
            rw [z] at hq
            obtain ⟨x, y, w, _⟩ := F3.deck
            rw [hq] at w; cases w
          have := F3.1 q u hqd e
          rw [hq] at this; cases this
      · rw [hperm.length_eq, upTo_len]
end
/-! ### drawn pins -/
/-- pins without circles: each anchor is 0 or stands earlier in some sequence of the ids -/
structure PinsOf (ids : List Int) (ps : List (Int × Int)) (seq : List Int) : Prop where
  perm : seq.Perm ids
  keys : (ps.map Prod.fst).Nodup
  mem : ∀ e ∈ ps, e.1 ∈ seq
  anc : ∀ e ∈ ps, e.2 = 0 ∨ (e.2 ∈ seq ∧ seq.idxOf e.2 < seq.idxOf e.1)
  len : ps.length ≤ seq.length
theorem PinsOf.forest {ids seq : List Int} {ps : List (Int × Int)} (h : PinsOf ids ps seq) (nd : ids.Nodup) (nz : ∀ x ∈ ids, x ≠ 0) : Forest ids (anOf ps) (fun x => seq.idxOf x) ids.length := by
  refine ⟨nd, nz, fun x hx => ?_, fun x hx a ha => ?_⟩
  · rw [← h.perm.length_eq]
    exact List.idxOf_lt_length_of_mem (h.perm.mem_iff.mpr hx)
  · rcases h.anc _ (an_mem ha) with q | ⟨q1, q2⟩
    · exact .inl q
    · exact .inr ⟨h.perm.mem_iff.mp q1, q2⟩
structure TxtP (mg : Str → Option Value) : Prop where
  enum : mg "enumerate" = none
section
variable {P : Program} {w : World} {K : PySem.W.Frag} {mg : Str → Option Value} {base : Heap}
def spPins (K : PySem.W.Frag) : Sp := fun vs H Q _ => ∃ (d b : Addr) (ids : List Int), vs = [.ref d, .ref b] ∧ DeckAt H d ∧ SqL K H b (ids.map V.int) ∧ ids.length ≤ 100 ∧ ids.Nodup ∧
  ∀ (q : Addr) (ps : List (Int × Int)) (seq : List Int) (H' : Hp), H q = none → But d H H' → DeckAt H' d → H' q = some (.dK (pinK ps)) → PinsOf ids ps seq → Q (.ref q) H'
theorem scPins : FnScope ["tape", "base", "sequence", "share", "found", "at", "row_id"] ["tape", "base"] (defScope sPins) := ⟨rfl, rfl, rfl, by decide +kernel, rfl, by decide +kernel, by decide +kernel⟩
theorem ok_pins {f fD fC fS : Addr} {fd fdD fdC fdS : FuncData} (F : Fun K "_law_pins" "_law_pins" sPins f fd) (T : TxtP mg)
    (GD : FnOk P w K mg base CX0 1 fD fdD ["tape", "size"] spDraw) (kD : PySem.W.keepIn K (.ref fD) = true) (bD : L2.Binds K fdD ["tape", "size"] []) (mD : mg "_law_pick" = some (.ref fD))
    (GC : FnOk P w K mg base CX0 2 fC fdC ["tape", "items"] (spChoose K)) (kC : PySem.W.keepIn K (.ref fC) = true) (bC : L2.Binds K fdC ["tape", "items"] []) (mC : mg "_law_one_of" = some (.ref fC))
    (GS : FnOk P w K mg base CX0 2 fS fdS ["tape", "ids"] (spShuf K)) (kS : PySem.W.keepIn K (.ref fS) = true) (bS : L2.Binds K fdS ["tape", "ids"] []) (mS : mg "_law_shuffled" = some (.ref fS)) :
    FnOk P w K mg base CX0 3 f fd ["tape", "base"] (spPins K) := by
  refine F.ok scPins (fun vs H Q E h => ?_) (fun cdv A outer s H vs Q E hr h => ?_)
  · obtain ⟨d, b, ids, rfl, _⟩ := h
    rfl
  · obtain ⟨d, b, ids, rfl, D, hb, hlen, hnd, k⟩ := h
    have hr1 : Room 1 _ := hr.mono (by decide)
    have hu := hu_of hr
    refine ⟨_, pss_cons (ps_set (i := 2) scPins.nd rfl (Or.inl rfl) (pe_call GS hr rfl mS kS bS .nil pass0 (pa_cons (pv 0) (pa_cons (pv 1) pa_nil))))
      (pss_cons (ps_set (i := 3) scPins.nd rfl (Or.inl rfl) (pe_call GC hr rfl mC kC bC .nil pass0 (pa_cons (pv 0) (pa_cons (pe_lst (pa_cons pe_int (pa_cons pe_int (pa_cons pe_int pa_nil)))) pa_nil))))
      (pss_cons (ps_set (i := 4) scPins.nd rfl (Or.inl rfl) pe_dnewK)
      (pss_cons (ps_for PassesOwn.never rfl (pi_enum (by rfl) T.enum (pa_cons (pv 2) pa_nil)) (pg_tup rfl (pgs_cons (pg_name (i := 5) scPins.nd rfl (Or.inl rfl)) (pgs_cons (pg_name (i := 6) scPins.nd rfl (Or.inl rfl)) pgs_nil)))
        (pss_one (ps_if (pt_cmpR op_lt (pe_call GD hr1 rfl mD kD bD .nil pass0 (pa_cons (pv 0) (pa_cons pe_int pa_nil))) (pv 3) (nomark _))
          (pss_one (ps_dput hu (pv 4) (pv 6) (pe_call GC hr rfl mC kC bC .nil pass0 (pa_cons (pv 0) (pa_cons (pe_op op_cat (pe_lst (pa_cons pe_int pa_nil)) (pe_slice sl_list (pe_slice sl_list (pv 2) po_none (po_some (pv 5))) (po_some (pe_un un_neg pe_int)) po_none)) pa_nil))) rfl)) pss_nil)))
      (pss_one (ps_ret (pv 4)))))), ?_⟩
    have h16 : sizeLine = 16777216 := sizeLine_eq
    refine ⟨_, rfl, _, rfl, d, b, ids, rfl, D, hb, by omega, fun sq seq H1 hsq B1 D1 hS hperm => ?_⟩
    have F1 := ((Fs.start D).step D1 B1).add hS nl
    have hsl : seq.length ≤ 100 := by rw [hperm.length_eq]; exact hlen
    have hsn : seq.Nodup := hperm.nodup_iff.mpr hnd
    refine ⟨_, rfl, by rw [h16]; show 3 ≤ 16777216; decide, fun p hp => ?_⟩
    have F2 := F1.new hp (o := .lst (([1, 3, 5] : List Int).map V.int)) nl
    refine ⟨d, p, ([1, 3, 5] : List Int).map V.int, rfl, F2.deck, SqL.of F2.g0, (by intro z; cases z), (by show 3 < 1000000; decide), fun v H2 hv D2 B2 => ?_⟩
    obtain ⟨sh, _, rfl⟩ := List.mem_map.mp hv
    have F3 := (F2.step D2 B2).tail
    intro fo hfo
    have F4 := F3.new hfo (o := .dK (pinK [])) nP
    obtain ⟨a0, a1, a2⟩ := F3.apart hfo
    refine ⟨_, rfl, sq, _, rfl, SqL.of F4.g1, ?_⟩
    refine for_it (walk_enum (K := K) (a := sq) (xs := seq.map V.int)) (fun i σ H' => ∃ (v5 v6 : Option V) (ps : List (Int × Int)), σ = [some (.ref d), some (.ref b), some (.ref sq), some (.int sh), some (.ref fo), v5, v6] ∧ Fs d H [(fo, .dK (pinK ps)), (sq, .lst (seq.map V.int))] H' ∧
        i ≤ seq.length ∧ PinsOf ids ps seq ∧ ps.length ≤ i ∧ ∀ e ∈ ps, e.1 ∈ seq.take i)
      ⟨_, _, [], rfl, F4, Nat.zero_le _, ⟨hperm, List.nodup_nil, fun e h => (by cases h), fun e h => (by cases h), Nat.zero_le _⟩, Nat.zero_le _, fun e h => (by cases h)⟩ (fun i σ H' _ ⟨_, _, _, _, F, _⟩ => SqL.of F.g1) ?_ ?_
    · rintro i x σ H5 H6 hi ⟨v5, v6, ps, rfl, F5, hil, hP, hpl, hk⟩ ⟨T, x', y', rfl, hT, rfl, e1, e2⟩
      rw [List.length_map] at hi
      have e1' : V.int (i : Int) = x' := Option.some.inj e1
      subst e1'
      obtain ⟨y, hy, rfl⟩ := int_at e2
      refine ⟨T, _, rfl, SqT.of upd_same, rfl, _, _, rfl, _, _, rfl, rfl, ?_⟩
      have F6 := F5.skip hT (o := .tup [.int (i : Int), .int y])
      refine ⟨_, rfl, d, 6, rfl, F6.deck, by decide, by decide, fun r H7 r0 r1 D7 B7 => ?_⟩
      have F7 := F6.step D7 B7
      refine ⟨_, rfl, _, _, rfl, rfl, _, rfl, ite2 (fun c => ?_) (fun c => ?_)⟩
      · refine ⟨_, rfl, by rw [h16]; show 1 ≤ 16777216; decide, fun z hz => ?_⟩
        have F8 := F7.new hz (o := .lst [.int 0]) nl
        refine ⟨_, rfl, _, rfl, _, rfl, sq, _, rfl, SqL.of F8.g2, fun c1 hc1 => ?_⟩
        have F9 := F8.new hc1 (o := .lst (cutV (seq.map V.int) none (some (i : Int)))) nl
        refine ⟨_, rfl, _, rfl, c1, _, rfl, SqL.of F9.g0, fun c2 hc2 => ?_⟩
        have F10 := F9.new hc2 (o := .lst (cutV (cutV (seq.map V.int) none (some (i : Int))) (some (-3)) none)) nl
        have l1 := cutV_length (seq.map V.int) none (some (i : Int))
        have l2 := cutV_length (cutV (seq.map V.int) none (some (i : Int))) (some (-3)) none
        rw [List.length_map] at l1
        refine ⟨z, c2, _, _, rfl, rfl, F10.g2, F10.g0, by rw [h16]; show 1 + _ ≤ _; omega, fun c3 hc3 => ?_⟩
        have F11 := F10.new hc3 (o := .lst ([.int 0] ++ cutV (cutV (seq.map V.int) none (some (i : Int))) (some (-3)) none)) nl
        refine ⟨d, c3, _, rfl, F11.deck, SqL.of F11.g0, (by intro z; cases z), (by rw [List.length_append]; show 1 + _ < 1000000; omega), fun v H8 hv D8 B8 => ?_⟩
        have F12 := (F11.step D8 B8).tail.tail.tail.tail
        obtain ⟨a, rfl, ha⟩ : ∃ a : Int, v = .int a ∧ (a = 0 ∨ a ∈ seq.take i) := by
          rcases List.mem_append.mp hv with q | q
          · exact ⟨0, List.mem_singleton.mp q, .inl rfl⟩
          · have q := cut_in q
            rw [cut_to, ← List.map_take] at q
            obtain ⟨a, ha, rfl⟩ := List.mem_map.mp q
            exact ⟨a, rfl, .inr ha⟩
        have hyt : y ∉ seq.take i := fun q => by
          obtain ⟨j, hj⟩ := List.mem_iff_getElem?.mp q
          rw [List.getElem?_take] at hj
          split at hj
          · rename_i hji
            have e := (List.getElem?_inj (by omega) hsn).mp (hj.trans hy.symm)
            omega
          · cases hj
        have hyk : y ∉ ps.map Prod.fst := fun q => by
          obtain ⟨e, he, rfl⟩ := List.mem_map.mp q
          exact hyt (hk e he)
        have hixy : seq.idxOf y = i := by
          obtain ⟨h1, h2⟩ := List.getElem?_eq_some_iff.mp hy
          rw [← h2]
          exact hsn.idxOf_getElem i h1
        refine ⟨_, rfl, _, rfl, fo, _, rfl, DPut.k (k := (.inl y : Key)) (v := .int a) F12.g0 (by rw [pin_len, h16]; omega), ?_⟩
        rw [pin_put hyk]
        have F13 := F12.reput (o' := .dK (pinK (ps ++ [(y, a)]))) a0 (fun p hp => a2 p hp)
        refine ⟨_, _, ps ++ [(y, a)], rfl, F13, by omega, ⟨hperm, ?_, fun e he => ?_, fun e he => ?_, by rw [List.length_append]; show ps.length + 1 ≤ _; omega⟩, by rw [List.length_append]; show ps.length + 1 ≤ _; omega, fun e he => ?_⟩
        · rw [List.map_append]
          refine List.nodup_append.mpr ⟨hP.keys, by simp, fun u hu v hv e => ?_⟩
          have : v = y := by simpa using hv
          rw [e, this] at hu
          exact hyk hu
        · rcases List.mem_append.mp he with q | q
          · exact hP.mem e q
          · rw [List.mem_singleton.mp q]; exact List.mem_of_getElem? hy
        · rcases List.mem_append.mp he with q | q
          · exact hP.anc e q
          · rw [List.mem_singleton.mp q]
            rcases ha with q | q
            · exact .inl q
            · refine .inr ⟨List.mem_of_mem_take q, ?_⟩
              show seq.idxOf a < seq.idxOf y
              rw [hixy]
              obtain ⟨j, hj⟩ := List.mem_iff_getElem?.mp q
              rw [List.getElem?_take] at hj
              split at hj
              · rename_i hji
                obtain ⟨h1, h2⟩ := List.getElem?_eq_some_iff.mp hj
                rw [← h2, hsn.idxOf_getElem j h1]
                exact hji
              · cases hj
        · rw [take_snoc hy]
          rcases List.mem_append.mp he with q | q
          · exact List.mem_append_left _ (hk e q)
          · rw [List.mem_singleton.mp q]; exact List.mem_append_right _ (List.mem_singleton.mpr rfl)
      · refine ⟨_, _, ps, rfl, F7, by omega, hP, by omega, fun e he => ?_⟩
        rw [take_snoc hy]
        exact List.mem_append_left _ (hk e he)
    · rintro σ H5 ⟨v5, v6, ps, rfl, F5, hil, hP, hpl, hk⟩
      refine ⟨_, rfl, k fo ps seq H5 a0 F5.1 F5.deck F5.g0 hP⟩
end
/-! ### other names for the ids -/
structure Ren (ρ : Int → Int) (D : List Int) : Prop where
  z : ρ 0 = 0
  nz : ∀ x ∈ D, ρ x ≠ 0
  inj : ∀ x ∈ D, ∀ y ∈ D, ρ x = ρ y → x = y
section
variable {ρ : Int → Int} {D : List Int}
theorem Ren.inj0 (R : Ren ρ D) {x y : Int} (hx : x = 0 ∨ x ∈ D) (hy : y = 0 ∨ y ∈ D) (h : ρ x = ρ y) : x = y := by
  rcases hx with e | hx <;> rcases hy with e' | hy
  · rw [e, e']
  · subst e
    rw [R.z] at h
    exact absurd h.symm (R.nz y hy)
  · subst e'
    rw [R.z] at h
    exact absurd h (R.nz x hx)
  · exact R.inj x hx y hy h
theorem Ren.nod (R : Ren ρ D) : ∀ {l : List Int}, (∀ x ∈ l, x ∈ D) → l.Nodup → (l.map ρ).Nodup
  | [], _, _ => List.nodup_nil
  | a :: l, h, nd => by
    rw [List.nodup_cons] at nd
    rw [List.map_cons, List.nodup_cons]
    refine ⟨fun z => ?_, R.nod (fun x hx => h x (List.mem_cons_of_mem _ hx)) nd.2⟩
    obtain ⟨y, hy, e⟩ := List.mem_map.mp z
    have := R.inj y (h y (List.mem_cons_of_mem _ hy)) a (h a List.mem_cons_self) e
    exact nd.1 (this ▸ hy)
theorem Ren.mem (R : Ren ρ D) {l : List Int} (h : ∀ x ∈ l, x = 0 ∨ x ∈ D) {x : Int} (hx : x = 0 ∨ x ∈ D) : ρ x ∈ l.map ρ ↔ x ∈ l := by
  constructor
  · intro z
    obtain ⟨y, hy, e⟩ := List.mem_map.mp z
    rw [← R.inj0 (h y hy) hx e]; exact hy
  · exact List.mem_map_of_mem
theorem idx_ren : ∀ {l : List Int} {x : Int}, (∀ y ∈ l, ρ y = ρ x → y = x) → (l.map ρ).idxOf (ρ x) = l.idxOf x
  | [], x, _ => rfl
  | a :: l, x, h => by
    rw [List.map_cons, List.idxOf_cons, List.idxOf_cons]
    by_cases e : a = x
    · rw [e, beq_self_eq_true, beq_self_eq_true]; rfl
    · have e2 : ¬ ρ a = ρ x := fun z => e (h a List.mem_cons_self z)
      rw [idx_ren fun y hy => h y (List.mem_cons_of_mem _ hy), beq_false_of_ne e, beq_false_of_ne e2]
theorem ix_ren {l : List Int} {x : Int} (h : ∀ y ∈ l, ρ y = ρ x → y = x) : ixI (l.map ρ) (ρ x) = ixI l x := by
  unfold ixI
  rw [idx_ren h]
theorem levS_ren {pl pl' wf wf' : Int → Int} {x : Int} (h : pl' (ρ x) = pl x ∧ wf' (ρ x) = wf x) (acc : List (Int × Int)) : levS pl' wf' acc (ρ x) = levS pl wf acc x := by
  unfold levS
  rw [h.1, h.2]
theorem lev_ren {pl pl' wf wf' : Int → Int} (l : List Int) (h : ∀ x ∈ l, pl' (ρ x) = pl x ∧ wf' (ρ x) = wf x) : levF pl' wf' (l.map ρ) = levF pl wf l := by
  unfold levF
  have : ∀ (l : List Int) (acc : List (Int × Int)), (∀ x ∈ l, pl' (ρ x) = pl x ∧ wf' (ρ x) = wf x) → (l.map ρ).foldl (fun acc x => acc ++ [levS pl' wf' acc x]) acc = l.foldl (fun acc x => acc ++ [levS pl wf acc x]) acc := by
    intro l
    induction l with
    | nil => intro acc _; rfl
    | cons x r ih =>
      intro acc h
      rw [List.map_cons, List.foldl_cons, List.foldl_cons, levS_ren (h x List.mem_cons_self), ih _ fun y hy => h y (List.mem_cons_of_mem _ hy)]
  exact this l [] h
theorem top_ren {pl pl' wf wf' : Int → Int} {l : List Int} (h : ∀ x ∈ l, pl' (ρ x) = pl x ∧ wf' (ρ x) = wf x) {x : Int} (hx : x ∈ l) (hi : ∀ y ∈ l, ρ y = ρ x → y = x) : topI pl' wf' (l.map ρ) (ρ x) = topI pl wf l x := by
  unfold topI
  rw [idx_ren hi, ← List.map_take, lev_ren _ fun y hy => h y (List.mem_of_mem_take hy), levS_ren (h x hx)]
theorem bestG_ren {f f' wf wf' : Int → Int} : ∀ (l : List Int), (∀ x ∈ l, f' (ρ x) = f x ∧ wf' (ρ x) = wf x) → ∀ (acc : List Int) (m : Int), (l.map ρ).foldl (bestS f' wf') (acc.map ρ, m) = ((l.foldl (bestS f wf) (acc, m)).1.map ρ, (l.foldl (bestS f wf) (acc, m)).2)
  | [], _, acc, m => rfl
  | x :: l, h, acc, m => by
    rw [List.map_cons, List.foldl_cons, List.foldl_cons]
    have hx := h x List.mem_cons_self
    have e : bestS f' wf' (acc.map ρ, m) (ρ x) = ((bestS f wf (acc, m) x).1.map ρ, (bestS f wf (acc, m) x).2) := by
      unfold bestS
      show (if f' (ρ x) = m then (acc.map ρ ++ [ρ x], m - wf' (ρ x)) else (acc.map ρ, m)) = _
      rw [hx.1, hx.2]
      by_cases c : f x = m
      · rw [if_pos c, if_pos c]
        show _ = ((acc ++ [x]).map ρ, m - wf x)
        rw [List.map_append]; rfl
      · rw [if_neg c, if_neg c]
    rw [e]
    exact bestG_ren l (fun y hy => h y (List.mem_cons_of_mem _ hy)) _ _
theorem best_ren {js ids : List Int} {wf wf' : Int → Int} (R : Ren ρ D) (hj : ∀ x ∈ js, x ∈ D) (hi : ∀ x ∈ ids, x ∈ D) (hw : ∀ x ∈ ids, wf' (ρ x) = wf x) : bestF (js.map ρ) (ids.map ρ) wf' = (bestF js ids wf).map ρ := by
  have ht : ∀ x ∈ ids, tallF (js.map ρ) (ids.map ρ) wf' (ρ x) = tallF js ids wf x := fun x hx => by
    unfold tallF
    rw [← List.map_reverse, ← List.map_reverse]
    refine top_ren (fun y hy => ⟨ix_ren fun z hz e => ?_, hw y (List.mem_reverse.mp hy)⟩) (List.mem_reverse.mpr hx) fun y hy e => ?_
    · exact R.inj z (hj z (List.mem_reverse.mp hz)) y (hi y (List.mem_reverse.mp hy)) e
    · exact R.inj y (hi y (List.mem_reverse.mp hy)) x (hi x hx) e
  have em : (ids.map ρ).reverse.map (tallF (js.map ρ) (ids.map ρ) wf') = ids.reverse.map (tallF js ids wf) := by
    rw [← List.map_reverse, List.map_map]
    exact List.map_congr_left fun x hx => ht x (List.mem_reverse.mp hx)
  unfold bestF
  rw [em]
  unfold bestG
  have := bestG_ren (f := tallF js ids wf) (f' := tallF (js.map ρ) (ids.map ρ) wf') (wf := wf) (wf' := wf') ids (fun x hx => ⟨ht x hx, hw x hx⟩) [] (maxI 0 (ids.reverse.map (tallF js ids wf)))
  rw [List.map_nil] at this
  rw [this]
def renR (ρ : Int → Int) (r : Int × List Int) : Int × List Int := (r.1, r.2.map ρ)
theorem cov_ren {js ids : List Int} {wf wf' : Int → Int} (R : Ren ρ D) (hj : ∀ x ∈ js, x ∈ D) (hi : ∀ x ∈ ids, x ∈ D) (hw : ∀ x ∈ ids, wf' (ρ x) = wf x) :
    (covF (ids.map ρ) (topI (ixI (js.map ρ)) wf' (ids.map ρ)) fun x => topI (ixI (js.map ρ)) wf' (ids.map ρ) x - wf' x) = (covF ids (topI (ixI js) wf ids) fun x => topI (ixI js) wf ids x - wf x).map (renR ρ) := by
  have ht : ∀ x ∈ ids, topI (ixI (js.map ρ)) wf' (ids.map ρ) (ρ x) = topI (ixI js) wf ids x := fun x hx => by
    refine top_ren (fun y hy => ⟨ix_ren fun z hz e => ?_, hw y hy⟩) hx fun y hy e => ?_
    · exact R.inj z (hj z hz) y (hi y hy) e
    · exact R.inj y (hi y hy) x (hi x hx) e
  generalize topI (ixI (js.map ρ)) wf' (ids.map ρ) = tp' at ht ⊢
  generalize topI (ixI js) wf ids = tp at ht ⊢
  unfold covF
  have e1 : (ids.map ρ).map (fun x => tp' x - wf' x) = ids.map fun x => tp x - wf x := by
    rw [List.map_map]
    exact List.map_congr_left fun x hx => by show tp' (ρ x) - wf' (ρ x) = _; rw [ht x hx, hw x hx]
  have e2 : (ids.map ρ).map tp' = ids.map tp := by
    rw [List.map_map]
    exact List.map_congr_left fun x hx => ht x hx
  rw [e1, e2]
  generalize boundsI ((ids.map fun x => tp x - wf x) ++ ids.map tp) = b
  unfold runsOf
  rw [List.map_map]
  refine List.map_congr_left fun e _ => ?_
  show (e.2 - e.1, _) = (e.2 - e.1, _)
  congr 1
  rw [List.filter_map]
  congr 1
  refine List.filter_congr fun x hx => ?_
  show (decide (tp' (ρ x) - wf' (ρ x) ≤ e.1) && decide (e.2 ≤ tp' (ρ x))) = _
  rw [ht x hx, hw x hx]
def ren2 (ρ : Int → Int) (e : Int × Int) : Int × Int := (ρ e.1, ρ e.2)
theorem pf_ren {fr : List Int} : ∀ (l : List Int) (p : Int), (∀ x ∈ l, (ρ x ∈ fr.map ρ ↔ x ∈ fr)) → pinsFrom (fr.map ρ) (ρ p) (l.map ρ) = (pinsFrom fr p l).map (ren2 ρ)
  | [], p, _ => rfl
  | x :: l, p, h => by
    rw [List.map_cons]
    have ih := pf_ren l x fun y hy => h y (List.mem_cons_of_mem _ hy)
    by_cases c : x ∈ fr
    · rw [pf_in c, pf_in ((h x List.mem_cons_self).mpr c), ih]
    · rw [pf_out c, pf_out (fun z => c ((h x List.mem_cons_self).mp z)), ih]; rfl
theorem least_ren {ids fr : List Int} (R : Ren ρ D) (hi : ∀ x ∈ ids, x ∈ D) (hf : ∀ x ∈ fr, x ∈ D) : leastP (ids.map ρ) (fr.map ρ) = (leastP ids fr).map (ren2 ρ) := by
  rw [least_from, least_from]
  have := pf_ren (ρ := ρ) (fr := fr) ids 0 fun x hx => R.mem (fun y hy => .inr (hf y hy)) (.inr (hi x hx))
  rw [R.z] at this
  exact this
theorem an_ren {ps : List (Int × Int)} {x : Int} (h : ∀ e ∈ ps, ρ e.1 = ρ x → e.1 = x) : anOf (ps.map (ren2 ρ)) (ρ x) = (anOf ps x).map ρ := by
  induction ps with
  | nil => rfl
  | cons e ps ih =>
    have ih := ih fun e he => h e (List.mem_cons_of_mem _ he)
    unfold anOf at ih ⊢
    rw [List.map_cons]
    by_cases c : e.1 = x
    · rw [List.find?_cons_of_pos (by show decide (ρ e.1 = ρ x) = true; rw [c]; exact decide_eq_true rfl), List.find?_cons_of_pos (by exact decide_eq_true c)]; rfl
    · rw [List.find?_cons_of_neg (by exact fun z => c (h e List.mem_cons_self (of_decide_eq_true z))), List.find?_cons_of_neg (by exact fun z => c (of_decide_eq_true z))]
      exact ih
/-- weights told by the other names -/
theorem wt_ren {wf : Int → Int} : ∀ {js : List Int} {x : Int}, x ∈ js → (∀ y ∈ js, ρ y = ρ x → y = x) → wtI (some (js.map fun y => (ρ y, wf y))) (ρ x) = wf x := by
  intro js x hx h
  have : anOf (js.map fun y => (ρ y, wf y)) (ρ x) = some (wf x) := by
    induction js with
    | nil => cases hx
    | cons y r ih =>
      unfold anOf
      rw [List.map_cons]
      by_cases c : ρ y = ρ x
      · rw [List.find?_cons_of_pos (by exact decide_eq_true c), h y List.mem_cons_self c]; rfl
      · rw [List.find?_cons_of_neg (by exact fun z => c (of_decide_eq_true z))]
        rcases List.mem_cons.mp hx with e | e
        · exact absurd (by rw [e]) c
        · exact ih e fun z hz => h z (List.mem_cons_of_mem _ hz)
  show (anOf _ (ρ x)).getD 1 = wf x
  rw [this]; rfl
theorem worth_ren {wo wo' : Option (List (Int × Int))} {n : Nat} {fav : List Int} {x : Int} (R : Ren ρ D) (hx : x ∈ D) (hf : ∀ y ∈ fav, y ∈ D) (hw : wtI wo' (ρ x) = wtI wo x) : worthI wo' n (fav.map ρ) (ρ x) = worthI wo n fav x := by
  unfold worthI
  rw [hw]
  have := R.mem (l := fav) (fun y hy => .inr (hf y hy)) (.inr hx)
  by_cases c : x ∈ fav
  · rw [if_pos c, if_pos (this.mpr c)]
  · rw [if_neg c, if_neg fun z => c (this.mp z)]
/-! ### what is laid -/
theorem PinsOf.ren {ids seq : List Int} {ps : List (Int × Int)} (R : Ren ρ D) (hi : ∀ x ∈ ids, x ∈ D) (h : PinsOf ids ps seq) : PinsOf (ids.map ρ) (ps.map (ren2 ρ)) (seq.map ρ) := by
  have hs : ∀ x ∈ seq, x ∈ D := fun x hx => hi x (h.perm.mem_iff.mp hx)
  refine ⟨h.perm.map ρ, ?_, ?_, ?_, by rw [List.length_map, List.length_map]; exact h.len⟩
  · have e : (ps.map (ren2 ρ)).map Prod.fst = (ps.map Prod.fst).map ρ := by rw [List.map_map, List.map_map]; rfl
    rw [e]
    refine R.nod (fun x hx => ?_) h.keys
    obtain ⟨e, he, rfl⟩ := List.mem_map.mp hx
    exact hs _ (h.mem e he)
  · intro e he
    obtain ⟨a, ha, rfl⟩ := List.mem_map.mp he
    exact List.mem_map_of_mem (h.mem a ha)
  · intro e he
    obtain ⟨a, ha, rfl⟩ := List.mem_map.mp he
    rcases h.anc a ha with q | ⟨q1, q2⟩
    · left
      show ρ a.2 = 0
      rw [q]; exact R.z
    · right
      refine ⟨List.mem_map_of_mem q1, ?_⟩
      show (seq.map ρ).idxOf (ρ a.2) < (seq.map ρ).idxOf (ρ a.1)
      rw [idx_ren fun y hy => R.inj y (hs y hy) _ (hs _ q1), idx_ren fun y hy => R.inj y (hs y hy) _ (hs _ (h.mem a ha))]
      exact q2
section
variable {ids : List Int} {p p' : Int → Option Int} {r r' : Int → Nat} {N : Nat}
theorem kids_ren (R : Ren ρ D) (hi : ∀ x ∈ ids, x ∈ D) (hp : ∀ x ∈ ids, p' (ρ x) = (p x).map ρ) (ha : ∀ x ∈ ids, ∀ b, p x = some b → b = 0 ∨ b ∈ D) {a : Int} (hA : a = 0 ∨ a ∈ D) : kidsOf (ids.map ρ) p' (ρ a) = (kidsOf ids p a).map ρ := by
  unfold kidsOf
  rw [List.filter_map]
  congr 1
  refine List.filter_congr fun x hx => ?_
  show (p' (ρ x) == some (ρ a)) = (p x == some a)
  rw [hp x hx]
  cases e : p x with
  | none => rfl
  | some b =>
    show ((some (ρ b) : Option Int) == some (ρ a)) = (some b == some a)
    by_cases c : b = a
    · rw [c, beq_self_eq_true, beq_self_eq_true]
    · have c2 : ¬ ρ b = ρ a := fun z => c (R.inj0 (ha x hx b e) hA z)
      rw [beq_false_of_ne (fun z => c2 (Option.some.inj z)), beq_false_of_ne (fun z => c (Option.some.inj z))]
theorem loose_ren (hp : ∀ x ∈ ids, p' (ρ x) = (p x).map ρ) : looseOf (ids.map ρ) p' = (looseOf ids p).map ρ := by
  unfold looseOf
  rw [List.filter_map]
  congr 1
  refine List.filter_congr fun x hx => ?_
  show (p' (ρ x) == none) = (p x == none)
  rw [hp x hx]
  cases p x <;> rfl
theorem dfs_ren (R : Ren ρ D) (hi : ∀ x ∈ ids, x ∈ D) (hp : ∀ x ∈ ids, p' (ρ x) = (p x).map ρ) (ha : ∀ x ∈ ids, ∀ b, p x = some b → b = 0 ∨ b ∈ D) : ∀ (n : Nat) (x : Int), x ∈ ids → dfsN (ids.map ρ) p' n (ρ x) = (dfsN ids p n x).map ρ
  | 0, _, _ => rfl
  | n + 1, x, hx => by
    rw [dfsN, dfsN, List.map_cons, kids_ren R hi hp ha (.inr (hi x hx)), List.flatMap_map, List.map_flatMap]
    congr 1
    have : ∀ l : List Int, (∀ y ∈ l, y ∈ ids) → l.flatMap (fun y => dfsN (ids.map ρ) p' n (ρ y)) = l.flatMap fun y => (dfsN ids p n y).map ρ := by
      intro l
      induction l with
      | nil => intro _; rfl
      | cons y l ih =>
        intro h
        rw [List.flatMap_cons, List.flatMap_cons, ih fun z hz => h z (List.mem_cons_of_mem _ hz), dfs_ren R hi hp ha n y (h y List.mem_cons_self)]
    exact this _ fun y hy => (mem_kids.mp hy).1
theorem tree_ren (R : Ren ρ D) (hi : ∀ x ∈ ids, x ∈ D) (hp : ∀ x ∈ ids, p' (ρ x) = (p x).map ρ) (ha : ∀ x ∈ ids, ∀ b, p x = some b → b = 0 ∨ b ∈ D) (hr : ∀ x ∈ ids, r' (ρ x) = r x) (l : List Int) (hl : ∀ y ∈ l, y ∈ ids) :
    (l.map ρ).flatMap (treeOf (ids.map ρ) p' r' N) = (l.flatMap (treeOf ids p r N)).map ρ := by
  induction l with
  | nil => rfl
  | cons y l ih =>
    have hy := hl y List.mem_cons_self
    rw [List.map_cons, List.flatMap_cons, List.flatMap_cons, List.map_append, ih fun z hz => hl z (List.mem_cons_of_mem _ hz)]
    congr 1
    unfold treeOf
    rw [hr y hy, dfs_ren R hi hp ha _ y hy]
theorem laid_ren (R : Ren ρ D) (hi : ∀ x ∈ ids, x ∈ D) (hp : ∀ x ∈ ids, p' (ρ x) = (p x).map ρ) (ha : ∀ x ∈ ids, ∀ b, p x = some b → b = 0 ∨ b ∈ D) (hr : ∀ x ∈ ids, r' (ρ x) = r x) : laidOf (ids.map ρ) p' r' N = (laidOf ids p r N).map ρ := by
  unfold laidOf
  have k0 := kids_ren R hi hp ha (.inl rfl : (0 : Int) = 0 ∨ (0 : Int) ∈ D)
  rw [R.z] at k0
  rw [k0, loose_ren hp, ← List.map_append]
  refine tree_ren R hi hp ha hr _ fun y hy => ?_
  rcases List.mem_append.mp hy with h | h
  · exact (mem_kids.mp h).1
  · exact (List.mem_filter.mp h).1
theorem downs_ren (R : Ren ρ D) (hi : ∀ x ∈ ids, x ∈ D) (hp : ∀ x ∈ ids, p' (ρ x) = (p x).map ρ) (ha : ∀ x ∈ ids, ∀ b, p x = some b → b = 0 ∨ b ∈ D) (hr : ∀ x ∈ ids, r' (ρ x) = r x) {a : Int} (hA : a = 0 ∨ a ∈ D) : downs (ids.map ρ) p' r' N (ρ a) = (downs ids p r N a).map ρ := by
  unfold downs
  rw [kids_ren R hi hp ha hA]
  exact tree_ren R hi hp ha hr _ fun y hy => (mem_kids.mp hy).1
end
/-- the followers by the other names, in order -/
theorem fol_ren {ids : List Int} {ps : List (Int × Int)} {r r' : Int → Nat} {N : Nat} {a : Int} (h : downs (ids.map ρ) (anOf (ps.map (ren2 ρ))) r' N (ρ a) = (downs ids (anOf ps) r N a).map ρ) :
    folL (ids.map ρ) (ps.map (ren2 ρ)) r' N (ρ a) = ((folL ids ps r N a).map ρ).mergeSort leI := by
  unfold folL
  rw [h]
  exact sort_perm ((List.mergeSort_perm _ _).symm.map ρ)
end
/-! ### a walk over a list or a tuple -/
def SqS (K : PySem.W.Frag) (H : Hp) (a : Addr) (xs : List V) : Prop := SqL K H a xs ∨ SqT K H a xs
theorem SqS.same {K : PySem.W.Frag} {H H' : Hp} {a : Addr} {xs : List V} (s : Same H H') (h : SqS K H a xs) : SqS K H' a xs := h.imp (fun q => s.seq q) (fun q => Same.tq s q)
def iSeq (K : PySem.W.Frag) (tl : TE) : TI := fun σ H R => tl σ H fun x H1 => ∃ a xs, x = .ref a ∧ ((SqL K H1 a xs ∧ R (Itl K a) H1) ∨ (SqT K H1 a xs ∧ R (Itt K a) H1))
theorem pi_seq {X : Cx} {tg l : Expr} {tl : TE} (hl : PE X l tl) : PI X tg l (iSeq X.K tl) := by
  refine ⟨fun pins s σ H R I h => ?_⟩
  refine thn (hl.run pins s σ H _ I h) fun v s1 ⟨x, H1, I1, r1, q1⟩ => ?_
  obtain ⟨a, xs, e, q1⟩ := q1
  subst e
  cases r1
  rcases q1 with ⟨hq, q⟩ | ⟨hq, q⟩
  · obtain ⟨its, rv, p, hz⟩ := I1.list hq
    refine wpAny_pyIter_list p.isList ?_
    refine ⟨s1.heap.objs.size, [s1.heap.objs.size], _, _, H1, rfl, I1.kept (t' := s1.toks) fun b o e => Heap.get?_push_of_some _ e, turn_list a _, ⟨_, Heap.get?_push_size _ rfl, rfl, rfl⟩, fun b hb => ?_, q⟩
    have e : b = s1.heap.objs.size := by simpa using hb
    subst e
    exact I1.fpOk (Nat.le_refl _) (I1.hok.fresh (Nat.le_refl _))
  · obtain ⟨its, rv, p, hz⟩ := I1.tuple hq
    refine wpAny_pyIter_tuple (show s1.heap.IsTuple a its.toArray from p) ?_
    refine ⟨s1.heap.objs.size, [s1.heap.objs.size], _, _, H1, rfl, I1.kept (t' := s1.toks) fun b o e => Heap.get?_push_of_some _ e, turn_tuple a _, ⟨_, Heap.get?_push_size _ rfl, rfl, rfl⟩, fun b hb => ?_, q⟩
    have e : b = s1.heap.objs.size := by simpa using hb
    subst e
    exact I1.fpOk (Nat.le_refl _) (I1.hok.fresh (Nat.le_refl _))
/-- a comprehension over a list or a tuple -/
theorem lc_seq {K : PySem.W.Frag} {a : Addr} {xs : List V} {g : TG} {tt : TT} {te : TE} {vs : List Nat} {σ : L2.St} {H1 : Hp} {Rd : Addr → Hp → Prop} (hS : SqS K H1 a xs) (Pv : Addr → Nat → Hp → Prop) (h0 : ∀ D, H1 D = none → Pv D 0 (upd H1 D (.lst []))) (hl : ∀ D i H, i ≤ xs.length → Pv D i H → Same H1 H)
    (hs : ∀ D i x H, H1 D = none → xs[i]? = some x → Pv D i H → g x (wipe σ vs) H fun σ2 H2 => wipe σ2 vs = wipe σ vs ∧ tt σ2 H2 fun b H3 =>
      if b = true then te σ2 H3 fun y H4 => ∃ acc, H4 D = some (.lst acc) ∧ acc.length < sizeLine ∧ Pv D (i + 1) (upd H4 D (.lst (acc ++ [y]))) else Pv D (i + 1) H3) (hd : ∀ D H, H1 D = none → Pv D xs.length H → Rd D H) :
    (SqL K H1 a xs ∧ ∀ D, H1 D = none → ∃ W : Nat → Nat → Hp → Prop, (∃ m, W 0 m (upd H1 D (.lst []))) ∧ ∀ i m H, W i m H →
      ((Itl K a).stop i H ∧ Rd D H) ∨ ((Itl K a).go i H ∧ ∃ Nx : Hp → Prop, (∀ H', Nx H' → ∃ m', m' < m ∧ W (i + 1) m' H') ∧ ∀ x H', (Itl K a).yld i H x H' → g x (wipe σ vs) H' fun σ2 H2 => wipe σ2 vs = wipe σ vs ∧ tt σ2 H2 fun b H3 =>
        if b = true then te σ2 H3 fun y H4 => ∃ acc, H4 D = some (.lst acc) ∧ acc.length < sizeLine ∧ Nx (upd H4 D (.lst (acc ++ [y]))) else Nx H3)) ∨
    (SqT K H1 a xs ∧ ∀ D, H1 D = none → ∃ W : Nat → Nat → Hp → Prop, (∃ m, W 0 m (upd H1 D (.lst []))) ∧ ∀ i m H, W i m H →
      ((Itt K a).stop i H ∧ Rd D H) ∨ ((Itt K a).go i H ∧ ∃ Nx : Hp → Prop, (∀ H', Nx H' → ∃ m', m' < m ∧ W (i + 1) m' H') ∧ ∀ x H', (Itt K a).yld i H x H' → g x (wipe σ vs) H' fun σ2 H2 => wipe σ2 vs = wipe σ vs ∧ tt σ2 H2 fun b H3 =>
        if b = true then te σ2 H3 fun y H4 => ∃ acc, H4 D = some (.lst acc) ∧ acc.length < sizeLine ∧ Nx (upd H4 D (.lst (acc ++ [y]))) else Nx H3)) := by
  rcases hS with hS | hS
  · refine .inl ⟨hS, fun D hD => lc_it (walk_list (K := K) (a := a) (xs := xs)) (Pv D) (h0 D hD) (fun i H hi p => (hl D i H hi p).seq hS) ?_ fun H p => hd D H hD p⟩
    rintro i x H H' hi p ⟨rfl, hx⟩
    exact hs D i x H' hD hx p
  · refine .inr ⟨hS, fun D hD => lc_it (walk_tup (K := K) (a := a) (xs := xs)) (Pv D) (h0 D hD) (fun i H hi p => Same.tq (hl D i H hi p) hS) ?_ fun H p => hd D H hD p⟩
    rintro i x H H' hi p ⟨rfl, hx⟩
    exact hs D i x H' hD hx p
/-! ### is_chain -/
/-! ### a weight -/
section
variable {P : Program} {w : World} {K : PySem.W.Frag} {mg : Str → Option Value} {base : Heap}
def spLoad : Sp := fun vs H Q _ => ∃ (v : V) (x : Int) (wo : Option (List (Int × Int))), vs = [v, .int x] ∧ WtAt H v wo ∧ Q (.int (wtI wo x)) H
theorem scLoad : FnScope ["loads", "row_id"] ["loads", "row_id"] (defScope sLoad) := ⟨rfl, rfl, rfl, by decide +kernel, rfl, by decide +kernel, by decide +kernel⟩
theorem ok_load {f : Addr} {fd : FuncData} (F : Fun K "_law_load" "_law_load" sLoad f fd) : FnOk P w K mg base CX0 1 f fd ["loads", "row_id"] spLoad := by
  refine F.ok scLoad (fun vs H Q E h => ?_) (fun cdv A outer s H vs Q E hr h => ?_)
  · obtain ⟨v, x, wo, rfl, _⟩ := h
    rfl
  · obtain ⟨v, x, wo, rfl, hw, k⟩ := h
    have hu := hu_of hr
    refine ⟨_, pss_one (ps_ret (pe_ifExp (pt_cmpR op_isN (pv 0) pe_non (nomark _)) pe_int (pe_dget2 hu (pv 0) (pv 1) pe_int ⟨rfl, rfl, rfl, rfl⟩))), ?_⟩
    rcases hw with ⟨rfl, rfl⟩ | ⟨d, ws, rfl, rfl, hd⟩
    · exact ⟨_, rfl, rfl, _, rfl, iteT k⟩
    · refine ⟨_, rfl, rfl, _, rfl, iteF ?_⟩
      refine ⟨_, rfl, d, rfl, .inl ⟨_, .inl hd⟩, _, rfl, _, DGet.k (k := (.inl x : Key)) hd, ?_⟩
      have ev : (valV (pinK ws) (.inl x : Key)).getD (.int 1) = .int (wtI (some ws) x) := by
        rw [val_pin]
        show _ = V.int ((anOf ws x).getD 1)
        cases anOf ws x <;> rfl
      rw [ev]
      exact k
end
/-! ### dict([(k, n), ..]) -/
def PrL (H : Hp) (D : Addr) (es : List (Addr × Int × Int)) : Prop := H D = some (.lst (es.map fun e => .ref e.1)) ∧ ∀ e ∈ es, H e.1 = some (.tup [.int e.2.1, .int e.2.2])
theorem PrL.same {H H' : Hp} {D : Addr} {es : List (Addr × Int × Int)} (h : PrL H D es) (s : Same H H') : PrL H' D es := ⟨s _ _ h.1, fun e he => s _ _ (h.2 e he)⟩
theorem PrL.but {d : Addr} {H H' : Hp} {D : Addr} {es : List (Addr × Int × Int)} (Dk : DeckAt H d) (B : But d H H') (h : PrL H D es) : PrL H' D es := by
  obtain ⟨x, y, hd, _⟩ := Dk
  exact ⟨B _ _ (ne_of h.1 hd (fun z => by cases z)) h.1, fun e he => B _ _ (ne_of (h.2 e he) hd (fun z => by cases z)) (h.2 e he)⟩
theorem PrL.nil {H : Hp} {D : Addr} (h : H D = some (.lst [])) : PrL H D [] := ⟨h, fun e he => by cases he⟩
theorem PrL.push {H : Hp} {D t : Addr} {es : List (Addr × Int × Int)} {a b : Int} (h : PrL H D es) (ht : H t = some (.tup [.int a, .int b])) : PrL (upd H D (.lst ((es.map fun e => V.ref e.1) ++ [.ref t]))) D (es ++ [(t, a, b)]) := by
  refine ⟨by rw [upd_same, List.map_append]; rfl, fun e he => ?_⟩
  rcases List.mem_append.mp he with q | q
  · have := h.2 e q
    rw [upd_ne (ne_of this h.1 (fun z => by cases z))]; exact this
  · rw [List.mem_singleton.mp q]
    rw [upd_ne (ne_of ht h.1 (fun z => by cases z))]; exact ht
theorem PrL.paired {K : PySem.W.Frag} {H : Hp} : ∀ {es : List (Addr × Int × Int)}, (∀ e ∈ es, H e.1 = some (.tup [.int e.2.1, .int e.2.2])) → Paired (fun (p : Addr) (kv : Key × V) => SqT K H p [kV kv.1, kv.2]) (es.map fun e => e.1) (pinK (es.map fun e => e.2))
  | [], _ => .nil
  | e :: es, h => .cons (SqT.of (h e List.mem_cons_self)) (PrL.paired fun c hc => h c (List.mem_cons_of_mem _ hc))
theorem merge_pin {ps : List (Int × Int)} (nd : (ps.map Prod.fst).Nodup) : mergeK [] (pinK ps) = pinK ps := by
  have := merge_freshP (pinK ps) [] (by
    rw [List.nil_append]
    have e : (pinK ps).map Prod.fst = (ps.map Prod.fst).map (Sum.inl : Int → Key) := by unfold pinK; rw [List.map_map, List.map_map]; rfl
    rw [e]
    exact List.pairwise_map.mpr (nd.imp fun {a b} h e => h (Sum.inl.inj e)))
  rw [this, List.nil_append]
/-- what the call asks for, and what it gives -/
theorem dict_prs {K : PySem.W.Frag} {H : Hp} {D : Addr} {es : List (Addr × Int × Int)} {ps : List (Int × Int)} {Q : VK} (h : PrL H D es) (e : (es.map fun e => e.2) = ps) (nd : (ps.map Prod.fst).Nodup) (k : ∀ p, H p = none → Q (.ref p) (upd H p (.dK (pinK ps)))) :
    ∃ (a : Addr) (qs : List Addr) (kvs : List (Key × V)), [V.ref D] = [.ref a] ∧ SqL K H a (qs.map V.ref) ∧ Paired (fun p kv => SqT K H p [kV kv.1, kv.2]) qs kvs ∧ ∀ p, H p = none → Q (.ref p) (upd H p (.dK (mergeK [] kvs))) := by
  subst e
  refine ⟨D, es.map fun e => e.1, pinK (es.map fun e => e.2), rfl, SqL.of ?_, PrL.paired h.2, fun p hp => ?_⟩
  · rw [List.map_map]; exact h.1
  · rw [merge_pin nd]; exact k p hp
theorem wt_prs {ps : List (Int × Int)} {x : Int} {lo hi : Int} (hx : x ∈ ps.map Prod.fst) (hb : ∀ e ∈ ps, lo ≤ e.2 ∧ e.2 ≤ hi) : ∃ w, anOf ps x = some w ∧ wtI (some ps) x = w ∧ lo ≤ w ∧ w ≤ hi := by
  induction ps with
  | nil => cases hx
  | cons e ps ih =>
    by_cases c : e.1 = x
    · have ea : anOf (e :: ps) x = some e.2 := by
        unfold anOf
        rw [List.find?_cons_of_pos (by exact decide_eq_true c)]; rfl
      refine ⟨e.2, ea, ?_, hb e List.mem_cons_self⟩
      show (anOf (e :: ps) x).getD 1 = e.2
      rw [ea]; rfl
    · have ea : anOf (e :: ps) x = anOf ps x := by
        unfold anOf
        rw [List.find?_cons_of_neg (by exact fun z => c (of_decide_eq_true z))]
      rw [List.map_cons] at hx
      rcases List.mem_cons.mp hx with h | h
      · exact absurd h.symm c
      · obtain ⟨w, w1, w2, w3⟩ := ih h fun e he => hb e (List.mem_cons_of_mem _ he)
        refine ⟨w, by rw [ea]; exact w1, ?_, w3⟩
        show (anOf (e :: ps) x).getD 1 = w
        rw [ea]
        exact w2
theorem wtI_tab {f : Int → Int} {ids : List Int} {x : Int} (h : x ∈ ids) : wtI (some (tabP f ids)) x = f x := by
  show (anOf (tabP f ids) x).getD 1 = f x
  rw [tab_an h]; rfl
/-! ### the other names put in -/
section
variable {P : Program} {w : World} {K : PySem.W.Frag} {mg : Str → Option Value} {base : Heap}
def spNamed (K : PySem.W.Frag) : Sp := fun vs H Q _ => ∃ (n o : Addr) (ws : List (Int × Int)) (ids : List Int) (ρ : Int → Int), vs = [.ref n, .ref o] ∧ H n = some (.dK (pinK ws)) ∧ SqS K H o (ids.map V.int) ∧ ids.length ≤ 4000 ∧ (∀ x ∈ ids, anOf ws x = some (ρ x)) ∧
  ∀ (q : Addr) (H' : Hp), Same H H' → H q = none → H' q = some (.lst ((ids.map ρ).map V.int)) → Q (.ref q) H'
abbrev NNa : List Str := ["names", "ids", "row_id"]
theorem scNamed : FnScope NNa ["names", "ids"] (defScope sNamed) := ⟨rfl, rfl, rfl, by decide +kernel, rfl, by decide +kernel, by decide +kernel⟩
theorem ok_named {f : Addr} {fd : FuncData} (F : Fun K "_law_named" "_law_named" sNamed f fd) : FnOk P w K mg base CX0 1 f fd ["names", "ids"] (spNamed K) := by
  refine F.ok scNamed (fun vs H Q E h => ?_) (fun cdv A outer s H vs Q E hr h => ?_)
  · obtain ⟨n, o, ws, ids, ρ, rfl, _⟩ := h
    rfl
  · obtain ⟨n, o, ws, ids, ρ, rfl, hn, ho, hl, hρ, k⟩ := h
    have hu := hu_of hr
    refine ⟨_, pss_one (ps_ret (pe_lc (own := [("row_id", 2)]) (tt := tYes) (g := gName 2) rfl scNamed.nd (pi_seq (pv 1)) (blkOk_by (N := NNa) (sc := defScope sNamed) (by decide +kernel)) (fun _ _ _ _ _ => pg_name (i := 2) scNamed.nd rfl (Or.inl rfl))
        (fun _ _ _ _ _ => pts_nil) (fun _ _ _ _ _ => pe_dget hu (pv 0) (pv 2) (fun _ _ => rfl)))), ?_⟩
    have h16 : sizeLine = 16777216 := sizeLine_eq
    refine ⟨_, rfl, o, _, rfl, lc_seq ho (fun D j H' => Same H H' ∧ H' D = some (.lst (((ids.take j).map ρ).map V.int)) ∧ j ≤ ids.length) (fun D hD => ⟨Same.new hD, by rw [List.take_zero]; exact upd_same, Nat.zero_le _⟩) (fun D j H' _ z => z.1) ?_ ?_⟩
    · rintro D j y H' hD hy ⟨s1, hA, hjl⟩
      obtain ⟨x, hx, rfl⟩ := int_at hy
      have dg := DGet.k (k := (.inl x : Key)) (s1 _ _ hn)
      rw [val_pin, hρ x (List.mem_of_getElem? hx)] at dg
      refine ⟨rfl, _, rfl, _, rfl, n, _, rfl, dg, ?_⟩
      refine ⟨_, hA, by rw [List.length_map, List.length_map, List.length_take, h16]; omega, fun b u z => by rw [upd_ne (ne_of_none z hD)]; exact s1 _ _ z, ?_, (List.getElem?_eq_some_iff.mp hx).1⟩
      rw [upd_same, take_snoc hx, List.map_append, List.map_append]; rfl
    rintro D H1 hD ⟨s1, hA, _⟩
    rw [List.length_map, List.take_length] at hA
    exact k D H1 s1 hD hA
def spPinsNamed (K : PySem.W.Frag) : Sp := fun vs H Q _ => ∃ (n p : Addr) (ws ps : List (Int × Int)) (ρ : Int → Int), vs = [.ref n, .ref p] ∧ n ≠ p ∧ H n = some (.dK (pinK ws)) ∧ H p = some (.dK (pinK ps)) ∧ (ps.map Prod.fst).Nodup ∧ ps.length ≤ 300 ∧
  (∀ e ∈ ps, anOf ws e.1 = some (ρ e.1) ∧ anOf ws e.2 = some (ρ e.2)) ∧ ((ps.map (ren2 ρ)).map Prod.fst).Nodup ∧
  ∀ (q : Addr) (H' : Hp), Same H H' → H q = none → H' q = some (.dK (pinK (ps.map (ren2 ρ)))) → Q (.ref q) H'
abbrev NPn : List Str := ["names", "pins", "row_id"]
theorem scPinsNamed : FnScope NPn ["names", "pins"] (defScope sPinsNamed) := ⟨rfl, rfl, rfl, by decide +kernel, rfl, by decide +kernel, by decide +kernel⟩
theorem ok_pinsNamed {f : Addr} {fd : FuncData} (F : Fun K "_law_pins_named" "_law_pins_named" sPinsNamed f fd) (T : mg "dict" = none) : FnOk P w K mg base CX0 1 f fd ["names", "pins"] (spPinsNamed K) := by
  refine F.ok scPinsNamed (fun vs H Q E h => ?_) (fun cdv A outer s H vs Q E hr h => ?_)
  · obtain ⟨n, p, ws, ps, ρ, rfl, _⟩ := h
    rfl
  · obtain ⟨n, p, ws, ps, ρ, rfl, hne, hn, hp, nd, hl, hρ, nd2, k⟩ := h
    have hu := hu_of hr
    refine ⟨_, pss_one (ps_ret (pe_callTy (call_dictP rfl) (by rfl) T (by decide +kernel) (pa_cons (pe_lock (pe_lc (own := [("row_id", 2)]) (tt := tYes) (g := gName 2) rfl scPinsNamed.nd (pi_keys (pv 1)) (blkOk_by (N := NPn) (sc := defScope sPinsNamed) (by decide +kernel)) (fun _ _ _ _ _ => pg_name (i := 2) scPinsNamed.nd rfl (Or.inl rfl))
        (fun _ _ _ _ _ => pts_nil) (fun _ _ _ _ _ => pe_tup (pa_cons (pe_dget hu (pv 0) (pv 2) (fun _ _ => rfl)) (pa_cons (pe_dget hu (pv 0) (pe_dget hu (pv 1) (pv 2) (fun _ _ => rfl)) (fun _ _ => rfl)) pa_nil))))) pa_nil))), ?_⟩
    have h16 : sizeLine = 16777216 := sizeLine_eq
    refine ⟨p, _, hp, True.intro, fun od => ?_⟩
    obtain ⟨Hl, hHl⟩ : ∃ Hl, Hl = upd H p (.frz od (.dK (pinK ps))) := ⟨_, rfl⟩
    rw [← hHl]
    have hpl : Hl p = some (.frz od (.dK (pinK ps))) := by rw [hHl]; exact upd_same
    have hnl : Hl n = some (.dK (pinK ws)) := by rw [hHl, upd_ne hne]; exact hn
    refine ⟨_, rfl, p, od, rfl, .inl ⟨pinK ps, hpl, fun D hD => ?_⟩⟩
    refine lc_it (walk_keys (d := p) (o := od) (kvs := pinK ps)) (fun i H' => ∃ es : List (Addr × Int × Int), PrL H' D es ∧ (es.map fun e => e.2) = (ps.take i).map (ren2 ρ) ∧ Same Hl H' ∧ i ≤ ps.length)
      ⟨[], PrL.nil upd_same, by rw [List.take_zero]; rfl, Same.new hD, Nat.zero_le _⟩ (fun i H' _ z => by obtain ⟨es, _, _, z, _⟩ := z; exact z _ _ hpl) ?_ ?_
    · rintro i y H1 H2 hi ⟨es, R1, e1, s1, hil⟩ ⟨rfl, ky, v, hkv, rfl⟩
      rw [pin_len] at hi
      obtain ⟨e, he, hke, hve⟩ : ∃ e, ps[i]? = some e ∧ ky = .inl e.1 ∧ v = .int e.2 := by
        unfold pinK at hkv
        rw [List.getElem?_map, List.getElem?_eq_getElem hi] at hkv
        have q := Option.some.inj hkv
        exact ⟨ps[i], List.getElem?_eq_getElem hi, (congrArg Prod.fst q).symm, (congrArg Prod.snd q).symm⟩
      subst hke
      subst hve
      have hem := List.mem_of_getElem? he
      have dn : ∀ {z b : Int}, anOf ws z = some b → DGet H2 n (.int z) (some (.int b)) := fun {z b} h => by
        have := DGet.k (k := (.inl z : Key)) (s1 _ _ hnl)
        rw [val_pin, h] at this
        exact this
      have dp : DGet H2 p (.int e.1) (some (.int e.2)) := .inl ⟨pinK ps, .inl e.1, .inr ⟨od, s1 _ _ hpl⟩, rfl, by rw [val_pin, show anOf ps e.1 = some e.2 from find_mem nd hem]; rfl⟩
      refine ⟨rfl, _, rfl, _, rfl, n, _, rfl, dn (hρ e hem).1, _, rfl, _, rfl, _, rfl, p, _, rfl, dp, n, _, rfl, dn (hρ e hem).2, by show 2 ≤ sizeLine; decide, fun t ht => ?_⟩
      have st := Same.new (o := .tup [V.int (ρ e.1), V.int (ρ e.2)]) ht
      have hTt : upd H2 t (.tup [V.int (ρ e.1), V.int (ρ e.2)]) t = some (.tup [V.int (ρ e.1), V.int (ρ e.2)]) := upd_same
      have R4 := R1.same st
      have s4 := s1.trans st
      generalize (upd H2 t (.tup [V.int (ρ e.1), V.int (ρ e.2)]) : Hp) = H4 at st hTt R4 s4 ⊢
      have hel : es.length = i := by
        have := congrArg List.length e1
        rw [List.length_map, List.length_map, List.length_take] at this
        omega
      refine ⟨_, R4.1, by rw [List.length_map, h16]; omega, es ++ [(t, ρ e.1, ρ e.2)], R4.push hTt, ?_, fun b o z => by rw [upd_ne (ne_of_none z hD)]; exact s4 _ _ z, hi⟩
      rw [List.map_append, e1, take_snoc he, List.map_append]; rfl
    rintro H1 ⟨es, R1, e1, s1, _⟩
    rw [pin_len, List.take_length] at e1
    have hpD : D ≠ p := (ne_of_none hpl hD).symm
    refine ⟨s1 _ _ hpl, ?_⟩
    -- as it was
    have s2 : Same H (upd H1 p (.dK (pinK ps))) := fun c u z => by
      by_cases e : c = p
      · rw [e, upd_same, ← hp, ← e]; exact z
      · rw [upd_ne e]
        exact s1 _ _ (by rw [hHl, upd_ne e]; exact z)
    have R2 : PrL (upd H1 p (.dK (pinK ps))) D es := by
      refine ⟨by rw [upd_ne hpD]; exact R1.1, fun e he => ?_⟩
      have := R1.2 e he
      rw [upd_ne (ne_of this (s1 _ _ hpl) (fun z => by cases z))]; exact this
    generalize (upd H1 p (.dK (pinK ps)) : Hp) = H2 at s2 R2 ⊢
    refine dict_prs R2 e1 nd2 fun q hq => ?_
    exact k q _ (s2.trans (Same.new hq)) (Same.free s2 hq) upd_same
end
/-! ### defs by their promises -/
structure Fn (K : PySem.W.Frag) (mg : Str → Option Value) (x : Str) (st : Stmt) (ps : List Str) (f : Addr) (fd : FuncData) : Prop where
  F : Fun K x x st f fd
  b : L2.Binds K fd ps []
  m : mg x = some (.ref f)
def rv (sp : Sp) : Sp := fun vs => sp vs.reverse
/-- a def with keyword-only parameters that all have defaults: called without them, or with all of them -/
structure FnD (P : Program) (w : World) (K : PySem.W.Frag) (mg : Str → Option Value) (base : Heap) (k n : Nat) (x : Str) (ps ks : List Str) (dvs : List V) (sp : Sp) (f : Addr) (fd : FuncData) : Prop where
  G : FnOk P w K mg base CX0 k f fd ps sp
  kp : PySem.W.keepIn K (.ref f) = true
  m : mg x = some (.ref f)
  d : ∃ ds, Vals dvs ds ∧ L2.Binds K fd ps ds
  b : KBn K fd ps n ks (fun us ws => us ++ ws) (fun vs zs => vs ++ zs)
/-! ### all that is told of two orders -/
structure FactsAt (H : Hp) (T p : Addr) (best laid : List Int) (cov : List (Int × List Int)) (made : List (Int × Int)) (f c m m1 b1 b2 : Addr) : Prop where
  top : H T = some (.tup [.ref f, .ref c, .ref m])
  two : H f = some (.lst [.ref b1, .ref b2])
  best : H b1 = some (.lst (best.map V.int))
  laid : H b2 = some (.lst (laid.map V.int))
  cov : RunsAt H c cov
  pins : H m = some (.lst [.ref m1, .ref p])
  made : H m1 = some (.dK (pinK made))
theorem FactsAt.same {H H' : Hp} {T p : Addr} {best laid : List Int} {cov : List (Int × List Int)} {made : List (Int × Int)} {f c m m1 b1 b2 : Addr} (h : FactsAt H T p best laid cov made f c m m1 b1 b2) (s : Same H H') : FactsAt H' T p best laid cov made f c m m1 b1 b2 :=
  ⟨s _ _ h.top, s _ _ h.two, s _ _ h.best, s _ _ h.laid, h.cov.same s, s _ _ h.pins, s _ _ h.made⟩
abbrev covW (js ids : List Int) (wo : Option (List (Int × Int))) : List (Int × List Int) := covF ids (topI (ixI js) (wtI wo) ids) fun x => topI (ixI js) (wtI wo) ids x - wtI wo x
abbrev bestW (js ids fav : List Int) (wo : Option (List (Int × Int))) : List Int := bestF js ids (worthI wo ids.length fav)
section
variable {P : Program} {w : World} {K : PySem.W.Frag} {mg : Str → Option Value} {base : Heap}
def spFacts (K : PySem.W.Frag) : Sp := fun vs H Q _ => ∃ (b g fv p : Addr) (v : V) (js ids fav : List Int) (wo : Option (List (Int × Int))) (ps : List (Int × Int)) (r : Int → Nat) (N : Nat), vs = [.ref b, .ref g, v, .ref fv, .ref p] ∧ SqL K H b (js.map V.int) ∧ SqL K H g (ids.map V.int) ∧ WtAt H v wo ∧
  (SqL K H fv (fav.map V.int) ∨ SqT K H fv (fav.map V.int)) ∧ fav.length ≤ 4000 ∧ js.Nodup ∧ js.length ≤ 300 ∧ ids.Nodup ∧ ids.length ≤ 300 ∧ (∀ x ∈ ids, x ∈ js) ∧ (∀ x ∈ ids, (wtI wo x).natAbs < 2 ^ 300) ∧ H p = some (.dK (pinK ps)) ∧ Forest js (anOf ps) r N ∧
  ∀ (T f c m m1 b1 b2 : Addr) (H' : Hp), Same H H' → H m1 = none → FactsAt H' T p (bestW js ids fav wo) (laidOf js (anOf ps) r N) (covW js ids wo) (leastP ids (bestW js ids fav wo)) f c m m1 b1 b2 → Q (.ref T) H'
abbrev NFc : List Str := ["base", "goal", "loads", "liked", "pins", "made", "found"]
abbrev Wq78 : List Str := ["base", "goal", "weights", "favoured"]
theorem scFacts : FnScope NFc ["base", "goal", "loads", "liked", "pins"] (defScope sFacts) := ⟨rfl, rfl, rfl, by decide +kernel, rfl, by decide +kernel, by decide +kernel⟩
theorem ok_facts {f fL fB fA fV eL eB : Addr} {fd fdL fdB fdA fdV : FuncData} (F : Fun K "_law_facts" "_law_facts" sFacts f fd)
    (Le : FnD P w K mg base 4 2 "least_pins" Wq78 ["weights", "favoured"] [.non, .ref eL] (spLeast K) fL fdL)
    (Be : FnD P w K mg base 3 2 "best_straight" Wq78 ["weights", "favoured"] [.non, .ref eB] (spBest K) fB fdB)
    (La : Fn K mg "lay" sLay ["base", "pins"] fA fdA) (GLa : FnOk P w K mg base CX0 2 fA fdA ["base", "pins"] (spLay K))
    (Cv : FnD P w K mg base 3 2 "level_cover" ["base", "goal", "weights"] ["weights"] [.non] (spCover K) fV fdV) : FnOk P w K mg base CX0 5 f fd ["base", "goal", "loads", "liked", "pins"] (spFacts K) := by
  refine F.ok scFacts (fun vs H Q E h => ?_) (fun cdv A outer s H vs Q E hr h => ?_)
  · obtain ⟨b, g, fv, p, v, js, ids, fav, wo, ps, r, N, rfl, _⟩ := h
    rfl
  · obtain ⟨b, g, fv, p, v, js, ids, fav, wo, ps, r, N, rfl, hb, hg, hw, hf, hfl, nj, lj, ni, li, sub, hwb, hp, Fo, k⟩ := h
    have hr2 : Room 2 _ := hr.mono (by decide)
    have hr3 : Room 3 _ := hr.mono (by decide)
    refine ⟨_, pss_cons (ps_set (i := 5) scFacts.nd rfl (Or.inl rfl) (pe_callN Le.G hr rfl Le.m Le.kp Le.b pass0 (pa_cons (pv 0) (pa_cons (pv 1) pa_nil)) (pk_cons (pv 2) (pk_cons (pv 3) pk_nil))))
      (pss_cons (ps_set (i := 6) scFacts.nd rfl (Or.inl rfl) (pe_lst (pa_cons (pe_callN Be.G hr3 rfl Be.m Be.kp Be.b pass0 (pa_cons (pv 0) (pa_cons (pv 1) pa_nil)) (pk_cons (pv 2) (pk_cons (pv 3) pk_nil))) (pa_cons (pe_call GLa hr2 rfl La.m La.F.kp La.b .nil pass0 (pa_cons (pv 0) (pa_cons (pv 4) pa_nil))) pa_nil))))
      (pss_one (ps_ret (pe_tup (pa_cons (pv 6) (pa_cons (pe_callN Cv.G hr3 rfl Cv.m Cv.kp Cv.b pass0 (pa_cons (pv 0) (pa_cons (pv 1) pa_nil)) (pk_cons (pv 2) pk_nil)) (pa_cons (pe_lst (pa_cons (pv 5) (pa_cons (pv 4) pa_nil))) pa_nil))))))), ?_⟩
    have h16 : sizeLine = 16777216 := sizeLine_eq
    have tf : ∀ {H' : Hp}, Same H H' → SqL K H' fv (fav.map V.int) ∨ SqT K H' fv (fav.map V.int) := fun s => hf.imp (fun q => s.seq q) (fun q => Same.tq s q)
    refine ⟨_, rfl, _, rfl, _, rfl, _, rfl, rfl, rfl, b, g, fv, v, js, ids, fav, wo, rfl, hb, hg, hw, hf, hfl, nj, lj, ni, li, sub, hwb, fun m1 H1 s1 hm1 hM1 => ?_⟩
    refine ⟨_, rfl, _, rfl, _, rfl, _, rfl, rfl, rfl, b, g, fv, v, js, ids, fav, wo, rfl, s1.seq hb, s1.seq hg, hw.same s1, tf s1, hfl, nj, lj, ni, li, sub, hwb, fun b1 H2 s2 hb1 hB1 => ?_⟩
    have z2 := s1.trans s2
    refine ⟨_, rfl, _, rfl, b, p, js, ps, r, N, rfl, z2.seq hb, z2 _ _ hp, Fo, lj, fun b2 H3 s3 hb2 hB2 => ?_⟩
    have z3 := z2.trans s3
    refine ⟨by rw [h16]; show 2 ≤ 16777216; decide, fun fo hfo => ?_⟩
    have s4 := Same.new (o := .lst [V.ref b1, V.ref b2]) hfo
    have hF4 : upd H3 fo (.lst [V.ref b1, V.ref b2]) fo = some (.lst [V.ref b1, V.ref b2]) := upd_same
    have z4 := z3.trans s4
    generalize (upd H3 fo (.lst [V.ref b1, V.ref b2]) : Hp) = H4 at s4 hF4 z4 ⊢
    refine ⟨_, rfl, _, rfl, _, rfl, _, rfl, rfl, rfl, b, g, v, js, ids, wo, rfl, z4.seq hb, z4.seq hg, hw.same z4, nj, lj, ni, li, sub, fun c H5 s5 hc hC => ?_⟩
    have z5 := z4.trans s5
    refine ⟨_, rfl, _, rfl, by rw [h16]; show 2 ≤ 16777216; decide, fun m hm => ?_⟩
    have s6 := Same.new (o := .lst [V.ref m1, V.ref p]) hm
    have hM6 : upd H5 m (.lst [V.ref m1, V.ref p]) m = some (.lst [V.ref m1, V.ref p]) := upd_same
    have z6 := z5.trans s6
    generalize (upd H5 m (.lst [V.ref m1, V.ref p]) : Hp) = H6 at s6 hM6 z6 ⊢
    refine ⟨by rw [h16]; show 3 ≤ 16777216; decide, fun T hT => ?_⟩
    have s7 := Same.new (o := .tup [V.ref fo, V.ref c, V.ref m]) hT
    have hT7 : upd H6 T (.tup [V.ref fo, V.ref c, V.ref m]) T = some (.tup [V.ref fo, V.ref c, V.ref m]) := upd_same
    have z7 := z6.trans s7
    generalize (upd H6 T (.tup [V.ref fo, V.ref c, V.ref m]) : Hp) = H7 at s7 hT7 z7 ⊢
    have s57 := s5.trans (s6.trans s7)
    exact k T fo c m m1 b1 b2 H7 z7 hm1 ⟨hT7, s57 _ _ hF4, s57 _ _ (s4 _ _ (s3 _ _ hB1)), s57 _ _ (s4 _ _ hB2), (hC.same s6).same s7, s7 _ _ hM6, s57 _ _ (s4 _ _ (s3 _ _ (s2 _ _ hM1)))⟩
end
/-! ### a list of lists of ints -/
def RowsAt (H : Hp) (a : Addr) (rows : List (List Int)) : Prop := ∃ ps : List Addr, H a = some (.lst (ps.map V.ref)) ∧ ps.length = rows.length ∧ (∀ (i : Nat) (p : Addr) (r : List Int), ps[i]? = some p → rows[i]? = some r → H p = some (.lst (r.map V.int)) ∧ p ≠ a)
theorem same_but {A B C : Hp} {d : Addr} (s : Same A B) (n : A d = none) (b : But d B C) : Same A C := fun p o e => b p o (ne_of_none e n) (s p o e)
theorem DVs.rows {K : PySem.W.Frag} {H : Hp} : ∀ {ps : List Addr} {rows : List (List Int)}, ps.length = rows.length → (∀ (i : Nat) (p : Addr) (r : List Int), ps[i]? = some p → rows[i]? = some r → H p = some (.lst (r.map V.int))) → DVs K H (ps.map V.ref) (rows.map fun r => .list (r.map .int))
  | [], [], _, _ => .nil
  | [], _ :: _, h, _ => by cases h
  | _ :: _, [], h, _ => by cases h
  | p :: ps, r :: rows, hl, h => .cons (.lst (SqL.of (h 0 p r rfl rfl)) (DVs.intsR r)) (DVs.rows (Nat.succ.inj hl) fun i q t h1 h2 => h (i + 1) q t h1 h2)
where
  DVs.intsR {K : PySem.W.Frag} {H : Hp} : ∀ ks : List Int, DVs K H (ks.map V.int) (ks.map PyData.int)
    | [] => .nil
    | k :: r => .cons (.int k) (DVs.intsR r)
theorem RowsAt.dv {K : PySem.W.Frag} {H : Hp} {a : Addr} {rows : List (List Int)} (R : RowsAt H a rows) : DV K H (.ref a) (.list (rows.map fun r => .list (r.map .int))) := by
  obtain ⟨ps, h1, h2, h3⟩ := R
  exact .lst (SqL.of h1) (DVs.rows h2 fun i p r e1 e2 => (h3 i p r e1 e2).1)
theorem RowsAt.nil {H : Hp} {a : Addr} (h : H a = some (.lst [])) : RowsAt H a [] := ⟨[], h, rfl, fun i p r e _ => by simp at e⟩
theorem RowsAt.same {H H' : Hp} {a : Addr} {rows : List (List Int)} (R : RowsAt H a rows) (s : Same H H') : RowsAt H' a rows := by
  obtain ⟨ps, h1, h2, h3⟩ := R
  exact ⟨ps, s _ _ h1, h2, fun i p r e1 e2 => ⟨s _ _ (h3 i p r e1 e2).1, (h3 i p r e1 e2).2⟩⟩
theorem RowsAt.but {H H' : Hp} {a d : Addr} {rows : List (List Int)} (R : RowsAt H a rows) (s : But d H H') (n : H d = none) : RowsAt H' a rows := R.same fun b o e => s b o (ne_of_none e n) e
/-- one more behind it -/
theorem RowsAt.push {H : Hp} {a p : Addr} {rows : List (List Int)} {r : List Int} (R : RowsAt H a rows) (hp : H p = some (.lst (r.map V.int))) (hne : p ≠ a) :
    ∃ xs, H a = some (.lst xs) ∧ xs.length = rows.length ∧ RowsAt (upd H a (.lst (xs ++ [.ref p]))) a (rows ++ [r]) := by
  obtain ⟨ps, h1, h2, h3⟩ := R
  refine ⟨ps.map V.ref, h1, by rw [List.length_map, h2], ps ++ [p], ?_, ?_, fun i q t e1 e2 => ?_⟩
  · rw [upd_same, List.map_append]; rfl
  · rw [List.length_append, List.length_append, h2]; rfl
  · by_cases hi : i < ps.length
    · rw [List.getElem?_append_left hi] at e1
      rw [List.getElem?_append_left (by omega)] at e2
      obtain ⟨z1, z2⟩ := h3 i q t e1 e2
      exact ⟨by rw [upd_ne z2]; exact z1, z2⟩
    · rw [List.getElem?_append_right (by omega)] at e1
      rw [List.getElem?_append_right (by omega)] at e2
      have hj : i - ps.length = 0 := by
        cases z : i - ps.length with
        | zero => rfl
        | succ m => rw [z] at e1; simp at e1
      rw [hj] at e1
      rw [show i - rows.length = 0 by omega] at e2
      simp at e1 e2
      subst e1; subst e2
      exact ⟨by rw [upd_ne hne]; exact hp, hne⟩
theorem rok_rows {rows : List (List Int)} (h : ∀ r ∈ rows, r.length ≤ 10 ∧ ∀ z ∈ r, 0 ≤ z ∧ z ≤ 1000000) (hl : rows.length ≤ 20) : Rok (.list (rows.map fun r => .list (r.map .int))) := by
  have hm : modAll (rows.map fun r => .list (r.map .int)) = true ∧ PyData.depthAll (rows.map fun r => .list (r.map .int)) ≤ 10 ∧ szAll (rows.map fun r => .list (r.map .int)) ≤ rows.length * 4000 := by
    clear hl
    induction rows with
    | nil => exact ⟨by rw [List.map_nil, modAll], by rw [List.map_nil, PyData.depthAll]; decide, by rw [List.map_nil, szAll]; omega⟩
    | cons r rows ih =>
      obtain ⟨i1, i2, i3⟩ := ih fun r hr => h r (List.mem_cons_of_mem _ hr)
      obtain ⟨j1, j2⟩ := h r List.mem_cons_self
      refine ⟨?_, ?_, ?_⟩
      · rw [List.map_cons, modAll, modD, modAll_ints r fun z hz => small_abs (by have := j2 z hz; omega) (by have := j2 z hz; omega), i1]; rfl
      · have := depthAll_ints r
        rw [List.map_cons, PyData.depthAll, PyData.depth]
        omega
      · rw [List.map_cons, szAll, szD, szAll_ints, List.length_cons]
        omega
  obtain ⟨m1, m2, m3⟩ := hm
  refine ⟨?_, ?_, ?_⟩
  · rw [modD]; exact m1
  · rw [PyData.depth]; omega
  · rw [szD]; omega
/-! ### d != e of dicts of numbers -/
def sameD (ps qs : List (Int × Int)) : Bool := ps.length == qs.length && ps.all fun e => anOf qs e.1 == some e.2
theorem val_rel {kvs : List (Key × V)} {vs : List (Key × Value)} (h : KV kvs vs) (k : Key) : (valV kvs k = none ∧ PySem.valueAt vs k = none) ∨ ∃ v u, valV kvs k = some v ∧ PySem.valueAt vs k = some u ∧ L2.RelV v u := by
  induction h with
  | nil => exact .inl ⟨rfl, rfl⟩
  | cons hab tt ih =>
    rename_i a b l1 l2
    unfold valV PySem.valueAt at ih ⊢
    by_cases c : a.1 = k
    · rw [List.find?_cons_of_pos (by exact decide_eq_true c), List.find?_cons_of_pos (by exact decide_eq_true (hab.1 ▸ c))]
      exact .inr ⟨a.2, b.2, rfl, rfl, hab.2⟩
    · rw [List.find?_cons_of_neg (by exact fun z => c (of_decide_eq_true z)), List.find?_cons_of_neg (by exact fun z => c (hab.1.trans (of_decide_eq_true z)))]
      exact ih
theorem hits_pin {A : Around} {s : Shared} {qs : List (Int × Int)} {kb : List (Key × Value)} (hb : KV (pinK qs) kb) : ∀ (ps : List (Int × Int)) (ka : List (Key × Value)), KV (pinK ps) ka → PySem.W.KeqHits A s kb ka (ps.all fun e => anOf qs e.1 == some e.2)
  | [], ka, h => by
    cases h
    exact .nil
  | e :: ps, ka, h => by
    cases h with
    | cons hab t =>
      rename_i b l2
      obtain ⟨k, v⟩ := b
      obtain ⟨h1, tk, h2⟩ := hab
      obtain rfl : (Sum.inl e.1 : Key) = k := h1
      have h2 : v = .int e.2 tk := h2
      subst h2
      have ih := hits_pin (A := A) (s := s) hb ps l2 t
      rw [List.all_cons]
      rcases val_rel hb (.inl e.1 : Key) with ⟨n1, n2⟩ | ⟨x, u, n1, n2, n3⟩
      · rw [val_pin] at n1
        have : anOf qs e.1 = none := by
          cases q : anOf qs e.1 with
          | none => rfl
          | some z => rw [q] at n1; cases n1
        rw [this]
        exact .miss n2
      · rw [val_pin] at n1
        cases q : anOf qs e.1 with
        | none => rw [q] at n1; cases n1
        | some z =>
          rw [q] at n1
          obtain rfl : V.int z = x := Option.some.inj n1
          obtain ⟨t2, rfl⟩ := n3
          have ez : (some z == some e.2) = (e.2 == z) := by
            show (z == e.2) = (e.2 == z)
            exact Bool.eq_iff_iff.mpr ⟨fun w => beq_iff_eq.mpr (beq_iff_eq.mp w).symm, fun w => beq_iff_eq.mpr (beq_iff_eq.mp w).symm⟩
          rw [ez]
          exact .hit n2 (SeqAt.EqAt.int_int _ _ _ _) ih
def rNeDk : R2 := fun x y H Q => ∃ (p q : Addr) (ps qs : List (Int × Int)), x = .ref p ∧ y = .ref q ∧ H p = some (.dK (pinK ps)) ∧ H q = some (.dK (pinK qs)) ∧ Q (.bl (!sameD ps qs)) H
theorem op_neDk {X : Cx} (hu : X.A.units < cLine) : OpR X (compareOp .NotEq) rNeDk := by
  intro pins s σ H x y v u Q I rx ry h
  obtain ⟨p, q, ps, qs, rfl, rfl, hp, hq, k⟩ := h
  cases rx
  cases ry
  obtain ⟨_, s1, ka, r1, d1⟩ := dk_of I.hok hp
  obtain ⟨_, s2, kb, r2, d2⟩ := dk_of I.hok hq
  refine PySem.W.keq_ne s1 s2 d1 d2 hu (fun _ => hits_pin r2 ps ka r1) ⟨.bl _, H, I, rfl, ?_⟩
  have e1 : ka.length = ps.length := by rw [← Paired.length r1]; unfold pinK; rw [List.length_map]
  have e2 : kb.length = qs.length := by rw [← Paired.length r2]; unfold pinK; rw [List.length_map]
  rw [e1, e2]
  exact k
theorem same_refl {ps : List (Int × Int)} (nd : (ps.map Prod.fst).Nodup) : sameD ps ps = true := by
  unfold sameD
  rw [beq_self_eq_true, Bool.true_and]
  refine List.all_eq_true.mpr fun e he => ?_
  rw [beq_iff_eq]
  induction ps with
  | nil => cases he
  | cons q ps ih =>
    rw [List.map_cons, List.nodup_cons] at nd
    unfold anOf
    rcases List.mem_cons.mp he with rfl | h
    · rw [List.find?_cons_of_pos (by exact decide_eq_true rfl)]; rfl
    · have hne : ¬ q.1 = e.1 := fun z => nd.1 (by rw [z]; exact List.mem_map.mpr ⟨e, h, rfl⟩)
      rw [List.find?_cons_of_neg (by exact fun z => hne (of_decide_eq_true z))]
      exact ih nd.2 h
/-! ### lists of dicts of numbers that are equal: != -/
theorem pin_pairs {P P' : Program} {w w' : World} {es : List PySem.DictEntry} {ka : List (Key × Value)} (h : PySem.Pairs (mixKind P w) es ka) : PySem.Pairs (mixKind P' w') es ka := by
  induction h with
  | nil => exact .nil
  | cons a b _ ih => exact .cons a b ih
theorem pin_keysOf {P P' : Program} {w w' : World} : ∀ {es : List PySem.DictEntry} {ka : List (Key × Value)}, PySem.Pairs (mixKind P w) es ka → (∀ kv ∈ ka, ∃ i : Int, kv.1 = .inl i) → (∀ e ∈ es, ∃ k, (mixKind P w).is k e.key = true ∧ e.hash = (mixKind P w).hash k) → ∀ e ∈ es, ∃ k, (mixKind P' w').is k e.key = true ∧ e.hash = (mixKind P' w').hash k := by
  intro es ka h
  induction h with
  | nil => intro _ _ e he; cases he
  | @cons e0 kv es kvs h1 h2 _ ih =>
    intro hk hh e he
    rcases List.mem_cons.mp he with q | q
    · subst q
      obtain ⟨i, hi⟩ := hk kv List.mem_cons_self
      obtain ⟨k, q1, q2⟩ := hh e List.mem_cons_self
      have e1 : k = kv.1 := (mixKind P w).inj e.key k kv.1 q1 h1
      subst e1
      rw [hi] at q1 q2
      exact ⟨.inl i, q1, q2⟩
    · exact ih (fun kv hkv => hk kv (List.mem_cons_of_mem _ hkv)) (fun e he => hh e (List.mem_cons_of_mem _ he)) e q
theorem pin_dictOf {P P' : Program} {w w' : World} {h : PySem.Heap} {a : Addr} {ka : List (Key × Value)} (hk : ∀ kv ∈ ka, ∃ i : Int, kv.1 = .inl i) (d : h.DictOf (mixKind P w) a ka) : h.DictOf (mixKind P' w') a ka := by
  obtain ⟨o, es, ep, h1, h2, h3, h4, h5, h6⟩ := d
  refine ⟨o, es, ep, h1, h2, h3, fun e he => ?_, pin_pairs h5, h6⟩
  exact pin_keysOf (P := P) (w := w) h5 hk (fun e he => h4 e (Array.mem_toList_iff.mp he)) e (Array.mem_toList_iff.mpr he)
theorem pin_inl {ps : List (Int × Int)} {ka : List (Key × Value)} (h : KV (pinK ps) ka) : ∀ kv ∈ ka, ∃ i : Int, kv.1 = .inl i := by
  induction ps generalizing ka with
  | nil => cases h; intro kv hkv; cases hkv
  | cons e ps ih =>
    cases h with
    | cons hab t =>
      intro kv hkv
      rcases List.mem_cons.mp hkv with q | q
      · subst q
        exact ⟨e.1, hab.1.symm⟩
      · exact ih t kv q
section
variable {X : Cx} {pins : List (Addr × Obj)} {σ : L2.St} {H : Hp} {s : Shared}
theorem pins_eqAt (I : L2.Inv X pins σ H s) {p q : Addr} {ps qs : List (Int × Int)} {A : Around} (hu : A.units < cLine) (hp : H p = some (.dK (pinK ps))) (hq : H q = some (.dK (pinK qs))) (e : sameD ps qs = true) : SeqAt.EqAt A s (.ref p) (.ref q) true := by
  by_cases c : p = q
  · subst c
    exact SeqAt.EqAt.same _
  · refine SeqAt.EqAt.of_refs c fun prog w E Q hQ => ?_
    obtain ⟨_, s1, ka, r1, d1⟩ := dk_of I.hok hp
    obtain ⟨_, s2, kb, r2, d2⟩ := dk_of I.hok hq
    refine PySem.W.keq_eq (knd := mixKind prog w) (r := ps.all fun e => anOf qs e.1 == some e.2) s1 s2 (pin_dictOf (pin_inl r1) d1) (pin_dictOf (pin_inl r2) d2) hu (fun _ => hits_pin r2 ps ka r1) ?_
    have e1 : ka.length = ps.length := by rw [← Paired.length r1]; unfold pinK; rw [List.length_map]
    have e2 : kb.length = qs.length := by rw [← Paired.length r2]; unfold pinK; rw [List.length_map]
    rw [e1, e2]
    unfold sameD at e
    rw [e]
    exact hQ
end
def rNeLDk (K : PySem.W.Frag) : R2 := fun x y H Q => ∃ (a b : Addr) (us vs : List Addr), x = .ref a ∧ y = .ref b ∧ SqL K H a (us.map V.ref) ∧ SqL K H b (vs.map V.ref) ∧ us.length = vs.length ∧
  (∀ (i : Nat) (p q : Addr), us[i]? = some p → vs[i]? = some q → ∃ ps qs, H p = some (.dK (pinK ps)) ∧ H q = some (.dK (pinK qs)) ∧ sameD ps qs = true) ∧ Q (.bl false) H
theorem refs_at : ∀ {us : List Addr} {xs : List Value}, Vals (us.map V.ref) xs → ∀ j (h : j < xs.length), ∃ p, us[j]? = some p ∧ xs[j] = .ref p
  | [], xs, r, j, h => by cases r; exact absurd h (Nat.not_lt_zero j)
  | u :: us, xs, r, j, h => by
    cases r with
    | cons a t =>
      cases j with
      | zero => exact ⟨u, rfl, a⟩
      | succ j =>
        obtain ⟨p, h1, h2⟩ := refs_at t j (Nat.lt_of_succ_lt_succ h)
        exact ⟨p, h1, h2⟩
theorem op_neLDk {X : Cx} (hu : X.A.units + 64 < cLine) : OpR X (compareOp .NotEq) (rNeLDk X.K) := by
  intro pins s σ H x y v u Q I rx ry h
  obtain ⟨a, b, us, vs, rfl, rfl, ha, hb, hl, hd, k⟩ := h
  cases (show v = Value.ref a from rx)
  cases (show u = Value.ref b from ry)
  obtain ⟨xs, r1, p1, _⟩ := I.list ha
  obtain ⟨ys, r2, p2, _⟩ := I.list hb
  have hsz : xs.toArray.size = ys.toArray.size := by
    rw [List.size_toArray, List.size_toArray, ← r1.length, ← r2.length, List.length_map, List.length_map, hl]
  have hall : ((List.range xs.toArray.size).all fun _ => true) = true := List.all_eq_true.mpr fun _ _ => rfl
  refine SeqAt.RcNeAt.lists (e := fun _ => true) p1.isList p2.isList hsz (by omega) (fun j h1 h2 => ?_) X.prog X.w _ _ ?_
  · obtain ⟨p, q1, q2⟩ := refs_at r1 j (by simpa using h1)
    obtain ⟨q, q3, q4⟩ := refs_at r2 j (by simpa using h2)
    obtain ⟨ps, qs, z1, z2, z3⟩ := hd j p q q1 q3
    have := pins_eqAt I (A := X.A.in1) (by show X.A.units + 1 < cLine; omega) z1 z2 z3
    rw [← q2, ← q4] at this
    simpa using this
  · rw [hall]
    exact ⟨.bl false, H, I, rfl, k⟩
/-! ### != of equal lists of lists, of equal lists of runs -/
abbrev eRow (r : List Int) : PyData := .list (r.map .int)
abbrev eRun (r : Int × List Int) : PyData := .tuple [.int r.1, .tuple (r.2.map .int)]
section
variable {K : PySem.W.Frag} {H : Hp}
theorem dp_rows : ∀ {ps : List Addr} {rows : List (List Int)}, ps.length = rows.length → (∀ (i : Nat) (p : Addr) (r : List Int), ps[i]? = some p → rows[i]? = some r → H p = some (.lst (r.map V.int))) → DpAll K H (ps.map V.ref) (rows.map eRow)
  | [], [], _, _ => .nil
  | [], _ :: _, h, _ => by cases h
  | _ :: _, [], h, _ => by cases h
  | p :: ps, r :: rows, hl, h => .cons (.lst (SqL.of (h 0 p r rfl rfl)) (DpAll.ints r)) (dp_rows (Nat.succ.inj hl) fun i q t h1 h2 => h (i + 1) q t h1 h2)
theorem dp_runs : ∀ {us : List V} {rs : List (Int × List Int)}, us.length = rs.length → (∀ (i : Nat) (v : V) (r : Int × List Int), us[i]? = some v → rs[i]? = some r → RunAt H v r) → DpAll K H us (rs.map eRun)
  | [], [], _, _ => .nil
  | [], _ :: _, h, _ => by cases h
  | _ :: _, [], h, _ => by cases h
  | v :: us, r :: rs, hl, h => by
    obtain ⟨t, u, rfl, h1, h2⟩ := h 0 v r rfl rfl
    exact .cons (.tup (SqT.of h1) (.cons (.int _) (.cons (.tup (SqT.of h2) (DpAll.ints r.2)) .nil))) (dp_runs (Nat.succ.inj hl) fun i q t h1 h2 => h (i + 1) q t h1 h2)
end
theorem lay_rows : ∀ rows : List (List Int), PyData.canLayAll0 (rows.map eRow) = true
  | [] => by rw [List.map_nil, PyData.canLayAll0]
  | r :: rows => by rw [List.map_cons, PyData.canLayAll0, lay_rows rows, PyData.canLay0, canLay_ints]; rfl
theorem lay_runs : ∀ rs : List (Int × List Int), PyData.canLayAll0 (rs.map eRun) = true
  | [] => by rw [List.map_nil, PyData.canLayAll0]
  | r :: rs => by rw [List.map_cons, PyData.canLayAll0, lay_runs rs, PyData.canLay0, PyData.canLayAll0, PyData.canLayAll0, PyData.canLayAll0, PyData.canLay0, PyData.canLay0, canLay_ints]; rfl
theorem dep_rows : ∀ rows : List (List Int), PyData.depthAll (rows.map eRow) ≤ 4
  | [] => by rw [List.map_nil, PyData.depthAll]; decide
  | r :: rows => by
    have h1 := dep_rows rows
    have h2 := depthAll_ints r
    rw [List.map_cons, PyData.depthAll, PyData.depth]
    omega
theorem dep_runs : ∀ rs : List (Int × List Int), PyData.depthAll (rs.map eRun) ≤ 6
  | [] => by rw [List.map_nil, PyData.depthAll]; decide
  | r :: rs => by
    have h1 := dep_runs rs
    have h2 := depthAll_ints r.2
    rw [List.map_cons, PyData.depthAll, PyData.depth, PyData.depthAll, PyData.depthAll, PyData.depthAll, PyData.depth, PyData.depth]
    omega
theorem shaped_rows (rows : List (List Int)) : SeqAt.shaped (.list (rows.map eRow)) = true := by
  unfold SeqAt.shaped
  rw [Bool.and_eq_true]
  refine ⟨by rw [PyData.canLay0]; exact lay_rows rows, decide_eq_true ?_⟩
  have := dep_rows rows
  rw [PyData.depth]
  omega
theorem shaped_runs (rs : List (Int × List Int)) : SeqAt.shaped (.list (rs.map eRun)) = true := by
  unfold SeqAt.shaped
  rw [Bool.and_eq_true]
  refine ⟨by rw [PyData.canLay0]; exact lay_runs rs, decide_eq_true ?_⟩
  have := dep_runs rs
  rw [PyData.depth]
  omega
theorem eqv_rows : ∀ rows : List (List Int), PyData.eqvAll (rows.map eRow) (rows.map eRow) = true
  | [] => by rw [List.map_nil, PyData.eqvAll]
  | r :: rows => by
    rw [List.map_cons, PyData.eqvAll, eqv_rows rows, PyData.eqv, eqvAll_ints, decide_eq_true rfl]; rfl
theorem eqv_runs : ∀ rs : List (Int × List Int), PyData.eqvAll (rs.map eRun) (rs.map eRun) = true
  | [] => by rw [List.map_nil, PyData.eqvAll]
  | r :: rs => by
    have e : ∀ x : Int, PyData.eqv (.int x) (.int x) = true := fun x => by rw [PyData.eqv]; exact beq_self_eq_true x
    rw [List.map_cons, PyData.eqvAll, eqv_runs rs, PyData.eqv, PyData.eqvAll, PyData.eqvAll, PyData.eqvAll, e, PyData.eqv, eqvAll_ints, decide_eq_true rfl]; rfl
def rNeRows : R2 := fun x y H Q => ∃ (a b : Addr) (rows : List (List Int)), x = .ref a ∧ y = .ref b ∧ RowsAt H a rows ∧ RowsAt H b rows ∧ Q (.bl false) H
def rNeRuns : R2 := fun x y H Q => ∃ (a b : Addr) (rs : List (Int × List Int)), x = .ref a ∧ y = .ref b ∧ RunsAt H a rs ∧ RunsAt H b rs ∧ Q (.bl false) H
theorem op_neRows {X : Cx} (hu : X.A.units + 64 < cLine) : OpR X (compareOp .NotEq) rNeRows := by
  intro pins s σ H x y v u Q I rx ry h
  obtain ⟨a, b, rows, rfl, rfl, ⟨ps, h1, h2, h3⟩, ⟨qs, g1, g2, g3⟩, k⟩ := h
  refine op_neD hu pins s σ H _ _ v u Q I rx ry ⟨_, _, .lst (SqL.of h1) (dp_rows h2 fun i p r e1 e2 => (h3 i p r e1 e2).1), .lst (SqL.of g1) (dp_rows g2 fun i p r e1 e2 => (g3 i p r e1 e2).1), shaped_rows rows, shaped_rows rows, ?_⟩
  rw [PyData.eqv, eqv_rows]
  exact k
theorem op_neRuns {X : Cx} (hu : X.A.units + 64 < cLine) : OpR X (compareOp .NotEq) rNeRuns := by
  intro pins s σ H x y v u Q I rx ry h
  obtain ⟨a, b, rs, rfl, rfl, ⟨us, h1, h2, h3⟩, ⟨ws, g1, g2, g3⟩, k⟩ := h
  refine op_neD hu pins s σ H _ _ v u Q I rx ry ⟨_, _, .lst (SqL.of h1) (dp_runs h2 h3), .lst (SqL.of g1) (dp_runs g2 g3), shaped_runs rs, shaped_runs rs, ?_⟩
  rw [PyData.eqv, eqv_runs]
  exact k
/-- the list of the followers, in a statement -/
theorem foll_list {H1 : Hp} {d D : Addr} {ps : List (Int × Int)} {L : List Int} {Q : Hp → Prop} (hd : H1 d = some (.dK (pinK ps))) (hD : H1 D = none) (q : ∀ H', Same H1 H' → H' D = some (.lst (L.map V.int)) → Q H') :
    ∃ Pv : Nat → List V → Hp → Prop, Pv 0 [] (upd H1 D (.lst [])) ∧ (∀ i vs H, i ≤ L.length → Pv i vs H → (i = 0 → H d = some (.dK (pinK ps))) ∧ H D = some (.lst vs) ∧ vs.length = i) ∧
      (∀ i vs H y Nw, i < L.length → Pv i vs H → (y = .int (hereI L i) ∧ Nw = []) → (∀ q ∈ Nw, H q.1 = none) → Pv (i + 1) (vs ++ [y]) (upd (lay Nw H) D (.lst (vs ++ [y])))) ∧ ∀ vs H, Pv L.length vs H → Q H := by
  refine ⟨fun i vs H => Same H1 H ∧ H D = some (.lst vs) ∧ vs = (L.take i).map V.int, ⟨Same.new hD, upd_same, by rw [List.take_zero]; rfl⟩, fun i vs H hi h => ⟨fun _ => h.1 _ _ hd, h.2.1, by rw [h.2.2, List.length_map, List.length_take]; omega⟩, ?_, fun vs H h => q H h.1 (by rw [h.2.1, h.2.2, List.take_length])⟩
  rintro i vs H y Nw hi ⟨h1, h2, h3⟩ ⟨rfl, rfl⟩ _
  refine ⟨fun b o e => by rw [upd_ne (ne_of_none e hD)]; exact h1 b o e, upd_same, ?_⟩
  have hx : L[i]? = some (hereI L i) := by unfold hereI; rw [List.getElem?_eq_getElem hi]; rfl
  rw [take_snoc hx, List.map_append, h3]; rfl
/-! ### sorted(d.items()) -/
def rItemsK : V → List V → Hp → VK → Prop := fun x xs H Q => ∃ (a : Addr) (kvs : List (Key × V)), x = .ref a ∧ xs = [] ∧ H a = some (.dK kvs) ∧ ∀ p, H p = none → Q (.ref p) (upd H p (DX.itemsO p a))
/-- a pair of numbers, and where it stands -/
def encI (b : Addr × Int × Int) : PyData := .tuple [.int b.2.1, .int b.2.2]
def rSortItems : List V → Hp → VK → Prop := fun vs H Q => ∃ (r a : Addr) (ps : List (Int × Int)), vs = [.ref r] ∧ H r = some (DX.itemsO r a) ∧ H a = some (.dK (pinK ps)) ∧
  ∀ (H' : Hp) (p : Addr) (ts : List Addr), Same H H' → H p = none → (∀ t ∈ ts, H t = none) → ts.length = ps.length → (∀ b ∈ ts.zip ps, H' b.1 = some (.tup [.int b.2.1, .int b.2.2])) → H' p = some (.lst (((ts.zip ps).mergeSort (PySem.W.dataLe false encI)).map fun b => .ref b.1)) → Q (.ref p) H'
theorem alike_encI (b b' : Addr × Int × Int) : PySem.W.alike (encI b) (encI b') = true := by
  unfold encI
  simp [PySem.W.alike, PySem.W.alikeAll]
theorem depth_encI (b : Addr × Int × Int) : (encI b).depth ≤ 3 := by
  unfold encI
  simp [PyData.depth, PyData.depthAll]
section
variable {X : Cx}
theorem mt_itemsK : MtR X "dict.items" rItemsK := by
  intro pins s σ H x xs v us Q I rx rxs h
  obtain ⟨a, kvs, rfl, rfl, ha, q⟩ := h
  cases rx
  cases rxs
  obtain ⟨_, hsys, vs, rel, dof⟩ := dk_of I.hok ha
  obtain ⟨ep, dat⟩ := dof.dictAt
  obtain ⟨ob, es, ho, ex, hdat, hko, hpr, hnd⟩ := dat
  refine call_meetsIn F.slot_dict_items ⟨ob, ho, ex.1⟩ F.entry_dict_items (F.args_dict_items_1 _) (meets_dict_items (mixKind X.prog X.w) a hsys) ⟨⟨vs, dof⟩, ?_⟩
  exact ⟨.ref s.heap.objs.size, upd H s.heap.objs.size (DX.itemsO s.heap.objs.size a), I.laid (t' := s.toks) (fun b u e => Heap.get?_push_of_some _ e) (Nat.le_refl _) (DX.itemsO_ok (Heap.get?_push_size _ rfl)), rfl, q _ (I.hok.fresh (Nat.le_refl _))⟩
theorem tups_laid {pins : List (Addr × Obj)} {σ : L2.St} {H : Hp} {s : Shared} {h' : Heap} {tk : Nat} {kvs : List (Key × V)} {vs : List (Key × Value)} {as : List Addr} (I : L2.Inv X pins σ H s) (kv : KV kvs vs)
    (hk : ∀ b o, s.heap.get? b = some o → h'.get? b = some o) (hl : as.length = vs.length) (hG : PySem.W.KdxG (mixKind X.prog X.w) vs s.heap.objs.size h' as) :
    ∃ H' : Hp, Same H H' ∧ (∀ t ∈ as, H t = none) ∧ (∀ b, b ∉ as → H' b = H b) ∧ Paired (fun (t : Addr) (q : Key × V) => H' t = some (.tup [kV q.1, q.2])) as kvs ∧ L2.Inv X pins σ H' { s with heap := h', toks := tk } := by
  have lk : kvs.length = vs.length := Paired.length kv
  have nd : as.Nodup := List.Pairwise.imp (fun {a b} (h : a < b) => Nat.ne_of_lt h) hG.rise
  have new : ∀ t ∈ as, H t = none := fun t ht => I.hok.fresh (Nat.le_of_lt (hG.above t ht))
  have atP := LiI.putT_at as kvs H (by omega) nd
  have off : ∀ b, b ∉ as → LiI.putT H as kvs b = H b := fun b h1 => LiI.putT_off as kvs _ h1
  have low : ∀ b o, s.heap.get? b = some o → b ∉ as := fun b o e z => absurd (Heap.lt_size e) (Nat.not_lt.mpr (Nat.le_of_lt (hG.above b z)))
  have kp : ∀ b u, H b = some u → LiI.putT H as kvs b = some u := fun b u e => by
    rw [off b (fun z => by rw [new b z] at e; cases e)]
    exact e
  refine ⟨LiI.putT H as kvs, kp, new, off, atP, ?_⟩
  refine I.call' (ch := []) rfl ⟨fun b o q _ _ _ => hk b o q, fun b o q _ _ _ => ⟨o.slots, hk b o q⟩, fun b o q n _ => ?_, fun b o q _ => ⟨o, hk b o q⟩, fun b xs q => kp b _ q, fun b o u q => kp b _ q, fun b ps q => ⟨#[], by rw [kp b _ q]; simp⟩⟩ (fun b u q => ?_) I.bare fun b z => by simp at z
  · rw [off b (low b o q)]
    exact n
  · by_cases hb : b ∈ as
    · obtain ⟨j, pk, e1, e2, e3⟩ := LiI.paired_ix atP hb
      rw [e3] at q
      cases q
      obtain ⟨key, k, x, f1, f2, f3⟩ := hG.pairs j b e1
      obtain ⟨qv, g1, g2, g3⟩ := LiI.paired_get kv e2
      rw [f1] at g1
      cases g1
      have rk : RelV (kV pk.1) key := by
        rw [g2]
        exact relV_key (show keyIs k key = true from f2)
      exact ⟨by show 2 ≤ sizeLine; decide, [key, x], .cons rk (.cons g3 .nil), ⟨_, f3, rfl, _, rfl⟩⟩
    · rw [off b hb] at q
      exact (I.hok b u q).stay (fun d v _ y => hk d v y) (fun d y => kp d _ y) fun d xs y => kp d _ y
theorem tup_reads {pins : List (Addr × Obj)} {σ : L2.St} {H : Hp} {s : Shared} {t : Addr} {i j : Int} (I : L2.Inv X pins σ H s) (h : H t = some (.tup [.int i, .int j])) : Reads s.heap (.ref t) (.tuple [.int i, .int j]) [] := by
  obtain ⟨_, us, r, o, ho, hc, n, hd⟩ := I.hok t _ h
  obtain ⟨u1, u2, rfl, r1, r2⟩ := Vals.two r
  obtain ⟨t1, rfl⟩ := r1
  obtain ⟨t2, rfl⟩ := r2
  exact .tuple ho hc hd (.cons (.int i t1) (.cons (.int j t2) .nil))
theorem cr_sortItems (hc : X.calm = true) (hu : X.A.units + 64 < cLine) : CallR X (.builtin "sorted") rSortItems := by
  intro pins s σ H vs us Q I r h
  obtain ⟨p, a, ps, rfl, hp, ha, q⟩ := h
  obtain rfl := Vals.ref1 r
  obtain ⟨hz, hsys, ws, rel, dof⟩ := dk_of I.hok ha
  obtain ⟨ep, dat⟩ := dof.dictAt
  obtain ⟨hview, _, _⟩ : L2.ObjOk X.prog X.w H s.heap p (DX.itemsO p a) := I.hok p _ hp
  have lk : (pinK ps).length = ws.length := Paired.length rel
  refine PyProof.Rows.call_function_entry_kw kind_sorted plain_sorted entry_sorted (args_sorted1 _) ?_
  unfold Builtin.«sorted»
  refine wpAny_bind (m := checkCount "sorted" 1 1 _) (wpAny_pure ?_)
  refine wpAny_bind (PySem.W.kdx_collect (knd := mixKind X.prog X.w) (kvs := ws) (ep := ep) (A := X.A.in1) (I.ok.hd hc) hview dat (by omega) fun h' tk as hk hl hG => ?_)
  obtain ⟨H', kS, kn, off, hP, I2⟩ := tups_laid (tk := tk) I rel hk hl hG
  have hlen : as.length = ps.length := by rw [hl, ← lk, pin_len]
  have nS : ∀ b, s.heap.objs.size ≤ b → H b = none := fun b hb => I.hok.fresh hb
  refine wpAny_bind (wpAny_newList ?_ (by rw [List.length_map]; omega))
  have ho : (h'.push (seqObj "list" (as.map Value.ref).toArray 0)).get? h'.objs.size = some (seqObj "list" (as.map Value.ref).toArray 0) := Heap.get?_push_size _ rfl
  refine wpAny_bind (wpAny_holding ?_)
  have hL0 : H' h'.objs.size = none := I2.hok.fresh (Nat.le_refl _)
  have hL1 : H h'.objs.size = none := by
    cases e : H h'.objs.size with
    | none => rfl
    | some o => rw [kS _ _ e] at hL0; cases hL0
  have hbs : (as.zip ps).map (fun b => b.1) = as := List.map_fst_zip (by omega)
  have tup : ∀ b ∈ as.zip ps, H' b.1 = some (.tup [.int b.2.1, .int b.2.2]) := by
    intro b hb
    obtain ⟨i, hi⟩ := List.mem_iff_getElem?.mp hb
    rw [List.getElem?_zip_eq_some] at hi
    obtain ⟨kv, e1, e2⟩ := LiI.paired_get hP hi.1
    have e3 : (pinK ps)[i]? = some ((.inl b.2.1 : Key), V.int b.2.2) := by unfold pinK; rw [List.getElem?_map, hi.2]; rfl
    rw [e3] at e1
    cases e1
    exact e2
  have each : ∀ (bs : List (Addr × Int × Int)), PySem.W.EachIs (fun u b => RelV (V.ref b.1) u) ((bs.map fun b => b.1).map Value.ref) bs := by
    intro bs
    induction bs with
    | nil => exact .nil
    | cons b r ih => exact .cons rfl ih
  have each2 : ∀ (bs : List (Addr × Int × Int)), (∀ b ∈ bs, H' b.1 = some (.tup [.int b.2.1, .int b.2.2])) → PySem.W.EachIs (fun u b => ∃ xs, Reads (h'.push (seqObj "list" (as.map Value.ref).toArray 0)) u (encI b) xs ∧ h'.objs.size ∉ xs) ((bs.map fun b => b.1).map Value.ref) bs := by
    intro bs
    induction bs with
    | nil => intro _; exact .nil
    | cons b r ih =>
      intro hb
      exact .cons ⟨[], Reads.keeps (fun _ _ q => Heap.get?_push_of_some _ q) (tup_reads I2 (hb b List.mem_cons_self)), fun z => by cases z⟩ (ih fun c hc => hb c (List.mem_cons_of_mem _ hc))
  have ea := each (as.zip ps)
  have eb := each2 (as.zip ps) tup
  rw [hbs] at ea eb
  refine PySem.W.list_sort_data (A := X.A.in1) (s := { s with heap := h'.push (seqObj "list" (as.map Value.ref).toArray 0), toks := tk }) (enc := encI) ho ea eb ?_ ?_ (by rw [List.length_zip]; omega) (fun b _ => ?_) fun out hol hout => ?_
  · exact PySem.W.AllAlike.of alike_encI
  · exact PySem.W.Sortable.tuples fun b => ⟨_, _, rfl⟩
  · have := depth_encI b
    show X.A.units + 1 + 1 + (encI b).depth < cLine
    omega
  · obtain ⟨n, hn⟩ := PyProof.Rows.sortedHeap_at (out := out.toArray) ho
    have k : ∀ b u, h'.get? b = some u → (sortedHeap (h'.push (seqObj "list" (as.map Value.ref).toArray 0)) h'.objs.size (as.map Value.ref) out.toArray).get? b = some u := fun b u e => by
      have hb := Heap.lt_size e
      rw [sortedHeap_old (Nat.ne_of_lt hb) (by rw [size_push']; exact Nat.lt_succ_of_lt hb)]
      exact Heap.get?_push_of_some _ e
    refine wpAny_pure ⟨_, rfl, ?_⟩
    have hvals := vals_each (val := fun b : Addr × Int × Int => V.ref b.1) hout
    refine ⟨.ref h'.objs.size, upd H' h'.objs.size (.lst (((as.zip ps).mergeSort (PySem.W.dataLe false encI)).map fun b => V.ref b.1)), I2.laid (t' := tk) k (Nat.le_refl _) ⟨?_, out, n, hvals, hn⟩, rfl, ?_⟩
    · rw [List.length_map, List.length_mergeSort, List.length_zip]
      omega
    · refine q _ _ as (fun b u e => ?_) hL1 kn hlen (fun b hb => ?_) upd_same
      · rw [upd_ne (ne_of_none (kS _ _ e) hL0)]
        exact kS _ _ e
      · rw [upd_ne (ne_of_none (tup b hb) hL0)]
        exact tup b hb
end
/-! ### sorted(a list or a tuple of ints) -/
def rSortQ (K : PySem.W.Frag) : List V → Hp → VK → Prop := fun xs H Q => ∃ (a : Addr) (ns : List Int), xs = [.ref a] ∧ (SqL K H a (ns.map V.int) ∨ SqT K H a (ns.map V.int)) ∧
  ∀ p, H p = none → Q (.ref p) (upd H p (.lst ((ns.mergeSort leJ).map V.int)))
section
variable {X : Cx}
theorem call_sortQ (hc : X.calm = true) (hu : X.A.units + 64 < cLine) : CallR X (.builtin "sorted") (rSortQ X.K) := by
  intro pins s σ H xs us Q I r h
  obtain ⟨a, ns, rfl, hS, q⟩ := h
  obtain ⟨u, rfl, ru⟩ := vals1 r
  obtain rfl : u = Value.ref a := ru
  obtain ⟨T, its, o, n, hT, rv, ho, hcl, hdt, hz⟩ : ∃ (T : String) (its : List Value) (o : Obj) (n : Nat), (T = "list" ∨ T = "tuple") ∧ Vals (ns.map V.int) its ∧ s.heap.get? a = some o ∧ o.cls = .type T ∧ o.data = .seq its.toArray n ∧ its.length ≤ sizeLine := by
    rcases hS with hS | hS
    · obtain ⟨its, rv, ⟨o, n, ho, hcl, _, hdt⟩, hz⟩ := I.list hS
      exact ⟨"list", its, o, n, .inl rfl, rv, ho, hcl, hdt, by rw [← rv.length]; exact hz⟩
    · obtain ⟨its, rv, ⟨o, ho, hcl, n, hdt⟩, hz⟩ := I.tuple hS
      exact ⟨"tuple", its, o, n, .inr rfl, rv, ho, hcl, hdt, by rw [← rv.length]; exact hz⟩
  refine PyProof.Rows.call_function_entry_kw kind_sorted plain_sorted entry_sorted (args_sorted1 _) ?_
  unfold Builtin.«sorted»
  refine wpAny_bind (m := checkCount "sorted" 1 1 _) (wpAny_pure ?_)
  refine wpAny_bind (wpAny_collect_seq a hT ho hcl hdt (fun h' hk => ?_) (by rw [List.size_toArray]; exact hz))
  have I2 : L2.Inv X pins σ H { s with heap := h' } := I.kept (t' := s.toks) fun b ob e => hk b ob e
  have ei : its.toArray.toList = its := by simp
  rw [ei]
  have hlen := rv.length
  rw [List.length_map] at hlen
  refine wpAny_bind (wpAny_newList ?_ hz)
  have ho2 : (h'.push (seqObj "list" its.toArray 0)).get? h'.objs.size = some (seqObj "list" its.toArray 0) := Heap.get?_push_size _ rfl
  refine wpAny_bind (wpAny_holding ?_)
  have e := each_vals (val := V.int) rv
  have e2 : ∀ {us : List Value} {bs : List Int}, PySem.W.EachIs (fun u b => RelV (V.int b) u) us bs → PySem.W.EachIs (fun u b => ∃ as, Reads (h'.push (seqObj "list" its.toArray 0)) u (PyData.int b) as ∧ h'.objs.size ∉ as) us bs := by
    intro us bs z
    induction z with
    | nil => exact .nil
    | cons r _ ih =>
      obtain ⟨t, rfl⟩ := r
      exact .cons ⟨[], .int _ t, fun z => by cases z⟩ ih
  refine PySem.W.list_sort_data (A := X.A.in1) (s := { s with heap := h'.push (seqObj "list" its.toArray 0) }) (enc := fun z : Int => PyData.int z) ho2 e (e2 e) (sJ1 ns) (sJ2 ns) (by omega) (fun b _ => ?_) fun out hol hout => ?_
  · have := sJ3 b
    show X.A.units + 1 + 1 + (PyData.int b).depth < cLine
    omega
  · obtain ⟨m, hm⟩ := PyProof.Rows.sortedHeap_at (out := out.toArray) ho2
    have k : ∀ b u, h'.get? b = some u → (sortedHeap (h'.push (seqObj "list" its.toArray 0)) h'.objs.size its out.toArray).get? b = some u := fun b u e => by
      have hb := Heap.lt_size e
      rw [sortedHeap_old (Nat.ne_of_lt hb) (by rw [size_push']; exact Nat.lt_succ_of_lt hb)]
      exact Heap.get?_push_of_some _ e
    refine wpAny_pure ⟨_, rfl, ?_⟩
    have hvals := vals_each (val := V.int) hout
    have hq := q h'.objs.size (I2.hok.fresh (Nat.le_refl _))
    rw [sJ4] at hvals
    refine ⟨.ref h'.objs.size, upd H h'.objs.size (.lst ((ns.mergeSort leJ).map V.int)), I2.laid (t' := s.toks) k (Nat.le_refl _) ⟨?_, out, m, hvals, hm⟩, rfl, hq⟩
    rw [List.length_map, List.length_mergeSort]
    omega
end
structure TxtL (mg : Str → Option Value) : Prop where
  range : mg "range" = none
  max : mg "max" = none
  min : mg "min" = none
  list : mg "list" = none
  sorted : mg "sorted" = none
  dict : mg "dict" = none
  zip : mg "zip" = none
  tuple : mg "tuple" = none
/-- what is known from the names on -/
structure C78 (He : Hp) (l p n : Addr) (js : List Int) (ws ps : List (Int × Int)) (seq : List Int) (ρ : Int → Int) : Prop where
  R : Ren ρ js
  hn : He n = some (.dK (pinK ws))
  an : ∀ x, (x = 0 ∨ x ∈ js) → anOf ws x = some (ρ x)
  hp : He p = some (.dK (pinK ps))
  np : n ≠ p
  hl : He l = some (.lst (js.map V.int))
  P : PinsOf js ps seq
  nd : js.Nodup
  nz : ∀ x ∈ js, x ≠ 0
  len : js.length ≤ 100
section
variable {He : Hp} {l p n : Addr} {js : List Int} {ws ps : List (Int × Int)} {seq : List Int} {ρ : Int → Int}
theorem C78.same {H' : Hp} (C : C78 He l p n js ws ps seq ρ) (s : Same He H') : C78 H' l p n js ws ps seq ρ :=
  ⟨C.R, s _ _ C.hn, C.an, s _ _ C.hp, C.np, s _ _ C.hl, C.P, C.nd, C.nz, C.len⟩
theorem C78.fo (C : C78 He l p n js ws ps seq ρ) : Forest js (anOf ps) (fun x => seq.idxOf x) js.length := C.P.forest C.nd C.nz
theorem C78.pin (C : C78 He l p n js ws ps seq ρ) {e : Int × Int} (he : e ∈ ps) : e.1 ∈ js ∧ (e.2 = 0 ∨ e.2 ∈ js) :=
  ⟨C.P.perm.mem_iff.mp (C.P.mem e he), (C.P.anc e he).imp id fun q => C.P.perm.mem_iff.mp q.1⟩
theorem C78.pins (C : C78 He l p n js ws ps seq ρ) : PinSet js ps (fun x => seq.idxOf x) js.length := ⟨C.fo, C.P.keys, fun e he => (C.pin he).1, C.len⟩
theorem C78.P' (C : C78 He l p n js ws ps seq ρ) : PinsOf (js.map ρ) (ps.map (ren2 ρ)) (seq.map ρ) := C.P.ren C.R fun x h => h
theorem C78.nd' (C : C78 He l p n js ws ps seq ρ) : (js.map ρ).Nodup := C.R.nod (fun x h => h) C.nd
theorem C78.nz' (C : C78 He l p n js ws ps seq ρ) : ∀ x ∈ js.map ρ, x ≠ 0 := fun x hx => by
  obtain ⟨y, hy, rfl⟩ := List.mem_map.mp hx
  exact C.R.nz y hy
theorem C78.fo' (C : C78 He l p n js ws ps seq ρ) : Forest (js.map ρ) (anOf (ps.map (ren2 ρ))) (fun x => (seq.map ρ).idxOf x) (js.map ρ).length := C.P'.forest C.nd' C.nz'
theorem C78.pins' (C : C78 He l p n js ws ps seq ρ) : PinSet (js.map ρ) (ps.map (ren2 ρ)) (fun x => (seq.map ρ).idxOf x) (js.map ρ).length :=
  ⟨C.fo', C.P'.keys, fun e he => C.P'.perm.mem_iff.mp (C.P'.mem e he), by rw [List.length_map]; exact C.len⟩
theorem C78.an' (C : C78 He l p n js ws ps seq ρ) : ∀ x ∈ js, anOf (ps.map (ren2 ρ)) (ρ x) = (anOf ps x).map ρ := fun x hx => an_ren fun e he h => C.R.inj _ (C.pin he).1 _ hx h
theorem C78.anc (C : C78 He l p n js ws ps seq ρ) : ∀ x ∈ js, ∀ b, anOf ps x = some b → b = 0 ∨ b ∈ js := fun x hx b h => (C.fo.anc x hx b h).imp id fun q => q.1
theorem C78.rk (C : C78 He l p n js ws ps seq ρ) : ∀ x ∈ js, (fun x => (seq.map ρ).idxOf x) (ρ x) = (fun x => seq.idxOf x) x := fun x hx => idx_ren fun y hy => C.R.inj y (C.P.perm.mem_iff.mp hy) x hx
theorem C78.laid (C : C78 He l p n js ws ps seq ρ) : laidOf (js.map ρ) (anOf (ps.map (ren2 ρ))) (fun x => (seq.map ρ).idxOf x) (js.map ρ).length = (laidOf js (anOf ps) (fun x => seq.idxOf x) js.length).map ρ := by
  rw [List.length_map]
  exact laid_ren C.R (fun x h => h) C.an' C.anc C.rk
theorem C78.fol (C : C78 He l p n js ws ps seq ρ) {x : Int} (hx : x = 0 ∨ x ∈ js) : folL (js.map ρ) (ps.map (ren2 ρ)) (fun x => (seq.map ρ).idxOf x) (js.map ρ).length (ρ x) = ((folL js ps (fun x => seq.idxOf x) js.length x).map ρ).mergeSort leI := by
  rw [List.length_map]
  refine fol_ren ?_
  exact downs_ren C.R (fun x h => h) C.an' C.anc C.rk hx
theorem C78.folIn (C : C78 He l p n js ws ps seq ρ) {x y : Int} (h : y ∈ folL js ps (fun x => seq.idxOf x) js.length x) : y ∈ js := downs_in C.fo ((fol_perm _ _ _ _ _).mem_iff.mp h)
theorem C78.folLen (C : C78 He l p n js ws ps seq ρ) (x : Int) : (folL js ps (fun x => seq.idxOf x) js.length x).length ≤ 100 := by
  rw [(fol_perm _ _ _ _ _).length_eq]
  have := downs_len C.fo x
  have := C.len
  omega
theorem C78.folLen' (C : C78 He l p n js ws ps seq ρ) (x : Int) : (folL (js.map ρ) (ps.map (ren2 ρ)) (fun x => (seq.map ρ).idxOf x) (js.map ρ).length x).length ≤ 100 := by
  rw [(fol_perm _ _ _ _ _).length_eq]
  have := downs_len C.fo' x
  have := C.len
  rw [List.length_map] at *
  omega
end
section
variable {P : Program} {w : World} {K : PySem.W.Frag} {mg : Str → Option Value} {base : Heap}
def spLaw (K : PySem.W.Frag) : Sp := fun vs H Q _ => ∃ (a : Addr) (ns : List Int), vs = [.ref a] ∧ SqL K H a (ns.map V.int) ∧ ns.length ≤ 63 ∧ (∀ z ∈ ns, Builtin.Int.intBits z ≤ 1048576) ∧ ∀ H', Q (.bl true) H'
abbrev NL : List Str := ["script", "start", "tape", "base", "goal", "pins", "row_id", "loads", "liked", "names", "orders", "cover", "made", "turned", "others", "found", "below", "order", "run", "some"]
theorem scLaw : FnScope NL ["script"] (defScope sLaw) := ⟨rfl, rfl, rfl, by decide +kernel, rfl, by decide +kernel, by decide +kernel⟩
def forBody (s : Stmt) : List Stmt := match s with
  | .For _ _ b _ _ => b
  | _ => []
def lawTurn : List Stmt := match defBody sLaw with
  | s :: _ => forBody s
  | _ => []
abbrev Xl (P : Program) (w : World) (K : PySem.W.Frag) (mg : Str → Option Value) (base : Heap) (f : Addr) (cdv : Value) (A : Around) (outer : List Env) (s : Shared) (H : Hp) (E : XK) : Cx := (cxOf CX0 P w K mg base NL "law" (defScope sLaw) f cdv A outer s H E).nox
/-- the followers -/
theorem tail15 {f fFo fNa fPn : Addr} {fd fdFo fdNa fdPn : FuncData} (F : Fun K "law" "law" sLaw f fd) (TL : TxtL mg)
    (Fo : Fn K mg "followers" sFollowers ["pins", "row_id"] fFo fdFo) (GF : GenFnA P w K mg base 2 fFo fdFo ["pins", "row_id"] (spFoll K))
    (Na : Fn K mg "_law_named" sNamed ["names", "ids"] fNa fdNa) (GNa : FnOk P w K mg base CX0 1 fNa fdNa ["names", "ids"] (spNamed K))
    (Pn : Fn K mg "_law_pins_named" sPinsNamed ["names", "pins"] fPn fdPn) (GPn : FnOk P w K mg base CX0 1 fPn fdPn ["names", "pins"] (spPinsNamed K))
    {cdv : Value} {A : Around} {outer : List Env} {s : Shared} {H : Hp} {E : XK} (hr : Room 5 (A.deeper (envOfC "law" (defScope sLaw) s.heap.objs.size f cdv))) :
    ∃ t, PSs (Xl P w K mg base f cdv A outer s H E) (lawTurn.drop 14) t ∧ ∀ (He : Hp) (v0 v1 v2 v4 v6 v7 v8 v10 v11 v12 v13 v14 v15 v16 v17 v18 v19 : Option V) (l p n : Addr) (js : List Int) (ws ps : List (Int × Int)) (seq : List Int) (ρ : Int → Int) (D : Ends),
      C78 He l p n js ws ps seq ρ →
      (∀ (u6 u16 : Option V) (H' : Hp), Same He H' → D.nx [v0, v1, v2, some (.ref l), v4, some (.ref p), u6, v7, v8, some (.ref n), v10, v11, v12, v13, v14, v15, u16, v17, v18, v19] H') →
      t D [v0, v1, v2, some (.ref l), v4, some (.ref p), v6, v7, v8, some (.ref n), v10, v11, v12, v13, v14, v15, v16, v17, v18, v19] He := by
  have hr1 : Room 1 _ := hr.mono (by decide)
  have hr2 : Room 2 _ := hr.mono (by decide)
  have h64 := hu64 hr
  have hu := hu_of hr
  have h16 : sizeLine = 16777216 := sizeLine_eq
  refine ⟨_, pss_one (ps_for PassesOwn.never rfl (pi_list (pe_op op_cat (pv 3) (pe_lst (pa_cons pe_int pa_nil)))) (pg_name (i := 6) scLaw.nd rfl (Or.inl rfl))
   (pss_cons (ps_set (i := 16) scLaw.nd rfl (Or.inl rfl) (pe_call GNa hr1 rfl Na.m Na.F.kp Na.b .nil pass0 (pa_cons (pv 9) (pa_cons (pe_listA (pgn_callA GF hr2 rfl Fo.m Fo.F.kp Fo.b (pa_cons (pv 5) (pa_cons (pv 6) pa_nil))) hr (by rfl) TL.list) pa_nil))))
   (pss_one (ps_if (pt_cmpR (op_neL h64) (pe_listA (pgn_callA GF hr2 rfl Fo.m Fo.F.kp Fo.b (pa_cons (pe_call GPn hr1 rfl Pn.m Pn.F.kp Pn.b .nil pass0 (pa_cons (pv 9) (pa_cons (pv 5) pa_nil))) (pa_cons (pe_dget hu (pv 9) (pv 6) (fun _ _ => rfl)) pa_nil))) hr (by rfl) TL.list)
        (pe_callB (call_sortQ rfl h64) (by rfl) TL.sorted (by decide +kernel) (pa_cons (pv 16) pa_nil)) (nomark _)) (pss_one (ps_ret pe_bl)) pss_nil)))), ?_⟩
  intro He v0 v1 v2 v4 v6 v7 v8 v10 v11 v12 v13 v14 v15 v16 v17 v18 v19 l p n js ws ps seq ρ D C k
  have hjl := C.len
  refine ⟨_, rfl, by rw [h16]; show 1 ≤ 16777216; decide, fun c hc => ?_⟩
  have s1 := Same.new (o := .lst [V.int 0]) hc
  have hC1 : upd He c (.lst [V.int 0]) c = some (.lst [V.int 0]) := upd_same
  have C1 := C.same s1
  generalize (upd He c (.lst [V.int 0]) : Hp) = H1 at s1 hC1 C1 ⊢
  refine ⟨l, c, _, _, rfl, rfl, C1.hl, hC1, by rw [List.length_map, h16]; show _ + 1 ≤ _; omega, fun cc hcc => ?_⟩
  have ecat : js.map V.int ++ [V.int 0] = (js ++ [0]).map V.int := by rw [List.map_append]; rfl
  rw [ecat]
  have s2 := s1.trans (Same.new (o := .lst ((js ++ [0]).map V.int)) hcc)
  have C2 := C1.same (Same.new (o := .lst ((js ++ [0]).map V.int)) hcc)
  have hCC : upd H1 cc (.lst ((js ++ [0]).map V.int)) cc = some (.lst ((js ++ [0]).map V.int)) := upd_same
  generalize (upd H1 cc (.lst ((js ++ [0]).map V.int)) : Hp) = H2 at s2 C2 hCC ⊢
  refine ⟨cc, rfl, ⟨_, SqL.of hCC⟩, for_list (K := K) (a := cc) (xs := (js ++ [0]).map V.int) (fun i σ H' => (∃ u6 u16 : Option V, σ = [v0, v1, v2, some (.ref l), v4, some (.ref p), u6, v7, v8, some (.ref n), v10, v11, v12, v13, v14, v15, u16, v17, v18, v19]) ∧ Same H2 H')
    ⟨⟨_, _, rfl⟩, Same.refl H2⟩ (fun i σ H' _ q => SqL.of (q.2 _ _ hCC)) ?_ ?_⟩
  · rintro i y σ H8 hi ⟨⟨u6, u16, rfl⟩, s8⟩
    obtain ⟨x, hx, rfl⟩ := int_at hi
    have C8 := C2.same s8
    have hxj : x = 0 ∨ x ∈ js := (List.mem_append.mp (List.mem_of_getElem? hx)).elim .inr (fun q => .inl (List.mem_singleton.mp q))
    have fl := C8.folLen x
    refine ⟨_, rfl, _, rfl, _, rfl, _, _, _, ⟨p, js, ps, _, _, x, rfl, C8.pins, rfl, rfl, rfl⟩, by rw [h16]; omega, fun D1 hD1 => foll_list C8.hp hD1 fun H9 s9 hL9 => ?_⟩
    have C9 := C8.same s9
    refine ⟨n, D1, ws, _, ρ, rfl, C9.hn, .inl (SqL.of hL9), by omega, fun y hy => C9.an y (.inr (C9.folIn hy)), fun q H10 s10 hq hQ => ?_⟩
    have C10 := C9.same s10
    refine ⟨_, rfl, _, rfl, n, p, ws, ps, ρ, rfl, C10.np, C10.hn, C10.hp, C10.P.keys, by have := C10.P.len; have := C10.P.perm.length_eq; omega, fun e he => ⟨C10.an _ (.inr (C10.pin he).1), C10.an _ (C10.pin he).2⟩, C10.P'.keys, fun p2 H11 s11 hp2 hP2 => ?_⟩
    have C11 := C10.same s11
    have dg := DGet.k (k := (.inl x : Key)) C11.hn
    rw [val_pin, C11.an x hxj] at dg
    have fl2 := C11.folLen' (ρ x)
    refine ⟨_, rfl, _, rfl, n, _, rfl, dg, _, _, _, ⟨p2, js.map ρ, ps.map (ren2 ρ), _, _, ρ x, rfl, C11.pins', rfl, rfl, rfl⟩, by rw [h16]; omega, fun D2 hD2 => foll_list hP2 hD2 fun H12 s12 hL12 => ?_⟩
    have hQ12 := s12 _ _ (s11 _ _ hQ)
    refine ⟨_, rfl, q, _, rfl, .inl (SqL.of hQ12), fun z hz => ?_⟩
    have s13 := Same.new (o := .lst ((((folL js ps (fun x => seq.idxOf x) js.length x).map ρ).mergeSort leJ).map V.int)) hz
    refine ⟨D2, z, _, _, rfl, rfl, SqL.of (s13 _ _ hL12), SqL.of upd_same, _, rfl, ?_⟩
    have ef : folL (js.map ρ) (ps.map (ren2 ρ)) (fun x => (seq.map ρ).idxOf x) (js.map ρ).length (ρ x) = ((folL js ps (fun x => seq.idxOf x) js.length x).map ρ).mergeSort leJ := C11.fol hxj
    rw [ef, decide_eq_true rfl]
    refine iteF ?_
    exact ⟨⟨_, _, rfl⟩, s8.trans (s9.trans (s10.trans (s11.trans (s12.trans s13))))⟩
  · rintro σ H3 ⟨⟨u6, u16, rfl⟩, s3⟩
    exact k _ _ _ (s2.trans s3)
end
theorem ix_tupKx {X : Cx} {K : PySem.W.Frag} (h : X.K = K) : IxR X (rIxT K) := by
  subst h
  exact ix_tup
theorem at2 {α : Type} {a b y : α} {i : Nat} (h : [a, b][i]? = some y) : (i = 0 ∧ y = a) ∨ (i = 1 ∧ y = b) := by
  cases i with
  | zero => exact .inl ⟨rfl, (Option.some.inj h).symm⟩
  | succ i =>
    cases i with
    | zero => exact .inr ⟨rfl, (Option.some.inj h).symm⟩
    | succ i => simp at h
/-- a list of dicts of numbers -/
def DksAt (H : Hp) (a : Addr) (pss : List (List (Int × Int))) : Prop := ∃ us : List Addr, H a = some (.lst (us.map V.ref)) ∧ us.length = pss.length ∧ ∀ (i : Nat) (p : Addr) (ps : List (Int × Int)), us[i]? = some p → pss[i]? = some ps → H p = some (.dK (pinK ps))
theorem DksAt.nil {H : Hp} {a : Addr} (h : H a = some (.lst [])) : DksAt H a [] := ⟨[], h, rfl, fun i p r e _ => by simp at e⟩
theorem DksAt.same {H H' : Hp} {a : Addr} {pss : List (List (Int × Int))} (R : DksAt H a pss) (s : Same H H') : DksAt H' a pss := by
  obtain ⟨us, h1, h2, h3⟩ := R
  exact ⟨us, s _ _ h1, h2, fun i p r e1 e2 => s _ _ (h3 i p r e1 e2)⟩
theorem DksAt.push {H : Hp} {a p : Addr} {pss : List (List (Int × Int))} {ps : List (Int × Int)} (R : DksAt H a pss) (hp : H p = some (.dK (pinK ps))) :
    ∃ xs, H a = some (.lst xs) ∧ xs.length = pss.length ∧ DksAt (upd H a (.lst (xs ++ [.ref p]))) a (pss ++ [ps]) := by
  obtain ⟨us, h1, h2, h3⟩ := R
  refine ⟨us.map V.ref, h1, by rw [List.length_map, h2], us ++ [p], ?_, ?_, fun i q t e1 e2 => ?_⟩
  · rw [upd_same, List.map_append]; rfl
  · rw [List.length_append, List.length_append, h2]; rfl
  · by_cases hi : i < us.length
    · rw [List.getElem?_append_left hi] at e1
      rw [List.getElem?_append_left (by omega)] at e2
      have z := h3 i q t e1 e2
      rw [upd_ne (ne_of z h1 (fun z => by cases z))]; exact z
    · rw [List.getElem?_append_right (by omega)] at e1
      rw [List.getElem?_append_right (by omega)] at e2
      have hj : i - us.length = 0 := by
        cases z : i - us.length with
        | zero => rfl
        | succ m => rw [z] at e1; simp at e1
      rw [hj] at e1
      rw [show i - pss.length = 0 by omega] at e2
      simp at e1 e2
      subst e1; subst e2
      rw [upd_ne (ne_of hp h1 (fun z => by cases z))]; exact hp
/-- what is known of the facts told -/
structure N78 (n m1 : Addr) (js : List Int) (best laid : List Int) (cov : List (Int × List Int)) (made : List (Int × Int)) : Prop where
  nm : n ≠ m1
  bI : ∀ x ∈ best, x ∈ js
  lI : ∀ x ∈ laid, x ∈ js
  bl : best.length ≤ 100
  ll : laid.length ≤ 100
  cI : ∀ r ∈ cov, r.2.length ≤ 100 ∧ ∀ x ∈ r.2, x ∈ js
  cl : cov.length ≤ 1000
  keys : (made.map Prod.fst).Nodup
  mI : ∀ e ∈ made, e.1 ∈ js ∧ (e.2 = 0 ∨ e.2 ∈ js)
  ml : made.length ≤ 300
theorem call_tupK78 {X : Cx} {K : PySem.W.Frag} (h : X.K = K) : CallR X (.type "tuple") (fun xs H Q => ∃ p ys, xs = [.ref p] ∧ ((SqL K H p ys ∧ ∀ l, H l = none → Q (.ref l) (upd H l (.tup ys))) ∨ (SqT K H p ys ∧ Q (.ref p) H))) := by
  subst h
  exact call_tuple_of
section
variable {P : Program} {w : World} {K : PySem.W.Frag} {mg : Str → Option Value} {base : Heap}
theorem tail12 {f fFo fNa fPn : Addr} {fd fdFo fdNa fdPn : FuncData} (F : Fun K "law" "law" sLaw f fd) (TL : TxtL mg)
    (Fo : Fn K mg "followers" sFollowers ["pins", "row_id"] fFo fdFo) (GF : GenFnA P w K mg base 2 fFo fdFo ["pins", "row_id"] (spFoll K))
    (Na : Fn K mg "_law_named" sNamed ["names", "ids"] fNa fdNa) (GNa : FnOk P w K mg base CX0 1 fNa fdNa ["names", "ids"] (spNamed K))
    (Pn : Fn K mg "_law_pins_named" sPinsNamed ["names", "pins"] fPn fdPn) (GPn : FnOk P w K mg base CX0 1 fPn fdPn ["names", "pins"] (spPinsNamed K))
    {cdv : Value} {A : Around} {outer : List Env} {s : Shared} {H : Hp} {E : XK} (hr : Room 5 (A.deeper (envOfC "law" (defScope sLaw) s.heap.objs.size f cdv))) :
    ∃ t, PSs (Xl P w K mg base f cdv A outer s H E) (lawTurn.drop 11) t ∧ ∀ (He : Hp) (v0 v1 v2 v4 v6 v7 v8 v13 v14 v16 v17 v18 v19 : Option V) (l p n : Addr) (js : List Int) (ws ps : List (Int × Int)) (seq : List Int) (ρ : Int → Int) (D : Ends)
      (T T' p' f1 c1 m m1 b1 b2 f1' c1' m' m1' b1' b2' : Addr) (best laid : List Int) (cov : List (Int × List Int)) (made : List (Int × Int)),
      C78 He l p n js ws ps seq ρ → N78 n m1 js best laid cov made → FactsAt He T p best laid cov made f1 c1 m m1 b1 b2 → FactsAt He T' p' (best.map ρ) (laid.map ρ) (cov.map (renR ρ)) (made.map (ren2 ρ)) f1' c1' m' m1' b1' b2' → He p' = some (.dK (pinK (ps.map (ren2 ρ)))) →
      (∀ (u6 u16 u17 u18 u19 : Option V) (H' : Hp), Same He H' → D.nx [v0, v1, v2, some (.ref l), v4, some (.ref p), u6, v7, v8, some (.ref n), some (.ref f1), some (.ref c1), some (.ref m), v13, v14, some (.ref T'), u16, u17, u18, u19] H') →
      t D [v0, v1, v2, some (.ref l), v4, some (.ref p), v6, v7, v8, some (.ref n), some (.ref f1), some (.ref c1), some (.ref m), v13, v14, some (.ref T'), v16, v17, v18, v19] He := by
  have hr1 : Room 1 _ := hr.mono (by decide)
  have h64 := hu64 hr
  have hu := hu_of hr
  have h16 : sizeLine = 16777216 := sizeLine_eq
  obtain ⟨t15, ht15, hk15⟩ := tail15 (P := P) (w := w) (mg := mg) (base := base) F TL Fo GF Na GNa Pn GPn (cdv := cdv) (A := A) (outer := outer) (s := s) (H := H) (E := E) hr
  refine ⟨_, pss_cons (ps_if (pt_cmpR (op_neRows h64) (pe_ix ix_tup (pv 15) pe_int (fun _ _ => rfl)) (pe_lc (own := [("order", 17)]) (tt := tYes) (g := gName 17) rfl scLaw.nd (pi_list (pv 10)) (blkOk_by (N := NL) (sc := defScope sLaw) (by decide +kernel)) (fun _ _ _ _ _ => pg_name (i := 17) scLaw.nd rfl (Or.inl rfl))
        (fun _ _ _ _ _ => pts_nil) (fun _ _ _ _ _ => pe_call GNa hr1 rfl Na.m Na.F.kp Na.b .nil pass0 (pa_cons (pv 9) (pa_cons (pv 17) pa_nil)))) (nomark _)) (pss_one (ps_ret pe_bl)) pss_nil)
    (pss_cons (ps_if (pt_cmpR (op_neRuns h64) (pe_ix ix_tup (pv 15) pe_int (fun _ _ => rfl)) (pe_lc (own := [("run", 18)]) (tt := tYes) (g := gName 18) rfl scLaw.nd (pi_list (pv 11)) (blkOk_by (N := NL) (sc := defScope sLaw) (by decide +kernel)) (fun _ _ _ _ _ => pg_name (i := 18) scLaw.nd rfl (Or.inl rfl))
        (fun _ _ _ _ _ => pts_nil) (fun _ _ _ _ _ => pe_tup (pa_cons (pe_ix (ix_tupKx (K := K) rfl) (pv 18) pe_int (fun _ _ => rfl)) (pa_cons (pe_callTy (call_tupK78 (K := K) rfl) (by rfl) TL.tuple (by decide +kernel) (pa_cons (pe_call GNa hr1 rfl Na.m Na.F.kp Na.b .nil pass0 (pa_cons (pv 9) (pa_cons (pe_ix (ix_tupKx (K := K) rfl) (pv 18) pe_int (fun _ _ => rfl)) pa_nil))) pa_nil)) pa_nil)))) (nomark _)) (pss_one (ps_ret pe_bl)) pss_nil)
    (pss_cons (ps_if (pt_cmpR (op_neLDk h64) (pe_ix ix_tup (pv 15) pe_int (fun _ _ => rfl)) (pe_lc (own := [("some", 19)]) (tt := tYes) (g := gName 19) rfl scLaw.nd (pi_list (pv 12)) (blkOk_by (N := NL) (sc := defScope sLaw) (by decide +kernel)) (fun _ _ _ _ _ => pg_name (i := 19) scLaw.nd rfl (Or.inl rfl))
        (fun _ _ _ _ _ => pts_nil) (fun _ _ _ _ _ => pe_call GPn hr1 rfl Pn.m Pn.F.kp Pn.b .nil pass0 (pa_cons (pv 9) (pa_cons (pv 19) pa_nil)))) (nomark _)) (pss_one (ps_ret pe_bl)) pss_nil)
    ht15)), ?_⟩
  intro He v0 v1 v2 v4 v6 v7 v8 v13 v14 v16 v17 v18 v19 l p n js ws ps seq ρ D T T' p' f1 c1 m m1 b1 b2 f1' c1' m' m1' b1' b2' best laid cov made C N F1 F2 hp' k
  have hnan : ∀ x ∈ js, anOf ws x = some (ρ x) := fun x hx => C.an x (.inr hx)
  -- the orders
  refine ⟨_, rfl, T', _, 0, _, rfl, rfl, SqT.of F2.top, rfl, _, rfl, f1, rfl, ⟨_, SqL.of F1.two⟩, fun D1 hD1 => ?_⟩
  refine lc_list (K := K) (a := f1) (xs := [V.ref b1, V.ref b2]) (fun i H' => Same He H' ∧ RowsAt H' D1 ([best.map ρ, laid.map ρ].take i)) ⟨Same.new hD1, by rw [List.take_zero]; exact RowsAt.nil upd_same⟩ (fun i H' _ z => SqL.of (z.1 _ _ F1.two)) ?_ ?_
  · rintro i y H1 hi ⟨s1, R1⟩
    obtain ⟨u, r, rfl, hu1, hri, hin, hle, hil⟩ : ∃ (u : Addr) (r : List Int), y = V.ref u ∧ H1 u = some (.lst (r.map V.int)) ∧ [best.map ρ, laid.map ρ][i]? = some (r.map ρ) ∧ (∀ x ∈ r, x ∈ js) ∧ r.length ≤ 100 ∧ i ≤ 1 := by
      rcases at2 hi with ⟨rfl, rfl⟩ | ⟨rfl, rfl⟩
      · exact ⟨b1, best, rfl, s1 _ _ F1.best, rfl, N.bI, N.bl, by omega⟩
      · exact ⟨b2, laid, rfl, s1 _ _ F1.laid, rfl, N.lI, N.ll, by omega⟩
    refine ⟨rfl, _, rfl, _, rfl, n, u, ws, r, ρ, rfl, s1 _ _ C.hn, .inl (SqL.of hu1), by omega, fun x hx => hnan x (hin x hx), fun q H2 s2 hq hQ => ?_⟩
    have R2 := R1.same s2
    obtain ⟨zs, hz, _⟩ := R1
    obtain ⟨xs, x1, x2, x3⟩ := R2.push hQ (ne_of_none hz hq).symm
    refine ⟨xs, x1, by rw [x2, List.length_take, h16]; omega, fun b o e => by rw [upd_ne (ne_of_none e hD1)]; exact s2 _ _ (s1 _ _ e), ?_⟩
    rw [take_snoc hri]
    exact x3
  rintro H1 ⟨s1, R1⟩
  have C1 := C.same s1
  have F11 := F1.same s1
  have F21 := F2.same s1
  obtain ⟨fs, g1, g2, g3⟩ : RowsAt H1 f1' [best.map ρ, laid.map ρ] := ⟨[b1', b2'], F21.two, rfl, fun i q r e1 e2 => by
    rcases at2 e1 with ⟨rfl, rfl⟩ | ⟨rfl, rfl⟩
    · obtain rfl := Option.some.inj e2
      exact ⟨F21.best, ne_of F21.best F21.two (fun z => by cases best <;> cases z)⟩
    · obtain rfl := Option.some.inj e2
      exact ⟨F21.laid, ne_of F21.laid F21.two (fun z => by cases laid <;> cases z)⟩⟩
  refine ⟨f1', D1, [best.map ρ, laid.map ρ], rfl, rfl, ⟨fs, g1, g2, g3⟩, R1, _, rfl, iteF ?_⟩
  -- the covers
  obtain ⟨vs, hvs, hvl, hvr⟩ := F11.cov
  refine ⟨_, rfl, T', _, 1, _, rfl, rfl, SqT.of F21.top, rfl, _, rfl, c1, rfl, ⟨_, SqL.of hvs⟩, fun D2 hD2 => ?_⟩
  refine lc_list (K := K) (a := c1) (xs := vs) (fun i H' => Same H1 H' ∧ RunsAt H' D2 ((cov.map (renR ρ)).take i)) ⟨Same.new hD2, by rw [List.take_zero]; exact RunsAt.nil upd_same⟩ (fun i H' _ z => SqL.of (z.1 _ _ hvs)) ?_ ?_
  · rintro i y H2 hi ⟨s2, R2⟩
    have hil := (List.getElem?_eq_some_iff.mp hi).1
    obtain ⟨r, hr0⟩ : ∃ r, cov[i]? = some r := ⟨_, List.getElem?_eq_getElem (by omega)⟩
    have hrm := List.mem_of_getElem? hr0
    obtain ⟨t, u, rfl, ht, hu2⟩ := (hvr i y r hi hr0).same s2
    obtain ⟨n1, n2⟩ := N.cI r hrm
    refine ⟨rfl, _, rfl, t, _, 0, _, rfl, rfl, SqT.of ht, rfl, _, rfl, _, rfl, t, _, 1, _, rfl, rfl, SqT.of ht, rfl, n, u, ws, r.2, ρ, rfl, s2 _ _ C1.hn, .inr (SqT.of hu2), by omega, fun x hx => hnan x (n2 x hx), fun q H3 s3 hq hQ => ?_⟩
    refine ⟨q, _, rfl, .inl ⟨SqL.of hQ, fun u2 hu3 => ?_⟩⟩
    have s4 := Same.new (o := .tup ((r.2.map ρ).map V.int)) hu3
    have hU4 : upd H3 u2 (.tup ((r.2.map ρ).map V.int)) u2 = some (.tup ((r.2.map ρ).map V.int)) := upd_same
    have R4 := (R2.same s3).same s4
    have z4 := s2.trans (s3.trans s4)
    generalize (upd H3 u2 (.tup ((r.2.map ρ).map V.int)) : Hp) = H4 at s4 hU4 R4 z4 ⊢
    refine ⟨by show 2 ≤ sizeLine; decide, fun t2 ht2 => ?_⟩
    have s5 := Same.new (o := .tup [V.int r.1, V.ref u2]) ht2
    have hT5 : upd H4 t2 (.tup [V.int r.1, V.ref u2]) t2 = some (.tup [V.int r.1, V.ref u2]) := upd_same
    have hU5 := s5 _ _ hU4
    have R5 := R4.same s5
    have z5 := z4.trans s5
    generalize (upd H4 t2 (.tup [V.int r.1, V.ref u2]) : Hp) = H5 at s5 hT5 hU5 R5 z5 ⊢
    obtain ⟨xs, x1, x2, x3⟩ := R5.push (v := .ref t2) (r := renR ρ r) ⟨t2, u2, rfl, hT5, hU5⟩
    refine ⟨xs, x1, by have := N.cl; rw [x2, List.length_take, List.length_map, h16]; omega, fun b o e => by rw [upd_ne (ne_of_none e hD2)]; exact z5 _ _ e, ?_⟩
    rw [take_snoc (show (cov.map (renR ρ))[i]? = some (renR ρ r) by rw [List.getElem?_map, hr0]; rfl)]
    exact x3
  rintro H2 ⟨s2, R2⟩
  rw [hvl, show cov.length = (cov.map (renR ρ)).length from (List.length_map _).symm, List.take_length] at R2
  have C2 := C1.same s2
  have F12 := F11.same s2
  have F22 := F21.same s2
  refine ⟨c1', D2, cov.map (renR ρ), rfl, rfl, F22.cov, R2, _, rfl, iteF ?_⟩
  -- the pins
  have nodM : ((made.map (ren2 ρ)).map Prod.fst).Nodup := by
    have e : (made.map (ren2 ρ)).map Prod.fst = (made.map Prod.fst).map ρ := by rw [List.map_map, List.map_map]; rfl
    rw [e]
    refine C.R.nod (fun x hx => ?_) N.keys
    obtain ⟨e, he, rfl⟩ := List.mem_map.mp hx
    exact (N.mI e he).1
  refine ⟨_, rfl, T', _, 2, _, rfl, rfl, SqT.of F22.top, rfl, _, rfl, m, rfl, ⟨_, SqL.of F12.pins⟩, fun D3 hD3 => ?_⟩
  refine lc_list (K := K) (a := m) (xs := [V.ref m1, V.ref p]) (fun i H' => Same H2 H' ∧ DksAt H' D3 ([made.map (ren2 ρ), ps.map (ren2 ρ)].take i)) ⟨Same.new hD3, by rw [List.take_zero]; exact DksAt.nil upd_same⟩ (fun i H' _ z => SqL.of (z.1 _ _ F12.pins)) ?_ ?_
  · rintro i y H3 hi ⟨s3, R3⟩
    have C3 := C2.same s3
    obtain ⟨u, r, rfl, hu1, hri, hnu, hkn, hln, han, hk2, hil⟩ : ∃ (u : Addr) (r : List (Int × Int)), y = V.ref u ∧ H3 u = some (.dK (pinK r)) ∧ [made.map (ren2 ρ), ps.map (ren2 ρ)][i]? = some (r.map (ren2 ρ)) ∧ n ≠ u ∧ (r.map Prod.fst).Nodup ∧ r.length ≤ 300 ∧ (∀ e ∈ r, anOf ws e.1 = some (ρ e.1) ∧ anOf ws e.2 = some (ρ e.2)) ∧ ((r.map (ren2 ρ)).map Prod.fst).Nodup ∧ i ≤ 1 := by
      rcases at2 hi with ⟨rfl, rfl⟩ | ⟨rfl, rfl⟩
      · exact ⟨m1, made, rfl, s3 _ _ F12.made, rfl, N.nm, N.keys, N.ml, fun e he => ⟨C.an _ (.inr (N.mI e he).1), C.an _ (N.mI e he).2⟩, nodM, by omega⟩
      · exact ⟨p, ps, rfl, C3.hp, rfl, C.np, C.P.keys, by have := C.P.len; have := C.P.perm.length_eq; have := C.len; omega, fun e he => ⟨C.an _ (.inr (C.pin he).1), C.an _ (C.pin he).2⟩, C.P'.keys, by omega⟩
    refine ⟨rfl, _, rfl, _, rfl, n, u, ws, r, ρ, rfl, hnu, C3.hn, hu1, hkn, hln, han, hk2, fun q H4 s4 hq hQ => ?_⟩
    obtain ⟨xs, x1, x2, x3⟩ := (R3.same s4).push hQ
    refine ⟨xs, x1, by rw [x2, List.length_take, h16]; omega, fun b o e => by rw [upd_ne (ne_of_none e hD3)]; exact s4 _ _ (s3 _ _ e), ?_⟩
    rw [take_snoc hri]
    exact x3
  rintro H3 ⟨s3, ds, d1, d2, d3⟩
  have C3 := C2.same s3
  have F23 := F22.same s3
  refine ⟨m', D3, [m1', p'], ds, rfl, rfl, SqL.of F23.pins, SqL.of d1, d2.symm, fun i a b e1 e2 => ?_, _, rfl, iteF ?_⟩
  · rcases at2 e1 with ⟨rfl, rfl⟩ | ⟨rfl, rfl⟩
    · exact ⟨_, _, F23.made, d3 0 b _ e2 rfl, same_refl nodM⟩
    · exact ⟨_, _, s3 _ _ (s2 _ _ (s1 _ _ hp')), d3 1 b _ e2 rfl, same_refl C.P'.keys⟩
  refine hk15 H3 _ _ _ _ _ _ _ _ _ _ _ _ _ _ _ _ _ l p n js ws ps seq ρ D C3 fun u6 u16 H' z => ?_
  exact k _ _ _ _ _ _ (s1.trans (s2.trans (s3.trans z)))
end
/-! ### a value that nothing writes any more: frozen once it is there -/
def tFrz (t : TE) : TE := fun σ H Q => t σ H fun v H1 => ∃ d u, H1 d = some u ∧ Mut (some u) ∧ ∀ od, Q v (upd H1 d (.frz od u))
theorem pe_frz {X : Cx} {e : Expr} {t : TE} (h : PE X e t) : PE X e (tFrz t) := by
  refine ⟨fun pins s σ H Q I hw => ?_⟩
  refine thn (h.run pins s σ H _ I hw) fun v s1 ⟨x, H1, I1, r, d, u, hd, mu, q⟩ => ?_
  obtain ⟨od, I2⟩ := I1.lock hd mu
  exact ⟨x, _, I2, r, q od⟩
theorem paired_up77 {α β : Type} {R S : α → β → Prop} (f : ∀ a b, R a b → S a b) {as : List α} {bs : List β} (h : Paired R as bs) : Paired S as bs := by
  induction h with
  | nil => exact .nil
  | cons a _ ih => exact .cons (f _ _ a) ih
theorem paired_app77 {α β : Type} {R : α → β → Prop} {as cs : List α} {bs ds : List β} (h : Paired R as bs) (q : Paired R cs ds) : Paired R (as ++ cs) (bs ++ ds) := by
  induction h with
  | nil => exact q
  | cons a _ ih => exact .cons a ih
theorem an_app77 (ps qs : List (Int × Int)) (x : Int) : anOf (ps ++ qs) x = (anOf ps x).or (anOf qs x) := by
  unfold anOf
  rw [List.find?_append]
  cases ps.find? _ <;> rfl
theorem zip_all : ∀ (js xs : List Int), Zipped (js.map V.int) (xs.map V.int) (pinK (js.zip xs))
  | [], _ => .nil1
  | _ :: _, [] => .nil2
  | j :: js, x :: xs => Zipped.cons (k := .inl j) (zip_all js xs)
theorem zip_keys : ∀ {js xs : List Int}, js.length = xs.length → (js.zip xs).map Prod.fst = js
  | [], [], _ => rfl
  | [], _ :: _, h => by cases h
  | _ :: _, [], h => by cases h
  | j :: js, x :: xs, h => by
    rw [List.zip_cons_cons, List.map_cons, zip_keys (Nat.succ.inj h)]
/-- other names, told one behind the other, and 0 for 0 -/
theorem names_ren {js xs : List Int} (nj : js.Nodup) (nx : xs.Nodup) (hl : js.length = xs.length) (hx : ∀ y ∈ xs, y ≠ 0) (h0 : ∀ x ∈ js, x ≠ 0) :
    ∃ ρ, Ren ρ js ∧ ∀ x, (x = 0 ∨ x ∈ js) → anOf (js.zip xs ++ [(0, 0)]) x = some (ρ x) := by
  have hz : ∀ (i : Nat) (x y : Int), js[i]? = some x → xs[i]? = some y → anOf (js.zip xs) x = some y := fun i x y h1 h2 => by
    have hm : (x, y) ∈ js.zip xs := List.mem_of_getElem? (i := i) (by rw [List.getElem?_zip_eq_some]; exact ⟨h1, h2⟩)
    exact find_mem78 (by rw [zip_keys hl]; exact nj) hm
  have hat : ∀ x ∈ js, ∃ (i : Nat) (y : Int), js[i]? = some x ∧ xs[i]? = some y ∧ anOf (js.zip xs ++ [(0, 0)]) x = some y := fun x h => by
    obtain ⟨i, hi, rfl⟩ := List.mem_iff_getElem.mp h
    have hi2 : i < xs.length := by omega
    refine ⟨i, xs[i], List.getElem?_eq_getElem hi, List.getElem?_eq_getElem hi2, ?_⟩
    rw [an_app77, hz i _ _ (List.getElem?_eq_getElem hi) (List.getElem?_eq_getElem hi2)]; rfl
  have hz0 : anOf (js.zip xs ++ [(0, 0)]) 0 = some 0 := by
    rw [an_app77]
    have e : anOf (js.zip xs) 0 = none := by
      unfold anOf
      rw [List.find?_eq_none.mpr fun e he z => ?_]; rfl
      have h1 : e.1 ∈ (js.zip xs).map Prod.fst := List.mem_map_of_mem he
      rw [zip_keys hl] at h1
      exact h0 _ h1 (of_decide_eq_true z)
    rw [e]; rfl
  refine ⟨fun x => (anOf (js.zip xs ++ [(0, 0)]) x).getD 0, ⟨?_, fun x h => ?_, fun x hx' y hy' e => ?_⟩, fun x h => ?_⟩
  · show (anOf (js.zip xs ++ [(0, 0)]) 0).getD 0 = 0
    rw [hz0]; rfl
  · obtain ⟨i, y, _, h2, h3⟩ := hat x h
    show (anOf (js.zip xs ++ [(0, 0)]) x).getD 0 ≠ 0
    rw [h3]
    exact hx y (List.mem_of_getElem? h2)
  · obtain ⟨i, u, a1, a2, a3⟩ := hat x hx'
    obtain ⟨j, v, b1, b2, b3⟩ := hat y hy'
    have e : (anOf (js.zip xs ++ [(0, 0)]) x).getD 0 = (anOf (js.zip xs ++ [(0, 0)]) y).getD 0 := e
    rw [a3, b3] at e
    have e : u = v := e
    subst e
    have hi := (List.getElem?_eq_some_iff.mp a2).1
    have := (List.getElem?_inj hi nx).mp (a2.trans b2.symm)
    subst this
    exact Option.some.inj (a1.symm.trans b1)
  · rcases h with e | h
    · subst e
      show anOf (js.zip xs ++ [(0, 0)]) 0 = some ((anOf (js.zip xs ++ [(0, 0)]) 0).getD 0)
      rw [hz0]; rfl
    · obtain ⟨i, y, _, _, h3⟩ := hat x h
      show anOf (js.zip xs ++ [(0, 0)]) x = some ((anOf (js.zip xs ++ [(0, 0)]) x).getD 0)
      rw [h3]; rfl
where
  find_mem78 : ∀ {ps : List (Int × Int)} {e : Int × Int}, (ps.map Prod.fst).Nodup → e ∈ ps → anOf ps e.1 = some e.2 := by
    intro ps
    induction ps with
    | nil => intro e _ h; cases h
    | cons q ps ih =>
      intro e nd he
      rw [List.map_cons, List.nodup_cons] at nd
      unfold anOf
      rcases List.mem_cons.mp he with rfl | h
      · rw [List.find?_cons_of_pos (by exact decide_eq_true rfl)]; rfl
      · have hne : ¬ q.1 = e.1 := fun z => nd.1 (by rw [z]; exact List.mem_map.mpr ⟨e, h, rfl⟩)
        rw [List.find?_cons_of_neg (by exact fun z => hne (of_decide_eq_true z))]
        exact ih nd.2 h
def hash78 (x : Int) : Int := 7 * x % 999983 + 1
theorem hash_nod {js : List Int} (nd : js.Nodup) (h : ∀ z ∈ js, 1 ≤ z ∧ z ≤ 159984) : (js.map hash78).Nodup := by
  induction js with
  | nil => exact List.nodup_nil
  | cons a l ih =>
    rw [List.nodup_cons] at nd
    rw [List.map_cons, List.nodup_cons]
    refine ⟨fun z => ?_, ih nd.2 fun z hz => h z (List.mem_cons_of_mem _ hz)⟩
    obtain ⟨y, hy, e⟩ := List.mem_map.mp z
    have h1 := h a List.mem_cons_self
    have h2 := h y (List.mem_cons_of_mem _ hy)
    unfold hash78 at e
    have : y = a := by omega
    exact nd.1 (this ▸ hy)
theorem hash_pos (x : Int) : hash78 x ≠ 0 := by unfold hash78; omega
theorem pf_mem78 {fr : List Int} : ∀ (l : List Int) (p : Int), ∀ e ∈ pinsFrom fr p l, e.1 ∈ l ∧ (e.2 = p ∨ e.2 ∈ l)
  | [], _, e, h => by cases h
  | x :: l, p, e, h => by
    have go : e ∈ pinsFrom fr x l → e.1 ∈ x :: l ∧ (e.2 = p ∨ e.2 ∈ x :: l) := fun q => by
      obtain ⟨a, b⟩ := pf_mem78 l x e q
      refine ⟨List.mem_cons_of_mem _ a, .inr ?_⟩
      rcases b with b | b
      · rw [b]; exact List.mem_cons_self
      · exact List.mem_cons_of_mem _ b
    by_cases c : x ∈ fr
    · rw [pf_in c] at h; exact go h
    · rw [pf_out c] at h
      rcases List.mem_cons.mp h with rfl | q
      · exact ⟨List.mem_cons_self, .inl rfl⟩
      · exact go q
theorem pf_keys78 {fr : List Int} : ∀ (l : List Int) (p : Int), ((pinsFrom fr p l).map Prod.fst).Sublist l
  | [], _ => List.Sublist.slnil
  | x :: l, p => by
    by_cases c : x ∈ fr
    · rw [pf_in c]; exact (pf_keys78 l x).cons _
    · rw [pf_out c, List.map_cons]; exact (pf_keys78 l x).cons₂ _
/-! ### drawn ids are not far apart -/
section
variable {P : Program} {w : World} {K : PySem.W.Frag} {mg : Str → Option Value} {base : Heap}
def spIdsS : Sp := fun vs H Q _ => ∃ (d : Addr) (n : Nat), vs = [.ref d, .int n] ∧ DeckAt H d ∧ n ≤ 100 ∧
  ∀ (l : Addr) (js : List Int) (H' : Hp), H l = none → But d H H' → DeckAt H' d → H' l = some (.lst (js.map V.int)) → js.length = n → IdsL js → (∀ z ∈ js, z ≤ 9999 * (n : Int)) → Q (.ref l) H'
theorem upTo_hi {s : Int} {n : Nat} (h1 : 1 ≤ s) (h2 : s ≤ 9999) : ∀ z ∈ upTo s n, z ≤ 9999 * (n : Int) := fun z hz => by
  obtain ⟨i, hi, rfl⟩ := List.mem_map.mp hz
  have hi := List.mem_range.mp hi
  have a2 : s * (i : Int) ≤ 9999 * (i : Int) := Int.mul_le_mul_of_nonneg_right h2 (by omega)
  omega
theorem ok_idsS {f fC fS : Addr} {fd fdC fdS : FuncData} (F : Fun K "_law_ids" "_law_ids" sIds f fd) (T : TxtI mg)
    (GC : FnOk P w K mg base CX0 2 fC fdC ["tape", "items"] (spChoose K)) (kC : PySem.W.keepIn K (.ref fC) = true) (bC : L2.Binds K fdC ["tape", "items"] []) (mC : mg "_law_one_of" = some (.ref fC))
    (GS : FnOk P w K mg base CX0 2 fS fdS ["tape", "ids"] (spShuf K)) (kS : PySem.W.keepIn K (.ref fS) = true) (bS : L2.Binds K fdS ["tape", "ids"] []) (mS : mg "_law_shuffled" = some (.ref fS)) :
    FnOk P w K mg base CX0 3 f fd ["tape", "size"] spIdsS := by
  refine F.ok scIds (fun vs H Q E h => ?_) (fun cdv A outer s H vs Q E hr h => ?_)
  · obtain ⟨d, n, rfl, _⟩ := h
    rfl
  · obtain ⟨d, n, rfl, D, n1, k⟩ := h
    refine ⟨_, pss_cons (ps_set (i := 2) scIds.nd rfl (Or.inr rfl) (pe_call GC hr rfl mC kC bC .nil pass0 (pa_cons (pv 0) (pa_cons (pe_lst (pa_cons pe_int (pa_cons pe_int (pa_cons pe_int (pa_cons pe_int pa_nil))))) pa_nil))))
      (pss_one (ps_ret (pe_call GS hr rfl mS kS bS .nil pass0 (pa_cons (pv 0) (pa_cons (pe_lc (own := [("place", 3)]) (g := gName 3) (tt := tYes) rfl scIds.nd (pi_range1 rfl T.range (pa_cons (pv 1) pa_nil)) (blkOk_by (N := ["tape", "size", "step", "place"]) (sc := defScope sIds) (by decide +kernel))
        (fun _ _ _ _ _ => pg_name (i := 3) scIds.nd rfl (Or.inl rfl)) (fun _ _ _ _ _ => pts_nil) (fun _ _ _ _ _ => pe_op op_add pe_int (pe_op op_mul (pv 2) (pv 3)))) pa_nil))))), ?_⟩
    have h16 : sizeLine = 16777216 := sizeLine_eq
    refine ⟨_, rfl, by show 4 ≤ sizeLine; rw [h16]; decide, fun p hp => ?_⟩
    have F1 : Fs d H [(p, .lst (stepL.map V.int))] (upd H p (.lst (stepL.map V.int))) := (Fs.start D).new hp nl
    refine ⟨d, p, stepL.map V.int, rfl, F1.deck, SqL.of F1.g0, (by intro z; cases z), (by show 4 < 1000000; decide), fun v H2 hv D2 B2 => ?_⟩
    obtain ⟨st, hst, rfl⟩ := List.mem_map.mp hv
    obtain ⟨s1, s2⟩ := steps_ok hst
    have F2 := (F1.step D2 B2).tail
    refine ⟨_, rfl, _, rfl, (n : Int), rfl, by omega, by omega, fun D' hD' => ?_⟩
    obtain ⟨a0, a1, a2⟩ := F2.apart hD'
    refine lc_range (lo := 0) (n := ((n : Int)).toNat) (fun i H' => Fs d H [(D', .lst ((upTo st i).map V.int))] H') (F2.new (o := .lst []) hD' nl) ?_ ?_
    · rintro i H' hi F3
      refine ⟨rfl, ?_⟩
      have i100 : (i : Int) ≤ 100 := by omega
      refine ⟨_, rfl, _, rfl, _, _, rfl, rfl, .inr ⟨by omega, by omega⟩, _, _, rfl, rfl, ?_⟩
      refine ⟨_, F3.g0, by rw [List.length_map, upTo_len, h16]; omega, ?_⟩
      have := F3.reput (o' := .lst ((upTo st i).map V.int ++ [V.int (1 + st * (0 + (i : Int)))])) a0 a2
      rw [upTo_succ, List.map_append]
      rw [Int.zero_add] at this ⊢
      exact this
    · rintro H' F3
      have e : ((n : Int)).toNat = n := by omega
      rw [e] at F3
      have hI := upTo_ids (n := n) s1 s2 n1
      refine ⟨d, D', upTo st n, rfl, F3.deck, SqL.of F3.g0, by rw [upTo_len]; omega, fun q ks H5 hq B5 D5 hQ hperm => ?_⟩
      have F5 := F3.step D5 B5
      refine k q ks H5 ?_ F5.1 D5 hQ ?_ ⟨hperm.nodup_iff.mpr hI.1, fun z hz => hI.2 z (hperm.mem_iff.mp hz)⟩ fun z hz => upTo_hi s1 s2 z (hperm.mem_iff.mp hz)
      · cases e : H q with
        | none => rfl
        | some u =>
          have hqd : q ≠ d := fun z => by
            rw [z] at hq
            obtain ⟨x, y, w, _⟩ := F3.deck
            rw [hq] at w; cases w
          have := F3.1 q u hqd e
          rw [hq] at this; cases this
      · rw [hperm.length_eq, upTo_len]
end
/-! ### xs[lo:hi:step] -/
def placesL (lo hi st : Option Int) (n : Nat) : List Nat := sliceRange (sliceBounds lo hi st n).1 (sliceBounds lo hi st n).2.1 (sliceBounds lo hi st n).2.2
def pickL {α : Type} (xs : List α) (ps : List Nat) : List α := ps.filterMap (xs[·]?)
theorem vals_pick {vs : List V} {us : List Value} (r : Vals vs us) : ∀ ps : List Nat, Vals (pickL vs ps) (pickL us ps)
  | [] => .nil
  | i :: ps => by
    have ih := vals_pick r ps
    unfold pickL at ih ⊢
    rw [List.filterMap_cons, List.filterMap_cons]
    cases h : vs[i]? with
    | none =>
      have : us[i]? = none := by
        rw [List.getElem?_eq_none_iff] at h ⊢
        rw [← r.length]; exact h
      rw [this]; exact ih
    | some v =>
      obtain ⟨u, hu, hr⟩ : ∃ u, us[i]? = some u ∧ RelV v u := by
        clear ih
        induction r generalizing i with
        | nil => cases h
        | cons r1 r2 ih2 =>
          cases i with
          | zero => cases h; exact ⟨_, rfl, r1⟩
          | succ i => exact ih2 i h
      rw [hu]; exact .cons hr ih
theorem pickL_map {α β : Type} (f : α → β) (xs : List α) (ps : List Nat) : pickL (xs.map f) ps = (pickL xs ps).map f := by
  unfold pickL
  induction ps with
  | nil => rfl
  | cons i r ih =>
    rw [List.filterMap_cons, List.filterMap_cons, List.getElem?_map]
    cases xs[i]? with
    | none => exact ih
    | some x => show f x :: _ = f x :: _; rw [ih]
def tSl3 (K : PySem.W.Frag) (te : TE) (tl th ts : TO) : TE := fun σ H Q => te σ H fun x H1 => tl σ H1 fun l H2 => th σ H2 fun u H3 => ts σ H3 fun st H4 => ∃ a xs, x = .ref a ∧ SqL K H4 a xs ∧ st ≠ some 0 ∧ ∀ p, H4 p = none → Q (.ref p) (upd H4 p (.lst (pickL xs (placesL l u st xs.length))))
section
variable {X : Cx} {e : Expr} {te : TE} {lo hi : Option Expr} {st : Expr} {tl th ts : TO} {pos p2 : Pos}
theorem pe_slice3 (he : PE X e te) (hl : PO X lo tl) (hu : PO X hi th) (hs : PO X (some st) ts) : PE X (.Subscript e (.Slice lo hi (some st) p2) pos) (tSl3 X.K te tl th ts) := by
  refine ⟨fun pins s σ H Q I h => ?_⟩
  refine Subscript_ (thn (he.run pins s σ H _ I h) fun v s1 ⟨x, H1, I1, r1, q1⟩ => ?_)
  refine wpAny_Slice (thn (hl.run pins s1 σ H1 _ I1 q1) fun vl s2 ⟨l, H2, I2, pl, q2⟩ => thn (hu.run pins s2 σ H2 _ I2 q2) fun vu s3 ⟨u, H3, I3, pu, q3⟩ => ?_)
  refine thn (hs.run pins s3 σ H3 _ I3 q3) fun vs s4 ⟨o, H4, I4, ps, a, xs, ex, hx, h0, q⟩ => ?_
  subst ex
  cases r1
  have I5 : Inv X pins σ H4 { s4 with heap := s4.heap.push { cls := .type "slice", data := .fields #[vl, vu, vs] } } := I4.kept (t' := s4.toks) fun b ob q => Heap.get?_push_of_some _ q
  obtain ⟨its, r, ht, hz⟩ := I5.list hx
  have hlen := r.length
  show wpAny (model X.prog X.w) X.A (subscriptTail e (.Slice lo hi (some st) p2) (.ref a) (.ref s4.heap.objs.size)) (EP X pins σ Q) X.xe { s4 with heap := s4.heap.push { cls := .type "slice", data := .fields #[vl, vu, vs] } }
  refine tail_any (ops := [.ref a, .ref s4.heap.objs.size]) ht.isList.typeIs (PySem.slot_list_getitem.lookup) ?_ (by with_unfolding_all rfl)
  have hsz : (slicePick its.toArray l u o) = (pickL its (placesL l u o its.length)).toArray := by
    unfold slicePick pickL placesL
    rw [List.size_toArray]
    simp
  have hle := slicePick_size_le its.toArray l u o
  refine wpAny_getItem_list_slice ht.isList (Heap.IsSliceOf.new _ vl vu vs) pl pu ps h0 ?_ (by rw [List.size_toArray]; omega)
  have hlp : (pickL xs (placesL l u o xs.length)).length ≤ sizeLine := by
    rw [(vals_pick r _).length, hlen]
    rw [hsz, List.size_toArray, List.size_toArray] at hle
    omega
  rw [hsz, ← hlen]
  refine ⟨.ref _, _, I5.laid (t' := s4.toks) (o := .lst (pickL xs (placesL l u o xs.length))) (fun b ob q => Heap.get?_push_of_some _ q) (Nat.le_refl _) ?_, rfl, q _ (I5.hok.fresh (Nat.le_refl _))⟩
  exact ⟨hlp, _, 0, vals_pick r _, Heap.get?_push_size _ rfl⟩
end
/-! ### every second one -/
theorem twos : ∀ n < 64, (placesL (some 1) none (some 2) n ++ placesL none none (some 2) n).isPerm (List.range n) = true := by decide +kernel
theorem pick_perm {α : Type} {xs : List α} {ps qs : List Nat} (h : ps.Perm qs) : (pickL xs ps).Perm (pickL xs qs) := h.filterMap _
theorem pick_all {α : Type} (xs : List α) : pickL xs (List.range xs.length) = xs := by
  unfold pickL
  induction xs with
  | nil => rfl
  | cons x r ih =>
    rw [List.length_cons, List.range_succ_eq_map, List.filterMap_cons]
    show x :: _ = _
    rw [List.filterMap_map]
    congr 1
theorem pick_two {α : Type} {xs : List α} (h : xs.length < 64) : (pickL xs (placesL (some 1) none (some 2) xs.length) ++ pickL xs (placesL none none (some 2) xs.length)).Perm xs := by
  have e : pickL xs (placesL (some 1) none (some 2) xs.length) ++ pickL xs (placesL none none (some 2) xs.length) = pickL xs (placesL (some 1) none (some 2) xs.length ++ placesL none none (some 2) xs.length) := by
    unfold pickL; rw [List.filterMap_append]
  rw [e]
  have := pick_perm (xs := xs) (List.isPerm_iff.mp (twos xs.length h))
  rw [pick_all] at this
  exact this
/-! ### another order of the same ids -/
theorem ins_perm {α : Type} (l : List α) (k : Nat) (y : α) : (l.take k ++ [y] ++ l.drop k).Perm (y :: l) := by
  rw [List.append_assoc]
  have := List.perm_middle (a := y) (l₁ := l.take k) (l₂ := l.drop k)
  rw [List.take_append_drop] at this
  exact this
theorem but_free {d p : Addr} {H H' : Hp} (B : But d H H') (D : DeckAt H' d) (h : H' p = none) : H p = none := by
  cases e : H p with
  | none => rfl
  | some o =>
    by_cases q : p = d
    · obtain ⟨x, y, hd, _⟩ := D
      rw [← q, h] at hd; cases hd
    · rw [B p o q e] at h; cases h
structure TxtG (mg : Str → Option Value) : Prop where
  len : mg "len" = none
  list : mg "list" = none
  range : mg "range" = none
section
variable {P : Program} {w : World} {K : PySem.W.Frag} {mg : Str → Option Value} {base : Heap}
def spGoal (K : PySem.W.Frag) : Sp := fun vs H Q _ => ∃ (d t : Addr) (js : List Int), vs = [.ref d, .ref t] ∧ DeckAt H d ∧ SqL K H t (js.map V.int) ∧ js.length < 64 ∧
  ∀ (p : Addr) (ks : List Int) (H' : Hp), H p = none → But d H H' → DeckAt H' d → H' p = some (.lst (ks.map V.int)) → ks.Perm js → Q (.ref p) H'
abbrev NG : List Str := ["tape", "base", "way", "found", "turn", "row_id"]
theorem scGoal : FnScope NG ["tape", "base"] (defScope sGoal) := ⟨rfl, rfl, rfl, by decide +kernel, rfl, by decide +kernel, by decide +kernel⟩
theorem ok_goal {f fD fS : Addr} {fd fdD fdS : FuncData} (F : Fun K "_law_goal" "_law_goal" sGoal f fd) (T : TxtG mg) (FD : Fun K "_law_pick" "_law_pick" sDraw fD fdD) (bD : L2.Binds K fdD ["tape", "size"] []) (mD : mg "_law_pick" = some (.ref fD))
    (GS : FnOk P w K mg base CX0 2 fS fdS ["tape", "ids"] (spShuf K)) (kS : PySem.W.keepIn K (.ref fS) = true) (bS : L2.Binds K fdS ["tape", "ids"] []) (mS : mg "_law_shuffled" = some (.ref fS)) :
    FnOk P w K mg base CX0 3 f fd ["tape", "base"] (spGoal K) := by
  have GD : FnOk P w K mg base CX0 1 fD fdD ["tape", "size"] spDraw := ok_draw FD
  refine F.ok scGoal (fun vs H Q E h => ?_) (fun cdv A outer s H vs Q E hr h => ?_)
  · obtain ⟨d, t, js, rfl, _⟩ := h
    rfl
  · obtain ⟨d, t, js, rfl, D, hT, hj, k⟩ := h
    have h64 := hu64 hr
    have hr1 : Room 1 _ := hr.mono (by decide)
    have hS := hr
    refine ⟨_, pss_cons (ps_set (i := 2) scGoal.nd rfl (Or.inl rfl) (pe_call GD hr1 rfl mD FD.kp bD .nil pass0 (pa_cons (pv 0) (pa_cons pe_int pa_nil))))
      (pss_cons (ps_if (PW.pt (pw_or (pt_cmpR op_eq (pv 2) pe_int (nomark _)) (pw_or1 (pt_cmpR (op_eqL h64) (pv 1) (pe_lst pa_nil) (nomark _))))) (pss_one (ps_ret (pe_call GS hr rfl mS kS bS .nil pass0 (pa_cons (pv 0) (pa_cons (pv 1) pa_nil))))) pss_nil)
      (pss_cons (ps_if (pt_cmpR op_eq (pv 2) pe_int (nomark _)) (pss_one (ps_ret (pe_revL (pv 1)))) pss_nil)
      (pss_cons (ps_if (pt_cmpR op_eq (pv 2) pe_int (nomark _)) (pss_one (ps_ret (pe_op op_cat (pe_slice3 (pv 1) (po_some pe_int) po_none (po_some pe_int)) (pe_slice3 (pv 1) po_none po_none (po_some pe_int))))) pss_nil)
      (pss_cons (ps_set (i := 3) scGoal.nd rfl (Or.inl rfl) (pe_callTy call_list_of (by rfl) T.list (by decide +kernel) (pa_cons (pv 1) pa_nil)))
      (pss_cons (ps_for PassesOwn.never rfl (pi_range1 rfl T.range (pa_cons (pe_call GD hr1 rfl mD FD.kp bD .nil pass0 (pa_cons (pv 0) (pa_cons (pe_op op_add pe_int (pe_op op_fdiv (pe_callB call_len_seq (by rfl) T.len PySem.boot_len (pa_cons (pv 1) pa_nil)) pe_int)) pa_nil))) pa_nil)) (pg_name (i := 4) scGoal.nd rfl (Or.inl rfl))
        (pss_cons (ps_set (i := 5) scGoal.nd rfl (Or.inl rfl) (pe_bm PySem.F.plainAttrs_list PySem.F.slot_list_pop PySem.F.type_list_pop mt_popAt (pv 3) (pa_cons (pe_call GD hr1 rfl mD FD.kp bD .nil pass0 (pa_cons (pv 0) (pa_cons (pe_callB call_len_seq (by rfl) T.len PySem.boot_len (pa_cons (pv 3) pa_nil)) pa_nil))) pa_nil)))
        (pss_one (ps_expr (pe_bm PySem.F.plainAttrs_list PySem.F.slot_list_insert PySem.F.type_list_insert mt_insert (pv 3) (pa_cons (pe_call GD hr1 rfl mD FD.kp bD .nil pass0 (pa_cons (pv 0) (pa_cons (pe_op op_add (pe_callB call_len_seq (by rfl) T.len PySem.boot_len (pa_cons (pv 3) pa_nil)) pe_int) pa_nil))) (pa_cons (pv 5) pa_nil)))))))
      (pss_one (ps_ret (pv 3)))))))), ?_⟩
    have h16 : sizeLine = 16777216 := sizeLine_eq
    refine ⟨_, rfl, d, _, rfl, D, by decide, by decide, fun wy H1 w0 w1 D1 B1 => ?_⟩
    have hT1 := B1.seq D hT
    have shuf : ∀ {H2 : Hp} {R : VK} {v2 v3 v4 v5 : Option V}, But d H H2 → DeckAt H2 d → (∀ (p : Addr) (ks : List Int) (H' : Hp), H p = none → But d H H' → DeckAt H' d → H' p = some (.lst (ks.map V.int)) → ks.Perm js → R (.ref p) H') →
        tCall (spShuf K) [] E0 (tCons (tVar 0) (tCons (tVar 1) tNil)) [some (.ref d), some (.ref t), v2, v3, v4, v5] H2 R := fun {H2 R v2 v3 v4 v5} B2 D2 kk =>
      ⟨_, rfl, _, rfl, d, t, js, rfl, D2, B2.seq D hT, by omega, fun p ks H3 hp B3 D3 hP hq => kk p ks H3 (but_free B2 D2 hp) (B2.trans B3) D3 hP hq⟩
    refine ⟨_, rfl, rfl, _, rfl, ite2 (fun c => ?_) (fun c => ?_)⟩
    · refine iteT ?_
      exact shuf B1 D1 k
    · refine ⟨_, rfl, Nat.zero_le _, fun e he => ?_⟩
      have se := Same.new (o := .lst []) he
      have hE : upd H1 e (.lst []) e = some (.lst []) := upd_same
      generalize upd H1 e (.lst []) = H2 at se hE ⊢
      have B2 := B1.trans (But.of se)
      have D2 := D1.same se
      have hT2 := se.seq hT1
      refine ⟨t, e, js, [], rfl, rfl, hT2, SqL.of hE, _, rfl, ite2 (fun c => ?_) (fun c => ?_)⟩
      · exact shuf B2 D2 k
      · have hne : js ≠ [] := fun z => c (decide_eq_true z)
        have hpos : 0 < js.length := List.length_pos_iff.mpr hne
        refine ⟨_, rfl, rfl, _, rfl, ite2 (fun c => ?_) (fun c => ?_)⟩
        · refine ⟨_, rfl, t, _, rfl, hT2, fun p hp => ?_⟩
          have sp := Same.new (o := .lst (js.map V.int).reverse) hp
          exact k p js.reverse _ (but_free B2 D2 hp) (B2.trans (But.of sp)) (D2.same sp) (by rw [upd_same, List.map_reverse]) (List.reverse_perm js)
        · refine ⟨_, rfl, rfl, _, rfl, ite2 (fun c => ?_) (fun c => ?_)⟩
          · refine ⟨_, rfl, 1, rfl, 2, rfl, t, _, rfl, hT2, by decide, fun p hp => ?_⟩
            have sp := Same.new (o := .lst (pickL (js.map V.int) (placesL (some 1) none (some 2) (js.map V.int).length))) hp
            have hP : upd H2 p (.lst (pickL (js.map V.int) (placesL (some 1) none (some 2) (js.map V.int).length))) p = some (.lst ((pickL js (placesL (some 1) none (some 2) js.length)).map V.int)) := by rw [upd_same, pickL_map, List.length_map]
            generalize upd H2 p (.lst (pickL (js.map V.int) (placesL (some 1) none (some 2) (js.map V.int).length))) = H3 at sp hP ⊢
            refine ⟨_, rfl, 2, rfl, t, _, rfl, sp.seq hT2, by decide, fun q hq => ?_⟩
            have sq := Same.new (o := .lst (pickL (js.map V.int) (placesL none none (some 2) (js.map V.int).length))) hq
            have hQ : upd H3 q (.lst (pickL (js.map V.int) (placesL none none (some 2) (js.map V.int).length))) q = some (.lst ((pickL js (placesL none none (some 2) js.length)).map V.int)) := by rw [upd_same, pickL_map, List.length_map]
            generalize upd H3 q (.lst (pickL (js.map V.int) (placesL none none (some 2) (js.map V.int).length))) = H4 at sq hQ ⊢
            have hPerm := pick_two hj
            have hpl := hPerm.length_eq
            rw [List.length_append] at hpl
            refine ⟨p, q, _, _, rfl, rfl, sq _ _ hP, hQ, by rw [List.length_map, List.length_map, h16]; omega, fun r hr2 => ?_⟩
            have sr := Same.new (o := .lst ((pickL js (placesL (some 1) none (some 2) js.length)).map V.int ++ (pickL js (placesL none none (some 2) js.length)).map V.int)) hr2
            exact k r _ _ (but_free (B2.trans (But.of (sp.trans sq))) (D2.same (sp.trans sq)) hr2) (B2.trans (But.of (sp.trans (sq.trans sr)))) (D2.same (sp.trans (sq.trans sr))) (by rw [upd_same, ← List.map_append]) hPerm
          · refine ⟨_, rfl, t, _, rfl, .inl hT2, fun l hl => ?_⟩
            have sl := Same.new (o := .lst (js.map V.int)) hl
            have hL : upd H2 l (.lst (js.map V.int)) l = some (.lst (js.map V.int)) := upd_same
            have hl0 : H l = none := but_free B2 D2 hl
            generalize upd H2 l (.lst (js.map V.int)) = H3 at sl hL ⊢
            have B3 := B2.trans (But.of sl)
            have D3 := D2.same sl
            have hT3 := sl.seq hT2
            refine ⟨_, rfl, _, rfl, t, _, rfl, .inl hT3, _, _, rfl, rfl, ⟨by decide, by decide⟩, _, _, rfl, rfl, d, _, rfl, D3, by omega, by rw [List.length_map]; omega, fun z H4 z0 z1 D4 B4 => ?_⟩
            obtain ⟨n, rfl⟩ : ∃ m : Nat, z = (m : Int) := ⟨z.toNat, by omega⟩
            refine ⟨(n : Int), rfl, by omega, by rw [List.length_map] at z1; omega, ?_⟩
            have hL4 := B4.lst D3 hL
            have B04 := B3.trans B4
            refine for_range (lo := 0) (n := ((n : Int)).toNat) (fun i σ H' => ∃ (v4 v5 : Option V) (ls : List Int), σ = [some (.ref d), some (.ref t), some (.int wy), some (.ref l), v4, v5] ∧ But d H H' ∧ DeckAt H' d ∧ H' l = some (.lst (ls.map V.int)) ∧ ls.Perm js)
              ⟨none, none, js, rfl, B04, D4, hL4, List.Perm.refl _⟩ ?_ ?_
            · rintro i σ H5 hi ⟨v4, v5, ls, rfl, B5, D5, hL5, hp5⟩
              have hl5 := hp5.length_eq
              refine ⟨_, rfl, .inl ⟨rfl, _, SqL.of hL5⟩, _, rfl, _, rfl, l, _, rfl, .inl (SqL.of hL5), d, _, rfl, D5, by rw [List.length_map]; omega, by rw [List.length_map]; omega, fun z H6 z0 z1 D6 B6 => ?_⟩
              rw [List.length_map] at z1
              obtain ⟨i, rfl⟩ : ∃ m : Nat, z = (m : Int) := ⟨z.toNat, by omega⟩
              have hi : i < ls.length := by omega
              have hL6 := B6.lst D5 hL5
              have hy : ls[i]? = some ls[i] := List.getElem?_eq_getElem hi
              refine ⟨l, _, _, i, .int ls[i], rfl, rfl, hL6, by omega, by omega, seqIndex_nat (by rw [List.length_map]; exact hi), by rw [List.getElem?_map, hy]; rfl, ?_⟩
              rw [erase_map]
              have B06 := B5.trans B6
              have n1 : d ≠ l := by
                obtain ⟨x, y, hd, _⟩ := D6
                exact (ne_of hL6 hd (nl _ _)).symm
              have upL : ∀ {H' : Hp} {o : HO}, But d H H' → But d H (upd H' l o) := fun {H' o} B b u hb e => by rw [upd_ne (ne_of_none e hl0)]; exact B b u hb e
              have upD : ∀ {H' : Hp} {o : HO}, DeckAt H' d → DeckAt (upd H' l o) d := fun {H' o} ⟨x, y, hd, rr⟩ => ⟨x, y, by rw [upd_ne n1]; exact hd, rr⟩
              have B7 : But d H (upd H6 l (.lst ((ls.eraseIdx i).map V.int))) := upL B06
              have D7 : DeckAt (upd H6 l (.lst ((ls.eraseIdx i).map V.int))) d := upD D6
              have hL7 : upd H6 l (.lst ((ls.eraseIdx i).map V.int)) l = some (.lst ((ls.eraseIdx i).map V.int)) := upd_same
              generalize upd H6 l (.lst ((ls.eraseIdx i).map V.int)) = H7 at B7 D7 hL7 ⊢
              have hel : (ls.eraseIdx i).length + 1 = ls.length := by rw [List.length_eraseIdx_of_lt hi]; omega
              refine ⟨_, rfl, .inl ⟨rfl, _, SqL.of hL7⟩, _, rfl, _, rfl, l, _, rfl, .inl (SqL.of hL7), _, _, rfl, rfl, d, _, rfl, D7, by rw [List.length_map]; omega, by rw [List.length_map]; omega, fun z H8 z0 z1 D8 B8 => ?_⟩
              rw [List.length_map] at z1
              have hL8 := B8.lst D7 hL7
              refine ⟨_, rfl, l, _, z, .int ls[i], rfl, rfl, hL8, by rw [List.length_map, h16]; omega, z0, by omega, ?_⟩
              refine ⟨_, _, (ls.eraseIdx i).take z.toNat ++ [ls[i]] ++ (ls.eraseIdx i).drop z.toNat, rfl, upL (B7.trans B8), upD D8, ?_, ?_⟩
              · rw [upd_same, List.map_append, List.map_append, List.map_take, List.map_drop]; rfl
              · exact (ins_perm _ _ _).trans ((L2.erase_perm ls i _ hy).trans hp5)
            · rintro σ H5 ⟨v4, v5, ls, rfl, B5, D5, hL5, hp5⟩
              exact ⟨_, rfl, k l ls H5 hl0 B5 D5 hL5 hp5⟩
end
/-! ### drawn weights -/
theorem put_pin (ps : List (Int × Int)) (x a : Int) : ∃ qs, putK (pinK ps) (.inl x : Key) (.int a) = pinK qs ∧ (∀ p ∈ qs, p ∈ ps ∨ p = (x, a)) ∧ qs.length ≤ ps.length + 1 ∧ ((ps.map Prod.fst).Nodup → (qs.map Prod.fst).Nodup) := by
  by_cases h : x ∈ ps.map Prod.fst
  · refine ⟨ps.map fun p => if p.1 = x then (x, a) else p, ?_, ?_, ?_, ?_⟩
    · have hv : ((pinK ps).any fun kv => decide (kv.1 = (.inl x : Key))) = true := by
        obtain ⟨p, hp, e⟩ := List.mem_map.mp h
        refine List.any_eq_true.mpr ⟨((.inl p.1 : Key), .int p.2), ?_, decide_eq_true (by rw [e])⟩
        unfold pinK
        exact List.mem_map.mpr ⟨p, hp, rfl⟩
      unfold putK
      rw [if_pos hv]
      unfold pinK
      rw [List.map_map, List.map_map]
      refine List.map_congr_left fun p hp => ?_
      by_cases e : p.1 = x
      · show (if (.inl p.1 : Key) = .inl x then ((.inl p.1 : Key), V.int a) else _) = _
        rw [if_pos (by rw [e])]
        show _ = ((.inl (if p.1 = x then (x, a) else p).1 : Key), V.int (if p.1 = x then (x, a) else p).2)
        rw [if_pos e, e]
      · show (if (.inl p.1 : Key) = .inl x then ((.inl p.1 : Key), V.int a) else _) = _
        rw [if_neg (by intro z; cases z; exact e rfl)]
        show _ = ((.inl (if p.1 = x then (x, a) else p).1 : Key), V.int (if p.1 = x then (x, a) else p).2)
        rw [if_neg e]
    · intro p hp
      obtain ⟨q, hq, e⟩ := List.mem_map.mp hp
      by_cases z : q.1 = x
      · rw [if_pos z] at e; exact .inr e.symm
      · rw [if_neg z] at e; exact .inl (e ▸ hq)
    · rw [List.length_map]; omega
    · intro nd
      have : (ps.map fun p => if p.1 = x then (x, a) else p).map Prod.fst = ps.map Prod.fst := by
        rw [List.map_map]
        refine List.map_congr_left fun p _ => ?_
        show (if p.1 = x then (x, a) else p).1 = p.1
        by_cases e : p.1 = x
        · rw [if_pos e, e]
        · rw [if_neg e]
      rw [this]; exact nd
  · refine ⟨ps ++ [(x, a)], pin_put h, fun p hp => ?_, by rw [List.length_append]; exact Nat.le_refl _, fun nd => ?_⟩
    · rcases List.mem_append.mp hp with e | e
      · exact .inl e
      · exact .inr (List.mem_singleton.mp e)
    · rw [List.map_append]
      refine List.nodup_append.mpr ⟨nd, by simp, ?_⟩
      intro u hu v hv e
      have : v = x := by simpa using hv
      exact h (this ▸ e ▸ hu)
/-- weights that the law draws -/
def LoadsP (ks : List Int) (n : Nat) (most : Int) (ws : List (Int × Int)) : Prop := (ws.map Prod.fst).Nodup ∧ ws.length ≤ n ∧ ∀ p ∈ ws, 1 ≤ p.2 ∧ p.2 ≤ most ∧ p.1 ∈ ks
theorem LoadsP.put {ks : List Int} {n : Nat} {most x a : Int} {ps : List (Int × Int)} (h : LoadsP ks n most ps) (hx : x ∈ ks) (h1 : 1 ≤ a) (h2 : a ≤ most) : ∃ qs, putK (pinK ps) (.inl x : Key) (.int a) = pinK qs ∧ LoadsP ks (n + 1) most qs := by
  obtain ⟨qs, e, q1, q2, q3⟩ := put_pin ps x a
  refine ⟨qs, e, q3 h.1, Nat.le_trans q2 (Nat.succ_le_succ h.2.1), fun p hp => ?_⟩
  rcases q1 p hp with z | z
  · exact h.2.2 p z
  · rw [z]; exact ⟨h1, h2, hx⟩
def LoadsO (ks : List Int) (n : Nat) (most : Int) (wo : Option (List (Int × Int))) : Prop := ∀ ws, wo = some ws → LoadsP ks n most ws
theorem LoadsO.wt {ks : List Int} {n : Nat} {most : Int} {wo : Option (List (Int × Int))} (h : LoadsO ks n most wo) (hm : 1 ≤ most) (x : Int) : 1 ≤ wtI wo x ∧ wtI wo x ≤ most := by
  cases wo with
  | none => exact ⟨Int.le_refl _, hm⟩
  | some ws =>
    show 1 ≤ (anOf ws x).getD 1 ∧ (anOf ws x).getD 1 ≤ most
    cases q : anOf ws x with
    | none => exact ⟨Int.le_refl _, hm⟩
    | some b => exact ⟨((h ws rfl).2.2 _ (an_mem q)).1, ((h ws rfl).2.2 _ (an_mem q)).2.1⟩
section
variable {P : Program} {w : World} {K : PySem.W.Frag} {mg : Str → Option Value} {base : Heap}
def spLoads (K : PySem.W.Frag) : Sp := fun vs H Q _ => ∃ (d t : Addr) (js : List Int) (most : Int), vs = [.ref d, .ref t, .int most] ∧ DeckAt H d ∧ H t = some (.lst (js.map V.int)) ∧ js.length < 300 ∧ 3 ≤ most ∧ most < 1000000 ∧
  ∀ (v : V) (wo : Option (List (Int × Int))) (H' : Hp), (∀ p, v = .ref p → H p = none) → But d H H' → DeckAt H' d → WtAt H' v wo → LoadsO (js ++ [1000000]) (js.length + 1) most wo → Q v H'
abbrev NLo : List Str := ["tape", "base", "most", "way", "found", "row_id"]
theorem scLoads : FnScope NLo ["tape", "base", "most"] (defScope sLoads) := ⟨rfl, rfl, rfl, by decide +kernel, rfl, by decide +kernel, by decide +kernel⟩
theorem ok_loads {f fD fC : Addr} {fd fdD fdC : FuncData} (F : Fun K "_law_loads" "_law_loads" sLoads f fd) (FD : Fun K "_law_pick" "_law_pick" sDraw fD fdD) (bD : L2.Binds K fdD ["tape", "size"] []) (mD : mg "_law_pick" = some (.ref fD))
    (GC : FnOk P w K mg base CX0 2 fC fdC ["tape", "items"] (spChoose K)) (kC : PySem.W.keepIn K (.ref fC) = true) (bC : L2.Binds K fdC ["tape", "items"] []) (mC : mg "_law_one_of" = some (.ref fC)) :
    FnOk P w K mg base CX0 3 f fd ["tape", "base", "most"] (spLoads K) := by
  have GD : FnOk P w K mg base CX0 1 fD fdD ["tape", "size"] spDraw := ok_draw FD
  refine F.ok scLoads (fun vs H Q E h => ?_) (fun cdv A outer s H vs Q E hr h => ?_)
  · obtain ⟨d, t, js, most, rfl, _⟩ := h
    rfl
  · obtain ⟨d, t, js, most, rfl, D, hT, hj, hm3, hm6, k⟩ := h
    have hu := hu_of hr
    have hr1 : Room 1 _ := hr.mono (by decide)
    refine ⟨_, pss_cons (ps_set (i := 3) scLoads.nd rfl (Or.inl rfl) (pe_call GD hr1 rfl mD FD.kp bD .nil pass0 (pa_cons (pv 0) (pa_cons pe_int pa_nil))))
      (pss_cons (ps_if (pt_cmpR op_eq (pv 3) pe_int (nomark _)) (pss_one (ps_ret pe_non)) pss_nil)
      (pss_cons (ps_set (i := 4) scLoads.nd rfl (Or.inl rfl) pe_dnewK)
      (pss_cons (ps_for PassesOwn.never rfl (pi_list (pe_op op_cat (pv 1) (pe_lst (pa_cons (pe_op op_pow pe_int pe_int) pa_nil)))) (pg_name (i := 5) scLoads.nd rfl (Or.inl rfl))
        (pss_one (ps_if (PW.pt (pw_or (pt_cmpR op_gt (pv 3) pe_int (nomark _)) (pw_or1 (pt_cmpR op_eq (pe_call GD hr1 rfl mD FD.kp bD .nil pass0 (pa_cons (pv 0) (pa_cons pe_int pa_nil))) pe_int (nomark _)))))
          (pss_one (ps_dput hu (pv 4) (pv 5) (pe_call GC hr rfl mC kC bC .nil pass0 (pa_cons (pv 0) (pa_cons (pe_lst
            (pa_cons (pe_op op_add pe_int (pe_call GD hr1 rfl mD FD.kp bD .nil pass0 (pa_cons (pv 0) (pa_cons pe_int pa_nil))))
            (pa_cons (pe_op op_add pe_int (pe_call GD hr1 rfl mD FD.kp bD .nil pass0 (pa_cons (pv 0) (pa_cons (pv 2) pa_nil))))
            (pa_cons (pv 2) pa_nil)))) pa_nil))) rfl)) pss_nil)))
      (pss_one (ps_ret (pv 4)))))), ?_⟩
    have h16 : sizeLine = 16777216 := sizeLine_eq
    refine ⟨_, rfl, d, _, rfl, D, by decide, by decide, fun wy H1 w0 w1 D1 B1 => ?_⟩
    have hT1 := B1.lst D hT
    refine ⟨_, rfl, rfl, _, rfl, ite2 (fun c => ?_) (fun c => ?_)⟩
    · exact k .non none H1 (fun p z => by cases z) B1 D1 (.inl ⟨rfl, rfl⟩) (fun ws z => by cases z)
    · refine fun q hq => ?_
      have s1 := Same.new (o := .dK []) hq
      have hQ : upd H1 q (.dK []) q = some (.dK (pinK [])) := upd_same
      have hq0 : H q = none := but_free B1 D1 hq
      generalize upd H1 q (.dK []) = H2 at s1 hQ ⊢
      have B2 := B1.trans (But.of s1)
      have D2 := D1.same s1
      have hT2 := s1 _ _ hT1
      refine ⟨_, rfl, _, _, rfl, rfl, ⟨by decide, by decide, by decide⟩, by rw [h16]; show 1 ≤ 16777216; decide, fun c hc => ?_⟩
      show rCat (V.ref t) (V.ref c) (upd H2 c (HO.lst [V.int (10 ^ (6 : Int).toNat)])) _
      rw [pow6]
      have s2 := Same.new (o := .lst [V.int 1000000]) hc
      have hC : upd H2 c (.lst [V.int 1000000]) c = some (.lst [V.int 1000000]) := upd_same
      have hc0 : H c = none := but_free B2 D2 hc
      generalize upd H2 c (.lst [V.int 1000000]) = H3 at s2 hC ⊢
      have hT3 := s2 _ _ hT2
      have hQ3 := s2 _ _ hQ
      have B3 := B2.trans (But.of s2)
      have D3 := D2.same s2
      refine ⟨t, c, _, _, rfl, rfl, hT3, hC, by rw [List.length_map, h16]; show _ + 1 ≤ _; omega, fun cc hcc => ?_⟩
      have ecat : js.map V.int ++ [V.int 1000000] = (js ++ [1000000]).map V.int := by rw [List.map_append]; rfl
      rw [ecat]
      have s3 := Same.new (o := .lst ((js ++ [1000000]).map V.int)) hcc
      have hCC : upd H3 cc (.lst ((js ++ [1000000]).map V.int)) cc = some (.lst ((js ++ [1000000]).map V.int)) := upd_same
      have hcc0 : H cc = none := but_free B3 D3 hcc
      have ncq : q ≠ cc := ne_of_none hQ3 hcc
      generalize upd H3 cc (.lst ((js ++ [1000000]).map V.int)) = H4 at s3 hCC ⊢
      have hQ4 := s3 _ _ hQ3
      have B4 := B3.trans (But.of s3)
      have D4 := D3.same s3
      have ndq : d ≠ q := by
        obtain ⟨x, y, hd, _⟩ := D4
        exact (ne_of hQ4 hd (nP _ _)).symm
      have upL : ∀ {H' : Hp} {o : HO}, But d H H' → But d H (upd H' q o) := fun {H' o} B b u hb e => by rw [upd_ne (ne_of_none e hq0)]; exact B b u hb e
      have upD : ∀ {H' : Hp} {o : HO}, DeckAt H' d → DeckAt (upd H' q o) d := fun {H' o} ⟨x, y, hd, rr⟩ => ⟨x, y, by rw [upd_ne ndq]; exact hd, rr⟩
      refine ⟨cc, rfl, ⟨_, SqL.of hCC⟩, for_list (K := K) (a := cc) (xs := (js ++ [1000000]).map V.int) (fun i σ H' => ∃ (v5 : Option V) (ws : List (Int × Int)), σ = [some (.ref d), some (.ref t), some (.int most), some (.int wy), some (.ref q), v5] ∧ But d H H' ∧ DeckAt H' d ∧ H' q = some (.dK (pinK ws)) ∧ H' cc = some (.lst ((js ++ [1000000]).map V.int)) ∧ LoadsP (js ++ [1000000]) i most ws ∧ i ≤ js.length + 1)
        ⟨none, [], rfl, B4, D4, hQ4, hCC, ⟨List.nodup_nil, Nat.le_refl _, fun p hp => by cases hp⟩, Nat.zero_le _⟩ (fun i σ H' _ ⟨_, _, _, _, _, _, h, _⟩ => SqL.of h) ?_ ?_⟩
      · rintro i y σ H5 hi ⟨v5, ws, rfl, B5, D5, hQ5, hC5, L5, hil⟩
        obtain ⟨x, hx, rfl⟩ := int_at (i := i) (by assumption)
        have hil2 : i < js.length + 1 := by
          have := (List.getElem?_eq_some_iff.mp hx).1
          rw [List.length_append] at this; exact this
        have hwl := L5.2.1
        -- the new weight
        have put : ∀ (Dn : Ends) (H6 : Hp), But d H H6 → DeckAt H6 d → H6 q = some (.dK (pinK ws)) → H6 cc = some (.lst ((js ++ [1000000]).map V.int)) →
            (∀ (H7 : Hp) (qs : List (Int × Int)), But d H H7 → DeckAt H7 d → H7 q = some (.dK (pinK qs)) → H7 cc = some (.lst ((js ++ [1000000]).map V.int)) → LoadsP (js ++ [1000000]) (i + 1) most qs → Dn.nx [some (.ref d), some (.ref t), some (.int most), some (.int wy), some (.ref q), some (.int x)] H7) →
            sDPut (tVar 4) (tVar 5) (tCall (spChoose K) [] E0 (tCons (tVar 0) (tCons (tLst (tCons (tOp (rI0 fun i j => V.int (i + j)) (tC (V.int 1)) (tCall spDraw [] E0 (tCons (tVar 0) (tCons (tC (V.int 3)) tNil)))) (tCons (tOp (rI0 fun i j => V.int (i + j)) (tC (V.int 1)) (tCall spDraw [] E0 (tCons (tVar 0) (tCons (tVar 2) tNil)))) (tCons (tVar 2) tNil)))) tNil))) Dn [some (.ref d), some (.ref t), some (.int most), some (.int wy), some (.ref q), some (.int x)] H6 := by
          intro Dn H6 B6 D6 hQ6 hC6 kk
          refine ⟨_, rfl, _, rfl, d, _, rfl, D6, by decide, by decide, fun r1 H7 r10 r11 D7 B7 => ⟨_, _, rfl, rfl, ?_⟩⟩
          refine ⟨_, rfl, _, rfl, d, _, rfl, D7, by omega, by omega, fun r2 H8 r20 r21 D8 B8 => ⟨_, _, rfl, rfl, ?_⟩⟩
          have hQ8 := B8 _ _ ndq.symm (B7 _ _ ndq.symm hQ6)
          have hC8 := B8.lst D7 (B7.lst D6 hC6)
          have B08 := (B6.trans B7).trans B8
          refine ⟨_, rfl, by rw [h16]; show 3 ≤ 16777216; decide, fun u hu2 => ?_⟩
          have su := Same.new (o := .lst [V.int (1 + r1), V.int (1 + r2), V.int most]) hu2
          have hU : upd H8 u (.lst [V.int (1 + r1), V.int (1 + r2), V.int most]) u = some (.lst [V.int (1 + r1), V.int (1 + r2), V.int most]) := upd_same
          show spChoose K [V.ref d, V.ref u] (upd H8 u (.lst [V.int (1 + r1), V.int (1 + r2), V.int most])) _ E0
          generalize upd H8 u (.lst [V.int (1 + r1), V.int (1 + r2), V.int most]) = H9 at su hU ⊢
          refine ⟨d, u, _, rfl, D8.same su, SqL.of hU, (fun z => by cases z), (by show 3 < 1000000; decide), fun v H10 hv D10 B10 => ?_⟩
          obtain ⟨a, rfl, a1, a2⟩ : ∃ a : Int, v = .int a ∧ 1 ≤ a ∧ a ≤ most := by
            rcases List.mem_cons.mp hv with e | hv
            · exact ⟨_, e, by omega, by omega⟩
            rcases List.mem_cons.mp hv with e | hv
            · exact ⟨_, e, by omega, by omega⟩
            rcases List.mem_cons.mp hv with e | hv
            · exact ⟨_, e, by omega, by omega⟩
            · cases hv
          have D9 := D8.same su
          have hQ10 := B10 _ _ ndq.symm (su _ _ hQ8)
          have hC10 := B10.lst D9 (su _ _ hC8)
          obtain ⟨qs, e, L6⟩ := L5.put (x := x) (List.mem_of_getElem? hx) a1 a2
          refine ⟨_, rfl, _, rfl, q, _, rfl, DPut.k (k := (.inl x : Key)) hQ10 (by rw [pin_len, h16]; omega), ?_⟩
          rw [e]
          exact kk _ qs (upL ((B08.trans (But.of su)).trans B10)) (upD D10) upd_same (by rw [upd_ne ncq.symm]; exact hC10) L6
        have L5' : LoadsP (js ++ [1000000]) (i + 1) most ws := ⟨L5.1, by omega, L5.2.2⟩
        refine ⟨_, rfl, _, _, rfl, rfl, _, rfl, ite2 (fun c => ?_) (fun c => ?_)⟩
        · refine iteT ?_
          exact put _ H5 B5 D5 hQ5 hC5 fun H7 qs B7 D7 hQ7 hC7 L7 => ⟨_, qs, rfl, B7, D7, hQ7, hC7, L7, hil2⟩
        · refine ⟨_, rfl, d, _, rfl, D5, by decide, by decide, fun r1 H6 r10 r11 D6 B6 => ?_⟩
          have hQ6 := B6 _ _ ndq.symm hQ5
          have hC6 := B6.lst D5 hC5
          refine ⟨rfl, _, rfl, ite2 (fun c => ?_) (fun c => ?_)⟩
          · exact put _ H6 (B5.trans B6) D6 hQ6 hC6 fun H7 qs B7 D7 hQ7 hC7 L7 => ⟨_, qs, rfl, B7, D7, hQ7, hC7, L7, hil2⟩
          · exact ⟨_, ws, rfl, B5.trans B6, D6, hQ6, hC6, L5', hil2⟩
      · rintro σ H5 ⟨v5, ws, rfl, B5, D5, hQ5, hC5, L5, _⟩
        rw [List.length_map, List.length_append] at L5
        exact ⟨_, rfl, k (.ref q) (some ws) H5 (fun p z => by cases z; exact hq0) B5 D5 (.inr ⟨q, ws, rfl, rfl, hQ5⟩) (fun us z => by cases z; exact L5)⟩
end
/-! ### favoured ids, a weight -/
structure TxtK (mg : Str → Option Value) : Prop where
  len : mg "len" = none
  tuple : mg "tuple" = none
section
variable {P : Program} {w : World} {K : PySem.W.Frag} {mg : Str → Option Value} {base : Heap}
def FavAt (K : PySem.W.Frag) (H : Hp) (p : Addr) (fav : List Int) : Prop := SqL K H p (fav.map V.int) ∨ SqT K H p (fav.map V.int)
def spLiked (K : PySem.W.Frag) : Sp := fun vs H Q _ => ∃ (d t : Addr) (js : List Int), vs = [.ref d, .ref t] ∧ DeckAt H d ∧ SqL K H t (js.map V.int) ∧ js.length < 300 ∧
  ∀ (p : Addr) (fav : List Int) (H' : Hp), H p = none → But d H H' → DeckAt H' d → (H' p = some (.lst (fav.map V.int)) ∨ H' p = some (.tup (fav.map V.int))) → fav.length ≤ js.length + 1 → (∀ x ∈ fav, x ∈ js ∨ x = 1000000) → Q (.ref p) H'
abbrev NLi : List Str := ["tape", "base", "found", "row_id"]
theorem scLiked : FnScope NLi ["tape", "base"] (defScope sLiked) := ⟨rfl, rfl, rfl, by decide +kernel, rfl, by decide +kernel, by decide +kernel⟩
theorem ok_liked {f fD fC : Addr} {fd fdD fdC : FuncData} (F : Fun K "_law_liked" "_law_liked" sLiked f fd) (T : TxtK mg) (FD : Fun K "_law_pick" "_law_pick" sDraw fD fdD) (bD : L2.Binds K fdD ["tape", "size"] []) (mD : mg "_law_pick" = some (.ref fD))
    (GC : FnOk P w K mg base CX0 2 fC fdC ["tape", "items"] (spChoose K)) (kC : PySem.W.keepIn K (.ref fC) = true) (bC : L2.Binds K fdC ["tape", "items"] []) (mC : mg "_law_one_of" = some (.ref fC)) :
    FnOk P w K mg base CX0 3 f fd ["tape", "base"] (spLiked K) := by
  have GD : FnOk P w K mg base CX0 1 fD fdD ["tape", "size"] spDraw := ok_draw FD
  refine F.ok scLiked (fun vs H Q E h => ?_) (fun cdv A outer s H vs Q E hr h => ?_)
  · obtain ⟨d, t, js, rfl, _⟩ := h
    rfl
  · obtain ⟨d, t, js, rfl, D, hT, hj, k⟩ := h
    have hr1 : Room 1 _ := hr.mono (by decide)
    refine ⟨_, pss_cons (ps_setLc (i := 2) (own := [("row_id", 3)]) (g := gName 3) rfl scLiked.nd rfl rfl rfl (pi_list (pv 1)) (blkOk_by (N := NLi) (sc := defScope sLiked) (by decide +kernel)) (fun _ _ _ _ _ => pg_name (i := 3) scLiked.nd rfl (Or.inl rfl))
        (fun _ _ _ _ _ => pts_one (pt_cmpR op_eq (pe_call GD hr1 rfl mD FD.kp bD .nil pass0 (pa_cons (pv 0) (pa_cons pe_int pa_nil))) pe_int (nomark _))) (fun _ _ _ _ _ => pv 3))
      (pss_cons (ps_expr (pe_bm PySem.F.plainAttrs_list PySem.F.slot_list_insert PySem.F.type_list_insert mt_insert (pv 2) (pa_cons (pe_call GD hr1 rfl mD FD.kp bD .nil pass0 (pa_cons (pv 0) (pa_cons (pe_op op_add (pe_callB call_len_seq (by rfl) T.len PySem.boot_len (pa_cons (pv 2) pa_nil)) pe_int) pa_nil))) (pa_cons (pe_op op_pow pe_int pe_int) pa_nil))))
      (pss_one (ps_ret (pe_call GC hr rfl mC kC bC .nil pass0 (pa_cons (pv 0) (pa_cons (pe_lst (pa_cons (pe_tup pa_nil) (pa_cons (pv 2) (pa_cons (pe_callTy call_tuple_of (by rfl) T.tuple (by decide +kernel) (pa_cons (pv 2) pa_nil)) pa_nil)))) pa_nil)))))), ?_⟩
    have h16 : sizeLine = 16777216 := sizeLine_eq
    refine ⟨_, rfl, t, rfl, ⟨_, hT⟩, fun r hr2 => ?_⟩
    have hr0 : H r = none := hr2
    have s0 := Same.new (o := .lst []) hr2
    have ndr : d ≠ r := by
      obtain ⟨x, y, hd, _⟩ := D
      exact ne_of_none hd hr2
    have upL : ∀ {H' : Hp} {o : HO}, But d H H' → But d H (upd H' r o) := fun {H' o} B b u hb e => by rw [upd_ne (ne_of_none e hr0)]; exact B b u hb e
    have upD : ∀ {H' : Hp} {o : HO}, DeckAt H' d → DeckAt (upd H' r o) d := fun {H' o} ⟨x, y, hd, rr⟩ => ⟨x, y, by rw [upd_ne ndr]; exact hd, rr⟩
    refine lc_list (K := K) (a := t) (xs := js.map V.int) (fun i H' => ∃ ls : List Int, But d H H' ∧ DeckAt H' d ∧ H' r = some (.lst (ls.map V.int)) ∧ ls.length ≤ i ∧ (∀ x ∈ ls, x ∈ js) ∧ i ≤ js.length) ⟨[], But.of s0, D.same s0, upd_same, Nat.le_refl _, (fun x hx => by cases hx), Nat.zero_le _⟩ (fun i H' _ ⟨_, B, _⟩ => B.seq D hT) ?_ ?_
    · rintro i y H1 hi ⟨ls, B1, D1, hR1, hll, hls, hil⟩
      obtain ⟨x, hx, rfl⟩ := int_at hi
      have hxm := List.mem_of_getElem? hx
      have hil2 : i < js.length := (List.getElem?_eq_some_iff.mp hx).1
      refine ⟨rfl, _, rfl, d, _, rfl, D1, by decide, by decide, fun z H2 z0 z1 D2 B2 => ?_⟩
      have hR2 := B2.lst D1 hR1
      refine ⟨rfl, _, rfl, ite2 (fun c => ?_) (fun c => ?_)⟩
      · refine ⟨_, rfl, _, hR2, by rw [List.length_map, h16]; omega, ls ++ [x], upL (B1.trans B2), upD D2, by rw [upd_same, List.map_append]; rfl, by rw [List.length_append]; show _ + 1 ≤ _; omega, fun u hu => ?_, hil2⟩
        rcases List.mem_append.mp hu with q | q
        · exact hls u q
        · rw [List.mem_singleton.mp q]; exact hxm
      · exact ⟨ls, B1.trans B2, D2, hR2, by omega, hls, hil2⟩
    · rintro H1 ⟨ls, B1, D1, hR1, hll, hls, _⟩
      rw [List.length_map] at hll
      have n1000 : 1000000 = (10 : Int) ^ (6 : Int).toNat := pow6.symm
      refine ⟨_, rfl, .inl ⟨rfl, _, SqL.of hR1⟩, _, rfl, _, rfl, r, _, rfl, .inl (SqL.of hR1), _, _, rfl, rfl, d, _, rfl, D1, by rw [List.length_map]; omega, by rw [List.length_map]; omega, fun z H2 z0 z1 D2 B2 => ?_⟩
      rw [List.length_map] at z1
      have hR2 := B2.lst D1 hR1
      refine ⟨_, _, rfl, rfl, ⟨by decide, by decide, by decide⟩, r, _, z, .int 1000000, rfl, (by show [V.int z, V.int (10 ^ (6 : Int).toNat)] = _; rw [pow6]), hR2, by rw [List.length_map, h16]; omega, z0, by omega, ?_⟩
      obtain ⟨fs, hfs⟩ : ∃ fs : List Int, fs = ls.take z.toNat ++ [1000000] ++ ls.drop z.toNat := ⟨_, rfl⟩
      have efs : (ls.map V.int).take z.toNat ++ [V.int 1000000] ++ (ls.map V.int).drop z.toNat = fs.map V.int := by rw [hfs, List.map_append, List.map_append, List.map_take, List.map_drop]; rfl
      rw [efs]
      have hper : fs.Perm (1000000 :: ls) := by rw [hfs]; exact ins_perm _ _ _
      have hfl : fs.length ≤ js.length + 1 := by rw [hper.length_eq, List.length_cons]; omega
      have hfm : ∀ x ∈ fs, x ∈ js ∨ x = 1000000 := fun x hx => by
        rcases List.mem_cons.mp (hper.mem_iff.mp hx) with e | e
        · exact .inr e
        · exact .inl (hls x e)
      have B3 : But d H (upd H2 r (.lst (fs.map V.int))) := upL (B1.trans B2)
      have D3 : DeckAt (upd H2 r (.lst (fs.map V.int))) d := upD D2
      have hR3 : upd H2 r (.lst (fs.map V.int)) r = some (.lst (fs.map V.int)) := upd_same
      generalize upd H2 r (.lst (fs.map V.int)) = H3 at B3 D3 hR3 ⊢
      refine ⟨_, rfl, Nat.zero_le _, fun e he => ?_⟩
      have he0 : H e = none := but_free B3 D3 he
      have s4 := Same.new (o := .tup []) he
      have hE : upd H3 e (.tup []) e = some (.tup []) := upd_same
      generalize upd H3 e (.tup []) = H4 at s4 hE ⊢
      have D4 := D3.same s4
      have hR4 := s4 _ _ hR3
      refine ⟨_, rfl, _, rfl, r, _, rfl, .inl ⟨SqL.of hR4, fun u hu => ?_⟩⟩
      have hu0 : H u = none := but_free (B3.trans (But.of s4)) D4 hu
      have s5 := Same.new (o := .tup (fs.map V.int)) hu
      have hU : upd H4 u (.tup (fs.map V.int)) u = some (.tup (fs.map V.int)) := upd_same
      generalize upd H4 u (.tup (fs.map V.int)) = H5 at s5 hU ⊢
      have D5 := D4.same s5
      refine ⟨by rw [h16]; show 3 ≤ 16777216; decide, fun l hl => ?_⟩
      have s6 := Same.new (o := .lst [V.ref e, V.ref r, V.ref u]) hl
      have hL : upd H5 l (.lst [V.ref e, V.ref r, V.ref u]) l = some (.lst [V.ref e, V.ref r, V.ref u]) := upd_same
      show spChoose K [V.ref d, V.ref l] (upd H5 l (.lst [V.ref e, V.ref r, V.ref u])) _ E0
      generalize upd H5 l (.lst [V.ref e, V.ref r, V.ref u]) = H6 at s6 hL ⊢
      have D6 := D5.same s6
      have s46 := s5.trans s6
      have B6 := B3.trans (But.of (s4.trans s46))
      refine ⟨d, l, _, rfl, D6, SqL.of hL, (fun z => by cases z), (by show 3 < 1000000; decide), fun v H7 hv D7 B7 => ?_⟩
      have B07 := B6.trans B7
      rcases List.mem_cons.mp hv with q | hv
      · subst q
        exact k e [] H7 he0 B07 D7 (.inr (B7.tup D6 (s46 _ _ hE))) (Nat.zero_le _) (fun x hx => by cases hx)
      rcases List.mem_cons.mp hv with q | hv
      · subst q
        exact k r fs H7 hr0 B07 D7 (.inl (B7.lst D6 (s46 _ _ hR4))) hfl hfm
      rcases List.mem_cons.mp hv with q | hv
      · subst q
        exact k u fs H7 hu0 B07 D7 (.inr (B7.tup D6 (s6 _ _ hU))) hfl hfm
      · cases hv
end
/-! ### orders, weights and favoured ids as data -/
theorem WtAt.but {d : Addr} {H H' : Hp} {v : V} {wo : Option (List (Int × Int))} (D : DeckAt H d) (B : But d H H') (h : WtAt H v wo) : WtAt H' v wo := by
  rcases h with h | ⟨p, ws, h1, h2, h3⟩
  · exact .inl h
  · obtain ⟨x, y, hd, _⟩ := D
    exact .inr ⟨p, ws, h1, h2, B _ _ (ne_of h3 hd (nP _ _)) h3⟩
structure RokL (d : PyData) : Prop where
  o : okW d = true
  dep : d.depth ≤ 5
  sz : szW d ≤ 200000
theorem rokL_list {ids : List Int} (hI : ∀ z ∈ ids, 0 ≤ z ∧ z ≤ 1000000) (hl : ids.length ≤ 300) : RokL (.list (ids.map .int)) := by
  obtain ⟨o1, o2⟩ := ints_okW ids hI
  refine ⟨by rw [okW]; exact o1, by rw [PyData.depth, PySem.W.depth_ints]; decide, by rw [szW, o2]; omega⟩
theorem rokL_tup {ids : List Int} (hI : ∀ z ∈ ids, 0 ≤ z ∧ z ≤ 1000000) (hl : ids.length ≤ 300) : RokL (.tuple (ids.map .int)) := by
  obtain ⟨o1, o2⟩ := ints_okW ids hI
  refine ⟨by rw [okW]; exact o1, by rw [PyData.depth, PySem.W.depth_ints]; decide, by rw [szW, o2]; omega⟩
/-- orders, weights and favoured ids as data -/
theorem four_dw {K : PySem.W.Frag} {H : Hp} {l g fv : Addr} {v : V} {wo : Option (List (Int × Int))} {js ids fav ks : List Int} {n : Nat} {most : Int} (hl : H l = some (.lst (js.map V.int))) (hg : H g = some (.lst (ids.map V.int))) (hw : WtAt H v wo)
    (hf : H fv = some (.lst (fav.map V.int)) ∨ H fv = some (.tup (fav.map V.int))) (bj : ∀ z ∈ js, 0 ≤ z ∧ z ≤ 1000000) (bi : ∀ z ∈ ids, 0 ≤ z ∧ z ≤ 1000000) (bf : ∀ z ∈ fav, 0 ≤ z ∧ z ≤ 1000000) (nj : js.length ≤ 300) (ni : ids.length ≤ 300) (nf : fav.length ≤ 300)
    (hL : LoadsO ks n most wo) (bk : ∀ z ∈ ks, 0 ≤ z ∧ z ≤ 1000000) (hn : n ≤ 300) (hm : most ≤ 1000000) :
    ∃ d : PyData, (okW d = true ∧ d.depth ≤ 40 ∧ szW d ≤ 1000000) ∧ ∀ (H' : Hp) (T : Addr), Same H H' → H' T = some (.tup [.ref l, .ref g, v, .ref fv]) → DW K H' (.ref T) d := by
  obtain ⟨wd, w1, w2⟩ : ∃ wd : PyData, RokL wd ∧ ∀ H', Same H H' → DW K H' v wd := by
    rcases hw with ⟨rfl, _⟩ | ⟨p, ws, rfl, rfl, hp⟩
    · exact ⟨.none, ⟨by rw [okW], by rw [PyData.depth]; decide, by rw [szW]; decide⟩, fun H' _ => .non⟩
    · have L := hL ws rfl
      obtain ⟨p1, p2, p3⟩ := pins_okW ws fun e he => ⟨bk _ (L.2.2 e he).2.2, by have := (L.2.2 e he).1; omega, by have := (L.2.2 e he).2.1; omega⟩
      have := L.2.1
      exact ⟨.dict (pinD ws), ⟨by rw [okW]; exact p1, by rw [PyData.depth, p3]; decide, by rw [szW, p2]; omega⟩, fun H' s => pin_dw (s _ _ hp)⟩
  obtain ⟨fd, f1, f2⟩ : ∃ fd : PyData, RokL fd ∧ ∀ H', Same H H' → DW K H' (.ref fv) fd := by
    rcases hf with hf | hf
    · exact ⟨_, rokL_list bf nf, fun H' s => .lst (SqL.of (s _ _ hf)) (DWs.ints _)⟩
    · exact ⟨_, rokL_tup bf nf, fun H' s => .tup (SqT.of (s _ _ hf)) (DWs.ints _)⟩
  have r1 := rokL_list bj nj
  have r2 := rokL_list bi ni
  refine ⟨.tuple [.list (js.map .int), .list (ids.map .int), wd, fd], ⟨?_, ?_, ?_⟩, fun H' T s hT => .tup (SqT.of hT) (.cons (.lst (SqL.of (s _ _ hl)) (DWs.ints _)) (.cons (.lst (SqL.of (s _ _ hg)) (DWs.ints _)) (.cons (w2 _ s) (.cons (f2 _ s) .nil))))⟩
  · rw [okW, okWs, okWs, okWs, okWs, okWs, r1.o, r2.o, w1.o, f1.o]; rfl
  · have a := r1.dep
    have b := r2.dep
    have c := w1.dep
    have e := f1.dep
    rw [PyData.depth, PyData.depthAll, PyData.depthAll, PyData.depthAll, PyData.depthAll, PyData.depthAll]
    omega
  · have a := r1.sz
    have b := r2.sz
    have c := w1.sz
    have e := f1.sz
    rw [szW, szWs, szWs, szWs, szWs, szWs]
    omega
/-- the same, the favoured ids in a list anywhere -/
theorem four_dwS {K : PySem.W.Frag} {H : Hp} {l g : Addr} {v : V} {wo : Option (List (Int × Int))} {js ids fav ks : List Int} {n : Nat} {most : Int} (hl : H l = some (.lst (js.map V.int))) (hg : H g = some (.lst (ids.map V.int))) (hw : WtAt H v wo)
    (bj : ∀ z ∈ js, 0 ≤ z ∧ z ≤ 1000000) (bi : ∀ z ∈ ids, 0 ≤ z ∧ z ≤ 1000000) (bf : ∀ z ∈ fav, 0 ≤ z ∧ z ≤ 1000000) (nj : js.length ≤ 300) (ni : ids.length ≤ 300) (nf : fav.length ≤ 300)
    (hL : LoadsO ks n most wo) (bk : ∀ z ∈ ks, 0 ≤ z ∧ z ≤ 1000000) (hn : n ≤ 300) (hm : most ≤ 1000000) :
    ∃ d : PyData, (okW d = true ∧ d.depth ≤ 40 ∧ szW d ≤ 1000000) ∧ ∀ (H' : Hp) (T fv : Addr), Same H H' → H' fv = some (.lst (fav.map V.int)) → H' T = some (.tup [.ref l, .ref g, v, .ref fv]) → DW K H' (.ref T) d := by
  obtain ⟨wd, w1, w2⟩ : ∃ wd : PyData, RokL wd ∧ ∀ H', Same H H' → DW K H' v wd := by
    rcases hw with ⟨rfl, _⟩ | ⟨p, ws, rfl, rfl, hp⟩
    · exact ⟨.none, ⟨by rw [okW], by rw [PyData.depth]; decide, by rw [szW]; decide⟩, fun H' _ => .non⟩
    · have L := hL ws rfl
      obtain ⟨p1, p2, p3⟩ := pins_okW ws fun e he => ⟨bk _ (L.2.2 e he).2.2, by have := (L.2.2 e he).1; omega, by have := (L.2.2 e he).2.1; omega⟩
      have := L.2.1
      exact ⟨.dict (pinD ws), ⟨by rw [okW]; exact p1, by rw [PyData.depth, p3]; decide, by rw [szW, p2]; omega⟩, fun H' s => pin_dw (s _ _ hp)⟩
  have f1 := rokL_list bf nf
  have r1 := rokL_list bj nj
  have r2 := rokL_list bi ni
  refine ⟨.tuple [.list (js.map .int), .list (ids.map .int), wd, .list (fav.map .int)], ⟨?_, ?_, ?_⟩, fun H' T fv s hF hT => .tup (SqT.of hT) (.cons (.lst (SqL.of (s _ _ hl)) (DWs.ints _)) (.cons (.lst (SqL.of (s _ _ hg)) (DWs.ints _)) (.cons (w2 _ s) (.cons (.lst (SqL.of hF) (DWs.ints _)) .nil))))⟩
  · rw [okW, okWs, okWs, okWs, okWs, okWs, r1.o, r2.o, w1.o, f1.o]; rfl
  · have a := r1.dep
    have b := r2.dep
    have c := w1.dep
    have e := f1.dep
    rw [PyData.depth, PyData.depthAll, PyData.depthAll, PyData.depthAll, PyData.depthAll, PyData.depthAll]
    omega
  · have a := r1.sz
    have b := r2.sz
    have c := w1.sz
    have e := f1.sz
    rw [szW, szWs, szWs, szWs, szWs, szWs]
    omega
theorem PinsOf.pin78 {js seq : List Int} {ps : List (Int × Int)} (h : PinsOf js ps seq) {e : Int × Int} (he : e ∈ ps) : e.1 ∈ js := h.perm.mem_iff.mp (h.mem e he)
section
variable {P : Program} {w : World} {K : PySem.W.Frag} {mg : Str → Option Value} {base : Heap}
theorem ok_law {f fDe fDr fI fG fP fS fFc fFo fNa fPn : Addr} {fd fdDe fdDr fdI fdG fdP fdS fdFc fdFo fdNa fdPn : FuncData} (F : Fun K "law" "law" sLaw f fd) (TD : TxtD mg) (TL : TxtL mg)
    (De : Fn K mg "_law_tape" sDeck ["script", "start"] fDe fdDe) (Dr : Fn K mg "_law_pick" sDraw ["tape", "size"] fDr fdDr) (Id : Fn K mg "_law_ids" sIds ["tape", "size"] fI fdI) (GI : FnOk P w K mg base CX0 3 fI fdI ["tape", "size"] spIdsS)
    (Go : Fn K mg "_law_goal" sGoal ["tape", "base"] fG fdG) (GG : FnOk P w K mg base CX0 3 fG fdG ["tape", "base"] (spGoal K))
    (Pi : Fn K mg "_law_pins" sPins ["tape", "base"] fP fdP) (GP : FnOk P w K mg base CX0 3 fP fdP ["tape", "base"] (spPins K))
    (Sh : Fn K mg "_law_shuffled" sShuf ["tape", "ids"] fS fdS) (GSh : FnOk P w K mg base CX0 2 fS fdS ["tape", "ids"] (spShuf K))
    (Fc : Fn K mg "_law_facts" sFacts ["base", "goal", "loads", "liked", "pins"] fFc fdFc) (GFc : FnOk P w K mg base CX0 5 fFc fdFc ["base", "goal", "loads", "liked", "pins"] (spFacts K))
    (Fo : Fn K mg "followers" sFollowers ["pins", "row_id"] fFo fdFo) (GF : GenFnA P w K mg base 2 fFo fdFo ["pins", "row_id"] (spFoll K))
    (Na : Fn K mg "_law_named" sNamed ["names", "ids"] fNa fdNa) (GNa : FnOk P w K mg base CX0 1 fNa fdNa ["names", "ids"] (spNamed K))
    (Pn : Fn K mg "_law_pins_named" sPinsNamed ["names", "pins"] fPn fdPn) (GPn : FnOk P w K mg base CX0 1 fPn fdPn ["names", "pins"] (spPinsNamed K)) : FnG P w K mg base 6 f fd ["script"] (spLaw K) := by
  have GDe : FnOk P w K mg base CX0 1 fDe fdDe ["script", "start"] (spDeck K) := ok_deck De.F TD
  have GDr : FnOk P w K mg base CX0 1 fDr fdDr ["tape", "size"] spDraw := ok_draw Dr.F
  refine FnG.mk' F scLaw (fun vs H Q E h => ?_) (fun cdv A outer s H vs Q E hg hr h => ?_)
  · obtain ⟨a, ns, rfl, _⟩ := h
    rfl
  · obtain ⟨a, ns, rfl, hS, hlen, hbits, k⟩ := h
    have hr1 : Room 1 _ := hr.mono (by decide)
    have hr2 : Room 2 _ := hr.mono (by decide)
    have hr3 : Room 3 _ := hr.mono (by decide)
    have hu := hu_of hr
    obtain ⟨t12, ht12, hk12⟩ := tail12 (P := P) (w := w) (mg := mg) (base := base) F TL Fo GF Na GNa Pn GPn (cdv := cdv) (A := A) (outer := outer) (s := s) (H := H) (E := E) hr
    refine ⟨_, pss_cons (ps_for PassesOwn.never rfl (pi_range1 rfl TL.range (pa_cons (pe_callB (call_max2 rfl) (by rfl) TL.max (by decide +kernel) (pa_cons pe_int (pa_cons (pe_callB (call_min2 rfl) (by rfl) TL.min (by decide +kernel) (pa_cons pe_int (pa_cons (pe_callB call_len_seq (by rfl) TD.len PySem.boot_len (pa_cons (pv 0) pa_nil)) pa_nil))) pa_nil))) pa_nil)) (pg_name (i := 1) scLaw.nd rfl (Or.inl rfl))
        (pss_cons (ps_set (i := 2) scLaw.nd rfl (Or.inr rfl) (pe_call GDe hr1 rfl De.m De.F.kp De.b .nil pass0 (pa_cons (pv 0) (pa_cons (pv 1) pa_nil))))
        (pss_cons (ps_set (i := 3) scLaw.nd rfl (Or.inl rfl) (pe_call GI hr3 rfl Id.m Id.F.kp Id.b .nil pass0 (pa_cons (pv 2) (pa_cons (pe_op op_add pe_int (pe_call GDr hr1 rfl Dr.m Dr.F.kp Dr.b .nil pass0 (pa_cons (pv 2) (pa_cons pe_int pa_nil)))) pa_nil))))
        (pss_cons (ps_par (i := 4) (j := 5) (by rfl) scLaw.nd rfl rfl (by decide) rfl rfl (pa_cons (pe_call GG hr3 rfl Go.m Go.F.kp Go.b .nil pass0 (pa_cons (pv 2) (pa_cons (pv 3) pa_nil))) (pa_cons (pe_call GP hr3 rfl Pi.m Pi.F.kp Pi.b .nil pass0 (pa_cons (pv 2) (pa_cons (pv 3) pa_nil))) pa_nil)) (by rfl))
        (pss_cons (ps_set (i := 7) scLaw.nd rfl (Or.inr rfl) (pe_callTy (call_dictP rfl) (by rfl) TL.dict (by decide +kernel) (pa_cons (pe_lc (own := [("row_id", 6)]) (tt := tYes) (g := gName 6) rfl scLaw.nd (pi_list (pv 3)) (blkOk_by (N := NL) (sc := defScope sLaw) (by decide +kernel)) (fun _ _ _ _ _ => pg_name (i := 6) scLaw.nd rfl (Or.inl rfl))
            (fun _ _ _ _ _ => pts_nil) (fun _ _ _ _ _ => pe_tup (pa_cons (pv 6) (pa_cons (pe_op op_add pe_int (pe_call GDr hr1 rfl Dr.m Dr.F.kp Dr.b .nil pass0 (pa_cons (pv 2) (pa_cons pe_int pa_nil)))) pa_nil)))) pa_nil)))
        (pss_cons (ps_setLc (i := 8) (own := [("row_id", 6)]) (g := gName 6) rfl scLaw.nd rfl rfl rfl (pi_list (pv 3)) (blkOk_by (N := NL) (sc := defScope sLaw) (by decide +kernel)) (fun _ _ _ _ _ => pg_name (i := 6) scLaw.nd rfl (Or.inl rfl))
            (fun _ _ _ _ _ => pts_one (pt_cmpR op_eq (pe_call GDr hr1 rfl Dr.m Dr.F.kp Dr.b .nil pass0 (pa_cons (pv 2) (pa_cons pe_int pa_nil))) pe_int (nomark _))) (fun _ _ _ _ _ => pv 6))
        (pss_cons (ps_set (i := 9) scLaw.nd rfl (Or.inr rfl) (pe_dictZip rfl (by rfl) TL.dict (by rfl) TL.zip (pa_cons (pv 3) (pa_cons (pe_call GSh hr2 rfl Sh.m Sh.F.kp Sh.b .nil pass0 (pa_cons (pv 2) (pa_cons (pe_lc (own := [("row_id", 6)]) (tt := tYes) (g := gName 6) rfl scLaw.nd (pi_list (pv 3)) (blkOk_by (N := NL) (sc := defScope sLaw) (by decide +kernel)) (fun _ _ _ _ _ => pg_name (i := 6) scLaw.nd rfl (Or.inl rfl))
            (fun _ _ _ _ _ => pts_nil) (fun _ _ _ _ _ => pe_op op_add (pe_op op_mod (pe_op op_mul pe_int (pv 6)) pe_int) pe_int)) pa_nil))) pa_nil))))
        (pss_cons (ps_dput hu (pv 9) pe_int pe_int rfl)
        (pss_cons (ps_asg (pe_call GFc hr rfl Fc.m Fc.F.kp Fc.b .nil pass0 (pa_cons (pv 3) (pa_cons (pv 4) (pa_cons (pv 7) (pa_cons (pv 8) (pa_cons (pv 5) pa_nil)))))) (pg_tup rfl (pgs_cons (pg_name (i := 10) scLaw.nd rfl (Or.inl rfl)) (pgs_cons (pg_name (i := 11) scLaw.nd rfl (Or.inl rfl)) (pgs_cons (pg_name (i := 12) scLaw.nd rfl (Or.inl rfl)) pgs_nil)))))
        (pss_cons (ps_set (i := 13) scLaw.nd rfl (Or.inl rfl) (pe_callTy (call_dictP rfl) (by rfl) TL.dict (by decide +kernel) (pa_cons (pe_lc (own := [("row_id", 6)]) (tt := tYes) (g := gName 6) rfl scLaw.nd (pi_list (pv 3)) (blkOk_by (N := NL) (sc := defScope sLaw) (by decide +kernel)) (fun _ _ _ _ _ => pg_name (i := 6) scLaw.nd rfl (Or.inl rfl))
            (fun _ _ _ _ _ => pts_nil) (fun _ _ _ _ _ => pe_tup (pa_cons (pe_dget hu (pv 9) (pv 6) (fun _ _ => rfl)) (pa_cons (pe_dget hu (pv 7) (pv 6) (fun _ _ => rfl)) pa_nil)))) pa_nil)))
        (pss_cons (ps_set (i := 14) scLaw.nd rfl (Or.inl rfl) (pe_lst (pa_cons (pe_call GNa hr1 rfl Na.m Na.F.kp Na.b .nil pass0 (pa_cons (pv 9) (pa_cons (pv 3) pa_nil))) (pa_cons (pe_call GNa hr1 rfl Na.m Na.F.kp Na.b .nil pass0 (pa_cons (pv 9) (pa_cons (pv 4) pa_nil))) (pa_cons (pv 13) (pa_cons (pe_call GNa hr1 rfl Na.m Na.F.kp Na.b .nil pass0 (pa_cons (pv 9) (pa_cons (pv 8) pa_nil))) pa_nil))))))
        (pss_cons (ps_set (i := 15) scLaw.nd rfl (Or.inl rfl) (pe_call GFc hr rfl Fc.m Fc.F.kp Fc.b .nil pass0 (pa_cons (pe_ix ix_list (pv 14) pe_int (fun _ _ => rfl)) (pa_cons (pe_ix ix_list (pv 14) pe_int (fun _ _ => rfl)) (pa_cons (pe_ix ix_list (pv 14) pe_int (fun _ _ => rfl)) (pa_cons (pe_ix ix_list (pv 14) pe_int (fun _ _ => rfl)) (pa_cons (pe_call GPn hr1 rfl Pn.m Pn.F.kp Pn.b .nil pass0 (pa_cons (pv 9) (pa_cons (pv 5) pa_nil))) pa_nil)))))))
        ht12))))))))))))
      (pss_one (ps_ret pe_bl)), ?_⟩
    have h16 : sizeLine = 16777216 := sizeLine_eq
    obtain ⟨J, hJ, hJ0, hJ6⟩ : ∃ J : Int, J = (if (if (((ns.map V.int).length : Nat) : Int) < 3 then (((ns.map V.int).length : Nat) : Int) else 3) > 1 then (if (((ns.map V.int).length : Nat) : Int) < 3 then (((ns.map V.int).length : Nat) : Int) else 3) else 1) ∧ 0 ≤ J ∧ J ≤ 3 := by
      refine ⟨_, rfl, ?_, ?_⟩
      · split <;> split <;> omega
      · split <;> split <;> omega
    refine ⟨_, rfl, a, _, rfl, .inl hS, _, _, rfl, _, _, rfl, J, by rw [hJ], by omega, by omega, ?_⟩
    refine for_range (lo := 0) (n := J.toNat) (fun i σ H' => (∃ v1 v2 v3 v4 v5 v6 v7 v8 v9 v10 v11 v12 v13 v14 v15 v16 v17 v18 v19 : Option V, σ = [some (.ref a), v1, v2, v3, v4, v5, v6, v7, v8, v9, v10, v11, v12, v13, v14, v15, v16, v17, v18, v19]) ∧ Same H H')
      ⟨⟨none, none, none, none, none, none, none, none, none, none, none, none, none, none, none, none, none, none, none, rfl⟩, Same.refl H⟩ ?_ ?_
    · rintro st σ H0 hst ⟨⟨v1, v2, v3, v4, v5, v6, v7, v8, v9, v10, v11, v12, v13, v14, v15, v16, v17, v18, v19, rfl⟩, s0⟩
      refine ⟨_, rfl, _, rfl, a, ns, _, rfl, Same.sq s0 hS, hlen, hbits, by omega, by omega, fun d Hd hd sd D => ?_⟩
      have hHd : H d = none := Same.free s0 hd
      have sd0 : Same H Hd := s0.trans sd
      -- base
      refine ⟨_, rfl, _, rfl, d, 16, rfl, D, by decide, by decide, fun r1 H2 r10 r11 D2 B2 => ?_⟩
      obtain ⟨n1, rfl⟩ : ∃ m : Nat, r1 = (m : Int) := ⟨r1.toNat, by omega⟩
      refine ⟨_, _, rfl, rfl, d, 1 + n1, by congr 2, D2, by omega, fun l js H3 hl B3 D3 hL hjl hI hIh => ?_⟩
      have F3 : Fs d Hd [(l, .lst (js.map V.int))] H3 := (((Fs.start D).step D2 B2).step D3 B3).add hL nl
      have hj16 : js.length ≤ 16 := by omega
      have ndJ : js.Nodup := hI.1
      have nzJ : ∀ x ∈ js, x ≠ 0 := fun x hx => by have := hI.2 x hx; omega
      -- goal, pins
      refine ⟨_, rfl, _, rfl, d, l, js, rfl, F3.deck, SqL.of F3.g0, by omega, fun g ids H4 hg0 B4 D4 hG hper => ?_⟩
      have F4 := (F3.step D4 B4).add hG nl
      have hil : ids.length = js.length := hper.length_eq
      have hIn : ∀ x ∈ ids, x ∈ js := fun x hx => hper.mem_iff.mp hx
      have ndI : ids.Nodup := hper.nodup_iff.mpr hI.1
      refine ⟨_, rfl, _, rfl, d, l, js, rfl, F4.deck, SqL.of F4.g1, by omega, ndJ, fun p ps seq H5 hp0 B5 D5 hP PO => ?_⟩
      have F5 := (F4.step D5 B5).add hP (fun x y => nP _ _)
      refine ⟨_, _, rfl, ?_⟩
      have ndK : ∀ {D' : Addr} {Hx : Hp}, DeckAt Hx d → Hx D' = none → d ≠ D' := fun {D' Hx} ⟨x, y, hd, _⟩ h => ne_of_none hd h
      have upB : ∀ {Hx H' : Hp} {D' : Addr} {o : HO}, Hx D' = none → But d Hx H' → But d Hx (upd H' D' o) := fun {Hx H' D' o} hD B b u hb e => by rw [upd_ne (ne_of_none e hD)]; exact B b u hb e
      have upD : ∀ {H' : Hp} {D' : Addr} {o : HO}, d ≠ D' → DeckAt H' d → DeckAt (upd H' D' o) d := fun {H' D' o} n ⟨x, y, hd, rr⟩ => ⟨x, y, by rw [upd_ne n]; exact hd, rr⟩
      -- loads
      refine ⟨_, rfl, l, rfl, ⟨_, SqL.of F5.g2⟩, fun D1 hD1 => ?_⟩
      refine lc_list (K := K) (a := l) (xs := js.map V.int) (fun i H' => ∃ es : List (Addr × Int × Int), PrL H' D1 es ∧ (es.map fun e => e.2).map Prod.fst = js.take i ∧ (∀ e ∈ es.map fun e => e.2, 1 ≤ e.2 ∧ e.2 ≤ 5) ∧ But d H5 H' ∧ DeckAt H' d ∧ i ≤ js.length)
        ⟨[], PrL.nil upd_same, by rw [List.take_zero]; rfl, (fun e he => by cases he), But.of (Same.new hD1), F5.deck.same (Same.new hD1), Nat.zero_le _⟩ (fun i H' _ z => by obtain ⟨_, _, _, _, B, _⟩ := z; exact B.seq F5.deck (SqL.of F5.g2)) ?_ ?_
      · rintro i y H' hi ⟨es, R1, e1, b1, B1, D1', hil'⟩
        obtain ⟨x, hx, rfl⟩ := int_at hi
        have hxl := (List.getElem?_eq_some_iff.mp hx).1
        refine ⟨rfl, _, rfl, _, rfl, d, 5, rfl, D1', by decide, by decide, fun z H6 z0 z1 D6 B6 => ?_⟩
        have R2 := R1.but D1' B6
        refine ⟨_, _, rfl, rfl, by show 2 ≤ sizeLine; decide, fun t ht => ?_⟩
        have sT := Same.new (o := .tup [V.int x, V.int (1 + z)]) ht
        have hTt : upd H6 t (.tup [V.int x, V.int (1 + z)]) t = some (.tup [V.int x, V.int (1 + z)]) := upd_same
        have R4 := R2.same sT
        have hel : es.length ≤ 16 := by
          have := congrArg List.length e1
          rw [List.length_map, List.length_map, List.length_take] at this
          omega
        have D7 := D6.same sT
        have B7 := B1.trans (B6.trans (But.of sT))
        show ∃ acc, (upd H6 t (.tup [V.int x, V.int (1 + z)])) D1 = some (.lst acc) ∧ _
        generalize (upd H6 t (.tup [V.int x, V.int (1 + z)]) : Hp) = H7 at sT hTt R4 D7 B7 ⊢
        refine ⟨_, R4.1, by rw [List.length_map, h16]; omega, es ++ [(t, x, 1 + z)], R4.push hTt, ?_, ?_, upB hD1 B7, upD (ndK F5.deck hD1) D7, hxl⟩
        · rw [List.map_append, List.map_append, e1, take_snoc hx]; rfl
        · intro e he
          rw [List.map_append] at he
          rcases List.mem_append.mp he with q | q
          · exact b1 e q
          · rw [List.mem_singleton.mp q]
            exact ⟨by show 1 ≤ 1 + z; omega, by show 1 + z ≤ 5; omega⟩
      rintro H6 ⟨es, R1, e1, b1, B1, D1', _⟩
      rw [List.length_map, List.take_length] at e1
      obtain ⟨lw, hlw⟩ : ∃ lw, lw = es.map fun e => e.2 := ⟨_, rfl⟩
      rw [← hlw] at e1 b1
      refine ⟨D1, es.map fun e => e.1, pinK lw, rfl, SqL.of (by rw [List.map_map]; exact R1.1), by rw [hlw]; exact PrL.paired R1.2, fun v hv => ?_⟩
      rw [merge_pin (by rw [e1]; exact ndJ)]
      have F7 := (F5.step D1' B1).new (o := .dK (pinK lw)) hv (fun x y => nP _ _)
      generalize (upd H6 v (.dK (pinK lw)) : Hp) = H7 at F7 ⊢
      -- favoured
      refine ⟨_, rfl, l, rfl, ⟨_, SqL.of F7.g3⟩, fun fv hfv => ?_⟩
      refine lc_list (K := K) (a := l) (xs := js.map V.int) (fun i H' => ∃ ls : List Int, But d H7 H' ∧ DeckAt H' d ∧ H' fv = some (.lst (ls.map V.int)) ∧ ls.length ≤ i ∧ (∀ x ∈ ls, x ∈ js) ∧ i ≤ js.length)
        ⟨[], But.of (Same.new hfv), F7.deck.same (Same.new hfv), upd_same, Nat.le_refl _, (fun x hx => by cases hx), Nat.zero_le _⟩ (fun i H' _ z => by obtain ⟨_, B, _⟩ := z; exact B.seq F7.deck (SqL.of F7.g3)) ?_ ?_
      · rintro i y H1 hi ⟨ls, B1, D1, hR1, hll, hls, hil'⟩
        obtain ⟨x, hx, rfl⟩ := int_at hi
        have hxm := List.mem_of_getElem? hx
        have hil2 : i < js.length := (List.getElem?_eq_some_iff.mp hx).1
        refine ⟨rfl, _, rfl, d, _, rfl, D1, by decide, by decide, fun z H2 z0 z1 D2 B2 => ?_⟩
        have hR2 := B2.lst D1 hR1
        refine ⟨rfl, _, rfl, ite2 (fun c => ?_) (fun c => ?_)⟩
        · refine ⟨_, rfl, _, hR2, by rw [List.length_map, h16]; omega, ls ++ [x], upB hfv (B1.trans B2), upD (ndK F7.deck hfv) D2, by rw [upd_same, List.map_append]; rfl, by rw [List.length_append]; show _ + 1 ≤ _; omega, fun u hu => ?_, hil2⟩
          rcases List.mem_append.mp hu with q | q
          · exact hls u q
          · rw [List.mem_singleton.mp q]; exact hxm
        · exact ⟨ls, B1.trans B2, D2, hR2, by omega, hls, hil2⟩
      rintro H8 ⟨fav, B8, D8, hFV, hfl, hfm, _⟩
      rw [List.length_map] at hfl
      have F8 := (F7.step D8 B8).add hFV nl
      -- names
      refine ⟨_, rfl, _, rfl, _, rfl, l, rfl, ⟨_, SqL.of F8.g4⟩, fun D2 hD2 => ?_⟩
      refine lc_list (K := K) (a := l) (xs := js.map V.int) (fun i H' => Same H8 H' ∧ H' D2 = some (.lst (((js.take i).map hash78).map V.int)) ∧ i ≤ js.length)
        ⟨Same.new hD2, by rw [List.take_zero]; exact upd_same, Nat.zero_le _⟩ (fun i H' _ z => SqL.of (z.1 _ _ F8.g4)) ?_ ?_
      · rintro i y H' hi ⟨s1, hA, hil'⟩
        obtain ⟨x, hx, rfl⟩ := int_at hi
        have hxb := hIh x (List.mem_of_getElem? hx)
        have hx1 := (hI.2 x (List.mem_of_getElem? hx)).1
        refine ⟨rfl, _, rfl, _, _, rfl, rfl, .inr ⟨by omega, by omega⟩, _, _, rfl, rfl, (by show (0 : Int) < 999983; decide), _, _, rfl, rfl, ?_⟩
        refine ⟨_, hA, by rw [List.length_map, List.length_map, List.length_take, h16]; omega, fun b u z => by rw [upd_ne (ne_of_none z hD2)]; exact s1 _ _ z, ?_, (List.getElem?_eq_some_iff.mp hx).1⟩
        rw [upd_same, take_snoc hx, List.map_append, List.map_append]; rfl
      rintro H9 ⟨s9, hA, _⟩
      rw [List.length_map, List.take_length] at hA
      have F9 := F8.same s9
      refine ⟨d, D2, js.map hash78, rfl, F9.deck, SqL.of hA, by rw [List.length_map]; omega, fun xq xs H10 hxq B10 D10 hX hxp => ?_⟩
      have F10 := F9.step D10 B10
      have hxl : js.length = xs.length := by rw [hxp.length_eq, List.length_map]
      have nx : xs.Nodup := hxp.nodup_iff.mpr (hash_nod ndJ fun z hz => ⟨(hI.2 z hz).1, by have := hIh z hz; omega⟩)
      have hx0 : ∀ y ∈ xs, y ≠ 0 := fun y hy => by
        obtain ⟨u, _, rfl⟩ := List.mem_map.mp (hxp.mem_iff.mp hy)
        exact hash_pos u
      obtain ⟨ρ, hR, hρ⟩ := names_ren ndJ nx hxl hx0 nzJ
      refine ⟨l, xq, _, _, pinK (js.zip xs), rfl, SqL.of F10.g4, SqL.of hX, zip_all js xs, fun n hn => ?_⟩
      rw [merge_pin (by rw [zip_keys hxl]; exact ndJ)]
      have h0k : (0 : Int) ∉ (js.zip xs).map Prod.fst := by
        rw [zip_keys hxl]
        exact fun z => nzJ 0 z rfl
      obtain ⟨ws, hws⟩ : ∃ ws, ws = js.zip xs ++ [((0 : Int), (0 : Int))] := ⟨_, rfl⟩
      refine ⟨_, rfl, n, _, rfl, DPut.k (k := (.inl 0 : Key)) upd_same (by rw [pin_len, List.length_zip, h16]; omega), ?_⟩
      rw [pin_put h0k, ← hws]
      have s12 : Same H10 (upd (upd H10 n (.dK (pinK (js.zip xs)))) n (.dK (pinK ws))) := fun b u e => by rw [upd_ne (ne_of_none e hn), upd_ne (ne_of_none e hn)]; exact e
      have hN12 : upd (upd H10 n (.dK (pinK (js.zip xs)))) n (.dK (pinK ws)) n = some (.dK (pinK ws)) := upd_same
      have hnp : n ≠ p := (ne_of_none F10.g2 hn).symm
      generalize (upd (upd H10 n (.dK (pinK (js.zip xs)))) n (.dK (pinK ws)) : Hp) = H12 at s12 hN12 ⊢
      have F12 := F10.same s12
      rw [← hws] at hρ
      have C12 : C78 H12 l p n js ws ps seq ρ := ⟨hR, hN12, hρ, F12.g2, hnp, F12.g4, PO, ndJ, nzJ, by omega⟩
      -- all told
      have hwx : ∀ x ∈ js, ∃ w, anOf lw x = some w ∧ wtI (some lw) x = w ∧ 1 ≤ w ∧ w ≤ 5 := fun x hx => wt_prs (by rw [e1]; exact hx) b1
      have hwb : ∀ x ∈ ids, (wtI (some lw) x).natAbs < 2 ^ 300 := fun x hx => by
        obtain ⟨w, _, e, h1, h2⟩ := hwx x (hIn x hx)
        rw [e]
        have h9 : w.natAbs ≤ 5 := by omega
        exact Nat.lt_of_le_of_lt h9 (by decide)
      refine ⟨_, rfl, _, rfl, _, rfl, _, rfl, _, rfl, l, g, fv, p, .ref v, js, ids, fav, some lw, ps, (fun x => seq.idxOf x), js.length, rfl, SqL.of F12.g4, SqL.of F12.g3, .inr ⟨v, lw, rfl, rfl, F12.g1⟩, .inl (SqL.of F12.g0), by omega, ndJ, by omega, ndI, by omega, hIn, hwb, F12.g2, C12.fo, fun T f1 c1 m m1 b1' b2 H13 s13 hm1 FA => ?_⟩
      have hnm : n ≠ m1 := ne_of_none hN12 hm1
      have F13 := F12.same s13
      have C13 := C12.same s13
      refine ⟨T, _, rfl, SqT.of FA.top, rfl, _, _, rfl, _, _, rfl, _, _, rfl, rfl, ?_⟩
      -- the weights by the other names
      obtain ⟨tw, htw⟩ : ∃ tw, tw = js.map fun y => (ρ y, wtI (some lw) y) := ⟨_, rfl⟩
      refine ⟨_, rfl, l, rfl, ⟨_, SqL.of C13.hl⟩, fun D3 hD3 => ?_⟩
      refine lc_list (K := K) (a := l) (xs := js.map V.int) (fun i H' => ∃ es : List (Addr × Int × Int), PrL H' D3 es ∧ (es.map fun e => e.2) = (js.take i).map (fun y => (ρ y, wtI (some lw) y)) ∧ Same H13 H' ∧ i ≤ js.length)
        ⟨[], PrL.nil upd_same, by rw [List.take_zero]; rfl, Same.new hD3, Nat.zero_le _⟩ (fun i H' _ z => by obtain ⟨_, _, _, z, _⟩ := z; exact SqL.of (z _ _ C13.hl)) ?_ ?_
      · rintro i y H' hi ⟨es, R1, e2, s1, hil'⟩
        obtain ⟨x, hx, rfl⟩ := int_at hi
        have hxm := List.mem_of_getElem? hx
        have hxl := (List.getElem?_eq_some_iff.mp hx).1
        have C' := C13.same s1
        have dn := DGet.k (k := (.inl x : Key)) C'.hn
        rw [val_pin, C'.an x (.inr hxm)] at dn
        have dv := DGet.k (k := (.inl x : Key)) (s1 _ _ F13.g1)
        obtain ⟨w, w1, w2, _⟩ := hwx x hxm
        rw [val_pin, w1] at dv
        refine ⟨rfl, _, rfl, _, rfl, n, _, rfl, dn, _, rfl, _, rfl, v, _, rfl, dv, by show 2 ≤ sizeLine; decide, fun t ht => ?_⟩
        have sT := Same.new (o := .tup [V.int (ρ x), V.int w]) ht
        have hTt : upd H' t (.tup [V.int (ρ x), V.int w]) t = some (.tup [V.int (ρ x), V.int w]) := upd_same
        have R4 := R1.same sT
        have s4 := s1.trans sT
        have hel : es.length ≤ 16 := by
          have := congrArg List.length e2
          rw [List.length_map, List.length_map, List.length_take] at this
          omega
        show ∃ acc, (upd H' t (.tup [V.int (ρ x), V.int w])) D3 = some (.lst acc) ∧ _
        generalize (upd H' t (.tup [V.int (ρ x), V.int w]) : Hp) = H7' at sT hTt R4 s4 ⊢
        refine ⟨_, R4.1, by rw [List.length_map, h16]; omega, es ++ [(t, ρ x, w)], R4.push hTt, ?_, fun b o z => by rw [upd_ne (ne_of_none z hD3)]; exact s4 _ _ z, hxl⟩
        rw [List.map_append, e2, take_snoc hx, List.map_append, ← w2]; rfl
      rintro H14 ⟨es, R1, e2, s14, _⟩
      rw [List.length_map, List.take_length, ← htw] at e2
      have htk : tw.map Prod.fst = js.map ρ := by rw [htw, List.map_map]; rfl
      refine ⟨D3, es.map fun e => e.1, pinK tw, rfl, SqL.of (by rw [List.map_map]; exact R1.1), by rw [← e2]; exact PrL.paired R1.2, fun tq htq => ?_⟩
      rw [merge_pin (by rw [htk]; exact C13.nd')]
      have sq := Same.new (o := .dK (pinK tw)) htq
      have hTW : upd H14 tq (.dK (pinK tw)) tq = some (.dK (pinK tw)) := upd_same
      have s15 := s14.trans sq
      generalize (upd H14 tq (.dK (pinK tw)) : Hp) = H15 at sq hTW s15 ⊢
      have C15 := C13.same s15
      have F15 := F13.same s15
      have FA15 := FA.same s15
      -- the others
      have hfj : ∀ x ∈ fav, anOf ws x = some (ρ x) := fun x hx => C15.an x (.inr (hfm x hx))
      refine ⟨_, rfl, _, rfl, n, l, ws, js, ρ, rfl, C15.hn, .inl (SqL.of C15.hl), by omega, fun x hx => C15.an x (.inr hx), fun o1 H16 s16 ho1 hO1 => ?_⟩
      refine ⟨_, rfl, _, rfl, n, g, ws, ids, ρ, rfl, s16 _ _ C15.hn, .inl (SqL.of (s16 _ _ F15.g3)), by omega, fun x hx => C15.an x (.inr (hIn x hx)), fun o2 H17 s17 ho2 hO2 => ?_⟩
      have s1617 := s16.trans s17
      refine ⟨_, rfl, _, rfl, _, rfl, n, fv, ws, fav, ρ, rfl, s1617 _ _ C15.hn, .inl (SqL.of (s1617 _ _ F15.g0)), by omega, hfj, fun o4 H18 s18 ho4 hO4 => ?_⟩
      refine ⟨by rw [h16]; show 4 ≤ 16777216; decide, fun oa hoa => ?_⟩
      have so := Same.new (o := .lst [V.ref o1, V.ref o2, V.ref tq, V.ref o4]) hoa
      have hOA : upd H18 oa (.lst [V.ref o1, V.ref o2, V.ref tq, V.ref o4]) oa = some (.lst [V.ref o1, V.ref o2, V.ref tq, V.ref o4]) := upd_same
      have hO4' := so _ _ hO4
      have hO2' := so _ _ (s18 _ _ hO2)
      have hO1' := so _ _ (s18 _ _ (s17 _ _ hO1))
      have s19 := s1617.trans (s18.trans so)
      generalize (upd H18 oa (.lst [V.ref o1, V.ref o2, V.ref tq, V.ref o4]) : Hp) = H19 at so hOA hO4' hO2' hO1' s19 ⊢
      have C19 := C15.same s19
      have hTW19 := s19 _ _ hTW
      -- told by the other names
      refine ⟨_, rfl, oa, _, 0, _, rfl, rfl, SqL.of hOA, rfl, _, rfl, oa, _, 1, _, rfl, rfl, SqL.of hOA, rfl, _, rfl, oa, _, 2, _, rfl, rfl, SqL.of hOA, rfl, _, rfl, oa, _, 3, _, rfl, rfl, SqL.of hOA, rfl, ?_⟩
      refine ⟨_, rfl, _, rfl, n, p, ws, ps, ρ, rfl, C19.np, C19.hn, C19.hp, C19.P.keys, by have := C19.P.len; have := C19.P.perm.length_eq; omega, fun e he => ⟨C19.an _ (.inr (C19.pin he).1), C19.an _ (C19.pin he).2⟩, C19.P'.keys, fun p2 H20 s20 hp2 hP2 => ?_⟩
      have C20 := C19.same s20
      have hwr : ∀ x ∈ js, wtI (some tw) (ρ x) = wtI (some lw) x := fun x hx => by
        rw [htw]
        exact wt_ren hx fun y hy e => hR.inj y hy x hx e
      have hwb2 : ∀ x ∈ ids.map ρ, (wtI (some tw) x).natAbs < 2 ^ 300 := fun x hx => by
        obtain ⟨y, hy, rfl⟩ := List.mem_map.mp hx
        rw [hwr y (hIn y hy)]
        exact hwb y hy
      refine ⟨o1, o2, o4, p2, .ref tq, js.map ρ, ids.map ρ, fav.map ρ, some tw, ps.map (ren2 ρ), (fun x => (seq.map ρ).idxOf x), (js.map ρ).length, rfl, SqL.of (s20 _ _ hO1'), SqL.of (s20 _ _ hO2'), .inr ⟨tq, tw, rfl, rfl, s20 _ _ hTW19⟩, .inl (SqL.of (s20 _ _ hO4')), by rw [List.length_map]; omega, C20.nd', by rw [List.length_map]; omega,
        hR.nod hIn ndI, by rw [List.length_map]; omega, fun x hx => ?_, hwb2, hP2, C20.fo', fun T2 f2 c2 m2 m12 b12 b22 H21 s21 _ FB => ?_⟩
      · obtain ⟨y, hy, rfl⟩ := List.mem_map.mp hx
        exact List.mem_map_of_mem (hIn y hy)
      have eb : bestW (js.map ρ) (ids.map ρ) (fav.map ρ) (some tw) = (bestW js ids fav (some lw)).map ρ := by
        show bestF (js.map ρ) (ids.map ρ) (worthI (some tw) (ids.map ρ).length (fav.map ρ)) = _
        rw [List.length_map]
        exact best_ren hR (fun x h => h) hIn fun x hx => worth_ren hR (hIn x hx) hfm (hwr x (hIn x hx))
      have ec : covW (js.map ρ) (ids.map ρ) (some tw) = (covW js ids (some lw)).map (renR ρ) := cov_ren hR (fun x h => h) hIn fun x hx => hwr x (hIn x hx)
      have hbs : (bestW js ids fav (some lw)).Sublist ids := best_sublist _ _ _ _
      have el : leastP (ids.map ρ) ((bestW js ids fav (some lw)).map ρ) = (leastP ids (bestW js ids fav (some lw))).map (ren2 ρ) := least_ren hR hIn fun x hx => hIn x (hbs.subset hx)
      rw [eb, ec, el, C20.laid] at FB
      have s1521 := s19.trans (s20.trans s21)
      have hlp := laid_perm C20.fo
      have hN : N78 n m1 js (bestW js ids fav (some lw)) (laidOf js (anOf ps) (fun x => seq.idxOf x) js.length) (covW js ids (some lw)) (leastP ids (bestW js ids fav (some lw))) := by
        refine ⟨hnm, fun x hx => hIn x (hbs.subset hx), fun x hx => hlp.mem_iff.mp hx, by have := hbs.length_le; omega, by rw [hlp.length_eq]; omega, fun r hr => ?_, ?_, ?_, fun e he => ?_, ?_⟩
        · have := cov_sub hr
          exact ⟨by have := this.length_le; omega, fun x hx => hIn x (this.subset hx)⟩
        · have : (covW js ids (some lw)).length ≤ 2 * ids.length := cov_len _ _ _
          omega
        · rw [least_from]
          exact (pf_keys78 _ _).nodup ndI
        · rw [least_from] at he
          obtain ⟨h1, h2⟩ := pf_mem78 _ _ e he
          exact ⟨hIn _ h1, h2.imp id (hIn _)⟩
        · have := leastQ_len ids (bestW js ids fav (some lw)) ids.length
          show (leastQ ids _ ids.length).length ≤ 300
          omega
      refine hk12 H21 _ _ _ _ _ _ _ _ _ _ _ _ _ l p n js ws ps seq ρ _ T T2 p2 f1 c1 m m1 b1' b2 f2 c2 m2 m12 b12 b22 _ _ _ _ (C20.same s21) hN (FA15.same s1521) FB (s21 _ _ hP2) fun u6 u16 u17 u18 u19 H' z => ?_
      exact ⟨⟨_, _, _, _, _, _, _, _, _, _, _, _, _, _, _, _, _, _, _, rfl⟩, (F15.same (s1521.trans z)).old hHd sd0⟩
    · rintro σ H1 ⟨⟨v1, v2, v3, v4, v5, v6, v7, v8, v9, v10, v11, v12, v13, v14, v15, v16, v17, v18, v19, rfl⟩, s1⟩
      exact k H1
end
/-! ### what the top has written, the head -/
theorem all_mk {l : PySem.W.OpenLaw} {w : World} {K : PySem.W.Frag} {h : Heap} {mg : Str → Option Value} {fa : Addr} (X : K.In h) (G : h.Ns mainGlobals mg) (hfa : mg "law" = some (.ref fa))
    {f1 : Addr} {od1 an1 : Option Addr} {sl1 : Array (Option Value)} {oc1 kV1 dc1 pm1 cd1 ct1 : Value}
    {f2 : Addr} {od2 an2 : Option Addr} {sl2 : Array (Option Value)} {oc2 kV2 dc2 pm2 cd2 ct2 : Value}
    {f3 : Addr} {od3 an3 : Option Addr} {sl3 : Array (Option Value)} {oc3 kV3 dc3 pm3 cd3 ct3 : Value}
    {f4 : Addr} {od4 an4 : Option Addr} {sl4 : Array (Option Value)} {oc4 kV4 dc4 pm4 cd4 ct4 : Value}
    {f5 : Addr} {od5 an5 : Option Addr} {sl5 : Array (Option Value)} {oc5 kV5 dc5 pm5 cd5 ct5 : Value}
    {f6 : Addr} {od6 an6 : Option Addr} {sl6 : Array (Option Value)} {oc6 dc6 pm6 cd6 ct6 : Value} {D6 : Addr} {E6 : Addr} {dE6 : Option Addr} {nE6 : Nat} {sE6 : Array (Option Value)}
    {f7 : Addr} {od7 an7 : Option Addr} {sl7 : Array (Option Value)} {oc7 kV7 dc7 pm7 cd7 ct7 : Value}
    {f8 : Addr} {od8 an8 : Option Addr} {sl8 : Array (Option Value)} {oc8 kV8 dc8 pm8 cd8 ct8 : Value}
    {f9 : Addr} {od9 an9 : Option Addr} {sl9 : Array (Option Value)} {oc9 dc9 pm9 cd9 ct9 : Value} {D9 : Addr} {E9 : Addr} {dE9 : Option Addr} {nE9 : Nat} {sE9 : Array (Option Value)}
    {f10 : Addr} {od10 an10 : Option Addr} {sl10 : Array (Option Value)} {oc10 kV10 dc10 pm10 cd10 ct10 : Value}
    {f11 : Addr} {od11 an11 : Option Addr} {sl11 : Array (Option Value)} {oc11 kV11 dc11 pm11 cd11 ct11 : Value}
    {f12 : Addr} {od12 an12 : Option Addr} {sl12 : Array (Option Value)} {oc12 dc12 pm12 cd12 ct12 : Value} {D12 : Addr}
    {f13 : Addr} {od13 an13 : Option Addr} {sl13 : Array (Option Value)} {oc13 kV13 dc13 pm13 cd13 ct13 : Value}
    {f14 : Addr} {od14 an14 : Option Addr} {sl14 : Array (Option Value)} {oc14 kV14 dc14 pm14 cd14 ct14 : Value}
    {f15 : Addr} {od15 an15 : Option Addr} {sl15 : Array (Option Value)} {oc15 kV15 dc15 pm15 cd15 ct15 : Value}
    {f16 : Addr} {od16 an16 : Option Addr} {sl16 : Array (Option Value)} {oc16 kV16 dc16 pm16 cd16 ct16 : Value}
    {f17 : Addr} {od17 an17 : Option Addr} {sl17 : Array (Option Value)} {oc17 kV17 dc17 pm17 cd17 ct17 : Value}
    {f18 : Addr} {od18 an18 : Option Addr} {sl18 : Array (Option Value)} {oc18 kV18 dc18 pm18 cd18 ct18 : Value}
    {f19 : Addr} {od19 an19 : Option Addr} {sl19 : Array (Option Value)} {oc19 kV19 dc19 pm19 cd19 ct19 : Value}
    {f20 : Addr} {od20 an20 : Option Addr} {sl20 : Array (Option Value)} {oc20 kV20 dc20 pm20 cd20 ct20 : Value}
    {f21 : Addr} {od21 an21 : Option Addr} {sl21 : Array (Option Value)} {oc21 kV21 dc21 pm21 cd21 ct21 : Value}
    {f22 : Addr} {od22 an22 : Option Addr} {sl22 : Array (Option Value)} {oc22 kV22 dc22 pm22 cd22 ct22 : Value}
    {f23 : Addr} {od23 an23 : Option Addr} {sl23 : Array (Option Value)} {oc23 kV23 dc23 pm23 cd23 ct23 : Value}
    (a1 : PySem.W.nsIn K mainGlobals "places_of" = some (some (.ref f1))) (l1 : K.lookup f1 = some ⟨oc1, od1, .func (PySem.W.fnOf "places_of" "places_of" (defArgs sPlaces) (defBody sPlaces) (defScope sPlaces) .none kV1 dc1 pm1 an1 cd1 ct1), sl1⟩) (c1 : PySem.W.codeIn K cd1 "places_of" = true) (k1 : PySem.W.keepIn K (.ref f1) = true)
    (a2 : PySem.W.nsIn K mainGlobals "neighbours" = some (some (.ref f2))) (l2 : K.lookup f2 = some ⟨oc2, od2, .func (PySem.W.fnOf "neighbours" "neighbours" (defArgs sNeigh) (defBody sNeigh) (defScope sNeigh) .none kV2 dc2 pm2 an2 cd2 ct2), sl2⟩) (c2 : PySem.W.codeIn K cd2 "neighbours" = true) (k2 : PySem.W.keepIn K (.ref f2) = true)
    (a3 : PySem.W.nsIn K mainGlobals "full_weights" = some (some (.ref f3))) (l3 : K.lookup f3 = some ⟨oc3, od3, .func (PySem.W.fnOf "full_weights" "full_weights" (defArgs sFull) (defBody sFull) (defScope sFull) .none kV3 dc3 pm3 an3 cd3 ct3), sl3⟩) (c3 : PySem.W.codeIn K cd3 "full_weights" = true) (k3 : PySem.W.keepIn K (.ref f3) = true)
    (a4 : PySem.W.nsIn K mainGlobals "top_levels" = some (some (.ref f4))) (l4 : K.lookup f4 = some ⟨oc4, od4, .func (PySem.W.fnOf "top_levels" "top_levels" (defArgs sTops) (defBody sTops) (defScope sTops) .none kV4 dc4 pm4 an4 cd4 ct4), sl4⟩) (c4 : PySem.W.codeIn K cd4 "top_levels" = true) (k4 : PySem.W.keepIn K (.ref f4) = true)
    (a5 : PySem.W.nsIn K mainGlobals "favoured_worths" = some (some (.ref f5))) (l5 : K.lookup f5 = some ⟨oc5, od5, .func (PySem.W.fnOf "favoured_worths" "favoured_worths" (defArgs sFavs) (defBody sFavs) (defScope sFavs) .none kV5 dc5 pm5 an5 cd5 ct5), sl5⟩) (c5 : PySem.W.codeIn K cd5 "favoured_worths" = true) (k5 : PySem.W.keepIn K (.ref f5) = true)
    (a6 : PySem.W.nsIn K mainGlobals "best_straight" = some (some (.ref f6))) (l6 : K.lookup f6 = some ⟨oc6, od6, .func (PySem.W.fnOf "best_straight" "best_straight" (defArgs sBest) (defBody sBest) (defScope sBest) .none (.ref D6) dc6 pm6 an6 cd6 ct6), sl6⟩) (c6 : PySem.W.codeIn K cd6 "best_straight" = true) (k6 : PySem.W.keepIn K (.ref f6) = true)
    (w6_0 : PySem.W.nsIn K D6 "weights" = some (some .none))
    (w6_1 : PySem.W.nsIn K D6 "favoured" = some (some (.ref E6)))
    (v6 : K.lookup E6 = some ⟨.type "tuple", dE6, .seq #[] nE6, sE6⟩)
    (a7 : PySem.W.nsIn K mainGlobals "lay" = some (some (.ref f7))) (l7 : K.lookup f7 = some ⟨oc7, od7, .func (PySem.W.fnOf "lay" "lay" (defArgs sLay) (defBody sLay) (defScope sLay) .none kV7 dc7 pm7 an7 cd7 ct7), sl7⟩) (c7 : PySem.W.codeIn K cd7 "lay" = true) (k7 : PySem.W.keepIn K (.ref f7) = true)
    (a8 : PySem.W.nsIn K mainGlobals "spread" = some (some (.ref f8))) (l8 : K.lookup f8 = some ⟨oc8, od8, .func (PySem.W.fnOf "spread" "spread" (defArgs sSpread) (defBody sSpread) (defScope sSpread) .none kV8 dc8 pm8 an8 cd8 ct8), sl8⟩) (c8 : PySem.W.codeIn K cd8 "spread" = true) (k8 : PySem.W.keepIn K (.ref f8) = true)
    (a9 : PySem.W.nsIn K mainGlobals "least_pins" = some (some (.ref f9))) (l9 : K.lookup f9 = some ⟨oc9, od9, .func (PySem.W.fnOf "least_pins" "least_pins" (defArgs sLeast) (defBody sLeast) (defScope sLeast) .none (.ref D9) dc9 pm9 an9 cd9 ct9), sl9⟩) (c9 : PySem.W.codeIn K cd9 "least_pins" = true) (k9 : PySem.W.keepIn K (.ref f9) = true)
    (w9_0 : PySem.W.nsIn K D9 "weights" = some (some .none))
    (w9_1 : PySem.W.nsIn K D9 "favoured" = some (some (.ref E9)))
    (v9 : K.lookup E9 = some ⟨.type "tuple", dE9, .seq #[] nE9, sE9⟩)
    (a10 : PySem.W.nsIn K mainGlobals "hanging" = some (some (.ref f10))) (l10 : K.lookup f10 = some ⟨oc10, od10, .func (PySem.W.fnOf "hanging" "hanging" (defArgs sHanging) (defBody sHanging) (defScope sHanging) .none kV10 dc10 pm10 an10 cd10 ct10), sl10⟩) (c10 : PySem.W.codeIn K cd10 "hanging" = true) (k10 : PySem.W.keepIn K (.ref f10) = true)
    (a11 : PySem.W.nsIn K mainGlobals "followers" = some (some (.ref f11))) (l11 : K.lookup f11 = some ⟨oc11, od11, .func (PySem.W.fnOf "followers" "followers" (defArgs sFollowers) (defBody sFollowers) (defScope sFollowers) .none kV11 dc11 pm11 an11 cd11 ct11), sl11⟩) (c11 : PySem.W.codeIn K cd11 "followers" = true) (k11 : PySem.W.keepIn K (.ref f11) = true)
    (a12 : PySem.W.nsIn K mainGlobals "level_cover" = some (some (.ref f12))) (l12 : K.lookup f12 = some ⟨oc12, od12, .func (PySem.W.fnOf "level_cover" "level_cover" (defArgs sCover) (defBody sCover) (defScope sCover) .none (.ref D12) dc12 pm12 an12 cd12 ct12), sl12⟩) (c12 : PySem.W.codeIn K cd12 "level_cover" = true) (k12 : PySem.W.keepIn K (.ref f12) = true)
    (w12_0 : PySem.W.nsIn K D12 "weights" = some (some .none))
    (a13 : PySem.W.nsIn K mainGlobals "_law_tape" = some (some (.ref f13))) (l13 : K.lookup f13 = some ⟨oc13, od13, .func (PySem.W.fnOf "_law_tape" "_law_tape" (defArgs sDeck) (defBody sDeck) (defScope sDeck) .none kV13 dc13 pm13 an13 cd13 ct13), sl13⟩) (c13 : PySem.W.codeIn K cd13 "_law_tape" = true) (k13 : PySem.W.keepIn K (.ref f13) = true)
    (a14 : PySem.W.nsIn K mainGlobals "_law_pick" = some (some (.ref f14))) (l14 : K.lookup f14 = some ⟨oc14, od14, .func (PySem.W.fnOf "_law_pick" "_law_pick" (defArgs sDraw) (defBody sDraw) (defScope sDraw) .none kV14 dc14 pm14 an14 cd14 ct14), sl14⟩) (c14 : PySem.W.codeIn K cd14 "_law_pick" = true) (k14 : PySem.W.keepIn K (.ref f14) = true)
    (a15 : PySem.W.nsIn K mainGlobals "_law_one_of" = some (some (.ref f15))) (l15 : K.lookup f15 = some ⟨oc15, od15, .func (PySem.W.fnOf "_law_one_of" "_law_one_of" (defArgs sChoose) (defBody sChoose) (defScope sChoose) .none kV15 dc15 pm15 an15 cd15 ct15), sl15⟩) (c15 : PySem.W.codeIn K cd15 "_law_one_of" = true) (k15 : PySem.W.keepIn K (.ref f15) = true)
    (a16 : PySem.W.nsIn K mainGlobals "_law_shuffled" = some (some (.ref f16))) (l16 : K.lookup f16 = some ⟨oc16, od16, .func (PySem.W.fnOf "_law_shuffled" "_law_shuffled" (defArgs sShuf) (defBody sShuf) (defScope sShuf) .none kV16 dc16 pm16 an16 cd16 ct16), sl16⟩) (c16 : PySem.W.codeIn K cd16 "_law_shuffled" = true) (k16 : PySem.W.keepIn K (.ref f16) = true)
    (a17 : PySem.W.nsIn K mainGlobals "_law_ids" = some (some (.ref f17))) (l17 : K.lookup f17 = some ⟨oc17, od17, .func (PySem.W.fnOf "_law_ids" "_law_ids" (defArgs sIds) (defBody sIds) (defScope sIds) .none kV17 dc17 pm17 an17 cd17 ct17), sl17⟩) (c17 : PySem.W.codeIn K cd17 "_law_ids" = true) (k17 : PySem.W.keepIn K (.ref f17) = true)
    (a18 : PySem.W.nsIn K mainGlobals "_law_goal" = some (some (.ref f18))) (l18 : K.lookup f18 = some ⟨oc18, od18, .func (PySem.W.fnOf "_law_goal" "_law_goal" (defArgs sGoal) (defBody sGoal) (defScope sGoal) .none kV18 dc18 pm18 an18 cd18 ct18), sl18⟩) (c18 : PySem.W.codeIn K cd18 "_law_goal" = true) (k18 : PySem.W.keepIn K (.ref f18) = true)
    (a19 : PySem.W.nsIn K mainGlobals "_law_pins" = some (some (.ref f19))) (l19 : K.lookup f19 = some ⟨oc19, od19, .func (PySem.W.fnOf "_law_pins" "_law_pins" (defArgs sPins) (defBody sPins) (defScope sPins) .none kV19 dc19 pm19 an19 cd19 ct19), sl19⟩) (c19 : PySem.W.codeIn K cd19 "_law_pins" = true) (k19 : PySem.W.keepIn K (.ref f19) = true)
    (a20 : PySem.W.nsIn K mainGlobals "_law_named" = some (some (.ref f20))) (l20 : K.lookup f20 = some ⟨oc20, od20, .func (PySem.W.fnOf "_law_named" "_law_named" (defArgs sNamed) (defBody sNamed) (defScope sNamed) .none kV20 dc20 pm20 an20 cd20 ct20), sl20⟩) (c20 : PySem.W.codeIn K cd20 "_law_named" = true) (k20 : PySem.W.keepIn K (.ref f20) = true)
    (a21 : PySem.W.nsIn K mainGlobals "_law_pins_named" = some (some (.ref f21))) (l21 : K.lookup f21 = some ⟨oc21, od21, .func (PySem.W.fnOf "_law_pins_named" "_law_pins_named" (defArgs sPinsNamed) (defBody sPinsNamed) (defScope sPinsNamed) .none kV21 dc21 pm21 an21 cd21 ct21), sl21⟩) (c21 : PySem.W.codeIn K cd21 "_law_pins_named" = true) (k21 : PySem.W.keepIn K (.ref f21) = true)
    (a22 : PySem.W.nsIn K mainGlobals "_law_facts" = some (some (.ref f22))) (l22 : K.lookup f22 = some ⟨oc22, od22, .func (PySem.W.fnOf "_law_facts" "_law_facts" (defArgs sFacts) (defBody sFacts) (defScope sFacts) .none kV22 dc22 pm22 an22 cd22 ct22), sl22⟩) (c22 : PySem.W.codeIn K cd22 "_law_facts" = true) (k22 : PySem.W.keepIn K (.ref f22) = true)
    (a23 : PySem.W.nsIn K mainGlobals "law" = some (some (.ref f23))) (l23 : K.lookup f23 = some ⟨oc23, od23, .func (PySem.W.fnOf "law" "law" (defArgs sLaw) (defBody sLaw) (defScope sLaw) .none kV23 dc23 pm23 an23 cd23 ct23), sl23⟩) (c23 : PySem.W.codeIn K cd23 "law" = true) (k23 : PySem.W.keepIn K (.ref f23) = true)
    (z0 : PySem.W.nsIn K mainGlobals "len" = some none)
    (z1 : PySem.W.nsIn K mainGlobals "list" = some none)
    (z2 : PySem.W.nsIn K mainGlobals "range" = some none)
    (z3 : PySem.W.nsIn K mainGlobals "max" = some none)
    (z4 : PySem.W.nsIn K mainGlobals "min" = some none)
    (z5 : PySem.W.nsIn K mainGlobals "sorted" = some none)
    (z6 : PySem.W.nsIn K mainGlobals "enumerate" = some none)
    (z7 : PySem.W.nsIn K mainGlobals "sum" = some none)
    (z8 : PySem.W.nsIn K mainGlobals "set" = some none)
    (z9 : PySem.W.nsIn K mainGlobals "tuple" = some none)
    (z10 : PySem.W.nsIn K mainGlobals "zip" = some none)
    (z11 : PySem.W.nsIn K mainGlobals "dict" = some none)
    : ∃ fd : FuncData, (∀ (s : Shared) (v : Value), BindsTo s fd ⟨[v], []⟩ [("script", v)]) ∧ ∀ base : Heap, K.In base → base.Ns mainGlobals mg → FnG l.prog w K mg base 6 fa fd ["script"] (spLaw K) := by
  have e := hfa.symm.trans (PySem.W.mg_of X G a23)
  cases e
  have n_len := PySem.W.mg_none_of X G z0
  have n_list := PySem.W.mg_none_of X G z1
  have n_range := PySem.W.mg_none_of X G z2
  have n_max := PySem.W.mg_none_of X G z3
  have n_min := PySem.W.mg_none_of X G z4
  have n_sorted := PySem.W.mg_none_of X G z5
  have n_enumerate := PySem.W.mg_none_of X G z6
  have n_sum := PySem.W.mg_none_of X G z7
  have n_set := PySem.W.mg_none_of X G z8
  have n_tuple := PySem.W.mg_none_of X G z9
  have n_zip := PySem.W.mg_none_of X G z10
  have n_dict := PySem.W.mg_none_of X G z11
  have F1 := fun_mk (st := sPlaces) l1 c1 k1
  have b1 := F1.binds (ps := ["order"]) fun _ _ _ _ _ _ us hl => match us, hl with | [_], _ => rfl
  have Pl : Fn K mg "places_of" sPlaces ["order"] f1 _ := ⟨F1, b1, PySem.W.mg_of X G a1⟩
  have F2 := fun_mk (st := sNeigh) l2 c2 k2
  have b2 := F2.binds (ps := ["order"]) fun _ _ _ _ _ _ us hl => match us, hl with | [_], _ => rfl
  have Ne : Fn K mg "neighbours" sNeigh ["order"] f2 _ := ⟨F2, b2, PySem.W.mg_of X G a2⟩
  have F3 := fun_mk (st := sFull) l3 c3 k3
  have b3 := F3.binds (ps := ["ids", "weights"]) fun _ _ _ _ _ _ us hl => match us, hl with | [_, _], _ => rfl
  have Fu : Fn K mg "full_weights" sFull ["ids", "weights"] f3 _ := ⟨F3, b3, PySem.W.mg_of X G a3⟩
  have F4 := fun_mk (st := sTops) l4 c4 k4
  have b4 := F4.binds (ps := ["base", "goal", "worths"]) fun _ _ _ _ _ _ us hl => match us, hl with | [_, _, _], _ => rfl
  have Lv : Fn K mg "top_levels" sTops ["base", "goal", "worths"] f4 _ := ⟨F4, b4, PySem.W.mg_of X G a4⟩
  have F5 := fun_mk (st := sFavs) l5 c5 k5
  have b5 := F5.binds (ps := ["goal", "weights", "favoured"]) fun _ _ _ _ _ _ us hl => match us, hl with | [_, _, _], _ => rfl
  have Fa : Fn K mg "favoured_worths" sFavs ["goal", "weights", "favoured"] f5 _ := ⟨F5, b5, PySem.W.mg_of X G a5⟩
  have F_Be : L2.FunD K "best_straight" "best_straight" (defArgs sBest) (defBody sBest) (defScope sBest) [] [("weights", .non), ("favoured", .ref E6)] f6 _ := ⟨⟨_, _, _, _, _, _, _, _, _, _, rfl, l6, c6, .inl ⟨rfl, rfl⟩, .inr ⟨_, rfl, (by intro q hq; rcases List.mem_cons.mp hq with e | hq; (rw [e]; exact ⟨_, w6_0, rfl⟩); rcases List.mem_cons.mp hq with e | hq; (rw [e]; exact ⟨_, w6_1, rfl⟩); cases hq)⟩⟩, k6⟩
  have d_Be := L2.FunD.binds0 (ps := ["base", "goal", "weights", "favoured"]) F_Be 2 (by intro z; cases z) rfl fun D doc pm an cdv ct us ks hu hk => match us, ks, hu, hk with | [_, _], [_, _], _, _ => ⟨_, _, _, _, _, _, rfl, rfl, ⟨_, _, _, _, _, _, rfl, rfl, rfl⟩⟩
  have b_Be := Hk.FunD.kbindsA (ps := ["base", "goal", "weights", "favoured"]) F_Be 2 ["weights", "favoured"] fun kV doc pm an cdv ct us ws h1 h2 => match us, ws, h1, h2 with | [_, _], [_, _], _, _ => rfl
  have m_Be := PySem.W.mg_of X G a6
  have F7 := fun_mk (st := sLay) l7 c7 k7
  have b7 := F7.binds (ps := ["base", "pins"]) fun _ _ _ _ _ _ us hl => match us, hl with | [_, _], _ => rfl
  have La : Fn K mg "lay" sLay ["base", "pins"] f7 _ := ⟨F7, b7, PySem.W.mg_of X G a7⟩
  have F8 := fun_mk (st := sSpread) l8 c8 k8
  have b8 := F8.binds (ps := ["loose", "hung"]) fun _ _ _ _ _ _ us hl => match us, hl with | [_, _], _ => rfl
  have Sp : Fn K mg "spread" sSpread ["loose", "hung"] f8 _ := ⟨F8, b8, PySem.W.mg_of X G a8⟩
  have F_Le : L2.FunD K "least_pins" "least_pins" (defArgs sLeast) (defBody sLeast) (defScope sLeast) [] [("weights", .non), ("favoured", .ref E9)] f9 _ := ⟨⟨_, _, _, _, _, _, _, _, _, _, rfl, l9, c9, .inl ⟨rfl, rfl⟩, .inr ⟨_, rfl, (by intro q hq; rcases List.mem_cons.mp hq with e | hq; (rw [e]; exact ⟨_, w9_0, rfl⟩); rcases List.mem_cons.mp hq with e | hq; (rw [e]; exact ⟨_, w9_1, rfl⟩); cases hq)⟩⟩, k9⟩
  have d_Le := L2.FunD.binds0 (ps := ["base", "goal", "weights", "favoured"]) F_Le 2 (by intro z; cases z) rfl fun D doc pm an cdv ct us ks hu hk => match us, ks, hu, hk with | [_, _], [_, _], _, _ => ⟨_, _, _, _, _, _, rfl, rfl, ⟨_, _, _, _, _, _, rfl, rfl, rfl⟩⟩
  have b_Le := Hk.FunD.kbindsA (ps := ["base", "goal", "weights", "favoured"]) F_Le 2 ["weights", "favoured"] fun kV doc pm an cdv ct us ws h1 h2 => match us, ws, h1, h2 with | [_, _], [_, _], _, _ => rfl
  have m_Le := PySem.W.mg_of X G a9
  have F10 := fun_mk (st := sHanging) l10 c10 k10
  have b10 := F10.binds (ps := ["pins", "row_id"]) fun _ _ _ _ _ _ us hl => match us, hl with | [_, _], _ => rfl
  have Ha : Fn K mg "hanging" sHanging ["pins", "row_id"] f10 _ := ⟨F10, b10, PySem.W.mg_of X G a10⟩
  have F11 := fun_mk (st := sFollowers) l11 c11 k11
  have b11 := F11.binds (ps := ["pins", "row_id"]) fun _ _ _ _ _ _ us hl => match us, hl with | [_, _], _ => rfl
  have Fo : Fn K mg "followers" sFollowers ["pins", "row_id"] f11 _ := ⟨F11, b11, PySem.W.mg_of X G a11⟩
  have F_Cv : L2.FunD K "level_cover" "level_cover" (defArgs sCover) (defBody sCover) (defScope sCover) [] [("weights", .non)] f12 _ := ⟨⟨_, _, _, _, _, _, _, _, _, _, rfl, l12, c12, .inl ⟨rfl, rfl⟩, .inr ⟨_, rfl, (by intro q hq; rcases List.mem_cons.mp hq with e | hq; (rw [e]; exact ⟨_, w12_0, rfl⟩); cases hq)⟩⟩, k12⟩
  have d_Cv := L2.FunD.binds0 (ps := ["base", "goal", "weights"]) F_Cv 2 (by intro z; cases z) rfl fun D doc pm an cdv ct us ks hu hk => match us, ks, hu, hk with | [_, _], [_], _, _ => ⟨_, _, _, _, _, _, rfl, rfl, rfl⟩
  have b_Cv := Hk.FunD.kbindsA (ps := ["base", "goal", "weights"]) F_Cv 2 ["weights"] fun kV doc pm an cdv ct us ws h1 h2 => match us, ws, h1, h2 with | [_, _], [_], _, _ => rfl
  have m_Cv := PySem.W.mg_of X G a12
  have F13 := fun_mk (st := sDeck) l13 c13 k13
  have b13 := F13.binds (ps := ["script", "start"]) fun _ _ _ _ _ _ us hl => match us, hl with | [_, _], _ => rfl
  have De : Fn K mg "_law_tape" sDeck ["script", "start"] f13 _ := ⟨F13, b13, PySem.W.mg_of X G a13⟩
  have F14 := fun_mk (st := sDraw) l14 c14 k14
  have b14 := F14.binds (ps := ["tape", "size"]) fun _ _ _ _ _ _ us hl => match us, hl with | [_, _], _ => rfl
  have Dr : Fn K mg "_law_pick" sDraw ["tape", "size"] f14 _ := ⟨F14, b14, PySem.W.mg_of X G a14⟩
  have F15 := fun_mk (st := sChoose) l15 c15 k15
  have b15 := F15.binds (ps := ["tape", "items"]) fun _ _ _ _ _ _ us hl => match us, hl with | [_, _], _ => rfl
  have Ch : Fn K mg "_law_one_of" sChoose ["tape", "items"] f15 _ := ⟨F15, b15, PySem.W.mg_of X G a15⟩
  have F16 := fun_mk (st := sShuf) l16 c16 k16
  have b16 := F16.binds (ps := ["tape", "ids"]) fun _ _ _ _ _ _ us hl => match us, hl with | [_, _], _ => rfl
  have Sh : Fn K mg "_law_shuffled" sShuf ["tape", "ids"] f16 _ := ⟨F16, b16, PySem.W.mg_of X G a16⟩
  have F17 := fun_mk (st := sIds) l17 c17 k17
  have b17 := F17.binds (ps := ["tape", "size"]) fun _ _ _ _ _ _ us hl => match us, hl with | [_, _], _ => rfl
  have Id : Fn K mg "_law_ids" sIds ["tape", "size"] f17 _ := ⟨F17, b17, PySem.W.mg_of X G a17⟩
  have F18 := fun_mk (st := sGoal) l18 c18 k18
  have b18 := F18.binds (ps := ["tape", "base"]) fun _ _ _ _ _ _ us hl => match us, hl with | [_, _], _ => rfl
  have Go : Fn K mg "_law_goal" sGoal ["tape", "base"] f18 _ := ⟨F18, b18, PySem.W.mg_of X G a18⟩
  have F19 := fun_mk (st := sPins) l19 c19 k19
  have b19 := F19.binds (ps := ["tape", "base"]) fun _ _ _ _ _ _ us hl => match us, hl with | [_, _], _ => rfl
  have Pi : Fn K mg "_law_pins" sPins ["tape", "base"] f19 _ := ⟨F19, b19, PySem.W.mg_of X G a19⟩
  have F20 := fun_mk (st := sNamed) l20 c20 k20
  have b20 := F20.binds (ps := ["names", "ids"]) fun _ _ _ _ _ _ us hl => match us, hl with | [_, _], _ => rfl
  have Na : Fn K mg "_law_named" sNamed ["names", "ids"] f20 _ := ⟨F20, b20, PySem.W.mg_of X G a20⟩
  have F21 := fun_mk (st := sPinsNamed) l21 c21 k21
  have b21 := F21.binds (ps := ["names", "pins"]) fun _ _ _ _ _ _ us hl => match us, hl with | [_, _], _ => rfl
  have Pn : Fn K mg "_law_pins_named" sPinsNamed ["names", "pins"] f21 _ := ⟨F21, b21, PySem.W.mg_of X G a21⟩
  have F22 := fun_mk (st := sFacts) l22 c22 k22
  have b22 := F22.binds (ps := ["base", "goal", "loads", "liked", "pins"]) fun _ _ _ _ _ _ us hl => match us, hl with | [_, _, _, _, _], _ => rfl
  have Fc : Fn K mg "_law_facts" sFacts ["base", "goal", "loads", "liked", "pins"] f22 _ := ⟨F22, b22, PySem.W.mg_of X G a22⟩
  exact ⟨PySem.W.fnOf "law" "law" (defArgs sLaw) (defBody sLaw) (defScope sLaw) .none kV23 dc23 pm23 an23 cd23 ct23, fun s v => .of_eq rfl, fun base _ _ =>
    (have GDr := ok_draw (P := l.prog) (w := w) (K := K) (mg := mg) (base := base) Dr.F
    have GC := ok_choose (P := l.prog) (w := w) (base := base) Ch.F ⟨n_len⟩ Dr.F Dr.b Dr.m
    have GSh := ok_shuf (P := l.prog) (w := w) (base := base) Sh.F ⟨n_len, n_list⟩ Dr.F Dr.b Dr.m
    have GI := ok_idsS Id.F ⟨n_len, n_list, n_range⟩ GC Ch.F.kp Ch.b Ch.m GSh Sh.F.kp Sh.b Sh.m
    have GG := ok_goal (P := l.prog) (w := w) (base := base) Go.F ⟨n_len, n_list, n_range⟩ Dr.F Dr.b Dr.m GSh Sh.F.kp Sh.b Sh.m
    have GPi := ok_pins Pi.F ⟨n_enumerate⟩ GDr Dr.F.kp Dr.b Dr.m GC Ch.F.kp Ch.b Ch.m GSh Sh.F.kp Sh.b Sh.m
    have GPl := ok_places (P := l.prog) (w := w) (base := base) Pl.F n_enumerate
    have GFu := ok_full (P := l.prog) (w := w) (mg := mg) (base := base) Fu.F
    have GFa := ok_favs Fa.F ⟨n_set, n_len⟩ GFu Fu.F.kp Fu.b Fu.m
    have GLv := ok_tops Lv.F ⟨n_max⟩ GPl Pl.F.kp Pl.b Pl.m
    have GBe := ok_best F_Be ⟨n_max⟩ GFa Fa.F.kp Fa.b Fa.m GLv Lv.F.kp Lv.b Lv.m
    have GNe := ok_neigh (P := l.prog) (w := w) (base := base) Ne.F n_list
    have GLe := ok_least F_Le ⟨n_sum, n_list, n_set⟩ GBe F_Be.kp b_Be m_Be GNe Ne.F.kp Ne.b Ne.m
    have GCv := ok_cover F_Cv ⟨n_list, n_set, n_sorted, n_zip, n_tuple⟩ GFu Fu.F.kp Fu.b Fu.m GLv Lv.F.kp Lv.b Lv.m
    have GSp := ok_spread (P := l.prog) (w := w) (base := base) Sp.F n_len
    have GLa := ok_lay La.F GSp Sp.F.kp Sp.b Sp.m
    have GHa := ok_hang (P := l.prog) (w := w) (base := base) Ha.F n_len
    have GFo := ok_foll Fo.F n_sorted GHa Ha.F.kp Ha.b Ha.m
    have GNa := ok_named (P := l.prog) (w := w) (K := K) (mg := mg) (base := base) Na.F
    have GPn := ok_pinsNamed (P := l.prog) (w := w) (K := K) (mg := mg) (base := base) Pn.F n_dict
    have GFc := ok_facts Fc.F ⟨GLe, F_Le.kp, m_Le, d_Le, b_Le⟩ ⟨GBe, F_Be.kp, m_Be, d_Be, b_Be⟩ La GLa ⟨GCv, F_Cv.kp, m_Cv, d_Cv, b_Cv⟩
    ok_law (fun_mk (st := sLaw) l23 c23 k23) ⟨n_len⟩ ⟨n_range, n_max, n_min, n_list, n_sorted, n_dict, n_zip, n_tuple⟩ De Dr Id GI Go GG Pi GPi Sh GSh Fc GFc Fo GFo Na GNa Pn GPn)⟩
end Hk
open PySem PySem.W PyProof.Rows in
set_option maxRecDepth 100000 in
set_option maxHeartbeats 0 in
theorem PySem.Challenge.cw_handsorted_k78_whole_ids_renamed_holds : PySem.Challenge.rw_handsorted_k78_whole_ids_renamed.Holds := by
  w_on; o_law; k_head; (case hw => w_witness2)
  k_fill
  refine Hk.walkG (l := PySem.Challenge.rw_handsorted_k78_whole_ids_renamed) (n := 63) (k := 6) (x := "script") (sp := Hk.spLaw) rfl (by decide) rfl ⟨rfl, by decide, by decide⟩ (fun w h Y => PySem.W.kIn_of Y) ?F (fun _ _ a ns hl hb hS => ⟨a, ns, rfl, hS, hl, hb, fun _ => rfl⟩)
  case F =>
    intro w mg fa h KX G hmg
    refine' Hk.all_mk KX G hmg ?a1 ?l1 ?c1 ?k1 ?a2 ?l2 ?c2 ?k2 ?a3 ?l3 ?c3 ?k3 ?a4 ?l4 ?c4 ?k4 ?a5 ?l5 ?c5 ?k5 ?a6 ?l6 ?c6 ?k6 ?w6_0 ?w6_1 ?v6 ?a7 ?l7 ?c7 ?k7 ?a8 ?l8 ?c8 ?k8 ?a9 ?l9 ?c9 ?k9 ?w9_0 ?w9_1 ?v9 ?a10 ?l10 ?c10 ?k10 ?a11 ?l11 ?c11 ?k11 ?a12 ?l12 ?c12 ?k12 ?w12_0 ?a13 ?l13 ?c13 ?k13 ?a14 ?l14 ?c14 ?k14 ?a15 ?l15 ?c15 ?k15 ?a16 ?l16 ?c16 ?k16 ?a17 ?l17 ?c17 ?k17 ?a18 ?l18 ?c18 ?k18 ?a19 ?l19 ?c19 ?k19 ?a20 ?l20 ?c20 ?k20 ?a21 ?l21 ?c21 ?k21 ?a22 ?l22 ?c22 ?k22 ?a23 ?l23 ?c23 ?k23 ?z0 ?z1 ?z2 ?z3 ?z4 ?z5 ?z6 ?z7 ?z8 ?z9 ?z10 ?z11
    (case a1 => k_is)
    (case l1 => k_is)
    (case c1 => k_is)
    (case k1 => k_is)
    (case a2 => k_is)
    (case l2 => k_is)
    (case c2 => k_is)
    (case k2 => k_is)
    (case a3 => k_is)
    (case l3 => k_is)
    (case c3 => k_is)
    (case k3 => k_is)
    (case a4 => k_is)
    (case l4 => k_is)
    (case c4 => k_is)
    (case k4 => k_is)
    (case a5 => k_is)
    (case l5 => k_is)
    (case c5 => k_is)
    (case k5 => k_is)
    (case a6 => k_is)
    (case l6 => k_is)
    (case c6 => k_is)
    (case k6 => k_is)
    (case w6_0 => k_is)
    (case w6_1 => k_is)
    (case v6 => k_is)
    (case a7 => k_is)
    (case l7 => k_is)
    (case c7 => k_is)
    (case k7 => k_is)
    (case a8 => k_is)
    (case l8 => k_is)
    (case c8 => k_is)
    (case k8 => k_is)
    (case a9 => k_is)
    (case l9 => k_is)
    (case c9 => k_is)
    (case k9 => k_is)
    (case w9_0 => k_is)
    (case w9_1 => k_is)
    (case v9 => k_is)
    (case a10 => k_is)
    (case l10 => k_is)
    (case c10 => k_is)
    (case k10 => k_is)
    (case a11 => k_is)
    (case l11 => k_is)
    (case c11 => k_is)
    (case k11 => k_is)
    (case a12 => k_is)
    (case l12 => k_is)
    (case c12 => k_is)
    (case k12 => k_is)
    (case w12_0 => k_is)
    (case a13 => k_is)
    (case l13 => k_is)
    (case c13 => k_is)
    (case k13 => k_is)
    (case a14 => k_is)
    (case l14 => k_is)
    (case c14 => k_is)
    (case k14 => k_is)
    (case a15 => k_is)
    (case l15 => k_is)
    (case c15 => k_is)
    (case k15 => k_is)
    (case a16 => k_is)
    (case l16 => k_is)
    (case c16 => k_is)
    (case k16 => k_is)
    (case a17 => k_is)
    (case l17 => k_is)
    (case c17 => k_is)
    (case k17 => k_is)
    (case a18 => k_is)
    (case l18 => k_is)
    (case c18 => k_is)
    (case k18 => k_is)
    (case a19 => k_is)
    (case l19 => k_is)
    (case c19 => k_is)
    (case k19 => k_is)
    (case a20 => k_is)
    (case l20 => k_is)
    (case c20 => k_is)
    (case k20 => k_is)
    (case a21 => k_is)
    (case l21 => k_is)
    (case c21 => k_is)
    (case k21 => k_is)
    (case a22 => k_is)
    (case l22 => k_is)
    (case c22 => k_is)
    (case k22 => k_is)
    (case a23 => k_is)
    (case l23 => k_is)
    (case c23 => k_is)
    (case k23 => k_is)
    (case z0 => k_is)
    (case z1 => k_is)
    (case z2 => k_is)
    (case z3 => k_is)
    (case z4 => k_is)
    (case z5 => k_is)
    (case z6 => k_is)
    (case z7 => k_is)
    (case z8 => k_is)
    (case z9 => k_is)
    (case z10 => k_is)
    (case z11 => k_is)

