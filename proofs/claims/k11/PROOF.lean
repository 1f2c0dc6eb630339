import PyProof.Rows.All
import Wide.All
import OpenK.AllK
import Wide.FinOn
import HandS.Base
import HandS.Call
import HandS.List
import HandS.Comp
import HandS.Ends
import HandS.Dict
import HandS.Iter
import HandS.Words
import HandS.WordsList
import HandS.WordsDict
import HandS.Set
import HandS.SetFor
import HandS.IsInst
import HandS.Style
import HandS.SetKeys
import HandS.EndBits
import PyProof.ReprRoads
import KE.SortData
import KE.DataCmp
import KE.KDictZip
import KE.KTurns
import HandS.Walk
import HandS.DictComp
import HandS.SortKw
import KE.DataMinMax
import HandS.Sort
import HandS.DictSubView
import HandS.Defaults
import HandS.Deep
import HandS.ForMost
import HandS.Wide
import PySem.Challenge.RW_handsorted_k11_best_straight_of_many
set_option Elab.async false
set_option linter.all false
set_option maxRecDepth 100000
set_option maxHeartbeats 8000000
namespace Hk
open PySem L2 PySem.Spec PyProof.Rows
def top (i : Nat) : Stmt := PySem.Challenge.pw_handsorted_k11_best_straight_of_many.main.body.getD i (.Pass ⟨0, 0, 0, 0⟩)
abbrev sPlaces : Stmt := top 1
abbrev sFull : Stmt := top 3
abbrev sTops : Stmt := top 5
abbrev sFavs : Stmt := top 6
abbrev sBest : Stmt := top 7
abbrev sDeck : Stmt := top 9
abbrev sDraw : Stmt := top 10
abbrev sChoose : Stmt := top 11
abbrev sShuf : Stmt := top 12
abbrev sIds : Stmt := top 13
abbrev sGoal : Stmt := top 14
abbrev sLoads : Stmt := top 15
abbrev sLoad : Stmt := top 16
abbrev sLiked : Stmt := top 17
abbrev sTable : Stmt := top 18
abbrev sExpected : Stmt := top 19
abbrev sLaw : Stmt := top 20
/-! ### numbers of any size -/
def CPowG (i j : Int) : Prop := 0 ≤ j ∧ (Builtin.Int.intBits i : Int) * j ≤ 2 ^ 27
section
variable {X : Cx}
theorem op_mulG : OpR X (binaryOp .Mult) (rI IntMulOk fun i j => .int (i * j)) := opI fun _ _ _ _ _ _ _ hc q => mul_int q hc
theorem op_powG : OpR X (binaryOp .Pow) (rI CPowG fun i j => .int (i ^ j.toNat)) := opI fun _ _ _ _ _ _ _ hc q => pow_int hc.1 hc.2 q
end
theorem mulOk_bits {i j : Int} {a b : Nat} (ha : Builtin.Int.intBits i ≤ a) (hb : Builtin.Int.intBits j ≤ b) (h : a + b ≤ 100000000) : IntMulOk i j := by
  have e : bitsLine = 134217728 := by decide
  unfold IntMulOk
  intro z
  rw [Bool.and_eq_true] at z
  have z2 := z.2
  unfold Builtin.Int.intTooBig at z2
  have z3 := of_decide_eq_true z2
  rw [e] at z3
  omega
theorem bits_le {i : Int} {n : Nat} (h : i.natAbs < 2 ^ n) : Builtin.Int.intBits i ≤ n := intBits_le h
/-- the turn of the deck's loop -/
theorem turn_bits {m e : Int} {k : Nat} (h0 : 0 ≤ m) (h1 : m < 2147483600) (he : Builtin.Int.intBits e ≤ k) (hk : 30 ≤ k) :
    Builtin.Int.intBits (m * 20011 + e * e + 13) ≤ 2 * k + 1 := by
  refine bits_le ?_
  have a1 : e.natAbs < 2 ^ k := Nat.lt_of_lt_of_le (natAbs_lt_pow_bits e) (Nat.pow_le_pow_right (by omega) he)
  have a2 : (e * e).natAbs < 2 ^ (2 * k) := by
    rw [Int.natAbs_mul, Nat.two_mul, Nat.pow_add]
    exact Nat.mul_lt_mul'' a1 a1
  have a3 : (m * 20011 + 13).natAbs < 2 ^ 60 := by
    have : (2 : Nat) ^ 60 = 1152921504606846976 := by decide
    omega
  have a4 : (2 : Nat) ^ 60 ≤ 2 ^ (2 * k) := Nat.pow_le_pow_right (by omega) (by omega)
  have a5 : (2 : Nat) ^ (2 * k + 1) = 2 ^ (2 * k) + 2 ^ (2 * k) := by rw [Nat.pow_succ, Nat.mul_two]
  rw [a5]
  generalize (2 : Nat) ^ (2 * k) = B at *
  generalize e * e = q at *
  omega
/-! ### pins as a forest: what is laid out is what is sorted by the places of the anchors -/
structure Forest (base : List Int) (p : Int → Option Int) (r : Int → Nat) (N : Nat) : Prop where
  nd : base.Nodup
  nz : ∀ x ∈ base, x ≠ 0
  lt : ∀ x ∈ base, r x < N
  anc : ∀ x ∈ base, ∀ a, p x = some a → a = 0 ∨ (a ∈ base ∧ r a < r x)
def kidsOf (base : List Int) (p : Int → Option Int) (a : Int) : List Int := base.filter fun x => p x == some a
def looseOf (base : List Int) (p : Int → Option Int) : List Int := base.filter fun x => p x == none
def dfsN (base : List Int) (p : Int → Option Int) : Nat → Int → List Int
  | 0, x => [x]
  | n + 1, x => x :: (kidsOf base p x).flatMap (dfsN base p n)
def ixI (base : List Int) (x : Int) : Int := (base.idxOf x : Nat)
def pathN (base : List Int) (p : Int → Option Int) : Nat → Int → List Int
  | 0, x => match p x with
    | none => [1, ixI base x]
    | some a => if a = 0 then [0, ixI base x] else []
  | m + 1, x => match p x with
    | none => [1, ixI base x]
    | some a => if a = 0 then [0, ixI base x] else pathN base p m a ++ [ixI base x]
theorem pathN_none {base : List Int} {p : Int → Option Int} {x : Int} (h : p x = none) : ∀ n, pathN base p n x = [1, ixI base x]
  | 0 => by rw [pathN, h]
  | n + 1 => by rw [pathN, h]
theorem pathN_top {base : List Int} {p : Int → Option Int} {x : Int} (h : p x = some 0) : ∀ n, pathN base p n x = [0, ixI base x]
  | 0 => by rw [pathN, h]; exact if_pos rfl
  | n + 1 => by rw [pathN, h]; exact if_pos rfl
theorem pathN_step {base : List Int} {p : Int → Option Int} {x a : Int} (h : p x = some a) (ha : a ≠ 0) (n : Nat) : pathN base p (n + 1) x = pathN base p n a ++ [ixI base x] := by
  rw [pathN, h]
  exact if_neg ha
theorem mem_kids {base : List Int} {p : Int → Option Int} {a x : Int} : x ∈ kidsOf base p a ↔ x ∈ base ∧ p x = some a := by
  unfold kidsOf
  rw [List.mem_filter, beq_iff_eq]
theorem mem_loose {base : List Int} {p : Int → Option Int} {x : Int} : x ∈ looseOf base p ↔ x ∈ base ∧ p x = none := by
  unfold looseOf
  rw [List.mem_filter, beq_iff_eq]
theorem app_lt (a : List Int) {x : Int} {s : List Int} : a < a ++ x :: s := by
  induction a with
  | nil => exact List.nil_lt_cons _ _
  | cons y r ih => rw [List.cons_append]; exact List.cons_lt_cons_iff.mpr (.inr ⟨rfl, ih⟩)
theorem app_lt2 (a : List Int) {b c : List Int} (h : b < c) : a ++ b < a ++ c := by
  induction a with
  | nil => exact h
  | cons y r ih => rw [List.cons_append, List.cons_append]; exact List.cons_lt_cons_iff.mpr (.inr ⟨rfl, ih⟩)
section
variable {base : List Int} {p : Int → Option Int} {r : Int → Nat} {N : Nat}
def treeOf (base : List Int) (p : Int → Option Int) (r : Int → Nat) (N : Nat) (x : Int) : List Int := dfsN base p (N - r x) x
def pathOf (base : List Int) (p : Int → Option Int) (r : Int → Nat) (x : Int) : List Int := pathN base p (r x) x
theorem kid_up (F : Forest base p r N) {a x : Int} (ha : a ∈ base) (h : x ∈ kidsOf base p a) : x ∈ base ∧ r a < r x := by
  obtain ⟨h1, h2⟩ := mem_kids.mp h
  rcases F.anc x h1 a h2 with e | ⟨_, e⟩
  · exact absurd e (F.nz a ha)
  · exact ⟨h1, e⟩
theorem dfs_more (F : Forest base p r N) : ∀ (n : Nat) (x : Int), x ∈ base → N - r x ≤ n → dfsN base p n x = treeOf base p r N x
  | 0, x, hx, h => by have := F.lt x hx; omega
  | n + 1, x, hx, h => by
    have hlt := F.lt x hx
    unfold treeOf
    obtain ⟨m, hm⟩ : ∃ m, N - r x = m + 1 := ⟨N - r x - 1, by omega⟩
    rw [hm, dfsN, dfsN]
    congr 1
    have key : ∀ l : List Int, (∀ c ∈ l, c ∈ kidsOf base p x) → l.flatMap (dfsN base p n) = l.flatMap (dfsN base p m) := by
      intro l
      induction l with
      | nil => intro _; rfl
      | cons c l ih =>
        intro hl
        obtain ⟨c1, c2⟩ := kid_up F hx (hl c List.mem_cons_self)
        rw [List.flatMap_cons, List.flatMap_cons, ih fun c hc => hl c (List.mem_cons_of_mem _ hc)]
        rw [dfs_more F n c c1 (by omega)]
        by_cases hmn : m = n
        · subst hmn; rw [dfs_more F m c c1 (by omega)]
        · have hmn2 : m < n + 1 := by omega
          congr 1
          unfold treeOf
          have := F.lt c c1
          have e1 : dfsN base p m c = treeOf base p r N c := dfs_more F m c c1 (by omega)
          rw [e1]; rfl
    exact key _ fun c hc => hc
termination_by n => n
theorem tree_eq (F : Forest base p r N) {x : Int} (hx : x ∈ base) : treeOf base p r N x = x :: (kidsOf base p x).flatMap (treeOf base p r N) := by
  have hlt := F.lt x hx
  have e : dfsN base p (N + 1) x = treeOf base p r N x := dfs_more F (N + 1) x hx (by omega)
  rw [← e, dfsN]
  congr 1
  have key : ∀ l : List Int, (∀ c ∈ l, c ∈ kidsOf base p x) → l.flatMap (dfsN base p N) = l.flatMap (treeOf base p r N) := by
    intro l
    induction l with
    | nil => intro _; rfl
    | cons c l ih =>
      intro hl
      obtain ⟨c1, c2⟩ := kid_up F hx (hl c List.mem_cons_self)
      rw [List.flatMap_cons, List.flatMap_cons, ih fun c hc => hl c (List.mem_cons_of_mem _ hc), dfs_more F N c c1 (by omega)]
  exact key _ fun c hc => hc
theorem path_more (F : Forest base p r N) : ∀ (n : Nat) (x : Int), x ∈ base → r x ≤ n → pathN base p n x = pathOf base p r x
  | n, x, hx, h => by
    unfold pathOf
    cases hp : p x with
    | none => rw [pathN_none hp, pathN_none hp]
    | some a =>
      by_cases ha : a = 0
      · subst ha
        rw [pathN_top hp, pathN_top hp]
      · rcases F.anc x hx a hp with e | ⟨a1, a2⟩
        · exact absurd e ha
        · obtain ⟨m, hm⟩ : ∃ m, r x = m + 1 := ⟨r x - 1, by omega⟩
          obtain ⟨k, rfl⟩ : ∃ k, n = k + 1 := ⟨n - 1, by omega⟩
          rw [hm, pathN_step hp ha, pathN_step hp ha, path_more F k a a1 (by omega), path_more F m a a1 (by omega)]
termination_by n => n
theorem path_none {x : Int} (h : p x = none) : pathOf base p r x = [1, ixI base x] := pathN_none h _
theorem path_top {x : Int} (h : p x = some 0) : pathOf base p r x = [0, ixI base x] := pathN_top h _
theorem path_step (F : Forest base p r N) {x a : Int} (hx : x ∈ base) (h : p x = some a) (ha : a ≠ 0) : a ∈ base ∧ pathOf base p r x = pathOf base p r a ++ [ixI base x] := by
  rcases F.anc x hx a h with e | ⟨a1, a2⟩
  · exact absurd e ha
  · refine ⟨a1, ?_⟩
    have e := path_more F (r x + 1) x hx (by omega)
    rw [← e, pathN_step h ha, path_more F (r x) a a1 (by omega)]
theorem ix_sorted {base : List Int} {f : Int → Bool} (nd : base.Nodup) : (base.filter f).Pairwise fun a b => ixI base a < ixI base b := by
  have h : base.Pairwise fun a b => ixI base a < ixI base b := by
    refine List.pairwise_iff_getElem.mpr fun i j hi hj hij => ?_
    unfold ixI
    rw [nd.idxOf_getElem i hi, nd.idxOf_getElem j hj]
    omega
  exact h.filter f
/-- what hangs on x -/
theorem tree_ok (F : Forest base p r N) : ∀ (n : Nat) (x : Int), x ∈ base → N - r x ≤ n → (∀ y ∈ treeOf base p r N x, y ∈ base ∧ ∃ s, pathOf base p r y = pathOf base p r x ++ s) ∧ (treeOf base p r N x).Pairwise (fun a b => pathOf base p r a < pathOf base p r b)
  | 0, x, hx, h => by have := F.lt x hx; omega
  | n + 1, x, hx, h => by
    have hlt := F.lt x hx
    have hk : ∀ c ∈ kidsOf base p x, c ∈ base ∧ (∀ y ∈ treeOf base p r N c, y ∈ base ∧ ∃ s, pathOf base p r y = pathOf base p r x ++ ixI base c :: s) ∧ (treeOf base p r N c).Pairwise (fun a b => pathOf base p r a < pathOf base p r b) := fun c hc => by
      obtain ⟨c1, c2⟩ := kid_up F hx hc
      obtain ⟨i1, i2⟩ := tree_ok F n c c1 (by omega)
      refine ⟨c1, fun y hy => ?_, i2⟩
      obtain ⟨y1, s, hs⟩ := i1 y hy
      refine ⟨y1, s, ?_⟩
      rw [hs, (path_step F c1 (mem_kids.mp hc).2 (F.nz x hx)).2, List.append_assoc]; rfl
    rw [tree_eq F hx]
    refine ⟨fun y hy => ?_, List.pairwise_cons.mpr ⟨fun y hy => ?_, List.pairwise_flatMap.mpr ⟨fun c hc => (hk c hc).2.2, ?_⟩⟩⟩
    · rcases List.mem_cons.mp hy with e | hy
      · rw [e]; exact ⟨hx, [], by rw [List.append_nil]⟩
      · obtain ⟨c, hc, hy⟩ := List.mem_flatMap.mp hy
        obtain ⟨y1, s, hs⟩ := (hk c hc).2.1 y hy
        exact ⟨y1, _, hs⟩
    · obtain ⟨c, hc, hy⟩ := List.mem_flatMap.mp hy
      obtain ⟨y1, s, hs⟩ := (hk c hc).2.1 y hy
      rw [hs]
      exact app_lt _
    · have hs : (kidsOf base p x).Pairwise fun a b => ixI base a < ixI base b := ix_sorted F.nd
      refine (List.pairwise_iff_forall_sublist.mpr fun {a b} hab u hu v hv => ?_)
      have hab2 := List.pairwise_iff_forall_sublist.mp hs hab
      have ha : a ∈ kidsOf base p x := hab.subset (by simp)
      have hb : b ∈ kidsOf base p x := hab.subset (by simp)
      obtain ⟨_, s1, e1⟩ := (hk a ha).2.1 u hu
      obtain ⟨_, s2, e2⟩ := (hk b hb).2.1 v hv
      rw [e1, e2]
      exact app_lt2 _ (List.cons_lt_cons_iff.mpr (.inl hab2))
termination_by n => n
/-- the laid order -/
def laidOf (base : List Int) (p : Int → Option Int) (r : Int → Nat) (N : Nat) : List Int := (kidsOf base p 0 ++ looseOf base p).flatMap (treeOf base p r N)
theorem tree_kids (F : Forest base p r N) : ∀ (n : Nat) (x : Int), x ∈ base → N - r x ≤ n → ∀ a ∈ treeOf base p r N x, ∀ c ∈ kidsOf base p a, c ∈ treeOf base p r N x
  | 0, x, hx, h => by have := F.lt x hx; omega
  | n + 1, x, hx, h => by
    have hlt := F.lt x hx
    intro a ha c hc
    rw [tree_eq F hx] at ha ⊢
    refine List.mem_cons_of_mem _ (List.mem_flatMap.mpr ?_)
    rcases List.mem_cons.mp ha with e | ha
    · rw [e] at hc
      refine ⟨c, hc, ?_⟩
      rw [tree_eq F (kid_up F hx hc).1]
      exact List.mem_cons_self
    · obtain ⟨k, hk, ha⟩ := List.mem_flatMap.mp ha
      obtain ⟨k1, k2⟩ := kid_up F hx hk
      exact ⟨k, hk, tree_kids F n k k1 (by omega) a ha c hc⟩
termination_by n => n
theorem tops_in {x : Int} (h : x ∈ kidsOf base p 0 ++ looseOf base p) : x ∈ base := by
  rcases List.mem_append.mp h with q | q
  · exact (mem_kids.mp q).1
  · exact (mem_loose.mp q).1
theorem laid_in (F : Forest base p r N) {y : Int} (h : y ∈ laidOf base p r N) : y ∈ base := by
  obtain ⟨c, hc, hy⟩ := List.mem_flatMap.mp h
  exact ((tree_ok F (N - r c) c (tops_in hc) (Nat.le_refl _)).1 y hy).1
theorem laid_all (F : Forest base p r N) : ∀ (n : Nat) (x : Int), x ∈ base → r x ≤ n → x ∈ laidOf base p r N
  | n, x, hx, h => by
    have top : x ∈ kidsOf base p 0 ++ looseOf base p → x ∈ laidOf base p r N := fun q => List.mem_flatMap.mpr ⟨x, q, by rw [tree_eq F hx]; exact List.mem_cons_self⟩
    cases hp : p x with
    | none => exact top (List.mem_append_right _ (mem_loose.mpr ⟨hx, hp⟩))
    | some a =>
      rcases F.anc x hx a hp with e | ⟨a1, a2⟩
      · subst e
        exact top (List.mem_append_left _ (mem_kids.mpr ⟨hx, hp⟩))
      · obtain ⟨m, rfl⟩ : ∃ m, n = m + 1 := ⟨n - 1, by omega⟩
        obtain ⟨c, hc, ha⟩ := List.mem_flatMap.mp (laid_all F m a a1 (by omega))
        exact List.mem_flatMap.mpr ⟨c, hc, tree_kids F _ c (tops_in hc) (Nat.le_refl _) a ha x (mem_kids.mpr ⟨hx, hp⟩)⟩
termination_by n => n
theorem laid_up (F : Forest base p r N) : (laidOf base p r N).Pairwise fun a b => pathOf base p r a < pathOf base p r b := by
  have hk : ∀ c ∈ kidsOf base p 0 ++ looseOf base p, (treeOf base p r N c).Pairwise fun a b => pathOf base p r a < pathOf base p r b := fun c hc => (tree_ok F _ c (tops_in hc) (Nat.le_refl _)).2
  have h0 : ∀ c ∈ kidsOf base p 0, ∀ y ∈ treeOf base p r N c, ∃ s, pathOf base p r y = 0 :: ixI base c :: s := fun c hc y hy => by
    obtain ⟨_, s, e⟩ := (tree_ok F _ c (mem_kids.mp hc).1 (Nat.le_refl _)).1 y hy
    exact ⟨s, by rw [e, path_top (mem_kids.mp hc).2]; rfl⟩
  have h1 : ∀ c ∈ looseOf base p, ∀ y ∈ treeOf base p r N c, ∃ s, pathOf base p r y = 1 :: ixI base c :: s := fun c hc y hy => by
    obtain ⟨_, s, e⟩ := (tree_ok F _ c (mem_loose.mp hc).1 (Nat.le_refl _)).1 y hy
    exact ⟨s, by rw [e, path_none (mem_loose.mp hc).2]; rfl⟩
  have hs : ∀ f : Int → Bool, (base.filter f).Pairwise fun a b => ixI base a < ixI base b := fun f => ix_sorted F.nd
  refine List.pairwise_flatMap.mpr ⟨hk, List.pairwise_append.mpr ⟨?_, ?_, ?_⟩⟩
  · refine List.pairwise_iff_forall_sublist.mpr fun {a b} hab u hu v hv => ?_
    have ha : a ∈ kidsOf base p 0 := hab.subset (by simp)
    have hb : b ∈ kidsOf base p 0 := hab.subset (by simp)
    obtain ⟨s1, e1⟩ := h0 a ha u hu
    obtain ⟨s2, e2⟩ := h0 b hb v hv
    rw [e1, e2]
    exact List.cons_lt_cons_iff.mpr (.inr ⟨rfl, List.cons_lt_cons_iff.mpr (.inl (List.pairwise_iff_forall_sublist.mp (hs _) hab))⟩)
  · refine List.pairwise_iff_forall_sublist.mpr fun {a b} hab u hu v hv => ?_
    have ha : a ∈ looseOf base p := hab.subset (by simp)
    have hb : b ∈ looseOf base p := hab.subset (by simp)
    obtain ⟨s1, e1⟩ := h1 a ha u hu
    obtain ⟨s2, e2⟩ := h1 b hb v hv
    rw [e1, e2]
    exact List.cons_lt_cons_iff.mpr (.inr ⟨rfl, List.cons_lt_cons_iff.mpr (.inl (List.pairwise_iff_forall_sublist.mp (hs _) hab))⟩)
  · intro a ha b hb u hu v hv
    obtain ⟨s1, e1⟩ := h0 a ha u hu
    obtain ⟨s2, e2⟩ := h1 b hb v hv
    rw [e1, e2]
    exact List.cons_lt_cons_iff.mpr (.inl (by decide))
theorem laid_nodup (F : Forest base p r N) : (laidOf base p r N).Nodup := (laid_up F).imp fun {a b} h e => by
  subst e
  exact List.lt_irrefl _ h
theorem laid_perm (F : Forest base p r N) : (laidOf base p r N).Perm base :=
  (List.perm_ext_iff_of_nodup (laid_nodup F) F.nd).mpr fun a => ⟨laid_in F, fun h => laid_all F _ a h (Nat.le_refl _)⟩
theorem path_inj (F : Forest base p r N) {x y : Int} (hx : x ∈ base) (hy : y ∈ base) (h : x ≠ y) : pathOf base p r x ≠ pathOf base p r y := by
  intro e
  have hx2 := laid_all F _ x hx (Nat.le_refl _)
  have hy2 := laid_all F _ y hy (Nat.le_refl _)
  obtain ⟨i, hi, ei⟩ := List.getElem_of_mem hx2
  obtain ⟨j, hj, ej⟩ := List.getElem_of_mem hy2
  have up := List.pairwise_iff_getElem.mp (laid_up F)
  rcases Nat.lt_trichotomy i j with q | q | q
  · have := up i j hi hj q
    rw [ei, ej, e] at this
    exact List.lt_irrefl _ this
  · subst q
    exact h (ei.symm.trans ej)
  · have := up j i hj hi q
    rw [ei, ej, e] at this
    exact List.lt_irrefl _ this
theorem laid_sort (F : Forest base p r N) : base.mergeSort (fun a b => decide (pathOf base p r a ≤ pathOf base p r b)) = laidOf base p r N := by
  have h4 : (base.mergeSort (fun a b => decide (pathOf base p r a ≤ pathOf base p r b))).Pairwise (fun a b => pathOf base p r a ≤ pathOf base p r b) := by
    have := List.pairwise_mergeSort (le := fun a b : Int => decide (pathOf base p r a ≤ pathOf base p r b)) (fun a b c x y => decide_eq_true (List.le_trans (of_decide_eq_true x) (of_decide_eq_true y)))
      (fun a b => by
        rcases List.le_total (pathOf base p r a) (pathOf base p r b) with q | q
        · rw [decide_eq_true q]; rfl
        · rw [decide_eq_true q, Bool.or_true]) base
    exact this.imp fun z => of_decide_eq_true z
  refine List.Perm.eq_of_pairwise (le := fun a b => pathOf base p r a ≤ pathOf base p r b) (fun a b ha hb x y => ?_) h4 ((laid_up F).imp fun z => List.le_of_lt z) ((List.mergeSort_perm _ _).trans (laid_perm F).symm)
  by_cases e : a = b
  · exact e
  · exact absurd (List.le_antisymm x y) (path_inj F (List.mem_mergeSort.mp ha) (laid_in F hb) e)
end
/-! ### the deck -/
def dk (x y : Int) : List (Key × V) := [(.inr "digits", .int x), (.inr "mixed", .int y)]
def DeckAt (H : Hp) (d : Addr) : Prop := ∃ x y : Int, H d = some (.dK (dk x y)) ∧ 0 ≤ x ∧ 0 ≤ y ∧ y < 2147483600
/-- all that was tracked is as it was, but what stands at d -/
def But (d : Addr) (H H' : Hp) : Prop := ∀ b o, b ≠ d → H b = some o → H' b = some o
theorem But.refl (d : Addr) (H : Hp) : But d H H := fun _ _ _ h => h
theorem But.trans {d : Addr} {H H1 H2 : Hp} (a : But d H H1) (b : But d H1 H2) : But d H H2 := fun c o n h => b c o n (a c o n h)
theorem But.of {d : Addr} {H H' : Hp} (a : Same H H') : But d H H' := fun c o _ h => a c o h
theorem But.upd {d : Addr} {H : Hp} {o : HO} : But d H (upd H d o) := fun b u n h => by rw [upd_ne n]; exact h
theorem But.new {d p : Addr} {H : Hp} {o : HO} (h : H p = none) : But d H (L2.upd H p o) := fun b u n e => by rw [upd_ne (ne_of_none e h)]; exact e
theorem Same.new {p : Addr} {H : Hp} {o : HO} (h : H p = none) : Same H (L2.upd H p o) := fun b u e => by rw [upd_ne (ne_of_none e h)]; exact e
theorem DeckAt.same {H H' : Hp} {d : Addr} (D : DeckAt H d) (s : Same H H') : DeckAt H' d := let ⟨x, y, h, r⟩ := D; ⟨x, y, s _ _ h, r⟩
theorem dm_ : ¬ (("digits" : Str) = "mixed") := by decide +kernel
theorem md_ : ¬ (("mixed" : Str) = "digits") := by decide +kernel
theorem dk_digits (x y : Int) : valV (dk x y) (Sum.inr "digits" : Key) = some (.int x) := by
  unfold valV dk
  rw [List.find?_cons_of_pos]
  · rfl
  · exact decide_eq_true rfl
theorem dk_mixed (x y : Int) : valV (dk x y) (Sum.inr "mixed" : Key) = some (.int y) := by
  unfold valV dk
  rw [List.find?_cons_of_neg, List.find?_cons_of_pos]
  · rfl
  · exact decide_eq_true rfl
  · intro q
    exact dm_ (Sum.inr.inj (of_decide_eq_true q))
theorem dk_put_digits (x y z : Int) : putK (dk x y) (Sum.inr "digits" : Key) (.int z) = dk z y := by
  unfold putK dk
  have n : ¬ (Sum.inr "mixed" : Key) = (Sum.inr "digits" : Key) := fun q => md_ (Sum.inr.inj q)
  simp only [List.any_cons, decide_true, Bool.true_or, if_true, List.map_cons, List.map_nil, if_neg n]
theorem dk_put_mixed (x y z : Int) : putK (dk x y) (Sum.inr "mixed" : Key) (.int z) = dk x z := by
  unfold putK dk
  have n : ¬ (Sum.inr "digits" : Key) = (Sum.inr "mixed" : Key) := fun q => dm_ (Sum.inr.inj q)
  simp only [List.any_cons, decide_true, Bool.true_or, Bool.or_true, if_true, List.map_cons, List.map_nil, if_neg n]
theorem dk_merge (x y : Int) : mergeK [] [((Sum.inr "digits" : Key), V.int x), ((Sum.inr "mixed" : Key), V.int y)] = dk x y := by
  unfold mergeK putK dk
  have n : ¬ (Sum.inr "digits" : Key) = (Sum.inr "mixed" : Key) := fun q => dm_ (Sum.inr.inj q)
  simp only [List.foldl_cons, List.foldl_nil, List.any_nil, List.nil_append, List.any_cons, decide_eq_false n, Bool.or_self]
  rfl
/-- the turn of the deck's loop -/
theorem turn_bitsT {m e : Int} {k : Nat} (h0 : 0 ≤ m) (h1 : m < 2147483600) (he : Builtin.Int.intBits e ≤ k) (hk : 30 ≤ k) :
    Builtin.Int.intBits (m * 30011 + e * e + 7) ≤ 2 * k + 1 := by
  refine bits_le ?_
  have a1 : e.natAbs < 2 ^ k := Nat.lt_of_lt_of_le (natAbs_lt_pow_bits e) (Nat.pow_le_pow_right (by omega) he)
  have a2 : (e * e).natAbs < 2 ^ (2 * k) := by
    rw [Int.natAbs_mul, Nat.two_mul, Nat.pow_add]
    exact Nat.mul_lt_mul'' a1 a1
  have a3 : (m * 30011 + 7).natAbs < 2 ^ 60 := by
    have : (2 : Nat) ^ 60 = 1152921504606846976 := by decide
    omega
  have a4 : (2 : Nat) ^ 60 ≤ 2 ^ (2 * k) := Nat.pow_le_pow_right (by omega) (by omega)
  have a5 : (2 : Nat) ^ (2 * k + 1) = 2 ^ (2 * k) + 2 ^ (2 * k) := by rw [Nat.pow_succ, Nat.mul_two]
  rw [a5]
  generalize (2 : Nat) ^ (2 * k) = B at *
  generalize e * e = q at *
  omega
structure TxtD (mg : Str → Option Value) : Prop where
  len : mg "len" = none
section
variable {P : Program} {w : World} {K : PySem.W.Frag} {mg : Str → Option Value} {base : Heap}
def spDeck (K : PySem.W.Frag) : Sp := fun vs H Q _ => ∃ (a : Addr) (ns : List Int) (st : Int), vs = [.ref a, .int st] ∧ SqL K H a (ns.map V.int) ∧ ns.length ≤ 63 ∧ (∀ z ∈ ns, Builtin.Int.intBits z ≤ 1048576) ∧ 0 ≤ st ∧ st ≤ 63 ∧
  ∀ (d : Addr) (H' : Hp), H d = none → Same H H' → DeckAt H' d → Q (.ref d) H'
theorem scDeck : FnScope ["script", "start", "mixed", "cell", "digits"] ["script", "start"] (defScope sDeck) := ⟨rfl, rfl, rfl, by decide +kernel, rfl, by decide +kernel, by decide +kernel⟩
theorem ok_deck {f : Addr} {fd : FuncData} (F : Fun K "_law_tape" "_law_tape" sDeck f fd) (T : TxtD mg) : FnOk P w K mg base CX0 1 f fd ["script", "start"] (spDeck K) := by
  refine F.ok scDeck (fun vs H Q E h => ?_) (fun cdv A outer s H vs Q E hr h => ?_)
  · obtain ⟨a, ns, st, rfl, _⟩ := h
    rfl
  · obtain ⟨a, ns, st, rfl, hS, hlen, hb, h0, h1, k⟩ := h
    have hu := hu_of hr
    refine ⟨_, pss_cons (ps_set (i := 2) scDeck.nd rfl (Or.inl rfl) (pe_op op_add pe_int (pe_op op_mul (pv 1) pe_int)))
      (pss_cons (ps_for PassesOwn.never rfl (pi_list (pv 0)) (pg_name (i := 3) scDeck.nd rfl (Or.inl rfl))
        (pss_one (ps_set (i := 2) scDeck.nd rfl (Or.inl rfl) (pe_op op_add (pe_op op_mod (pe_op op_powG (pe_op op_add (pe_op op_add (pe_op op_mul (pv 2) pe_int) (pe_op op_mulG (pv 3) (pv 3))) pe_int) pe_int) pe_int) pe_int))))
      (pss_cons (ps_set (i := 4) scDeck.nd rfl (Or.inl rfl) (pe_ifExp (PW.pt (pw_and (pt_cmpR op_lt (pv 1) (pe_callB call_len_seq (by rfl) T.len PySem.boot_len (pa_cons (pv 0) pa_nil)) (nomark _))
          (pw_and1 (pt_cmpR op_ge (pe_ix ix_list (pv 0) (pv 1) (fun _ _ => rfl)) (pe_op op_pow pe_int pe_int) (nomark _)))))
          (pe_op op_sub (pe_ix ix_list (pv 0) (pv 1) (fun _ _ => rfl)) (pe_op op_pow pe_int pe_int)) pe_int))
      (pss_one (ps_ret (pe_disp (pps_cons pe_str (pv 4) (pps_cons pe_str (pv 2) pps_nil)) (by rfl) (by rfl) (fun z => by cases z) (by decide)))))), ?_⟩
    refine ⟨_, rfl, _, _, rfl, rfl, .inr ⟨by decide, by decide⟩, _, _, rfl, rfl, ?_⟩
    refine ⟨_, rfl, a, rfl, ⟨_, hS⟩, for_list (K := K) (a := a) (xs := ns.map V.int) (fun i σ H' => ∃ (m : Int) (v : Option V), σ = [some (.ref a), some (.int st), some (.int m), v, none] ∧ H' = H ∧ 0 ≤ m ∧ m < 2147483600)
      ⟨_, none, rfl, rfl, by omega, by omega⟩ (fun i σ H' _ ⟨_, _, _, e, _⟩ => by rw [e]; exact hS) ?_ ?_⟩
    · rintro i y σ H' hi ⟨m, v, rfl, rfl, m0, m1⟩
      obtain ⟨e, he, rfl⟩ : ∃ e, e ∈ ns ∧ y = V.int e := by
        rw [List.getElem?_map] at hi
        cases q : ns[i]? with
        | none => rw [q] at hi; cases hi
        | some u => rw [q] at hi; exact ⟨u, List.mem_of_getElem? q, (Option.some.inj hi).symm⟩
      have hbits := hb e he
      have hT := turn_bitsT (k := 1048576) m0 m1 hbits (by decide)
      refine ⟨_, rfl, _, _, rfl, rfl, .inr ⟨by decide, by decide⟩, _, rfl, _, rfl, _, _, rfl, rfl, mulOk_bits hbits hbits (by decide), _, _, rfl, rfl, _, _, rfl, rfl, _, _, rfl, rfl, ⟨by decide, ?_⟩, _, _, rfl, rfl, (by show (0 : Int) < 2147483563; decide), _, _, rfl, rfl, ?_⟩
      · have z : (2 : Int) ^ 27 = 134217728 := by decide
        rw [z]
        generalize Builtin.Int.intBits (m * 30011 + e * e + 7) = B at hT ⊢
        omega
      · refine ⟨_, _, rfl, rfl, ?_, ?_⟩
        · have := Int.emod_nonneg ((m * 30011 + e * e + 7) ^ (2 : Int).toNat) (b := 2147483563) (by decide)
          generalize (m * 30011 + e * e + 7) ^ (2 : Int).toNat % 2147483563 = z at *
          omega
        · have := Int.emod_lt_of_pos ((m * 30011 + e * e + 7) ^ (2 : Int).toNat) (b := 2147483563) (by decide)
          generalize (m * 30011 + e * e + 7) ^ (2 : Int).toNat % 2147483563 = z at *
          omega
    · rintro σ H' ⟨m, v, rfl, rfl, m0, m1⟩
      have fin : ∀ (x : Int) (σ' : L2.St), 0 ≤ x → σ' = [some (.ref a), some (.int st), some (.int m), v, some (.int x)] →
          (tRet (tDisp [(tC (.str "digits"), tVar 4), (tC (.str "mixed"), tVar 2)])) { nx := fun _ H' => Q .non H', rt := Q } σ' H' := by
        rintro x σ' hx rfl
        intro p hp
        refine ⟨_, rfl, _, rfl, upd_same, [((Sum.inr "digits" : Key), V.int x), ((Sum.inr "mixed" : Key), V.int m)], rfl, (by show 2 ≤ 15; decide), ?_⟩
        rw [upd_upd, dk_merge]
        exact k p _ hp (Same.new hp) ⟨x, m, upd_same, hx, m0, m1⟩
      refine ⟨_, rfl, _, rfl, a, _, rfl, .inl hS, _, _, rfl, rfl, _, rfl, ?_⟩
      refine ite2 (fun hlt => ?_) (fun hlt => ?_)
      · have hlt' : st < (ns.map V.int).length := of_decide_eq_true hlt
        rw [List.length_map] at hlt'
        obtain ⟨n, rfl⟩ : ∃ n : Nat, st = (n : Int) := ⟨st.toNat, by omega⟩
        have hn : n < ns.length := by omega
        have hat : (ns.map V.int)[n]? = some (V.int ns[n]) := by rw [List.getElem?_map, List.getElem?_eq_getElem hn]; rfl
        refine ⟨_, rfl, _, rfl, a, _, _, _, rfl, rfl, hS, atI_nat hat, _, _, rfl, rfl, ⟨by decide, by decide, by decide⟩, _, _, rfl, rfl, _, rfl, ?_⟩
        refine ite2 (fun hge => ?_) (fun hge => ?_)
        · have hge' := of_decide_eq_true hge
          refine ⟨_, rfl, _, rfl, a, _, _, _, rfl, rfl, hS, atI_nat hat, _, _, rfl, rfl, ⟨by decide, by decide, by decide⟩, _, _, rfl, rfl, ?_⟩
          exact fin _ _ (by omega) rfl
        · exact fin 0 _ (Int.le_refl _) rfl
      · refine iteF ?_
        exact fin 0 _ (Int.le_refl _) rfl
end
theorem But.seq {d a : Addr} {H H' : Hp} {K : PySem.W.Frag} {xs : List V} (D : DeckAt H d) (s : But d H H') (h : SqL K H a xs) : SqL K H' a xs := by
  obtain ⟨x, y, hd, _⟩ := D
  rcases h with (h | ⟨o, h⟩) | h
  · exact .inl (.inl (s _ _ (ne_of h hd (by intro z; cases z)) h))
  · exact .inl (.inr ⟨o, s _ _ (ne_of h hd (by intro z; cases z)) h⟩)
  · exact .inr h
theorem But.lst {d a : Addr} {H H' : Hp} {xs : List V} (D : DeckAt H d) (s : But d H H') (h : H a = some (.lst xs)) : H' a = some (.lst xs) := by
  obtain ⟨x, y, hd, _⟩ := D
  exact s _ _ (ne_of h hd (by intro z; cases z)) h
theorem But.tup {d a : Addr} {H H' : Hp} {xs : List V} (D : DeckAt H d) (s : But d H H') (h : H a = some (.tup xs)) : H' a = some (.tup xs) := by
  obtain ⟨x, y, hd, _⟩ := D
  exact s _ _ (ne_of h hd (by intro z; cases z)) h
/-- new behind is new ahead -/
theorem But.free {d p : Addr} {H H' : Hp} (D : DeckAt H' d) (s : But d H H') (h : H' p = none) : H p = none := by
  obtain ⟨x, y, hd, _⟩ := D
  cases q : H p with
  | none => rfl
  | some o =>
    have := s _ _ (fun e => by rw [e, hd] at h; cases h) q
    rw [h] at this
    cases this
theorem pow6 : (10 : Int) ^ (6 : Int).toNat = 1000000 := by decide
section
variable {P : Program} {w : World} {K : PySem.W.Frag} {mg : Str → Option Value} {base : Heap}
/-! ### a draw -/
def spDraw : Sp := fun vs H Q _ => ∃ (d : Addr) (n : Int), vs = [.ref d, .int n] ∧ DeckAt H d ∧ 0 < n ∧ n < 1073741824 ∧ ∀ (r : Int) (H' : Hp), 0 ≤ r → r < n → DeckAt H' d → But d H H' → Q (.int r) H'
theorem scDraw : FnScope ["tape", "size", "found"] ["tape", "size"] (defScope sDraw) := ⟨rfl, rfl, rfl, by decide +kernel, rfl, by decide +kernel, by decide +kernel⟩
theorem ok_draw {f : Addr} {fd : FuncData} (F : Fun K "_law_pick" "_law_pick" sDraw f fd) : FnOk P w K mg base CX0 1 f fd ["tape", "size"] spDraw := by
  refine F.ok scDraw (fun vs H Q E h => ?_) (fun cdv A outer s H vs Q E hr h => ?_)
  · obtain ⟨d, n, rfl, _⟩ := h
    rfl
  · obtain ⟨d, n, rfl, ⟨x, y, hd, x0, y0, y1⟩, n0, n1, k⟩ := h
    have hu := hu_of hr
    refine ⟨_, pss_cons (ps_if (pt_cmpR op_ge (pe_dget hu (pv 0) pe_str (fun _ _ => rfl)) (pv 1) (nomark _))
        (pss_cons (ps_set (i := 2) scDraw.nd rfl (Or.inl rfl) (pe_op op_mod (pe_dget hu (pv 0) pe_str (fun _ _ => rfl)) (pv 1)))
        (pss_cons (ps_dput hu (pv 0) pe_str (pe_op op_fdiv (pe_dget hu (pv 0) pe_str (fun _ _ => rfl)) (pv 1)) rfl)
        (pss_one (ps_ret (pv 2))))) pss_nil)
      (pss_cons (ps_dput hu (pv 0) pe_str (pe_op op_mod (pe_op op_add (pe_op op_mul (pe_dget hu (pv 0) pe_str (fun _ _ => rfl)) pe_int) pe_int) pe_int) rfl)
      (pss_one (ps_ret (pe_op op_mod (pe_op op_fdiv (pe_op op_mod (pe_op op_pow (pe_op op_mod (pe_op op_pow (pe_dget hu (pv 0) pe_str (fun _ _ => rfl)) pe_int) pe_int) pe_int) pe_int) pe_int) (pv 1))))), ?_⟩
    have gx : ∀ {H : Hp} {x y : Int}, H d = some (.dK (dk x y)) → DGet H d (.str "digits") (some (.int x)) := fun {H x y} e => by
      have := DGet.k (k := Sum.inr "digits") e
      rw [dk_digits] at this
      exact this
    have gy : ∀ {H : Hp} {x y : Int}, H d = some (.dK (dk x y)) → DGet H d (.str "mixed") (some (.int y)) := fun {H x y} e => by
      have := DGet.k (k := Sum.inr "mixed") e
      rw [dk_mixed] at this
      exact this
    have px : ∀ {H : Hp} {x y z : Int}, H d = some (.dK (dk x y)) → DPut H d (.str "digits") (.int z) (upd H d (.dK (dk z y))) := fun {H x y z} e => by
      have := DPut.k (k := Sum.inr "digits") (v := .int z) e (by show 2 < sizeLine; decide)
      rw [dk_put_digits] at this
      exact this
    have py : ∀ {H : Hp} {x y z : Int}, H d = some (.dK (dk x y)) → DPut H d (.str "mixed") (.int z) (upd H d (.dK (dk x z))) := fun {H x y z} e => by
      have := DPut.k (k := Sum.inr "mixed") (v := .int z) e (by show 2 < sizeLine; decide)
      rw [dk_put_mixed] at this
      exact this
    refine ⟨_, rfl, d, _, rfl, gx hd, _, rfl, _, _, rfl, rfl, _, rfl, ?_⟩
    refine ite2 (fun c => ?_) (fun c => ?_)
    · refine ⟨_, rfl, d, _, rfl, gx hd, _, rfl, _, _, rfl, rfl, n0, ?_⟩
      refine ⟨_, rfl, d, _, rfl, gx hd, _, rfl, _, _, rfl, rfl, ⟨n0, n1⟩, _, rfl, d, _, rfl, px hd, ?_⟩
      exact ⟨_, rfl, k _ _ (Int.emod_nonneg _ (by omega)) (Int.emod_lt_of_pos _ n0) ⟨_, y, upd_same, Int.ediv_nonneg x0 (by omega), y0, y1⟩ But.upd⟩
    · have m0 := Int.emod_nonneg (y * 40014 + 1013) (b := 2147483563) (by decide)
      have m1 := Int.emod_lt_of_pos (y * 40014 + 1013) (b := 2147483563) (by decide)
      refine ⟨_, rfl, d, _, rfl, gy hd, _, _, rfl, rfl, .inr ⟨by decide, by decide⟩, _, _, rfl, rfl, _, _, rfl, rfl, (by show (0 : Int) < 2147483563; decide), _, rfl, d, _, rfl, py hd, ?_⟩
      refine ⟨_, rfl, d, _, rfl, gy upd_same, _, _, rfl, rfl, ⟨by decide, by decide, by omega⟩, _, _, rfl, rfl, (by show (0 : Int) < 2147483399; decide), ?_⟩
      have q0 := Int.emod_nonneg (((y * 40014 + 1013) % 2147483563) ^ (2 : Int).toNat) (b := 2147483399) (by decide)
      have q1 := Int.emod_lt_of_pos (((y * 40014 + 1013) % 2147483563) ^ (2 : Int).toNat) (b := 2147483399) (by decide)
      refine ⟨_, _, rfl, rfl, ⟨by decide, by decide, by omega⟩, _, _, rfl, rfl, (by show (0 : Int) < 998244353; decide), _, _, rfl, rfl, ⟨by decide, by decide⟩, _, rfl, _, _, rfl, rfl, n0, ?_⟩
      exact k _ _ (Int.emod_nonneg _ (by omega)) (Int.emod_lt_of_pos _ n0) ⟨x, _, upd_same, x0, m0, by omega⟩ But.upd
/-! ### one of some things -/
def spChoose (K : PySem.W.Frag) : Sp := fun vs H Q _ => ∃ (d t : Addr) (xs : List V), vs = [.ref d, .ref t] ∧ DeckAt H d ∧ SqL K H t xs ∧ xs ≠ [] ∧ xs.length < 1000000 ∧ ∀ (v : V) (H' : Hp), v ∈ xs → DeckAt H' d → But d H H' → Q v H'
theorem scChoose : FnScope ["tape", "items"] ["tape", "items"] (defScope sChoose) := ⟨rfl, rfl, rfl, by decide +kernel, rfl, by decide +kernel, by decide +kernel⟩
theorem ok_choose {f fD : Addr} {fd fdD : FuncData} (F : Fun K "_law_one_of" "_law_one_of" sChoose f fd) (T : TxtD mg) (FD : Fun K "_law_pick" "_law_pick" sDraw fD fdD) (bD : Binds K fdD ["tape", "size"] []) (mD : mg "_law_pick" = some (.ref fD)) :
    FnOk P w K mg base CX0 2 f fd ["tape", "items"] (spChoose K) := by
  have GD : FnOk P w K mg base CX0 1 fD fdD ["tape", "size"] spDraw := ok_draw FD
  refine F.ok scChoose (fun vs H Q E h => ?_) (fun cdv A outer s H vs Q E hr h => ?_)
  · obtain ⟨d, t, xs, rfl, _⟩ := h
    rfl
  · obtain ⟨d, t, xs, rfl, D, hS, h0, h1, k⟩ := h
    refine ⟨_, pss_one (ps_ret (pe_ix ix_list (pv 1) (pe_call GD hr rfl mD FD.kp bD .nil pass0 (pa_cons (pv 0) (pa_cons (pe_callB call_len_seq (by rfl) T.len PySem.boot_len (pa_cons (pv 1) pa_nil)) pa_nil))) (fun _ _ => rfl))), ?_⟩
    have hl : 0 < xs.length := List.length_pos_iff.mpr h0
    refine ⟨_, rfl, _, rfl, _, rfl, t, _, rfl, .inl hS, d, _, rfl, D, by omega, by omega, fun r H' r0 r1 D' B => ?_⟩
    obtain ⟨n, rfl⟩ : ∃ n : Nat, r = (n : Int) := ⟨r.toNat, by omega⟩
    have hn : n < xs.length := by omega
    have hat : xs[n]? = some xs[n] := List.getElem?_eq_getElem hn
    exact ⟨t, _, _, _, rfl, rfl, B.seq D hS, atI_nat hat, k _ _ (List.getElem_mem hn) D' B⟩
end
/-! ### the walk through the ids meets a free one -/
theorem len_le_of_sub : ∀ (xs ys : List Int), xs.Nodup → (∀ x ∈ xs, x ∈ ys) → xs.length ≤ ys.length
  | [], _, _, _ => Nat.zero_le _
  | x :: r, ys, hn, hs => by
    have hx : x ∈ ys := hs x List.mem_cons_self
    have hn' := List.nodup_cons.mp hn
    have ih := len_le_of_sub r (ys.erase x) hn'.2 fun z hz => (List.mem_erase_of_ne (fun e => hn'.1 (by rw [← e]; exact hz))).mpr (hs z (List.mem_cons_of_mem _ hz))
    have hl := List.length_erase_of_mem hx
    have : 0 < ys.length := List.length_pos_of_mem hx
    show r.length + 1 ≤ ys.length
    omega
def nx (z : Int) (i : Nat) : Int := (z - 1 + (i : Int)) % 1000000 + 1
theorem nx_zero {z : Int} (h0 : 1 ≤ z) (h1 : z ≤ 1000000) : nx z 0 = z := by unfold nx; omega
theorem nx_succ {z : Int} {i : Nat} : nx z i % 1000000 + 1 = nx z (i + 1) := by unfold nx; omega
theorem nx_lo (z : Int) (i : Nat) : 1 ≤ nx z i := by unfold nx; omega
theorem nx_hi (z : Int) (i : Nat) : nx z i ≤ 1000000 := by unfold nx; omega
theorem nx_inj {z : Int} {i j : Nat} (hi : i < 1000) (hj : j < 1000) (h : nx z i = nx z j) : i = j := by unfold nx at h; omega
theorem nx_few {z : Int} {js : List Int} {t : Nat} (ht : t ≤ 500) (h : ∀ i, i < t → nx z i ∈ js) : t ≤ js.length := by
  have a : ((List.range t).map (nx z)).Nodup := by
    refine List.pairwise_map.mpr ?_
    refine List.Pairwise.imp_of_mem ?_ (List.pairwise_lt_range (n := t))
    intro i j hi hj l e
    have q := nx_inj (by have := List.mem_range.mp hi; omega) (by have := List.mem_range.mp hj; omega) e
    omega
  have b := len_le_of_sub _ js a (fun x hx => by
    obtain ⟨i, hi, rfl⟩ := List.mem_map.mp hx
    exact h i (List.mem_range.mp hi))
  rw [List.length_map, List.length_range] at b
  exact b
theorem eqV_int (i j : Int) : eqV (.int i) (.int j) = decide (i = j) := by
  first
    | rfl
    | simp [eqV]
theorem inV_int (z : Int) (js : List Int) : inV (.int z) (js.map V.int) = decide (z ∈ js) := by
  unfold inV
  rw [List.any_map]
  induction js with
  | nil => rfl
  | cons a r ih =>
    rw [List.any_cons, ih]
    show (eqV (.int a) (.int z) || decide (z ∈ r)) = decide (z ∈ a :: r)
    rw [eqV_int]
    by_cases e : a = z
    · subst e
      simp
    · have e' : ¬ z = a := fun q => e q.symm
      simp [e, e']
theorem all_flat (js : List Int) : (js.map V.int).all flatV = true := by
  induction js with
  | nil => rfl
  | cons a r ih => exact ih
/-! ### sets of ints -/
/-- S is the set of the ints ns, n their number -/
def SetIs (ns : List Int) (S : Int → Bool) (n : Nat) : Prop := (∀ k, S k = decide (k ∈ ns)) ∧ ∃ L : List Int, L.Nodup ∧ L.length = n ∧ ∀ k, k ∈ L ↔ k ∈ ns
theorem shorter : ∀ ns : List Int, ¬ ns.Nodup → ∃ ms : List Int, ms.length < ns.length ∧ ∀ k ∈ ns, k ∈ ms
  | [], h => absurd List.nodup_nil h
  | a :: r, h => by
    by_cases ha : a ∈ r
    · exact ⟨r, Nat.lt_succ_self _, fun k hk => by
        rcases List.mem_cons.mp hk with e | e
        · rw [e]; exact ha
        · exact e⟩
    · have hr : ¬ r.Nodup := fun q => h (List.nodup_cons.mpr ⟨ha, q⟩)
      obtain ⟨ms, h1, h2⟩ := shorter r hr
      exact ⟨a :: ms, Nat.succ_lt_succ h1, fun k hk => by
        rcases List.mem_cons.mp hk with e | e
        · rw [e]; exact List.mem_cons_self
        · exact List.mem_cons_of_mem _ (h2 k e)⟩
theorem SetIs.count {ns : List Int} {S : Int → Bool} {n : Nat} (h : SetIs ns S n) : ((n : Int) = (ns.length : Int)) ↔ ns.Nodup := by
  obtain ⟨_, L, h1, h2, h3⟩ := h
  have a := len_le_of_sub L ns h1 fun k hk => (h3 k).mp hk
  constructor
  · intro e
    by_cases hN : ns.Nodup
    · exact hN
    · obtain ⟨ms, m1, m2⟩ := shorter ns hN
      have b := len_le_of_sub L ms h1 fun k hk => m2 k ((h3 k).mp hk)
      omega
  · intro hN
    have b := len_le_of_sub ns L hN fun k hk => (h3 k).mpr hk
    omega
theorem firstMet_nodup (val : Nat → Int) : ∀ i, (firstMet val i).Nodup
  | 0 => by rw [firstMet_zero]; exact List.nodup_nil
  | i + 1 => by
    rw [firstMet_succ]
    unfold step_dedup
    have ih := firstMet_nodup val i
    split
    · exact ih
    · rename_i h
      refine List.nodup_append.mpr ⟨ih, by simp, ?_⟩
      intro a ha b hb e
      have : b = val i := by simpa using hb
      refine h (List.any_eq_true.mpr ⟨a, ha, ?_⟩)
      rw [e, this]
      simp
theorem getD_range (ns : List Int) : (List.range ns.length).map (fun i => ns.getD i 0) = ns := by
  apply List.ext_getElem
  · simp
  · intro i h1 h2
    simp [List.getD, h2]
theorem firstMet_mem (ns : List Int) (k : Int) : k ∈ firstMet (fun i => ns.getD i 0) ns.length ↔ k ∈ ns := by
  have h := firstMet_any (fun i => ns.getD i 0) ns.length k
  rw [getD_range] at h
  have e : ∀ l : List Int, (l.any (· == k) = true) ↔ k ∈ l := fun l => by
    rw [List.any_eq_true]
    constructor
    · rintro ⟨x, hx, q⟩
      have : x = k := by simpa using q
      rw [← this]; exact hx
    · intro hk
      exact ⟨k, hk, by simp⟩
  rw [← e, ← e, h]
def rSetI (K : PySem.W.Frag) : List V → Hp → VK → Prop := fun xs H Q => ∃ (p : Addr) (ns : List Int), xs = [.ref p] ∧ (SqL K H p (ns.map V.int) ∨ SqT K H p (ns.map V.int)) ∧ ns.length ≤ 4000 ∧
  ∀ (q : Addr) (S : Int → Bool) (n : Nat), H q = none → SetIs ns S n → n ≤ ns.length → Q (.ref q) (upd H q (.set S n))
section
variable {X : Cx}
theorem cr_setI (hc : X.calm = true) : CallR X (.type "set") (rSetI X.K) := by
  intro pins s σ H xs us Q I r h
  obtain ⟨p, ns, rfl, hq, hlen, k⟩ := h
  rw [Vals.ref1 r]
  have hs : scanBound = 4096 := rfl
  rcases hq with hq | hq
  · obtain ⟨its, rv, pl, hz⟩ := I.list hq
    have hl := rv.length
    rw [List.length_map] at hl
    refine call_set_list (I.ok.hd hc) pl.isList (ns := ns) (Vals.ints rv) (by rw [List.size_toArray, hs]; omega) fun h' tk R kk => ?_
    have esz : its.toArray.size = ns.length := by rw [List.size_toArray]; omega
    rw [esz] at R
    have hn := firstMet_mem ns
    have hset : SetIs ns (fun k' => (firstMet (fun i => ns.getD i 0) ns.length).any (· == k')) (firstMet (fun i => ns.getD i 0) ns.length).length := by
      refine ⟨fun k => ?_, _, firstMet_nodup _ _, rfl, hn⟩
      rw [Bool.eq_iff_iff, decide_eq_true_iff, ← hn k, List.any_eq_true]
      constructor
      · rintro ⟨x, hx, q⟩
        have : x = k := by simpa using q
        rw [← this]; exact hx
      · intro hk
        exact ⟨k, hk, by simp⟩
    have I' := I.laid (a := s.heap.objs.size) (o := .set _ _) (h' := h') (t' := tk) (fun b u e => kk b u (Heap.lt_size e) e) (Nat.le_refl _) R
    exact ⟨.ref _, _, I', rfl, k _ _ _ (I.hok.fresh (Nat.le_refl _)) hset (firstMet_length_le _ _)⟩
  · obtain ⟨its, rv, pl, hz⟩ := I.tuple hq
    have hl := rv.length
    rw [List.length_map] at hl
    refine call_set_tupI ns (I.ok.hd hc) pl (Vals.ints rv) (by rw [hs]; omega) fun h' tk c R hle kk => ?_
    have hset : SetIs ns (fun j => decide (j ∈ ns)) c := by
      obtain ⟨o, es, ep, t, h1, h2, h3, h4, h5, h6, h7, h8, h9, _⟩ := id R
      refine ⟨fun k => rfl, es.toList.map keyOf, h5, ?_, fun k => ?_⟩
      · rw [List.length_map, ← h9]; rfl
      · rw [← h6 k, decide_eq_true_iff]
    have I' := I.laid (a := s.heap.objs.size) (o := .set _ _) (h' := h') (t' := tk) (fun b u e => kk b u e) (Nat.le_refl _) (SetR.setOf R)
    exact ⟨.ref _, _, I', rfl, k _ _ _ (I.hok.fresh (Nat.le_refl _)) hset hle⟩
def rInSet (neg : Bool) : R2 := fun x y H Q => ∃ (k : Int) (a : Addr) (S : Int → Bool) (n : Nat), x = .int k ∧ y = .ref a ∧ H a = some (.set S n) ∧ Q (.bl (if neg then !S k else S k)) H
theorem op_inSet : OpR X (compareOp .In) (rInSet false) := by
  intro pins s σ H x y v u Q I rx ry h
  obtain ⟨k, a, S, n, rfl, rfl, ha, q⟩ := h
  cases ry
  obtain ⟨t, rfl⟩ := rx
  exact wpAny_inSet_of (knd := PySem.intKind X.prog X.w) (k := k) (by first | rfl | simp [PySem.intKind, Value.isInt]) rfl (I.hok a _ ha) ⟨.bl (S k), H, I.tok _, rfl, q⟩
theorem op_notInSet : OpR X (compareOp .NotIn) (rInSet true) := by
  intro pins s σ H x y v u Q I rx ry h
  obtain ⟨k, a, S, n, rfl, rfl, ha, q⟩ := h
  cases ry
  obtain ⟨t, rfl⟩ := rx
  exact wpAny_notInSet_of (knd := PySem.intKind X.prog X.w) (k := k) (by first | rfl | simp [PySem.intKind, Value.isInt]) rfl (I.hok a _ ha) ⟨.bl (!S k), H, I.tok _, rfl, q⟩
theorem call_lenSet : CallR X (.builtin "len") (fun xs H Q => ∃ a S n, xs = [.ref a] ∧ H a = some (.set S n) ∧ Q (.int n) H) := by
  intro pins s σ H xs us Q I r h
  obtain ⟨a, S, n, rfl, ha, q⟩ := h
  rw [Vals.ref1 r]
  obtain ⟨o, es, ep, t, h1, h2, h3, h4, h5, h6, h7, h8⟩ := I.hok a _ ha
  have hs : scanBound = 4096 := rfl
  refine call_len_set h1 h2 h3 h7 (by omega) ?_
  rw [h8]
  exact ⟨.int n, H, (I.tok (s.toks + 1 + 1)), ⟨_, rfl⟩, q⟩
end
/-! ### data in the heap: flat things, lists, tuples, the empty dict -/
mutual
inductive DV (K : PySem.W.Frag) (H : Hp) : V → PyData → Prop
  | non : DV K H .non .none
  | bl (b : Bool) : DV K H (.bl b) (.bool b)
  | int (i : Int) : DV K H (.int i) (.int i)
  | str (x : Str) : DV K H (.str x) (.str x)
  | lst {a : Addr} {xs : List V} {ds : List PyData} : SqL K H a xs → DVs K H xs ds → DV K H (.ref a) (.list ds)
  | tup {a : Addr} {xs : List V} {ds : List PyData} : SqT K H a xs → DVs K H xs ds → DV K H (.ref a) (.tuple ds)
  | dk0 {a : Addr} : H a = some (.dK []) → DV K H (.ref a) (.dict [])
inductive DVs (K : PySem.W.Frag) (H : Hp) : List V → List PyData → Prop
  | nil : DVs K H [] []
  | cons {v : V} {vs : List V} {d : PyData} {ds : List PyData} : DV K H v d → DVs K H vs ds → DVs K H (v :: vs) (d :: ds)
end
section
variable {K : PySem.W.Frag} {H H' : Hp}
theorem DVs.length {vs : List V} {ds : List PyData} (h : DVs K H vs ds) : vs.length = ds.length := by
  induction vs generalizing ds with
  | nil => cases h; rfl
  | cons v r ih => cases h with | cons _ t => exact congrArg Nat.succ (ih t)
theorem DVs.at {vs : List V} {ds : List PyData} (h : DVs K H vs ds) : ∀ {i : Nat} {v : V}, vs[i]? = some v → ∃ d, ds[i]? = some d ∧ DV K H v d := by
  induction vs generalizing ds with
  | nil => intro i v e; simp at e
  | cons v r ih =>
    cases h with
    | cons p t =>
      intro i u e
      cases i with
      | zero => simp at e; subst e; exact ⟨_, rfl, p⟩
      | succ i => simp at e; obtain ⟨d, h1, h2⟩ := ih t e; exact ⟨d, by simpa using h1, h2⟩
theorem Same.sq {a : Addr} {xs : List V} (e : Same H H') (h : SqL K H a xs) : SqL K H' a xs := e.seq h
theorem Same.tq {a : Addr} {xs : List V} (e : Same H H') (h : SqT K H a xs) : SqT K H' a xs := by
  rcases h with (h | ⟨o, h⟩) | h
  · exact .inl (.inl (e _ _ h))
  · exact .inl (.inr ⟨o, e _ _ h⟩)
  · exact .inr h
mutual
theorem DV.same (e : Same H H') : ∀ {d : PyData} {v : V}, DV K H v d → DV K H' v d
  | _, _, .non => .non
  | _, _, .bl b => .bl b
  | _, _, .int i => .int i
  | _, _, .str x => .str x
  | _, _, .lst h t => .lst (Same.sq e h) (DVs.same e t)
  | _, _, .tup h t => .tup (Same.tq e h) (DVs.same e t)
  | _, _, .dk0 h => .dk0 (e _ _ h)
theorem DVs.same (e : Same H H') : ∀ {ds : List PyData} {vs : List V}, DVs K H vs ds → DVs K H' vs ds
  | _, _, .nil => .nil
  | _, _, .cons p t => .cons (DV.same e p) (DVs.same e t)
end
/-- a value's built-in type by its name -/
def TyD (K : PySem.W.Frag) (H : Hp) (x : V) : Prop := ∃ nm : String, TyX K H x (.type nm) ∧ ((nm = "NoneType" ∧ x = .non) ∨ (nm = "bool" ∧ ∃ b, x = .bl b) ∨ (nm = "int" ∧ ∃ i, x = .int i) ∨ (nm = "str" ∧ ∃ z, x = .str z) ∨
  (nm = "list" ∧ ∃ a, x = .ref a) ∨ (nm = "tuple" ∧ ∃ a, x = .ref a) ∨ (nm = "dict" ∧ ∃ a, x = .ref a))
theorem tyL {a : Addr} {xs : List V} (h : SqL K H a xs) : TyX K H (.ref a) (.type "list") := by
  rcases h with (h | ⟨o, h⟩) | ⟨o, _, _, h, c, _⟩
  · exact .base (.lst h)
  · exact .base (.frz h)
  · exact .kList h c
theorem tyT {a : Addr} {xs : List V} (h : SqT K H a xs) : TyX K H (.ref a) (.type "tuple") := by
  rcases h with (h | ⟨o, h⟩) | ⟨o, _, _, h, c, _⟩
  · exact .base (.tup h)
  · exact .fTuple h
  · exact .kTuple h c
theorem DV.ty {v : V} {d : PyData} (h : DV K H v d) : TyD K H v := by
  cases h with
  | non => exact ⟨_, .base .non, .inl ⟨rfl, rfl⟩⟩
  | bl b => exact ⟨_, .base (.bl b), .inr (.inl ⟨rfl, b, rfl⟩)⟩
  | int i => exact ⟨_, .base (.int i), .inr (.inr (.inl ⟨rfl, i, rfl⟩))⟩
  | str x => exact ⟨_, .base (.str x), .inr (.inr (.inr (.inl ⟨rfl, x, rfl⟩)))⟩
  | lst h t => exact ⟨_, tyL h, .inr (.inr (.inr (.inr (.inl ⟨rfl, _, rfl⟩))))⟩
  | tup h t => exact ⟨_, tyT h, .inr (.inr (.inr (.inr (.inr (.inl ⟨rfl, _, rfl⟩)))))⟩
  | dk0 h => exact ⟨_, .base (.dK h), .inr (.inr (.inr (.inr (.inr (.inr ⟨rfl, _, rfl⟩)))))⟩
end
def wholeV : V → Bool
  | .int _ => true
  | _ => false
def wholeD : PyData → Bool
  | .int _ => true
  | _ => false
theorem DV.whole {K : PySem.W.Frag} {H : Hp} {v : V} {d : PyData} (h : DV K H v d) : wholeV v = wholeD d := by cases h <;> rfl
structure TxtV (mg : Str → Option Value) : Prop where
  len : mg "len" = none
  isi : mg "isinstance" = none
  int : mg "int" = none
  bool : mg "bool" = none
  tuple : mg "tuple" = none
  set : mg "set" = none
  all : mg "all" = none
  list : mg "list" = none
def isTup : PyData → Bool
  | .tuple _ => true
  | _ => false
def isLst : PyData → Bool
  | .list _ => true
  | _ => false
theorem kb1 : kitB "NoneType" "tuple" = some false := by decide +kernel
theorem kb2 : kitB "NoneType" "list" = some false := by decide +kernel
theorem kb3 : kitB "bool" "tuple" = some false := by decide +kernel
theorem kb4 : kitB "bool" "list" = some false := by decide +kernel
theorem kb5 : kitB "int" "tuple" = some false := by decide +kernel
theorem kb6 : kitB "int" "list" = some false := by decide +kernel
theorem kb7 : kitB "str" "tuple" = some false := by decide +kernel
theorem kb8 : kitB "str" "list" = some false := by decide +kernel
theorem kb9 : kitB "list" "tuple" = some false := by decide +kernel
theorem kb10 : kitB "list" "list" = some true := by decide +kernel
theorem kb11 : kitB "tuple" "tuple" = some true := by decide +kernel
theorem kb12 : kitB "tuple" "list" = some false := by decide +kernel
theorem kb13 : kitB "dict" "tuple" = some false := by decide +kernel
theorem kb14 : kitB "dict" "list" = some false := by decide +kernel
theorem DV.kit {K : PySem.W.Frag} {H : Hp} {v : V} {d : PyData} (h : DV K H v d) : ∃ nm : String, TyX K H v (.type nm) ∧ PySem.W.kitOne K (.type nm) (.type "tuple") = some (isTup d) ∧ PySem.W.kitOne K (.type nm) (.type "list") = some (isLst d) := by
  cases h with
  | non => exact ⟨_, .base .non, kit_ty kb1, kit_ty kb2⟩
  | bl b => exact ⟨_, .base (.bl b), kit_ty kb3, kit_ty kb4⟩
  | int i => exact ⟨_, .base (.int i), kit_ty kb5, kit_ty kb6⟩
  | str x => exact ⟨_, .base (.str x), kit_ty kb7, kit_ty kb8⟩
  | lst h t => exact ⟨_, tyL h, kit_ty kb9, kit_ty kb10⟩
  | tup h t => exact ⟨_, tyT h, kit_ty kb11, kit_ty kb12⟩
  | dk0 h => exact ⟨_, .base (.dK h), kit_ty kb13, kit_ty kb14⟩
/-! ### the plain functions -/
def intOf : PyData → Int
  | .int i => i
  | _ => 0
theorem whole_all {K : PySem.W.Frag} {H : Hp} : ∀ {ds : List PyData} {vs : List V}, DVs K H vs ds → ds.all wholeD = true → vs = (ds.map intOf).map V.int
  | _, _, .nil, _ => rfl
  | d :: ds, v :: vs, .cons p t, h => by
    rw [List.all_cons, Bool.and_eq_true] at h
    rw [List.map_cons, List.map_cons, ← whole_all t h.2]
    cases p <;> first | rfl | (exact absurd h.1 (by intro q; cases q))
theorem DVs.wholes {K : PySem.W.Frag} {H : Hp} {ds : List PyData} {vs : List V} (h : DVs K H vs ds) {i : Nat} {v : V} (e : vs[i]? = some v) : ∃ d, ds[i]? = some d ∧ wholeV v = wholeD d ∧ TyD K H v := by
  obtain ⟨d, h1, h2⟩ := h.at e
  exact ⟨d, h1, h2.whole, h2.ty⟩
theorem take_snoc {α : Type} {l : List α} {i : Nat} {x : α} (h : l[i]? = some x) : l.take (i + 1) = l.take i ++ [x] := by
  rw [List.take_succ, h]; rfl
theorem lt_of_some {α : Type} {l : List α} {i : Nat} {x : α} (h : l[i]? = some x) : i < l.length := (List.getElem?_eq_some_iff.mp h).1
theorem cut_to (xs : List V) (k : Nat) : cutV xs none (some (k : Int)) = xs.take k := by
  unfold cutV
  rw [HT.sIx_none, HT.sIx_nat, List.drop_zero, Nat.sub_zero]
  rcases Nat.le_total k xs.length with h | h
  · rw [Nat.min_eq_left h]
  · rw [Nat.min_eq_right h, List.take_length, List.take_of_length_le h]
theorem cut_from (xs : List V) (k : Nat) : cutV xs (some (k : Int)) none = xs.drop k := by
  unfold cutV
  rw [HT.sIx_none, HT.sIx_nat]
  rcases Nat.le_total k xs.length with h | h
  · rw [Nat.min_eq_left h, ← List.length_drop, List.take_length]
  · rw [Nat.min_eq_right h, Nat.sub_self, List.take_zero, List.drop_of_length_le h]
theorem eqvAll_ints : ∀ xs ys : List Int, PyData.eqvAll (xs.map .int) (ys.map .int) = decide (xs = ys)
  | [], [] => by simp [PyData.eqvAll]
  | [], _ :: _ => by simp [PyData.eqvAll]
  | _ :: _, [] => by simp [PyData.eqvAll]
  | x :: xs, y :: ys => by
    rw [List.map_cons, List.map_cons, PyData.eqvAll, eqvAll_ints xs ys, PyData.eqv]
    by_cases h : x = y
    · subst h
      simp
    · simp [h]
theorem canLay_ints : ∀ xs : List Int, PyData.canLayAll0 (xs.map .int) = true
  | [] => by rw [List.map_nil, PyData.canLayAll0]
  | x :: xs => by rw [List.map_cons, PyData.canLayAll0, canLay_ints xs, PyData.canLay0]; rfl
theorem depthAll_ints : ∀ xs : List Int, PyData.depthAll (xs.map .int) ≤ 1
  | [] => by rw [List.map_nil, PyData.depthAll]; omega
  | x :: xs => by
    have := depthAll_ints xs
    rw [List.map_cons, PyData.depthAll, PyData.depth]
    omega
theorem shaped_ints (xs : List Int) : SeqAt.shaped (.list (xs.map .int)) = true := by
  unfold SeqAt.shaped
  rw [Bool.and_eq_true]
  refine ⟨?_, decide_eq_true ?_⟩
  · rw [PyData.canLay0]; exact canLay_ints xs
  · have := depthAll_ints xs
    rw [PyData.depth]
    omega
theorem DpAll.ints {K : PySem.W.Frag} {H : Hp} : ∀ xs : List Int, DpAll K H (xs.map V.int) (xs.map .int)
  | [] => .nil
  | x :: xs => .cons (.int x) (DpAll.ints xs)
def rEqL (K : PySem.W.Frag) : R2 := fun x y H Q => ∃ (p q : Addr) (xs ys : List Int), x = .ref p ∧ y = .ref q ∧ SqL K H p (xs.map V.int) ∧ SqL K H q (ys.map V.int) ∧ Q (.bl (decide (xs = ys))) H
def rNeL (K : PySem.W.Frag) : R2 := fun x y H Q => ∃ (p q : Addr) (xs ys : List Int), x = .ref p ∧ y = .ref q ∧ SqL K H p (xs.map V.int) ∧ SqL K H q (ys.map V.int) ∧ Q (.bl (!decide (xs = ys))) H
section
variable {X : Cx}
theorem op_eqL (hu : X.A.units + 64 < cLine) : OpR X (compareOp .Eq) (rEqL X.K) := by
  intro pins s σ H x y v u Q I rx ry h
  obtain ⟨p, q, xs, ys, rfl, rfl, h1, h2, k⟩ := h
  refine op_eqD hu pins s σ H _ _ v u Q I rx ry ⟨_, _, .lst h1 (DpAll.ints xs), .lst h2 (DpAll.ints ys), shaped_ints xs, shaped_ints ys, ?_⟩
  rw [PyData.eqv, eqvAll_ints]
  exact k
theorem op_neL (hu : X.A.units + 64 < cLine) : OpR X (compareOp .NotEq) (rNeL X.K) := by
  intro pins s σ H x y v u Q I rx ry h
  obtain ⟨p, q, xs, ys, rfl, rfl, h1, h2, k⟩ := h
  refine op_neD hu pins s σ H _ _ v u Q I rx ry ⟨_, _, .lst h1 (DpAll.ints xs), .lst h2 (DpAll.ints ys), shaped_ints xs, shaped_ints ys, ?_⟩
  rw [PyData.eqv, eqvAll_ints]
  exact k
end
theorem hu64 {A : Around} {k : Nat} (hr : Room k A) : A.units + 64 < cLine := by have := hr.un; omega
/-- behind Hd: all as it was but the deck at d, and these objects stand -/
def Fs (d : Addr) (Hd : Hp) (fs : List (Addr × HO)) (H' : Hp) : Prop := But d Hd H' ∧ DeckAt H' d ∧ ∀ p ∈ fs, p.1 ≠ d ∧ H' p.1 = some p.2
section
variable {d p p0 p1 p2 p3 p4 p5 : Addr} {Hd H1 H2 : Hp} {fs : List (Addr × HO)} {o o0 o1 o2 o3 o4 o5 : HO}
theorem Fs.start (D : DeckAt Hd d) : Fs d Hd [] Hd := ⟨But.refl _ _, D, fun _ h => by cases h⟩
theorem Fs.step (F : Fs d Hd fs H1) (D : DeckAt H2 d) (B : But d H1 H2) : Fs d Hd fs H2 := ⟨F.1.trans B, D, fun q hq => ⟨(F.2.2 q hq).1, B _ _ (F.2.2 q hq).1 (F.2.2 q hq).2⟩⟩
theorem Fs.same (F : Fs d Hd fs H1) (s : Same H1 H2) : Fs d Hd fs H2 := F.step (F.2.1.same s) (But.of s)
theorem Fs.add (F : Fs d Hd fs H1) (h : H1 p = some o) (n : ∀ x y, o ≠ .dK (dk x y)) : Fs d Hd ((p, o) :: fs) H1 := ⟨F.1, F.2.1, fun q hq => by
  rcases List.mem_cons.mp hq with e | e
  · subst e
    obtain ⟨x, y, hd, _⟩ := F.2.1
    exact ⟨ne_of h hd (n x y), h⟩
  · exact F.2.2 q e⟩
theorem Fs.new (F : Fs d Hd fs H1) (h : H1 p = none) (n : ∀ x y, o ≠ .dK (dk x y)) : Fs d Hd ((p, o) :: fs) (upd H1 p o) := (F.same (Same.new h)).add upd_same n
theorem Fs.skip (F : Fs d Hd fs H1) (h : H1 p = none) : Fs d Hd fs (upd H1 p o) := F.same (Same.new h)
theorem Fs.tail (F : Fs d Hd ((p, o) :: fs) H1) : Fs d Hd fs H1 := ⟨F.1, F.2.1, fun q hq => F.2.2 q (List.mem_cons_of_mem _ hq)⟩
theorem Fs.deck (F : Fs d Hd fs H1) : DeckAt H1 d := F.2.1
theorem Fs.g0 (F : Fs d Hd ((p0, o0) :: fs) H1) : H1 p0 = some o0 := (F.2.2 _ List.mem_cons_self).2
theorem Fs.g1 (F : Fs d Hd ((p0, o0) :: (p1, o1) :: fs) H1) : H1 p1 = some o1 := F.tail.g0
theorem Fs.g2 (F : Fs d Hd ((p0, o0) :: (p1, o1) :: (p2, o2) :: fs) H1) : H1 p2 = some o2 := F.tail.g1
theorem Fs.g3 (F : Fs d Hd ((p0, o0) :: (p1, o1) :: (p2, o2) :: (p3, o3) :: fs) H1) : H1 p3 = some o3 := F.tail.g2
theorem Fs.g4 (F : Fs d Hd ((p0, o0) :: (p1, o1) :: (p2, o2) :: (p3, o3) :: (p4, o4) :: fs) H1) : H1 p4 = some o4 := F.tail.g3
/-- what stood ahead of the deck stands -/
theorem Fs.old {H : Hp} (F : Fs d Hd fs H1) (hd : H d = none) (s : Same H Hd) : Same H H1 := fun b u h => F.1 b u (ne_of_none h hd) (s b u h)
end
theorem nl {xs : List V} : ∀ x y, HO.lst xs ≠ .dK (dk x y) := fun _ _ h => by cases h
theorem nt {xs : List V} : ∀ x y, HO.tup xs ≠ .dK (dk x y) := fun _ _ h => by cases h
theorem cut_mid (js : List Int) {f t : Nat} (h : f < js.length) : cutV (js.map V.int) (some (f : Int)) (some ((f : Int) + 1 + (t : Int))) = ((js.drop f).take (t + 1)).map V.int := by
  unfold cutV
  have e : (f : Int) + 1 + (t : Int) = ((f + 1 + t : Nat) : Int) := by omega
  rw [e, HT.sIx_nat, HT.sIx_nat, List.length_map, Nat.min_eq_left (by omega : f ≤ js.length), List.map_take, List.map_drop]
  rcases Nat.le_total (f + 1 + t) js.length with q | q
  · rw [Nat.min_eq_left q]
    congr 1
    omega
  · rw [Nat.min_eq_right q, List.take_of_length_le, List.take_of_length_le]
    · rw [List.length_drop, List.length_map]; omega
    · rw [List.length_drop, List.length_map]; omega
/-! ### lists hung in a dict -/
def HungAt (G : Hp) (n : Nat) (H : Hp) (h : Addr) (f : Int → List Int) : Prop := ∃ kvs : List (Key × V), H h = some (.dK kvs) ∧ kvs.length ≤ n ∧
  (∀ a, (valV kvs (.inl a : Key) = none ∧ f a = []) ∨ ∃ l, valV kvs (.inl a : Key) = some (.ref l) ∧ H l = some (.lst ((f a).map V.int)) ∧ G l = none) ∧
  ∀ a b l, valV kvs (.inl a : Key) = some (.ref l) → valV kvs (.inl b : Key) = some (.ref l) → a = b
def pushF (f : Int → List Int) (a x : Int) : Int → List Int := fun b => if b = a then f a ++ [x] else f b
theorem HungAt.nil {G H : Hp} {h : Addr} (e : H h = some (.dK [])) : HungAt G 0 H h fun _ => [] :=
  ⟨[], e, Nat.le_refl _, fun a => .inl ⟨rfl, rfl⟩, fun a b l z => by cases z⟩
theorem HungAt.same {G H H' : Hp} {n : Nat} {h : Addr} {f : Int → List Int} (s : Same H H') (g : HungAt G n H h f) : HungAt G n H' h f := by
  obtain ⟨kvs, h1, hn, h2, h3⟩ := g
  refine ⟨kvs, s _ _ h1, hn, fun a => ?_, h3⟩
  rcases h2 a with q | ⟨l, q1, q2, q3⟩
  · exact .inl q
  · exact .inr ⟨l, q1, s _ _ q2, q3⟩
/-- d.setdefault(a, []).append(x), with the list at z made for it -/
theorem HungAt.push {G H : Hp} {n : Nat} {h z : Addr} {f : Int → List Int} {a x : Int} (g : HungAt G n H h f) (hz : H z = none) (gz : G z = none) (gh : G h = none) (sG : Same G H) :
    ∃ kvs, (upd H z (.lst [])) h = some (.dK kvs) ∧ kvs.length ≤ n ∧
      (∀ v, valV kvs (.inl a : Key) = some v → ∃ l, v = .ref l ∧ (upd H z (.lst [])) l = some (.lst ((f a).map V.int)) ∧ HungAt G (n + 1) (upd (upd H z (.lst [])) l (.lst ((f a).map V.int ++ [.int x]))) h (pushF f a x) ∧ Same G (upd (upd H z (.lst [])) l (.lst ((f a).map V.int ++ [.int x]))) ∧ G l = none) ∧
      (valV kvs (.inl a : Key) = none → (upd (upd H z (.lst [])) h (.dK (putK kvs (.inl a : Key) (.ref z)))) z = some (.lst []) ∧ HungAt G (n + 1) (upd (upd (upd H z (.lst [])) h (.dK (putK kvs (.inl a : Key) (.ref z)))) z (.lst ([] ++ [.int x]))) h (pushF f a x) ∧
        Same G (upd (upd (upd H z (.lst [])) h (.dK (putK kvs (.inl a : Key) (.ref z)))) z (.lst ([] ++ [.int x])))) := by
  obtain ⟨kvs, h1, hn, h2, h3⟩ := g
  have nzh : h ≠ z := ne_of_none h1 hz
  have s1 : Same H (upd H z (.lst [])) := Same.new hz
  have old : ∀ b : Int, valV kvs (.inl b : Key) ≠ some (.ref z) := fun b q => by
    rcases h2 b with w | ⟨l2, w1, w2, _⟩
    · rw [w.1] at q; cases q
    · rw [q] at w1
      cases w1
      rw [hz] at w2; cases w2
  refine ⟨kvs, s1 _ _ h1, hn, fun v hv => ?_, fun hv => ?_⟩
  · rcases h2 a with q | ⟨l, q1, q2, q3⟩
    · rw [q.1] at hv; cases hv
    · rw [hv] at q1
      have hl := s1 _ _ q2
      refine ⟨l, Option.some.inj q1, hl, ⟨kvs, by rw [upd_ne (ne_of (s1 _ _ h1) hl (fun z => by cases z))]; exact s1 _ _ h1, by omega, fun b => ?_, h3⟩, fun b o e => by rw [upd_ne (ne_of_none e q3)]; exact s1 _ _ (sG _ _ e), q3⟩
      rw [q1] at hv
      by_cases e : b = a
      · subst e
        refine .inr ⟨l, hv, ?_, q3⟩
        rw [upd_same]
        unfold pushF
        rw [if_pos rfl, List.map_append]; rfl
      · unfold pushF
        rw [if_neg e]
        rcases h2 b with q | ⟨l2, w1, w2, w3⟩
        · exact .inl q
        · refine .inr ⟨l2, w1, ?_, w3⟩
          have nn : l2 ≠ l := fun z => by
            subst z
            exact e (h3 _ _ _ w1 hv)
          rw [upd_ne nn]
          exact s1 _ _ w2
  · have fa : f a = [] := by
      rcases h2 a with q | ⟨l, q, _⟩
      · exact q.2
      · rw [hv] at q; cases q
    have key : ∀ b : Int, valV (putK kvs (.inl a : Key) (.ref z)) (.inl b : Key) = if b = a then some (.ref z) else valV kvs (.inl b : Key) := fun b => by
      rw [valV_put]
      by_cases e : b = a
      · rw [if_pos e, if_pos (by rw [e])]
      · rw [if_neg e, if_neg (fun q => e (Sum.inl.inj q))]
    refine ⟨by rw [upd_ne nzh.symm, upd_same], ⟨_, by rw [upd_ne nzh, upd_same], Nat.le_trans (length_putK _ _ _) (by omega), fun b => ?_, fun b c l e1 e2 => ?_⟩, fun b o e => by rw [upd_ne (ne_of_none e gz), upd_ne (ne_of_none e gh)]; exact s1 _ _ (sG _ _ e)⟩
    · rw [key]
      unfold pushF
      by_cases e : b = a
      · rw [if_pos e, if_pos e, fa]
        exact .inr ⟨z, rfl, by rw [upd_same]; rfl, gz⟩
      · rw [if_neg e, if_neg e]
        rcases h2 b with q | ⟨l2, q1, q2, q3⟩
        · exact .inl q
        · exact .inr ⟨l2, q1, by rw [upd_ne (ne_of_none q2 hz), upd_ne (ne_of q2 h1 (fun z => by cases z)), upd_ne (ne_of_none q2 hz)]; exact q2, q3⟩
    · rw [key] at e1 e2
      by_cases eb : b = a
      · by_cases ec : c = a
        · rw [eb, ec]
        · rw [if_pos eb] at e1
          rw [if_neg ec, ← e1] at e2
          exact absurd e2 (old c)
      · by_cases ec : c = a
        · rw [if_pos ec] at e2
          rw [if_neg eb, ← e2] at e1
          exact absurd e1 (old b)
        · rw [if_neg eb] at e1
          rw [if_neg ec] at e2
          exact h3 _ _ _ e1 e2
/-! ### pins in the heap -/
def pinK (ps : List (Int × Int)) : List (Key × V) := ps.map fun e => (.inl e.1, .int e.2)
def anOf (ps : List (Int × Int)) (x : Int) : Option Int := (ps.find? fun e => decide (e.1 = x)).map (·.2)
theorem val_pin : ∀ (ps : List (Int × Int)) (x : Int), valV (pinK ps) (.inl x : Key) = (anOf ps x).map V.int
  | [], _ => rfl
  | e :: ps, x => by
    by_cases h : e.1 = x
    · rw [show pinK (e :: ps) = ((.inl e.1 : Key), V.int e.2) :: pinK ps from rfl, valV_pos (by show (.inl e.1 : Key) = .inl x; rw [h])]
      unfold anOf
      rw [List.find?_cons_of_pos (by exact decide_eq_true h)]
      rfl
    · rw [show pinK (e :: ps) = ((.inl e.1 : Key), V.int e.2) :: pinK ps from rfl, valV_neg (fun z : (.inl e.1 : Key) = .inl x => h (Sum.inl.inj z)), val_pin ps x]
      unfold anOf
      rw [List.find?_cons_of_neg (by intro z; exact h (of_decide_eq_true z))]
theorem int_at {js : List Int} {i : Nat} {y : V} (h : (js.map V.int)[i]? = some y) : ∃ x, js[i]? = some x ∧ y = .int x := by
  rw [List.getElem?_map] at h
  cases q : js[i]? with
  | none => rw [q] at h; cases h
  | some u => rw [q] at h; exact ⟨u, rfl, (Option.some.inj h).symm⟩
/-! ### defs that are called where no repr is under way (their context's guards are known to be none) -/
/-- the promise of a def, wherever no guard stands -/
structure FnG (P : Program) (w : World) (K : PySem.W.Frag) (mg : Str → Option Value) (base : Heap) (k : Nat) (f : Addr) (fd : FuncData) (ps : List Str) (sp : Sp) : Prop where
  len : ∀ vs H Q E, sp vs H Q E → vs.length = ps.length
  go : ∀ {A : Around} {outer : List Env} {s : Shared} {H : Hp} {args : Args} {us : List Value} {vs : List V} {Q : VK} {E : XK}, A.guards = some [] → Room k A → Env0 P w K mg base A outer s H →
    BindsTo s fd args (ps.zip us) → Vals vs us → sp vs H Q E → codeAny (model P w) A (.call (.ref f) args) (CR CX0 outer P w H s Q E) s
section
variable {P : Program} {w : World} {K : PySem.W.Frag} {mg : Str → Option Value} {base : Heap}
/-- by its body -/
theorem FnG.mk' {x qual : Str} {st : Stmt} {f : Addr} {fd : FuncData} {N ps : List Str} {k : Nat} {sp : Sp} (F : Fun K x qual st f fd) (S : FnScope N ps (defScope st)) (len : ∀ vs H Q E, sp vs H Q E → vs.length = ps.length)
    (body : ∀ (cdv : Value) (A : Around) (outer : List Env) (s : Shared) (H : Hp) (vs : List V) (Q : VK) (E : XK), (A.deeper (envOfC qual (defScope st) s.heap.objs.size f cdv)).guards = some [] → Room k (A.deeper (envOfC qual (defScope st) s.heap.objs.size f cdv)) → sp vs H Q E →
      ∃ t, PSs (cxOf CX0 P w K mg base N qual (defScope st) f cdv A outer s H E).nox (defBody st) t ∧ t { nx := fun _ H' => Q .non H', rt := Q } (start N vs) H) : FnG P w K mg base (k + 1) f fd ps sp := by
  obtain ⟨oc, od, kV, doc, pm, an, cdv, ct, osl, rfl, lk, hcd⟩ := F.ex
  refine ⟨len, ?_⟩
  intro A outer s H args us vs Q E hg hr en hb rel hsp
  have kept : ∀ b o, base.get? b = some o → s.heap.get? b = some o := fun b o q => (en.bs b o q).1
  have inK := en.mod.kin.keeps kept
  refine codeAny_call_function hr.depth (inK _ _ lk) rfl S.co S.gen rfl (PySem.W.codeRec_of inK hcd) (hb _ _ _ _ ?_)
  have kinds : ∀ q ∈ ps.zip us, (defScope st).names.lookup q.1 = some .local ∨ ((defScope st).names.lookup q.1 = some .cell ∧ ((cellsFrom (s.heap.objs.size + 1) (defScope st).names []).lookup q.1).isSome = true) := by
    rintro ⟨n, v⟩ hq
    exact (S.par n (List.of_mem_zip hq).1).elim .inl fun c => .inr ⟨c, PySem.W.cellsFrom_some _ _ _ (.inl c)⟩
  refine wpAny_newFunctionEnv_cells S.kind kinds fun env he s1 ic => ?_
  subst he
  obtain ⟨t, ht, hq⟩ := body cdv A outer s H vs Q E hg (hr.deeper _) hsp
  have I0 := inv_start (CX := CX0) (E := E) S hr.hd en (len _ _ _ _ hsp) rel ic
  refine ⟨(en.mod.nolimit.keeps kept).keeps ic.toInCall.keep, codeAny_func ?_⟩
  refine wpAny_mono (ht.nox.run [] s1 _ H _ I0 hq) ?_ fun _ _ z => z
  rintro (_ | _ | _ | u) s' hs
  · obtain ⟨σ', H', J, q⟩ := hs
    exact ⟨.non, H', J.os, J.bare, J.base, J.hok, rfl, q⟩
  · obtain ⟨_, _, _, q⟩ := hs
    exact q.elim
  · obtain ⟨_, _, _, q⟩ := hs
    exact q.elim
  · obtain ⟨v, σ', H', J, rv, q⟩ := hs
    exact ⟨v, H', J.os, J.bare, J.base, J.hok, rv, q⟩
end
section
variable {X : Cx} {k : Nat} {f : Addr} {fd : FuncData} {ps : List Str} {sp : Sp} {E : XK} {x : Str} {p pos : Pos} {e : Expr} {es : List Expr} {t : TA}
/-- such a def called by its name -/
theorem pe_callG (F : FnG X.prog X.w X.K X.mg X.base k f fd ps sp) (hg : X.A.guards = some []) (hr : Room k X.A) (hx : Gl X x) (hm : X.mg x = some (.ref f)) (hk : PySem.W.keepIn X.K (.ref f) = true) (hb : L2.Binds X.K fd ps [])
    (ha : PA X (e :: es) t) (hdb : (x == ("__debug__" : Str)) = false := by decide) (he : starEach (e :: es) X.env = (false, eval e X.env) :: starEach es X.env := by rfl) (hpl : (backTo pos (starEach es X.env)).any (·.1) = false := by rfl) :
    PE X (.Call (.Name x p) (e :: es) [] pos) (tCall sp [] E t) := by
  constructor
  intro pins s σ H Q I h
  have run : ∀ {us : List Value} {vs : List V} {H1 : Hp} {s1 : Shared}, Inv X pins σ H1 s1 → Vals vs us → sp (vs ++ []) H1 Q E → wpAny (model X.prog X.w) X.A (call (.ref f) us) (EP X pins σ Q) X.xe s1 := by
    intro us vs H1 s1 I1 r q
    rw [List.append_nil] at q
    have hl : us.length = ps.length := by rw [← r.length]; exact F.len _ _ _ _ q
    have bt := hb s1 us I1.kIn (by rw [List.append_nil]; exact hl)
    rw [List.append_nil] at bt
    refine wpAny_call (codeAny_mono (F.go hg hr I1.env0 bt r q) ?_)
    rintro (_ | (_ | _ | _ | u)) s2 z
    · exact z.elim
    · exact z.elim
    · exact z.elim
    · exact z.elim
    · exact I1.after z
  refine wpAny_Call_Name_kw (ld_glob I hx hm ?_ hdb)
  exact PySem.W.callWith_K (h₀ := X.base) I.ok.mod.kin hk (thn (ha.run pos pins s σ H _ I h) fun us s1 ⟨vs, H1, I1, r, q⟩ => ⟨I1.kIn, run I1 r q⟩) he hpl
end
/-! ### the end of a law whose def is such a def -/
/-- the heap of which nothing is known but the script -/
def justScript (K : PySem.W.Frag) (a : Addr) (vs : List Value) (ns : List Int) : Hp := fun b =>
  if b = a ∧ K.lookup a = none then some (.frz { cls := .type "list", data := .seq vs.toArray } (.lst (ns.map V.int))) else none
section
variable {P : Program} {w : World} {K : PySem.W.Frag} {mg mb : Str → Option Value} {k : Nat} {fa a : Addr} {fd : FuncData} {x : Str} {sp : Sp} {s₁ : Shared} {vs : List Value} {ns : List Int}
theorem js_out {b : Addr} (h : b ≠ a) : justScript K a vs ns b = none := if_neg fun z => h z.1
theorem js_some {b : Addr} {u : HO} (h : justScript K a vs ns b = some u) : b = a ∧ K.lookup a = none ∧ u = .frz { cls := .type "list", data := .seq vs.toArray } (.lst (ns.map V.int)) := by
  unfold justScript at h
  split at h
  · rename_i c
    exact ⟨c.1, c.2, (Option.some.inj h).symm⟩
  · cases h
theorem lawG (KX : K.In s₁.heap) (hns : s₁.heap.Ns mainGlobals mg) (hb : s₁.heap.Ns builtinsNs mb) (hbb : ∀ x : Str, x ≠ "__name__" → mb x = bootBuiltins x) (hlim : s₁.heap.NoLimit) (hg : s₁.gens = #[])
    (ha : s₁.heap.get? a = some { cls := .type "list", data := .seq vs.toArray }) (hi : IntsAre vs ns) (hl : ns.length ≤ sizeLine) (hr : Room k callerA)
    (F : ∀ base : Heap, K.In base → base.Ns mainGlobals mg → FnG P w K mg base k fa fd [x] sp) (hbind : ∀ (s : Shared) (u : Value), BindsTo s fd ⟨[u], []⟩ [(x, u)])
    (hsp : ∀ H : Hp, Only H → SqL K H a (ns.map V.int) → sp [.ref a] H (fun v _ => v = .bl true) fun _ _ _ => False) :
    codeAny (model P w) callerA (.call (.ref fa) ⟨[.ref a], []⟩) (fun r s' => r = .ok (.ret (.bool true)) ∧ OldK s₁.heap s'.heap ∧ s'.os = s₁.os ∧ AllBare s'.gens) s₁ := by
  have rv := L2.vals_ints hi
  have hlen := hi.length
  obtain ⟨H, hH⟩ : ∃ H, H = justScript K a vs ns := ⟨_, rfl⟩
  have hcases : ∀ b, H b = none ∨ (b = a ∧ K.lookup a = none ∧ H b = some (.frz { cls := .type "list", data := .seq vs.toArray } (.lst (ns.map V.int)))) := by
    intro b
    cases q : H b with
    | none => exact .inl rfl
    | some u =>
      rw [hH] at q
      obtain ⟨h1, h2, h3⟩ := js_some q
      exact .inr ⟨h1, h2, by rw [h3]⟩
  have only : Only H := fun b => (hcases b).imp id fun z => ⟨_, _, z.2.2⟩
  have list : SqL K H a (ns.map V.int) := by
    cases hk : K.lookup a with
    | none => exact .inl (.inr ⟨{ cls := .type "list", data := .seq vs.toArray }, by rw [hH]; exact if_pos ⟨rfl, hk⟩⟩)
    | some o =>
      have q := KX a o hk
      rw [ha] at q
      obtain rfl := Option.some.inj q
      exact .inr ⟨_, vs.toArray, _, hk, rfl, rfl, rfl, by rw [List.size_toArray, hlen]; exact hl, rv⟩
  have held : HOk P w H s₁.heap := by
    intro b u q
    rcases hcases b with z | ⟨rfl, _, z⟩
    · rw [z] at q; cases q
    · rw [z] at q
      obtain rfl := Option.some.inj q
      exact ⟨ha, by rw [List.length_map]; exact hl, vs, _, rv, ha⟩
  -- the rest of the heap, in which the module's facts stand
  have stay : ∀ {b : Addr} {o : Obj}, s₁.heap.get? b = some o → (b = a → K.lookup a ≠ none) → (hidT s₁.heap H).get? b = some o := by
    intro b o e n
    refine hidT_get e ?_
    rcases hcases b with z | ⟨e1, e2, _⟩
    · exact z
    · exact absurd e2 (n e1)
  have names : ∀ {b : Addr} {m : Str → Option Value}, s₁.heap.Ns b m → (hidT s₁.heap H).Ns b m := by
    rintro b m ⟨o, es, ep, e, d, r⟩
    refine ⟨o, es, ep, stay e ?_, d, r⟩
    rintro rfl
    rw [ha] at e
    obtain rfl := Option.some.inj e
    exact absurd d (by intro z; cases z)
  have kin : K.In (hidT s₁.heap H) := fun b o e => stay (KX b o e) fun q => by rw [← q, e]; exact fun z => by cases z
  obtain ⟨mc, l1, l2⟩ := hlim
  have mod : Mod K mg (hidT s₁.heap H) := ⟨kin, names hns, ⟨mb, names hb, hbb⟩, ⟨mc, names l1, l2⟩⟩
  have env : Env0 P w K mg (hidT s₁.heap H) callerA [] s₁ H := ⟨rfl, mod, fun b o e => of_hidT e, Nat.le_of_eq (hidT_size _ _), trivial, fun b z => (by exact absurd (show b ∈ ([] : List Addr) from z) (by simp)), held, .of_eq hg⟩
  have vr : Vals [V.ref a] [Value.ref a] := .cons (show RelV (.ref a) (.ref a) from rfl) .nil
  refine codeAny_mono ((F _ kin (names hns)).go (us := [.ref a]) rfl hr env (hbind s₁ (.ref a)) vr (hsp H only list)) ?_
  rintro (_ | (_ | _ | _ | u)) s' z
  · exact z.elim
  · exact z.elim
  · exact z.elim
  · exact z.elim
  · obtain ⟨v, H', os, bare, un, ok', r', q⟩ := z
    have q1 : v = .bl true := q
    subst q1
    have q2 : u = Value.bool true := r'
    subst q2
    refine ⟨rfl, OldK.of_keep fun b o e => ?_, os, bare⟩
    rcases hcases b with z | ⟨e1, _, z⟩
    · exact un.keep b o e z (fun z => absurd (show b ∈ ([] : List Addr) from z) (by simp)) (by simp)
    · obtain ⟨g, _⟩ := ok' b _ (un.frzs b _ _ z)
      obtain ⟨g0, _⟩ := held b _ z
      rw [g0] at e
      rw [← Option.some.inj e]
      exact g
end
theorem walkG {l : PySem.W.OpenLaw} {n k : Nat} {q : Program} {loose : List Str} {XP : (Str → Option Value) → Heap → Prop} {YP : World → Heap → Prop} {d : DefRec} {K : Params → PySem.W.Frag} {sp : PySem.W.Frag → Sp} {x : Str}
    (hn : l.most = some n) (hn2 : n ≤ sizeLine) (hdf : d.params.defaults = []) (hr : Room k callerA) (hY : ∀ (w : World) (h : Heap), YP w h → (K w.params).In h)
    (F : ∀ (w : World) (mg : Str → Option Value) (fa : Addr) (h : Heap), (K w.params).In h → h.Ns mainGlobals mg → mg d.name = some (.ref fa) →
      ∃ fd : FuncData, (∀ (s : Shared) (u : Value), BindsTo s fd ⟨[u], []⟩ [(x, u)]) ∧ ∀ base : Heap, (K w.params).In base → base.Ns mainGlobals mg → FnG l.prog w (K w.params) mg base k fa fd [x] (sp (K w.params)))
    (hsp : ∀ (K : PySem.W.Frag) (H : Hp) (a : Addr) (ns : List Int), ns.length ≤ n → (∀ z ∈ ns, Builtin.Int.intBits z ≤ 1048576) → SqL K H a (ns.map V.int) → sp K [.ref a] H (fun v _ => v = .bl true) fun _ _ _ => False) :
    PySem.W.WalkO q loose XP YP l.row.toRowW d [] (fun f vs => PySem.call f vs) := by
  refine Att.attach_callB hn hdf ?_
  intro w s₀ s₁ mg mb fa o pm cd doc a vs ns G Y ho hd hcd hmg hobj hints hlen hbits hg
  obtain ⟨fd, hb, hF⟩ := F w mg fa _ (hY w _ Y) G.T.g hmg
  exact lawG (hY w _ Y) G.T.g G.T.b G.T.builtins G.T.nolimit hg hobj hints (Nat.le_trans hlen hn2) hr hF hb fun H _ hS => hsp _ H a ns hlen hbits hS
/-! ### repr of data -/
mutual
/-- how long its text is at most -/
def szD : PyData → Nat
  | .none => 4
  | .bool _ => 5
  | .int _ => 301
  | .str x => (reprText x).length
  | .list xs => szAll xs + 2
  | .tuple xs => szAll xs + 3
  | .dict _ => 2
def szAll : List PyData → Nat
  | [] => 0
  | x :: xs => szD x + 2 + szAll xs
end
mutual
/-- ints of moderate size, no dict -/
def modD : PyData → Bool
  | .none | .bool _ | .str _ => true
  | .int i => decide (i.natAbs < 2 ^ 300)
  | .list xs | .tuple xs => modAll xs
  | .dict _ => false
def modAll : List PyData → Bool
  | [] => true
  | x :: xs => modD x && modAll xs
end
theorem log_of {i : Int} (h : i.natAbs < 2 ^ 300) : i.natAbs.log2 < 300 := PySem.Flt.log2_lt_of (by decide) h
mutual
theorem showable_of : ∀ d : PyData, modD d = true → d.showable = true
  | .none, _ => by rw [PyData.showable]
  | .bool _, _ => by rw [PyData.showable]
  | .str _, _ => by rw [PyData.showable]
  | .int i, h => by
    rw [modD] at h
    rw [PyData.showable]
    have := log_of (of_decide_eq_true h)
    exact decide_eq_true (by omega)
  | .list xs, h => by
    rw [modD] at h
    rw [PyData.showable]
    exact showableAll_of xs h
  | .tuple xs, h => by
    rw [modD] at h
    rw [PyData.showable]
    exact showableAll_of xs h
  | .dict _, h => by rw [modD] at h; cases h
theorem showableAll_of : ∀ xs : List PyData, modAll xs = true → PyData.showableAll xs = true
  | [], _ => by rw [PyData.showableAll]
  | x :: xs, h => by
    rw [modAll, Bool.and_eq_true] at h
    rw [PyData.showableAll, showable_of x h.1, showableAll_of xs h.2]
    rfl
end
mutual
theorem nodict_of : ∀ d : PyData, modD d = true → d.hasDict = false
  | .none, _ => by rw [PyData.hasDict]
  | .bool _, _ => by rw [PyData.hasDict]
  | .str _, _ => by rw [PyData.hasDict]
  | .int i, h => by rw [PyData.hasDict]
  | .list xs, h => by
    rw [modD] at h
    rw [PyData.hasDict]
    exact nodictAll_of xs h
  | .tuple xs, h => by
    rw [modD] at h
    rw [PyData.hasDict]
    exact nodictAll_of xs h
  | .dict _, h => by rw [modD] at h; cases h
theorem nodictAll_of : ∀ xs : List PyData, modAll xs = true → PyData.hasDictAll xs = false
  | [], _ => by rw [PyData.hasDictAll]
  | x :: xs, h => by
    rw [modAll, Bool.and_eq_true] at h
    rw [PyData.hasDictAll, nodict_of x h.1, nodictAll_of xs h.2]
    rfl
end
def pile : List Str → Nat
  | [] => 0
  | t :: r => t.length + 2 + pile r
theorem textFrom_le : ∀ (ts : List Str) (k : Nat) (acc : Str), (textFrom k acc ts).length ≤ acc.length + pile ts
  | [], k, acc => by show acc.length ≤ acc.length + 0; omega
  | t :: r, k, acc => by
    have ih := textFrom_le r (k + 1) (acc ++ (if k > 0 then ", " else "" : String) ++ t)
    have e : (acc ++ (if k > 0 then ", " else "" : String) ++ t).length ≤ acc.length + 2 + t.length := by
      rw [strLen_append, strLen_append]
      split
      · show acc.length + 2 + t.length ≤ _; omega
      · show acc.length + 0 + t.length ≤ _; omega
    show (textFrom (k + 1) (acc ++ (if k > 0 then ", " else "" : String) ++ t) r).length ≤ acc.length + (t.length + 2 + pile r)
    omega
theorem listText_le (ts : List Str) : (listText ts).length ≤ pile ts + 2 := by
  unfold listText
  have h := textFrom_le ts 0 "["
  rw [strLen_append]
  have e1 : (("[" : String) : Str).length = 1 := rfl
  have e2 : (("]" : String) : Str).length = 1 := rfl
  rw [e2]
  rw [e1] at h
  omega
theorem join_le : ∀ ts : List Str, (Str.join ", " ts).length ≤ pile ts
  | [] => Nat.zero_le _
  | [x] => by show x.length ≤ x.length + 2 + 0; omega
  | x :: y :: r => by
    have ih := join_le (y :: r)
    show (x ++ ", " ++ Str.join ", " (y :: r)).length ≤ x.length + 2 + pile (y :: r)
    rw [strLen_append, strLen_append]
    have e2 : ((", " : String) : Str).length = 2 := rfl
    rw [e2]
    omega
theorem tupleText_le (ts : List Str) : (tupleText ts).length ≤ pile ts + 3 := by
  unfold tupleText
  have h := join_le ts
  rw [strLen_append, strLen_append]
  have e1 : (("(" : String) : Str).length = 1 := rfl
  have e2 : ((if ts.length == 1 then ",)" else ")" : String) : Str).length ≤ 2 := by
    split
    · exact Nat.le_refl _
    · exact Nat.le_succ _
  rw [e1]
  omega
mutual
theorem shown_le : ∀ d : PyData, modD d = true → d.shown.length ≤ szD d
  | .none, _ => by rw [PyData.shown, szD]; decide
  | .bool b, _ => by rw [PyData.shown, szD]; cases b <;> decide
  | .str x, _ => by rw [PyData.shown, szD]; exact Nat.le_refl _
  | .int i, h => by
    rw [modD] at h
    rw [PyData.shown, szD]
    have := int_text_length_le (k := 300) (by decide) (log_of (of_decide_eq_true h))
    have e : (Str.ofString (toString i)).length = (toString i).length := PySem.ofString_length _
    rw [e]
    omega
  | .list xs, h => by
    rw [modD] at h
    rw [PyData.shown, szD]
    have := listText_le (PyData.shownAll xs)
    have := shownAll_le xs h
    omega
  | .tuple xs, h => by
    rw [modD] at h
    rw [PyData.shown, szD]
    have := tupleText_le (PyData.shownAll xs)
    have := shownAll_le xs h
    omega
  | .dict _, h => by rw [modD] at h; cases h
theorem shownAll_le : ∀ xs : List PyData, modAll xs = true → pile (PyData.shownAll xs) ≤ szAll xs
  | [], _ => by rw [PyData.shownAll, szAll]; exact Nat.le_refl _
  | x :: xs, h => by
    rw [modAll, Bool.and_eq_true] at h
    have h1 := shown_le x h.1
    have h2 := shownAll_le xs h.2
    rw [PyData.shownAll, szAll]
    show x.shown.length + 2 + pile (PyData.shownAll xs) ≤ _
    omega
end
/-! ### data of the heap is read -/
section
variable {X : Cx} {pins : List (Addr × Obj)} {σ : L2.St} {H : Hp} {s : Shared}
mutual
theorem DV.reads (I : Inv X pins σ H s) : ∀ (d : PyData) (v : V) (u : Value), DV X.K H v d → RelV v u → ∃ as, Reads s.heap u d as
  | .none, _, _, .non, r => ⟨_, (show _ = Value.none from r) ▸ Reads.none⟩
  | .bool b, _, _, .bl _, r => ⟨_, (show _ = Value.bool b from r) ▸ Reads.bool b⟩
  | .int i, _, _, .int _, r => by
    obtain ⟨t, q⟩ := r
    rw [q]
    exact ⟨_, Reads.int i t⟩
  | .str x, _, _, .str _, r => by
    obtain ⟨t, q⟩ := r
    rw [q]
    exact ⟨_, Reads.str x t⟩
  | .list ds, _, u, .lst h t, r => by
    have r' : u = Value.ref _ := r
    subst r'
    obtain ⟨its, rv, ⟨o, n, ho, hc, _, hd⟩, _⟩ := I.list h
    obtain ⟨as, hr⟩ := DVs.reads I ds _ its t rv
    exact ⟨_, Reads.list ho hc hd hr⟩
  | .tuple ds, _, u, .tup h t, r => by
    have r' : u = Value.ref _ := r
    subst r'
    obtain ⟨its, rv, ⟨o, ho, hc, n, hd⟩, _⟩ := I.tuple h
    obtain ⟨as, hr⟩ := DVs.reads I ds _ its t rv
    exact ⟨_, Reads.tuple ho hc hd hr⟩
  | .dict _, _, u, .dk0 h, r => by
    have r' : u = Value.ref _ := r
    subst r'
    obtain ⟨_, _, vs, rel, o, es, ep, h1, h2, h3, h4⟩ := I.hok _ _ h
    cases rel
    have e0 : es.toList = [] := by
      have h5 := h4.2.1
      generalize es.toList = l at h5 ⊢
      cases h5
      rfl
    refine ⟨_, Reads.dict (as := []) (bs := []) h1 h2.1 h3 ?_ ?_⟩
    · rw [e0]; exact ReadsAll.nil
    · rw [e0]; exact ReadsAll.nil
theorem DVs.reads (I : Inv X pins σ H s) : ∀ (ds : List PyData) (vs : List V) (us : List Value), DVs X.K H vs ds → Vals vs us → ∃ as, ReadsAll s.heap us ds as
  | [], _, _, .nil, r => by
    cases r
    exact ⟨_, ReadsAll.nil⟩
  | d :: ds, _, _, .cons h1 h2, r => by
    cases r with
    | cons r1 r2 =>
      obtain ⟨as, q1⟩ := DV.reads I d _ _ h1 r1
      obtain ⟨bs, q2⟩ := DVs.reads I ds _ _ h2 r2
      exact ⟨_, ReadsAll.cons q1 q2⟩
end
/-- repr of a list or a tuple -/
def rRepr (K : PySem.W.Frag) : List V → Hp → VK → Prop := fun xs H Q => ∃ (a : Addr) (d : PyData), xs = [.ref a] ∧ DV K H (.ref a) d ∧ modD d = true ∧ d.depth ≤ 40 ∧ szD d ≤ 1000000 ∧ Q (.str d.shown) H
theorem call_repr (hg : X.A.guards = some []) (hu : X.A.units + 64 < cLine) : CallR X (.builtin "repr") (rRepr X.K) := by
  intro pins s σ H xs us Q I r h
  obtain ⟨a, d, rfl, hd, hm, hdep, hsz, q⟩ := h
  rw [Vals.ref1 r]
  obtain ⟨as, hr⟩ := DV.reads I d (.ref a) (.ref a) hd rfl
  have hl : d.shown.length ≤ sizeLine := by
    have := shown_le d hm
    rw [sizeLine_eq]
    omega
  exact repr_of_reads' hr (showable_of d hm) (fun z => by rw [nodict_of d hm] at z; cases z) hg (by omega) (fun _ _ e => e) (fun h' u tk kk => ⟨.str d.shown, H, I.kept kk, ⟨_, rfl⟩, q⟩) hl
end
/-! ### data that cannot change: flat things and tuples of such -/
mutual
inductive DT (H : Hp) : V → PyData → Prop
  | non : DT H .non .none
  | bl (b : Bool) : DT H (.bl b) (.bool b)
  | int (i : Int) : DT H (.int i) (.int i)
  | str (x : Str) : DT H (.str x) (.str x)
  | tup {a : Addr} {xs : List V} {ds : List PyData} : H a = some (.tup xs) → DTs H xs ds → DT H (.ref a) (.tuple ds)
inductive DTs (H : Hp) : List V → List PyData → Prop
  | nil : DTs H [] []
  | cons {v : V} {vs : List V} {d : PyData} {ds : List PyData} : DT H v d → DTs H vs ds → DTs H (v :: vs) (d :: ds)
end
/-- the tuples stand -/
def KeepT (H H' : Hp) : Prop := ∀ a xs, H a = some (.tup xs) → H' a = some (.tup xs)
theorem KeepT.refl (H : Hp) : KeepT H H := fun _ _ h => h
theorem KeepT.trans {H H1 H2 : Hp} (a : KeepT H H1) (b : KeepT H1 H2) : KeepT H H2 := fun c xs h => b c xs (a c xs h)
theorem KeepT.same {H H' : Hp} (s : Same H H') : KeepT H H' := fun a xs h => s a _ h
theorem KeepT.but {d : Addr} {H H' : Hp} (D : DeckAt H d) (s : But d H H') : KeepT H H' := fun a xs h => s.tup D h
theorem KeepT.put {x : Addr} {H : Hp} {ys : List V} {o : HO} (h : H x = some (.lst ys)) : KeepT H (upd H x o) := fun a xs e => by
  rw [upd_ne (ne_of e h (by intro z; cases z))]
  exact e
theorem KeepT.new {x : Addr} {H : Hp} {o : HO} (h : H x = none) : KeepT H (upd H x o) := KeepT.same (Same.new h)
mutual
theorem DT.keep {H H' : Hp} (e : KeepT H H') : ∀ {d : PyData} {v : V}, DT H v d → DT H' v d
  | _, _, .non => .non
  | _, _, .bl b => .bl b
  | _, _, .int i => .int i
  | _, _, .str x => .str x
  | _, _, .tup h t => .tup (e _ _ h) (DTs.keep e t)
theorem DTs.keep {H H' : Hp} (e : KeepT H H') : ∀ {ds : List PyData} {vs : List V}, DTs H vs ds → DTs H' vs ds
  | _, _, .nil => .nil
  | _, _, .cons p t => .cons (DT.keep e p) (DTs.keep e t)
end
mutual
theorem DT.dv {K : PySem.W.Frag} {H : Hp} : ∀ {d : PyData} {v : V}, DT H v d → DV K H v d
  | _, _, .non => .non
  | _, _, .bl b => .bl b
  | _, _, .int i => .int i
  | _, _, .str x => .str x
  | _, _, .tup h t => .tup (SqT.of h) (DTs.dv t)
theorem DTs.dv {K : PySem.W.Frag} {H : Hp} : ∀ {ds : List PyData} {vs : List V}, DTs H vs ds → DVs K H vs ds
  | _, _, .nil => .nil
  | _, _, .cons p t => .cons (DT.dv p) (DTs.dv t)
end
theorem DTs.ints {H : Hp} : ∀ ks : List Int, DTs H (ks.map V.int) (ks.map PyData.int)
  | [] => .nil
  | k :: r => .cons (.int k) (DTs.ints r)
theorem DTs.append {H : Hp} : ∀ {vs ws : List V} {ds es : List PyData}, DTs H vs ds → DTs H ws es → DTs H (vs ++ ws) (ds ++ es)
  | _, _, _, _, .nil, h => h
  | _, _, _, _, .cons p t, h => .cons p (DTs.append t h)
theorem DTs.take {H : Hp} : ∀ {vs : List V} {ds : List PyData} (n : Nat), DTs H vs ds → DTs H (vs.take n) (ds.take n)
  | _, _, 0, _ => .nil
  | _, _, _ + 1, .nil => .nil
  | _, _, n + 1, .cons p t => .cons p (DTs.take n t)
theorem DTs.length {H : Hp} : ∀ {vs : List V} {ds : List PyData}, DTs H vs ds → vs.length = ds.length
  | _, _, .nil => rfl
  | _, _, .cons _ t => congrArg Nat.succ (DTs.length t)
theorem DTs.none {H : Hp} : ∀ n : Nat, DTs H (List.replicate n V.non) (List.replicate n PyData.none)
  | 0 => .nil
  | n + 1 => .cons .non (DTs.none n)
/-! ### lists of ids as data -/
theorem modAll_ints : ∀ xs : List Int, (∀ z ∈ xs, z.natAbs < 2 ^ 300) → modAll (xs.map .int) = true
  | [], _ => by rw [List.map_nil, modAll]
  | x :: r, h => by
    rw [List.map_cons, modAll, modD, modAll_ints r fun z hz => h z (List.mem_cons_of_mem _ hz), decide_eq_true (h x List.mem_cons_self)]
    rfl
theorem szAll_ints : ∀ xs : List Int, szAll (xs.map .int) = xs.length * 303
  | [] => by rw [List.map_nil, szAll]; rfl
  | x :: r => by
    rw [List.map_cons, szAll, szD, szAll_ints r, List.length_cons]
    omega
theorem small_abs {z : Int} (h : -1000000000000 ≤ z) (h2 : z ≤ 1000000000000) : z.natAbs < 2 ^ 300 := by
  have : (1000000000001 : Nat) ≤ 2 ^ 300 := Nat.le_trans (by decide : 1000000000001 ≤ 2 ^ 50) (Nat.pow_le_pow_right (by decide) (by decide))
  generalize (2 : Nat) ^ 300 = B at *
  omega
structure Rok (d : PyData) : Prop where
  m : modD d = true
  dep : d.depth ≤ 40
  sz : szD d ≤ 1000000
theorem rok_ids {xs : List Int} (h : ∀ z ∈ xs, 1 ≤ z ∧ z ≤ 1000000) (hl : xs.length ≤ 300) : Rok (.list (xs.map .int)) := by
  refine ⟨?_, ?_, ?_⟩
  · rw [modD]
    exact modAll_ints xs fun z hz => by have := h z hz; exact small_abs (by omega) (by omega)
  · have := depthAll_ints xs
    rw [PyData.depth]
    omega
  · rw [szD, szAll_ints]
    omega
/-- changing one more object -/
theorem Fs.put {d x : Addr} {Hd H1 : Hp} {fs : List (Addr × HO)} {o : HO} (F : Fs d Hd fs H1) (h0 : Hd x = none) (hd : x ≠ d) (hn : ∀ p ∈ fs, p.1 ≠ x) : Fs d Hd fs (upd H1 x o) := by
  obtain ⟨f1, ⟨a, b, q, r⟩, f3⟩ := F
  refine ⟨fun c u hc e => ?_, ⟨a, b, by rw [upd_ne hd.symm]; exact q, r⟩, fun p hp => ⟨(f3 p hp).1, by rw [upd_ne (hn p hp)]; exact (f3 p hp).2⟩⟩
  rw [upd_ne (ne_of_none e h0)]
  exact f1 c u hc e
theorem Fs.apart {d x : Addr} {Hd H1 : Hp} {fs : List (Addr × HO)} (F : Fs d Hd fs H1) (h : H1 x = none) : Hd x = none ∧ x ≠ d ∧ ∀ p ∈ fs, p.1 ≠ x := by
  obtain ⟨f1, ⟨a, b, q, r⟩, f3⟩ := F
  have hd : x ≠ d := fun e => by rw [e, q] at h; cases h
  refine ⟨?_, hd, fun p hp => ne_of_none (f3 p hp).2 h⟩
  cases e : Hd x with
  | none => rfl
  | some u =>
    have := f1 x u hd e
    rw [h] at this; cases this
/-! ### repr of data with empty dicts in it -/
mutual
/-- ints of moderate size, dicts only empty -/
def okD : PyData → Bool
  | .none | .bool _ | .str _ => true
  | .int i => decide (i.natAbs < 2 ^ 300)
  | .list xs | .tuple xs => okAll xs
  | .dict kvs => kvs.isEmpty
def okAll : List PyData → Bool
  | [] => true
  | x :: xs => okD x && okAll xs
end
mutual
theorem shown_le2 : ∀ d : PyData, okD d = true → d.shown.length ≤ szD d
  | .none, _ => shown_le .none rfl
  | .bool b, _ => shown_le (.bool b) rfl
  | .str x, _ => shown_le (.str x) rfl
  | .int i, h => shown_le (.int i) (by rw [okD] at h; rw [modD]; exact h)
  | .list xs, h => by
    have h2 : okAll xs = true := by rw [okD] at h; exact h
    have b := shownAll_le2 xs h2
    have a := listText_le (PyData.shownAll xs)
    rw [szD, PyData.shown]
    omega
  | .tuple xs, h => by
    have h2 : okAll xs = true := by rw [okD] at h; exact h
    have b := shownAll_le2 xs h2
    have a := tupleText_le (PyData.shownAll xs)
    rw [szD, PyData.shown]
    omega
  | .dict kvs, h => by
    rw [okD] at h
    have e : kvs = [] := List.isEmpty_iff.mp h
    subst e
    rw [szD, PyData.shown, PyData.shownKv]
    exact Nat.le_refl 2
theorem shownAll_le2 : ∀ xs : List PyData, okAll xs = true → pile (PyData.shownAll xs) ≤ szAll xs
  | [], _ => by rw [PyData.shownAll, szAll]; exact Nat.le_refl _
  | x :: xs, h => by
    rw [okAll, Bool.and_eq_true] at h
    have a := shown_le2 x h.1
    have b := shownAll_le2 xs h.2
    rw [szAll, PyData.shownAll]
    show x.shown.length + 2 + pile (PyData.shownAll xs) ≤ _
    omega
end
section
variable {X : Cx} {pins : List (Addr × Obj)} {σ : L2.St} {H : Hp} {s : Shared}
mutual
theorem DV.rk (I : Inv X pins σ H s) : ∀ (d : PyData) (v : V) (u : Value), DV X.K H v d → RelV v u → okD d = true → d.shown.length ≤ sizeLine → ∃ bs, ReadAtMost s.heap d.depth bs ∧ ReprK X.prog X.w bs s.heap d.depth u d.shown
  | .none, _, _, .non, r, _, _ => ⟨[], (fun _ q => by cases q), by rw [PyData.shown, (show _ = Value.none from r)]; exact .of_is ReprIs.none _ _ _⟩
  | .bool b, _, _, .bl _, r, _, _ => ⟨[], (fun _ q => by cases q), by rw [PyData.shown, (show _ = Value.bool b from r)]; exact .of_is (ReprIs.bool b) _ _ _⟩
  | .int i, _, _, .int _, r, h, _ => by
    obtain ⟨t, rfl⟩ := r
    rw [okD] at h
    have := log_of (of_decide_eq_true h)
    exact ⟨[], (fun _ q => by cases q), by rw [PyData.shown]; exact .of_is (ReprIs.int t (by omega)) _ _ _⟩
  | .str x, _, _, .str _, r, _, hz => by
    obtain ⟨t, rfl⟩ := r
    rw [PyData.shown] at hz
    exact ⟨[], (fun _ q => by cases q), by rw [PyData.shown]; exact .of_is (ReprIs.str x t hz) _ _ _⟩
  | .list ds, _, u, .lst h t, r, hok, hz => by
    have r' : u = Value.ref _ := r
    subst r'
    rw [okD] at hok
    rw [PyData.shown] at hz
    obtain ⟨its, rv, ⟨o, n, ho, hc, _, hd⟩, _⟩ := I.list h
    obtain ⟨as, hr⟩ := DVs.reads I ds _ its t rv
    obtain ⟨bs, hb, hk⟩ := DVs.rk I ds _ its t rv hok fun x hx => Nat.le_trans (listText_mem_le hx) hz
    have R := Reads.list ho hc hd hr
    have far := not_mem_of_deeper R (by rw [PyData.depth]; omega) hb
    refine ⟨_, ReadAtMost.cons R (by rw [PyData.depth]; omega) hb, ?_⟩
    rw [PyData.depth, PyData.shown]
    cases its with
    | nil =>
      cases rv
      cases t
      rw [PyData.shownAll, listText_nil]
      exact ReprK.listEmpty ho hc hd
    | cons y l => exact ReprK.list ho hc hd far (by rw [hk.length_eq]; rfl) fun i y e => hk.item i y (by rw [List.getElem?_toArray] at e; exact e)
  | .tuple ds, _, u, .tup h t, r, hok, hz => by
    have r' : u = Value.ref _ := r
    subst r'
    rw [okD] at hok
    rw [PyData.shown] at hz
    obtain ⟨its, rv, ⟨o, ho, hc, n, hd⟩, _⟩ := I.tuple h
    obtain ⟨as, hr⟩ := DVs.reads I ds _ its t rv
    obtain ⟨bs, hb, hk⟩ := DVs.rk I ds _ its t rv hok fun x hx => Nat.le_trans (tupleText_mem_le hx) hz
    have R := Reads.tuple ho hc hd hr
    have far := not_mem_of_deeper R (by rw [PyData.depth]; omega) hb
    refine ⟨_, ReadAtMost.cons R (by rw [PyData.depth]; omega) hb, ?_⟩
    rw [PyData.depth, PyData.shown]
    exact ReprK.tuple ho hc hd far hk
  | .dict _, _, u, .dk0 h, r, _, _ => by
    have r' : u = Value.ref _ := r
    subst r'
    obtain ⟨_, sy, vs, rel, o, es, ep, h1, h2, h3, h4⟩ := I.hok _ _ h
    cases rel
    have e0 : es.toList = [] := by
      have h5 := h4.2.1
      generalize es.toList = l at h5 ⊢
      cases h5
      rfl
    have R : Reads s.heap (.ref _) (.dict []) _ := Reads.dict (as := []) (bs := []) h1 h2.1 h3 (by rw [e0]; exact ReadsAll.nil) (by rw [e0]; exact ReadsAll.nil)
    have hb : ReadAtMost s.heap (PyData.depthKv []) [] := fun _ q => by cases q
    refine ⟨_, ReadAtMost.cons R (by rw [PyData.depth]; omega) hb, ?_⟩
    rw [PyData.depth, PyData.shown, PyData.shownKv]
    exact ReprK.dict h1 h2.1 h3 sy (fun q => by cases q) (by rw [e0]; exact .nil)
theorem DVs.rk (I : Inv X pins σ H s) : ∀ (ds : List PyData) (vs : List V) (us : List Value), DVs X.K H vs ds → Vals vs us → okAll ds = true → (∀ x ∈ PyData.shownAll ds, x.length ≤ sizeLine) → ∃ bs, ReadAtMost s.heap (PyData.depthAll ds) bs ∧ ReprAllK X.prog X.w bs s.heap (PyData.depthAll ds) us (PyData.shownAll ds)
  | [], _, _, .nil, r, _, _ => by
    cases r
    exact ⟨[], (fun _ q => by cases q), by rw [PyData.shownAll]; exact .nil⟩
  | d :: ds, _, _, .cons h1 h2, r, hok, hz => by
    cases r with
    | cons r1 r2 =>
      rw [okAll, Bool.and_eq_true] at hok
      rw [PyData.shownAll] at hz
      obtain ⟨p1, a1, k1⟩ := DV.rk I d _ _ h1 r1 hok.1 (hz _ List.mem_cons_self)
      obtain ⟨p2, a2, k2⟩ := DVs.rk I ds _ _ h2 r2 hok.2 fun x hx => hz x (List.mem_cons_of_mem _ hx)
      rw [PyData.shownAll, PyData.depthAll]
      refine ⟨p1 ++ p2, fun b hm => ?_, .cons ((k1.more fun b hb => List.mem_append_left _ hb).level_le (by omega)) (k2.more_le (fun b hb => List.mem_append_right _ hb) (by omega))⟩
      rcases List.mem_append.mp hm with q | q
      · obtain ⟨e, f, r, g⟩ := a1 b q
        exact ⟨e, f, r, by omega⟩
      · obtain ⟨e, f, r, g⟩ := a2 b q
        exact ⟨e, f, r, by omega⟩
end
/-- repr of any data -/
def rRepr2 (K : PySem.W.Frag) : List V → Hp → VK → Prop := fun xs H Q => ∃ (v : V) (d : PyData), xs = [v] ∧ DV K H v d ∧ okD d = true ∧ d.depth ≤ 40 ∧ szD d ≤ 1000000 ∧ Q (.str d.shown) H
theorem call_repr2 (hg : X.A.guards = some []) (hu : X.A.units + 64 < cLine) : CallR X (.builtin "repr") (rRepr2 X.K) := by
  intro pins s σ H xs us Q I r h
  obtain ⟨v, d, rfl, hd, hok, hdep, hsz, q⟩ := h
  have hl : d.shown.length ≤ sizeLine := by
    have := shown_le2 d hok
    rw [sizeLine_eq]
    omega
  obtain ⟨u, rfl, ru⟩ : ∃ u, us = [u] ∧ RelV v u := by
    cases r with
    | cons r1 r2 => cases r2; exact ⟨_, rfl, r1⟩
  have kk : ∀ b o, s.heap.get? b = some o → s.heap.get? b = some o := fun _ _ e => e
  cases hd with
  | non =>
    have r' : u = Value.none := ru
    subst r'
    rw [PyData.shown] at q
    exact PySem.P.repr_of_none ⟨.str _, H, I.tok _, ⟨_, rfl⟩, q⟩
  | bl b =>
    have r' : u = Value.bool b := ru
    subst r'
    rw [PyData.shown] at q
    exact PySem.P.repr_of_bool ⟨.str _, H, I.tok _, ⟨_, rfl⟩, q⟩
  | int i =>
    obtain ⟨t, rfl⟩ := ru
    rw [okD] at hok
    have := log_of (of_decide_eq_true hok)
    rw [PyData.shown] at q
    exact PySem.P.repr_of_int (by omega) ⟨.str _, H, I.tok _, ⟨_, rfl⟩, q⟩
  | str x =>
    obtain ⟨t, rfl⟩ := ru
    rw [PyData.shown] at q hl
    exact PySem.P.repr_of_str ⟨.str _, H, I.tok _, ⟨_, rfl⟩, q⟩ hl
  | lst h t =>
    rename_i a vs ds
    have r' : u = Value.ref a := ru
    subst r'
    rw [okD] at hok
    rw [PyData.shown] at hl q
    rw [PyData.depth] at hdep
    obtain ⟨its, rv, ⟨o, n, ho, hc, _, hdt⟩, _⟩ := I.list h
    obtain ⟨as, hr⟩ := DVs.reads I ds _ its t rv
    obtain ⟨bs, hb, hk⟩ := DVs.rk I ds _ its t rv hok fun x hx => Nat.le_trans (listText_mem_le hx) hl
    have far := not_mem_of_deeper (Reads.list ho hc hdt hr) (by rw [PyData.depth]; omega) hb
    refine call_repr_slot (by omega) ⟨o, ho, hc⟩ F.slot_list_repr.toG ?_
    cases its with
    | nil =>
      cases rv
      cases t
      rw [PyData.shownAll, listText_nil] at q
      exact call_list_repr_empty ⟨o, ho, hc⟩ ho hdt ⟨_, _, rfl, .str _, H, I.tok _, ⟨_, rfl⟩, q⟩
    | cons y l =>
      exact call_list_reprK ho hc hdt far (by rw [hk.length_eq]; rfl) (fun i y e => hk.item i y (by rw [List.getElem?_toArray] at e; exact e)) hg (fun b _ => Clear.nil b) (by show X.A.units + 1 + _ < cLine; omega) kk
        (fun h' u tk k => ⟨_, _, rfl, .str _, H, I.kept k, ⟨_, rfl⟩, q⟩) hl
  | tup h t =>
    rename_i a vs ds
    have r' : u = Value.ref a := ru
    subst r'
    rw [okD] at hok
    rw [PyData.shown] at hl q
    rw [PyData.depth] at hdep
    obtain ⟨its, rv, ⟨o, ho, hc, n, hdt⟩, _⟩ := I.tuple h
    obtain ⟨as, hr⟩ := DVs.reads I ds _ its t rv
    obtain ⟨bs, hb, hk⟩ := DVs.rk I ds _ its t rv hok fun x hx => Nat.le_trans (tupleText_mem_le hx) hl
    have far := not_mem_of_deeper (Reads.tuple ho hc hdt hr) (by rw [PyData.depth]; omega) hb
    refine call_repr_slot (by omega) ⟨o, ho, hc⟩ F.slot_tuple_repr ?_
    exact call_tuple_reprK ho hc hdt far hk hg (fun b _ => Clear.nil b) (by show X.A.units + 1 + _ < cLine; omega) kk
      (fun h' u tk k => ⟨_, _, rfl, .str _, H, I.kept k, ⟨_, rfl⟩, q⟩) hl
  | dk0 h =>
    rename_i a
    have r' : u = Value.ref a := ru
    subst r'
    rw [PyData.shown, PyData.shownKv] at q
    obtain ⟨_, sy, vs, rel, o, es, ep, h1, h2, h3, h4⟩ := I.hok _ _ h
    cases rel
    have e0 : es.toList = [] := by
      have h5 := h4.2.1
      generalize es.toList = l at h5 ⊢
      cases h5
      rfl
    refine call_repr_slot (by omega) ⟨o, h1, h2.1⟩ F.slot_dict_repr ?_
    exact call_dict_reprK (d := 0) (as := []) h1 h2.1 h3 sy (fun q => by cases q) (by rw [e0]; exact .nil) hg (fun b _ => Clear.nil b) (by show X.A.units + 1 + _ < cLine; omega) kk
      (fun h' u tk k => ⟨_, _, rfl, .str _, H, I.kept k, ⟨_, rfl⟩, q⟩) (by rw [sizeLine_eq]; decide)
end
/-! ### repr of a dict -/
def bits (D : List (PyData × PyData)) : List Str := List.zipWith (fun k v : Str => k ++ ": " ++ v) (PyData.shownAll (D.map Prod.fst)) (PyData.shownAll (D.map Prod.snd))
def textD (D : List (PyData × PyData)) : Str := dictText (bits D)
theorem zip_pile : ∀ ks vs : List Str, pile (List.zipWith (fun k v : Str => k ++ ": " ++ v) ks vs) ≤ pile ks + pile vs
  | [], _ => by simp [pile]
  | _ :: _, [] => by simp [pile]
  | k :: ks, v :: vs => by
    have ih := zip_pile ks vs
    show (k ++ ": " ++ v).length + 2 + pile (List.zipWith _ ks vs) ≤ k.length + 2 + pile ks + (v.length + 2 + pile vs)
    have e : (k ++ (": " : Str) ++ v).length = k.length + 2 + v.length := by
      rw [Str.length_append, Str.length_append]; rfl
    rw [e]
    omega
theorem textD_len {D : List (PyData × PyData)} (h1 : okAll (D.map Prod.fst) = true) (h2 : okAll (D.map Prod.snd) = true) : (textD D).length ≤ szAll (D.map Prod.fst) + szAll (D.map Prod.snd) + 2 := by
  unfold textD dictText
  have e1 := join_le (bits D)
  have e2 := zip_pile (PyData.shownAll (D.map Prod.fst)) (PyData.shownAll (D.map Prod.snd))
  have e3 := shownAll_le2 _ h1
  have e4 := shownAll_le2 _ h2
  rw [Str.length_append, Str.length_append]
  have : ("{" : Str).length = 1 := rfl
  have : ("}" : Str).length = 1 := rfl
  unfold bits at e1 ⊢
  omega
theorem mem_pile {x : Str} : ∀ {l : List Str}, x ∈ l → x.length ≤ pile l
  | y :: r, h => by
    show _ ≤ y.length + 2 + pile r
    rcases List.mem_cons.mp h with e | e
    · rw [e]; omega
    · have := mem_pile e; omega
theorem keys_vals {P : Program} {w : World} : ∀ {es : List DictEntry} {kvs : List (Key × V)} {vs : List (Key × Value)}, KV kvs vs → Pairs (mixKind P w) es vs → Vals (kvs.map fun kv => kV kv.1) (es.map (·.key)) ∧ Vals (kvs.map Prod.snd) (es.map (·.val))
  | _, [], _, r, p => by
    cases r
    cases p
    exact ⟨.nil, .nil⟩
  | _, kv :: kvs, _, r, p => by
    cases r with
    | cons h t =>
      cases p with
      | cons k1 k2 pr =>
        obtain ⟨i1, i2⟩ := keys_vals (P := P) (w := w) t pr
        refine ⟨.cons (relV_key ?_) i1, .cons (show RelV kv.2 _ by have q := h.2; rw [← k2] at q; exact q) i2⟩
        have : keyIs _ _ = true := k1
        rw [h.1]; exact this
def rReprD (K : PySem.W.Frag) : List V → Hp → VK → Prop := fun xs H Q => ∃ (a : Addr) (kvs : List (Key × V)) (D : List (PyData × PyData)), xs = [.ref a] ∧ H a = some (.dK kvs) ∧ DVs K H (kvs.map fun kv => kV kv.1) (D.map Prod.fst) ∧ DVs K H (kvs.map Prod.snd) (D.map Prod.snd) ∧
  okAll (D.map Prod.fst) = true ∧ okAll (D.map Prod.snd) = true ∧ PyData.depthKv D ≤ 40 ∧ szAll (D.map Prod.fst) ≤ 1000000 ∧ szAll (D.map Prod.snd) ≤ 1000000 ∧ Q (.str (textD D)) H
section
variable {X : Cx}
theorem call_reprD (hg : X.A.guards = some []) (hu : X.A.units + 64 < cLine) : CallR X (.builtin "repr") (rReprD X.K) := by
  intro pins s σ H xs us Q I r h
  obtain ⟨a, kvs, D, rfl, hd, hK, hV, o1, o2, hdep, z1, z2, q⟩ := h
  obtain ⟨u, rfl, ru⟩ := vals1 r
  obtain rfl : u = Value.ref a := ru
  obtain ⟨_, sy, vs, rel, o, es, ep, h1, h2, h3, h4⟩ := I.hok _ _ hd
  obtain ⟨rk, rvv⟩ := keys_vals (P := X.prog) (w := X.w) rel h4.2.1
  have l1 := shownAll_le2 _ o1
  have l2 := shownAll_le2 _ o2
  have hline := sizeLine_eq
  obtain ⟨as1, R1⟩ := DVs.reads I _ _ _ hK rk
  obtain ⟨as2, R2⟩ := DVs.reads I _ _ _ hV rvv
  obtain ⟨bs1, b1, k1⟩ := DVs.rk I _ _ _ hK rk o1 fun x hx => by have := mem_pile hx; omega
  obtain ⟨bs2, b2, k2⟩ := DVs.rk I _ _ _ hV rvv o2 fun x hx => by have := mem_pile hx; omega
  have R : Reads s.heap (.ref a) (.dict D) _ := Reads.dict h1 h2.1 h3 R1 R2
  have d1 := PyData.depthAll_keys_le D
  have d2 := PyData.depthAll_vals_le D
  have hb : ReadAtMost s.heap (PyData.depthKv D) (bs1 ++ bs2) := (b1.mono d1).append (b2.mono d2)
  have far := not_mem_of_deeper R (by rw [PyData.depth]; omega) hb
  refine call_repr_slot (by omega) ⟨o, h1, h2.1⟩ F.slot_dict_repr ?_
  refine call_dict_reprK (d := PyData.depthKv D) (as := bs1 ++ bs2) h1 h2.1 h3 sy far (ReprEntriesK.of_two es.toList _ _ (k1.more_le (fun b hb => List.mem_append_left _ hb) d1) (k2.more_le (fun b hb => List.mem_append_right _ hb) d2)) hg (fun b _ => Clear.nil b) (by show X.A.units + 1 + _ < cLine; omega) (fun _ _ e => e)
    (fun h' u tk k => ⟨_, _, rfl, .str _, H, I.kept k, ⟨_, rfl⟩, q⟩) ?_
  have := textD_len o1 o2
  unfold textD bits at this
  omega
end
/-! ### data with dicts in it -/
mutual
inductive DW (K : PySem.W.Frag) (H : Hp) : V → PyData → Prop
  | non : DW K H .non .none
  | bl (b : Bool) : DW K H (.bl b) (.bool b)
  | int (i : Int) : DW K H (.int i) (.int i)
  | str (x : Str) : DW K H (.str x) (.str x)
  | lst {a : Addr} {xs : List V} {ds : List PyData} : SqL K H a xs → DWs K H xs ds → DW K H (.ref a) (.list ds)
  | tup {a : Addr} {xs : List V} {ds : List PyData} : SqT K H a xs → DWs K H xs ds → DW K H (.ref a) (.tuple ds)
  | dic {a : Addr} {kvs : List (Key × V)} {D : List (PyData × PyData)} : H a = some (.dK kvs) → DWs K H (kvs.map fun kv => kV kv.1) (D.map Prod.fst) → DWs K H (kvs.map Prod.snd) (D.map Prod.snd) → DW K H (.ref a) (.dict D)
inductive DWs (K : PySem.W.Frag) (H : Hp) : List V → List PyData → Prop
  | nil : DWs K H [] []
  | cons {v : V} {vs : List V} {d : PyData} {ds : List PyData} : DW K H v d → DWs K H vs ds → DWs K H (v :: vs) (d :: ds)
end
theorem DWs.ints {K : PySem.W.Frag} {H : Hp} : ∀ ks : List Int, DWs K H (ks.map V.int) (ks.map PyData.int)
  | [] => .nil
  | k :: r => .cons (.int k) (DWs.ints r)
mutual
def szW : PyData → Nat
  | .none => 303
  | .bool _ => 303
  | .int _ => 303
  | .str x => PyData.shown (.str x) |>.length
  | .list xs => szWs xs + 2
  | .tuple xs => szWs xs + 3
  | .dict D => szWk D + 2
def szWs : List PyData → Nat
  | [] => 0
  | x :: xs => szW x + 2 + szWs xs
def szWk : List (PyData × PyData) → Nat
  | [] => 0
  | (k, v) :: r => szW k + szW v + 4 + szWk r
end
mutual
/-- ints of moderate size -/
def okW : PyData → Bool
  | .none | .bool _ | .str _ => true
  | .int i => decide (i.natAbs < 2 ^ 300)
  | .list xs | .tuple xs => okWs xs
  | .dict D => okWk D
def okWs : List PyData → Bool
  | [] => true
  | x :: xs => okW x && okWs xs
def okWk : List (PyData × PyData) → Bool
  | [] => true
  | (k, v) :: r => okW k && okW v && okWk r
end
theorem okWk_split : ∀ {D : List (PyData × PyData)}, okWk D = true → okWs (D.map Prod.fst) = true ∧ okWs (D.map Prod.snd) = true
  | [], _ => ⟨by rw [List.map_nil, okWs], by rw [List.map_nil, okWs]⟩
  | (k, v) :: r, h => by
    rw [okWk, Bool.and_eq_true, Bool.and_eq_true] at h
    obtain ⟨i1, i2⟩ := okWk_split h.2
    exact ⟨by rw [List.map_cons, okWs, h.1.1, i1]; rfl, by rw [List.map_cons, okWs, h.1.2, i2]; rfl⟩
mutual
theorem shown_leW : ∀ d : PyData, okW d = true → d.shown.length ≤ szW d
  | .none, _ => by have := shown_le .none rfl; rw [szD] at this; rw [szW]; omega
  | .bool b, _ => by have := shown_le (.bool b) rfl; rw [szD] at this; rw [szW]; omega
  | .int i, h => by
    have := shown_le (.int i) (by rw [okW] at h; rw [modD]; exact h)
    rw [szD] at this; rw [szW]; omega
  | .str x, _ => by rw [szW]; exact Nat.le_refl _
  | .list xs, h => by
    have h2 : okWs xs = true := by rw [okW] at h; exact h
    have b := shownAll_leW xs h2
    have a := listText_le (PyData.shownAll xs)
    rw [szW, PyData.shown]
    omega
  | .tuple xs, h => by
    have h2 : okWs xs = true := by rw [okW] at h; exact h
    have b := shownAll_leW xs h2
    have a := tupleText_le (PyData.shownAll xs)
    rw [szW, PyData.shown]
    omega
  | .dict D, h => by
    have h2 : okWk D = true := by rw [okW] at h; exact h
    have b := shownKv_leW D h2
    have a := join_le (PyData.shownKv D)
    rw [szW, PyData.shown]
    unfold dictText
    rw [Str.length_append, Str.length_append]
    have : ("{" : Str).length = 1 := rfl
    have : ("}" : Str).length = 1 := rfl
    omega
theorem shownAll_leW : ∀ xs : List PyData, okWs xs = true → pile (PyData.shownAll xs) ≤ szWs xs
  | [], _ => by rw [PyData.shownAll, szWs]; exact Nat.le_refl _
  | x :: xs, h => by
    rw [okWs, Bool.and_eq_true] at h
    have a := shown_leW x h.1
    have b := shownAll_leW xs h.2
    rw [szWs, PyData.shownAll]
    show x.shown.length + 2 + pile (PyData.shownAll xs) ≤ _
    omega
theorem shownKv_leW : ∀ D : List (PyData × PyData), okWk D = true → pile (PyData.shownKv D) ≤ szWk D
  | [], _ => by rw [PyData.shownKv, szWk]; exact Nat.le_refl _
  | (k, v) :: r, h => by
    rw [okWk, Bool.and_eq_true, Bool.and_eq_true] at h
    have a := shown_leW k h.1.1
    have b := shown_leW v h.1.2
    have c := shownKv_leW r h.2
    rw [szWk, PyData.shownKv]
    show (k.shown ++ (": " : Str) ++ v.shown).length + 2 + pile (PyData.shownKv r) ≤ _
    rw [Str.length_append, Str.length_append]
    have : (": " : Str).length = 2 := rfl
    omega
end
section
variable {X : Cx} {pins : List (Addr × Obj)} {σ : L2.St} {H : Hp} {s : Shared}
mutual
theorem DW.reads (I : Inv X pins σ H s) : ∀ {v : V} {d : PyData} (_ : DW X.K H v d) (u : Value), RelV v u → ∃ as, Reads s.heap u d as
  | _, _, .non, _, r => ⟨_, (show _ = Value.none from r) ▸ Reads.none⟩
  | _, _, .bl b, _, r => ⟨_, (show _ = Value.bool b from r) ▸ Reads.bool b⟩
  | _, _, .int i, _, r => by
    obtain ⟨t, q⟩ := r
    rw [q]
    exact ⟨_, Reads.int i t⟩
  | _, _, .str x, _, r => by
    obtain ⟨t, q⟩ := r
    rw [q]
    exact ⟨_, Reads.str x t⟩
  | _, _, .lst h t, u, r => by
    have r' : u = Value.ref _ := r
    subst r'
    obtain ⟨its, rv, ⟨o, n, ho, hc, _, hd⟩, _⟩ := I.list h
    obtain ⟨as, hr⟩ := DWs.reads I t its rv
    exact ⟨_, Reads.list ho hc hd hr⟩
  | _, _, .tup h t, u, r => by
    have r' : u = Value.ref _ := r
    subst r'
    obtain ⟨its, rv, ⟨o, ho, hc, n, hd⟩, _⟩ := I.tuple h
    obtain ⟨as, hr⟩ := DWs.reads I t its rv
    exact ⟨_, Reads.tuple ho hc hd hr⟩
  | _, _, .dic h t1 t2, u, r => by
    have r' : u = Value.ref _ := r
    subst r'
    obtain ⟨_, _, vs, rel, o, es, ep, h1, h2, h3, h4⟩ := I.hok _ _ h
    obtain ⟨rk, rvv⟩ := keys_vals (P := X.prog) (w := X.w) rel h4.2.1
    obtain ⟨as1, R1⟩ := DWs.reads I t1 _ rk
    obtain ⟨as2, R2⟩ := DWs.reads I t2 _ rvv
    exact ⟨_, Reads.dict h1 h2.1 h3 R1 R2⟩
theorem DWs.reads (I : Inv X pins σ H s) : ∀ {vs : List V} {ds : List PyData} (_ : DWs X.K H vs ds) (us : List Value), Vals vs us → ∃ as, ReadsAll s.heap us ds as
  | _, _, .nil, _, r => by
    cases r
    exact ⟨_, ReadsAll.nil⟩
  | _, _, .cons h1 h2, _, r => by
    cases r with
    | cons r1 r2 =>
      obtain ⟨as, q1⟩ := DW.reads I h1 _ r1
      obtain ⟨bs, q2⟩ := DWs.reads I h2 _ r2
      exact ⟨_, ReadsAll.cons q1 q2⟩
end
mutual
theorem DW.rk (I : Inv X pins σ H s) : ∀ {v : V} {d : PyData} (_ : DW X.K H v d) (u : Value), RelV v u → okW d = true → d.shown.length ≤ sizeLine → ∃ bs, ReadAtMost s.heap d.depth bs ∧ ReprK X.prog X.w bs s.heap d.depth u d.shown
  | _, _, .non, _, r, _, _ => ⟨[], (fun _ q => by cases q), by rw [PyData.shown, (show _ = Value.none from r)]; exact .of_is ReprIs.none _ _ _⟩
  | _, _, .bl b, _, r, _, _ => ⟨[], (fun _ q => by cases q), by rw [PyData.shown, (show _ = Value.bool b from r)]; exact .of_is (ReprIs.bool b) _ _ _⟩
  | _, _, .int i, _, r, h, _ => by
    obtain ⟨t, rfl⟩ := r
    rw [okW] at h
    have := log_of (of_decide_eq_true h)
    exact ⟨[], (fun _ q => by cases q), by rw [PyData.shown]; exact .of_is (ReprIs.int t (by omega)) _ _ _⟩
  | _, _, .str x, _, r, _, hz => by
    obtain ⟨t, rfl⟩ := r
    rw [PyData.shown] at hz
    exact ⟨[], (fun _ q => by cases q), by rw [PyData.shown]; exact .of_is (ReprIs.str x t hz) _ _ _⟩
  | _, _, .lst h t, u, r, hok, hz => by
    have r' : u = Value.ref _ := r
    subst r'
    rw [okW] at hok
    rw [PyData.shown] at hz
    obtain ⟨its, rv, ⟨o, n, ho, hc, _, hd⟩, _⟩ := I.list h
    obtain ⟨as, hr⟩ := DWs.reads I t its rv
    obtain ⟨bs, hb, hk⟩ := DWs.rk I t its rv hok fun x hx => Nat.le_trans (listText_mem_le hx) hz
    have R := Reads.list ho hc hd hr
    have far := not_mem_of_deeper R (by rw [PyData.depth]; omega) hb
    refine ⟨_, ReadAtMost.cons R (by rw [PyData.depth]; omega) hb, ?_⟩
    rw [PyData.depth, PyData.shown]
    cases its with
    | nil =>
      cases rv
      cases t
      rw [PyData.shownAll, listText_nil]
      exact ReprK.listEmpty ho hc hd
    | cons y l => exact ReprK.list ho hc hd far (by rw [hk.length_eq]; rfl) fun i y e => hk.item i y (by rw [List.getElem?_toArray] at e; exact e)
  | _, _, .tup h t, u, r, hok, hz => by
    have r' : u = Value.ref _ := r
    subst r'
    rw [okW] at hok
    rw [PyData.shown] at hz
    obtain ⟨its, rv, ⟨o, ho, hc, n, hd⟩, _⟩ := I.tuple h
    obtain ⟨as, hr⟩ := DWs.reads I t its rv
    obtain ⟨bs, hb, hk⟩ := DWs.rk I t its rv hok fun x hx => Nat.le_trans (tupleText_mem_le hx) hz
    have R := Reads.tuple ho hc hd hr
    have far := not_mem_of_deeper R (by rw [PyData.depth]; omega) hb
    refine ⟨_, ReadAtMost.cons R (by rw [PyData.depth]; omega) hb, ?_⟩
    rw [PyData.depth, PyData.shown]
    exact ReprK.tuple ho hc hd far hk
  | _, _, .dic (D := D) h t1 t2, u, r, hok, hz => by
    have r' : u = Value.ref _ := r
    subst r'
    rw [okW] at hok
    obtain ⟨o1, o2⟩ := okWk_split hok
    rw [PyData.shown] at hz
    obtain ⟨_, sy, vs, rel, o, es, ep, h1, h2, h3, h4⟩ := I.hok _ _ h
    obtain ⟨rk, rvv⟩ := keys_vals (P := X.prog) (w := X.w) rel h4.2.1
    obtain ⟨as1, R1⟩ := DWs.reads I t1 _ rk
    obtain ⟨as2, R2⟩ := DWs.reads I t2 _ rvv
    obtain ⟨bs1, b1, k1⟩ := DWs.rk I t1 _ rk o1 fun t ht => let ⟨p, hp, hl⟩ := PyData.shownKv_key_le D t ht; Nat.le_trans hl (Nat.le_trans (dictText_mem_le hp) hz)
    obtain ⟨bs2, b2, k2⟩ := DWs.rk I t2 _ rvv o2 fun t ht => let ⟨p, hp, hl⟩ := PyData.shownKv_val_le D t ht; Nat.le_trans hl (Nat.le_trans (dictText_mem_le hp) hz)
    have R : Reads s.heap (.ref _) (.dict D) _ := Reads.dict h1 h2.1 h3 R1 R2
    have hb : ReadAtMost s.heap (PyData.depthKv D) (bs1 ++ bs2) := (b1.mono (PyData.depthAll_keys_le D)).append (b2.mono (PyData.depthAll_vals_le D))
    have far := not_mem_of_deeper R (by rw [PyData.depth]; omega) hb
    refine ⟨_, ReadAtMost.cons R (by rw [PyData.depth]; omega) hb, ?_⟩
    rw [PyData.depth, PyData.shown, PyData.shownKv_eq]
    exact ReprK.dict h1 h2.1 h3 sy far (ReprEntriesK.of_two es.toList _ _ (k1.more_le (fun b hb => List.mem_append_left _ hb) (PyData.depthAll_keys_le D)) (k2.more_le (fun b hb => List.mem_append_right _ hb) (PyData.depthAll_vals_le D)))
theorem DWs.rk (I : Inv X pins σ H s) : ∀ {vs : List V} {ds : List PyData} (_ : DWs X.K H vs ds) (us : List Value), Vals vs us → okWs ds = true → (∀ x ∈ PyData.shownAll ds, x.length ≤ sizeLine) → ∃ bs, ReadAtMost s.heap (PyData.depthAll ds) bs ∧ ReprAllK X.prog X.w bs s.heap (PyData.depthAll ds) us (PyData.shownAll ds)
  | _, _, .nil, _, r, _, _ => by
    cases r
    exact ⟨[], (fun _ q => by cases q), by rw [PyData.shownAll]; exact .nil⟩
  | _, _, .cons h1 h2, _, r, hok, hz => by
    cases r with
    | cons r1 r2 =>
      rw [okWs, Bool.and_eq_true] at hok
      rw [PyData.shownAll] at hz
      obtain ⟨p1, a1, k1⟩ := DW.rk I h1 _ r1 hok.1 (hz _ List.mem_cons_self)
      obtain ⟨p2, a2, k2⟩ := DWs.rk I h2 _ r2 hok.2 fun x hx => hz x (List.mem_cons_of_mem _ hx)
      rw [PyData.shownAll, PyData.depthAll]
      refine ⟨p1 ++ p2, fun b hm => ?_, .cons ((k1.more fun b hb => List.mem_append_left _ hb).level_le (by omega)) (k2.more_le (fun b hb => List.mem_append_right _ hb) (by omega))⟩
      rcases List.mem_append.mp hm with q | q
      · obtain ⟨e, f, r, g⟩ := a1 b q
        exact ⟨e, f, r, by omega⟩
      · obtain ⟨e, f, r, g⟩ := a2 b q
        exact ⟨e, f, r, by omega⟩
end
end
/-- repr of a list, a tuple or a dict of data -/
def rReprW (K : PySem.W.Frag) : List V → Hp → VK → Prop := fun xs H Q => ∃ (a : Addr) (d : PyData), xs = [.ref a] ∧ DW K H (.ref a) d ∧ okW d = true ∧ d.depth ≤ 40 ∧ szW d ≤ 1000000 ∧ Q (.str d.shown) H
section
variable {X : Cx}
theorem call_reprW (hg : X.A.guards = some []) (hu : X.A.units + 64 < cLine) : CallR X (.builtin "repr") (rReprW X.K) := by
  intro pins s σ H xs us Q I r h
  obtain ⟨a, d, rfl, hd, hok, hdep, hsz, q⟩ := h
  have hl : d.shown.length ≤ sizeLine := by
    have := shown_leW d hok
    rw [sizeLine_eq]
    omega
  obtain ⟨u, rfl, ru⟩ := vals1 r
  obtain rfl : u = Value.ref a := ru
  have kk : ∀ b o, s.heap.get? b = some o → s.heap.get? b = some o := fun _ _ e => e
  cases hd with
  | lst h t =>
    rename_i vs ds
    rw [okW] at hok
    rw [PyData.shown] at hl q
    rw [PyData.depth] at hdep
    obtain ⟨its, rv, ⟨o, n, ho, hc, _, hdt⟩, _⟩ := I.list h
    obtain ⟨as, hr⟩ := DWs.reads I t its rv
    obtain ⟨bs, hb, hk⟩ := DWs.rk I t its rv hok fun x hx => Nat.le_trans (listText_mem_le hx) hl
    have far := not_mem_of_deeper (Reads.list ho hc hdt hr) (by rw [PyData.depth]; omega) hb
    refine call_repr_slot (by omega) ⟨o, ho, hc⟩ F.slot_list_repr.toG ?_
    cases its with
    | nil =>
      cases rv
      cases t
      rw [PyData.shownAll, listText_nil] at q
      exact call_list_repr_empty ⟨o, ho, hc⟩ ho hdt ⟨_, _, rfl, .str _, H, I.tok _, ⟨_, rfl⟩, q⟩
    | cons y l =>
      exact call_list_reprK ho hc hdt far (by rw [hk.length_eq]; rfl) (fun i y e => hk.item i y (by rw [List.getElem?_toArray] at e; exact e)) hg (fun b _ => Clear.nil b) (by show X.A.units + 1 + _ < cLine; omega) kk
        (fun h' u tk k => ⟨_, _, rfl, .str _, H, I.kept k, ⟨_, rfl⟩, q⟩) hl
  | tup h t =>
    rename_i vs ds
    rw [okW] at hok
    rw [PyData.shown] at hl q
    rw [PyData.depth] at hdep
    obtain ⟨its, rv, ⟨o, ho, hc, n, hdt⟩, _⟩ := I.tuple h
    obtain ⟨as, hr⟩ := DWs.reads I t its rv
    obtain ⟨bs, hb, hk⟩ := DWs.rk I t its rv hok fun x hx => Nat.le_trans (tupleText_mem_le hx) hl
    have far := not_mem_of_deeper (Reads.tuple ho hc hdt hr) (by rw [PyData.depth]; omega) hb
    refine call_repr_slot (by omega) ⟨o, ho, hc⟩ F.slot_tuple_repr ?_
    exact call_tuple_reprK ho hc hdt far hk hg (fun b _ => Clear.nil b) (by show X.A.units + 1 + _ < cLine; omega) kk
      (fun h' u tk k => ⟨_, _, rfl, .str _, H, I.kept k, ⟨_, rfl⟩, q⟩) hl
  | dic h t1 t2 =>
    rename_i kvs D
    rw [okW] at hok
    obtain ⟨o1, o2⟩ := okWk_split hok
    rw [PyData.shown] at hl q
    rw [PyData.depth] at hdep
    obtain ⟨_, sy, vs, rel, o, es, ep, h1, h2, h3, h4⟩ := I.hok _ _ h
    obtain ⟨rk, rvv⟩ := keys_vals (P := X.prog) (w := X.w) rel h4.2.1
    obtain ⟨as1, R1⟩ := DWs.reads I t1 _ rk
    obtain ⟨as2, R2⟩ := DWs.reads I t2 _ rvv
    obtain ⟨bs1, b1, k1⟩ := DWs.rk I t1 _ rk o1 fun t ht => let ⟨p, hp, hl2⟩ := PyData.shownKv_key_le D t ht; Nat.le_trans hl2 (Nat.le_trans (dictText_mem_le hp) hl)
    obtain ⟨bs2, b2, k2⟩ := DWs.rk I t2 _ rvv o2 fun t ht => let ⟨p, hp, hl2⟩ := PyData.shownKv_val_le D t ht; Nat.le_trans hl2 (Nat.le_trans (dictText_mem_le hp) hl)
    have R : Reads s.heap (.ref a) (.dict D) _ := Reads.dict h1 h2.1 h3 R1 R2
    have hb : ReadAtMost s.heap (PyData.depthKv D) (bs1 ++ bs2) := (b1.mono (PyData.depthAll_keys_le D)).append (b2.mono (PyData.depthAll_vals_le D))
    have far := not_mem_of_deeper R (by rw [PyData.depth]; omega) hb
    rw [PyData.shownKv_eq] at hl q
    refine call_repr_slot (by omega) ⟨o, h1, h2.1⟩ F.slot_dict_repr ?_
    exact call_dict_reprK (d := PyData.depthKv D) (as := bs1 ++ bs2) h1 h2.1 h3 sy far (ReprEntriesK.of_two es.toList _ _ (k1.more_le (fun b hb => List.mem_append_left _ hb) (PyData.depthAll_keys_le D)) (k2.more_le (fun b hb => List.mem_append_right _ hb) (PyData.depthAll_vals_le D))) hg (fun b _ => Clear.nil b) (by show X.A.units + 1 + _ < cLine; omega) kk
      (fun h' u tk k => ⟨_, _, rfl, .str _, H, I.kept k, ⟨_, rfl⟩, q⟩) hl
end
/-! ### pins as a dict -/
theorem an_mem {ps : List (Int × Int)} {x a : Int} (h : anOf ps x = some a) : (x, a) ∈ ps := by
  unfold anOf at h
  cases q : ps.find? (fun e => decide (e.1 = x)) with
  | none => rw [q] at h; cases h
  | some e =>
    rw [q] at h
    have h2 := List.find?_some q
    have h1 : e.2 = a := Option.some.inj h
    have h3 : e.1 = x := of_decide_eq_true h2
    rw [← h1, ← h3]
    exact List.mem_of_find?_eq_some q
theorem nP {ps : List (Int × Int)} : ∀ x y, HO.dK (pinK ps) ≠ .dK (dk x y) := fun x y h => by
  have h := HO.dK.inj h
  unfold dk at h
  cases ps with
  | nil => cases h
  | cons e r =>
    have h2 : ((.inl e.1 : Key), V.int e.2) :: pinK r = [(.inr "digits", .int x), (.inr "mixed", .int y)] := h
    have h3 := congrArg Prod.fst (List.cons.inj h2).1
    cases h3
theorem pin_put {ps : List (Int × Int)} {x a : Int} (h : x ∉ ps.map Prod.fst) : putK (pinK ps) (.inl x : Key) (.int a) = pinK (ps ++ [(x, a)]) := by
  have hv : valV (pinK ps) (.inl x : Key) = none := by
    rw [val_pin]
    cases q : anOf ps x with
    | none => rfl
    | some b => exact absurd (List.mem_map.mpr ⟨_, an_mem q, rfl⟩) h
  rw [putK_new _ hv]
  unfold pinK
  rw [List.map_append]; rfl
theorem pin_len (ps : List (Int × Int)) : (pinK ps).length = ps.length := by unfold pinK; rw [List.length_map]
theorem cut_in {xs : List V} {lo hi : Option Int} {v : V} (h : v ∈ cutV xs lo hi) : v ∈ xs := by
  unfold cutV at h
  exact List.mem_of_mem_drop (List.mem_of_mem_take h)
/-! ### sorted, < of data -/
theorem each_vals {β : Type} {val : β → V} : ∀ {bs : List β} {us : List Value}, Vals (bs.map val) us → PySem.W.EachIs (fun u b => RelV (val b) u) us bs
  | [], _, .nil => .nil
  | _ :: _, _, .cons r t => .cons r (each_vals t)
theorem vals_each {β : Type} {val : β → V} : ∀ {us : List Value} {bs : List β}, PySem.W.EachIs (fun u b => RelV (val b) u) us bs → Vals (bs.map val) us
  | _, _, .nil => .nil
  | _, _, .cons r t => .cons r (vals_each t)
/-- sorted(xs) of data that can be compared -/
def rSortD (K : PySem.W.Frag) : List V → Hp → VK → Prop := fun xs H Q => ∃ (a : Addr) (β : Type) (bs : List β) (enc : β → PyData) (val : β → V), xs = [.ref a] ∧ SqL K H a (bs.map val) ∧ (∀ b ∈ bs, DV K H (val b) (enc b)) ∧ PySem.W.AllAlike (bs.map enc) ∧ PySem.W.Sortable (bs.map enc) ∧ (∀ b ∈ bs, (enc b).depth ≤ 40) ∧
  ∀ p, H p = none → Q (.ref p) (upd H p (.lst ((bs.mergeSort (PySem.W.dataLe false enc)).map val)))
section
variable {X : Cx}
theorem each_reads {β : Type} {enc : β → PyData} {val : β → V} {pins : List (Addr × Obj)} {σ : L2.St} {H : Hp} {s : Shared} (I : L2.Inv X pins σ H s) : ∀ {us : List Value} {bs : List β}, PySem.W.EachIs (fun u b => RelV (val b) u) us bs → (∀ b ∈ bs, DV X.K H (val b) (enc b)) → PySem.W.EachIs (fun u b => ∃ as, Reads s.heap u (enc b) as) us bs
  | _, _, .nil, _ => .nil
  | _, _, .cons r t, h => .cons (DV.reads I _ _ _ (h _ List.mem_cons_self) r) (each_reads I t fun b hb => h b (List.mem_cons_of_mem _ hb))
theorem call_sortD (hu : X.A.units + 64 < cLine) : CallR X (.builtin "sorted") (rSortD X.K) := by
  intro pins s σ H xs us Q I r h
  obtain ⟨a, β, bs, enc, val, rfl, hS, hd, hal, hk, hdep, q⟩ := h
  obtain ⟨its, rv, hl, hz⟩ := I.list hS
  obtain ⟨u, rfl, ru⟩ := vals1 r
  obtain rfl : u = Value.ref a := ru
  have e := each_vals rv
  rw [List.length_map] at hz
  refine PySem.W.sorted_data (R := fun u b => RelV (val b) u) (vs := its) hl.isList e (each_reads I e hd) hal hk hz (fun b hb => by have := hdep b hb; omega) fun out hlen hout => ?_
  obtain ⟨n, hn⟩ := sortedAll_at s.heap its out.toArray
  have hle : s.heap.objs.size ≤ s.heap.objs.size + 1 := Nat.le_succ _
  refine ⟨.ref (s.heap.objs.size + 1), upd H (s.heap.objs.size + 1) (.lst ((bs.mergeSort (PySem.W.dataLe false enc)).map val)), I.laid (t' := s.toks) (fun b o e => sortedAll_old e) hle ⟨?_, out, n, vals_each hout, hn⟩, rfl, q _ (I.hok.fresh hle)⟩
  rw [List.length_map, List.length_mergeSort]
  exact hz
/-- x < y of data that can be compared -/
def rLtD (K : PySem.W.Frag) : R2 := fun x y H Q => ∃ dx dy : PyData, DV K H x dx ∧ DV K H y dy ∧ PySem.W.alike dx dy = true ∧ dx ≠ .none ∧ dx.depth ≤ 40 ∧ Q (.bl (PySem.W.dataLt dx dy)) H
theorem op_ltD (hu : X.A.units + 64 < cLine) : OpR X (compareOp .Lt) (rLtD X.K) := by
  intro pins s σ H x y v u Q I rx ry h
  obtain ⟨dx, dy, hx, hy, ha, hn, hdp, q⟩ := h
  obtain ⟨as, r1⟩ := DV.reads I _ _ _ hx rx
  obtain ⟨bs, r2⟩ := DV.reads I _ _ _ hy ry
  exact PySem.W.lt_data r1 r2 ha hn (by omega) ⟨.bl _, H, I, rfl, q⟩
end
/-! ### the places of the anchors -/
theorem idx_hit {R : List Int} {x : Int} (h : x ∈ R) : R[R.idxOf x]? = some x := by
  rw [List.getElem?_eq_getElem (List.idxOf_lt_length_of_mem h)]
  exact congrArg some (List.getElem_idxOf _)
theorem idx_miss : ∀ {R : List Int} {x z : Int} {m : Nat}, m < R.idxOf x → R[m]? = some z → z ≠ x
  | [], x, z, m, hm, hz => by simp at hz
  | y :: R, x, z, m, hm, hz => by
    by_cases e : y = x
    · subst e
      simp at hm
    · have hb : (y == x) = false := by simpa using e
      rw [List.idxOf_cons, hb, cond_false] at hm
      cases m with
      | zero => rw [← Option.some.inj hz]; exact e
      | succ m => exact idx_miss (R := R) (by omega) hz
theorem ix1 {ids : List Int} {x : Int} (hx : x ∈ ids) : (ids.map V.int)[ids.idxOf x]? = some (.int x) := by rw [List.getElem?_map, idx_hit hx]; rfl
theorem ix2 (x : Int) : eqV (.int x) (.int x) = true := by rw [eqV_int]; exact decide_eq_true rfl
theorem ix3 {ids : List Int} {x : Int} (m : Nat) (z : V) (hm : m < ids.idxOf x) (hz : (ids.map V.int)[m]? = some z) : eqV z (.int x) = false := by
  obtain ⟨z, hz2, rfl⟩ := int_at hz
  rw [eqV_int]
  exact decide_eq_false (idx_miss hm hz2)
theorem alike_int (x y : Int) : PySem.W.alike (.int x) (.int y) = true := by rw [PySem.W.alike]
theorem DVs.intsT {K : PySem.W.Frag} {H : Hp} : ∀ ks : List Int, DVs K H (ks.map V.int) (ks.map PyData.int)
  | [] => .nil
  | k :: r => .cons (.int k) (DVs.intsT r)
/-! ### dict(zip(xs, ys)) -/
inductive Zipped : List V → List V → List (Key × V) → Prop
  | nil1 {ys : List V} : Zipped [] ys []
  | nil2 {xs : List V} : Zipped xs [] []
  | cons {k : Key} {v : V} {xs ys : List V} {kvs : List (Key × V)} : Zipped xs ys kvs → Zipped (kV k :: xs) (v :: ys) ((k, v) :: kvs)
theorem zip_prs {P : Program} {w : World} {xs ys : List V} {kvs : List (Key × V)} (h : Zipped xs ys kvs) : ∀ {us ws : List Value}, Vals xs us → Vals ys ws →
    ∃ prs : List (Key × Value), KV kvs prs ∧ prs.length = min us.length ws.length ∧ ∀ (i : Nat) (key v : Value), us[i]? = some key → ws[i]? = some v → ∃ k, prs[i]? = some (k, v) ∧ (mixKind P w).is k key = true := by
  induction h with
  | nil1 =>
    intro us ws r1 r2
    cases r1
    exact ⟨[], .nil, by simp, fun i key v e _ => by simp at e⟩
  | nil2 =>
    intro us ws r1 r2
    cases r2
    exact ⟨[], .nil, by simp, fun i key v _ e => by simp at e⟩
  | cons t ih =>
    intro us ws r1 r2
    cases r1 with
    | cons a1 a2 =>
      cases r2 with
      | cons b1 b2 =>
        obtain ⟨prs, i1, i2, i3⟩ := ih a2 b2
        rename_i k0 v0 _ _ _ _ _ w0 _
        refine ⟨(k0, w0) :: prs, .cons ⟨rfl, b1⟩ i1, by rw [List.length_cons, List.length_cons, List.length_cons, i2]; omega, fun i key v e1 e2 => ?_⟩
        cases i with
        | zero =>
          obtain rfl := Option.some.inj e1
          obtain rfl := Option.some.inj e2
          exact ⟨_, rfl, kV_is a1⟩
        | succ i => exact i3 i key v e1 e2
theorem vals_len : ∀ {xs : List V} {us : List Value}, Vals xs us → xs.length = us.length
  | _, _, .nil => rfl
  | _, _, .cons _ t => congrArg Nat.succ (vals_len t)
def tDZip (K : PySem.W.Frag) (ta : TA) : TE := fun σ H Q => ta σ H fun vs H1 => ∃ (a b : Addr) (xs ys : List V) (kvs : List (Key × V)), vs = [.ref a, .ref b] ∧ SqL K H1 a xs ∧ SqL K H1 b ys ∧ Zipped xs ys kvs ∧
  ∀ p, H1 p = none → Q (.ref p) (upd H1 p (.dK (mergeK [] kvs)))
section
variable {X : Cx}
theorem pe_dictZip {e e2 : Expr} {ta : TA} {p p2 pos pos2 : Pos} (hc : X.calm = true) (hg : Gl X "dict") (hm : X.mg "dict" = none) (hg2 : Gl X "zip") (hm2 : X.mg "zip" = none) (ha : PA X [e, e2] ta)
    (hs0 : starEach [.Call (.Name "zip" p2) [e, e2] [] pos2] X.env = [(false, eval (.Call (.Name "zip" p2) [e, e2] [] pos2) X.env)] := by rfl)
    (hs : starEach [e, e2] X.env = (false, eval e X.env) :: starEach [e2] X.env := by rfl) (hpl : (backTo pos2 (starEach [e2] X.env)).any (·.1) = false := by rfl) :
    PE X (.Call (.Name "dict" p) [.Call (.Name "zip" p2) [e, e2] [] pos2] [] pos) (tDZip X.K ta) := by
  refine ⟨fun pins s σ H Q I h => ?_⟩
  refine wpAny_Call_Name_kw (ld_blt I hg hm boot_dict ?_)
  refine PyProof.Rows.callWith_type1 ?_ hs0 rfl
  rw [hs0]
  show wpAny _ _ (spliced [(false, eval (.Call (.Name "zip" p2) [e, e2] [] pos2) X.env)]) _ _ s
  refine Calls.spliced_cons ?_
  refine wpAny_Call_Name_kw (ld_blt I hg2 hm2 PyProof.Rows.boot_zip (PyProof.Rows.callWith_type1 (thn (ha.run pos2 pins s σ H _ I h) fun us s1 ⟨vs, H1, I1, r1, q1⟩ => ?_) hs hpl))
  obtain ⟨a, b, xs, ys, kvs, ex, hqx, hqy, hz0, q⟩ := q1
  subst ex
  obtain ⟨u1, u2, rfl, ra, rb⟩ := vals2 r1
  obtain rfl : u1 = Value.ref a := ra
  obtain rfl : u2 = Value.ref b := rb
  obtain ⟨its, rv, p1, sz1⟩ := I1.list hqx
  obtain ⟨its2, rv2, p3, sz2⟩ := I1.list hqy
  have la : a < s1.heap.objs.size := p1.lt
  have lb : b < s1.heap.objs.size := p3.lt
  refine call_zip_2 p1.isList p3.isList fun h' hz hTI hTO h1 h2 hsz hk => Calls.spliced_nil ?_
  obtain ⟨prs, k1, k2, k3⟩ := zip_prs (P := X.prog) (w := X.w) hz0 rv rv2
  have hl1 := Heap.IsList.at p1.isList (h' := h') fun o e => hk _ o e
  have hl2 := Heap.IsList.at p3.isList (h' := h') fun o e => hk _ o e
  refine PySem.call_dict_pairs (knd := mixKind X.prog X.w) (kvs := prs) (PairArg.zip (s1.heap.objs.size + 4) (s1.heap.objs.size + 2) (s1.heap.objs.size + 3) s1.heap.objs.size (s1.heap.objs.size + 1) a b (PySem.W.ktu_apart s1.heap.objs.size a b la lb) its.toArray its2.toArray) (I1.ok.hd hc)
    ⟨hz, hTI, ⟨_, _, hTO⟩, h1, h2, hl1, hl2⟩ ⟨by rw [k2]; simp, fun i key v hr => k3 i key v (by simpa using hr.1) (by simpa using hr.2)⟩ (by have e1 := vals_len rv; rw [List.size_toArray, List.size_toArray, ← e1]; exact Nat.le_trans (Nat.min_le_left _ _) sz1) fun h3 tk hd' hk3 => ?_
  have hle : s1.heap.objs.size ≤ h'.objs.size := by rw [hsz]; exact Nat.le_add_right _ _
  have hm : (h'.objs.size == sysModules) = false := beq_eq_false_iff_ne.mpr (Nat.ne_of_gt (Nat.lt_of_lt_of_le I1.big hle))
  have hlen : (mergeK [] kvs).length ≤ sizeLine := by
    refine Nat.le_trans (length_mergeK kvs []) ?_
    rw [List.length_nil, Nat.zero_add, k1.length, k2]
    have e1 := vals_len rv
    rw [← e1]
    exact Nat.le_trans (Nat.min_le_left _ _) sz1
  have kk : ∀ c o, s1.heap.get? c = some o → h3.get? c = some o := fun c o e => by
    have hlt := Heap.lt_size e
    refine hk3 c o ?_ (hk _ _ e)
    simp only [List.mem_cons, List.not_mem_nil, or_false, not_or]
    exact ⟨Nat.ne_of_lt (Nat.lt_of_lt_of_le hlt (Nat.le_add_right _ _)), Nat.ne_of_lt (Nat.lt_of_lt_of_le hlt (Nat.le_add_right _ _)), Nat.ne_of_lt hlt, Nat.ne_of_lt (Nat.lt_of_lt_of_le hlt (Nat.le_add_right _ _))⟩
  exact ⟨.ref h'.objs.size, upd H1 h'.objs.size (.dK (mergeK [] kvs)), I1.laid (t' := tk) kk hle (show ObjOk X.prog X.w _ _ _ (.dK (mergeK [] kvs)) from ⟨hlen, hm, merged [] prs, KV.merge k1 .nil, hd'⟩), rfl, q _ (I1.hok.fresh hle)⟩
end
/-! ### dicts of ids -/
theorem idx_of_at {l : List Int} (nd : l.Nodup) {i : Nat} {x : Int} (h : l[i]? = some x) : l.idxOf x = i := by
  obtain ⟨h1, h2⟩ := List.getElem?_eq_some_iff.mp h
  rw [← h2]
  exact nd.idxOf_getElem i h1
theorem an_of : ∀ {ps : List (Int × Int)}, (ps.map Prod.fst).Nodup → ∀ e ∈ ps, anOf ps e.1 = some e.2
  | [], _, e, h => by cases h
  | f :: ps, nd, e, h => by
    obtain ⟨n1, n2⟩ := List.nodup_cons.mp nd
    rcases List.mem_cons.mp h with q | q
    · subst q
      unfold anOf
      rw [List.find?_cons_of_pos (by exact decide_eq_true rfl)]
      rfl
    · have hne : ¬ f.1 = e.1 := fun z => n1 (by rw [z]; exact List.mem_map.mpr ⟨e, q, rfl⟩)
      have ih := an_of n2 e q
      unfold anOf at ih ⊢
      rw [List.find?_cons_of_neg (by intro z; exact hne (of_decide_eq_true z))]
      exact ih
theorem merge_freshP : ∀ (more acc : List (Key × V)), ((acc ++ more).map Prod.fst).Nodup → mergeK acc more = acc ++ more
  | [], acc, _ => by rw [List.append_nil]; rfl
  | p :: r, acc, h => by
    have hp : putK acc p.1 p.2 = acc ++ [p] := by
      unfold putK
      rw [if_neg]
      intro z
      obtain ⟨q, hq, e⟩ := List.any_eq_true.mp z
      have e := of_decide_eq_true e
      rw [List.map_append, List.map_cons] at h
      have := (List.nodup_append.mp h).2.2 q.1 (List.mem_map.mpr ⟨q, hq, rfl⟩) p.1 List.mem_cons_self
      exact this e
    show mergeK (putK acc p.1 p.2) r = _
    rw [hp, merge_freshP r (acc ++ [p]) (by rw [List.append_assoc]; exact h), List.append_assoc]
    rfl
/-! ### as data -/
def pinD (ps : List (Int × Int)) : List (PyData × PyData) := ps.map fun e => (.int e.1, .int e.2)
theorem pin_dw {K : PySem.W.Frag} {H : Hp} {d : Addr} {ps : List (Int × Int)} (h : H d = some (.dK (pinK ps))) : DW K H (.ref d) (.dict (pinD ps)) := by
  refine .dic h ?_ ?_
  · have e1 : (pinK ps).map (fun kv => kV kv.1) = (ps.map Prod.fst).map V.int := by unfold pinK; rw [List.map_map, List.map_map]; rfl
    have e2 : (pinD ps).map Prod.fst = (ps.map Prod.fst).map PyData.int := by unfold pinD; rw [List.map_map, List.map_map]; rfl
    rw [e1, e2]
    exact DWs.ints _
  · have e1 : (pinK ps).map Prod.snd = (ps.map Prod.snd).map V.int := by unfold pinK; rw [List.map_map, List.map_map]; rfl
    have e2 : (pinD ps).map Prod.snd = (ps.map Prod.snd).map PyData.int := by unfold pinD; rw [List.map_map, List.map_map]; rfl
    rw [e1, e2]
    exact DWs.ints _
theorem ints_okW : ∀ xs : List Int, (∀ z ∈ xs, 0 ≤ z ∧ z ≤ 1000000) → okWs (xs.map .int) = true ∧ szWs (xs.map .int) = xs.length * 305
  | [], _ => ⟨by rw [List.map_nil, okWs], by rw [List.map_nil, szWs]; rfl⟩
  | x :: r, h => by
    obtain ⟨i1, i2⟩ := ints_okW r fun z hz => h z (List.mem_cons_of_mem _ hz)
    have hx := h x List.mem_cons_self
    refine ⟨?_, ?_⟩
    · rw [List.map_cons, okWs, okW, i1, decide_eq_true (small_abs (by omega) (by omega))]; rfl
    · rw [List.map_cons, szWs, szW, i2, List.length_cons]; omega
theorem pins_okW : ∀ ps : List (Int × Int), (∀ e ∈ ps, (0 ≤ e.1 ∧ e.1 ≤ 1000000) ∧ 0 ≤ e.2 ∧ e.2 ≤ 1000000) → okWk (pinD ps) = true ∧ szWk (pinD ps) = ps.length * 610 ∧ PyData.depthKv (pinD ps) = 0
  | [], _ => ⟨by rw [pinD, List.map_nil, okWk], by rw [pinD, List.map_nil, szWk]; rfl, by rw [pinD, List.map_nil, PyData.depthKv]⟩
  | e :: r, h => by
    obtain ⟨i1, i2, i3⟩ := pins_okW r fun z hz => h z (List.mem_cons_of_mem _ hz)
    obtain ⟨h1, h2⟩ := h e List.mem_cons_self
    have eD : pinD (e :: r) = (.int e.1, .int e.2) :: pinD r := rfl
    rw [eD]
    refine ⟨?_, ?_, ?_⟩
    · rw [okWk, okW, okW, i1, decide_eq_true (small_abs (by omega) (by omega)), decide_eq_true (small_abs (by omega) (by omega))]; rfl
    · rw [szWk, szW, szW, i2, List.length_cons]; omega
    · rw [PyData.depthKv, PyData.depth, PyData.depth, i3]; rfl
structure RokW (d : PyData) : Prop where
  o : okW d = true
  dep : d.depth ≤ 40
  sz : szW d ≤ 1000000
theorem rok_list {ids : List Int} (hI : ∀ z ∈ ids, 0 ≤ z ∧ z ≤ 1000000) (hl : ids.length ≤ 300) : RokW (.list (ids.map .int)) := by
  obtain ⟨o1, o2⟩ := ints_okW ids hI
  refine ⟨by rw [okW]; exact o1, by rw [PyData.depth, PySem.W.depth_ints]; decide, by rw [szW, o2]; omega⟩
/-! ### for k, v in d.items(), the pairs not kept -/
def isT (T : Addr) (xs : List V) : Heap → Prop := fun h => ∃ its, Vals xs its ∧ IsTup h T its.toArray
section
variable {X : Cx} {pins : List (Addr × Obj)} {σ : L2.St} {H : Hp} {s : Shared}
theorem _root_.L2.Inv.drop {T : Addr} {φ : Heap → Prop} (I : L2.Inv X pins σ (upd H T (.ext φ)) s) (hT : H T = none) : L2.Inv X pins σ H s := by
  have up : ∀ {b : Addr} {u : HO}, H b = some u → (upd H T (.ext φ)) b = some u := fun {b u} e => by rw [upd_ne (ne_of_none e hT)]; exact e
  have down : ∀ {b : Addr}, (upd H T (.ext φ)) b = none → H b = none := fun {b} e => by
    by_cases z : b = T
    · rw [z]; exact hT
    · rw [upd_ne z] at e; exact e
  have back : ∀ {b : Addr} {u : HO}, (upd H T (.ext φ)) b = some u → (∀ ψ, u ≠ .ext ψ) → H b = some u := fun {b u} e n => by
    by_cases z : b = T
    · rw [z, upd_same] at e
      exact absurd (Option.some.inj e).symm (n φ)
    · rw [upd_ne z] at e; exact e
  refine ⟨I.ok, I.os, I.bare, ⟨I.base.keep, I.base.slot, fun b o e n hx => down (I.base.free b o e n hx), I.base.there, fun b xs e => back (I.base.tups b xs e) (fun _ z => by cases z), fun b o u e => back (I.base.frzs b o u e) (fun _ z => by cases z), fun b ps e => ?_⟩,
    I.loc, I.cell, down I.free, fun x c e => down (I.freeC x c e), fun p hp => ?_, fun b u e => ?_, I.len⟩
  · obtain ⟨more, q⟩ := I.base.tbls b ps e
    exact ⟨more, back q (fun _ z => by cases z)⟩
  · obtain ⟨h1, h2, h3⟩ := I.pin p hp
    exact ⟨h1, down h2, h3⟩
  · exact (I.hok b u (up e)).stay (fun _ _ _ q => q) (fun c q => back q (fun _ z => by cases z)) fun c xs q => back q (fun _ z => by cases z)
end
def gTupE (n : Nat) (t : TGs) : TG := fun v σ H' Q => ∃ (T : Addr) (xs : List V) (H : Hp), v = .ref T ∧ H T = none ∧ H' = upd H T (.ext (isT T xs)) ∧ xs.length = n ∧ t xs σ H Q
def ItiE (d : Addr) (o : Obj) (kvs : List (Key × V)) : It :=
  ⟨fun i H => H d = some (.frz o (.dK kvs)) ∧ i < kvs.length, fun i H x H' => ∃ T k v, kvs[i]? = some (k, v) ∧ x = .ref T ∧ H T = none ∧ H' = upd H T (.ext (isT T [kV k, v])), fun i H => H d = some (.frz o (.dK kvs)) ∧ kvs.length ≤ i⟩
def iItemsE (td : TE) : TI := fun σ H R => td σ H fun x H1 => ∃ d o kvs, x = .ref d ∧ H1 d = some (.frz o (.dK kvs)) ∧ R (ItiE d o kvs) H1
section
variable {X : Cx}
theorem pg_tupE {es : List Expr} {k : Nat} {t : TGs} {n : Nat} {pos : Pos} (hc : X.calm = true) (h : PGs X es t)
    (hn : (assignEach es X.env).length = n := by rfl) (hst : (assignEach es X.env).findIdx? (·.1) = none := by rfl) : PG X (.Tuple es k pos) (gTupE n t) := by
  refine ⟨fun pins s σ H v u Q I r hw => ?_⟩
  obtain ⟨T, xs, H0, e1, hT, e2, hl, hw⟩ := hw
  subst e1
  subst e2
  cases r
  obtain ⟨⟨its, rv, ht⟩, _, _⟩ : ObjOk X.prog X.w (upd H0 T (.ext (isT T xs))) s.heap T (.ext (isT T xs)) := I.hok T _ upd_same
  have I0 := I.drop hT
  refine assign_Tuple_tuple (I.ok.hd hc) ht (by simp [hn, ← hl, rv.length]) hst fun h' hx => ?_
  have I1 : L2.Inv X pins σ H0 { s with heap := h' } := I0.kept (t' := s.toks) fun b o e => hx b o (Nat.ne_of_lt (Heap.lt_size e)) e
  exact h.run pins _ σ H0 xs _ Q I1 (by simpa using rv) hw
end
section
variable {P : Program} {w : World} {K : PySem.W.Frag} {d : Addr} {o : Obj} {es : Array DictEntry} {ep : Nat}
theorem turn_itemsE {kvs : List (Key × V)} {elts : List Expr} {kk : Nat} {tpos : Pos} (it : Addr) (hod : o.data = .dict es ep) :
    Turn P w K (.Tuple elts kk tpos) (ItiE d o kvs) [it] it (fun i h => ∃ ok ov, IsItemIter h it d i kvs.length ep ok ov) where
  mem := by simp
  obj := fun i h st b hb => by
    have e : b = it := by simpa using hb
    subst e
    obtain ⟨ok, ov, e⟩ := st
    exact ⟨_, e, fun v z => nomatch z⟩
  keep := fun i h h' st k => let ⟨ok, ov, e⟩ := st; ⟨ok, ov, k it (by simp) _ e⟩
  item := by
    intro X hP hw hK hc i pins s σ H E I hf st hg
    subst hP hw hK
    obtain ⟨hd, hi⟩ := hg
    obtain ⟨hs, hgd, hx, es', ep', vs, hdt, hsz, kv, hm⟩ := I.frzK hd
    obtain ⟨rfl, rfl⟩ := dict_ep hod hdt
    obtain ⟨⟨k, v⟩, hkv⟩ : ∃ p, kvs[i]? = some p := ⟨kvs[i], List.getElem?_eq_getElem hi⟩
    obtain ⟨u, hu, ru⟩ := kv_get kv hkv
    have hl : kvs.length = vs.length := Paired.length kv
    obtain ⟨ok, ov, he⟩ := st
    rw [hl] at he
    have hlt : it < s.heap.objs.size := Heap.lt_size he
    refine wpAny_pyNext_items_item he hm hu fun key h' hkey ho hT hz hk => ?_
    refine ⟨_, rfl, wpAny_letOwnedTupleGo_items (s := { s with heap := h' }) ho fun h'' he' sb => ?_⟩
    have hT2 : h''.get? s.heap.objs.size = some { cls := .type "tuple", data := .seq #[key, u] } := (sb.2 _ (Nat.ne_of_gt hlt)).trans hT
    have new : ObjOk X.prog X.w (upd H s.heap.objs.size (.ext (isT s.heap.objs.size [kV k, v]))) h'' s.heap.objs.size (.ext (isT s.heap.objs.size [kV k, v])) :=
      ⟨⟨[key, u], .cons (relV_key (show keyIs k key = true from hkey)) (.cons ru .nil), ⟨_, hT2, rfl, _, rfl⟩⟩, ⟨_, hT2⟩, fun h1 h2 ⟨its, rv, ob, e, c⟩ kk => ⟨its, rv, ob, kk _ e, c⟩⟩
    have I1 : L2.Inv X pins σ (upd H s.heap.objs.size (.ext (isT s.heap.objs.size [kV k, v]))) { s with heap := h'' } :=
      I.turnedNew (t' := s.toks) (ch := [it]) (fun b ob hb e => (sb.2 b (by simpa using hb)).trans (hk b ob (by simpa using hb) e)) hf (Nat.le_refl _) new
    refine ⟨.ref s.heap.objs.size, _, I1, rfl, ⟨_, k, v, hkv, rfl, I.hok.fresh (Nat.le_refl _), rfl⟩, ⟨key, u, ?_⟩, fun b hb => ?_⟩
    · rw [hl]; exact he'
    · have e : b = it := by simpa using hb
      rw [e, upd_ne (Nat.ne_of_lt hlt)]
      exact (hf it (by simp)).1
  done := by
    intro X hP hw hK hc i pins s σ H E I hf st hg
    subst hP hw hK
    obtain ⟨hd, hi⟩ := hg
    obtain ⟨f0, f1, f2, f3, f4, f5⟩ := hf it (by simp)
    obtain ⟨hs, hgd, hx, es', ep', vs, hdt, hsz, kv, hm⟩ := I.frzK hd
    obtain ⟨rfl, rfl⟩ := dict_ep hod hdt
    have hl : kvs.length = vs.length := Paired.length kv
    obtain ⟨ok, ov, he⟩ := st
    rw [hl] at he
    exact wpAny_pyNext_items_end (I.ok.hd hc) he hm (List.getElem?_eq_none (by omega)) fun h' eb => ⟨rfl, I.turned (t' := s.toks) (fun b ob hb e => eb b ob hb e) f0 f1 f3 f4 f5⟩
  self := fun A i s Q E st h => let ⟨_, _, e⟩ := st; PySem.W.kcp_self e h
end
section
variable {X : Cx} {e : Expr} {td : TE} {apos cpos : Pos}
theorem pi_itemsE {elts : List Expr} {kk : Nat} {tpos : Pos} (he : PE X e td) (hbase : attributeBase e "items" X.env (eval e X.env) = eval e X.env := by rfl) (hline : (apos.endLine == cpos.line) = true := by rfl) :
    PI X (.Tuple elts kk tpos) (.Call (.Attribute e "items" apos) [] [] cpos) (iItemsE td) := by
  refine ⟨fun pins s σ H R I h => ?_⟩
  refine wpAny_Call_method (T := "dict") (id := "dict.items") hbase rfl hline F.plainAttrs_dict F.slot_dict_items F.type_dict_items (thn (he.run pins s σ H _ I h) fun u s1 ⟨x, H1, I1, rx, d, o, kvs, ex, hd, q⟩ => ?_)
  subst ex
  obtain rfl : u = Value.ref d := rx
  obtain ⟨hs, hgd, hx, es, ep, vs, hdt, hsz, kv, hm⟩ := I1.frzK hd
  have hl : kvs.length = vs.length := Paired.length kv
  refine ⟨hm.dictOf.typeIs, hm.dictOf.mapOf.noDict, ?_⟩
  have I2 : L2.Inv X pins σ H1 { s1 with heap := s1.heap.push { cls := .type "dict_items", data := .fields #[.ref d] } } := I1.kept (t' := s1.toks) fun b ob q => Heap.get?_push_of_some _ q
  have fin : wpAny (model X.prog X.w) X.A (pyIter (.ref s1.heap.objs.size)) (PIE X pins σ (.Tuple elts kk tpos) R) X.xe { s1 with heap := s1.heap.push { cls := .type "dict_items", data := .fields #[.ref d] } } := by
    refine wpAny_pyIter_items (d := d) (knd := mixKind X.prog X.w) ⟨_, Heap.get?_push_size _ rfl, rfl, rfl⟩ (hm.push _) (pi_one (tk := s1.toks) I2 _ (turn_itemsE _ hdt) ⟨.none, .none, ?_⟩ q)
    rw [hl]
    exact Heap.get?_push_size _ rfl
  show wpAny _ _ (callWith cpos (.builtin "dict.items") [.ref d] [] []) _ X.xe s1
  exact method_meetsIn F.slot_dict_items F.entry_dict_items rfl (PySem.evalArgs_none ⟨rfl, hm.dictOf.typeIs, F.args_dict_items_1 _, _, meets_dict_items (mixKind X.prog X.w) d hs, ⟨vs, hm.dictOf⟩, fin⟩)
end
/-- the walk over all items -/
theorem walk_itemsE {d : Addr} {o : Obj} {kvs : List (Key × V)} : Walk (ItiE d o kvs) kvs.length (fun H => H d = some (.frz o (.dK kvs))) (fun i H x H' => ∃ T k v, kvs[i]? = some (k, v) ∧ x = .ref T ∧ H T = none ∧ H' = upd H T (.ext (isT T [kV k, v]))) :=
  ⟨fun _ _ hi q => ⟨q, hi⟩, fun _ q => ⟨q, Nat.le_refl _⟩, fun _ _ _ _ _ _ y => y⟩
/-! ### dicts made by comprehensions -/
theorem dc_it {J : It} {n : Nat} {G : Hp → Prop} {Y : Nat → Hp → V → Hp → Prop} (w : Walk J n G Y) {g : TG} {tt : TT} {tk tv : TE} {vs : List Nat} {σ : L2.St} {H1 : Hp} {D : Addr} {Qd : Hp → Prop} (Pv : Nat → Hp → Prop) (h0 : Pv 0 (upd H1 D (.dK []))) (hG : ∀ i H, i ≤ n → Pv i H → G H)
    (hs : ∀ i x H H', i < n → Pv i H → Y i H x H' → g x (wipe σ vs) H' fun σ2 H2 => wipe σ2 vs = wipe σ vs ∧ tt σ2 H2 fun b H3 =>
      if b = true then tk σ2 H3 fun y H4 => tv σ2 H4 fun z H5 => ∃ kvs k, y = kV k ∧ H5 D = some (.dK kvs) ∧ kvs.length < sizeLine ∧ Pv (i + 1) (upd H5 D (.dK (putK kvs k z))) else Pv (i + 1) H3) (hd : ∀ H, Pv n H → Qd H) :
    ∃ W : Nat → Nat → Hp → Prop, (∃ m, W 0 m (upd H1 D (.dK []))) ∧ ∀ i m H, W i m H →
      (J.stop i H ∧ Qd H) ∨ (J.go i H ∧ ∃ Nx : Hp → Prop, (∀ H', Nx H' → ∃ m', m' < m ∧ W (i + 1) m' H') ∧ ∀ x H', J.yld i H x H' → g x (wipe σ vs) H' fun σ2 H2 => wipe σ2 vs = wipe σ vs ∧ tt σ2 H2 fun b H3 =>
        if b = true then tk σ2 H3 fun y H4 => tv σ2 H4 fun z H5 => ∃ kvs k, y = kV k ∧ H5 D = some (.dK kvs) ∧ kvs.length < sizeLine ∧ Nx (upd H5 D (.dK (putK kvs k z))) else Nx H3) := by
  refine ⟨fun i m H => m = n - i ∧ i ≤ n ∧ Pv i H, ⟨n, by simp, Nat.zero_le _, h0⟩, ?_⟩
  rintro i m H ⟨rfl, hi, p⟩
  have q := hG i H hi p
  by_cases hlt : i < n
  · refine .inr ⟨w.goes i H hlt q, Pv (i + 1), fun H' p' => ⟨n - (i + 1), by omega, rfl, hlt, p'⟩, fun x H' y => hs i x H H' hlt p (w.yields i H x H' hlt q y)⟩
  · have e : i = n := by omega
    subst e
    exact .inl ⟨w.stops H q, hd H p⟩
/-! ### numbers by ids -/
/-- f of each id -/
def tabP (f : Int → Int) (l : List Int) : List (Int × Int) := l.map fun x => (x, f x)
theorem tab_keys (f : Int → Int) (l : List Int) : (tabP f l).map Prod.fst = l := by unfold tabP; rw [List.map_map]; simp [Function.comp_def]
theorem tab_len (f : Int → Int) (l : List Int) : (tabP f l).length = l.length := by unfold tabP; rw [List.length_map]
theorem tab_an {f : Int → Int} {l : List Int} {x : Int} (h : x ∈ l) : anOf (tabP f l) x = some (f x) := by
  induction l with
  | nil => cases h
  | cons y r ih =>
    unfold anOf tabP
    rw [List.map_cons]
    by_cases e : y = x
    · subst e
      rw [List.find?_cons_of_pos (by exact decide_eq_true rfl)]; rfl
    · rw [List.find?_cons_of_neg (by intro z; exact e (of_decide_eq_true z))]
      rcases List.mem_cons.mp h with q | q
      · exact absurd q.symm e
      · exact ih q
theorem tab_snoc {f : Int → Int} {l : List Int} {i : Nat} {x : Int} (h : l[i]? = some x) : tabP f (l.take (i + 1)) = tabP f (l.take i) ++ [(x, f x)] := by
  unfold tabP
  rw [take_snoc h, List.map_append]; rfl
theorem tab_new {f : Int → Int} {l : List Int} {i : Nat} {x : Int} (nd : l.Nodup) (h : l[i]? = some x) : x ∉ (tabP f (l.take i)).map Prod.fst := by
  rw [tab_keys]
  intro q
  obtain ⟨j, hj⟩ := List.mem_iff_getElem?.mp q
  rw [List.getElem?_take] at hj
  split at hj
  · rename_i hji
    have e := (List.getElem?_inj (by have := (List.getElem?_eq_some_iff.mp h).1; omega) nd).mp (hj.trans h.symm)
    omega
  · cases hj
section
variable {P : Program} {w : World} {K : PySem.W.Frag} {mg : Str → Option Value} {base : Heap}
/-- places_of -/
def spPlaces (K : PySem.W.Frag) : Sp := fun vs H Q _ => ∃ (o : Addr) (ids : List Int), vs = [.ref o] ∧ SqL K H o (ids.map V.int) ∧ ids.Nodup ∧ ids.length ≤ 300 ∧
  ∀ (q : Addr) (H' : Hp), Same H H' → H q = none → H' q = some (.dK (pinK (tabP (ixI ids) ids))) → Q (.ref q) H'
theorem scPlaces : FnScope ["order", "row_id", "place"] ["order"] (defScope sPlaces) := ⟨rfl, rfl, rfl, by decide +kernel, rfl, by decide +kernel, by decide +kernel⟩
theorem ok_places {f : Addr} {fd : FuncData} (F : Fun K "places_of" "places_of" sPlaces f fd) (T : mg "enumerate" = none) : FnOk P w K mg base CX0 1 f fd ["order"] (spPlaces K) := by
  refine F.ok scPlaces (fun vs H Q E h => ?_) (fun cdv A outer s H vs Q E hr h => ?_)
  · obtain ⟨o, ids, rfl, _⟩ := h
    rfl
  · obtain ⟨o, ids, rfl, ho, nd, hlen, k⟩ := h
    refine ⟨_, pss_one (ps_ret (pe_dc (own := [("place", 2), ("row_id", 1)]) (tt := tYes) (g := gTup K 2 (gCons (gName 2) (gCons (gName 1) gNil))) rfl scPlaces.nd (pi_enum (by rfl) T (pa_cons (pv 0) pa_nil)) (blkOk_by (N := ["order", "row_id", "place"]) (sc := defScope sPlaces) (by decide +kernel))
        (fun _ _ _ _ _ => pg_tup rfl (pgs_cons (pg_name (i := 2) scPlaces.nd rfl (Or.inl rfl)) (pgs_cons (pg_name (i := 1) scPlaces.nd rfl (Or.inl rfl)) pgs_nil))) (fun _ _ _ _ _ => pts_nil) (fun _ _ _ _ _ => pv 1) (fun _ _ _ _ _ => pv 2))), ?_⟩
    have h16 : sizeLine = 16777216 := sizeLine_eq
    refine ⟨_, rfl, o, _, rfl, ho, fun D hD => ?_⟩
    refine dc_it (walk_enum (K := K) (a := o) (xs := ids.map V.int)) (fun i H' => Same H H' ∧ i ≤ ids.length ∧ H' D = some (.dK (pinK (tabP (ixI ids) (ids.take i))))) ⟨Same.new hD, Nat.zero_le _, by rw [List.take_zero]; exact upd_same⟩ (fun i H' _ q => q.1.seq ho) ?_ ?_
    · rintro i y H1 H2 hi ⟨s1, hil, hP⟩ ⟨T0, x', y', rfl, hT, rfl, e1, e2⟩
      rw [List.length_map] at hi
      obtain rfl := Option.some.inj e1
      obtain ⟨x, hx, rfl⟩ := int_at e2
      refine ⟨T0, _, rfl, SqT.of upd_same, rfl, _, _, rfl, _, _, rfl, rfl, rfl, ?_⟩
      have s2 := Same.new (o := .tup [.int (i : Int), .int x]) hT
      refine ⟨_, rfl, _, rfl, pinK (tabP (ixI ids) (ids.take i)), .inl x, rfl, s2 _ _ hP, by rw [pin_len, tab_len, List.length_take, h16]; omega, fun b u e => by rw [upd_ne (ne_of_none e hD)]; exact s2 _ _ (s1 _ _ e), hi, ?_⟩
      have ei : ixI ids x = (i : Int) := by unfold ixI; rw [idx_of_at nd hx]
      rw [upd_same, pin_put (tab_new nd hx), tab_snoc hx, ei]
    · rintro H1 ⟨s1, _, hP⟩
      rw [List.length_map, List.take_length] at hP
      exact k D H1 s1 hD hP
/-- weights: none, or a dict -/
def WtAt (H : Hp) (v : V) (wo : Option (List (Int × Int))) : Prop := (v = .non ∧ wo = none) ∨ ∃ d ws, v = .ref d ∧ wo = some ws ∧ H d = some (.dK (pinK ws))
def wtI (wo : Option (List (Int × Int))) (x : Int) : Int := match wo with
  | none => 1
  | some ws => (anOf ws x).getD 1
theorem WtAt.same {H H' : Hp} {v : V} {wo : Option (List (Int × Int))} (s : Same H H') (h : WtAt H v wo) : WtAt H' v wo := by
  rcases h with h | ⟨d, ws, h1, h2, h3⟩
  · exact .inl h
  · exact .inr ⟨d, ws, h1, h2, s _ _ h3⟩
def spFull (K : PySem.W.Frag) : Sp := fun vs H Q _ => ∃ (o : Addr) (v : V) (ids : List Int) (wo : Option (List (Int × Int))), vs = [.ref o, v] ∧ SqL K H o (ids.map V.int) ∧ WtAt H v wo ∧ ids.Nodup ∧ ids.length ≤ 300 ∧
  ∀ (q : Addr) (H' : Hp), Same H H' → H q = none → H' q = some (.dK (pinK (tabP (wtI wo) ids))) → Q (.ref q) H'
theorem scFull : FnScope ["ids", "weights", "given", "row_id"] ["ids", "weights"] (defScope sFull) := ⟨rfl, rfl, rfl, by decide +kernel, rfl, by decide +kernel, by decide +kernel⟩
theorem ok_full {f : Addr} {fd : FuncData} (F : Fun K "full_weights" "full_weights" sFull f fd) : FnOk P w K mg base CX0 1 f fd ["ids", "weights"] (spFull K) := by
  refine F.ok scFull (fun vs H Q E h => ?_) (fun cdv A outer s H vs Q E hr h => ?_)
  · obtain ⟨o, v, ids, wo, rfl, _⟩ := h
    rfl
  · obtain ⟨o, v, ids, wo, rfl, ho, hw, nd, hlen, k⟩ := h
    have hu := hu_of hr
    refine ⟨_, pss_cons (ps_set (i := 2) scFull.nd rfl (Or.inr rfl) (pe_ifExp (pt_cmpR op_isN (pv 1) pe_non (nomark _)) pe_dnewK (pv 1)))
      (pss_one (ps_ret (pe_dc (own := [("row_id", 3)]) (tt := tYes) (g := gName 3) rfl scFull.nd (pi_list (pv 0)) (blkOk_by (N := ["ids", "weights", "given", "row_id"]) (sc := defScope sFull) (by decide +kernel))
        (fun _ _ _ _ _ => pg_name (i := 3) scFull.nd rfl (Or.inl rfl)) (fun _ _ _ _ _ => pts_nil) (fun _ _ _ _ _ => pv 3) (fun _ _ _ _ _ => pe_dget2 hu (pv 2) (pv 3) pe_int ⟨rfl, rfl, rfl, rfl⟩)))), ?_⟩
    have h16 : sizeLine = 16777216 := sizeLine_eq
    have go : ∀ (g : Addr) (ws : List (Int × Int)) (H1 : Hp), Same H H1 → H1 g = some (.dK (pinK ws)) → (∀ x, wtI wo x = (anOf ws x).getD 1) →
        (tRet (tDc (iList (cxOf CX0 P w K mg base ["ids", "weights", "given", "row_id"] "full_weights" (defScope sFull) f cdv A outer s H E).K (tVar 0)) (gName 3) tYes (tVar 3) (tDGet2 (tVar 2) (tVar 3) (tC (.int 1))) [3])) { nx := fun _ H' => Q .non H', rt := Q } [some (.ref o), some v, some (.ref g), none] H1 := by
      intro g ws H1 s1 hg hwt
      refine ⟨_, rfl, o, rfl, ⟨_, s1.seq ho⟩, fun D hD => ?_⟩
      refine dc_it (walk_list (K := K) (a := o) (xs := ids.map V.int)) (fun i H' => Same H1 H' ∧ i ≤ ids.length ∧ H' D = some (.dK (pinK (tabP (wtI wo) (ids.take i))))) ⟨Same.new hD, Nat.zero_le _, by rw [List.take_zero]; exact upd_same⟩ (fun i H' _ q => (s1.trans q.1).seq ho) ?_ ?_
      · rintro i y H2 H3 hi ⟨s2, hil, hP⟩ ⟨rfl, e2⟩
        rw [List.length_map] at hi
        obtain ⟨x, hx, rfl⟩ := int_at e2
        refine ⟨rfl, _, rfl, _, rfl, g, rfl, .inl ⟨_, .inl (s2 _ _ hg)⟩, _, rfl, _, DGet.k (k := (.inl x : Key)) (s2 _ _ hg), ?_⟩
        have ev : (valV (pinK ws) (.inl x : Key)).getD (.int 1) = .int (wtI wo x) := by
          rw [val_pin, hwt]
          cases anOf ws x <;> rfl
        rw [ev]
        refine ⟨pinK (tabP (wtI wo) (ids.take i)), .inl x, rfl, hP, by rw [pin_len, tab_len, List.length_take, h16]; omega, fun b u e => by rw [upd_ne (ne_of_none e hD)]; exact s2 _ _ e, hi, ?_⟩
        rw [upd_same, pin_put (tab_new nd hx), tab_snoc hx]
      · rintro H2 ⟨s2, _, hP⟩
        rw [List.length_map, List.take_length] at hP
        exact k D H2 (s1.trans s2) (Same.free s1 hD) hP
    rcases hw with ⟨rfl, rfl⟩ | ⟨d, ws, rfl, rfl, hd⟩
    · refine ⟨_, rfl, rfl, _, rfl, iteT ?_⟩
      intro p hp
      exact go p [] _ (Same.new hp) upd_same fun x => rfl
    · refine ⟨_, rfl, rfl, _, rfl, iteF ⟨_, rfl, ?_⟩⟩
      exact go d ws H (Same.refl H) hd fun x => rfl
end
/-! ### favoured_worths -/
def worthI (wo : Option (List (Int × Int))) (n : Nat) (fav : List Int) (x : Int) : Int := wtI wo x * ((n : Int) + 1) + (if x ∈ fav then 1 else 0)
structure TxtW (mg : Str → Option Value) : Prop where
  set : mg "set" = none
  len : mg "len" = none
section
variable {P : Program} {w : World} {K : PySem.W.Frag} {mg : Str → Option Value} {base : Heap}
def spFavs (K : PySem.W.Frag) : Sp := fun vs H Q _ => ∃ (g fv : Addr) (v : V) (ids fav : List Int) (wo : Option (List (Int × Int))), vs = [.ref g, v, .ref fv] ∧ SqL K H g (ids.map V.int) ∧ WtAt H v wo ∧ (SqL K H fv (fav.map V.int) ∨ SqT K H fv (fav.map V.int)) ∧ fav.length ≤ 4000 ∧ ids.Nodup ∧ ids.length ≤ 300 ∧ (∀ x ∈ ids, (wtI wo x).natAbs < 2 ^ 300) ∧
  ∀ (q : Addr) (H' : Hp), Same H H' → H q = none → H' q = some (.dK (pinK (tabP (worthI wo ids.length fav) ids))) → Q (.ref q) H'
abbrev NF : List Str := ["goal", "weights", "favoured", "liked", "full", "scale", "row_id"]
theorem scFavs : FnScope NF ["goal", "weights", "favoured"] (defScope sFavs) := ⟨rfl, rfl, rfl, by decide +kernel, rfl, by decide +kernel, by decide +kernel⟩
theorem ok_favs {f fF : Addr} {fd fdF : FuncData} (F : Fun K "favoured_worths" "favoured_worths" sFavs f fd) (T : TxtW mg) (GF : FnOk P w K mg base CX0 1 fF fdF ["ids", "weights"] (spFull K)) (kF : PySem.W.keepIn K (.ref fF) = true) (bF : L2.Binds K fdF ["ids", "weights"] []) (mF : mg "full_weights" = some (.ref fF)) :
    FnOk P w K mg base CX0 2 f fd ["goal", "weights", "favoured"] (spFavs K) := by
  refine F.ok scFavs (fun vs H Q E h => ?_) (fun cdv A outer s H vs Q E hr h => ?_)
  · obtain ⟨g, fv, v, ids, fav, wo, rfl, _⟩ := h
    rfl
  · obtain ⟨g, fv, v, ids, fav, wo, rfl, hg, hw, hf, hfl, nd, hlen, hwb, k⟩ := h
    have hu := hu_of hr
    refine ⟨_, pss_cons (ps_set (i := 3) scFavs.nd rfl (Or.inr rfl) (pe_callTy (cr_setI rfl) (by rfl) T.set (by decide +kernel) (pa_cons (pv 2) pa_nil)))
      (pss_cons (ps_set (i := 4) scFavs.nd rfl (Or.inr rfl) (pe_call GF hr rfl mF kF bF .nil pass0 (pa_cons (pv 0) (pa_cons (pv 1) pa_nil))))
      (pss_cons (ps_set (i := 5) scFavs.nd rfl (Or.inr rfl) (pe_op op_add (pe_callB call_len_seq (by rfl) T.len PySem.boot_len (pa_cons (pv 0) pa_nil)) pe_int))
      (pss_one (ps_ret (pe_dc (own := [("row_id", 6)]) (tt := tYes) (g := gName 6) rfl scFavs.nd (pi_list (pv 0)) (blkOk_by (N := NF) (sc := defScope sFavs) (by decide +kernel))
        (fun _ _ _ _ _ => pg_name (i := 6) scFavs.nd rfl (Or.inl rfl)) (fun _ _ _ _ _ => pts_nil) (fun _ _ _ _ _ => pv 6)
        (fun _ _ _ _ _ => pe_op op_add (pe_op op_mulG (pe_dget hu (pv 4) (pv 6) (fun _ _ => rfl)) (pv 5)) (pe_ifExp (pt_cmpR op_inSet (pv 6) (pv 3) (by rfl)) pe_int pe_int))))))), ?_⟩
    have h16 : sizeLine = 16777216 := sizeLine_eq
    refine ⟨_, rfl, fv, fav, rfl, hf, hfl, fun q S n hq hS hn => ?_⟩
    have s1 := Same.new (o := .set S n) hq
    have hS1 : (upd H q (.set S n)) q = some (.set S n) := upd_same
    generalize upd H q (.set S n) = H1 at s1 hS1 ⊢
    refine ⟨_, rfl, _, rfl, g, v, ids, wo, rfl, s1.seq hg, hw.same s1, nd, hlen, fun d H2 s2 hd hD => ?_⟩
    have s12 := s1.trans s2
    refine ⟨_, rfl, g, _, rfl, .inl (s12.seq hg), _, _, rfl, rfl, ?_⟩
    refine ⟨_, rfl, g, rfl, ⟨_, s12.seq hg⟩, fun D hDn => ?_⟩
    refine dc_it (walk_list (K := K) (a := g) (xs := ids.map V.int)) (fun i H' => Same H2 H' ∧ i ≤ ids.length ∧ H' D = some (.dK (pinK (tabP (worthI wo ids.length fav) (ids.take i))))) ⟨Same.new hDn, Nat.zero_le _, by rw [List.take_zero]; exact upd_same⟩ (fun i H' _ q => (s12.trans q.1).seq hg) ?_ ?_
    · rintro i y H3 H4 hi ⟨s3, hil, hP⟩ ⟨rfl, e2⟩
      rw [List.length_map] at hi
      obtain ⟨x, hx, rfl⟩ := int_at e2
      have hxm := List.mem_of_getElem? hx
      have dg : DGet H4 d (.int x) (some (.int (wtI wo x))) := by
        have := DGet.k (k := (.inl x : Key)) (s3 _ _ hD)
        rw [val_pin, tab_an hxm] at this
        exact this
      have hmul : IntMulOk (wtI wo x) (((ids.map V.int).length : Nat) + 1) := by
        refine mulOk_bits (a := 300) (b := 20) (bits_le (hwb x hxm)) (bits_le ?_) (by decide)
        rw [List.length_map]
        have : (2 : Nat) ^ 20 = 1048576 := by decide
        omega
      have fin : ∀ z : Int, z = (if x ∈ fav then 1 else 0) → ∃ kvs k, V.int x = kV k ∧ H4 D = some (.dK kvs) ∧ kvs.length < sizeLine ∧ (Same H2 (upd H4 D (.dK (putK kvs k (.int (wtI wo x * ((((ids.map V.int).length : Nat) : Int) + 1) + z))))) ∧ i + 1 ≤ ids.length ∧ (upd H4 D (.dK (putK kvs k (.int (wtI wo x * ((((ids.map V.int).length : Nat) : Int) + 1) + z))))) D = some (.dK (pinK (tabP (worthI wo ids.length fav) (ids.take (i + 1)))))) := by
        rintro z rfl
        refine ⟨pinK (tabP (worthI wo ids.length fav) (ids.take i)), .inl x, rfl, hP, by rw [pin_len, tab_len, List.length_take, h16]; omega, fun b u e => by rw [upd_ne (ne_of_none e hDn)]; exact s3 _ _ e, hi, ?_⟩
        rw [upd_same, pin_put (tab_new nd hx), tab_snoc hx, List.length_map]
        rfl
      refine ⟨rfl, _, rfl, _, rfl, _, rfl, d, _, rfl, dg, _, rfl, _, _, rfl, rfl, hmul, ?_⟩
      refine ⟨_, rfl, _, rfl, x, q, S, n, rfl, rfl, s3 _ _ (s2 _ _ hS1), _, rfl, ?_⟩
      have eS : (if false = true then !S x else S x) = decide (x ∈ fav) := hS.1 x
      rw [eS]
      refine ite2 (fun c => ?_) (fun c => ?_)
      · exact ⟨_, _, rfl, rfl, fin 1 (by rw [if_pos (of_decide_eq_true c)])⟩
      · exact ⟨_, _, rfl, rfl, fin 0 (by rw [if_neg (fun z => c (decide_eq_true z))])⟩
    · rintro H3 ⟨s3, _, hP⟩
      rw [List.length_map, List.take_length] at hP
      exact k D H3 (s12.trans s3) (Same.free s12 hDn) hP
end
/-! ### max(xs, default=d) -/
def maxI (d : Int) : List Int → Int
  | [] => d
  | n :: ns => ns.foldl max n
def rMaxDef (K : PySem.W.Frag) : List V → List V → Hp → VK → Prop := fun vs zs H Q => ∃ (a : Addr) (ns : List Int) (d : Int), vs = [.ref a] ∧ zs = [.int d] ∧ SqL K H a (ns.map V.int) ∧ Q (.int (maxI d ns)) H
theorem alike_allI (ns : List Int) : PySem.W.AlikeAll (ns.map .int) := by
  refine ⟨fun x hx y hy => ?_, fun x hx => ?_⟩
  · obtain ⟨a, _, rfl⟩ := List.mem_map.mp hx
    obtain ⟨b, _, rfl⟩ := List.mem_map.mp hy
    exact alike_int a b
  · obtain ⟨a, _, rfl⟩ := List.mem_map.mp hx
    exact fun z => by cases z
section
variable {X : Cx}
theorem cr_maxDef (hc : X.calm = true) (hu : X.A.units + 64 < cLine) : CallRK X (.builtin "max") [Str.ofString "default"] (rMaxDef X.K) := by
  intro pins s σ H vs zs us ws Q I r rz h
  obtain ⟨a, ns, d, rfl, rfl, hs, q⟩ := h
  obtain rfl := Vals.ref1 r
  obtain ⟨w1, rfl, t, rfl⟩ := vals1 rz
  obtain ⟨its, rv, hl, hz⟩ := I.list hs
  obtain ⟨as, hr⟩ := DVs.reads I _ _ _ (DVs.intsT (K := X.K) (H := H) ns) rv
  refine PySem.W.max_list_default (as := as) (I.ok.hd hc) hl.isList hr (alike_allI ns) (by rw [PySem.W.depth_ints]; omega) (fun e h' tk hk => ?_) fun y ys i v h' tk bs e hv hrd hk => ?_
  · have e0 : ns = [] := List.map_eq_nil_iff.mp e
    subst e0
    exact ⟨.int d, H, I.kept hk, ⟨t, rfl⟩, q⟩
  · cases ns with
    | nil => cases e
    | cons n ns =>
      rw [List.map_cons] at e
      obtain ⟨rfl, rfl⟩ := List.cons.inj e
      rw [PySem.W.maxD_ints] at hrd
      cases hrd
      exact ⟨.int _, H, I.kept hk, ⟨_, rfl⟩, q⟩
end
/-! ### top_levels -/
def levS (pl wf : Int → Int) (acc : List (Int × Int)) (x : Int) : Int × Int := (pl x, wf x + maxI 0 ((acc.filter fun e => decide (e.1 < pl x)).map Prod.snd))
def levF (pl wf : Int → Int) (l : List Int) : List (Int × Int) := l.foldl (fun acc x => acc ++ [levS pl wf acc x]) []
theorem lev_snoc (pl wf : Int → Int) (l : List Int) (x : Int) : levF pl wf (l ++ [x]) = levF pl wf l ++ [levS pl wf (levF pl wf l) x] := by
  unfold levF
  rw [List.foldl_append]; rfl
def topI (pl wf : Int → Int) (l : List Int) (x : Int) : Int := (levS pl wf (levF pl wf (l.take (l.idxOf x))) x).2
theorem lev_len (pl wf : Int → Int) (l : List Int) : (levF pl wf l).length = l.length := by
  have : ∀ (l : List Int) (acc : List (Int × Int)), (l.foldl (fun acc x => acc ++ [levS pl wf acc x]) acc).length = acc.length + l.length := by
    intro l
    induction l with
    | nil => intro acc; rfl
    | cons x r ih => intro acc; rw [List.foldl_cons, ih, List.length_append, List.length_cons, List.length_cons, List.length_nil]; omega
  have := this l []
  rw [List.length_nil, Nat.zero_add] at this
  exact this
/-- pairs of numbers, in a list -/
def PairsI (H : Hp) (D : Addr) (es : List (Addr × Int × Int)) : Prop := H D = some (.lst (es.map fun e => .ref e.1)) ∧ ∀ e ∈ es, H e.1 = some (.tup [.int e.2.1, .int e.2.2])
theorem PairsI.same {H H' : Hp} {D : Addr} {es : List (Addr × Int × Int)} (h : PairsI H D es) (s : Same H H') : PairsI H' D es := ⟨s _ _ h.1, fun e he => s _ _ (h.2 e he)⟩
theorem PairsI.push {H : Hp} {D t : Addr} {es : List (Addr × Int × Int)} {a b : Int} (h : PairsI H D es) (ht : H t = some (.tup [.int a, .int b])) : PairsI (upd H D (.lst (es.map (fun e => V.ref e.1) ++ [.ref t]))) D (es ++ [(t, a, b)]) := by
  obtain ⟨h1, h2⟩ := h
  refine ⟨by rw [upd_same, List.map_append]; rfl, fun e he => ?_⟩
  rcases List.mem_append.mp he with q | q
  · have a1 := h2 e q
    rw [upd_ne (ne_of a1 h1 (fun z => by cases z))]; exact a1
  · rw [List.mem_singleton.mp q]
    rw [upd_ne (ne_of ht h1 (fun z => by cases z))]; exact ht
theorem PairsI.put {H : Hp} {D x : Addr} {u o : HO} {es : List (Addr × Int × Int)} (h : PairsI H D es) (hx : H x = some u) (n1 : ∀ xs, HO.lst xs ≠ u) (n2 : ∀ xs, HO.tup xs ≠ u) : PairsI (upd H x o) D es :=
  ⟨by rw [upd_ne (ne_of h.1 hx (n1 _))]; exact h.1, fun e he => by rw [upd_ne (ne_of (h.2 e he) hx (n2 _))]; exact h.2 e he⟩
structure TxtM (mg : Str → Option Value) : Prop where
  max : mg "max" = none
section
variable {P : Program} {w : World} {K : PySem.W.Frag} {mg : Str → Option Value} {base : Heap}
def spTops (K : PySem.W.Frag) : Sp := fun vs H Q _ => ∃ (b g wd : Addr) (bs ids : List Int) (ws : List (Int × Int)) (wf : Int → Int), vs = [.ref b, .ref g, .ref wd] ∧ SqL K H b (bs.map V.int) ∧ SqL K H g (ids.map V.int) ∧ H wd = some (.dK (pinK ws)) ∧ (∀ x ∈ ids, anOf ws x = some (wf x)) ∧ bs.Nodup ∧ bs.length ≤ 300 ∧ ids.Nodup ∧ ids.length ≤ 300 ∧ (∀ x ∈ ids, x ∈ bs) ∧
  ∀ (q : Addr) (H' : Hp), Same H H' → H q = none → H' q = some (.dK (pinK (tabP (topI (ixI bs) wf ids) ids))) → Q (.ref q) H'
abbrev NT : List Str := ["base", "goal", "worths", "places", "found", "levels", "row_id", "place", "level", "before", "other"]
theorem scTops : FnScope NT ["base", "goal", "worths"] (defScope sTops) := ⟨rfl, rfl, rfl, by decide +kernel, rfl, by decide +kernel, by decide +kernel⟩
theorem ok_tops {f fP : Addr} {fd fdP : FuncData} (F : Fun K "top_levels" "top_levels" sTops f fd) (T : TxtM mg) (GP : FnOk P w K mg base CX0 1 fP fdP ["order"] (spPlaces K)) (kP : PySem.W.keepIn K (.ref fP) = true) (bP : L2.Binds K fdP ["order"] []) (mP : mg "places_of" = some (.ref fP)) :
    FnOk P w K mg base CX0 2 f fd ["base", "goal", "worths"] (spTops K) := by
  refine F.ok scTops (fun vs H Q E h => ?_) (fun cdv A outer s H vs Q E hr h => ?_)
  · obtain ⟨b, g, wd, bs, ids, ws, wf, rfl, _⟩ := h
    rfl
  · obtain ⟨b, g, wd, bs, ids, ws, wf, rfl, hb, hg, hw, hwf, nb, lb, nd, hlen, hsub, k⟩ := h
    have hu := hu_of hr
    have h64 := hu64 hr
    refine ⟨_, pss_cons (ps_set (i := 3) scTops.nd rfl (Or.inl rfl) (pe_call GP hr rfl mP kP bP .nil pass0 (pa_cons (pv 0) pa_nil)))
      (pss_cons (ps_set (i := 4) scTops.nd rfl (Or.inl rfl) (pe_lst pa_nil))
      (pss_cons (ps_set (i := 5) scTops.nd rfl (Or.inl rfl) pe_dnewK)
      (pss_cons (ps_for PassesOwn.never rfl (pi_list (pv 1)) (pg_name (i := 6) scTops.nd rfl (Or.inl rfl))
        (pss_cons (ps_set (i := 7) scTops.nd rfl (Or.inr rfl) (pe_dget hu (pv 3) (pv 6) (fun _ _ => rfl)))
        (pss_cons (ps_set (i := 8) scTops.nd rfl (Or.inl rfl) (pe_op op_add (pe_dget hu (pv 2) (pv 6) (fun _ _ => rfl)) (pe_callBK (cr_maxDef rfl h64) (by rfl) T.max (by decide +kernel)
            (pa_cons (pe_lc (own := [("before", 9), ("other", 10)]) (g := gTup K 2 (gCons (gName 9) (gCons (gName 10) gNil))) rfl scTops.nd (pi_list (pv 4)) (blkOk_by (N := NT) (sc := defScope sTops) (by decide +kernel))
              (fun _ _ _ _ _ => pg_tup rfl (pgs_cons (pg_name (i := 9) scTops.nd rfl (Or.inl rfl)) (pgs_cons (pg_name (i := 10) scTops.nd rfl (Or.inl rfl)) pgs_nil))) (fun _ _ _ _ _ => pts_one (pt_cmpR op_lt (pv 9) (pv 7) (nomark _))) (fun _ _ _ _ _ => pv 10)) pa_nil) (pk_cons pe_int pk_nil))))
        (pss_cons (ps_expr (pe_bm PySem.F.plainAttrs_list PySem.F.slot_list_append PySem.F.type_list_append mt_append (pv 4) (pa_cons (pe_tup (pa_cons (pv 7) (pa_cons (pv 8) pa_nil))) pa_nil)))
        (pss_one (ps_dput hu (pv 5) (pv 6) (pv 8) rfl))))))
      (pss_one (ps_ret (pv 5)))))), ?_⟩
    have h16 : sizeLine = 16777216 := sizeLine_eq
    refine ⟨_, rfl, b, bs, rfl, hb, nb, lb, fun pd H1 s1 hpd hP => ?_⟩
    refine ⟨Nat.zero_le _, fun fo hfo => fun ld hld => ?_⟩
    have nfl : fo ≠ ld := ne_of_none upd_same hld
    have hld1 : H1 ld = none := Same.free (Same.new (o := .lst []) hfo) hld
    obtain ⟨pl, hpl⟩ : ∃ pl, pl = ixI bs := ⟨_, rfl⟩
    rw [← hpl] at hP k
    have sfo := Same.new (o := .lst []) hfo
    have sld := Same.new (o := .dK []) hld
    have s2 : Same H1 (upd (upd H1 fo (.lst [])) ld (.dK [])) := sfo.trans sld
    refine ⟨_, rfl, g, rfl, ⟨_, (s1.trans s2).seq hg⟩, for_list (K := K) (a := g) (xs := ids.map V.int) (fun i σ H' => ∃ (es : List (Addr × Int × Int)) (v6 v7 v8 : Option V), σ = [some (.ref b), some (.ref g), some (.ref wd), some (.ref pd), some (.ref fo), some (.ref ld), v6, v7, v8, none, none] ∧ Same H1 H' ∧ PairsI H' fo es ∧
        es.map (fun e => e.2) = levF pl wf (ids.take i) ∧ H' ld = some (.dK (pinK (tabP (topI pl wf ids) (ids.take i)))) ∧ i ≤ ids.length)
      ⟨[], none, none, none, rfl, s2, ⟨sld _ _ upd_same, fun e h => by cases h⟩, by rw [List.take_zero]; rfl, by rw [List.take_zero]; exact upd_same, Nat.zero_le _⟩ (fun i σ H' _ ⟨_, _, _, _, _, s, _⟩ => (s1.trans s).seq hg) ?_ ?_⟩
    · rintro i y σ H3 hi ⟨es, v6, v7, v8, rfl, s3, hE, he, hL, hil⟩
      obtain ⟨x, hx, rfl⟩ := int_at (i := i) (by assumption)
      have hxm := List.mem_of_getElem? hx
      have hil2 : i < ids.length := (List.getElem?_eq_some_iff.mp hx).1
      have s13 := s1.trans s3
      have dgp : DGet H3 pd (.int x) (some (.int (pl x))) := by
        have := DGet.k (k := (.inl x : Key)) (s3 _ _ hP)
        rw [val_pin, tab_an (hsub x hxm)] at this
        exact this
      have dgw : DGet H3 wd (.int x) (some (.int (wf x))) := by
        have := DGet.k (k := (.inl x : Key)) (s13 _ _ hw)
        rw [val_pin, hwf x hxm] at this
        exact this
      have hel : es.length ≤ 300 := by
        have := congrArg List.length he
        rw [List.length_map, lev_len, List.length_take] at this
        omega
      refine ⟨_, rfl, _, rfl, pd, _, rfl, dgp, ?_⟩
      refine ⟨_, rfl, _, rfl, wd, _, rfl, dgw, _, rfl, fo, rfl, ⟨_, SqL.of hE.1⟩, fun D hD => ?_⟩
      refine lc_list (K := K) (a := fo) (xs := es.map fun e => V.ref e.1) (fun j H' => Same H3 H' ∧ H' D = some (.lst (((((es.take j).map fun e => e.2).filter fun e => decide (e.1 < pl x)).map Prod.snd).map V.int))) ⟨Same.new hD, by rw [List.take_zero]; exact upd_same⟩ (fun j H' _ q => SqL.of (q.1 _ _ hE.1)) ?_ ?_
      · rintro j y H4 hj ⟨s4, hA⟩
        obtain ⟨e, hej, rfl⟩ : ∃ e, es[j]? = some e ∧ y = V.ref e.1 := by
          rw [List.getElem?_map] at hj
          cases q : es[j]? with
          | none => rw [q] at hj; cases hj
          | some c => rw [q] at hj; exact ⟨c, rfl, (Option.some.inj hj).symm⟩
        have ht := s4 _ _ (hE.2 e (List.mem_of_getElem? hej))
        have hfl : ((((es.take j).map fun e => e.2).filter fun e => decide (e.1 < pl x)).map Prod.snd).length ≤ 300 := by
          rw [List.length_map]
          have := List.length_filter_le (fun e : Int × Int => decide (e.1 < pl x)) ((es.take j).map fun e => e.2)
          rw [List.length_map, List.length_take] at this
          omega
        refine ⟨e.1, _, rfl, SqT.of ht, rfl, _, _, rfl, _, _, rfl, rfl, rfl, _, rfl, _, rfl, _, _, rfl, rfl, _, rfl, ite2 (fun c => ?_) (fun c => ?_)⟩
        · have c : e.2.1 < pl x := of_decide_eq_true c
          refine ⟨_, rfl, _, hA, by rw [List.length_map, h16]; omega, fun b u q => by rw [upd_ne (ne_of_none q hD)]; exact s4 _ _ q, ?_⟩
          rw [upd_same, take_snoc hej, List.map_append, List.filter_append, List.map_append, List.map_append]
          congr 3
          show _ = ((([e.2] : List (Int × Int)).filter fun e => decide (e.1 < pl x)).map Prod.snd).map V.int
          rw [List.filter_cons_of_pos (by exact decide_eq_true c)]; rfl
        · have c : ¬ e.2.1 < pl x := fun z => c (decide_eq_true z)
          refine ⟨s4, ?_⟩
          rw [hA, take_snoc hej, List.map_append, List.filter_append]
          have : ([e].map fun e => e.2).filter (fun e => decide (e.1 < pl x)) = [] := by
            show ([e.2] : List (Int × Int)).filter (fun e => decide (e.1 < pl x)) = []
            rw [List.filter_cons_of_neg (by rw [decide_eq_false c]; exact fun z => by cases z)]; rfl
          rw [this, List.append_nil]
      · rintro H4 ⟨s4, hA⟩
        rw [List.length_map, List.take_length, he] at hA
        refine ⟨D, _, 0, rfl, rfl, SqL.of hA, _, _, rfl, rfl, ?_⟩
        have hE4 := hE.same s4
        have hL4 := s4 _ _ hL
        refine ⟨_, rfl, .inl ⟨rfl, _, SqL.of hE4.1⟩, _, rfl, _, rfl, by rw [h16]; show 2 ≤ 16777216; decide, fun t ht => ?_⟩
        have st := Same.new (o := .tup [.int (pl x), .int (wf x + maxI 0 (((levF pl wf (ids.take i)).filter fun e => decide (e.1 < pl x)).map Prod.snd))]) ht
        have hE5 := hE4.same st
        refine ⟨fo, _, _, rfl, rfl, hE5.1, by rw [List.length_map, h16]; omega, ?_⟩
        have hE6 := hE5.push upd_same
        have hL6 := st _ _ hL4
        have s6 := (s3.trans s4).trans st
        have hL7 : (upd (upd H4 t (.tup [.int (pl x), .int (wf x + maxI 0 (((levF pl wf (ids.take i)).filter fun e => decide (e.1 < pl x)).map Prod.snd))])) fo (.lst (es.map (fun e => V.ref e.1) ++ [.ref t]))) ld = some (.dK (pinK (tabP (topI pl wf ids) (ids.take i)))) := by rw [upd_ne nfl.symm]; exact hL6
        refine ⟨_, rfl, _, rfl, _, rfl, ld, _, rfl, DPut.k (k := (.inl x : Key)) hL7 (by rw [pin_len, tab_len, List.length_take, h16]; omega), ?_⟩
        rw [pin_put (tab_new nd hx)]
        refine ⟨es ++ [(t, pl x, wf x + maxI 0 (((levF pl wf (ids.take i)).filter fun e => decide (e.1 < pl x)).map Prod.snd))], _, _, _, rfl, fun c u q => ?_, hE6.put hL7 (fun _ z => by cases z) (fun _ z => by cases z), ?_, ?_, hil2⟩
        · rw [upd_ne (ne_of_none q hld1), upd_ne (ne_of_none q hfo)]
          exact s6 _ _ q
        · rw [List.map_append, he, take_snoc hx, lev_snoc]; rfl
        · rw [upd_same, tab_snoc hx]
          have : topI pl wf ids x = wf x + maxI 0 (((levF pl wf (ids.take i)).filter fun e => decide (e.1 < pl x)).map Prod.snd) := by
            unfold topI levS
            rw [idx_of_at nd hx]
          rw [this]
    · rintro σ H3 ⟨es, v6, v7, v8, rfl, s3, hE, he, hL, _⟩
      rw [List.length_map, List.take_length] at hL
      exact ⟨_, rfl, k ld H3 (s1.trans s3) (Same.free s1 hld1) hL⟩
end
/-! ### max(d.values(), default=d) -/
def valsO (p d : Addr) : HO := .ext fun h => h.IsValuesView p d
def rValsK : V → List V → Hp → VK → Prop := fun x xs H Q => ∃ (a : Addr) (kvs : List (Key × V)), x = .ref a ∧ xs = [] ∧ H a = some (.dK kvs) ∧ ∀ p, H p = none → Q (.ref p) (upd H p (valsO p a))
def rMaxV : List V → List V → Hp → VK → Prop := fun vs zs H Q => ∃ (p a : Addr) (kvs : List (Key × V)) (ns : List Int) (d : Int), vs = [.ref p] ∧ zs = [.int d] ∧ H p = some (valsO p a) ∧ H a = some (.dK kvs) ∧ kvs.map Prod.snd = ns.map V.int ∧ Q (.int (maxI d ns)) H
section
variable {X : Cx}
theorem mt_valsK : MtR X "dict.values" rValsK := by
  intro pins s σ H x xs v us Q I rx rxs h
  obtain ⟨a, kvs, rfl, rfl, ha, q⟩ := h
  cases rx
  cases rxs
  obtain ⟨_, hsys, vs, rel, dof⟩ := dk_of I.hok ha
  obtain ⟨ep, dat⟩ := dof.dictAt
  obtain ⟨ob, es, ho, ex, hdat, hko, hpr, hnd⟩ := dat
  refine call_meetsIn F.slot_dict_values ⟨ob, ho, ex.1⟩ F.entry_dict_values (F.args_dict_values_1 _) (meets_dict_values (mixKind X.prog X.w) a hsys) ⟨⟨vs, dof⟩, ?_⟩
  exact ⟨.ref s.heap.objs.size, upd H s.heap.objs.size (valsO s.heap.objs.size a), I.laid (t' := s.toks) (fun b u e => Heap.get?_push_of_some _ e) (Nat.le_refl _) ⟨⟨_, Heap.get?_push_size _ rfl, rfl, rfl⟩, ⟨_, Heap.get?_push_size _ rfl⟩, fun h1 h2 x k => let ⟨o, ho, r⟩ := x; ⟨o, k o ho, r⟩⟩, rfl, q _ (I.hok.fresh (Nat.le_refl _))⟩
theorem fold_max (l : List Int) : ∀ (n : Int), (∀ m, m ∈ n :: l → m ≤ l.foldl max n) ∧ l.foldl max n ∈ n :: l := by
  induction l with
  | nil => intro n; exact ⟨fun m h => by rw [List.mem_singleton.mp h]; exact Int.le_refl _, List.mem_singleton.mpr rfl⟩
  | cons y r ih =>
    intro n
    obtain ⟨i1, i2⟩ := ih (max n y)
    rw [List.foldl_cons]
    refine ⟨fun m h => ?_, ?_⟩
    · have h0 := i1 (max n y) List.mem_cons_self
      rcases List.mem_cons.mp h with e | h
      · rw [e]; omega
      · rcases List.mem_cons.mp h with e | h
        · rw [e]; omega
        · exact i1 m (List.mem_cons_of_mem _ h)
    · rcases List.mem_cons.mp i2 with e | h
      · rw [e]
        rcases Int.le_total n y with q | q
        · rw [Int.max_eq_right q]; exact List.mem_cons_of_mem _ List.mem_cons_self
        · rw [Int.max_eq_left q]; exact List.mem_cons_self
      · exact List.mem_cons_of_mem _ (List.mem_cons_of_mem _ h)
theorem maxI_is {d M : Int} {ns : List Int} (h1 : M ∈ ns) (h2 : ∀ y ∈ ns, y ≤ M) : maxI d ns = M := by
  cases ns with
  | nil => cases h1
  | cons n r =>
    obtain ⟨i1, i2⟩ := fold_max r n
    exact Int.le_antisymm (h2 _ i2) (i1 _ h1)
theorem cr_maxVals (hc : X.calm = true) : CallRK X (.builtin "max") [Str.ofString "default"] rMaxV := by
  intro pins s σ H vs zs us ws Q I r rz h
  obtain ⟨p, a, kvs, is, d, rfl, rfl, hp, ha, hv, q⟩ := h
  obtain rfl := Vals.ref1 r
  obtain ⟨w1, rfl, t, rfl⟩ := vals1 rz
  obtain ⟨_, hsys, vs, rel, dof⟩ := dk_of I.hok ha
  obtain ⟨ep, dat⟩ := dof.dictAt
  obtain ⟨hview, _, _⟩ : ObjOk X.prog X.w H s.heap p (valsO p a) := I.hok p _ hp
  have hlt : a < s.heap.objs.size := by
    obtain ⟨ob, es, ho, _⟩ := id dat
    exact Heap.lt_size ho
  have hlv : vs.length = is.length := by
    have e1 := congrArg List.length hv
    rw [List.length_map, List.length_map] at e1
    rw [← e1]
    exact (KV.length rel).symm
  have hval : ∀ (i : Nat) (v : Value), (∃ k, vs[i]? = some (k, v)) → ∃ t, v = Value.int (is.getD i 0) t := fun i v ⟨k, hk⟩ => by
    obtain ⟨x, h1, h2⟩ := KV.at' rel hk
    have e1 : (kvs.map (·.2))[i]? = some x := by rw [List.getElem?_map, h1] <;> rfl
    have hv' : kvs.map (·.2) = is.map V.int := hv
    rw [hv', List.getElem?_map] at e1
    obtain ⟨j, hj, e2⟩ := Option.map_eq_some_iff.mp e1
    subst e2
    obtain ⟨t, e3⟩ := h2
    refine ⟨t, ?_⟩
    rw [e3, List.getD_eq_getElem?_getD, hj] <;> rfl
  refine PySem.call_max_walkD (wpAny_pyIter_values (v := p) (d := a) hview dat ?_)
  have old : ∀ {s' : Shared}, Moved [s.heap.objs.size] (fun a b => b = a) { s with heap := s.heap.push { cls := .type "dict_valueiterator", data := .fields #[.ref a, .int 0 0, .int vs.length 0, .int ep 0] } } s' → ∃ h' tk, s' = { s with heap := h', toks := tk } ∧ ∀ b o, s.heap.get? b = some o → h'.get? b = some o := fun {s'} m => PySem.W.moved_old rfl rfl m
  refine ⟨_, _, _, _, _, _, _, s.heap, _, rfl, (Walks.dictValues (knd := mixKind X.prog X.w) (A := X.A.in1) (I.ok.hd hc) s.heap.objs.size a (Nat.ne_of_lt hlt) vs ep).toS, ⟨⟨_, Heap.get?_push_size _ rfl, rfl, rfl⟩, dat.keep fun b u e => Heap.get?_push_of_some _ e⟩, fun b hb => ?_, fun b o e hb => ?_, fun b o e => Heap.get?_push_of_some _ e,
    fun hn s' m => ?_, fun hn => ⟨fun i j vi vj s Q E _ hi hj hq => CmpOf.ints_gt (fun i => is.getD i 0) hval i j vi vj s Q E hi hj hq, fun v s' hP m => ?_⟩⟩
  · show b < (s.heap.push _).objs.size
    rw [Heap.size_push]
    rcases List.mem_cons.mp hb with e | hb
    · rw [e]; exact Nat.lt_succ_self _
    · rw [List.mem_singleton.mp hb]; exact Nat.lt_succ_of_lt hlt
  · exact absurd (Heap.lt_size e) ((List.mem_singleton.mp hb) ▸ Nat.lt_irrefl _)
  · obtain ⟨h', tk, rfl, hk⟩ := old m
    have e0 : is = [] := List.eq_nil_of_length_eq_zero (by omega)
    subst e0
    exact ⟨.int d, H, I.kept (t' := tk) hk, ⟨t, rfl⟩, q⟩
  · obtain ⟨h', tk, rfl, hk⟩ := old m
    obtain ⟨t2, rfl⟩ := hval _ v hP
    obtain ⟨b1, b2⟩ := argBest_gt (fun i => is.getD i 0) (vs.length - 1)
    refine ⟨.int _, H, I.kept (t' := tk) hk, ⟨t2, rfl⟩, ?_⟩
    have e : maxI d is = is.getD (argBest (fun i j => decide (is.getD i 0 > is.getD j 0)) (vs.length - 1)) 0 := by
      refine maxI_is ?_ fun y hy => ?_
      · have hl : argBest (fun i j => decide (is.getD i 0 > is.getD j 0)) (vs.length - 1) < is.length := by omega
        rw [List.getD_eq_getElem?_getD, List.getElem?_eq_getElem hl]
        exact List.getElem_mem hl
      · obtain ⟨j, hj, rfl⟩ := List.getElem_of_mem hy
        have := b2 j (by omega)
        rw [List.getD_eq_getElem?_getD, List.getElem?_eq_getElem hj] at this
        exact this
    rw [e] at q
    exact q
end
section
variable {P : Program} {w : World} {K : PySem.W.Frag} {mg : Str → Option Value} {base : Heap} {x qual : Str} {params : Arguments} {body : List Stmt} {scope : Scope} {dvs : List V} {kws : List (Str × V)} {f : Addr} {fd : FuncData}
theorem FunD.ok0 {N ps : List Str} {k : Nat} {sp : Sp} (F : FunD K x qual params body scope dvs kws f fd) (S : FnScope N ps scope) (len : ∀ vs H Q E, sp vs H Q E → vs.length = ps.length)
    (hbody : ∀ (cdv : Value) (A : Around) (outer : List Env) (s : Shared) (H : Hp) (vs : List V) (Q : VK) (E : XK), Room k (A.deeper (envOfC qual scope s.heap.objs.size f cdv)) → sp vs H Q E →
      ∃ t, PSs (cxOf CX0 P w K mg base N qual scope f cdv A outer s H E).nox body t ∧ t { nx := fun _ H' => Q .non H', rt := Q } (start N vs) H) : FnOk P w K mg base CX0 (k + 1) f fd ps sp := by
  refine L2.FunD.ok F S len fun cdv A outer s H vs Q E hr hsp => ?_
  obtain ⟨t, h, q⟩ := hbody cdv A outer s H vs Q E hr hsp
  exact ⟨t, h.nox, q⟩
end
/-! ### best_straight -/
def bestS (f wf : Int → Int) (acc : List Int × Int) (x : Int) : List Int × Int := if f x = acc.2 then (acc.1 ++ [x], acc.2 - wf x) else acc
def bestG (f wf : Int → Int) (m0 : Int) (l : List Int) : List Int × Int := l.foldl (bestS f wf) ([], m0)
theorem best_snoc (f wf : Int → Int) (m0 : Int) (l : List Int) (x : Int) : bestG f wf m0 (l ++ [x]) = bestS f wf (bestG f wf m0 l) x := by
  unfold bestG
  rw [List.foldl_append]; rfl
theorem best_sub (f wf : Int → Int) (m0 : Int) : ∀ l : List Int, ∃ m, l.length = l.length ∧ bestG f wf m0 l = ((bestG f wf m0 l).1, m) := fun l => ⟨_, rfl, rfl⟩
theorem foldr_snoc {α : Type} {p : List α → Prop} (h0 : p []) (h1 : ∀ l x, p l → p (l ++ [x])) : ∀ l, p l := by
  intro l
  have : ∀ n (l : List α), l.length = n → p l := by
    intro n
    induction n with
    | zero => intro l hl; rw [List.eq_nil_of_length_eq_zero hl]; exact h0
    | succ n ih =>
      intro l hl
      rcases List.eq_nil_or_concat l with e | ⟨l0, x, e⟩
      · rw [e] at hl; cases hl
      · rw [e, List.concat_eq_append]
        refine h1 l0 x (ih l0 ?_)
        rw [e, List.concat_eq_append, List.length_append] at hl
        exact Nat.succ.inj hl
  exact this _ l rfl
theorem best_sublist (f wf : Int → Int) (m0 : Int) (l : List Int) : (bestG f wf m0 l).1.Sublist l := by
  refine foldr_snoc (p := fun l => (bestG f wf m0 l).1.Sublist l) (List.Sublist.refl _) (fun l x ih => ?_) l
  show (bestG f wf m0 (l ++ [x])).1.Sublist (l ++ [x])
  rw [best_snoc]
  unfold bestS
  split
  · exact List.Sublist.append ih (List.Sublist.refl _)
  · exact ih.trans (List.sublist_append_left _ _)
def tallF (bs ids : List Int) (wf : Int → Int) : Int → Int := topI (ixI bs.reverse) wf ids.reverse
def bestF (bs ids : List Int) (wf : Int → Int) : List Int := (bestG (tallF bs ids wf) wf (maxI 0 (ids.reverse.map (tallF bs ids wf))) ids).1
section
variable {P : Program} {w : World} {K : PySem.W.Frag} {mg : Str → Option Value} {base : Heap}
def spBest (K : PySem.W.Frag) : Sp := fun vs H Q _ => ∃ (b g fv : Addr) (v : V) (bs ids fav : List Int) (wo : Option (List (Int × Int))), vs = [.ref b, .ref g, v, .ref fv] ∧ SqL K H b (bs.map V.int) ∧ SqL K H g (ids.map V.int) ∧ WtAt H v wo ∧ (SqL K H fv (fav.map V.int) ∨ SqT K H fv (fav.map V.int)) ∧ fav.length ≤ 4000 ∧
  bs.Nodup ∧ bs.length ≤ 300 ∧ ids.Nodup ∧ ids.length ≤ 300 ∧ (∀ x ∈ ids, x ∈ bs) ∧ (∀ x ∈ ids, (wtI wo x).natAbs < 2 ^ 300) ∧
  ∀ (q : Addr) (H' : Hp), Same H H' → H q = none → H' q = some (.lst ((bestF bs ids (worthI wo ids.length fav)).map V.int)) → Q (.ref q) H'
abbrev NB : List Str := ["base", "goal", "weights", "favoured", "worths", "levels", "missing", "best", "row_id"]
theorem scBest : FnScope NB ["base", "goal", "weights", "favoured"] (defScope sBest) := ⟨rfl, rfl, rfl, by decide +kernel, rfl, by decide +kernel, by decide +kernel⟩
theorem ok_best {f fV fT : Addr} {fd fdV fdT : FuncData} {kws : List (Str × V)} (F : FunD K "best_straight" "best_straight" (defArgs sBest) (defBody sBest) (defScope sBest) [] kws f fd) (T : TxtM mg)
    (GV : FnOk P w K mg base CX0 2 fV fdV ["goal", "weights", "favoured"] (spFavs K)) (kV : PySem.W.keepIn K (.ref fV) = true) (bV : L2.Binds K fdV ["goal", "weights", "favoured"] []) (mV : mg "favoured_worths" = some (.ref fV))
    (GT : FnOk P w K mg base CX0 2 fT fdT ["base", "goal", "worths"] (spTops K)) (kT : PySem.W.keepIn K (.ref fT) = true) (bT : L2.Binds K fdT ["base", "goal", "worths"] []) (mT : mg "top_levels" = some (.ref fT)) :
    FnOk P w K mg base CX0 3 f fd ["base", "goal", "weights", "favoured"] (spBest K) := by
  refine FunD.ok0 F scBest (fun vs H Q E h => ?_) (fun cdv A outer s H vs Q E hr h => ?_)
  · obtain ⟨b, g, fv, v, bs, ids, fav, wo, rfl, _⟩ := h
    rfl
  · obtain ⟨b, g, fv, v, bs, ids, fav, wo, rfl, hb, hg, hw, hf, hfl, nb, lb, nd, hlen, hsub, hwb, k⟩ := h
    have hu := hu_of hr
    have h64 := hu64 hr
    refine ⟨_, pss_cons (ps_set (i := 4) scBest.nd rfl (Or.inl rfl) (pe_call GV hr rfl mV kV bV .nil pass0 (pa_cons (pv 1) (pa_cons (pv 2) (pa_cons (pv 3) pa_nil)))))
      (pss_cons (ps_set (i := 5) scBest.nd rfl (Or.inl rfl) (pe_call GT hr rfl mT kT bT .nil pass0 (pa_cons (pe_revL (pv 0)) (pa_cons (pe_revL (pv 1)) (pa_cons (pv 4) pa_nil)))))
      (pss_cons (ps_set (i := 6) scBest.nd rfl (Or.inl rfl) (pe_callBK (cr_maxVals rfl) (by rfl) T.max (by decide +kernel) (pa_cons (pe_bm0 PySem.F.plainAttrs_dict PySem.F.slot_dict_values PySem.F.type_dict_values mt_valsK (pv 5)) pa_nil) (pk_cons pe_int pk_nil)))
      (pss_cons (ps_set (i := 7) scBest.nd rfl (Or.inl rfl) (pe_lst pa_nil))
      (pss_cons (ps_for PassesOwn.never rfl (pi_list (pv 1)) (pg_name (i := 8) scBest.nd rfl (Or.inl rfl))
        (pss_one (ps_if (pt_cmpR op_eq (pe_dget hu (pv 5) (pv 8) (fun _ _ => rfl)) (pv 6) (nomark _))
          (pss_cons (ps_expr (pe_bm PySem.F.plainAttrs_list PySem.F.slot_list_append PySem.F.type_list_append mt_append (pv 7) (pa_cons (pv 8) pa_nil)))
          (pss_one (ps_set (i := 6) scBest.nd rfl (Or.inl rfl) (pe_op op_sub (pv 6) (pe_dget hu (pv 4) (pv 8) (fun _ _ => rfl)))))) pss_nil)))
      (pss_one (ps_ret (pv 7))))))), ?_⟩
    have h16 : sizeLine = 16777216 := sizeLine_eq
    refine ⟨_, rfl, _, rfl, _, rfl, g, fv, v, ids, fav, wo, rfl, hg, hw, hf, hfl, nd, hlen, hwb, fun d H1 s1 hd hD => ?_⟩
    obtain ⟨wf, hwf⟩ : ∃ wf, wf = worthI wo ids.length fav := ⟨_, rfl⟩
    rw [← hwf] at hD
    have hb1 := s1.seq hb
    have hg1 := s1.seq hg
    refine ⟨_, rfl, b, _, rfl, hb1, fun p hp => ?_⟩
    have sp := Same.new (o := .lst (bs.map V.int).reverse) hp
    have hP : upd H1 p (.lst (bs.map V.int).reverse) p = some (.lst (bs.map V.int).reverse) := upd_same
    generalize upd H1 p (.lst (bs.map V.int).reverse) = H2 at sp hP ⊢
    refine ⟨_, rfl, g, _, rfl, sp.seq hg1, fun r hr2 => ?_⟩
    have sr := Same.new (o := .lst (ids.map V.int).reverse) hr2
    have hR : upd H2 r (.lst (ids.map V.int).reverse) r = some (.lst (ids.map V.int).reverse) := upd_same
    generalize upd H2 r (.lst (ids.map V.int).reverse) = H3 at sr hR ⊢
    have hP3 := sr _ _ hP
    have hD3 := sr _ _ (sp _ _ hD)
    have s3 := s1.trans (sp.trans sr)
    rw [← List.map_reverse] at hP3 hR
    refine ⟨_, rfl, p, r, d, bs.reverse, ids.reverse, _, wf, rfl, SqL.of hP3, SqL.of hR, hD3, fun x hx => tab_an (List.mem_reverse.mp hx), ((List.reverse_perm bs).nodup_iff).mpr nb, by rw [List.length_reverse]; exact lb, ((List.reverse_perm ids).nodup_iff).mpr nd, by rw [List.length_reverse]; exact hlen, fun x hx => List.mem_reverse.mpr (hsub x (List.mem_reverse.mp hx)), fun lv H4 s4 hlv hL => ?_⟩
    have ht : topI (ixI bs.reverse) wf ids.reverse = tallF bs ids wf := rfl
    rw [ht] at hL
    obtain ⟨tf, htf⟩ : ∃ tf, tf = tallF bs ids wf := ⟨_, rfl⟩
    rw [← htf] at hL
    have s14 := s3.trans s4
    have hD4 := s4 _ _ hD3
    refine ⟨_, rfl, .inr (.inr (.inl ⟨rfl, .inl ⟨_, hL⟩⟩)), lv, _, rfl, rfl, hL, fun vp hvp => ?_⟩
    have sv := Same.new (o := valsO vp lv) hvp
    have hV : upd H4 vp (valsO vp lv) vp = some (valsO vp lv) := upd_same
    generalize upd H4 vp (valsO vp lv) = H5 at sv hV ⊢
    have hL5 := sv _ _ hL
    have hD5 := sv _ _ hD4
    refine ⟨vp, lv, _, ids.reverse.map tf, 0, rfl, rfl, hV, hL5, by unfold pinK tabP; rw [List.map_map, List.map_map, List.map_map]; rfl, ?_⟩
    refine ⟨Nat.zero_le _, fun B hB => ?_⟩
    have sB := Same.new (o := .lst []) hB
    have hBn : H1 B = none := Same.free (sp.trans (sr.trans (s4.trans sv))) hB
    have s5 := s14.trans sv
    refine ⟨_, rfl, g, rfl, ⟨_, (s5.trans sB).seq hg⟩, for_list (K := K) (a := g) (xs := ids.map V.int) (fun i σ H' => ∃ (v8 : Option V), σ = [some (.ref b), some (.ref g), some v, some (.ref fv), some (.ref d), some (.ref lv), some (.int (bestG tf wf (maxI 0 (ids.reverse.map tf)) (ids.take i)).2), some (.ref B), v8] ∧ Same H5 H' ∧ H' B = some (.lst ((bestG tf wf (maxI 0 (ids.reverse.map tf)) (ids.take i)).1.map V.int)) ∧ i ≤ ids.length)
      ⟨none, by rw [List.take_zero]; rfl, sB, by rw [List.take_zero]; exact upd_same, Nat.zero_le _⟩ (fun i σ H' _ ⟨_, _, s, _⟩ => (s5.trans s).seq hg) ?_ ?_⟩
    · rintro i y σ H6 hi ⟨v8, rfl, s6, hA, hil⟩
      obtain ⟨x, hx, rfl⟩ := int_at (i := i) (by assumption)
      have hxm := List.mem_of_getElem? hx
      have hil2 : i < ids.length := (List.getElem?_eq_some_iff.mp hx).1
      obtain ⟨acc, hacc⟩ : ∃ acc, acc = bestG tf wf (maxI 0 (ids.reverse.map tf)) (ids.take i) := ⟨_, rfl⟩
      have hns : bestG tf wf (maxI 0 (ids.reverse.map tf)) (ids.take (i + 1)) = bestS tf wf acc x := by rw [take_snoc hx, best_snoc, hacc]
      have hal : acc.1.length ≤ 300 := by
        have := (best_sublist tf wf (maxI 0 (ids.reverse.map tf)) (ids.take i)).length_le
        rw [← hacc, List.length_take] at this
        omega
      rw [← hacc] at hA
      rw [hns, ← hacc]
      have dgl : DGet H6 lv (.int x) (some (.int (tf x))) := by
        have := DGet.k (k := (.inl x : Key)) (s6 _ _ hL5)
        rw [val_pin, tab_an (List.mem_reverse.mpr hxm)] at this
        exact this
      have dgw : DGet H6 d (.int x) (some (.int (wf x))) := by
        have := DGet.k (k := (.inl x : Key)) (s6 _ _ hD5)
        rw [val_pin, tab_an hxm] at this
        exact this
      refine ⟨_, rfl, _, rfl, lv, _, rfl, dgl, _, rfl, ?_⟩
      refine ⟨rfl, _, rfl, ite2 (fun c => ?_) (fun c => ?_)⟩
      · have c : tf x = acc.2 := V.int.inj (of_decide_eq_true c)
        have hst : bestS tf wf acc x = (acc.1 ++ [x], acc.2 - wf x) := if_pos c
        rw [hst]
        refine ⟨_, rfl, .inl ⟨rfl, _, SqL.of hA⟩, _, rfl, B, _, _, rfl, rfl, hA, by rw [List.length_map, h16]; omega, ?_⟩
        have hBd : d ≠ B := ne_of (s6 _ _ hD5) hA (fun z => by cases z)
        have dgw2 : DGet (upd H6 B (.lst (acc.1.map V.int ++ [.int x]))) d (.int x) (some (.int (wf x))) := by
          have := DGet.k (k := (.inl x : Key)) (show upd H6 B (.lst (acc.1.map V.int ++ [.int x])) d = some (.dK (pinK (tabP wf ids))) by rw [upd_ne hBd]; exact s6 _ _ hD5)
          rw [val_pin, tab_an hxm] at this
          exact this
        refine ⟨_, rfl, _, rfl, _, rfl, d, _, rfl, dgw2, _, _, rfl, rfl, ?_⟩
        refine ⟨_, rfl, fun q u e => ?_, ?_, hil2⟩
        · rw [upd_ne (ne_of_none e hB)]; exact s6 _ _ e
        · rw [upd_same, List.map_append]; rfl
      · have c : ¬ tf x = acc.2 := fun z => c (decide_eq_true (by rw [z]))
        have hst : bestS tf wf acc x = acc := if_neg c
        rw [hst]
        exact ⟨_, rfl, s6, hA, hil2⟩
    · rintro σ H6 ⟨v8, rfl, s6, hA, _⟩
      rw [List.length_map, List.take_length] at hA
      rw [List.length_map, List.take_length]
      exact ⟨_, rfl, k B H6 (s5.trans s6) (Same.free s1 hBn) (by rw [hA, htf, hwf]; rfl)⟩
end
/-! ### the best straight set: what the greedy walk finds -/
theorem foldl_max : ∀ (l : List Int) (a : Int), a ≤ l.foldl max a ∧ (∀ x ∈ l, x ≤ l.foldl max a) ∧ (l.foldl max a = a ∨ l.foldl max a ∈ l)
  | [], a => ⟨Int.le_refl _, (fun x h => by cases h), .inl rfl⟩
  | b :: l, a => by
    obtain ⟨h1, h2, h3⟩ := foldl_max l (max a b)
    rw [List.foldl_cons]
    refine ⟨by omega, fun x hx => ?_, ?_⟩
    · rcases List.mem_cons.mp hx with e | e
      · omega
      · exact h2 x e
    · rcases h3 with e | e
      · rcases Int.le_total a b with q | q
        · exact .inr (by rw [e, Int.max_eq_right q]; exact List.mem_cons_self)
        · exact .inl (by rw [e, Int.max_eq_left q])
      · exact .inr (List.mem_cons_of_mem _ e)
theorem maxI_ge {d : Int} : ∀ {l : List Int} {x : Int}, x ∈ l → x ≤ maxI d l
  | n :: ns, x, h => by
    obtain ⟨h1, h2, _⟩ := foldl_max ns n
    rcases List.mem_cons.mp h with e | e
    · rw [e]; exact h1
    · exact h2 x e
theorem maxI_in {d : Int} : ∀ {l : List Int}, l ≠ [] → maxI d l ∈ l
  | [], h => absurd rfl h
  | n :: ns, _ => by
    obtain ⟨_, _, h3⟩ := foldl_max ns n
    show ns.foldl max n ∈ n :: ns
    rcases h3 with e | e
    · rw [e]; exact List.mem_cons_self
    · exact List.mem_cons_of_mem _ e
theorem maxI_eq {d m : Int} {l : List Int} (h1 : m ∈ l) (h2 : ∀ x ∈ l, x ≤ m) : maxI d l = m := by
  have a := maxI_ge (d := d) h1
  have b := h2 _ (maxI_in (d := d) (l := l) (fun z => by rw [z] at h1; cases h1))
  omega
theorem maxI_set {d : Int} {l m : List Int} (h : ∀ x, x ∈ l ↔ x ∈ m) : maxI d l = maxI d m := by
  by_cases e : l = []
  · subst e
    have : m = [] := List.eq_nil_iff_forall_not_mem.mpr fun x hx => by have := (h x).mpr hx; cases this
    rw [this]
  · exact (maxI_eq ((h _).mp (maxI_in e)) fun x hx => maxI_ge ((h x).mpr hx)).symm
theorem maxI_pos {l : List Int} (h : ∀ x ∈ l, 0 < x) : 0 ≤ maxI 0 l := by
  by_cases e : l = []
  · rw [e]; exact Int.le_refl _
  · have := h _ (maxI_in (d := 0) e); omega
/-- f x: the weight of x and of what can best follow it in the list -/
def Tall (pl wf f : Int → Int) : List Int → Prop
  | [] => True
  | x :: r => f x = wf x + maxI 0 ((r.filter fun y => decide (pl y < pl x)).map f) ∧ Tall pl wf f r
def grL (f wf : Int → Int) : Int → List Int → List Int
  | _, [] => []
  | m, x :: r => if f x = m then x :: grL f wf (m - wf x) r else grL f wf m r
def mostI (pl f : Int → Int) (c : Int) (l : List Int) : Int := maxI 0 ((l.filter fun y => decide (pl y < c)).map f)
section
variable {pl wf f : Int → Int}
theorem tall_pos : ∀ {l : List Int}, Tall pl wf f l → (∀ x ∈ l, 0 < wf x) → ∀ x ∈ l, wf x ≤ f x
  | [], _, _, x, h => by cases h
  | y :: r, ht, hw, x, h => by
    have ih := tall_pos ht.2 fun z hz => hw z (List.mem_cons_of_mem _ hz)
    rcases List.mem_cons.mp h with e | e
    · subst e
      have := ht.1
      have q : 0 ≤ maxI 0 ((r.filter fun y => decide (pl y < pl x)).map f) := maxI_pos fun z hz => by
        obtain ⟨u, hu, rfl⟩ := List.mem_map.mp hz
        have hu := (List.mem_filter.mp hu).1
        have a := ih u hu
        have b := hw u (List.mem_cons_of_mem _ hu)
        omega
      omega
    · exact ih x e
theorem tall_key {x y : Int} {r : List Int} (h : Tall pl wf f (x :: r)) (hy : y ∈ r) (hp : pl y < pl x) : wf x + f y ≤ f x := by
  have := h.1
  have q : f y ≤ maxI 0 ((r.filter fun y => decide (pl y < pl x)).map f) := maxI_ge (List.mem_map.mpr ⟨y, List.mem_filter.mpr ⟨hy, decide_eq_true hp⟩, rfl⟩)
  omega
theorem most_cons_in {c x : Int} {r : List Int} (h : pl x < c) (hp : ∀ y ∈ x :: r, 0 < f y) : mostI pl f c (x :: r) = max (f x) (mostI pl f c r) := by
  unfold mostI
  rw [List.filter_cons_of_pos (by exact decide_eq_true h), List.map_cons]
  by_cases e : (r.filter fun y => decide (pl y < c)).map f = []
  · rw [e]
    show f x = max (f x) 0
    have := hp x List.mem_cons_self
    omega
  · have a := maxI_in (d := 0) e
    refine maxI_eq ?_ fun z hz => ?_
    · rcases Int.le_total (f x) (maxI 0 ((r.filter fun y => decide (pl y < c)).map f)) with q | q
      · rw [Int.max_eq_right q]; exact List.mem_cons_of_mem _ a
      · rw [Int.max_eq_left q]; exact List.mem_cons_self
    · rcases List.mem_cons.mp hz with q | q
      · omega
      · have := maxI_ge (d := 0) q
        omega
theorem most_cons_out {c x : Int} {r : List Int} (h : ¬ pl x < c) : mostI pl f c (x :: r) = mostI pl f c r := by
  unfold mostI
  rw [List.filter_cons_of_neg (by intro z; exact h (of_decide_eq_true z))]
theorem most_in {c : Int} {l : List Int} (h : mostI pl f c l ≠ 0) : ∃ y ∈ l, pl y < c ∧ f y = mostI pl f c l := by
  unfold mostI at h ⊢
  have e : (l.filter fun y => decide (pl y < c)).map f ≠ [] := fun z => h (by rw [z]; rfl)
  obtain ⟨y, hy, e2⟩ := List.mem_map.mp (maxI_in (d := 0) e)
  obtain ⟨h1, h2⟩ := List.mem_filter.mp hy
  exact ⟨y, h1, of_decide_eq_true h2, e2⟩
def StrD (pl : Int → Int) (s : List Int) : Prop := s.Pairwise fun x y => pl y < pl x
/-- the greedy walk's set: straight, of the greatest weight, and the first of those by the places nx (falling) -/
theorem greedy (nx : Int → Int) : ∀ (l : List Int) (c : Int), Tall pl wf f l → (∀ x ∈ l, 0 < wf x) → l.Pairwise (fun a b => nx b < nx a) →
    (∀ y ∈ grL f wf (mostI pl f c l) l, pl y < c) ∧ StrD pl (grL f wf (mostI pl f c l) l) ∧ ((grL f wf (mostI pl f c l) l).map wf).sum = mostI pl f c l ∧
    ∀ s : List Int, s.Sublist l → StrD pl s → (∀ y ∈ s, pl y < c) → (s.map wf).sum ≤ mostI pl f c l ∧ ((s.map wf).sum = mostI pl f c l → s = grL f wf (mostI pl f c l) l ∨ s.map nx < (grL f wf (mostI pl f c l) l).map nx)
  | [], c, _, _, _ => by
    refine ⟨(fun y hy => by cases hy), List.Pairwise.nil, rfl, fun s hs _ _ => ?_⟩
    rw [List.eq_nil_of_sublist_nil hs]
    exact ⟨Int.le_refl _, fun _ => .inl rfl⟩
  | x :: r, c, ht, hw, hn => by
    have hw' : ∀ z ∈ r, 0 < wf z := fun z hz => hw z (List.mem_cons_of_mem _ hz)
    have hn' := (List.pairwise_cons.mp hn).2
    have hnx := (List.pairwise_cons.mp hn).1
    have hfp : ∀ y ∈ x :: r, 0 < f y := fun y hy => by
      have a := tall_pos ht hw y hy
      have b := hw y hy
      omega
    have hxw := hw x List.mem_cons_self
    have hfx : f x = wf x + mostI pl f (pl x) r := ht.1
    have ihc := greedy nx r c ht.2 hw' hn'
    have ihx := greedy nx r (pl x) ht.2 hw' hn'
    -- s begins with x or not
    have spl : ∀ s : List Int, s.Sublist (x :: r) → s.Sublist r ∨ ∃ s', s = x :: s' ∧ s'.Sublist r := fun s hs => by
      cases hs with
      | cons _ h => exact .inl h
      | cons_cons _ h => exact .inr ⟨_, rfl, h⟩
    -- with x first
    have top : ∀ s' : List Int, s'.Sublist r → StrD pl (x :: s') → ((x :: s').map wf).sum ≤ f x ∧ (((x :: s').map wf).sum = f x → s' = grL f wf (mostI pl f (pl x) r) r ∨ s'.map nx < (grL f wf (mostI pl f (pl x) r) r).map nx) := fun s' h1 h2 => by
      obtain ⟨p1, p2⟩ := List.pairwise_cons.mp h2
      obtain ⟨q1, q2⟩ := ihx.2.2.2 s' h1 p2 p1
      rw [List.map_cons, List.sum_cons]
      exact ⟨by omega, fun e => q2 (by omega)⟩
    by_cases hc : pl x < c
    · rw [most_cons_in hc hfp]
      have hmr : 0 ≤ mostI pl f c r := maxI_pos fun z hz => by
        obtain ⟨u, hu, rfl⟩ := List.mem_map.mp hz
        exact hfp u (List.mem_cons_of_mem _ (List.mem_filter.mp hu).1)
      by_cases hx : f x = max (f x) (mostI pl f c r)
      · rw [← hx]
        have eg : grL f wf (f x) (x :: r) = x :: grL f wf (mostI pl f (pl x) r) r := by
          rw [grL, if_pos rfl]
          congr 2
          omega
        rw [eg]
        obtain ⟨i1, i2, i3, i4⟩ := ihx
        refine ⟨fun y hy => ?_, List.pairwise_cons.mpr ⟨i1, i2⟩, by rw [List.map_cons, List.sum_cons, i3]; omega, fun s hs hst hsc => ?_⟩
        · rcases List.mem_cons.mp hy with e | e
          · rw [e]; exact hc
          · have := i1 y e; omega
        · rcases spl s hs with h | ⟨s', rfl, h⟩
          · have a := (ihc.2.2.2 s h hst hsc).1
            refine ⟨by omega, fun e => .inr ?_⟩
            cases s with
            | nil =>
              have := hfp x List.mem_cons_self
              rw [List.map_nil, List.sum_nil] at e; omega
            | cons y s' =>
              rw [List.map_cons, List.map_cons]
              exact List.cons_lt_cons_iff.mpr (.inl (hnx y (h.subset List.mem_cons_self)))
          · obtain ⟨t1, t2⟩ := top s' h hst
            refine ⟨t1, fun e => ?_⟩
            rcases t2 e with q | q
            · exact .inl (by rw [q])
            · rw [List.map_cons, List.map_cons]
              exact .inr (List.cons_lt_cons_iff.mpr (.inr ⟨rfl, q⟩))
      · have em : max (f x) (mostI pl f c r) = mostI pl f c r := by omega
        have hlt : f x < mostI pl f c r := by omega
        rw [em]
        have eg : grL f wf (mostI pl f c r) (x :: r) = grL f wf (mostI pl f c r) r := by rw [grL, if_neg (by omega)]
        rw [eg]
        obtain ⟨i1, i2, i3, i4⟩ := ihc
        refine ⟨i1, i2, i3, fun s hs hst hsc => ?_⟩
        rcases spl s hs with h | ⟨s', rfl, h⟩
        · exact i4 s h hst hsc
        · obtain ⟨t1, _⟩ := top s' h hst
          exact ⟨by omega, fun e => by omega⟩
    · rw [most_cons_out hc]
      have hne : f x ≠ mostI pl f c r := fun e => by
        have h0 := hfp x List.mem_cons_self
        obtain ⟨y, hy, hyc, ey⟩ := most_in (pl := pl) (f := f) (c := c) (l := r) (by omega)
        have := tall_key ht hy (by omega)
        omega
      have eg : grL f wf (mostI pl f c r) (x :: r) = grL f wf (mostI pl f c r) r := by rw [grL, if_neg hne]
      rw [eg]
      obtain ⟨i1, i2, i3, i4⟩ := ihc
      refine ⟨i1, i2, i3, fun s hs hst hsc => ?_⟩
      rcases spl s hs with h | ⟨s', rfl, h⟩
      · exact i4 s h hst hsc
      · exact absurd (hsc x List.mem_cons_self) hc
end
theorem bestG_gr (f wf : Int → Int) : ∀ (l : List Int) (acc : List Int) (m : Int), (l.foldl (bestS f wf) (acc, m)).1 = acc ++ grL f wf m l
  | [], acc, m => by rw [grL, List.append_nil]; rfl
  | x :: r, acc, m => by
    rw [List.foldl_cons, grL]
    unfold bestS
    by_cases h : f x = m
    · rw [if_pos h, if_pos h]
      show (r.foldl (bestS f wf) (acc ++ [x], m - wf x)).1 = _
      rw [bestG_gr f wf r, List.append_assoc]; rfl
    · rw [if_neg h, if_neg h]
      exact bestG_gr f wf r acc m
theorem bestG_eq (f wf : Int → Int) (m : Int) (l : List Int) : (bestG f wf m l).1 = grL f wf m l := by
  unfold bestG
  rw [bestG_gr, List.nil_append]
/-! ### the levels of the reversed lists -/
theorem topI_at {pl wf : Int → Int} {a b : List Int} {x : Int} (nd : (a ++ x :: b).Nodup) : topI pl wf (a ++ x :: b) x = (levS pl wf (levF pl wf a) x).2 := by
  unfold topI
  have hx : x ∉ a := fun h => (List.nodup_append.mp nd).2.2 x h x List.mem_cons_self rfl
  have e : (a ++ x :: b).idxOf x = a.length := by
    rw [List.idxOf_append, if_neg hx, List.idxOf_cons_self, Nat.zero_add]
  rw [e, List.take_left]
theorem levF_map {pl wf : Int → Int} {l : List Int} (nd : l.Nodup) : ∀ (a b : List Int), l = a ++ b → levF pl wf a = a.map fun y => (pl y, topI pl wf l y) := by
  intro a
  refine foldr_snoc (p := fun a => ∀ b, l = a ++ b → levF pl wf a = a.map fun y => (pl y, topI pl wf l y)) (fun b _ => rfl) (fun a x ih b e => ?_) a
  show levF pl wf (a ++ [x]) = (a ++ [x]).map _
  have e2 : l = a ++ x :: b := by rw [e, List.append_assoc]; rfl
  rw [lev_snoc, ih (x :: b) e2, List.map_append]
  congr 1
  have q : topI pl wf l x = (levS pl wf (levF pl wf a) x).2 := by
    rw [e2]
    exact topI_at (by rw [← e2]; exact nd)
  rw [ih (x :: b) e2] at q
  show [levS pl wf (a.map fun y => (pl y, topI pl wf l y)) x] = [(pl x, topI pl wf l x)]
  rw [q]; rfl
/-- the level of an id by the ones ahead of it -/
theorem topI_step {pl wf : Int → Int} {l a b : List Int} {x : Int} (nd : l.Nodup) (e : l = a ++ x :: b) : topI pl wf l x = wf x + maxI 0 ((a.filter fun y => decide (pl y < pl x)).map (topI pl wf l)) := by
  have q : topI pl wf l x = (levS pl wf (levF pl wf a) x).2 := by
    have nd2 := nd
    rw [e] at nd2 ⊢
    exact topI_at nd2
  rw [q, levF_map nd a _ e]
  show wf x + maxI 0 (((a.map fun y => (pl y, topI pl wf l y)).filter fun e => decide (e.1 < pl x)).map Prod.snd) = _
  rw [List.filter_map, List.map_map]
  rfl
theorem tall_rev {pl wf : Int → Int} {ids : List Int} (nd : ids.Nodup) : Tall pl wf (topI pl wf ids.reverse) ids := by
  have nr : ids.reverse.Nodup := ((List.reverse_perm ids).nodup_iff).mpr nd
  have go : ∀ (l c : List Int), ids = c ++ l → Tall pl wf (topI pl wf ids.reverse) l := by
    intro l
    induction l with
    | nil => intro c _; exact True.intro
    | cons x r ih =>
      intro c e
      refine ⟨?_, ih (c ++ [x]) (by rw [e, List.append_assoc]; rfl)⟩
      have e2 : ids.reverse = r.reverse ++ x :: c.reverse := by
        rw [e]; simp
      rw [topI_step nr e2]
      congr 1
      refine maxI_set fun z => ?_
      simp only [List.mem_map, List.mem_filter, List.mem_reverse]
  exact go ids [] rfl
def sumW (wo : Option (List (Int × Int))) (ids : List Int) : Int := (ids.map (wtI wo)).sum
/-! ### the greedy set is the best by weight, favoured ids, places -/
theorem idx_lt {l : List Int} {x : Int} (h : x ∈ l) : l.idxOf x < l.length := List.idxOf_lt_length_of_mem h
theorem at_idx {l : List Int} {x : Int} (h : x ∈ l) : l[l.idxOf x]? = some x := by
  rw [List.getElem?_eq_getElem (idx_lt h), List.getElem_idxOf]
theorem ixI_rev {bs : List Int} (nb : bs.Nodup) {x : Int} (h : x ∈ bs) : ixI bs.reverse x = (bs.length : Int) - 1 - ixI bs x := by
  have h1 := idx_lt h
  have h2 : bs.reverse[bs.length - 1 - bs.idxOf x]? = some x := by
    rw [List.getElem?_reverse (by omega)]
    have : bs.length - 1 - (bs.length - 1 - bs.idxOf x) = bs.idxOf x := by omega
    rw [this]
    exact at_idx h
  unfold ixI
  rw [idx_of_at (((List.reverse_perm bs).nodup_iff).mpr nb) h2]
  omega
theorem ixI_bound {bs : List Int} {x : Int} (h : x ∈ bs) : 0 ≤ ixI bs x ∧ ixI bs x < (bs.length : Int) := by
  have := idx_lt h
  unfold ixI
  omega
/-- ids in the sequence of both orders -/
def Strt (bs : List Int) (s : List Int) : Prop := s.Pairwise fun x y => ixI bs x < ixI bs y
theorem strD_iff {bs s : List Int} (nb : bs.Nodup) (h : ∀ x ∈ s, x ∈ bs) : StrD (ixI bs.reverse) s ↔ Strt bs s := by
  unfold StrD Strt
  constructor
  · intro q
    refine q.imp_of_mem fun {a b} ha hb z => ?_
    rw [ixI_rev nb (h a ha), ixI_rev nb (h b hb)] at z
    omega
  · intro q
    refine q.imp_of_mem fun {a b} ha hb z => ?_
    rw [ixI_rev nb (h a ha), ixI_rev nb (h b hb)]
    omega
theorem nx_pair {ids : List Int} (nd : ids.Nodup) : ids.Pairwise fun a b => (0 - ixI ids b) < (0 - ixI ids a) := by
  have h : ids.Pairwise fun a b => ixI ids a < ixI ids b := by
    refine List.pairwise_iff_getElem.mpr fun i j hi hj hij => ?_
    unfold ixI
    rw [nd.idxOf_getElem i hi, nd.idxOf_getElem j hj]
    omega
  exact h.imp fun z => by omega
theorem best_main {bs ids : List Int} {wf : Int → Int} (nb : bs.Nodup) (nd : ids.Nodup) (sub : ∀ x ∈ ids, x ∈ bs) (hw : ∀ x ∈ ids, 0 < wf x) :
    (bestF bs ids wf).Sublist ids ∧ Strt bs (bestF bs ids wf) ∧ ∀ s : List Int, s.Sublist ids → Strt bs s → (s.map wf).sum ≤ ((bestF bs ids wf).map wf).sum ∧
      ((s.map wf).sum = ((bestF bs ids wf).map wf).sum → s = bestF bs ids wf ∨ (s.map fun x => 0 - ixI ids x) < (bestF bs ids wf).map fun x => 0 - ixI ids x) := by
  have hsub := best_sublist (tallF bs ids wf) wf (maxI 0 (ids.reverse.map (tallF bs ids wf))) ids
  obtain ⟨c, hc⟩ : ∃ c : Int, c = (bs.length : Int) := ⟨_, rfl⟩
  have hlt : ∀ x ∈ ids, ixI bs.reverse x < c := fun x hx => by
    have := ixI_bound (bs := bs.reverse) (List.mem_reverse.mpr (sub x hx))
    rw [List.length_reverse] at this
    omega
  have em : maxI 0 (ids.reverse.map (tallF bs ids wf)) = mostI (ixI bs.reverse) (tallF bs ids wf) c ids := by
    refine maxI_set fun z => ?_
    simp only [List.mem_map, List.mem_filter, List.mem_reverse]
    constructor
    · rintro ⟨a, h, e⟩
      exact ⟨a, ⟨h, decide_eq_true (hlt a h)⟩, e⟩
    · rintro ⟨a, ⟨h, _⟩, e⟩
      exact ⟨a, h, e⟩
  have eb : bestF bs ids wf = grL (tallF bs ids wf) wf (mostI (ixI bs.reverse) (tallF bs ids wf) c ids) ids := by
    unfold bestF
    rw [bestG_eq, em]
  obtain ⟨g1, g2, g3, g4⟩ := greedy (pl := ixI bs.reverse) (wf := wf) (f := tallF bs ids wf) (fun x => 0 - ixI ids x) ids c (tall_rev nd) hw (nx_pair nd)
  rw [← eb] at g1 g2 g3 g4
  have hin : ∀ x ∈ bestF bs ids wf, x ∈ bs := fun x hx => sub x (hsub.subset hx)
  refine ⟨hsub, (strD_iff nb hin).mp g2, fun s hs hst => ?_⟩
  have hsin : ∀ x ∈ s, x ∈ bs := fun x hx => sub x (hs.subset hx)
  rw [g3]
  exact g4 s hs ((strD_iff nb hsin).mpr hst) fun y hy => hlt y (hs.subset hy)
/-- how many are favoured -/
def cntI (fav s : List Int) : Int := ((s.filter fun x => decide (x ∈ fav)).length : Nat)
theorem cnt_bound (fav s : List Int) : 0 ≤ cntI fav s ∧ cntI fav s ≤ (s.length : Int) := by
  unfold cntI
  have := List.length_filter_le (fun x => decide (x ∈ fav)) s
  omega
theorem worth_sum (wo : Option (List (Int × Int))) (n : Nat) (fav : List Int) : ∀ s : List Int, (s.map (worthI wo n fav)).sum = sumW wo s * ((n : Int) + 1) + cntI fav s
  | [] => by unfold sumW cntI; simp
  | x :: s => by
    have ih := worth_sum wo n fav s
    unfold sumW cntI at ih ⊢
    rw [List.map_cons, List.sum_cons, ih, List.map_cons, List.sum_cons, Int.add_mul]
    unfold worthI
    by_cases h : x ∈ fav
    · rw [if_pos h, List.filter_cons_of_pos (by exact decide_eq_true h), List.length_cons]
      omega
    · rw [if_neg h, List.filter_cons_of_neg (by intro z; exact h (of_decide_eq_true z))]
      omega
/-- the law's comparison: weight, favoured ids, places -/
def kLt (wo : Option (List (Int × Int))) (fav ids a b : List Int) : Prop := sumW wo a < sumW wo b ∨ (sumW wo a = sumW wo b ∧ (cntI fav a < cntI fav b ∨ (cntI fav a = cntI fav b ∧ (a.map fun x => 0 - ixI ids x) < b.map fun x => 0 - ixI ids x)))
instance (wo : Option (List (Int × Int))) (fav ids a b : List Int) : Decidable (kLt wo fav ids a b) := by unfold kLt; exact inferInstance
theorem kLt_asymm {wo : Option (List (Int × Int))} {fav ids a b : List Int} (h : kLt wo fav ids a b) : ¬ kLt wo fav ids b a := by
  unfold kLt at h ⊢
  intro q
  have hl : (a.map fun x => 0 - ixI ids x) < (b.map fun x => 0 - ixI ids x) → (b.map fun x => 0 - ixI ids x) < (a.map fun x => 0 - ixI ids x) → False := fun h1 h2 => List.lt_irrefl _ (List.lt_trans h1 h2)
  rcases h with h | ⟨h1, h | ⟨h2, h⟩⟩ <;> rcases q with q | ⟨q1, q | ⟨q2, q⟩⟩ <;> first | omega | exact hl h q
theorem best_kLt {bs ids fav : List Int} {wo : Option (List (Int × Int))} (nb : bs.Nodup) (nd : ids.Nodup) (sub : ∀ x ∈ ids, x ∈ bs) (hw : ∀ x ∈ ids, 1 ≤ wtI wo x) {s : List Int} (hs : s.Sublist ids) (hst : Strt bs s) :
    s = bestF bs ids (worthI wo ids.length fav) ∨ kLt wo fav ids s (bestF bs ids (worthI wo ids.length fav)) := by
  have hw0 : ∀ x ∈ ids, 0 < worthI wo ids.length fav x := fun x hx => by
    have h1 := hw x hx
    unfold worthI
    have : 0 < wtI wo x * ((ids.length : Int) + 1) := Int.mul_pos (by omega) (by omega)
    split <;> omega
  obtain ⟨b1, b2, b3⟩ := best_main nb nd sub hw0
  obtain ⟨q1, q2⟩ := b3 s hs hst
  rw [worth_sum, worth_sum] at q1 q2
  obtain ⟨g, hg⟩ : ∃ g, g = bestF bs ids (worthI wo ids.length fav) := ⟨_, rfl⟩
  rw [← hg] at q1 q2 b1 ⊢
  have c1 := cnt_bound fav s
  have c2 := cnt_bound fav g
  have l1 := hs.length_le
  have l2 := b1.length_le
  rcases Int.lt_trichotomy (sumW wo s) (sumW wo g) with h | h | h
  · exact .inr (.inl h)
  · rw [h] at q1 q2
    rcases Int.lt_trichotomy (cntI fav s) (cntI fav g) with z | z | z
    · exact .inr (.inr ⟨h, .inl z⟩)
    · rcases q2 (by omega) with e | e
      · exact .inl e
      · exact .inr (.inr ⟨h, .inr ⟨z, e⟩⟩)
    · omega
  · have m : (sumW wo g + 1) * ((ids.length : Int) + 1) ≤ sumW wo s * ((ids.length : Int) + 1) := Int.mul_le_mul_of_nonneg_right (by omega) (by omega)
    rw [Int.add_mul, Int.one_mul] at m
    omega
/-! ### a search through all sets -/
def setsL (l : List Int) : List (List Int) := l.foldl (fun acc x => acc ++ acc.map (· ++ [x])) [[]]
theorem sets_snoc (l : List Int) (x : Int) : setsL (l ++ [x]) = setsL l ++ (setsL l).map (· ++ [x]) := by
  unfold setsL
  rw [List.foldl_append]; rfl
theorem sets_len (l : List Int) : (setsL l).length = 2 ^ l.length := by
  refine foldr_snoc (p := fun l => (setsL l).length = 2 ^ l.length) rfl (fun l x ih => ?_) l
  show (setsL (l ++ [x])).length = 2 ^ (l ++ [x]).length
  rw [sets_snoc, List.length_append, List.length_map, ih, List.length_append]
  show 2 ^ l.length + 2 ^ l.length = 2 ^ (l.length + 1)
  rw [Nat.pow_succ]
  omega
theorem sets_mem (l : List Int) : ∀ s, s ∈ setsL l ↔ s.Sublist l := by
  refine foldr_snoc (p := fun l => ∀ s, s ∈ setsL l ↔ s.Sublist l) (fun s => ?_) (fun l x ih s => ?_) l
  · show s ∈ [[]] ↔ s.Sublist []
    rw [List.mem_singleton, List.sublist_nil]
  · show s ∈ setsL (l ++ [x]) ↔ s.Sublist (l ++ [x])
    rw [sets_snoc, List.mem_append, List.mem_map, ih s]
    constructor
    · rintro (h | ⟨t, h, rfl⟩)
      · exact h.trans (List.sublist_append_left _ _)
      · exact ((ih t).mp h).append (List.Sublist.refl _)
    · intro h
      obtain ⟨a, b, rfl, ha, hb⟩ := List.sublist_append_iff.mp h
      cases hb with
      | cons _ hb =>
        rw [List.sublist_nil.mp hb, List.append_nil]
        exact .inl ha
      | cons_cons _ hb =>
        rw [List.sublist_nil.mp hb]
        exact .inr ⟨a, (ih a).mpr ha, rfl⟩
def stepB (wo : Option (List (Int × Int))) (fav bs ids : List Int) (acc : Option (List Int)) (s : List Int) : Option (List Int) :=
  if (s.map (ixI bs)) = (s.map (ixI bs)).mergeSort (fun a b => decide (a ≤ b)) then match acc with
    | none => some s
    | some b => if kLt wo fav ids b s then some s else some b
  else acc
theorem sorted_iff {bs s : List Int} (hs : s.Nodup) (h : ∀ x ∈ s, x ∈ bs) : (s.map (ixI bs)) = (s.map (ixI bs)).mergeSort (fun a b => decide (a ≤ b)) ↔ Strt bs s := by
  have inj : ∀ x ∈ s, ∀ y ∈ s, ixI bs x = ixI bs y → x = y := fun x hx y hy e => by
    have a := at_idx (h x hx)
    have b := at_idx (h y hy)
    unfold ixI at e
    rw [Int.ofNat.inj e, b] at a
    exact (Option.some.inj a).symm
  have le := List.pairwise_mergeSort (le := fun a b : Int => decide (a ≤ b)) (fun a b c x y => decide_eq_true (Int.le_trans (of_decide_eq_true x) (of_decide_eq_true y))) (fun a b => by
      rcases Int.le_total a b with q | q
      · rw [decide_eq_true q]; rfl
      · rw [decide_eq_true q, Bool.or_true]) (s.map (ixI bs))
  constructor
  · intro e
    rw [← e] at le
    have le2 := List.pairwise_map.mp le
    have both := hs.and le2
    refine both.imp_of_mem fun {a b} ha hb z => ?_
    have z2 : ixI bs a ≤ ixI bs b := of_decide_eq_true z.2
    have : ixI bs a ≠ ixI bs b := fun e => z.1 (inj a ha b hb e)
    omega
  · intro st
    refine (List.mergeSort_of_pairwise (List.pairwise_map.mpr (st.imp fun z => decide_eq_true (by omega)))).symm
theorem search {wo : Option (List (Int × Int))} {fav bs ids g : List Int} (hg : (g.map (ixI bs)) = (g.map (ixI bs)).mergeSort (fun a b => decide (a ≤ b))) : ∀ (R : List (List Int)) (acc : Option (List Int)),
    (∀ s ∈ R, (s.map (ixI bs)) = (s.map (ixI bs)).mergeSort (fun a b => decide (a ≤ b)) → s = g ∨ kLt wo fav ids s g) → (g ∈ R ∨ acc = some g) → (∀ b, acc = some b → b = g ∨ kLt wo fav ids b g) → R.foldl (stepB wo fav bs ids) acc = some g
  | [], acc, _, h, _ => by
    rcases h with h | h
    · cases h
    · exact h
  | s :: R, acc, hR, h, hacc => by
    rw [List.foldl_cons]
    have hR' := fun t ht => hR t (List.mem_cons_of_mem _ ht)
    have irr : ¬ kLt wo fav ids g g := fun z => kLt_asymm z z
    -- the step keeps what is asked
    have key : (s = g → stepB wo fav bs ids acc s = some g) ∧ (acc = some g → stepB wo fav bs ids acc s = some g) ∧ (∀ b, stepB wo fav bs ids acc s = some b → b = g ∨ kLt wo fav ids b g) := by
      unfold stepB
      refine ⟨fun e => ?_, fun e => ?_, fun b => ?_⟩
      · subst e
        rw [if_pos hg]
        cases acc with
        | none => rfl
        | some b =>
          show (if kLt wo fav ids b s then some s else some b) = some s
          rcases hacc b rfl with q | q
          · rw [q]; split <;> rfl
          · rw [if_pos q]
      · subst e
        split
        · rename_i hs
          show (if kLt wo fav ids g s then some s else some g) = some g
          rcases hR s List.mem_cons_self hs with q | q
          · rw [q, if_neg irr]
          · rw [if_neg (kLt_asymm q)]
        · rfl
      · split
        · rename_i hs
          have qs := hR s List.mem_cons_self hs
          cases acc with
          | none =>
            intro e
            rw [← Option.some.inj e]; exact qs
          | some c =>
            show (if kLt wo fav ids c s then some s else some c) = some b → _
            intro e
            split at e
            · rw [← Option.some.inj e]; exact qs
            · rw [← Option.some.inj e]; exact hacc c rfl
        · exact hacc b
    obtain ⟨k1, k2, k3⟩ := key
    refine search hg R _ hR' ?_ k3
    rcases h with h | h
    · rcases List.mem_cons.mp h with e | e
      · exact .inr (k1 e.symm)
      · exact .inl e
    · exact .inr (k2 h)
/-- what the search finds is what the greedy walk finds -/
theorem search_best {bs ids fav : List Int} {wo : Option (List (Int × Int))} (nb : bs.Nodup) (nd : ids.Nodup) (sub : ∀ x ∈ ids, x ∈ bs) (hw : ∀ x ∈ ids, 1 ≤ wtI wo x) :
    (setsL ids).foldl (stepB wo fav bs ids) none = some (bestF bs ids (worthI wo ids.length fav)) := by
  have hw0 : ∀ x ∈ ids, 0 < worthI wo ids.length fav x := fun x hx => by
    have h1 := hw x hx
    unfold worthI
    have : 0 < wtI wo x * ((ids.length : Int) + 1) := Int.mul_pos (by omega) (by omega)
    split <;> omega
  obtain ⟨b1, b2, _⟩ := best_main nb nd sub hw0
  have sb : ∀ {s : List Int}, s.Sublist ids → s.Nodup ∧ ∀ x ∈ s, x ∈ bs := fun h => ⟨nd.sublist h, fun x hx => sub x (h.subset hx)⟩
  refine search ((sorted_iff (sb b1).1 (sb b1).2).mpr b2) _ _ (fun s hs e => ?_) (.inl ((sets_mem ids _).mpr b1)) (fun b z => by cases z)
  have h1 := (sets_mem ids s).mp hs
  exact best_kLt nb nd sub hw h1 ((sorted_iff (sb h1).1 (sb h1).2).mp e)
/-! ### a weight -/
section
variable {P : Program} {w : World} {K : PySem.W.Frag} {mg : Str → Option Value} {base : Heap}
def spLoad : Sp := fun vs H Q _ => ∃ (v : V) (x : Int) (wo : Option (List (Int × Int))), vs = [v, .int x] ∧ WtAt H v wo ∧ Q (.int (wtI wo x)) H
theorem scLoad : FnScope ["loads", "row_id"] ["loads", "row_id"] (defScope sLoad) := ⟨rfl, rfl, rfl, by decide +kernel, rfl, by decide +kernel, by decide +kernel⟩
theorem ok_load {f : Addr} {fd : FuncData} (F : Fun K "_law_load" "_law_load" sLoad f fd) : FnOk P w K mg base CX0 1 f fd ["loads", "row_id"] spLoad := by
  refine F.ok scLoad (fun vs H Q E h => ?_) (fun cdv A outer s H vs Q E hr h => ?_)
  · obtain ⟨v, x, wo, rfl, _⟩ := h
    rfl
  · obtain ⟨v, x, wo, rfl, hw, k⟩ := h
    have hu := hu_of hr
    refine ⟨_, pss_one (ps_ret (pe_ifExp (pt_cmpR op_isN (pv 0) pe_non (nomark _)) pe_int (pe_dget2 hu (pv 0) (pv 1) pe_int ⟨rfl, rfl, rfl, rfl⟩))), ?_⟩
    rcases hw with ⟨rfl, rfl⟩ | ⟨d, ws, rfl, rfl, hd⟩
    · exact ⟨_, rfl, rfl, _, rfl, iteT k⟩
    · refine ⟨_, rfl, rfl, _, rfl, iteF ?_⟩
      refine ⟨_, rfl, d, rfl, .inl ⟨_, .inl hd⟩, _, rfl, _, DGet.k (k := (.inl x : Key)) hd, ?_⟩
      have ev : (valV (pinK ws) (.inl x : Key)).getD (.int 1) = .int (wtI (some ws) x) := by
        rw [val_pin]
        show _ = V.int ((anOf ws x).getD 1)
        cases anOf ws x <;> rfl
      rw [ev]
      exact k
end
section
variable {K : PySem.W.Frag} {x qual : Str} {params : Arguments} {body : List Stmt} {scope : Scope} {kws : List (Str × V)} {f : Addr} {fd : FuncData} {ps : List Str}
/-- all keyword-only parameters are written by name, in their sequence -/
theorem FunD.kbindsA (F : FunD K x qual params body scope [] kws f fd) (n : Nat) (ks : List Str)
    (h : ∀ (kV doc pm : Value) (an : Option Addr) (cdv ct : Value) (us ws : List Value), us.length = n → ws.length = ks.length → bindArgs (PySem.W.fnOf x qual params body scope .none kV doc pm an cdv ct) ⟨us, ks.zip ws⟩ = pure (ps.zip (us ++ ws))) :
    KBn K fd ps n ks (fun us ws => us ++ ws) (fun vs zs => vs ++ zs) := by
  obtain ⟨oc, od, dV, kV, doc, pm, an, cdv, ct, osl, rfl, lk, hcd, hD, hK⟩ := F.ex
  rcases hD with ⟨_, rfl⟩ | ⟨e, _⟩
  · exact ⟨fun s us ws X l1 l2 => .of_eq (h kV doc pm an cdv ct us ws l1 l2), fun r1 r2 => r1.append r2⟩
  · exact absurd rfl e
/-- all keyword-only parameters are written by name, in the reverse sequence -/
theorem FunD.kbindsR (F : FunD K x qual params body scope [] kws f fd) (n : Nat) (ks : List Str)
    (h : ∀ (kV doc pm : Value) (an : Option Addr) (cdv ct : Value) (us ws : List Value), us.length = n → ws.length = ks.length → bindArgs (PySem.W.fnOf x qual params body scope .none kV doc pm an cdv ct) ⟨us, ks.zip ws⟩ = pure (ps.zip (us ++ ws.reverse))) :
    KBn K fd ps n ks (fun us ws => us ++ ws.reverse) (fun vs zs => vs ++ zs.reverse) := by
  obtain ⟨oc, od, dV, kV, doc, pm, an, cdv, ct, osl, rfl, lk, hcd, hD, hK⟩ := F.ex
  have rev : ∀ {zs : List V} {ws : List Value}, Vals zs ws → Vals zs.reverse ws.reverse := by
    intro zs
    induction zs with
    | nil => intro ws h; cases h; exact .nil
    | cons v r ih =>
      intro ws h
      cases h with
      | cons a t =>
        rw [List.reverse_cons, List.reverse_cons]
        exact (ih t).append (.cons a .nil)
  rcases hD with ⟨_, rfl⟩ | ⟨e, _⟩
  · exact ⟨fun s us ws X l1 l2 => .of_eq (h kV doc pm an cdv ct us ws l1 l2), fun r1 r2 => r1.append (rev r2)⟩
  · exact absurd rfl e
/-- keyword-only defaults, no others: n positional values, keywords named ks; ms: the keyword-only parameters that lack -/
theorem FunD.kbinds0 (F : FunD K x qual params body scope [] kws f fd) (n : Nat) (ks : List Str) (ms : List (Str × V)) (g : {α : Type} → List α → List α → List α → List α) (hk : kws ≠ []) (hms : ∀ q ∈ ms, q ∈ kws)
    (hrel : ∀ {vs mz zs : List V} {us mv ws : List Value}, Vals vs us → Vals mz mv → Vals zs ws → Vals (g vs mz zs) (g us mv ws))
    (h : ∀ (D : Addr) (doc pm : Value) (an : Option Addr) (cdv ct : Value) (us mv ws : List Value), us.length = n → mv.length = ms.length → ws.length = ks.length →
      KwChain D ((ms.map (·.1)).zip mv) (bindArgs (PySem.W.fnOf x qual params body scope .none (.ref D) doc pm an cdv ct) ⟨us, ks.zip ws⟩) (ps.zip (g us mv ws))) :
    ∃ mv : List Value, Vals (ms.map (·.2)) mv ∧ KBn K fd ps n ks (fun us ws => g us mv ws) (fun vs zs => g vs (ms.map (·.2)) zs) := by
  obtain ⟨oc, od, dV, kV, doc, pm, an, cdv, ct, osl, rfl, lk, hcd, hD, hK⟩ := F.ex
  rcases hD with ⟨_, rfl⟩ | ⟨e, _⟩
  · rcases hK with e | ⟨D, rfl, hq⟩
    · exact absurd e hk
    · obtain ⟨mv, hl, rk, hks⟩ := kwd_vals (ms := ms) fun q hm => hq q (hms q hm)
      refine ⟨mv, rk, ⟨fun s us ws X l1 l2 => ?_, fun r1 r2 => hrel r1 rk r2⟩⟩
      exact BindsTo.of_looks fun M => KwChain.looks X hks (h D doc pm an cdv ct us mv ws l1 hl l2)
  · exact absurd rfl e
end
/-! ### defs by their promises -/
structure Fn (K : PySem.W.Frag) (mg : Str → Option Value) (x : Str) (st : Stmt) (ps : List Str) (f : Addr) (fd : FuncData) : Prop where
  F : Fun K x x st f fd
  b : L2.Binds K fd ps []
  m : mg x = some (.ref f)
def rv (sp : Sp) : Sp := fun vs => sp vs.reverse
/-- a def with keyword-only parameters that all have defaults: called without them, or with all of them -/
structure FnD (P : Program) (w : World) (K : PySem.W.Frag) (mg : Str → Option Value) (base : Heap) (k n : Nat) (x : Str) (ps ks : List Str) (dvs : List V) (sp : Sp) (f : Addr) (fd : FuncData) : Prop where
  G : FnOk P w K mg base CX0 k f fd ps sp
  kp : PySem.W.keepIn K (.ref f) = true
  m : mg x = some (.ref f)
  d : ∃ ds, Vals dvs ds ∧ L2.Binds K fd ps ds
  b : KBn K fd ps n ks (fun us ws => us ++ ws) (fun vs zs => vs ++ zs)
/-! ### the greatest of pairs -/
def ltP (a b : Int × Int) : Bool := decide (a.1 < b.1 ∨ (a.1 = b.1 ∧ a.2 < b.2))
def maxP : List (Int × Int) → Int × Int
  | [] => (0, 0)
  | e :: r => r.foldl (fun a y => if ltP a y then y else a) e
def encP (e : Int × Int) : PyData := .tuple [.int e.1, .int e.2]
theorem maxD_pairs : ∀ (r : List (Int × Int)) (e : Int × Int), PySem.W.maxD (encP e) (r.map encP) = encP (maxP (e :: r)) := by
  intro r
  unfold PySem.W.maxD
  induction r with
  | nil => exact fun e => rfl
  | cons y r ih =>
    intro e
    rw [List.map_cons, List.foldl_cons]
    have h : (if PySem.W.dataLt (encP e) (encP y) = true then encP y else encP e) = encP (if ltP e y then y else e) := by
      unfold encP ltP
      rw [PySem.W.dataLt_ii]
      split <;> rfl
    rw [h, ih]
    rfl
theorem alike_encP (b b' : Int × Int) : PySem.W.alike (encP b) (encP b') = true := by
  unfold encP
  simp [PySem.W.alike, PySem.W.alikeAll]
theorem depth_encP : ∀ l : List (Int × Int), PyData.depthAll (l.map encP) ≤ 3
  | [] => by rw [List.map_nil, PyData.depthAll]; decide
  | e :: l => by
    have := depth_encP l
    rw [List.map_cons, PyData.depthAll, encP, PyData.depth, PyData.depthAll, PyData.depthAll, PyData.depth, PyData.depth, PyData.depthAll]
    omega
/-- refs to pairs of numbers -/
def PrsAt (H : Hp) (us : List Addr) (es : List (Int × Int)) : Prop := us.length = es.length ∧ ∀ (i : Nat) (t : Addr) (e : Int × Int), us[i]? = some t → es[i]? = some e → H t = some (.tup [.int e.1, .int e.2])
theorem PrsAt.same {H H' : Hp} {us : List Addr} {es : List (Int × Int)} (h : PrsAt H us es) (s : Same H H') : PrsAt H' us es := ⟨h.1, fun i t e h1 h2 => s _ _ (h.2 i t e h1 h2)⟩
theorem PrsAt.nil {H : Hp} : PrsAt H [] [] := ⟨rfl, fun i t e h1 _ => by simp at h1⟩
theorem PrsAt.push {H : Hp} {us : List Addr} {es : List (Int × Int)} {t : Addr} {e : Int × Int} (h : PrsAt H us es) (ht : H t = some (.tup [.int e.1, .int e.2])) : PrsAt H (us ++ [t]) (es ++ [e]) := by
  refine ⟨by rw [List.length_append, List.length_append, h.1]; rfl, fun i u x h1 h2 => ?_⟩
  by_cases hi : i < us.length
  · rw [List.getElem?_append_left hi] at h1
    rw [List.getElem?_append_left (by rw [← h.1]; exact hi)] at h2
    exact h.2 i u x h1 h2
  · rw [List.getElem?_append_right (by omega)] at h1
    rw [List.getElem?_append_right (by rw [← h.1]; omega)] at h2
    have hj : i - us.length = 0 := by
      cases z : i - us.length with
      | zero => rfl
      | succ m => rw [z] at h1; simp at h1
    rw [hj] at h1
    rw [← h.1, hj] at h2
    simp at h1 h2
    subst h1; subst h2
    exact ht
theorem PrsAt.tail {H : Hp} {t : Addr} {us : List Addr} {e : Int × Int} {es : List (Int × Int)} (h : PrsAt H (t :: us) (e :: es)) : H t = some (.tup [.int e.1, .int e.2]) ∧ PrsAt H us es :=
  ⟨h.2 0 t e rfl rfl, by have := h.1; simp at this; exact this, fun i u x h1 h2 => h.2 (i + 1) u x h1 h2⟩
theorem dvs_prs {K : PySem.W.Frag} {H : Hp} : ∀ {us : List Addr} {es : List (Int × Int)}, PrsAt H us es → DVs K H (us.map V.ref) (es.map encP)
  | [], [], _ => .nil
  | [], _ :: _, h => by cases h.1
  | _ :: _, [], h => by cases h.1
  | t :: us, e :: es, h => by
    obtain ⟨h1, h2⟩ := h.tail
    exact .cons (.tup (SqT.of h1) (.cons (.int _) (.cons (.int _) .nil))) (dvs_prs h2)
def rMaxT (K : PySem.W.Frag) : List V → Hp → VK → Prop := fun vs H Q => ∃ (a : Addr) (us : List Addr) (es : List (Int × Int)), vs = [.ref a] ∧ SqL K H a (us.map V.ref) ∧ PrsAt H us es ∧ es ≠ [] ∧
  ∀ t, t ∈ us → H t = some (.tup [.int (maxP es).1, .int (maxP es).2]) → Q (.ref t) H
theorem cr_maxT {X : Cx} (hc : X.calm = true) (hu : X.A.units + 64 < cLine) : CallR X (.builtin "max") (rMaxT X.K) := by
  intro pins s σ H vs us0 Q I r h
  obtain ⟨a, us, es, rfl, hs, hp, hne, q⟩ := h
  obtain rfl := Vals.ref1 r
  obtain ⟨its, rv, hl, hz⟩ := I.list hs
  obtain ⟨as, hr⟩ := DVs.reads I _ _ _ (dvs_prs (K := X.K) hp) rv
  cases es with
  | nil => exact absurd rfl hne
  | cons e es =>
    rw [List.map_cons] at hr
    have hd := depth_encP (e :: es)
    rw [List.map_cons] at hd
    have ha : PySem.W.AlikeAll (encP e :: es.map encP) := by
      have : PySem.W.AlikeAll ((e :: es).map encP) := by
        refine ⟨fun x hx y hy => ?_, fun x hx => ?_⟩
        · obtain ⟨a, _, rfl⟩ := List.mem_map.mp hx
          obtain ⟨b, _, rfl⟩ := List.mem_map.mp hy
          exact alike_encP a b
        · obtain ⟨a, _, rfl⟩ := List.mem_map.mp hx
          exact fun z => by cases z
      exact this
    refine PySem.W.max_list_data (as := as) (I.ok.hd hc) hl.isList hr ha (by omega) fun i v h' tk bs hv hrd hk => ?_
    rw [maxD_pairs] at hrd
    obtain ⟨m, hm⟩ : ∃ m, m = maxP (e :: es) := ⟨_, rfl⟩
    rw [← hm] at hrd q
    have hil : i < its.length := by
      have := (Array.getElem?_eq_some_iff.mp hv).1
      simpa using this
    have hiu : i < us.length := by
      have := rv.length
      rw [List.length_map] at this
      omega
    obtain ⟨t, ht⟩ : ∃ t, us[i]? = some t := ⟨_, List.getElem?_eq_getElem hiu⟩
    obtain ⟨x, hx⟩ : ∃ x, (e :: es)[i]? = some x := ⟨_, List.getElem?_eq_getElem (by rw [← hp.1]; exact hiu)⟩
    have hH := hp.2 i t x ht hx
    obtain ⟨u, hu1, hu2⟩ := rv.get (show (us.map V.ref)[i]? = some (.ref t) by rw [List.getElem?_map, ht]; rfl)
    have ev : v = u := by
      rw [List.getElem?_toArray, hu1] at hv
      exact (Option.some.inj hv).symm
    subst ev
    obtain rfl : v = Value.ref t := hu2
    obtain ⟨_, us2, r2, o, ho, hcl, n, hdt⟩ := I.hok t _ hH
    obtain ⟨u1, u2, rfl, r1, r3⟩ := Vals.two r2
    obtain ⟨t1, rfl⟩ := r1
    obtain ⟨t2, rfl⟩ := r3
    have ho' := hk _ _ ho
    have em : m = x := by
      clear hm q
      obtain ⟨m1, m2⟩ := m
      obtain ⟨x1, x2⟩ := x
      unfold encP at hrd
      cases hrd with
      | tuple g1 g2 g3 g4 =>
        rw [ho'] at g1
        cases g1
        rw [hdt] at g3
        cases g3
        cases g4 with
        | cons k1 k2 =>
          cases k2 with
          | cons k3 k4 =>
            cases k1
            cases k3
            rfl
    exact ⟨.ref t, H, I.kept hk, rfl, q t (List.mem_of_getElem? ht) (by rw [em]; exact hH)⟩
/-! ### pairs from numbers -/
def pr11 (N m : Int) : Int × Int := (m / N, m % N)
theorem lt_pr {N a b : Int} (hN : 0 < N) : ltP (pr11 N a) (pr11 N b) = decide (a < b) := by
  unfold ltP pr11
  refine decide_eq_decide.mpr ?_
  have e1 := Int.mul_ediv_add_emod a N
  have e2 := Int.mul_ediv_add_emod b N
  have a1 := Int.emod_nonneg a (show N ≠ 0 by omega)
  have a2 := Int.emod_lt_of_pos a hN
  have b1 := Int.emod_nonneg b (show N ≠ 0 by omega)
  have b2 := Int.emod_lt_of_pos b hN
  show (a / N < b / N ∨ a / N = b / N ∧ a % N < b % N) ↔ a < b
  constructor
  · rintro (h | ⟨h1, h2⟩)
    · have : N * (a / N + 1) ≤ N * (b / N) := Int.mul_le_mul_of_nonneg_left (by omega) (by omega)
      rw [Int.mul_add, Int.mul_one] at this
      omega
    · rw [h1] at e1
      omega
  · intro h
    rcases Int.lt_trichotomy (a / N) (b / N) with z | z | z
    · exact .inl z
    · rw [z] at e1
      exact .inr ⟨z, by omega⟩
    · have : N * (b / N + 1) ≤ N * (a / N) := Int.mul_le_mul_of_nonneg_left (by omega) (by omega)
      rw [Int.mul_add, Int.mul_one] at this
      omega
theorem maxP_pr {N : Int} (hN : 0 < N) : ∀ (ms : List Int), ms ≠ [] → maxP (ms.map (pr11 N)) = pr11 N (maxI 0 ms) := by
  intro ms h
  cases ms with
  | nil => exact absurd rfl h
  | cons m ms =>
    show (ms.map (pr11 N)).foldl (fun a y => if ltP a y then y else a) (pr11 N m) = pr11 N (ms.foldl max m)
    clear h
    induction ms generalizing m with
    | nil => rfl
    | cons k r ih =>
      rw [List.map_cons, List.foldl_cons, List.foldl_cons, lt_pr hN]
      have e : (if decide (m < k) = true then pr11 N k else pr11 N m) = pr11 N (max m k) := by
        by_cases c : m < k
        · rw [if_pos (decide_eq_true c), Int.max_eq_right (by omega)]
        · rw [if_neg (by simpa using c), Int.max_eq_left (by omega)]
      rw [e]
      exact ih (max m k)
/-! ### the program's best set as a greedy walk -/
theorem best_gr {bs ids : List Int} {wf : Int → Int} (sub : ∀ x ∈ ids, x ∈ bs) :
    bestF bs ids wf = grL (tallF bs ids wf) wf (mostI (ixI bs.reverse) (tallF bs ids wf) (bs.length : Int) ids) ids := by
  have hlt : ∀ x ∈ ids, ixI bs.reverse x < (bs.length : Int) := fun x hx => by
    have := ixI_bound (bs := bs.reverse) (List.mem_reverse.mpr (sub x hx))
    rw [List.length_reverse] at this
    omega
  have em : maxI 0 (ids.reverse.map (tallF bs ids wf)) = mostI (ixI bs.reverse) (tallF bs ids wf) (bs.length : Int) ids := by
    refine maxI_set fun z => ?_
    simp only [List.mem_map, List.mem_filter, List.mem_reverse]
    constructor
    · rintro ⟨a, h, e⟩
      exact ⟨a, ⟨h, decide_eq_true (hlt a h)⟩, e⟩
    · rintro ⟨a, ⟨h, _⟩, e⟩
      exact ⟨a, h, e⟩
  unfold bestF
  rw [bestG_eq, em]
section
variable {pl wf f : Int → Int}
theorem gr_empty {c : Int} : ∀ {l : List Int}, (∀ x ∈ l, 0 < f x) → l.filter (fun y => decide (pl y < c)) = [] → grL f wf (mostI pl f c l) l = [] := by
  intro l hp he
  have e0 : mostI pl f c l = 0 := by unfold mostI; rw [he]; rfl
  rw [e0]
  clear he e0
  induction l with
  | nil => rfl
  | cons x r ih =>
    rw [grL, if_neg (by have := hp x List.mem_cons_self; omega)]
    exact ih fun y hy => hp y (List.mem_cons_of_mem _ hy)
/-- the first of the greatest among what can go on -/
theorem gr_first {c : Int} : ∀ (l : List Int), Tall pl wf f l → (∀ x ∈ l, 0 < wf x) → ∀ (j : Nat) (x : Int), (l.filter fun y => decide (pl y < c))[j]? = some x → f x = mostI pl f c l → (∀ m y, m < j → (l.filter fun y => decide (pl y < c))[m]? = some y → f y ≠ mostI pl f c l) →
    ∃ u r, l = u ++ x :: r ∧ Tall pl wf f r ∧ grL f wf (mostI pl f c l) l = x :: grL f wf (mostI pl f (pl x) r) r ∧ ((l.filter fun y => decide (pl y < c)).drop (j + 1)).filter (fun y => decide (pl y < pl x)) = r.filter fun y => decide (pl y < pl x)
  | [], _, _, j, x, h, _, _ => by simp at h
  | z :: l, ht, hw, j, x, hj, hfx, hno => by
    have hw' : ∀ y ∈ l, 0 < wf y := fun y hy => hw y (List.mem_cons_of_mem _ hy)
    have hfp : ∀ y ∈ z :: l, 0 < f y := fun y hy => by
      have a := tall_pos ht hw y hy
      have b := hw y hy
      omega
    have hfz : f z = wf z + mostI pl f (pl z) l := ht.1
    by_cases hc : pl z < c
    · rw [List.filter_cons_of_pos (by exact decide_eq_true hc)] at hj hno ⊢
      cases j with
      | zero =>
        obtain rfl : z = x := Option.some.inj hj
        refine ⟨[], l, rfl, ht.2, ?_, ?_⟩
        · rw [← hfx, grL, if_pos rfl]
          congr 2
          omega
        · show (l.filter fun y => decide (pl y < c)).filter (fun y => decide (pl y < pl z)) = _
          rw [List.filter_filter]
          refine List.filter_congr fun y _ => ?_
          by_cases q : pl y < pl z
          · rw [decide_eq_true q, decide_eq_true (show pl y < c by omega)]; rfl
          · rw [decide_eq_false q, Bool.false_and]
      | succ j =>
        have hz := hno 0 z (by omega) rfl
        have hm := most_cons_in (f := f) hc hfp
        have hj : (l.filter fun y => decide (pl y < c))[j]? = some x := hj
        have e : mostI pl f c (z :: l) = mostI pl f c l := by
          rw [hm] at hz ⊢
          omega
        rw [e] at hfx hno hz ⊢
        obtain ⟨u, r, e1, e2, e3, e4⟩ := gr_first l ht.2 hw' j x hj hfx fun m y hmj hy => hno (m + 1) y (by omega) hy
        exact ⟨z :: u, r, by rw [e1]; rfl, e2, by rw [grL, if_neg hz]; exact e3, e4⟩
    · rw [List.filter_cons_of_neg (by simpa using hc)] at hj hno ⊢
      have e := most_cons_out (f := f) (r := l) hc
      rw [e] at hfx hno ⊢
      have hz : f z ≠ mostI pl f c l := fun q => by
        have h0 := hfp z List.mem_cons_self
        have h1 := hw z List.mem_cons_self
        obtain ⟨y, hy, hyc, ey⟩ := most_in (pl := pl) (f := f) (c := c) (l := l) (by omega)
        have := tall_key ht hy (by omega)
        omega
      obtain ⟨u, r, e1, e2, e3, e4⟩ := gr_first l ht.2 hw' j x hj hfx hno
      exact ⟨z :: u, r, by rw [e1]; rfl, e2, by rw [grL, if_neg hz]; exact e3, e4⟩
/-- weights and favoured ids kept apart -/
theorem tall_apart {w : Int → Int} {lk : Int → Int} {N : Int} (hN : 0 < N) (hwf : ∀ x, wf x = w x * N + lk x) (hlk : ∀ x, 0 ≤ lk x ∧ lk x ≤ 1) (hw : ∀ x, 0 ≤ w x) :
    ∀ l : List Int, Tall pl wf f l → (l.length : Int) < N → ∀ x ∈ l, 0 ≤ f x ∧ f x % N ≤ (l.length : Int)
  | [], _, _, x, h => by cases h
  | z :: l, ht, hl, x, hx => by
    rw [List.length_cons] at hl ⊢
    have ih := tall_apart hN hwf hlk hw l ht.2 (by omega)
    rcases List.mem_cons.mp hx with e | e
    · subst e
      have hM : 0 ≤ mostI pl f (pl x) l ∧ mostI pl f (pl x) l % N ≤ (l.length : Int) := by
        by_cases c : mostI pl f (pl x) l = 0
        · rw [c, Int.zero_emod]; omega
        · obtain ⟨y, hy, _, ey⟩ := most_in c
          rw [← ey]
          exact ih y hy
      have h1 := ht.1
      have h1 : f x = wf x + mostI pl f (pl x) l := h1
      have h2 := hwf x
      have h3 := hlk x
      have h4 := Int.mul_nonneg (hw x) (show 0 ≤ N by omega)
      refine ⟨by omega, ?_⟩
      have h5 := Int.mul_ediv_add_emod (mostI pl f (pl x) l) N
      have h6 : f x = (lk x + mostI pl f (pl x) l % N) + N * (w x + mostI pl f (pl x) l / N) := by
        rw [Int.mul_add, h1, h2, Int.mul_comm (w x) N]; omega
      have h7 := Int.emod_nonneg (mostI pl f (pl x) l) (show N ≠ 0 by omega)
      rw [h6, Int.add_mul_emod_self_left, Int.emod_eq_of_lt (by omega) (by omega)]
      omega
    · have := ih x e
      omega
theorem tall_pair {w : Int → Int} {lk : Int → Int} {N : Int} (hN : 0 < N) (hwf : ∀ x, wf x = w x * N + lk x) (hlk : ∀ x, 0 ≤ lk x ∧ lk x ≤ 1) (hw : ∀ x, 0 ≤ w x) {z : Int} {l : List Int} (ht : Tall pl wf f (z :: l)) (hl : (l.length : Int) + 1 < N) :
    f z / N = mostI pl f (pl z) l / N + w z ∧ f z % N = mostI pl f (pl z) l % N + lk z := by
  have ih := tall_apart hN hwf hlk hw l ht.2 (by omega)
  have hM : 0 ≤ mostI pl f (pl z) l ∧ mostI pl f (pl z) l % N ≤ (l.length : Int) := by
    by_cases c : mostI pl f (pl z) l = 0
    · rw [c, Int.zero_emod]; omega
    · obtain ⟨y, hy, _, ey⟩ := most_in c
      rw [← ey]
      exact ih y hy
  have h1 : f z = wf z + mostI pl f (pl z) l := ht.1
  have h2 := hwf z
  have h3 := hlk z
  have h5 := Int.mul_ediv_add_emod (mostI pl f (pl z) l) N
  have h6 : f z = (lk z + mostI pl f (pl z) l % N) + N * (w z + mostI pl f (pl z) l / N) := by
    rw [Int.mul_add, h1, h2, Int.mul_comm (w z) N]; omega
  have h7 := Int.emod_nonneg (mostI pl f (pl z) l) (show N ≠ 0 by omega)
  constructor
  · rw [h6, Int.add_mul_ediv_left _ _ (show N ≠ 0 by omega), Int.ediv_eq_zero_of_lt (by omega) (by omega)]
    omega
  · rw [h6, Int.add_mul_emod_self_left, Int.emod_eq_of_lt (by omega) (by omega)]
    omega
end
/-! ### the table in the heap -/
def TabAt (H : Hp) (fo : Addr) (l : List Int) (f : Int → Int) (N : Int) : Prop := ∃ es : List (Int × Addr), H fo = some (.dK (es.map fun e => ((.inl e.1 : Key), V.ref e.2))) ∧ es.map Prod.fst = l ∧ ∀ e ∈ es, H e.2 = some (.tup [.int (pr11 N (f e.1)).1, .int (pr11 N (f e.1)).2])
theorem TabAt.same {H H' : Hp} {fo : Addr} {l : List Int} {f : Int → Int} {N : Int} (h : TabAt H fo l f N) (s : Same H H') : TabAt H' fo l f N := by
  obtain ⟨es, h1, h2, h3⟩ := h
  exact ⟨es, s _ _ h1, h2, fun e he => s _ _ (h3 e he)⟩
theorem val_es : ∀ (es : List (Int × Addr)) (x : Int), (x ∈ es.map Prod.fst → ∃ t, (x, t) ∈ es ∧ valV (es.map fun e => ((.inl e.1 : Key), V.ref e.2)) (.inl x : Key) = some (.ref t)) ∧ (x ∉ es.map Prod.fst → valV (es.map fun e => ((.inl e.1 : Key), V.ref e.2)) (.inl x : Key) = none)
  | [], x => ⟨(fun h => by cases h), fun _ => rfl⟩
  | e :: es, x => by
    obtain ⟨i1, i2⟩ := val_es es x
    have ec : (e :: es).map (fun e => ((.inl e.1 : Key), V.ref e.2)) = ((.inl e.1 : Key), V.ref e.2) :: es.map fun e => ((.inl e.1 : Key), V.ref e.2) := rfl
    rw [ec]
    by_cases h : e.1 = x
    · rw [valV_pos (by show (.inl e.1 : Key) = .inl x; rw [h])]
      exact ⟨fun _ => ⟨e.2, by rw [← h]; exact List.mem_cons_self, rfl⟩, fun z => absurd (by rw [List.map_cons, h]; exact List.mem_cons_self) z⟩
    · rw [valV_neg (fun z : (.inl e.1 : Key) = .inl x => h (Sum.inl.inj z))]
      constructor
      · intro z
        rcases List.mem_cons.mp z with q | q
        · exact absurd q.symm h
        · obtain ⟨t, a, b⟩ := i1 q
          exact ⟨t, List.mem_cons_of_mem _ a, b⟩
      · intro z
        exact i2 fun q => z (List.mem_cons_of_mem _ q)
theorem TabAt.get {H : Hp} {fo : Addr} {l : List Int} {f : Int → Int} {N : Int} (h : TabAt H fo l f N) {x : Int} (hx : x ∈ l) : ∃ t, (∀ H', Same H H' → DGet H' fo (.int x) (some (.ref t))) ∧ H t = some (.tup [.int (pr11 N (f x)).1, .int (pr11 N (f x)).2]) := by
  obtain ⟨es, h1, h2, h3⟩ := h
  obtain ⟨t, ht, hv⟩ := (val_es es x).1 (by rw [h2]; exact hx)
  refine ⟨t, fun H' s => ?_, h3 _ ht⟩
  have := DGet.k (k := (.inl x : Key)) (s _ _ h1)
  rw [hv] at this
  exact this
theorem TabAt.put {H : Hp} {fo t : Addr} {l : List Int} {f : Int → Int} {N x : Int} (h : TabAt H fo l f N) (hx : x ∉ l) (hl : l.length < 1000) (ht : H t = some (.tup [.int (pr11 N (f x)).1, .int (pr11 N (f x)).2])) :
    ∃ kvs, DPut H fo (.int x) (.ref t) (upd H fo (.dK kvs)) ∧ TabAt (upd H fo (.dK kvs)) fo (l ++ [x]) f N := by
  obtain ⟨es, h1, h2, h3⟩ := h
  have hel : es.length = l.length := by rw [← h2, List.length_map]
  refine ⟨_, DPut.k (k := (.inl x : Key)) h1 (by rw [List.length_map, sizeLine_eq]; omega), es ++ [(x, t)], ?_, by rw [List.map_append, h2]; rfl, fun e he => ?_⟩
  · rw [upd_same, putK_new _ ((val_es es x).2 (by rw [h2]; exact hx)), List.map_append]; rfl
  · rcases List.mem_append.mp he with q | q
    · rw [upd_ne (ne_of (h3 e q) h1 (fun z => by cases z))]; exact h3 e q
    · rw [List.mem_singleton.mp q]
      rw [upd_ne (ne_of ht h1 (fun z => by cases z))]; exact ht
/-! ### the level cover -/
def insU (x : Int) : List Int → List Int
  | [] => [x]
  | y :: r => if x < y then x :: y :: r else if x = y then y :: r else y :: insU x r
theorem insU_mem (x : Int) : ∀ (l : List Int) (z : Int), z ∈ insU x l ↔ z = x ∨ z ∈ l
  | [], z => by unfold insU; simp
  | y :: r, z => by
    unfold insU
    split
    · simp
    · split
      · rename_i h
        subst h
        simp
      · rw [List.mem_cons, insU_mem x r z, List.mem_cons]
        constructor
        · rintro (h | h | h)
          · exact .inr (.inl h)
          · exact .inl h
          · exact .inr (.inr h)
        · rintro (h | h | h)
          · exact .inr (.inl h)
          · exact .inl h
          · exact .inr (.inr h)
theorem insU_up (x : Int) : ∀ {l : List Int}, l.Pairwise (· < ·) → (insU x l).Pairwise (· < ·)
  | [], _ => List.pairwise_singleton _ _
  | y :: r, h => by
    obtain ⟨h1, h2⟩ := List.pairwise_cons.mp h
    unfold insU
    split
    · rename_i q
      refine List.pairwise_cons.mpr ⟨fun z hz => ?_, h⟩
      rcases List.mem_cons.mp hz with e | e
      · rw [e]; exact q
      · exact Int.lt_trans q (h1 z e)
    · split
      · exact h
      · refine List.pairwise_cons.mpr ⟨fun z hz => ?_, insU_up x h2⟩
        rcases (insU_mem x r z).mp hz with e | e
        · rw [e]; omega
        · exact h1 z e
/-- the different numbers of a list, ascending -/
def boundsI (l : List Int) : List Int := l.foldr insU []
theorem bounds_mem : ∀ (l : List Int) (z : Int), z ∈ boundsI l ↔ z ∈ l
  | [], z => Iff.rfl
  | x :: r, z => by
    show z ∈ insU x (boundsI r) ↔ _
    rw [insU_mem, bounds_mem r z, List.mem_cons]
theorem bounds_up : ∀ l : List Int, (boundsI l).Pairwise (· < ·)
  | [] => List.Pairwise.nil
  | x :: r => insU_up x (bounds_up r)
theorem up_nodup {l : List Int} (h : l.Pairwise (· < ·)) : l.Nodup := h.imp fun {a b} z e => by omega
theorem up_eq {a b : List Int} (ha : a.Pairwise (· < ·)) (hb : b.Pairwise (· < ·)) (h : ∀ z, z ∈ a ↔ z ∈ b) : a = b :=
  List.Perm.eq_of_pairwise (le := fun x y : Int => x < y) (fun x y _ _ h1 h2 => by omega) ha hb ((List.perm_ext_iff_of_nodup (up_nodup ha) (up_nodup hb)).mpr fun z => h z)
theorem insU_len (x : Int) : ∀ l : List Int, (insU x l).length ≤ l.length + 1
  | [] => Nat.le_refl _
  | y :: r => by
    have := insU_len x r
    unfold insU
    split
    · exact Nat.le_refl _
    · split
      · exact Nat.le_succ _
      · rw [List.length_cons, List.length_cons]; omega
theorem bounds_len : ∀ l : List Int, (boundsI l).length ≤ l.length
  | [] => Nat.le_refl _
  | x :: r => by
    have a := insU_len x (boundsI r)
    have b := bounds_len r
    show (insU x (boundsI r)).length ≤ _
    rw [List.length_cons]; omega
/-- the runs between bounds that follow each other -/
def runsOf (ids : List Int) (tp fl : Int → Int) (b : List Int) : List (Int × List Int) := (b.zip (b.drop 1)).map fun e => (e.2 - e.1, ids.filter fun x => decide (fl x ≤ e.1) && decide (e.2 ≤ tp x))
def covF (ids : List Int) (tp fl : Int → Int) : List (Int × List Int) := runsOf ids tp fl (boundsI (ids.map fl ++ ids.map tp))
theorem cov_len (ids : List Int) (tp fl : Int → Int) : (covF ids tp fl).length ≤ 2 * ids.length := by
  unfold covF runsOf
  have := bounds_len (ids.map fl ++ ids.map tp)
  rw [List.length_append, List.length_map, List.length_map] at this
  rw [List.length_map, List.length_zip]
  omega
theorem cov_sub {ids : List Int} {tp fl : Int → Int} {r : Int × List Int} (h : r ∈ covF ids tp fl) : r.2.Sublist ids := by
  unfold covF runsOf at h
  obtain ⟨e, _, rfl⟩ := List.mem_map.mp h
  exact List.filter_sublist
/-! ### runs in the heap -/
def RunAt (H : Hp) (v : V) (r : Int × List Int) : Prop := ∃ t u, v = .ref t ∧ H t = some (.tup [.int r.1, .ref u]) ∧ H u = some (.tup (r.2.map V.int))
theorem RunAt.same {H H' : Hp} {v : V} {r : Int × List Int} (s : Same H H') (h : RunAt H v r) : RunAt H' v r := by
  obtain ⟨t, u, e, h1, h2⟩ := h
  exact ⟨t, u, e, s _ _ h1, s _ _ h2⟩
theorem RunAt.put {H : Hp} {v : V} {r : Int × List Int} {q : Addr} {xs : List V} {o : HO} (hq : H q = some (.lst xs)) (h : RunAt H v r) : RunAt (upd H q o) v r := by
  obtain ⟨t, u, e, h1, h2⟩ := h
  exact ⟨t, u, e, by rw [upd_ne (ne_of h1 hq (fun z => by cases z))]; exact h1, by rw [upd_ne (ne_of h2 hq (fun z => by cases z))]; exact h2⟩
def RunsAt (H : Hp) (q : Addr) (rs : List (Int × List Int)) : Prop := ∃ vs : List V, H q = some (.lst vs) ∧ vs.length = rs.length ∧ ∀ (i : Nat) (v : V) (r : Int × List Int), vs[i]? = some v → rs[i]? = some r → RunAt H v r
theorem RunsAt.nil {H : Hp} {q : Addr} (h : H q = some (.lst [])) : RunsAt H q [] := ⟨[], h, rfl, fun i v r e => by simp at e⟩
theorem RunsAt.same {H H' : Hp} {q : Addr} {rs : List (Int × List Int)} (s : Same H H') (h : RunsAt H q rs) : RunsAt H' q rs := by
  obtain ⟨vs, h1, h2, h3⟩ := h
  exact ⟨vs, s _ _ h1, h2, fun i v r e1 e2 => (h3 i v r e1 e2).same s⟩
theorem RunsAt.push {H : Hp} {q : Addr} {rs : List (Int × List Int)} {v : V} {r : Int × List Int} (h : RunsAt H q rs) (hv : RunAt H v r) : ∃ vs, H q = some (.lst vs) ∧ vs.length = rs.length ∧ RunsAt (upd H q (.lst (vs ++ [v]))) q (rs ++ [r]) := by
  obtain ⟨vs, h1, h2, h3⟩ := h
  refine ⟨vs, h1, h2, vs ++ [v], upd_same, by rw [List.length_append, List.length_append, h2]; rfl, fun i w t e1 e2 => ?_⟩
  by_cases hi : i < vs.length
  · rw [List.getElem?_append_left hi] at e1
    rw [List.getElem?_append_left (by omega)] at e2
    exact (h3 i w t e1 e2).put h1
  · rw [List.getElem?_append_right (by omega)] at e1
    rw [List.getElem?_append_right (by omega)] at e2
    have hj : i - vs.length = 0 := by
      cases z : i - vs.length with
      | zero => rfl
      | succ m => rw [z] at e1; simp at e1
    rw [hj] at e1
    rw [show i - rs.length = 0 by omega] at e2
    simp at e1 e2
    subst e1; subst e2
    exact hv.put h1
/-! ### the level cover, level by level -/
def stpC (st : List (Int × List Int)) (r : List Int) : List (Int × List Int) := match st.getLast? with
  | none => [(1, r)]
  | some e => if e.2 = r then st.dropLast ++ [(e.1 + 1, r)] else st ++ [(1, r)]
theorem stpC_new {st : List (Int × List Int)} {r : List Int} (h : ∀ e, st.getLast? = some e → e.2 ≠ r) : stpC st r = st ++ [(1, r)] := by
  unfold stpC
  cases q : st.getLast? with
  | none => rw [List.getLast?_eq_none_iff.mp q]; rfl
  | some e => rw [show (match some e with | none => [(1, r)] | some e => if e.2 = r then st.dropLast ++ [(e.1 + 1, r)] else st ++ [(1, r)]) = (if e.2 = r then st.dropLast ++ [(e.1 + 1, r)] else st ++ [(1, r)]) from rfl, if_neg (h e q)]
theorem stpC_more (st : List (Int × List Int)) (n : Int) (r : List Int) : stpC (st ++ [(n, r)]) r = st ++ [(n + 1, r)] := by
  unfold stpC
  rw [List.getLast?_concat]
  show (if r = r then (st ++ [(n, r)]).dropLast ++ [(n + 1, r)] else _) = _
  rw [if_pos rfl, List.dropLast_concat]
theorem stpC_times (r : List Int) (st : List (Int × List Int)) : ∀ (n : Nat) (m : Int), (List.replicate n r).foldl stpC (st ++ [(m, r)]) = st ++ [(m + n, r)]
  | 0, m => by simp
  | n + 1, m => by
    rw [List.replicate_succ, List.foldl_cons, stpC_more, stpC_times r st n (m + 1)]
    congr 3
    omega
/-- the levels from one to another -/
def levels (lo : Int) (n : Nat) : List Int := (List.range n).map fun (i : Nat) => lo + 1 + (i : Int)
theorem levels_add (lo : Int) (m n : Nat) : levels lo (m + n) = levels lo m ++ levels (lo + m) n := by
  unfold levels
  rw [List.range_add, List.map_append, List.map_map]
  congr 1
  refine List.map_congr_left fun i _ => ?_
  show lo + 1 + ((m + i : Nat) : Int) = lo + m + 1 + (i : Int)
  omega
theorem levels_mem {lo : Int} {n : Nat} {z : Int} : z ∈ levels lo n ↔ lo < z ∧ z ≤ lo + n := by
  unfold levels
  rw [List.mem_map]
  constructor
  · rintro ⟨i, hi, rfl⟩
    have := List.mem_range.mp hi
    omega
  · rintro ⟨h1, h2⟩
    exact ⟨(z - lo - 1).toNat, List.mem_range.mpr (by omega), by omega⟩
section
variable {ids : List Int} {tp fl : Int → Int}
def lvIds (ids : List Int) (tp fl : Int → Int) (z : Int) : List Int := ids.filter fun x => decide (fl x < z) && decide (z ≤ tp x)
def bdIds (ids : List Int) (tp fl : Int → Int) (lo hi : Int) : List Int := ids.filter fun x => decide (fl x ≤ lo) && decide (hi ≤ tp x)
/-- between two bounds that follow each other -/
theorem lv_bd {lo hi z : Int} (h1 : lo < z) (h2 : z ≤ hi) (hf : ∀ x ∈ ids, fl x ≤ lo ∨ hi ≤ fl x) (ht : ∀ x ∈ ids, tp x ≤ lo ∨ hi ≤ tp x) : lvIds ids tp fl z = bdIds ids tp fl lo hi := by
  unfold lvIds bdIds
  refine List.filter_congr fun x hx => ?_
  have a := hf x hx
  have b := ht x hx
  congr 1
  · exact decide_eq_decide.mpr ⟨fun q => by omega, fun q => by omega⟩
  · exact decide_eq_decide.mpr ⟨fun q => by omega, fun q => by omega⟩
theorem bd_ne {lo md hi : Int} (hb : ∃ x ∈ ids, fl x = md ∨ tp x = md) (h1 : lo < md) (h2 : md < hi) (hw : ∀ x ∈ ids, fl x < tp x) (hf : ∀ x ∈ ids, fl x ≤ lo ∨ md ≤ fl x) (ht : ∀ x ∈ ids, tp x ≤ md ∨ hi ≤ tp x) :
    bdIds ids tp fl lo md ≠ bdIds ids tp fl md hi := fun e => by
  obtain ⟨x, hx, h⟩ := hb
  have m : x ∈ bdIds ids tp fl lo md ↔ x ∈ bdIds ids tp fl md hi := by rw [e]
  unfold bdIds at m
  rw [List.mem_filter, List.mem_filter, Bool.and_eq_true, Bool.and_eq_true, decide_eq_true_iff, decide_eq_true_iff, decide_eq_true_iff, decide_eq_true_iff] at m
  have a := hf x hx
  have b := ht x hx
  have c := hw x hx
  rcases h with h | h
  · have := m.mpr ⟨hx, by omega, by omega⟩
    omega
  · have := m.mp ⟨hx, by omega, by omega⟩
    omega
/-- the levels of all bounds from the first on -/
theorem steps_runs (hw : ∀ x ∈ ids, fl x < tp x) : ∀ (b : List Int) (lo : Int) (st : List (Int × List Int)), (lo :: b).Pairwise (· < ·) → (∀ x ∈ ids, (fl x ≤ lo ∨ fl x ∈ b) ∧ (tp x ≤ lo ∨ tp x ∈ b)) → (∀ z ∈ b, ∃ x ∈ ids, fl x = z ∨ tp x = z) →
    (∀ e hi r, st.getLast? = some e → b = hi :: r → e.2 ≠ bdIds ids tp fl lo hi) →
    ((levels lo (((lo :: b).getLast (by simp) - lo).toNat)).map (lvIds ids tp fl)).foldl stpC st = st ++ runsOf ids tp fl (lo :: b)
  | [], lo, st, _, _, _, _ => by
    rw [List.getLast_singleton, Int.sub_self]
    show st = st ++ []
    rw [List.append_nil]
  | hi :: r, lo, st, hp, hm, hx, hs => by
    have hlh : lo < hi := (List.pairwise_cons.mp hp).1 _ List.mem_cons_self
    have hp2 := (List.pairwise_cons.mp hp).2
    have hr : ∀ z ∈ r, hi < z := (List.pairwise_cons.mp hp2).1
    have hf : ∀ x ∈ ids, fl x ≤ lo ∨ hi ≤ fl x := fun x hx => by
      rcases (hm x hx).1 with h | h
      · exact .inl h
      · rcases List.mem_cons.mp h with h | h
        · exact .inr (by omega)
        · exact .inr (by have := hr _ h; omega)
    have ht : ∀ x ∈ ids, tp x ≤ lo ∨ hi ≤ tp x := fun x hx => by
      rcases (hm x hx).2 with h | h
      · exact .inl h
      · rcases List.mem_cons.mp h with h | h
        · exact .inr (by omega)
        · exact .inr (by have := hr _ h; omega)
    have hle : hi ≤ (hi :: r).getLast (by simp) := by
      rcases List.mem_cons.mp (List.getLast_mem (show hi :: r ≠ [] by simp)) with h | h
      · omega
      · have := hr _ h; omega
    obtain ⟨k, hk⟩ : ∃ k : Nat, (k : Int) + 1 = hi - lo := ⟨(hi - lo - 1).toNat, by omega⟩
    have el : ((lo :: hi :: r).getLast (by simp) - lo).toNat = (k + 1) + ((hi :: r).getLast (by simp) - hi).toNat := by
      rw [List.getLast_cons (by simp)]
      omega
    rw [el, levels_add, List.map_append, List.foldl_append]
    have e1 : (levels lo (k + 1)).map (lvIds ids tp fl) = List.replicate (k + 1) (bdIds ids tp fl lo hi) := by
      refine List.eq_replicate_iff.mpr ⟨by rw [List.length_map]; unfold levels; rw [List.length_map, List.length_range], fun y hy => ?_⟩
      obtain ⟨z, hz, rfl⟩ := List.mem_map.mp hy
      have := levels_mem.mp hz
      exact lv_bd this.1 (by omega) hf ht
    rw [e1, List.replicate_succ, List.foldl_cons, stpC_new fun e he => hs e hi r he rfl, stpC_times]
    have e2 : (lo + ((k + 1 : Nat) : Int)) = hi := by omega
    have e3 : (1 : Int) + (k : Int) = hi - lo := by omega
    rw [e2, e3]
    rw [steps_runs hw r hi _ hp2 (fun x hx => ⟨?_, ?_⟩) (fun z hz => hx z (List.mem_cons_of_mem _ hz)) fun e hi2 r2 he er => ?_]
    · rw [List.append_assoc]; rfl
    · rcases (hm x hx).1 with h | h
      · exact .inl (by omega)
      · rcases List.mem_cons.mp h with h | h
        · exact .inl (by omega)
        · exact .inr h
    · rcases (hm x hx).2 with h | h
      · exact .inl (by omega)
      · rcases List.mem_cons.mp h with h | h
        · exact .inl (by omega)
        · exact .inr h
    · rw [List.getLast?_concat] at he
      cases he
      subst er
      have h2 : hi < hi2 := hr _ List.mem_cons_self
      refine bd_ne (hx hi List.mem_cons_self) hlh h2 hw hf fun x hxi => ?_
      rcases (hm x hxi).2 with h | h
      · exact .inl (by omega)
      · rcases List.mem_cons.mp h with h | h
        · exact .inl (by omega)
        · rcases List.mem_cons.mp h with h | h
          · exact .inr (by omega)
          · exact .inr (by have := (List.pairwise_cons.mp (List.pairwise_cons.mp hp2).2).1 _ h; omega)
end
/-- the whole cover by its levels -/
theorem cov_steps {ids : List Int} {tp fl : Int → Int} {M : Int} (hw : ∀ x ∈ ids, fl x < tp x) (h0 : ∀ x ∈ ids, 0 ≤ fl x) (hz : ids ≠ [] → ∃ x ∈ ids, fl x = 0) (hM : ∀ x ∈ ids, tp x ≤ M) (hM2 : ids ≠ [] → ∃ x ∈ ids, tp x = M) (hM0 : ids = [] → M = 0) :
    ((levels 0 M.toNat).map (lvIds ids tp fl)).foldl stpC [] = covF ids tp fl := by
  unfold covF
  obtain ⟨b, hb⟩ : ∃ b, b = boundsI (ids.map fl ++ ids.map tp) := ⟨_, rfl⟩
  rw [← hb]
  have hm : ∀ z, z ∈ b ↔ ∃ x ∈ ids, fl x = z ∨ tp x = z := fun z => by
    rw [hb, bounds_mem, List.mem_append, List.mem_map, List.mem_map]
    constructor
    · rintro (⟨x, h1, h2⟩ | ⟨x, h1, h2⟩)
      · exact ⟨x, h1, .inl h2⟩
      · exact ⟨x, h1, .inr h2⟩
    · rintro ⟨x, h1, h2 | h2⟩
      · exact .inl ⟨x, h1, h2⟩
      · exact .inr ⟨x, h1, h2⟩
  have hup : b.Pairwise (· < ·) := by rw [hb]; exact bounds_up _
  by_cases c : ids = []
  · subst c
    rw [hM0 rfl]
    have : b = [] := by rw [hb]; rfl
    rw [this]; rfl
  · obtain ⟨x0, hx0, e0⟩ := hz c
    obtain ⟨xM, hxM, eM⟩ := hM2 c
    cases b with
    | nil => exact absurd ((hm 0).mpr ⟨x0, hx0, .inl e0⟩) (by simp)
    | cons lo r =>
      have hr := (List.pairwise_cons.mp hup).1
      have pos : ∀ z ∈ lo :: r, 0 ≤ z := fun z hz => by
        obtain ⟨x, hx, h | h⟩ := (hm z).mp hz
        · have := h0 x hx; omega
        · have := h0 x hx; have := hw x hx; omega
      have elo : lo = 0 := by
        rcases List.mem_cons.mp ((hm 0).mpr ⟨x0, hx0, .inl e0⟩) with h | h
        · exact h.symm
        · have h1 := hr _ h
          have h2 := pos lo List.mem_cons_self
          omega
      subst elo
      have eg : (0 :: r).getLast (by simp) = M := by
        have h1 := List.getLast_mem (show (0 : Int) :: r ≠ [] by simp)
        have h2 : (0 :: r).getLast (by simp) ≤ M := by
          obtain ⟨x, hx, h | h⟩ := (hm _).mp h1
          · have := hM x hx; have := hw x hx; omega
          · have := hM x hx; omega
        have h3 : M ≤ (0 :: r).getLast (by simp) := by
          have h4 := (hm M).mpr ⟨xM, hxM, .inr eM⟩
          obtain ⟨i, hi, e⟩ := List.mem_iff_getElem.mp h4
          rw [List.getLast_eq_getElem, ← e]
          rcases Nat.lt_or_ge i ((0 :: r).length - 1) with q | q
          · exact Int.le_of_lt (List.pairwise_iff_getElem.mp hup i _ hi (by omega) q)
          · have : i = (0 :: r).length - 1 := by omega
            subst this
            exact Int.le_refl _
        omega
      have := steps_runs (tp := tp) (fl := fl) hw r 0 [] hup (fun x hx => ⟨?_, ?_⟩) (fun z hz => (hm z).mp (List.mem_cons_of_mem _ hz)) (fun e hi r2 he => by cases he)
      · rw [eg, Int.sub_zero] at this
        rw [this, List.nil_append]
      · rcases List.mem_cons.mp ((hm _).mpr ⟨x, hx, .inl rfl⟩) with h | h
        · exact .inl (by omega)
        · exact .inr h
      · rcases List.mem_cons.mp ((hm _).mpr ⟨x, hx, .inr rfl⟩) with h | h
        · exact .inl (by omega)
        · exact .inr h
/-! ### the top levels -/
theorem maxI_ge12 {l : List Int} {z : Int} (h : z ∈ l) : z ≤ maxI 0 l := by
  cases l with
  | nil => cases h
  | cons n ns =>
    show z ≤ ns.foldl max n
    have : ∀ (ns : List Int) (n : Int), n ≤ ns.foldl max n ∧ ∀ z ∈ ns, z ≤ ns.foldl max n := by
      intro ns
      induction ns with
      | nil => exact fun n => ⟨Int.le_refl _, fun z h => by cases h⟩
      | cons a r ih =>
        intro n
        obtain ⟨h1, h2⟩ := ih (max n a)
        refine ⟨Int.le_trans (Int.le_max_left _ _) h1, fun z hz => ?_⟩
        rcases List.mem_cons.mp hz with e | e
        · rw [e]; exact Int.le_trans (Int.le_max_right _ _) h1
        · exact h2 z e
    obtain ⟨h1, h2⟩ := this ns n
    rcases List.mem_cons.mp h with e | e
    · rw [e]; exact h1
    · exact h2 z e
theorem maxI_in12 {l : List Int} (h : l ≠ []) : maxI 0 l ∈ l := by
  cases l with
  | nil => exact absurd rfl h
  | cons n ns =>
    show ns.foldl max n ∈ n :: ns
    have : ∀ (ns : List Int) (n : Int), ns.foldl max n ∈ n :: ns := by
      intro ns
      induction ns with
      | nil => exact fun n => List.mem_cons_self
      | cons a r ih =>
        intro n
        show r.foldl max (max n a) ∈ _
        rcases List.mem_cons.mp (ih (max n a)) with e | e
        · rw [e]
          rcases Int.le_total n a with q | q
          · rw [Int.max_eq_right q]; exact List.mem_cons_of_mem _ List.mem_cons_self
          · rw [Int.max_eq_left q]; exact List.mem_cons_self
        · exact List.mem_cons_of_mem _ (List.mem_cons_of_mem _ e)
    exact this ns n
/-- max(l + [0]) of numbers that are not negative -/
theorem maxI_zero {l : List Int} (h : ∀ z ∈ l, 0 ≤ z) (d : Int) : maxI d (l ++ [0]) = maxI 0 l := by
  have g : maxI d (l ++ [0]) = maxI 0 (l ++ [0]) := by cases l <;> rfl
  rw [g]
  by_cases c : l = []
  · subst c; rfl
  · have h1 := maxI_in12 (l := l ++ [0]) (by simp)
    have h2 := maxI_in12 c
    have h3 := maxI_ge12 (l := l ++ [0]) (List.mem_append_left _ h2)
    rcases List.mem_append.mp h1 with q | q
    · have := maxI_ge12 q
      omega
    · have := List.mem_singleton.mp q
      have := h _ h2
      omega
section
variable {pl wf : Int → Int} {l : List Int}
theorem top_pos (nd : l.Nodup) (hw : ∀ x ∈ l, 0 < wf x) : ∀ (n : Nat) (a b : List Int) (x : Int), a.length ≤ n → l = a ++ x :: b → 0 < topI pl wf l x ∧ wf x ≤ topI pl wf l x
  | n, a, b, x, hn, e => by
    have hx : x ∈ l := by rw [e]; exact List.mem_append_right _ List.mem_cons_self
    have w0 := hw x hx
    have hm : 0 ≤ maxI 0 ((a.filter fun y => decide (pl y < pl x)).map (topI pl wf l)) := by
      by_cases c : (a.filter fun y => decide (pl y < pl x)).map (topI pl wf l) = []
      · rw [c]; exact Int.le_refl _
      · obtain ⟨y, hy, ey⟩ := List.mem_map.mp (maxI_in12 c)
        rw [← ey]
        have hya := (List.mem_filter.mp hy).1
        obtain ⟨u, v, euv⟩ := List.append_of_mem hya
        have hul : u.length < a.length := by rw [euv, List.length_append, List.length_cons]; omega
        have := top_pos nd hw u.length u (v ++ x :: b) y (Nat.le_refl _) (by rw [e, euv, List.append_assoc, List.cons_append])
        omega
    rw [topI_step nd e]
    omega
termination_by n a => a.length
end
/-! ### dict([(k, n), ..]) -/
def PrL (H : Hp) (D : Addr) (es : List (Addr × Int × Int)) : Prop := H D = some (.lst (es.map fun e => .ref e.1)) ∧ ∀ e ∈ es, H e.1 = some (.tup [.int e.2.1, .int e.2.2])
theorem PrL.same {H H' : Hp} {D : Addr} {es : List (Addr × Int × Int)} (h : PrL H D es) (s : Same H H') : PrL H' D es := ⟨s _ _ h.1, fun e he => s _ _ (h.2 e he)⟩
theorem PrL.but {d : Addr} {H H' : Hp} {D : Addr} {es : List (Addr × Int × Int)} (Dk : DeckAt H d) (B : But d H H') (h : PrL H D es) : PrL H' D es := by
  obtain ⟨x, y, hd, _⟩ := Dk
  exact ⟨B _ _ (ne_of h.1 hd (fun z => by cases z)) h.1, fun e he => B _ _ (ne_of (h.2 e he) hd (fun z => by cases z)) (h.2 e he)⟩
theorem PrL.nil {H : Hp} {D : Addr} (h : H D = some (.lst [])) : PrL H D [] := ⟨h, fun e he => by cases he⟩
theorem PrL.push {H : Hp} {D t : Addr} {es : List (Addr × Int × Int)} {a b : Int} (h : PrL H D es) (ht : H t = some (.tup [.int a, .int b])) : PrL (upd H D (.lst ((es.map fun e => V.ref e.1) ++ [.ref t]))) D (es ++ [(t, a, b)]) := by
  refine ⟨by rw [upd_same, List.map_append]; rfl, fun e he => ?_⟩
  rcases List.mem_append.mp he with q | q
  · have := h.2 e q
    rw [upd_ne (ne_of this h.1 (fun z => by cases z))]; exact this
  · rw [List.mem_singleton.mp q]
    rw [upd_ne (ne_of ht h.1 (fun z => by cases z))]; exact ht
theorem PrL.paired {K : PySem.W.Frag} {H : Hp} : ∀ {es : List (Addr × Int × Int)}, (∀ e ∈ es, H e.1 = some (.tup [.int e.2.1, .int e.2.2])) → Paired (fun (p : Addr) (kv : Key × V) => SqT K H p [kV kv.1, kv.2]) (es.map fun e => e.1) (pinK (es.map fun e => e.2))
  | [], _ => .nil
  | e :: es, h => .cons (SqT.of (h e List.mem_cons_self)) (PrL.paired fun c hc => h c (List.mem_cons_of_mem _ hc))
theorem merge_pin {ps : List (Int × Int)} (nd : (ps.map Prod.fst).Nodup) : mergeK [] (pinK ps) = pinK ps := by
  have := merge_freshP (pinK ps) [] (by
    rw [List.nil_append]
    have e : (pinK ps).map Prod.fst = (ps.map Prod.fst).map (Sum.inl : Int → Key) := by unfold pinK; rw [List.map_map, List.map_map]; rfl
    rw [e]
    exact List.pairwise_map.mpr (nd.imp fun {a b} h e => h (Sum.inl.inj e)))
  rw [this, List.nil_append]
/-- what the call asks for, and what it gives -/
theorem dict_prs {K : PySem.W.Frag} {H : Hp} {D : Addr} {es : List (Addr × Int × Int)} {ps : List (Int × Int)} {Q : VK} (h : PrL H D es) (e : (es.map fun e => e.2) = ps) (nd : (ps.map Prod.fst).Nodup) (k : ∀ p, H p = none → Q (.ref p) (upd H p (.dK (pinK ps)))) :
    ∃ (a : Addr) (qs : List Addr) (kvs : List (Key × V)), [V.ref D] = [.ref a] ∧ SqL K H a (qs.map V.ref) ∧ Paired (fun p kv => SqT K H p [kV kv.1, kv.2]) qs kvs ∧ ∀ p, H p = none → Q (.ref p) (upd H p (.dK (mergeK [] kvs))) := by
  subst e
  refine ⟨D, es.map fun e => e.1, pinK (es.map fun e => e.2), rfl, SqL.of ?_, PrL.paired h.2, fun p hp => ?_⟩
  · rw [List.map_map]; exact h.1
  · rw [merge_pin nd]; exact k p hp
theorem wt_prs {ps : List (Int × Int)} {x : Int} {lo hi : Int} (hx : x ∈ ps.map Prod.fst) (hb : ∀ e ∈ ps, lo ≤ e.2 ∧ e.2 ≤ hi) : ∃ w, anOf ps x = some w ∧ wtI (some ps) x = w ∧ lo ≤ w ∧ w ≤ hi := by
  induction ps with
  | nil => cases hx
  | cons e ps ih =>
    by_cases c : e.1 = x
    · have ea : anOf (e :: ps) x = some e.2 := by
        unfold anOf
        rw [List.find?_cons_of_pos (by exact decide_eq_true c)]; rfl
      refine ⟨e.2, ea, ?_, hb e List.mem_cons_self⟩
      show (anOf (e :: ps) x).getD 1 = e.2
      rw [ea]; rfl
    · have ea : anOf (e :: ps) x = anOf ps x := by
        unfold anOf
        rw [List.find?_cons_of_neg (by exact fun z => c (of_decide_eq_true z))]
      rw [List.map_cons] at hx
      rcases List.mem_cons.mp hx with h | h
      · exact absurd h.symm c
      · obtain ⟨w, w1, w2, w3⟩ := ih h fun e he => hb e (List.mem_cons_of_mem _ he)
        refine ⟨w, by rw [ea]; exact w1, ?_, w3⟩
        show (anOf (e :: ps) x).getD 1 = w
        rw [ea]
        exact w2
theorem wtI_tab {f : Int → Int} {ids : List Int} {x : Int} (h : x ∈ ids) : wtI (some (tabP f ids)) x = f x := by
  show (anOf (tabP f ids) x).getD 1 = f x
  rw [tab_an h]; rfl
theorem tall_suffix {pl wf f : Int → Int} : ∀ {a b : List Int}, Tall pl wf f (a ++ b) → Tall pl wf f b
  | [], _, h => h
  | _ :: a, _, h => tall_suffix (a := a) h.2
theorem atI_nat {α : Type} {xs : List α} {k : Nat} {v : α} (h : xs[k]? = some v) : atI xs (k : Int) = some v := by
  have hk := (List.getElem?_eq_some_iff.mp h).1
  unfold atI ixN
  rw [if_pos (by omega), if_pos (by omega)]
  show xs[((k : Int)).toNat]? = _
  rw [Int.toNat_natCast]; exact h
structure TxtB (mg : Str → Option Value) : Prop where
  dict : mg "dict" = none
  enumerate : mg "enumerate" = none
  range : mg "range" = none
  len : mg "len" = none
  max : mg "max" = none
  int : mg "int" = none
  list : mg "list" = none
/-- what is known of the orders -/
structure P11 (js ids : List Int) (wo : Option (List (Int × Int))) : Prop where
  nd : js.Nodup
  len : js.length ≤ 60
  per : ids.Perm js
  w : ∀ x, 1 ≤ wtI wo x
section
variable {js ids : List Int} {wo : Option (List (Int × Int))}
theorem P11.ndi (h : P11 js ids wo) : ids.Nodup := h.per.nodup_iff.mpr h.nd
theorem P11.len2 (h : P11 js ids wo) : ids.length ≤ 60 := by rw [h.per.length_eq]; exact h.len
theorem P11.sub (h : P11 js ids wo) : ∀ x ∈ ids, x ∈ js := fun x hx => h.per.mem_iff.mp hx
abbrev fL (js ids : List Int) (wo : Option (List (Int × Int))) (fav : List Int) : Int → Int := tallF js ids (worthI wo ids.length fav)
theorem P11.tall (h : P11 js ids wo) (fav : List Int) : Tall (ixI js.reverse) (worthI wo ids.length fav) (fL js ids wo fav) ids := tall_rev h.ndi
theorem P11.wp (h : P11 js ids wo) (fav : List Int) (x : Int) : 0 < worthI wo ids.length fav x := by
  have h1 := h.w x
  have h2 : 0 < wtI wo x * ((ids.length : Int) + 1) := Int.mul_pos (by omega) (by omega)
  unfold worthI
  split <;> omega
theorem P11.fp (h : P11 js ids wo) (fav : List Int) : ∀ x ∈ ids, 0 < fL js ids wo fav x := fun x hx => by
  have := tall_pos (h.tall fav) (fun y _ => h.wp fav y) x hx
  have := h.wp fav x
  omega
theorem P11.rev (h : P11 js ids wo) {x y : Int} (hx : x ∈ ids) (hy : y ∈ ids) : ixI js x < ixI js y ↔ ixI js.reverse y < ixI js.reverse x := by
  rw [ixI_rev h.nd (h.sub x hx), ixI_rev h.nd (h.sub y hy)]
  omega
end
section
variable {P : Program} {w : World} {K : PySem.W.Frag} {mg : Str → Option Value} {base : Heap}
def spTable (K : PySem.W.Frag) : Sp := fun vs H Q _ => ∃ (b g fv : Addr) (v : V) (js ids fav : List Int) (wo : Option (List (Int × Int))), vs = [.ref b, .ref g, v, .ref fv] ∧ SqL K H b (js.map V.int) ∧ SqL K H g (ids.map V.int) ∧ WtAt H v wo ∧ (SqL K H fv (fav.map V.int) ∨ SqT K H fv (fav.map V.int)) ∧ P11 js ids wo ∧
  ∀ (q : Addr) (H' : Hp), Same H H' → H q = none → TabAt H' q ids.reverse (fL js ids wo fav) ((ids.length : Int) + 1) → Q (.ref q) H'
abbrev NTb : List Str := ["base", "goal", "loads", "liked", "row_id", "places", "found", "at", "later", "weight", "count", "place", "other"]
theorem scTable : FnScope NTb ["base", "goal", "loads", "liked"] (defScope sTable) := ⟨rfl, rfl, rfl, by decide +kernel, rfl, by decide +kernel, by decide +kernel⟩
theorem ok_table {f fL' : Addr} {fd fdL : FuncData} (F : Fun K "_law_table" "_law_table" sTable f fd) (T : TxtB mg) (Ld : Fn K mg "_law_load" sLoad ["loads", "row_id"] fL' fdL) (GLd : FnOk P w K mg base CX0 1 fL' fdL ["loads", "row_id"] spLoad) :
    FnOk P w K mg base CX0 2 f fd ["base", "goal", "loads", "liked"] (spTable K) := by
  refine F.ok scTable (fun vs H Q E h => ?_) (fun cdv A outer s H vs Q E hr h => ?_)
  · obtain ⟨b, g, fv, v, js, ids, fav, wo, rfl, _⟩ := h
    rfl
  · obtain ⟨b, g, fv, v, js, ids, fav, wo, rfl, hb, hg, hw, hf, hP, k⟩ := h
    have hu := hu_of hr
    have h64 := hu64 hr
    refine ⟨_, pss_cons (ps_set (i := 5) scTable.nd rfl (Or.inr rfl) (pe_callTy (call_dictP rfl) (by rfl) T.dict (by decide +kernel) (pa_cons (pe_lc (own := [("place", 11), ("row_id", 4)]) (tt := tYes) (g := gTup K 2 (gCons (gName 11) (gCons (gName 4) gNil))) rfl scTable.nd (pi_enum (by rfl) T.enumerate (pa_cons (pv 0) pa_nil)) (blkOk_by (N := NTb) (sc := defScope sTable) (by decide +kernel))
          (fun _ _ _ _ _ => pg_tup rfl (pgs_cons (pg_name (i := 11) scTable.nd rfl (Or.inl rfl)) (pgs_cons (pg_name (i := 4) scTable.nd rfl (Or.inl rfl)) pgs_nil))) (fun _ _ _ _ _ => pts_nil) (fun _ _ _ _ _ => pe_tup (pa_cons (pv 4) (pa_cons (pv 11) pa_nil)))) pa_nil)))
      (pss_cons (ps_set (i := 6) scTable.nd rfl (Or.inr rfl) pe_dnewK)
      (pss_cons (ps_for PassesOwn.never rfl (pi_range3 (by rfl) T.range (pa_cons (pe_op op_sub (pe_callB call_len_seq (by rfl) T.len PySem.boot_len (pa_cons (pv 1) pa_nil)) pe_int) (pa_cons (pe_un un_neg pe_int) (pa_cons (pe_un un_neg pe_int) pa_nil)))) (pg_name (i := 7) scTable.nd rfl (Or.inl rfl))
        (pss_cons (ps_set (i := 4) scTable.nd rfl (Or.inr rfl) (pe_ix ix_list (pv 1) (pv 7) (fun _ _ => rfl)))
        (pss_cons (ps_setLc (i := 8) (own := [("other", 12)]) (g := gName 12) rfl scTable.nd rfl rfl rfl (pi_list (pe_slice sl_list (pv 1) (po_some (pe_op op_add (pv 7) pe_int)) po_none)) (blkOk_by (N := NTb) (sc := defScope sTable) (by decide +kernel))
          (fun _ _ _ _ _ => pg_name (i := 12) scTable.nd rfl (Or.inl rfl)) (fun _ _ _ _ _ => pts_one (pt_cmpR op_gt (pe_dget hu (pv 5) (pv 12) (fun _ _ => rfl)) (pe_dget hu (pv 5) (pv 4) (fun _ _ => rfl)) (nomark _))) (fun _ _ _ _ _ => pe_dget hu (pv 6) (pv 12) (fun _ _ => rfl)))
        (pss_cons (ps_asg (pe_callB (cr_maxT rfl h64) (by rfl) T.max (by decide +kernel) (pa_cons (pe_op op_cat (pv 8) (pe_lst (pa_cons (pe_tup (pa_cons pe_int (pa_cons pe_int pa_nil))) pa_nil))) pa_nil)) (pg_tup rfl (pgs_cons (pg_name (i := 9) scTable.nd rfl (Or.inl rfl)) (pgs_cons (pg_name (i := 10) scTable.nd rfl (Or.inl rfl)) pgs_nil))))
        (pss_one (ps_dput hu (pv 6) (pv 4) (pe_tup (pa_cons (pe_op op_add (pv 9) (pe_call GLd hr rfl Ld.m Ld.F.kp Ld.b .nil pass0 (pa_cons (pv 2) (pa_cons (pv 4) pa_nil)))) (pa_cons (pe_op op_add (pv 10) (pe_callTy call_int1 (by rfl) T.int (by decide +kernel) (pa_cons (pe_cmpR op_in_seq (pv 4) (pv 3) (by rfl)) pa_nil))) pa_nil))) rfl))))))
      (pss_one (ps_ret (pv 6))))), ?_⟩
    have h16 : sizeLine = 16777216 := sizeLine_eq
    have z1 := hP.len
    have z2 := hP.len2
    -- places
    refine ⟨_, rfl, b, _, rfl, hb, fun D hD => ?_⟩
    refine lc_it (walk_enum (K := K) (a := b) (xs := js.map V.int)) (fun i H' => ∃ es : List (Addr × Int × Int), PrL H' D es ∧ (es.map fun e => e.2) = tabP (ixI js) (js.take i) ∧ Same H H' ∧ i ≤ js.length)
      ⟨[], PrL.nil upd_same, by rw [List.take_zero]; rfl, Same.new hD, Nat.zero_le _⟩ (fun i H' _ z => by obtain ⟨es, _, _, z, _⟩ := z; exact Same.sq z hb) ?_ ?_
    · rintro i y H1 H2 hi ⟨es, R1, e1, s1, hil⟩ ⟨T0, x', y', rfl, hT, rfl, q1, q2⟩
      rw [List.length_map] at hi
      obtain rfl := Option.some.inj q1
      obtain ⟨x, hx, rfl⟩ := int_at q2
      refine ⟨T0, _, rfl, SqT.of upd_same, rfl, _, _, rfl, _, _, rfl, rfl, rfl, ?_⟩
      have s2 := Same.new (o := .tup [.int (i : Int), .int x]) hT
      have R2 := R1.same s2
      have s3 := s1.trans s2
      generalize (upd H1 T0 (.tup [.int (i : Int), .int x]) : Hp) = H2 at s2 R2 s3 ⊢
      refine ⟨_, rfl, _, rfl, by show 2 ≤ sizeLine; decide, fun t ht => ?_⟩
      have st := Same.new (o := .tup [V.int x, V.int (i : Int)]) ht
      have hTt : upd H2 t (.tup [V.int x, V.int (i : Int)]) t = some (.tup [V.int x, V.int (i : Int)]) := upd_same
      have R4 := R2.same st
      have s4 := s3.trans st
      generalize (upd H2 t (.tup [V.int x, V.int (i : Int)]) : Hp) = H4 at st hTt R4 s4 ⊢
      have hel : es.length = i := by
        have := congrArg List.length e1
        unfold tabP at this
        rw [List.length_map, List.length_map, List.length_take] at this
        omega
      refine ⟨_, R4.1, by rw [List.length_map, h16]; omega, es ++ [(t, x, (i : Int))], R4.push hTt, ?_, fun b e z => by rw [upd_ne (ne_of_none z hD)]; exact s4 _ _ z, hi⟩
      have ei : ixI js x = (i : Int) := by unfold ixI; rw [idx_of_at hP.nd hx]
      rw [List.map_append, e1, take_snoc hx]
      unfold tabP
      rw [List.map_append, List.map_singleton, List.map_singleton, ei]
    rintro H1 ⟨es, R1, e1, s1, _⟩
    rw [List.length_map, List.take_length] at e1
    have hmk : (tabP (ixI js) js).map Prod.fst = js := by unfold tabP; rw [List.map_map]; exact List.map_id _
    refine ⟨D, es.map fun e => e.1, pinK (tabP (ixI js) js), rfl, SqL.of (by rw [List.map_map]; exact R1.1), by rw [← e1]; exact PrL.paired R1.2, fun pl hpl => ?_⟩
    rw [merge_pin (by rw [hmk]; exact hP.nd)]
    have s2 := Same.new (o := .dK (pinK (tabP (ixI js) js))) hpl
    have hPL : upd H1 pl (.dK (pinK (tabP (ixI js) js))) pl = some (.dK (pinK (tabP (ixI js) js))) := upd_same
    have s12 := s1.trans s2
    generalize (upd H1 pl (.dK (pinK (tabP (ixI js) js))) : Hp) = H2 at s2 hPL s12 ⊢
    -- found
    intro fo hfo
    have hfo0 : H fo = none := Same.free s12 hfo
    have s3 := Same.new (o := .dK []) hfo
    have npf : pl ≠ fo := ne_of_none hPL hfo
    have hPL3 := s3 _ _ hPL
    have T3 : TabAt (upd H2 fo (.dK [])) fo [] (fL js ids wo fav) ((ids.length : Int) + 1) := ⟨[], upd_same, rfl, fun e he => by cases he⟩
    have s13 := s12.trans s3
    generalize (upd H2 fo (.dK []) : Hp) = H3 at s3 hPL3 T3 s13 ⊢
    have hg3 := Same.sq s13 hg
    obtain ⟨N, hN⟩ : ∃ N : Int, N = (ids.length : Int) + 1 := ⟨_, rfl⟩
    rw [← hN] at T3 k
    have hN0 : 0 < N := by omega
    obtain ⟨ff, hff⟩ : ∃ ff, ff = fL js ids wo fav := ⟨_, rfl⟩
    have hfp := hP.fp fav
    have htl := hP.tall fav
    rw [← hff] at T3 k hfp htl
    have eN : (((ids.map V.int).length : Nat) : Int) - 1 - -1 = (ids.length : Int) := by rw [List.length_map]; omega
    refine ⟨_, rfl, g, _, rfl, .inl hg3, _, _, rfl, rfl, _, rfl, _, rfl, _, _, _, _, rfl, RgC.neg (by rw [List.length_map]; omega) (by rw [List.length_map]; omega) (by decide) (by decide), ?_⟩
    rw [eN, Int.toNat_natCast]
    refine for_rangeC (n := ids.length) (fun i σ H' => (∃ v4 v7 v8 v9 v10 v11 v12 : Option V, σ = [some (.ref b), some (.ref g), some v, some (.ref fv), v4, some (.ref pl), some (.ref fo), v7, v8, v9, v10, v11, v12]) ∧ Same H H' ∧ H' pl = some (.dK (pinK (tabP (ixI js) js))) ∧ TabAt H' fo (ids.drop (ids.length - i)).reverse ff N ∧ i ≤ ids.length)
      ⟨⟨_, _, _, _, _, _, _, rfl⟩, s13, hPL3, by rw [Nat.sub_zero, List.drop_length]; exact T3, Nat.zero_le _⟩ ?_ ?_
    · rintro i σ H4 hi ⟨⟨v4, v7, v8, v9, v10, v11, v12, rfl⟩, s4, hP4, T4, hil⟩
      obtain ⟨kk, hkk⟩ : ∃ kk : Nat, kk = ids.length - 1 - i := ⟨_, rfl⟩
      have hkl : kk < ids.length := by omega
      have eat : (((ids.map V.int).length : Nat) : Int) - 1 + ((i : Nat) : Int) * -1 = (kk : Int) := by rw [List.length_map]; omega
      obtain ⟨x, hx⟩ : ∃ x, ids[kk]? = some x := ⟨_, List.getElem?_eq_getElem hkl⟩
      have hxm := List.mem_of_getElem? hx
      have hg4 := Same.sq s4 hg
      show gName 7 (.int ((((ids.map V.int).length : Nat) : Int) - 1 + ((i : Nat) : Int) * -1)) _ H4 _
      rw [eat]
      refine ⟨_, rfl, _, rfl, g, _, _, .int x, rfl, rfl, hg4, atI_nat (by rw [List.getElem?_map, hx]; rfl), ?_⟩
      -- later
      have ed : ids.drop (ids.length - i) = ids.drop (kk + 1) := by congr 1; omega
      rw [ed] at T4
      have ex : ids = ids.take kk ++ x :: ids.drop (kk + 1) := by
        have : ids.drop kk = x :: ids.drop (kk + 1) := by
          rw [List.drop_eq_getElem_cons hkl]
          congr 1
          exact Option.some.inj ((List.getElem?_eq_getElem hkl).symm.trans hx)
        rw [← this, List.take_append_drop]
      refine ⟨_, rfl, _, rfl, _, _, rfl, rfl, _, rfl, g, _, rfl, hg4, fun c hc => ?_⟩
      rw [show (kk : Int) + 1 = ((kk + 1 : Nat) : Int) from by omega, cut_from, ← List.map_drop]
      obtain ⟨rt, hrt⟩ : ∃ rt, rt = ids.drop (kk + 1) := ⟨_, rfl⟩
      rw [← hrt] at T4 ex ⊢
      have hrs : ∀ y ∈ rt, y ∈ ids := fun y hy => by rw [ex]; exact List.mem_append_right _ (List.mem_cons_of_mem _ hy)
      have hrl : rt.length + kk + 1 = ids.length := by rw [hrt, List.length_drop]; omega
      have sc := Same.new (o := .lst (rt.map V.int)) hc
      have hC : upd H4 c (.lst (rt.map V.int)) c = some (.lst (rt.map V.int)) := upd_same
      have s5 := s4.trans sc
      have hP5 := sc _ _ hP4
      have T5 := T4.same sc
      generalize (upd H4 c (.lst (rt.map V.int)) : Hp) = H5 at sc hC s5 hP5 T5 ⊢
      refine ⟨c, rfl, ⟨_, SqL.of hC⟩, fun Dl hDl => ?_⟩
      have dgp : ∀ {G : Hp} {z : Int}, G pl = some (.dK (pinK (tabP (ixI js) js))) → z ∈ ids → DGet G pl (.int z) (some (.int (ixI js z))) := fun {G z} h hz => by
        have := DGet.k (k := (.inl z : Key)) h
        rw [val_pin, tab_an (hP.sub z hz)] at this
        exact this
      refine lc_list (K := K) (a := c) (xs := rt.map V.int) (fun j H' => Same H5 H' ∧ (∃ us : List Addr, H' Dl = some (.lst (us.map V.ref)) ∧ PrsAt H5 us ((((rt.take j).filter fun y => decide (ixI js.reverse y < ixI js.reverse x)).map ff).map (pr11 N))) ∧ j ≤ rt.length)
        ⟨Same.new hDl, ⟨[], upd_same, by rw [List.take_zero]; exact PrsAt.nil⟩, Nat.zero_le _⟩ (fun j H' _ z => SqL.of (z.1 _ _ hC)) ?_ ?_
      · rintro j y H6 hj ⟨s6, ⟨us, hL, hU⟩, hjl⟩
        obtain ⟨z, hz, rfl⟩ := int_at hj
        have hjl2 : j < rt.length := (List.getElem?_eq_some_iff.mp hz).1
        have hzm := List.mem_of_getElem? hz
        have hzi := hrs z hzm
        have hul : us.length ≤ 60 := by
          have h1 := hU.1
          rw [List.length_map, List.length_map] at h1
          have h2 := List.length_filter_le (fun y => decide (ixI js.reverse y < ixI js.reverse x)) (rt.take j)
          rw [List.length_take] at h2
          omega
        refine ⟨rfl, _, rfl, _, rfl, pl, _, rfl, dgp (s6 _ _ hP5) hzi, _, rfl, _, rfl, pl, _, rfl, dgp (s6 _ _ hP5) hxm, _, _, rfl, rfl, _, rfl, ite2 (fun cc => ?_) (fun cc => ?_)⟩
        · have cc : ixI js x < ixI js z := of_decide_eq_true cc
          have cr := (hP.rev hxm hzi).mp cc
          obtain ⟨t, d1, d2⟩ := T5.get (List.mem_reverse.mpr hzm)
          refine ⟨_, rfl, _, rfl, fo, _, rfl, d1 _ s6, _, hL, by rw [List.length_map, h16]; omega, fun b u e => by rw [upd_ne (ne_of_none e hDl)]; exact s6 _ _ e, ⟨us ++ [t], by rw [upd_same, List.map_append]; rfl, ?_⟩, hjl2⟩
          rw [take_snoc hz, List.filter_append, List.filter_cons_of_pos (by exact decide_eq_true cr), List.map_append, List.map_append]
          exact hU.push d2
        · have cc : ¬ ixI js x < ixI js z := fun q => cc (decide_eq_true q)
          have cr : ¬ ixI js.reverse z < ixI js.reverse x := fun q => cc ((hP.rev hxm hzi).mpr q)
          refine ⟨s6, ⟨us, hL, ?_⟩, hjl2⟩
          rw [take_snoc hz, List.filter_append, List.filter_cons_of_neg (by simpa using cr), List.filter_nil, List.append_nil]
          exact hU
      rintro H6 ⟨s6, ⟨us, hL, hU⟩, _⟩
      rw [List.length_map, List.take_length] at hU
      obtain ⟨ms, hms⟩ : ∃ ms, ms = (rt.filter fun y => decide (ixI js.reverse y < ixI js.reverse x)).map ff := ⟨_, rfl⟩
      rw [← hms] at hU
      have hM : maxI 0 ms = mostI (ixI js.reverse) ff (ixI js.reverse x) rt := by rw [hms]; rfl
      have hmp : ∀ m ∈ ms, 0 ≤ m := fun m hm => by
        rw [hms] at hm
        obtain ⟨y, hy, rfl⟩ := List.mem_map.mp hm
        have := hfp y (hrs y (List.mem_filter.mp hy).1)
        omega
      have hul : us.length ≤ 60 := by
        have h1 := hU.1
        rw [hms, List.length_map, List.length_map] at h1
        have h2 := List.length_filter_le (fun y => decide (ixI js.reverse y < ixI js.reverse x)) rt
        omega
      have hU6 := hU.same s6
      refine ⟨_, rfl, by show 2 ≤ sizeLine; decide, fun zt hzt => ⟨by show 1 ≤ sizeLine; decide, fun zl hzl => ?_⟩⟩
      have sz := Same.new (o := .tup [V.int 0, V.int 0]) hzt
      have hZ : upd H6 zt (.tup [V.int 0, V.int 0]) zt = some (.tup [V.int 0, V.int 0]) := upd_same
      have sl := Same.new (o := .lst [V.ref zt]) hzl
      have hZl : upd (upd H6 zt (.tup [V.int 0, V.int 0])) zl (.lst [V.ref zt]) zl = some (.lst [V.ref zt]) := upd_same
      have s7 := sz.trans sl
      have hZ7 := sl _ _ hZ
      generalize (upd (upd H6 zt (.tup [V.int 0, V.int 0])) zl (.lst [V.ref zt]) : Hp) = H7 at sl hZl s7 hZ7 ⊢
      refine ⟨Dl, zl, _, _, rfl, rfl, s7 _ _ hL, hZl, by rw [List.length_map, h16]; show _ + 1 ≤ _; omega, fun cc hcc => ?_⟩
      have ecat : us.map V.ref ++ [V.ref zt] = (us ++ [zt]).map V.ref := by rw [List.map_append]; rfl
      rw [ecat]
      have s8 := Same.new (o := .lst ((us ++ [zt]).map V.ref)) hcc
      have hCC : upd H7 cc (.lst ((us ++ [zt]).map V.ref)) cc = some (.lst ((us ++ [zt]).map V.ref)) := upd_same
      have hZ8 := s8 _ _ hZ7
      have s68 := s7.trans s8
      generalize (upd H7 cc (.lst ((us ++ [zt]).map V.ref)) : Hp) = H8 at s8 hCC hZ8 s68 ⊢
      have hU8 : PrsAt H8 (us ++ [zt]) ((ms ++ [0]).map (pr11 N)) := by
        rw [List.map_append]
        refine (hU6.same s68).push ?_
        have : pr11 N 0 = (0, 0) := by unfold pr11; rw [Int.zero_ediv, Int.zero_emod]
        show H8 zt = some (.tup [.int (pr11 N 0).1, .int (pr11 N 0).2])
        rw [this]; exact hZ8
      refine ⟨cc, us ++ [zt], _, rfl, SqL.of hCC, hU8, by simp, fun t _ hTt => ?_⟩
      rw [maxP_pr hN0 _ (by simp), maxI_zero hmp, hM] at hTt
      refine ⟨t, _, rfl, SqT.of hTt, rfl, _, _, rfl, _, _, rfl, rfl, ?_⟩
      -- the pair of the id
      have s08 := s5.trans (s6.trans s68)
      refine ⟨_, rfl, _, rfl, _, rfl, v, x, wo, rfl, hw.same s08, _, _, rfl, rfl, _, rfl, _, rfl, _, rfl, fv, _, rfl, hf.imp (fun q => Same.sq s08 q) (fun q => Same.tq s08 q), rfl, all_flat fav, ?_⟩
      have ein : (if false = true then !inV (V.int x) (fav.map V.int) else inV (V.int x) (fav.map V.int)) = decide (x ∈ fav) := inV_int _ _
      rw [ein]
      refine .inr ⟨_, rfl, ?_⟩
      have htx : Tall (ixI js.reverse) (worthI wo ids.length fav) ff (x :: rt) := tall_suffix (a := ids.take kk) (by rw [← ex]; exact htl)
      have tp := tall_pair (pl := ixI js.reverse) (wf := worthI wo ids.length fav) (f := ff) (w := wtI wo) (lk := fun x => if x ∈ fav then 1 else 0) (N := N) hN0 (fun y => by unfold worthI; rw [hN]) (fun y => by show 0 ≤ (if y ∈ fav then (1 : Int) else 0) ∧ (if y ∈ fav then (1 : Int) else 0) ≤ 1; split <;> omega) (fun y => by have := hP.w y; omega) htx (by omega)
      refine ⟨_, _, rfl, rfl, by show 2 ≤ sizeLine; decide, fun p hp => ?_⟩
      have T8 := (T5.same s6).same s68
      have hP8 := s68 _ _ (s6 _ _ hP5)
      have ep : ∀ bb : Bool, bb = decide (x ∈ fav) → [V.int ((pr11 N (mostI (ixI js.reverse) ff (ixI js.reverse x) rt)).1 + wtI wo x), V.int ((pr11 N (mostI (ixI js.reverse) ff (ixI js.reverse x) rt)).2 + (if bb then 1 else 0))] = [V.int (pr11 N (ff x)).1, V.int (pr11 N (ff x)).2] := fun bb hbb => by
        have t2 : ff x % N = mostI (ixI js.reverse) ff (ixI js.reverse x) rt % N + (if x ∈ fav then 1 else 0) := tp.2
        have e2 : (if bb = true then (1 : Int) else 0) = (if x ∈ fav then 1 else 0) := by
          rw [hbb]
          by_cases c : x ∈ fav
          · rw [decide_eq_true c, if_pos rfl, if_pos c]
          · rw [decide_eq_false c, if_neg (by decide), if_neg c]
        unfold pr11
        show [V.int (_ / N + wtI wo x), V.int (_ % N + _)] = [V.int (ff x / N), V.int (ff x % N)]
        rw [tp.1, t2, e2]
      have sp := Same.new (o := .tup [V.int (pr11 N (ff x)).1, V.int (pr11 N (ff x)).2]) hp
      have hx8 : x ∉ rt.reverse := fun q => by
        have := hP.ndi
        rw [ex] at this
        exact (List.nodup_cons.mp (List.nodup_append.mp this).2.1).1 (List.mem_reverse.mp q)
      obtain ⟨kvs, dp, T9⟩ := (T8.same sp).put (t := p) (x := x) hx8 (by rw [List.length_reverse]; omega) upd_same
      rw [ep _ rfl]
      refine ⟨_, rfl, _, rfl, fo, _, rfl, dp, ⟨_, _, _, _, _, _, _, rfl⟩, fun c u z => ?_, ?_, ?_, hi⟩
      · rw [upd_ne (ne_of_none z hfo0)]
        exact sp _ _ (s08 _ _ z)
      · rw [upd_ne npf]
        exact sp _ _ hP8
      · have ed2 : ids.drop (ids.length - (i + 1)) = x :: rt := by
          have : ids.length - (i + 1) = kk := by omega
          rw [this, hrt, List.drop_eq_getElem_cons hkl]
          congr 1
          exact Option.some.inj ((List.getElem?_eq_getElem hkl).symm.trans hx)
        rw [ed2, List.reverse_cons]
        exact T9
    · rintro σ H4 ⟨⟨v4, v7, v8, v9, v10, v11, v12, rfl⟩, s4, hP4, T4, _⟩
      rw [Nat.sub_self, List.drop_zero] at T4
      refine ⟨_, rfl, k fo H4 s4 hfo0 T4⟩
end
theorem hu65 {A : Around} {k : Nat} (hr : Room k A) : A.units + 65 < cLine := by have := hr.un; omega
theorem eqv_encP (a b : Int × Int) : PyData.eqv (encP a) (encP b) = decide (a = b) := by
  obtain ⟨a1, a2⟩ := a
  obtain ⟨b1, b2⟩ := b
  unfold encP
  have e : ∀ x y : Int, PyData.eqv (.int x) (.int y) = (x == y) := fun x y => by rw [PyData.eqv]
  rw [PyData.eqv, PyData.eqvAll, PyData.eqvAll, PyData.eqvAll, e, e, Bool.and_true]
  show ((a1 == b1) && (a2 == b2)) = _
  by_cases c : a1 = b1
  · by_cases c2 : a2 = b2
    · subst c; subst c2; simp
    · simp [c, c2]
  · simp [c]
theorem pr_inj {N a b : Int} (h : pr11 N a = pr11 N b) : a = b := by
  unfold pr11 at h
  have h1 := congrArg Prod.fst h
  have h2 := congrArg Prod.snd h
  have e1 := Int.mul_ediv_add_emod a N
  have e2 := Int.mul_ediv_add_emod b N
  have h1 : a / N = b / N := h1
  have h2 : a % N = b % N := h2
  rw [h1, h2] at e1
  omega
theorem dp_prs {K : PySem.W.Frag} {H : Hp} : ∀ {us : List Addr} {es : List (Int × Int)}, PrsAt H us es → DpAll K H (us.map V.ref) (es.map encP)
  | [], [], _ => .nil
  | [], _ :: _, h => by cases h.1
  | _ :: _, [], h => by cases h.1
  | t :: us, e :: es, h => by
    obtain ⟨h1, h2⟩ := h.tail
    exact .cons (.tup (SqT.of h1) (.cons (.int _) (.cons (.int _) .nil))) (dp_prs h2)
theorem lay_prs : ∀ l : List (Int × Int), PyData.canLayAll0 (l.map encP) = true
  | [] => by rw [List.map_nil, PyData.canLayAll0]
  | e :: l => by
    rw [List.map_cons, PyData.canLayAll0, lay_prs l, encP, PyData.canLay0, PyData.canLayAll0, PyData.canLayAll0, PyData.canLayAll0, PyData.canLay0, PyData.canLay0]; rfl
theorem shaped_prs (l : List (Int × Int)) : SeqAt.shaped (.list (l.map encP)) = true := by
  unfold SeqAt.shaped
  rw [Bool.and_eq_true]
  refine ⟨by rw [PyData.canLay0]; exact lay_prs l, decide_eq_true ?_⟩
  have := depth_encP l
  rw [PyData.depth]
  omega
theorem shaped_pr (e : Int × Int) : SeqAt.shaped (encP e) = true := by
  unfold SeqAt.shaped encP
  rw [Bool.and_eq_true]
  refine ⟨by rw [PyData.canLay0, PyData.canLayAll0, PyData.canLayAll0, PyData.canLayAll0, PyData.canLay0, PyData.canLay0]; rfl, decide_eq_true ?_⟩
  rw [PyData.depth, PyData.depthAll, PyData.depthAll, PyData.depthAll, PyData.depth, PyData.depth]
  decide
/-- the walk of the law's greedy search -/
def InvE (H : Hp) (b g fv tq pl fo : Addr) (v : V) (js ids : List Int) (wf ff : Int → Int) (N : Int) (best : List Int) (m : Nat) (σ : List (Option V)) (H' : Hp) : Prop := ∃ (v5 v9 v10 v11 v12 : Option V) (lf : Addr) (l out : List Int) (c : Int), σ = [some (.ref b), some (.ref g), some v, some (.ref fv), some (.ref tq), v5, some (.ref pl), some (.ref fo), some (.ref lf), v9, v10, v11, v12] ∧ m = (l.filter fun y => decide (ixI js.reverse y < c)).length ∧
        Same H H' ∧ H' pl = some (.dK (pinK (tabP (ixI js) js))) ∧ TabAt H' tq ids.reverse ff N ∧ H' fo = some (.lst (out.map V.int)) ∧ H' lf = some (.lst ((l.filter fun y => decide (ixI js.reverse y < c)).map V.int)) ∧ lf ≠ fo ∧
        Tall (ixI js.reverse) wf ff l ∧ (∀ y ∈ l, y ∈ ids) ∧ out ++ grL ff wf (mostI (ixI js.reverse) ff c l) l = best ∧ out.length + l.length ≤ 60
section
variable {P : Program} {w : World} {K : PySem.W.Frag} {mg : Str → Option Value} {base : Heap}
def spExp (K : PySem.W.Frag) : Sp := fun vs H Q _ => ∃ (b g fv : Addr) (v : V) (js ids fav : List Int) (wo : Option (List (Int × Int))), vs = [.ref b, .ref g, v, .ref fv] ∧ SqL K H b (js.map V.int) ∧ SqL K H g (ids.map V.int) ∧ WtAt H v wo ∧ (SqL K H fv (fav.map V.int) ∨ SqT K H fv (fav.map V.int)) ∧ P11 js ids wo ∧
  ∀ (q : Addr) (H' : Hp), Same H H' → H q = none → H' q = some (.lst ((bestF js ids (worthI wo ids.length fav)).map V.int)) → Q (.ref q) H'
abbrev NEx : List Str := ["base", "goal", "loads", "liked", "table", "row_id", "places", "found", "left", "best", "at", "place", "other"]
theorem scExp : FnScope NEx ["base", "goal", "loads", "liked"] (defScope sExpected) := ⟨rfl, rfl, rfl, by decide +kernel, rfl, by decide +kernel, by decide +kernel⟩
theorem ok_exp {f fT : Addr} {fd fdT : FuncData} (F : Fun K "_law_expected" "_law_expected" sExpected f fd) (T : TxtB mg) (Tb : Fn K mg "_law_table" sTable ["base", "goal", "loads", "liked"] fT fdT) (GTb : FnOk P w K mg base CX0 2 fT fdT ["base", "goal", "loads", "liked"] (spTable K)) :
    FnOk P w K mg base CX0 3 f fd ["base", "goal", "loads", "liked"] (spExp K) := by
  refine F.ok scExp (fun vs H Q E h => ?_) (fun cdv A outer s H vs Q E hr h => ?_)
  · obtain ⟨b, g, fv, v, js, ids, fav, wo, rfl, _⟩ := h
    rfl
  · obtain ⟨b, g, fv, v, js, ids, fav, wo, rfl, hb, hg, hw, hf, hP, k⟩ := h
    have hu := hu_of hr
    have h64 := hu64 hr
    have h65 := hu65 hr
    refine ⟨_, pss_cons (ps_set (i := 4) scExp.nd rfl (Or.inr rfl) (pe_call GTb hr rfl Tb.m Tb.F.kp Tb.b .nil pass0 (pa_cons (pv 0) (pa_cons (pv 1) (pa_cons (pv 2) (pa_cons (pv 3) pa_nil))))))
      (pss_cons (ps_set (i := 6) scExp.nd rfl (Or.inr rfl) (pe_callTy (call_dictP rfl) (by rfl) T.dict (by decide +kernel) (pa_cons (pe_lc (own := [("place", 11), ("row_id", 5)]) (tt := tYes) (g := gTup K 2 (gCons (gName 11) (gCons (gName 5) gNil))) rfl scExp.nd (pi_enum (by rfl) T.enumerate (pa_cons (pv 0) pa_nil)) (blkOk_by (N := NEx) (sc := defScope sExpected) (by decide +kernel))
          (fun _ _ _ _ _ => pg_tup rfl (pgs_cons (pg_name (i := 11) scExp.nd rfl (Or.inl rfl)) (pgs_cons (pg_name (i := 5) scExp.nd rfl (Or.inl rfl)) pgs_nil))) (fun _ _ _ _ _ => pts_nil) (fun _ _ _ _ _ => pe_tup (pa_cons (pv 5) (pa_cons (pv 11) pa_nil)))) pa_nil)))
      (pss_cons (ps_par (i := 7) (j := 8) (by rfl) scExp.nd rfl rfl (by decide) rfl rfl (pa_cons (pe_lst pa_nil) (pa_cons (pe_callTy call_list_of (by rfl) T.list (by decide +kernel) (pa_cons (pv 1) pa_nil)) pa_nil)) (by rfl))
      (pss_cons (ps_while PassesOwn.never (pt_cmpR (op_neL h64) (pv 8) (pe_lst pa_nil) (nomark _))
        (pss_cons (ps_set (i := 9) scExp.nd rfl (Or.inl rfl) (pe_callB (cr_maxT rfl h64) (by rfl) T.max (by decide +kernel) (pa_cons (pe_lc (own := [("row_id", 5)]) (tt := tYes) (g := gName 5) rfl scExp.nd (pi_list (pv 8)) (blkOk_by (N := NEx) (sc := defScope sExpected) (by decide +kernel))
          (fun _ _ _ _ _ => pg_name (i := 5) scExp.nd rfl (Or.inl rfl)) (fun _ _ _ _ _ => pts_nil) (fun _ _ _ _ _ => pe_dget hu (pv 4) (pv 5) (fun _ _ => rfl))) pa_nil)))
        (pss_cons (ps_set (i := 10) scExp.nd rfl (Or.inl rfl) (pe_bm PySem.F.plainAttrs_list PySem.F.slot_list_index PySem.F.type_list_index (mt_indexD h65) (pe_lc (own := [("row_id", 5)]) (tt := tYes) (g := gName 5) rfl scExp.nd (pi_list (pv 8)) (blkOk_by (N := NEx) (sc := defScope sExpected) (by decide +kernel))
          (fun _ _ _ _ _ => pg_name (i := 5) scExp.nd rfl (Or.inl rfl)) (fun _ _ _ _ _ => pts_nil) (fun _ _ _ _ _ => pe_dget hu (pv 4) (pv 5) (fun _ _ => rfl))) (pa_cons (pv 9) pa_nil)))
        (pss_cons (ps_set (i := 5) scExp.nd rfl (Or.inr rfl) (pe_ix ix_list (pv 8) (pv 10) (fun _ _ => rfl)))
        (pss_cons (ps_expr (pe_bm PySem.F.plainAttrs_list PySem.F.slot_list_append PySem.F.type_list_append mt_append (pv 7) (pa_cons (pv 5) pa_nil)))
        (pss_one (ps_setLc (i := 8) (own := [("other", 12)]) (g := gName 12) rfl scExp.nd rfl rfl rfl (pi_list (pe_slice sl_list (pv 8) (po_some (pe_op op_add (pv 10) pe_int)) po_none)) (blkOk_by (N := NEx) (sc := defScope sExpected) (by decide +kernel))
          (fun _ _ _ _ _ => pg_name (i := 12) scExp.nd rfl (Or.inl rfl)) (fun _ _ _ _ _ => pts_one (pt_cmpR op_gt (pe_dget hu (pv 6) (pv 12) (fun _ _ => rfl)) (pe_dget hu (pv 6) (pv 5) (fun _ _ => rfl)) (nomark _))) (fun _ _ _ _ _ => pv 12))))))))
      (pss_one (ps_ret (pv 7)))))), ?_⟩
    have h16 : sizeLine = 16777216 := sizeLine_eq
    have z1 := hP.len
    have z2 := hP.len2
    obtain ⟨N, hN⟩ : ∃ N : Int, N = (ids.length : Int) + 1 := ⟨_, rfl⟩
    have hN0 : 0 < N := by omega
    obtain ⟨wf, hwf⟩ : ∃ wf, wf = worthI wo ids.length fav := ⟨_, rfl⟩
    obtain ⟨ff, hff⟩ : ∃ ff, ff = fL js ids wo fav := ⟨_, rfl⟩
    have hfp := hP.fp fav
    have htl := hP.tall fav
    have hbg := best_gr (bs := js) (ids := ids) (wf := worthI wo ids.length fav) hP.sub
    have hwp := hP.wp fav
    rw [← hff] at hfp htl
    rw [← hwf] at htl hbg hwp k
    have hbg : bestF js ids wf = grL ff wf (mostI (ixI js.reverse) ff (js.length : Int) ids) ids := by rw [hbg, hff, hwf]
    obtain ⟨best, hbest⟩ : ∃ best, best = bestF js ids wf := ⟨_, rfl⟩
    rw [← hbest] at hbg k
    -- table
    refine ⟨_, rfl, _, rfl, _, rfl, _, rfl, b, g, fv, v, js, ids, fav, wo, rfl, hb, hg, hw, hf, hP, fun tq H0 s0 htq hTQ => ?_⟩
    rw [← hN, ← hff] at hTQ
    -- places
    refine ⟨_, rfl, b, _, rfl, Same.sq s0 hb, fun D hD => ?_⟩
    refine lc_it (walk_enum (K := K) (a := b) (xs := js.map V.int)) (fun i H' => ∃ es : List (Addr × Int × Int), PrL H' D es ∧ (es.map fun e => e.2) = tabP (ixI js) (js.take i) ∧ Same H0 H' ∧ i ≤ js.length)
      ⟨[], PrL.nil upd_same, by rw [List.take_zero]; rfl, Same.new hD, Nat.zero_le _⟩ (fun i H' _ z => by obtain ⟨es, _, _, z, _⟩ := z; exact Same.sq (s0.trans z) hb) ?_ ?_
    · rintro i y H1 H2 hi ⟨es, R1, e1, s1, hil⟩ ⟨T0, x', y', rfl, hT, rfl, q1, q2⟩
      rw [List.length_map] at hi
      obtain rfl := Option.some.inj q1
      obtain ⟨x, hx, rfl⟩ := int_at q2
      refine ⟨T0, _, rfl, SqT.of upd_same, rfl, _, _, rfl, _, _, rfl, rfl, rfl, ?_⟩
      have s2 := Same.new (o := .tup [.int (i : Int), .int x]) hT
      have R2 := R1.same s2
      have s3 := s1.trans s2
      generalize (upd H1 T0 (.tup [.int (i : Int), .int x]) : Hp) = H2 at s2 R2 s3 ⊢
      refine ⟨_, rfl, _, rfl, by show 2 ≤ sizeLine; decide, fun t ht => ?_⟩
      have st := Same.new (o := .tup [V.int x, V.int (i : Int)]) ht
      have hTt : upd H2 t (.tup [V.int x, V.int (i : Int)]) t = some (.tup [V.int x, V.int (i : Int)]) := upd_same
      have R4 := R2.same st
      have s4 := s3.trans st
      generalize (upd H2 t (.tup [V.int x, V.int (i : Int)]) : Hp) = H4 at st hTt R4 s4 ⊢
      have hel : es.length = i := by
        have := congrArg List.length e1
        unfold tabP at this
        rw [List.length_map, List.length_map, List.length_take] at this
        omega
      refine ⟨_, R4.1, by rw [List.length_map, h16]; omega, es ++ [(t, x, (i : Int))], R4.push hTt, ?_, fun b e z => by rw [upd_ne (ne_of_none z hD)]; exact s4 _ _ z, hi⟩
      have ei : ixI js x = (i : Int) := by unfold ixI; rw [idx_of_at hP.nd hx]
      rw [List.map_append, e1, take_snoc hx]
      unfold tabP
      rw [List.map_append, List.map_singleton, List.map_singleton, ei]
    rintro H1 ⟨es, R1, e1, s1, _⟩
    rw [List.length_map, List.take_length] at e1
    have hmk : (tabP (ixI js) js).map Prod.fst = js := by unfold tabP; rw [List.map_map]; exact List.map_id _
    refine ⟨D, es.map fun e => e.1, pinK (tabP (ixI js) js), rfl, SqL.of (by rw [List.map_map]; exact R1.1), by rw [← e1]; exact PrL.paired R1.2, fun pl hpl => ?_⟩
    rw [merge_pin (by rw [hmk]; exact hP.nd)]
    have s2 := Same.new (o := .dK (pinK (tabP (ixI js) js))) hpl
    have hPL : upd H1 pl (.dK (pinK (tabP (ixI js) js))) pl = some (.dK (pinK (tabP (ixI js) js))) := upd_same
    have s12 := s0.trans (s1.trans s2)
    have hT2 := (hTQ.same s1).same s2
    generalize (upd H1 pl (.dK (pinK (tabP (ixI js) js))) : Hp) = H2 at s2 hPL s12 hT2 ⊢
    -- found, left
    refine ⟨Nat.zero_le _, fun fo hfo => ?_⟩
    have s3 := Same.new (o := .lst []) hfo
    have hF3 : upd H2 fo (.lst []) fo = some (.lst []) := upd_same
    have hPL3 := s3 _ _ hPL
    have hT3 := hT2.same s3
    have s13 := s12.trans s3
    have hfo0 : H fo = none := Same.free s12 hfo
    generalize (upd H2 fo (.lst []) : Hp) = H3 at s3 hF3 hPL3 hT3 s13 ⊢
    refine ⟨_, rfl, g, _, rfl, .inl (Same.sq s13 hg), fun lf hlf => ?_⟩
    have s4 := Same.new (o := .lst (ids.map V.int)) hlf
    have hL4 : upd H3 lf (.lst (ids.map V.int)) lf = some (.lst (ids.map V.int)) := upd_same
    have hF4 := s4 _ _ hF3
    have hPL4 := s4 _ _ hPL3
    have hT4 := hT3.same s4
    have s14 := s13.trans s4
    generalize (upd H3 lf (.lst (ids.map V.int)) : Hp) = H4 at s4 hL4 hF4 hPL4 hT4 s14 ⊢
    have hall : ids.filter (fun y => decide (ixI js.reverse y < (js.length : Int))) = ids := List.filter_eq_self.mpr fun y hy => decide_eq_true (by
      have := ixI_bound (bs := js.reverse) (List.mem_reverse.mpr (hP.sub y hy))
      rw [List.length_reverse] at this
      omega)
    have npf : pl ≠ fo := ne_of_none hPL hfo
    have ntf : tq ≠ fo := fun z => by obtain ⟨es, g1, _⟩ := hT2; rw [z] at g1; rw [g1] at hfo; cases hfo
    refine ⟨_, _, rfl, ?_⟩
    refine ⟨InvE H b g fv tq pl fo v js ids wf ff N best,
      ⟨_, none, none, none, none, none, lf, ids, [], (js.length : Int), rfl, rfl, s14, hPL4, hT4, hF4, by rw [hall]; exact hL4, (ne_of_none hF3 hlf).symm, htl, fun y hy => hy, by rw [List.nil_append]; exact hbg.symm, by show 0 + _ ≤ _; omega⟩, ?_⟩
    rintro m σ H5 ⟨v5, v9, v10, v11, v12, lf, l, out, c, rfl, rfl, s5, hP5, hT5, hF5, hL5, nlf, htl5, hli, hout, hol⟩
    obtain ⟨lft, hlft⟩ : ∃ lft, lft = l.filter fun y => decide (ixI js.reverse y < c) := ⟨_, rfl⟩
    rw [← hlft] at hL5 ⊢
    have hll : lft.length ≤ l.length := by rw [hlft]; exact List.length_filter_le _ _
    refine ⟨_, rfl, Nat.zero_le _, fun e0 he0 => ?_⟩
    have s6 := Same.new (o := .lst []) he0
    have hE6 : upd H5 e0 (.lst []) e0 = some (.lst []) := upd_same
    have hP6 := s6 _ _ hP5
    have hT6 := hT5.same s6
    have hF6 := s6 _ _ hF5
    have hL6 := s6 _ _ hL5
    have s06 := s5.trans s6
    generalize (upd H5 e0 (.lst []) : Hp) = H6 at s6 hE6 hP6 hT6 hF6 hL6 s06 ⊢
    refine ⟨lf, e0, lft, [], rfl, rfl, SqL.of hL6, SqL.of hE6, _, rfl, ?_⟩
    by_cases h0 : lft = []
    · rw [h0]
      refine iteF ?_
      rw [gr_empty (fun x hx => hfp x (hli x hx)) (by rw [← hlft]; exact h0), List.append_nil] at hout
      rw [← hout] at k
      exact ⟨_, rfl, k fo H6 s06 hfo0 hF6⟩
    · rw [decide_eq_false h0]
      refine iteT ?_
      have hlm : ∀ y ∈ lft, y ∈ ids := fun y hy => by rw [hlft] at hy; exact hli y (List.mem_filter.mp hy).1
      obtain ⟨M, hM⟩ : ∃ M, M = mostI (ixI js.reverse) ff c l := ⟨_, rfl⟩
      have hM2 : M = maxI 0 (lft.map ff) := by rw [hM, hlft]; rfl
      have hMm : M ∈ lft.map ff := by rw [hM2]; exact maxI_in12 (by simpa using h0)
      obtain ⟨j, hj⟩ : ∃ j, j = (lft.map ff).idxOf M := ⟨_, rfl⟩
      have hjl : j < lft.length := by
        have := List.idxOf_lt_length_of_mem hMm
        rw [List.length_map] at this
        omega
      obtain ⟨x, hx⟩ : ∃ x, lft[j]? = some x := ⟨_, List.getElem?_eq_getElem hjl⟩
      have hfx : ff x = M := by
        have h1 : (lft.map ff)[j]? = some M := by rw [hj]; exact idx_hit hMm
        rw [List.getElem?_map, hx] at h1
        exact Option.some.inj h1
      have hno : ∀ m y, m < j → lft[m]? = some y → ff y ≠ M := fun m y hm hy => by
        have h1 : (lft.map ff)[m]? = some (ff y) := by rw [List.getElem?_map, hy]; rfl
        exact idx_miss (by rw [← hj]; exact hm) h1
      have hxl : x ∈ lft := List.mem_of_getElem? hx
      have hxi := hlm x hxl
      obtain ⟨u, r, e1, e2, e3, e4⟩ := gr_first (pl := ixI js.reverse) (c := c) l htl5 (fun y _ => hwp y) j x (by rw [← hlft]; exact hx) (by rw [hfx, hM]) (fun m y hm hy => by rw [← hM]; exact hno m y hm (by rw [hlft]; exact hy))
      rw [← hlft] at e4
      refine ⟨fun σ' H' => ∃ m', m' < lft.length ∧ InvE H b g fv tq pl fo v js ids wf ff N best m' σ' H', fun _ _ z => z, ?_⟩
      -- the greatest pair
      refine ⟨_, rfl, lf, rfl, ⟨_, SqL.of hL6⟩, fun Dl hDl => ?_⟩
      refine lc_list (K := K) (a := lf) (xs := lft.map V.int) (fun j H' => Same H6 H' ∧ (∃ us : List Addr, H' Dl = some (.lst (us.map V.ref)) ∧ PrsAt H6 us (((lft.take j).map ff).map (pr11 N))) ∧ j ≤ lft.length)
        ⟨Same.new hDl, ⟨[], upd_same, by rw [List.take_zero]; exact PrsAt.nil⟩, Nat.zero_le _⟩ (fun j H' _ z => SqL.of (z.1 _ _ hL6)) ?_ ?_
      · rintro j y H7 hj ⟨s7, ⟨us, hL, hU⟩, hjl⟩
        obtain ⟨z, hz, rfl⟩ := int_at hj
        have hjl2 : j < lft.length := (List.getElem?_eq_some_iff.mp hz).1
        obtain ⟨t, d1, d2⟩ := hT6.get (List.mem_reverse.mpr (hlm z (List.mem_of_getElem? hz)))
        have hul := hU.1
        rw [List.length_map, List.length_map, List.length_take] at hul
        refine ⟨rfl, _, rfl, _, rfl, tq, _, rfl, d1 _ s7, _, hL, by rw [List.length_map, h16]; omega, fun b u e => by rw [upd_ne (ne_of_none e hDl)]; exact s7 _ _ e, ⟨us ++ [t], by rw [upd_same, List.map_append]; rfl, ?_⟩, hjl2⟩
        rw [take_snoc hz, List.map_append, List.map_append]
        exact hU.push d2
      rintro H7 ⟨s7, ⟨us, hUs, hU⟩, _⟩
      rw [List.length_map, List.take_length] at hU
      have hU7 := hU.same s7
      refine ⟨Dl, us, _, rfl, SqL.of hUs, hU7, by simpa using h0, fun t _ hTt => ?_⟩
      rw [maxP_pr hN0 _ (by simpa using h0), ← hM2] at hTt
      -- its place
      have hL7 := s7 _ _ hL6
      refine ⟨_, rfl, lf, rfl, ⟨_, SqL.of hL7⟩, fun D2 hD2 => ?_⟩
      refine lc_list (K := K) (a := lf) (xs := lft.map V.int) (fun j H' => Same H7 H' ∧ (∃ us : List Addr, H' D2 = some (.lst (us.map V.ref)) ∧ PrsAt H6 us (((lft.take j).map ff).map (pr11 N))) ∧ j ≤ lft.length)
        ⟨Same.new hD2, ⟨[], upd_same, by rw [List.take_zero]; exact PrsAt.nil⟩, Nat.zero_le _⟩ (fun j H' _ z => SqL.of (z.1 _ _ hL7)) ?_ ?_
      · rintro j y H8 hj ⟨s8, ⟨us, hL, hU⟩, hjl⟩
        obtain ⟨z, hz, rfl⟩ := int_at hj
        have hjl2 : j < lft.length := (List.getElem?_eq_some_iff.mp hz).1
        obtain ⟨t, d1, d2⟩ := hT6.get (List.mem_reverse.mpr (hlm z (List.mem_of_getElem? hz)))
        have hul := hU.1
        rw [List.length_map, List.length_map, List.length_take] at hul
        refine ⟨rfl, _, rfl, _, rfl, tq, _, rfl, d1 _ (s7.trans s8), _, hL, by rw [List.length_map, h16]; omega, fun b u e => by rw [upd_ne (ne_of_none e hD2)]; exact s8 _ _ e, ⟨us ++ [t], by rw [upd_same, List.map_append]; rfl, ?_⟩, hjl2⟩
        rw [take_snoc hz, List.map_append, List.map_append]
        exact hU.push d2
      rintro H8 ⟨s8, ⟨us2, hUs2, hU2⟩, _⟩
      rw [List.length_map, List.take_length] at hU2
      have s68 := s7.trans s8
      have hU8 := hU2.same s68
      have hTt8 := s8 _ _ hTt
      refine ⟨.inl ⟨rfl, _, SqL.of hUs2⟩, _, rfl, D2, .ref t, encP (pr11 N M), ((lft.map ff).map (pr11 N)).map encP, j, encP (pr11 N (ff x)), rfl, rfl, .lst (SqL.of hUs2) (dp_prs hU8), .tup (SqT.of hTt8) (.cons (.int _) (.cons (.int _) .nil)), shaped_prs _, shaped_pr _, by rw [List.getElem?_map, List.getElem?_map, List.getElem?_map, hx]; rfl, ?_, fun m z' hm hz' => ?_, ?_⟩
      · rw [eqv_encP, hfx]; exact decide_eq_true rfl
      · rw [List.getElem?_map, List.getElem?_map, List.getElem?_map] at hz'
        obtain ⟨y, hy⟩ : ∃ y, lft[m]? = some y := ⟨_, List.getElem?_eq_getElem (by omega)⟩
        rw [hy] at hz'
        obtain rfl := Option.some.inj hz'
        rw [eqv_encP]
        exact decide_eq_false fun q => hno m y hm hy (pr_inj q)
      -- the id
      have hL8 := s8 _ _ hL7
      have hF8 := s68 _ _ hF6
      refine ⟨_, rfl, _, rfl, lf, _, _, .int x, rfl, rfl, SqL.of hL8, atI_nat (by rw [List.getElem?_map, hx]; rfl), ?_⟩
      refine ⟨_, rfl, .inl ⟨rfl, _, SqL.of hF8⟩, _, rfl, fo, _, _, rfl, rfl, hF8, by rw [List.length_map, h16]; omega, ?_⟩
      have off : ∀ {c : Addr} {u : HO}, H8 c = some u → c ≠ fo → upd H8 fo (.lst (out.map V.int ++ [V.int x])) c = some u := fun h n => by rw [upd_ne n]; exact h
      have s09 : Same H (upd H8 fo (.lst (out.map V.int ++ [V.int x]))) := fun c u z => off (s68 _ _ (s06 _ _ z)) (ne_of_none z hfo0)
      have hP9 := off (s68 _ _ hP6) npf
      have hL9 := off hL8 nlf
      have hT9 : TabAt (upd H8 fo (.lst (out.map V.int ++ [V.int x]))) tq ids.reverse ff N := by
        obtain ⟨es, g1, g2, g3⟩ := hT6.same s68
        exact ⟨es, off g1 ntf, g2, fun e he => off (g3 e he) (ne_of (g3 e he) hF8 (fun z => by cases z))⟩
      have hF9 : upd H8 fo (.lst (out.map V.int ++ [V.int x])) fo = some (.lst ((out ++ [x]).map V.int)) := by rw [upd_same, List.map_append]; rfl
      generalize (upd H8 fo (.lst (out.map V.int ++ [V.int x])) : Hp) = H9 at s09 hP9 hL9 hT9 hF9 ⊢
      -- what can go on
      refine ⟨_, rfl, _, rfl, _, _, rfl, rfl, _, rfl, lf, _, rfl, SqL.of hL9, fun c2 hc2 => ?_⟩
      rw [show (j : Int) + 1 = ((j + 1 : Nat) : Int) from by omega, cut_from, ← List.map_drop]
      have sc := Same.new (o := .lst ((lft.drop (j + 1)).map V.int)) hc2
      have hC : upd H9 c2 (.lst ((lft.drop (j + 1)).map V.int)) c2 = some (.lst ((lft.drop (j + 1)).map V.int)) := upd_same
      have s0a := s09.trans sc
      have hPa := sc _ _ hP9
      have hTa := hT9.same sc
      have hFa := sc _ _ hF9
      generalize (upd H9 c2 (.lst ((lft.drop (j + 1)).map V.int)) : Hp) = Ha at sc hC s0a hPa hTa hFa ⊢
      obtain ⟨rt, hrt⟩ : ∃ rt, rt = lft.drop (j + 1) := ⟨_, rfl⟩
      rw [← hrt] at hC e4
      have hrm : ∀ y ∈ rt, y ∈ ids := fun y hy => hlm y (by rw [hrt] at hy; exact List.mem_of_mem_drop hy)
      have hrl : rt.length < lft.length := by rw [hrt, List.length_drop]; omega
      have dgp : ∀ {G : Hp} {z : Int}, G pl = some (.dK (pinK (tabP (ixI js) js))) → z ∈ ids → DGet G pl (.int z) (some (.int (ixI js z))) := fun {G z} h hz => by
        have := DGet.k (k := (.inl z : Key)) h
        rw [val_pin, tab_an (hP.sub z hz)] at this
        exact this
      refine ⟨c2, rfl, ⟨_, SqL.of hC⟩, fun D3 hD3 => ?_⟩
      refine lc_list (K := K) (a := c2) (xs := rt.map V.int) (fun j H' => Same Ha H' ∧ H' D3 = some (.lst (((rt.take j).filter fun y => decide (ixI js.reverse y < ixI js.reverse x)).map V.int)) ∧ j ≤ rt.length) ⟨Same.new hD3, by rw [List.take_zero]; exact upd_same, Nat.zero_le _⟩ (fun j H' _ z => SqL.of (z.1 _ _ hC)) ?_ ?_
      · rintro j y Hb hj ⟨sb, hL, hjl⟩
        obtain ⟨z, hz, rfl⟩ := int_at hj
        have hjl2 : j < rt.length := (List.getElem?_eq_some_iff.mp hz).1
        have hzi := hrm z (List.mem_of_getElem? hz)
        have flt := List.length_filter_le (fun y => decide (ixI js.reverse y < ixI js.reverse x)) (rt.take j)
        rw [List.length_take] at flt
        refine ⟨rfl, _, rfl, _, rfl, pl, _, rfl, dgp (sb _ _ hPa) hzi, _, rfl, _, rfl, pl, _, rfl, dgp (sb _ _ hPa) hxi, _, _, rfl, rfl, _, rfl, ite2 (fun cc => ?_) (fun cc => ?_)⟩
        · have cr := (hP.rev hxi hzi).mp (of_decide_eq_true cc)
          refine ⟨_, rfl, _, hL, by rw [List.length_map, h16]; omega, fun b u e => by rw [upd_ne (ne_of_none e hD3)]; exact sb _ _ e, ?_, hjl2⟩
          rw [upd_same, take_snoc hz, List.filter_append, List.filter_cons_of_pos (by exact decide_eq_true cr), List.map_append]; rfl
        · have cr : ¬ ixI js.reverse z < ixI js.reverse x := fun q => cc (decide_eq_true ((hP.rev hxi hzi).mpr q))
          refine ⟨sb, ?_, hjl2⟩
          rw [hL, take_snoc hz, List.filter_append, List.filter_cons_of_neg (by simpa using cr), List.filter_nil, List.append_nil]
      rintro Hb ⟨sb, hL, _⟩
      rw [List.length_map, List.take_length, e4] at hL
      have hrr : (r.filter fun y => decide (ixI js.reverse y < ixI js.reverse x)).length ≤ rt.length := by rw [← e4]; exact List.length_filter_le _ _
      have hrlen : r.length + 1 ≤ l.length := by rw [e1, List.length_append, List.length_cons]; omega
      refine ⟨_, by omega, _, _, _, _, _, D3, r, out ++ [x], ixI js.reverse x, rfl, rfl, s0a.trans sb, sb _ _ hPa, hTa.same sb, sb _ _ hFa, hL, (ne_of_none hFa hD3).symm, e2, fun y hy => hli y (by rw [e1]; exact List.mem_append_right _ (List.mem_cons_of_mem _ hy)), ?_, by rw [List.length_append]; show _ + 1 + _ ≤ _; omega⟩
      rw [e3] at hout
      rw [← hout, List.append_assoc]; rfl
end
theorem seqIndex_nat {k n : Nat} (h : k < n) : seqIndex? (k : Int) n = some k := by
  unfold seqIndex?
  have h1 : ¬ ((k : Int) < 0) := by omega
  simp only [h1, if_false]
  have h2 : (decide (0 ≤ (k : Int)) && decide ((k : Int) < (n : Int))) = true := by
    rw [Bool.and_eq_true]
    exact ⟨decide_eq_true (by omega), decide_eq_true (by omega)⟩
  rw [if_pos h2]
  simp
theorem erase_map (js : List Int) (k : Nat) : (js.map V.int).eraseIdx k = (js.eraseIdx k).map V.int := by
  exact L2.erase_mapI js k
section
variable {P : Program} {w : World} {K : PySem.W.Frag} {mg : Str → Option Value} {base : Heap}
/-! ### the things in a drawn sequence -/
def spShuf (K : PySem.W.Frag) : Sp := fun vs H Q _ => ∃ (d t : Addr) (js : List Int), vs = [.ref d, .ref t] ∧ DeckAt H d ∧ SqL K H t (js.map V.int) ∧ js.length ≤ 300 ∧
  ∀ (p : Addr) (ks : List Int) (H' : Hp), H p = none → But d H H' → DeckAt H' d → H' p = some (.lst (ks.map V.int)) → ks.Perm js → Q (.ref p) H'
structure TxtS (mg : Str → Option Value) : Prop where
  len : mg "len" = none
  list : mg "list" = none
theorem scShuf : FnScope ["tape", "ids", "left", "found"] ["tape", "ids"] (defScope sShuf) := ⟨rfl, rfl, rfl, by decide +kernel, rfl, by decide +kernel, by decide +kernel⟩
theorem ok_shuf {f fD : Addr} {fd fdD : FuncData} (F : Fun K "_law_shuffled" "_law_shuffled" sShuf f fd) (T : TxtS mg) (FD : Fun K "_law_pick" "_law_pick" sDraw fD fdD) (bD : L2.Binds K fdD ["tape", "size"] []) (mD : mg "_law_pick" = some (.ref fD)) :
    FnOk P w K mg base CX0 2 f fd ["tape", "ids"] (spShuf K) := by
  have GD : FnOk P w K mg base CX0 1 fD fdD ["tape", "size"] spDraw := ok_draw FD
  refine F.ok scShuf (fun vs H Q E h => ?_) (fun cdv A outer s H vs Q E hr h => ?_)
  · obtain ⟨d, t, js, rfl, _⟩ := h
    rfl
  · obtain ⟨d, t, js, rfl, D, hT, hj, k⟩ := h
    have h64 := hu64 hr
    refine ⟨_, pss_cons (ps_set (i := 2) scShuf.nd rfl (Or.inl rfl) (pe_callTy call_list_of (by rfl) T.list (by decide +kernel) (pa_cons (pv 1) pa_nil)))
      (pss_cons (ps_set (i := 3) scShuf.nd rfl (Or.inl rfl) (pe_lst pa_nil))
      (pss_cons (ps_while PassesOwn.never (pt_cmpR (op_neL h64) (pv 2) (pe_lst pa_nil) (nomark _))
        (pss_one (ps_expr (pe_bm PySem.F.plainAttrs_list PySem.F.slot_list_append PySem.F.type_list_append mt_append (pv 3) (pa_cons
          (pe_bm PySem.F.plainAttrs_list PySem.F.slot_list_pop PySem.F.type_list_pop mt_popAt (pv 2) (pa_cons (pe_call GD hr rfl mD FD.kp bD .nil pass0 (pa_cons (pv 0) (pa_cons (pe_callB call_len_seq (by rfl) T.len PySem.boot_len (pa_cons (pv 2) pa_nil)) pa_nil))) pa_nil)) pa_nil)))))
      (pss_one (ps_ret (pv 3))))), ?_⟩
    refine ⟨_, rfl, t, _, rfl, .inl hT, fun l hl => ?_⟩
    have F1 : Fs d H [(l, .lst (js.map V.int))] _ := (Fs.start D).new hl nl
    refine ⟨Nat.zero_le _, fun r hr' => ?_⟩
    have F2 := F1.new hr' (o := .lst []) nl
    have hr0 : H r = none := Same.free (Same.new (o := .lst (js.map V.int)) hl) hr'
    have nlr : l ≠ r := ne_of_none F1.g0 hr'
    refine ⟨fun m σ H' => ∃ (ls fs : List Int), σ = [some (.ref d), some (.ref t), some (.ref l), some (.ref r)] ∧ m = ls.length ∧ (fs ++ ls).Perm js ∧ But d H H' ∧ DeckAt H' d ∧ H' l = some (.lst (ls.map V.int)) ∧ H' r = some (.lst (fs.map V.int)),
      ⟨_, js, [], rfl, rfl, List.Perm.refl _, F2.1, F2.deck, F2.g1, F2.g0⟩, ?_⟩
    rintro m σ H1 ⟨ls, fs, rfl, rfl, hp, B1, D1, hL, hR⟩
    have hlen : fs.length + ls.length = js.length := by have := hp.length_eq; rw [List.length_append] at this; exact this
    refine ⟨_, rfl, Nat.zero_le _, fun q hq => ?_⟩
    have s2 : Same H1 (upd H1 q (.lst [])) := Same.new hq
    refine ⟨l, q, ls, [], rfl, rfl, SqL.of (s2 _ _ hL), SqL.of upd_same, _, rfl, ?_⟩
    by_cases h0 : ls = []
    · subst h0
      refine iteF ?_
      rw [List.append_nil] at hp
      exact ⟨_, rfl, k r fs _ hr0 (B1.trans (But.of s2)) (D1.same s2) (s2 _ _ hR) hp⟩
    · rw [decide_eq_false h0]
      refine iteT ?_
      have hpos : 0 < ls.length := List.length_pos_iff.mpr h0
      refine ⟨fun σ' H' => ∃ m', m' < ls.length ∧ ∃ (ls fs : List Int), σ' = [some (.ref d), some (.ref t), some (.ref l), some (.ref r)] ∧ m' = ls.length ∧ (fs ++ ls).Perm js ∧ But d H H' ∧ DeckAt H' d ∧ H' l = some (.lst (ls.map V.int)) ∧ H' r = some (.lst (fs.map V.int)), fun _ _ z => z, ?_⟩
      have D2 := D1.same s2
      refine ⟨_, rfl, .inl ⟨rfl, _, SqL.of (s2 _ _ hR)⟩, _, rfl, .inl ⟨rfl, _, SqL.of (s2 _ _ hL)⟩, _, rfl, _, rfl, l, _, rfl, .inl (SqL.of (s2 _ _ hL)), d, _, rfl, D2, by rw [List.length_map]; omega, by rw [List.length_map]; omega, fun z H3 z0 z1 D3 B3 => ?_⟩
      rw [List.length_map] at z1
      obtain ⟨i, rfl⟩ : ∃ m : Nat, z = (m : Int) := ⟨z.toNat, by omega⟩
      have hi : i < ls.length := by omega
      have hL3 := B3.lst D2 (s2 _ _ hL)
      have hR3 := B3.lst D2 (s2 _ _ hR)
      have hy : ls[i]? = some ls[i] := List.getElem?_eq_getElem hi
      refine ⟨l, _, _, i, .int ls[i], rfl, rfl, hL3, by omega, by omega, seqIndex_nat (by rw [List.length_map]; exact hi), by rw [List.getElem?_map, hy]; rfl, ?_⟩
      rw [erase_map]
      have hR4 : upd H3 l (.lst ((ls.eraseIdx i).map V.int)) r = some (.lst (fs.map V.int)) := by rw [upd_ne nlr.symm]; exact hR3
      refine ⟨r, _, _, rfl, rfl, hR4, by rw [List.length_map]; exact small1000 (by omega), ?_⟩
      have hel : (ls.eraseIdx i).length + 1 = ls.length := by rw [List.length_eraseIdx_of_lt hi]; omega
      refine ⟨(ls.eraseIdx i).length, by omega, ls.eraseIdx i, fs ++ [ls[i]], rfl, rfl, ?_, ?_, ?_, ?_, ?_⟩
      · rw [List.append_assoc]
        exact (List.Perm.append_left fs (L2.erase_perm ls i _ hy)).trans hp
      · intro b o hb e
        have nbl : b ≠ l := ne_of_none e hl
        have nbr : b ≠ r := ne_of_none e hr0
        rw [upd_ne nbr, upd_ne nbl]
        exact B3 b o hb (s2 _ _ (B1 b o hb e))
      · obtain ⟨x, y, hd, rr⟩ := D3
        have n1 : d ≠ l := (ne_of hL3 hd (nl _ _)).symm
        have n2 : d ≠ r := (ne_of hR3 hd (nl _ _)).symm
        exact ⟨x, y, by rw [upd_ne n2, upd_ne n1]; exact hd, rr⟩
      · rw [upd_ne nlr, upd_same]
      · rw [upd_same, List.map_append]; rfl
end
/-- an object of the row may be laid anew -/
theorem Fs.reput {d x : Addr} {Hd H1 : Hp} {fs : List (Addr × HO)} {o o' : HO} (F : Fs d Hd ((x, o) :: fs) H1) (h0 : Hd x = none) (hn : ∀ p ∈ fs, p.1 ≠ x) : Fs d Hd ((x, o') :: fs) (upd H1 x o') := by
  obtain ⟨f1, ⟨a, b, q, r⟩, f3⟩ := F
  have hd : x ≠ d := (f3 _ List.mem_cons_self).1
  refine ⟨fun c u hc e => ?_, ⟨a, b, by rw [upd_ne hd.symm]; exact q, r⟩, fun p hp => ?_⟩
  · rw [upd_ne (ne_of_none e h0)]
    exact f1 c u hc e
  · rcases List.mem_cons.mp hp with e | e
    · subst e; exact ⟨hd, upd_same⟩
    · exact ⟨(f3 p (List.mem_cons_of_mem _ e)).1, by rw [upd_ne (hn p e)]; exact (f3 p (List.mem_cons_of_mem _ e)).2⟩
section
variable {P : Program} {w : World} {K : PySem.W.Frag} {mg : Str → Option Value} {base : Heap}
/-! ### ids -/
/-- so many different ids -/
def IdsL (js : List Int) : Prop := js.Nodup ∧ ∀ z ∈ js, 1 ≤ z ∧ z ≤ 1000000
structure TxtI (mg : Str → Option Value) : Prop where
  len : mg "len" = none
  list : mg "list" = none
  range : mg "range" = none
def spIds : Sp := fun vs H Q _ => ∃ (d : Addr) (n : Nat), vs = [.ref d, .int n] ∧ DeckAt H d ∧ n ≤ 100 ∧
  ∀ (l : Addr) (js : List Int) (H' : Hp), H l = none → But d H H' → DeckAt H' d → H' l = some (.lst (js.map V.int)) → js.length = n → IdsL js → Q (.ref l) H'
def stepL : List Int := [1, 1, 37, 9999]
theorem steps_ok {s : Int} (h : s ∈ stepL) : 1 ≤ s ∧ s ≤ 9999 := by
  have : ∀ s ∈ stepL, 1 ≤ s ∧ s ≤ 9999 := by decide
  exact this s h
def upTo (s : Int) (n : Nat) : List Int := (List.range n).map fun (i : Nat) => 1 + s * (i : Int)
theorem upTo_len (s : Int) (n : Nat) : (upTo s n).length = n := by simp [upTo]
theorem upTo_succ (s : Int) (n : Nat) : upTo s (n + 1) = upTo s n ++ [1 + s * (n : Int)] := by
  unfold upTo
  rw [List.range_succ, List.map_append]; rfl
theorem upTo_ids {s : Int} {n : Nat} (h1 : 1 ≤ s) (h2 : s ≤ 9999) (hn : n ≤ 100) : IdsL (upTo s n) := by
  refine ⟨?_, fun z hz => ?_⟩
  · unfold upTo
    refine List.pairwise_map.mpr ((List.nodup_range).imp fun {a b} h e => h ?_)
    have : s * (a : Int) = s * (b : Int) := by omega
    have h0 : s ≠ 0 := by omega
    have := Int.eq_of_mul_eq_mul_left h0 this
    omega
  · obtain ⟨i, hi, rfl⟩ := List.mem_map.mp hz
    have hi := List.mem_range.mp hi
    have a1 : 0 ≤ s * (i : Int) := Int.mul_nonneg (by omega) (by omega)
    have a2 : s * (i : Int) ≤ 9999 * 99 := Int.mul_le_mul h2 (by omega) (by omega) (by omega)
    omega
theorem scIds : FnScope ["tape", "size", "step", "place"] ["tape", "size"] (defScope sIds) := ⟨rfl, rfl, rfl, by decide +kernel, rfl, by decide +kernel, by decide +kernel⟩
theorem ok_ids {f fC fS : Addr} {fd fdC fdS : FuncData} (F : Fun K "_law_ids" "_law_ids" sIds f fd) (T : TxtI mg)
    (GC : FnOk P w K mg base CX0 2 fC fdC ["tape", "items"] (spChoose K)) (kC : PySem.W.keepIn K (.ref fC) = true) (bC : L2.Binds K fdC ["tape", "items"] []) (mC : mg "_law_one_of" = some (.ref fC))
    (GS : FnOk P w K mg base CX0 2 fS fdS ["tape", "ids"] (spShuf K)) (kS : PySem.W.keepIn K (.ref fS) = true) (bS : L2.Binds K fdS ["tape", "ids"] []) (mS : mg "_law_shuffled" = some (.ref fS)) :
    FnOk P w K mg base CX0 3 f fd ["tape", "size"] spIds := by
  refine F.ok scIds (fun vs H Q E h => ?_) (fun cdv A outer s H vs Q E hr h => ?_)
  · obtain ⟨d, n, rfl, _⟩ := h
    rfl
  · obtain ⟨d, n, rfl, D, n1, k⟩ := h
    refine ⟨_, pss_cons (ps_set (i := 2) scIds.nd rfl (Or.inr rfl) (pe_call GC hr rfl mC kC bC .nil pass0 (pa_cons (pv 0) (pa_cons (pe_lst (pa_cons pe_int (pa_cons pe_int (pa_cons pe_int (pa_cons pe_int pa_nil))))) pa_nil))))
      (pss_one (ps_ret (pe_call GS hr rfl mS kS bS .nil pass0 (pa_cons (pv 0) (pa_cons (pe_lc (own := [("place", 3)]) (g := gName 3) (tt := tYes) rfl scIds.nd (pi_range1 rfl T.range (pa_cons (pv 1) pa_nil)) (blkOk_by (N := ["tape", "size", "step", "place"]) (sc := defScope sIds) (by decide +kernel))
        (fun _ _ _ _ _ => pg_name (i := 3) scIds.nd rfl (Or.inl rfl)) (fun _ _ _ _ _ => pts_nil) (fun _ _ _ _ _ => pe_op op_add pe_int (pe_op op_mul (pv 2) (pv 3)))) pa_nil))))), ?_⟩
    have h16 : sizeLine = 16777216 := sizeLine_eq
    refine ⟨_, rfl, by show 4 ≤ sizeLine; rw [h16]; decide, fun p hp => ?_⟩
    have F1 : Fs d H [(p, .lst (stepL.map V.int))] (upd H p (.lst (stepL.map V.int))) := (Fs.start D).new hp nl
    refine ⟨d, p, stepL.map V.int, rfl, F1.deck, SqL.of F1.g0, (by intro z; cases z), (by show 4 < 1000000; decide), fun v H2 hv D2 B2 => ?_⟩
    obtain ⟨st, hst, rfl⟩ := List.mem_map.mp hv
    obtain ⟨s1, s2⟩ := steps_ok hst
    have F2 := (F1.step D2 B2).tail
    refine ⟨_, rfl, _, rfl, (n : Int), rfl, by omega, by omega, fun D' hD' => ?_⟩
    obtain ⟨a0, a1, a2⟩ := F2.apart hD'
    refine lc_range (lo := 0) (n := ((n : Int)).toNat) (fun i H' => Fs d H [(D', .lst ((upTo st i).map V.int))] H') (F2.new (o := .lst []) hD' nl) ?_ ?_
    · rintro i H' hi F3
      refine ⟨rfl, ?_⟩
      have i100 : (i : Int) ≤ 100 := by omega
      refine ⟨_, rfl, _, rfl, _, _, rfl, rfl, .inr ⟨by omega, by omega⟩, _, _, rfl, rfl, ?_⟩
      refine ⟨_, F3.g0, by rw [List.length_map, upTo_len, h16]; omega, ?_⟩
      have := F3.reput (o' := .lst ((upTo st i).map V.int ++ [V.int (1 + st * (0 + (i : Int)))])) a0 a2
      rw [upTo_succ, List.map_append]
      rw [Int.zero_add] at this ⊢
      exact this
    · rintro H' F3
      have e : ((n : Int)).toNat = n := by omega
      rw [e] at F3
      have hI := upTo_ids (n := n) s1 s2 n1
      refine ⟨d, D', upTo st n, rfl, F3.deck, SqL.of F3.g0, by rw [upTo_len]; omega, fun q ks H5 hq B5 D5 hQ hperm => ?_⟩
      have F5 := F3.step D5 B5
      refine k q ks H5 ?_ F5.1 D5 hQ ?_ ⟨hperm.nodup_iff.mpr hI.1, fun z hz => hI.2 z (hperm.mem_iff.mp hz)⟩
      · cases e : H q with
        | none => rfl
        | some u =>
          have hqd : q ≠ d := fun z => by
            rw [z] at hq
            obtain ⟨x, y, w, _⟩ := F3.deck
            rw [hq] at w; cases w
          have := F3.1 q u hqd e
          rw [hq] at this; cases this
      · rw [hperm.length_eq, upTo_len]
end
/-! ### xs[lo:hi:step] -/
def placesL (lo hi st : Option Int) (n : Nat) : List Nat := sliceRange (sliceBounds lo hi st n).1 (sliceBounds lo hi st n).2.1 (sliceBounds lo hi st n).2.2
def pickL {α : Type} (xs : List α) (ps : List Nat) : List α := ps.filterMap (xs[·]?)
theorem vals_pick {vs : List V} {us : List Value} (r : Vals vs us) : ∀ ps : List Nat, Vals (pickL vs ps) (pickL us ps)
  | [] => .nil
  | i :: ps => by
    have ih := vals_pick r ps
    unfold pickL at ih ⊢
    rw [List.filterMap_cons, List.filterMap_cons]
    cases h : vs[i]? with
    | none =>
      have : us[i]? = none := by
        rw [List.getElem?_eq_none_iff] at h ⊢
        rw [← r.length]; exact h
      rw [this]; exact ih
    | some v =>
      obtain ⟨u, hu, hr⟩ : ∃ u, us[i]? = some u ∧ RelV v u := by
        clear ih
        induction r generalizing i with
        | nil => cases h
        | cons r1 r2 ih2 =>
          cases i with
          | zero => cases h; exact ⟨_, rfl, r1⟩
          | succ i => exact ih2 i h
      rw [hu]; exact .cons hr ih
theorem pickL_map {α β : Type} (f : α → β) (xs : List α) (ps : List Nat) : pickL (xs.map f) ps = (pickL xs ps).map f := by
  unfold pickL
  induction ps with
  | nil => rfl
  | cons i r ih =>
    rw [List.filterMap_cons, List.filterMap_cons, List.getElem?_map]
    cases xs[i]? with
    | none => exact ih
    | some x => show f x :: _ = f x :: _; rw [ih]
def tSl3 (K : PySem.W.Frag) (te : TE) (tl th ts : TO) : TE := fun σ H Q => te σ H fun x H1 => tl σ H1 fun l H2 => th σ H2 fun u H3 => ts σ H3 fun st H4 => ∃ a xs, x = .ref a ∧ SqL K H4 a xs ∧ st ≠ some 0 ∧ ∀ p, H4 p = none → Q (.ref p) (upd H4 p (.lst (pickL xs (placesL l u st xs.length))))
section
variable {X : Cx} {e : Expr} {te : TE} {lo hi : Option Expr} {st : Expr} {tl th ts : TO} {pos p2 : Pos}
theorem pe_slice3 (he : PE X e te) (hl : PO X lo tl) (hu : PO X hi th) (hs : PO X (some st) ts) : PE X (.Subscript e (.Slice lo hi (some st) p2) pos) (tSl3 X.K te tl th ts) := by
  refine ⟨fun pins s σ H Q I h => ?_⟩
  refine Subscript_ (thn (he.run pins s σ H _ I h) fun v s1 ⟨x, H1, I1, r1, q1⟩ => ?_)
  refine wpAny_Slice (thn (hl.run pins s1 σ H1 _ I1 q1) fun vl s2 ⟨l, H2, I2, pl, q2⟩ => thn (hu.run pins s2 σ H2 _ I2 q2) fun vu s3 ⟨u, H3, I3, pu, q3⟩ => ?_)
  refine thn (hs.run pins s3 σ H3 _ I3 q3) fun vs s4 ⟨o, H4, I4, ps, a, xs, ex, hx, h0, q⟩ => ?_
  subst ex
  cases r1
  have I5 : Inv X pins σ H4 { s4 with heap := s4.heap.push { cls := .type "slice", data := .fields #[vl, vu, vs] } } := I4.kept (t' := s4.toks) fun b ob q => Heap.get?_push_of_some _ q
  obtain ⟨its, r, ht, hz⟩ := I5.list hx
  have hlen := r.length
  show wpAny (model X.prog X.w) X.A (subscriptTail e (.Slice lo hi (some st) p2) (.ref a) (.ref s4.heap.objs.size)) (EP X pins σ Q) X.xe { s4 with heap := s4.heap.push { cls := .type "slice", data := .fields #[vl, vu, vs] } }
  refine tail_any (ops := [.ref a, .ref s4.heap.objs.size]) ht.isList.typeIs (PySem.slot_list_getitem.lookup) ?_ (by with_unfolding_all rfl)
  have hsz : (slicePick its.toArray l u o) = (pickL its (placesL l u o its.length)).toArray := by
    unfold slicePick pickL placesL
    rw [List.size_toArray]
    simp
  have hle := slicePick_size_le its.toArray l u o
  refine wpAny_getItem_list_slice ht.isList (Heap.IsSliceOf.new _ vl vu vs) pl pu ps h0 ?_ (by rw [List.size_toArray]; omega)
  have hlp : (pickL xs (placesL l u o xs.length)).length ≤ sizeLine := by
    rw [(vals_pick r _).length, hlen]
    rw [hsz, List.size_toArray, List.size_toArray] at hle
    omega
  rw [hsz, ← hlen]
  refine ⟨.ref _, _, I5.laid (t' := s4.toks) (o := .lst (pickL xs (placesL l u o xs.length))) (fun b ob q => Heap.get?_push_of_some _ q) (Nat.le_refl _) ?_, rfl, q _ (I5.hok.fresh (Nat.le_refl _))⟩
  exact ⟨hlp, _, 0, vals_pick r _, Heap.get?_push_size _ rfl⟩
end
/-! ### every second one -/
theorem twos : ∀ n < 64, (placesL (some 1) none (some 2) n ++ placesL none none (some 2) n).isPerm (List.range n) = true := by decide +kernel
theorem pick_perm {α : Type} {xs : List α} {ps qs : List Nat} (h : ps.Perm qs) : (pickL xs ps).Perm (pickL xs qs) := h.filterMap _
theorem pick_all {α : Type} (xs : List α) : pickL xs (List.range xs.length) = xs := by
  unfold pickL
  induction xs with
  | nil => rfl
  | cons x r ih =>
    rw [List.length_cons, List.range_succ_eq_map, List.filterMap_cons]
    show x :: _ = _
    rw [List.filterMap_map]
    congr 1
theorem pick_two {α : Type} {xs : List α} (h : xs.length < 64) : (pickL xs (placesL (some 1) none (some 2) xs.length) ++ pickL xs (placesL none none (some 2) xs.length)).Perm xs := by
  have e : pickL xs (placesL (some 1) none (some 2) xs.length) ++ pickL xs (placesL none none (some 2) xs.length) = pickL xs (placesL (some 1) none (some 2) xs.length ++ placesL none none (some 2) xs.length) := by
    unfold pickL; rw [List.filterMap_append]
  rw [e]
  have := pick_perm (xs := xs) (List.isPerm_iff.mp (twos xs.length h))
  rw [pick_all] at this
  exact this
/-! ### another order of the same ids -/
theorem ins_perm {α : Type} (l : List α) (k : Nat) (y : α) : (l.take k ++ [y] ++ l.drop k).Perm (y :: l) := by
  rw [List.append_assoc]
  have := List.perm_middle (a := y) (l₁ := l.take k) (l₂ := l.drop k)
  rw [List.take_append_drop] at this
  exact this
theorem but_free {d p : Addr} {H H' : Hp} (B : But d H H') (D : DeckAt H' d) (h : H' p = none) : H p = none := by
  cases e : H p with
  | none => rfl
  | some o =>
    by_cases q : p = d
    · obtain ⟨x, y, hd, _⟩ := D
      rw [← q, h] at hd; cases hd
    · rw [B p o q e] at h; cases h
structure TxtG (mg : Str → Option Value) : Prop where
  len : mg "len" = none
  list : mg "list" = none
  range : mg "range" = none
section
variable {P : Program} {w : World} {K : PySem.W.Frag} {mg : Str → Option Value} {base : Heap}
def spGoal (K : PySem.W.Frag) : Sp := fun vs H Q _ => ∃ (d t : Addr) (js : List Int), vs = [.ref d, .ref t] ∧ DeckAt H d ∧ SqL K H t (js.map V.int) ∧ js.length < 64 ∧
  ∀ (p : Addr) (ks : List Int) (H' : Hp), H p = none → But d H H' → DeckAt H' d → H' p = some (.lst (ks.map V.int)) → ks.Perm js → Q (.ref p) H'
abbrev NG : List Str := ["tape", "base", "way", "found", "turn", "row_id"]
theorem scGoal : FnScope NG ["tape", "base"] (defScope sGoal) := ⟨rfl, rfl, rfl, by decide +kernel, rfl, by decide +kernel, by decide +kernel⟩
theorem ok_goal {f fD fS : Addr} {fd fdD fdS : FuncData} (F : Fun K "_law_goal" "_law_goal" sGoal f fd) (T : TxtG mg) (FD : Fun K "_law_pick" "_law_pick" sDraw fD fdD) (bD : L2.Binds K fdD ["tape", "size"] []) (mD : mg "_law_pick" = some (.ref fD))
    (GS : FnOk P w K mg base CX0 2 fS fdS ["tape", "ids"] (spShuf K)) (kS : PySem.W.keepIn K (.ref fS) = true) (bS : L2.Binds K fdS ["tape", "ids"] []) (mS : mg "_law_shuffled" = some (.ref fS)) :
    FnOk P w K mg base CX0 3 f fd ["tape", "base"] (spGoal K) := by
  have GD : FnOk P w K mg base CX0 1 fD fdD ["tape", "size"] spDraw := ok_draw FD
  refine F.ok scGoal (fun vs H Q E h => ?_) (fun cdv A outer s H vs Q E hr h => ?_)
  · obtain ⟨d, t, js, rfl, _⟩ := h
    rfl
  · obtain ⟨d, t, js, rfl, D, hT, hj, k⟩ := h
    have h64 := hu64 hr
    have hr1 : Room 1 _ := hr.mono (by decide)
    have hS := hr
    refine ⟨_, pss_cons (ps_set (i := 2) scGoal.nd rfl (Or.inl rfl) (pe_call GD hr1 rfl mD FD.kp bD .nil pass0 (pa_cons (pv 0) (pa_cons pe_int pa_nil))))
      (pss_cons (ps_if (PW.pt (pw_or (pt_cmpR op_eq (pv 2) pe_int (nomark _)) (pw_or1 (pt_cmpR (op_eqL h64) (pv 1) (pe_lst pa_nil) (nomark _))))) (pss_one (ps_ret (pe_call GS hr rfl mS kS bS .nil pass0 (pa_cons (pv 0) (pa_cons (pv 1) pa_nil))))) pss_nil)
      (pss_cons (ps_if (pt_cmpR op_eq (pv 2) pe_int (nomark _)) (pss_one (ps_ret (pe_revL (pv 1)))) pss_nil)
      (pss_cons (ps_if (pt_cmpR op_eq (pv 2) pe_int (nomark _)) (pss_one (ps_ret (pe_op op_cat (pe_slice3 (pv 1) (po_some pe_int) po_none (po_some pe_int)) (pe_slice3 (pv 1) po_none po_none (po_some pe_int))))) pss_nil)
      (pss_cons (ps_set (i := 3) scGoal.nd rfl (Or.inl rfl) (pe_callTy call_list_of (by rfl) T.list (by decide +kernel) (pa_cons (pv 1) pa_nil)))
      (pss_cons (ps_for PassesOwn.never rfl (pi_range1 rfl T.range (pa_cons (pe_call GD hr1 rfl mD FD.kp bD .nil pass0 (pa_cons (pv 0) (pa_cons (pe_op op_add pe_int (pe_op op_fdiv (pe_callB call_len_seq (by rfl) T.len PySem.boot_len (pa_cons (pv 1) pa_nil)) pe_int)) pa_nil))) pa_nil)) (pg_name (i := 4) scGoal.nd rfl (Or.inl rfl))
        (pss_cons (ps_set (i := 5) scGoal.nd rfl (Or.inl rfl) (pe_bm PySem.F.plainAttrs_list PySem.F.slot_list_pop PySem.F.type_list_pop mt_popAt (pv 3) (pa_cons (pe_call GD hr1 rfl mD FD.kp bD .nil pass0 (pa_cons (pv 0) (pa_cons (pe_callB call_len_seq (by rfl) T.len PySem.boot_len (pa_cons (pv 3) pa_nil)) pa_nil))) pa_nil)))
        (pss_one (ps_expr (pe_bm PySem.F.plainAttrs_list PySem.F.slot_list_insert PySem.F.type_list_insert mt_insert (pv 3) (pa_cons (pe_call GD hr1 rfl mD FD.kp bD .nil pass0 (pa_cons (pv 0) (pa_cons (pe_op op_add (pe_callB call_len_seq (by rfl) T.len PySem.boot_len (pa_cons (pv 3) pa_nil)) pe_int) pa_nil))) (pa_cons (pv 5) pa_nil)))))))
      (pss_one (ps_ret (pv 3)))))))), ?_⟩
    have h16 : sizeLine = 16777216 := sizeLine_eq
    refine ⟨_, rfl, d, _, rfl, D, by decide, by decide, fun wy H1 w0 w1 D1 B1 => ?_⟩
    have hT1 := B1.seq D hT
    have shuf : ∀ {H2 : Hp} {R : VK} {v2 v3 v4 v5 : Option V}, But d H H2 → DeckAt H2 d → (∀ (p : Addr) (ks : List Int) (H' : Hp), H p = none → But d H H' → DeckAt H' d → H' p = some (.lst (ks.map V.int)) → ks.Perm js → R (.ref p) H') →
        tCall (spShuf K) [] E0 (tCons (tVar 0) (tCons (tVar 1) tNil)) [some (.ref d), some (.ref t), v2, v3, v4, v5] H2 R := fun {H2 R v2 v3 v4 v5} B2 D2 kk =>
      ⟨_, rfl, _, rfl, d, t, js, rfl, D2, B2.seq D hT, by omega, fun p ks H3 hp B3 D3 hP hq => kk p ks H3 (but_free B2 D2 hp) (B2.trans B3) D3 hP hq⟩
    refine ⟨_, rfl, rfl, _, rfl, ite2 (fun c => ?_) (fun c => ?_)⟩
    · refine iteT ?_
      exact shuf B1 D1 k
    · refine ⟨_, rfl, Nat.zero_le _, fun e he => ?_⟩
      have se := Same.new (o := .lst []) he
      have hE : upd H1 e (.lst []) e = some (.lst []) := upd_same
      generalize upd H1 e (.lst []) = H2 at se hE ⊢
      have B2 := B1.trans (But.of se)
      have D2 := D1.same se
      have hT2 := se.seq hT1
      refine ⟨t, e, js, [], rfl, rfl, hT2, SqL.of hE, _, rfl, ite2 (fun c => ?_) (fun c => ?_)⟩
      · exact shuf B2 D2 k
      · have hne : js ≠ [] := fun z => c (decide_eq_true z)
        have hpos : 0 < js.length := List.length_pos_iff.mpr hne
        refine ⟨_, rfl, rfl, _, rfl, ite2 (fun c => ?_) (fun c => ?_)⟩
        · refine ⟨_, rfl, t, _, rfl, hT2, fun p hp => ?_⟩
          have sp := Same.new (o := .lst (js.map V.int).reverse) hp
          exact k p js.reverse _ (but_free B2 D2 hp) (B2.trans (But.of sp)) (D2.same sp) (by rw [upd_same, List.map_reverse]) (List.reverse_perm js)
        · refine ⟨_, rfl, rfl, _, rfl, ite2 (fun c => ?_) (fun c => ?_)⟩
          · refine ⟨_, rfl, 1, rfl, 2, rfl, t, _, rfl, hT2, by decide, fun p hp => ?_⟩
            have sp := Same.new (o := .lst (pickL (js.map V.int) (placesL (some 1) none (some 2) (js.map V.int).length))) hp
            have hP : upd H2 p (.lst (pickL (js.map V.int) (placesL (some 1) none (some 2) (js.map V.int).length))) p = some (.lst ((pickL js (placesL (some 1) none (some 2) js.length)).map V.int)) := by rw [upd_same, pickL_map, List.length_map]
            generalize upd H2 p (.lst (pickL (js.map V.int) (placesL (some 1) none (some 2) (js.map V.int).length))) = H3 at sp hP ⊢
            refine ⟨_, rfl, 2, rfl, t, _, rfl, sp.seq hT2, by decide, fun q hq => ?_⟩
            have sq := Same.new (o := .lst (pickL (js.map V.int) (placesL none none (some 2) (js.map V.int).length))) hq
            have hQ : upd H3 q (.lst (pickL (js.map V.int) (placesL none none (some 2) (js.map V.int).length))) q = some (.lst ((pickL js (placesL none none (some 2) js.length)).map V.int)) := by rw [upd_same, pickL_map, List.length_map]
            generalize upd H3 q (.lst (pickL (js.map V.int) (placesL none none (some 2) (js.map V.int).length))) = H4 at sq hQ ⊢
            have hPerm := pick_two hj
            have hpl := hPerm.length_eq
            rw [List.length_append] at hpl
            refine ⟨p, q, _, _, rfl, rfl, sq _ _ hP, hQ, by rw [List.length_map, List.length_map, h16]; omega, fun r hr2 => ?_⟩
            have sr := Same.new (o := .lst ((pickL js (placesL (some 1) none (some 2) js.length)).map V.int ++ (pickL js (placesL none none (some 2) js.length)).map V.int)) hr2
            exact k r _ _ (but_free (B2.trans (But.of (sp.trans sq))) (D2.same (sp.trans sq)) hr2) (B2.trans (But.of (sp.trans (sq.trans sr)))) (D2.same (sp.trans (sq.trans sr))) (by rw [upd_same, ← List.map_append]) hPerm
          · refine ⟨_, rfl, t, _, rfl, .inl hT2, fun l hl => ?_⟩
            have sl := Same.new (o := .lst (js.map V.int)) hl
            have hL : upd H2 l (.lst (js.map V.int)) l = some (.lst (js.map V.int)) := upd_same
            have hl0 : H l = none := but_free B2 D2 hl
            generalize upd H2 l (.lst (js.map V.int)) = H3 at sl hL ⊢
            have B3 := B2.trans (But.of sl)
            have D3 := D2.same sl
            have hT3 := sl.seq hT2
            refine ⟨_, rfl, _, rfl, t, _, rfl, .inl hT3, _, _, rfl, rfl, ⟨by decide, by decide⟩, _, _, rfl, rfl, d, _, rfl, D3, by omega, by rw [List.length_map]; omega, fun z H4 z0 z1 D4 B4 => ?_⟩
            obtain ⟨n, rfl⟩ : ∃ m : Nat, z = (m : Int) := ⟨z.toNat, by omega⟩
            refine ⟨(n : Int), rfl, by omega, by rw [List.length_map] at z1; omega, ?_⟩
            have hL4 := B4.lst D3 hL
            have B04 := B3.trans B4
            refine for_range (lo := 0) (n := ((n : Int)).toNat) (fun i σ H' => ∃ (v4 v5 : Option V) (ls : List Int), σ = [some (.ref d), some (.ref t), some (.int wy), some (.ref l), v4, v5] ∧ But d H H' ∧ DeckAt H' d ∧ H' l = some (.lst (ls.map V.int)) ∧ ls.Perm js)
              ⟨none, none, js, rfl, B04, D4, hL4, List.Perm.refl _⟩ ?_ ?_
            · rintro i σ H5 hi ⟨v4, v5, ls, rfl, B5, D5, hL5, hp5⟩
              have hl5 := hp5.length_eq
              refine ⟨_, rfl, .inl ⟨rfl, _, SqL.of hL5⟩, _, rfl, _, rfl, l, _, rfl, .inl (SqL.of hL5), d, _, rfl, D5, by rw [List.length_map]; omega, by rw [List.length_map]; omega, fun z H6 z0 z1 D6 B6 => ?_⟩
              rw [List.length_map] at z1
              obtain ⟨i, rfl⟩ : ∃ m : Nat, z = (m : Int) := ⟨z.toNat, by omega⟩
              have hi : i < ls.length := by omega
              have hL6 := B6.lst D5 hL5
              have hy : ls[i]? = some ls[i] := List.getElem?_eq_getElem hi
              refine ⟨l, _, _, i, .int ls[i], rfl, rfl, hL6, by omega, by omega, seqIndex_nat (by rw [List.length_map]; exact hi), by rw [List.getElem?_map, hy]; rfl, ?_⟩
              rw [erase_map]
              have B06 := B5.trans B6
              have n1 : d ≠ l := by
                obtain ⟨x, y, hd, _⟩ := D6
                exact (ne_of hL6 hd (nl _ _)).symm
              have upL : ∀ {H' : Hp} {o : HO}, But d H H' → But d H (upd H' l o) := fun {H' o} B b u hb e => by rw [upd_ne (ne_of_none e hl0)]; exact B b u hb e
              have upD : ∀ {H' : Hp} {o : HO}, DeckAt H' d → DeckAt (upd H' l o) d := fun {H' o} ⟨x, y, hd, rr⟩ => ⟨x, y, by rw [upd_ne n1]; exact hd, rr⟩
              have B7 : But d H (upd H6 l (.lst ((ls.eraseIdx i).map V.int))) := upL B06
              have D7 : DeckAt (upd H6 l (.lst ((ls.eraseIdx i).map V.int))) d := upD D6
              have hL7 : upd H6 l (.lst ((ls.eraseIdx i).map V.int)) l = some (.lst ((ls.eraseIdx i).map V.int)) := upd_same
              generalize upd H6 l (.lst ((ls.eraseIdx i).map V.int)) = H7 at B7 D7 hL7 ⊢
              have hel : (ls.eraseIdx i).length + 1 = ls.length := by rw [List.length_eraseIdx_of_lt hi]; omega
              refine ⟨_, rfl, .inl ⟨rfl, _, SqL.of hL7⟩, _, rfl, _, rfl, l, _, rfl, .inl (SqL.of hL7), _, _, rfl, rfl, d, _, rfl, D7, by rw [List.length_map]; omega, by rw [List.length_map]; omega, fun z H8 z0 z1 D8 B8 => ?_⟩
              rw [List.length_map] at z1
              have hL8 := B8.lst D7 hL7
              refine ⟨_, rfl, l, _, z, .int ls[i], rfl, rfl, hL8, by rw [List.length_map, h16]; omega, z0, by omega, ?_⟩
              refine ⟨_, _, (ls.eraseIdx i).take z.toNat ++ [ls[i]] ++ (ls.eraseIdx i).drop z.toNat, rfl, upL (B7.trans B8), upD D8, ?_, ?_⟩
              · rw [upd_same, List.map_append, List.map_append, List.map_take, List.map_drop]; rfl
              · exact (ins_perm _ _ _).trans ((L2.erase_perm ls i _ hy).trans hp5)
            · rintro σ H5 ⟨v4, v5, ls, rfl, B5, D5, hL5, hp5⟩
              exact ⟨_, rfl, k l ls H5 hl0 B5 D5 hL5 hp5⟩
end
/-! ### drawn weights -/
theorem put_pin (ps : List (Int × Int)) (x a : Int) : ∃ qs, putK (pinK ps) (.inl x : Key) (.int a) = pinK qs ∧ (∀ p ∈ qs, p ∈ ps ∨ p = (x, a)) ∧ qs.length ≤ ps.length + 1 ∧ ((ps.map Prod.fst).Nodup → (qs.map Prod.fst).Nodup) := by
  by_cases h : x ∈ ps.map Prod.fst
  · refine ⟨ps.map fun p => if p.1 = x then (x, a) else p, ?_, ?_, ?_, ?_⟩
    · have hv : ((pinK ps).any fun kv => decide (kv.1 = (.inl x : Key))) = true := by
        obtain ⟨p, hp, e⟩ := List.mem_map.mp h
        refine List.any_eq_true.mpr ⟨((.inl p.1 : Key), .int p.2), ?_, decide_eq_true (by rw [e])⟩
        unfold pinK
        exact List.mem_map.mpr ⟨p, hp, rfl⟩
      unfold putK
      rw [if_pos hv]
      unfold pinK
      rw [List.map_map, List.map_map]
      refine List.map_congr_left fun p hp => ?_
      by_cases e : p.1 = x
      · show (if (.inl p.1 : Key) = .inl x then ((.inl p.1 : Key), V.int a) else _) = _
        rw [if_pos (by rw [e])]
        show _ = ((.inl (if p.1 = x then (x, a) else p).1 : Key), V.int (if p.1 = x then (x, a) else p).2)
        rw [if_pos e, e]
      · show (if (.inl p.1 : Key) = .inl x then ((.inl p.1 : Key), V.int a) else _) = _
        rw [if_neg (by intro z; cases z; exact e rfl)]
        show _ = ((.inl (if p.1 = x then (x, a) else p).1 : Key), V.int (if p.1 = x then (x, a) else p).2)
        rw [if_neg e]
    · intro p hp
      obtain ⟨q, hq, e⟩ := List.mem_map.mp hp
      by_cases z : q.1 = x
      · rw [if_pos z] at e; exact .inr e.symm
      · rw [if_neg z] at e; exact .inl (e ▸ hq)
    · rw [List.length_map]; omega
    · intro nd
      have : (ps.map fun p => if p.1 = x then (x, a) else p).map Prod.fst = ps.map Prod.fst := by
        rw [List.map_map]
        refine List.map_congr_left fun p _ => ?_
        show (if p.1 = x then (x, a) else p).1 = p.1
        by_cases e : p.1 = x
        · rw [if_pos e, e]
        · rw [if_neg e]
      rw [this]; exact nd
  · refine ⟨ps ++ [(x, a)], pin_put h, fun p hp => ?_, by rw [List.length_append]; exact Nat.le_refl _, fun nd => ?_⟩
    · rcases List.mem_append.mp hp with e | e
      · exact .inl e
      · exact .inr (List.mem_singleton.mp e)
    · rw [List.map_append]
      refine List.nodup_append.mpr ⟨nd, by simp, ?_⟩
      intro u hu v hv e
      have : v = x := by simpa using hv
      exact h (this ▸ e ▸ hu)
/-- weights that the law draws -/
def LoadsP (ks : List Int) (n : Nat) (most : Int) (ws : List (Int × Int)) : Prop := (ws.map Prod.fst).Nodup ∧ ws.length ≤ n ∧ ∀ p ∈ ws, 1 ≤ p.2 ∧ p.2 ≤ most ∧ p.1 ∈ ks
theorem LoadsP.put {ks : List Int} {n : Nat} {most x a : Int} {ps : List (Int × Int)} (h : LoadsP ks n most ps) (hx : x ∈ ks) (h1 : 1 ≤ a) (h2 : a ≤ most) : ∃ qs, putK (pinK ps) (.inl x : Key) (.int a) = pinK qs ∧ LoadsP ks (n + 1) most qs := by
  obtain ⟨qs, e, q1, q2, q3⟩ := put_pin ps x a
  refine ⟨qs, e, q3 h.1, Nat.le_trans q2 (Nat.succ_le_succ h.2.1), fun p hp => ?_⟩
  rcases q1 p hp with z | z
  · exact h.2.2 p z
  · rw [z]; exact ⟨h1, h2, hx⟩
def LoadsO (ks : List Int) (n : Nat) (most : Int) (wo : Option (List (Int × Int))) : Prop := ∀ ws, wo = some ws → LoadsP ks n most ws
theorem LoadsO.wt {ks : List Int} {n : Nat} {most : Int} {wo : Option (List (Int × Int))} (h : LoadsO ks n most wo) (hm : 1 ≤ most) (x : Int) : 1 ≤ wtI wo x ∧ wtI wo x ≤ most := by
  cases wo with
  | none => exact ⟨Int.le_refl _, hm⟩
  | some ws =>
    show 1 ≤ (anOf ws x).getD 1 ∧ (anOf ws x).getD 1 ≤ most
    cases q : anOf ws x with
    | none => exact ⟨Int.le_refl _, hm⟩
    | some b => exact ⟨((h ws rfl).2.2 _ (an_mem q)).1, ((h ws rfl).2.2 _ (an_mem q)).2.1⟩
section
variable {P : Program} {w : World} {K : PySem.W.Frag} {mg : Str → Option Value} {base : Heap}
def spLoads (K : PySem.W.Frag) : Sp := fun vs H Q _ => ∃ (d t : Addr) (js : List Int) (most : Int), vs = [.ref d, .ref t, .int most] ∧ DeckAt H d ∧ H t = some (.lst (js.map V.int)) ∧ js.length < 300 ∧ 3 ≤ most ∧ most < 1000000 ∧
  ∀ (v : V) (wo : Option (List (Int × Int))) (H' : Hp), (∀ p, v = .ref p → H p = none) → But d H H' → DeckAt H' d → WtAt H' v wo → LoadsO (js ++ [1000000]) (js.length + 1) most wo → Q v H'
abbrev NLo : List Str := ["tape", "base", "most", "way", "found", "row_id"]
theorem scLoads : FnScope NLo ["tape", "base", "most"] (defScope sLoads) := ⟨rfl, rfl, rfl, by decide +kernel, rfl, by decide +kernel, by decide +kernel⟩
theorem ok_loads {f fD fC : Addr} {fd fdD fdC : FuncData} (F : Fun K "_law_loads" "_law_loads" sLoads f fd) (FD : Fun K "_law_pick" "_law_pick" sDraw fD fdD) (bD : L2.Binds K fdD ["tape", "size"] []) (mD : mg "_law_pick" = some (.ref fD))
    (GC : FnOk P w K mg base CX0 2 fC fdC ["tape", "items"] (spChoose K)) (kC : PySem.W.keepIn K (.ref fC) = true) (bC : L2.Binds K fdC ["tape", "items"] []) (mC : mg "_law_one_of" = some (.ref fC)) :
    FnOk P w K mg base CX0 3 f fd ["tape", "base", "most"] (spLoads K) := by
  have GD : FnOk P w K mg base CX0 1 fD fdD ["tape", "size"] spDraw := ok_draw FD
  refine F.ok scLoads (fun vs H Q E h => ?_) (fun cdv A outer s H vs Q E hr h => ?_)
  · obtain ⟨d, t, js, most, rfl, _⟩ := h
    rfl
  · obtain ⟨d, t, js, most, rfl, D, hT, hj, hm3, hm6, k⟩ := h
    have hu := hu_of hr
    have hr1 : Room 1 _ := hr.mono (by decide)
    refine ⟨_, pss_cons (ps_set (i := 3) scLoads.nd rfl (Or.inl rfl) (pe_call GD hr1 rfl mD FD.kp bD .nil pass0 (pa_cons (pv 0) (pa_cons pe_int pa_nil))))
      (pss_cons (ps_if (pt_cmpR op_eq (pv 3) pe_int (nomark _)) (pss_one (ps_ret pe_non)) pss_nil)
      (pss_cons (ps_set (i := 4) scLoads.nd rfl (Or.inl rfl) pe_dnewK)
      (pss_cons (ps_for PassesOwn.never rfl (pi_list (pe_op op_cat (pv 1) (pe_lst (pa_cons (pe_op op_pow pe_int pe_int) pa_nil)))) (pg_name (i := 5) scLoads.nd rfl (Or.inl rfl))
        (pss_one (ps_if (PW.pt (pw_or (pt_cmpR op_gt (pv 3) pe_int (nomark _)) (pw_or1 (pt_cmpR op_eq (pe_call GD hr1 rfl mD FD.kp bD .nil pass0 (pa_cons (pv 0) (pa_cons pe_int pa_nil))) pe_int (nomark _)))))
          (pss_one (ps_dput hu (pv 4) (pv 5) (pe_call GC hr rfl mC kC bC .nil pass0 (pa_cons (pv 0) (pa_cons (pe_lst
            (pa_cons (pe_op op_add pe_int (pe_call GD hr1 rfl mD FD.kp bD .nil pass0 (pa_cons (pv 0) (pa_cons pe_int pa_nil))))
            (pa_cons (pe_op op_add pe_int (pe_call GD hr1 rfl mD FD.kp bD .nil pass0 (pa_cons (pv 0) (pa_cons (pv 2) pa_nil))))
            (pa_cons (pv 2) pa_nil)))) pa_nil))) rfl)) pss_nil)))
      (pss_one (ps_ret (pv 4)))))), ?_⟩
    have h16 : sizeLine = 16777216 := sizeLine_eq
    refine ⟨_, rfl, d, _, rfl, D, by decide, by decide, fun wy H1 w0 w1 D1 B1 => ?_⟩
    have hT1 := B1.lst D hT
    refine ⟨_, rfl, rfl, _, rfl, ite2 (fun c => ?_) (fun c => ?_)⟩
    · exact k .non none H1 (fun p z => by cases z) B1 D1 (.inl ⟨rfl, rfl⟩) (fun ws z => by cases z)
    · refine fun q hq => ?_
      have s1 := Same.new (o := .dK []) hq
      have hQ : upd H1 q (.dK []) q = some (.dK (pinK [])) := upd_same
      have hq0 : H q = none := but_free B1 D1 hq
      generalize upd H1 q (.dK []) = H2 at s1 hQ ⊢
      have B2 := B1.trans (But.of s1)
      have D2 := D1.same s1
      have hT2 := s1 _ _ hT1
      refine ⟨_, rfl, _, _, rfl, rfl, ⟨by decide, by decide, by decide⟩, by rw [h16]; show 1 ≤ 16777216; decide, fun c hc => ?_⟩
      show rCat (V.ref t) (V.ref c) (upd H2 c (HO.lst [V.int (10 ^ (6 : Int).toNat)])) _
      rw [pow6]
      have s2 := Same.new (o := .lst [V.int 1000000]) hc
      have hC : upd H2 c (.lst [V.int 1000000]) c = some (.lst [V.int 1000000]) := upd_same
      have hc0 : H c = none := but_free B2 D2 hc
      generalize upd H2 c (.lst [V.int 1000000]) = H3 at s2 hC ⊢
      have hT3 := s2 _ _ hT2
      have hQ3 := s2 _ _ hQ
      have B3 := B2.trans (But.of s2)
      have D3 := D2.same s2
      refine ⟨t, c, _, _, rfl, rfl, hT3, hC, by rw [List.length_map, h16]; show _ + 1 ≤ _; omega, fun cc hcc => ?_⟩
      have ecat : js.map V.int ++ [V.int 1000000] = (js ++ [1000000]).map V.int := by rw [List.map_append]; rfl
      rw [ecat]
      have s3 := Same.new (o := .lst ((js ++ [1000000]).map V.int)) hcc
      have hCC : upd H3 cc (.lst ((js ++ [1000000]).map V.int)) cc = some (.lst ((js ++ [1000000]).map V.int)) := upd_same
      have hcc0 : H cc = none := but_free B3 D3 hcc
      have ncq : q ≠ cc := ne_of_none hQ3 hcc
      generalize upd H3 cc (.lst ((js ++ [1000000]).map V.int)) = H4 at s3 hCC ⊢
      have hQ4 := s3 _ _ hQ3
      have B4 := B3.trans (But.of s3)
      have D4 := D3.same s3
      have ndq : d ≠ q := by
        obtain ⟨x, y, hd, _⟩ := D4
        exact (ne_of hQ4 hd (nP _ _)).symm
      have upL : ∀ {H' : Hp} {o : HO}, But d H H' → But d H (upd H' q o) := fun {H' o} B b u hb e => by rw [upd_ne (ne_of_none e hq0)]; exact B b u hb e
      have upD : ∀ {H' : Hp} {o : HO}, DeckAt H' d → DeckAt (upd H' q o) d := fun {H' o} ⟨x, y, hd, rr⟩ => ⟨x, y, by rw [upd_ne ndq]; exact hd, rr⟩
      refine ⟨cc, rfl, ⟨_, SqL.of hCC⟩, for_list (K := K) (a := cc) (xs := (js ++ [1000000]).map V.int) (fun i σ H' => ∃ (v5 : Option V) (ws : List (Int × Int)), σ = [some (.ref d), some (.ref t), some (.int most), some (.int wy), some (.ref q), v5] ∧ But d H H' ∧ DeckAt H' d ∧ H' q = some (.dK (pinK ws)) ∧ H' cc = some (.lst ((js ++ [1000000]).map V.int)) ∧ LoadsP (js ++ [1000000]) i most ws ∧ i ≤ js.length + 1)
        ⟨none, [], rfl, B4, D4, hQ4, hCC, ⟨List.nodup_nil, Nat.le_refl _, fun p hp => by cases hp⟩, Nat.zero_le _⟩ (fun i σ H' _ ⟨_, _, _, _, _, _, h, _⟩ => SqL.of h) ?_ ?_⟩
      · rintro i y σ H5 hi ⟨v5, ws, rfl, B5, D5, hQ5, hC5, L5, hil⟩
        obtain ⟨x, hx, rfl⟩ := int_at (i := i) (by assumption)
        have hil2 : i < js.length + 1 := by
          have := (List.getElem?_eq_some_iff.mp hx).1
          rw [List.length_append] at this; exact this
        have hwl := L5.2.1
        -- the new weight
        have put : ∀ (Dn : Ends) (H6 : Hp), But d H H6 → DeckAt H6 d → H6 q = some (.dK (pinK ws)) → H6 cc = some (.lst ((js ++ [1000000]).map V.int)) →
            (∀ (H7 : Hp) (qs : List (Int × Int)), But d H H7 → DeckAt H7 d → H7 q = some (.dK (pinK qs)) → H7 cc = some (.lst ((js ++ [1000000]).map V.int)) → LoadsP (js ++ [1000000]) (i + 1) most qs → Dn.nx [some (.ref d), some (.ref t), some (.int most), some (.int wy), some (.ref q), some (.int x)] H7) →
            sDPut (tVar 4) (tVar 5) (tCall (spChoose K) [] E0 (tCons (tVar 0) (tCons (tLst (tCons (tOp (rI0 fun i j => V.int (i + j)) (tC (V.int 1)) (tCall spDraw [] E0 (tCons (tVar 0) (tCons (tC (V.int 3)) tNil)))) (tCons (tOp (rI0 fun i j => V.int (i + j)) (tC (V.int 1)) (tCall spDraw [] E0 (tCons (tVar 0) (tCons (tVar 2) tNil)))) (tCons (tVar 2) tNil)))) tNil))) Dn [some (.ref d), some (.ref t), some (.int most), some (.int wy), some (.ref q), some (.int x)] H6 := by
          intro Dn H6 B6 D6 hQ6 hC6 kk
          refine ⟨_, rfl, _, rfl, d, _, rfl, D6, by decide, by decide, fun r1 H7 r10 r11 D7 B7 => ⟨_, _, rfl, rfl, ?_⟩⟩
          refine ⟨_, rfl, _, rfl, d, _, rfl, D7, by omega, by omega, fun r2 H8 r20 r21 D8 B8 => ⟨_, _, rfl, rfl, ?_⟩⟩
          have hQ8 := B8 _ _ ndq.symm (B7 _ _ ndq.symm hQ6)
          have hC8 := B8.lst D7 (B7.lst D6 hC6)
          have B08 := (B6.trans B7).trans B8
          refine ⟨_, rfl, by rw [h16]; show 3 ≤ 16777216; decide, fun u hu2 => ?_⟩
          have su := Same.new (o := .lst [V.int (1 + r1), V.int (1 + r2), V.int most]) hu2
          have hU : upd H8 u (.lst [V.int (1 + r1), V.int (1 + r2), V.int most]) u = some (.lst [V.int (1 + r1), V.int (1 + r2), V.int most]) := upd_same
          show spChoose K [V.ref d, V.ref u] (upd H8 u (.lst [V.int (1 + r1), V.int (1 + r2), V.int most])) _ E0
          generalize upd H8 u (.lst [V.int (1 + r1), V.int (1 + r2), V.int most]) = H9 at su hU ⊢
          refine ⟨d, u, _, rfl, D8.same su, SqL.of hU, (fun z => by cases z), (by show 3 < 1000000; decide), fun v H10 hv D10 B10 => ?_⟩
          obtain ⟨a, rfl, a1, a2⟩ : ∃ a : Int, v = .int a ∧ 1 ≤ a ∧ a ≤ most := by
            rcases List.mem_cons.mp hv with e | hv
            · exact ⟨_, e, by omega, by omega⟩
            rcases List.mem_cons.mp hv with e | hv
            · exact ⟨_, e, by omega, by omega⟩
            rcases List.mem_cons.mp hv with e | hv
            · exact ⟨_, e, by omega, by omega⟩
            · cases hv
          have D9 := D8.same su
          have hQ10 := B10 _ _ ndq.symm (su _ _ hQ8)
          have hC10 := B10.lst D9 (su _ _ hC8)
          obtain ⟨qs, e, L6⟩ := L5.put (x := x) (List.mem_of_getElem? hx) a1 a2
          refine ⟨_, rfl, _, rfl, q, _, rfl, DPut.k (k := (.inl x : Key)) hQ10 (by rw [pin_len, h16]; omega), ?_⟩
          rw [e]
          exact kk _ qs (upL ((B08.trans (But.of su)).trans B10)) (upD D10) upd_same (by rw [upd_ne ncq.symm]; exact hC10) L6
        have L5' : LoadsP (js ++ [1000000]) (i + 1) most ws := ⟨L5.1, by omega, L5.2.2⟩
        refine ⟨_, rfl, _, _, rfl, rfl, _, rfl, ite2 (fun c => ?_) (fun c => ?_)⟩
        · refine iteT ?_
          exact put _ H5 B5 D5 hQ5 hC5 fun H7 qs B7 D7 hQ7 hC7 L7 => ⟨_, qs, rfl, B7, D7, hQ7, hC7, L7, hil2⟩
        · refine ⟨_, rfl, d, _, rfl, D5, by decide, by decide, fun r1 H6 r10 r11 D6 B6 => ?_⟩
          have hQ6 := B6 _ _ ndq.symm hQ5
          have hC6 := B6.lst D5 hC5
          refine ⟨rfl, _, rfl, ite2 (fun c => ?_) (fun c => ?_)⟩
          · exact put _ H6 (B5.trans B6) D6 hQ6 hC6 fun H7 qs B7 D7 hQ7 hC7 L7 => ⟨_, qs, rfl, B7, D7, hQ7, hC7, L7, hil2⟩
          · exact ⟨_, ws, rfl, B5.trans B6, D6, hQ6, hC6, L5', hil2⟩
      · rintro σ H5 ⟨v5, ws, rfl, B5, D5, hQ5, hC5, L5, _⟩
        rw [List.length_map, List.length_append] at L5
        exact ⟨_, rfl, k (.ref q) (some ws) H5 (fun p z => by cases z; exact hq0) B5 D5 (.inr ⟨q, ws, rfl, rfl, hQ5⟩) (fun us z => by cases z; exact L5)⟩
end
/-! ### favoured ids, a weight -/
structure TxtK (mg : Str → Option Value) : Prop where
  len : mg "len" = none
  tuple : mg "tuple" = none
section
variable {P : Program} {w : World} {K : PySem.W.Frag} {mg : Str → Option Value} {base : Heap}
def FavAt (K : PySem.W.Frag) (H : Hp) (p : Addr) (fav : List Int) : Prop := SqL K H p (fav.map V.int) ∨ SqT K H p (fav.map V.int)
def spLiked (K : PySem.W.Frag) : Sp := fun vs H Q _ => ∃ (d t : Addr) (js : List Int), vs = [.ref d, .ref t] ∧ DeckAt H d ∧ SqL K H t (js.map V.int) ∧ js.length < 300 ∧
  ∀ (p : Addr) (fav : List Int) (H' : Hp), H p = none → But d H H' → DeckAt H' d → (H' p = some (.lst (fav.map V.int)) ∨ H' p = some (.tup (fav.map V.int))) → fav.length ≤ js.length + 1 → (∀ x ∈ fav, x ∈ js ∨ x = 1000000) → Q (.ref p) H'
abbrev NLi : List Str := ["tape", "base", "found", "row_id"]
theorem scLiked : FnScope NLi ["tape", "base"] (defScope sLiked) := ⟨rfl, rfl, rfl, by decide +kernel, rfl, by decide +kernel, by decide +kernel⟩
theorem ok_liked {f fD fC : Addr} {fd fdD fdC : FuncData} (F : Fun K "_law_liked" "_law_liked" sLiked f fd) (T : TxtK mg) (FD : Fun K "_law_pick" "_law_pick" sDraw fD fdD) (bD : L2.Binds K fdD ["tape", "size"] []) (mD : mg "_law_pick" = some (.ref fD))
    (GC : FnOk P w K mg base CX0 2 fC fdC ["tape", "items"] (spChoose K)) (kC : PySem.W.keepIn K (.ref fC) = true) (bC : L2.Binds K fdC ["tape", "items"] []) (mC : mg "_law_one_of" = some (.ref fC)) :
    FnOk P w K mg base CX0 3 f fd ["tape", "base"] (spLiked K) := by
  have GD : FnOk P w K mg base CX0 1 fD fdD ["tape", "size"] spDraw := ok_draw FD
  refine F.ok scLiked (fun vs H Q E h => ?_) (fun cdv A outer s H vs Q E hr h => ?_)
  · obtain ⟨d, t, js, rfl, _⟩ := h
    rfl
  · obtain ⟨d, t, js, rfl, D, hT, hj, k⟩ := h
    have hr1 : Room 1 _ := hr.mono (by decide)
    refine ⟨_, pss_cons (ps_setLc (i := 2) (own := [("row_id", 3)]) (g := gName 3) rfl scLiked.nd rfl rfl rfl (pi_list (pv 1)) (blkOk_by (N := NLi) (sc := defScope sLiked) (by decide +kernel)) (fun _ _ _ _ _ => pg_name (i := 3) scLiked.nd rfl (Or.inl rfl))
        (fun _ _ _ _ _ => pts_one (pt_cmpR op_eq (pe_call GD hr1 rfl mD FD.kp bD .nil pass0 (pa_cons (pv 0) (pa_cons pe_int pa_nil))) pe_int (nomark _))) (fun _ _ _ _ _ => pv 3))
      (pss_cons (ps_expr (pe_bm PySem.F.plainAttrs_list PySem.F.slot_list_insert PySem.F.type_list_insert mt_insert (pv 2) (pa_cons (pe_call GD hr1 rfl mD FD.kp bD .nil pass0 (pa_cons (pv 0) (pa_cons (pe_op op_add (pe_callB call_len_seq (by rfl) T.len PySem.boot_len (pa_cons (pv 2) pa_nil)) pe_int) pa_nil))) (pa_cons (pe_op op_pow pe_int pe_int) pa_nil))))
      (pss_one (ps_ret (pe_call GC hr rfl mC kC bC .nil pass0 (pa_cons (pv 0) (pa_cons (pe_lst (pa_cons (pe_tup pa_nil) (pa_cons (pv 2) (pa_cons (pe_callTy call_tuple_of (by rfl) T.tuple (by decide +kernel) (pa_cons (pv 2) pa_nil)) pa_nil)))) pa_nil)))))), ?_⟩
    have h16 : sizeLine = 16777216 := sizeLine_eq
    refine ⟨_, rfl, t, rfl, ⟨_, hT⟩, fun r hr2 => ?_⟩
    have hr0 : H r = none := hr2
    have s0 := Same.new (o := .lst []) hr2
    have ndr : d ≠ r := by
      obtain ⟨x, y, hd, _⟩ := D
      exact ne_of_none hd hr2
    have upL : ∀ {H' : Hp} {o : HO}, But d H H' → But d H (upd H' r o) := fun {H' o} B b u hb e => by rw [upd_ne (ne_of_none e hr0)]; exact B b u hb e
    have upD : ∀ {H' : Hp} {o : HO}, DeckAt H' d → DeckAt (upd H' r o) d := fun {H' o} ⟨x, y, hd, rr⟩ => ⟨x, y, by rw [upd_ne ndr]; exact hd, rr⟩
    refine lc_list (K := K) (a := t) (xs := js.map V.int) (fun i H' => ∃ ls : List Int, But d H H' ∧ DeckAt H' d ∧ H' r = some (.lst (ls.map V.int)) ∧ ls.length ≤ i ∧ (∀ x ∈ ls, x ∈ js) ∧ i ≤ js.length) ⟨[], But.of s0, D.same s0, upd_same, Nat.le_refl _, (fun x hx => by cases hx), Nat.zero_le _⟩ (fun i H' _ ⟨_, B, _⟩ => B.seq D hT) ?_ ?_
    · rintro i y H1 hi ⟨ls, B1, D1, hR1, hll, hls, hil⟩
      obtain ⟨x, hx, rfl⟩ := int_at hi
      have hxm := List.mem_of_getElem? hx
      have hil2 : i < js.length := (List.getElem?_eq_some_iff.mp hx).1
      refine ⟨rfl, _, rfl, d, _, rfl, D1, by decide, by decide, fun z H2 z0 z1 D2 B2 => ?_⟩
      have hR2 := B2.lst D1 hR1
      refine ⟨rfl, _, rfl, ite2 (fun c => ?_) (fun c => ?_)⟩
      · refine ⟨_, rfl, _, hR2, by rw [List.length_map, h16]; omega, ls ++ [x], upL (B1.trans B2), upD D2, by rw [upd_same, List.map_append]; rfl, by rw [List.length_append]; show _ + 1 ≤ _; omega, fun u hu => ?_, hil2⟩
        rcases List.mem_append.mp hu with q | q
        · exact hls u q
        · rw [List.mem_singleton.mp q]; exact hxm
      · exact ⟨ls, B1.trans B2, D2, hR2, by omega, hls, hil2⟩
    · rintro H1 ⟨ls, B1, D1, hR1, hll, hls, _⟩
      rw [List.length_map] at hll
      have n1000 : 1000000 = (10 : Int) ^ (6 : Int).toNat := pow6.symm
      refine ⟨_, rfl, .inl ⟨rfl, _, SqL.of hR1⟩, _, rfl, _, rfl, r, _, rfl, .inl (SqL.of hR1), _, _, rfl, rfl, d, _, rfl, D1, by rw [List.length_map]; omega, by rw [List.length_map]; omega, fun z H2 z0 z1 D2 B2 => ?_⟩
      rw [List.length_map] at z1
      have hR2 := B2.lst D1 hR1
      refine ⟨_, _, rfl, rfl, ⟨by decide, by decide, by decide⟩, r, _, z, .int 1000000, rfl, (by show [V.int z, V.int (10 ^ (6 : Int).toNat)] = _; rw [pow6]), hR2, by rw [List.length_map, h16]; omega, z0, by omega, ?_⟩
      obtain ⟨fs, hfs⟩ : ∃ fs : List Int, fs = ls.take z.toNat ++ [1000000] ++ ls.drop z.toNat := ⟨_, rfl⟩
      have efs : (ls.map V.int).take z.toNat ++ [V.int 1000000] ++ (ls.map V.int).drop z.toNat = fs.map V.int := by rw [hfs, List.map_append, List.map_append, List.map_take, List.map_drop]; rfl
      rw [efs]
      have hper : fs.Perm (1000000 :: ls) := by rw [hfs]; exact ins_perm _ _ _
      have hfl : fs.length ≤ js.length + 1 := by rw [hper.length_eq, List.length_cons]; omega
      have hfm : ∀ x ∈ fs, x ∈ js ∨ x = 1000000 := fun x hx => by
        rcases List.mem_cons.mp (hper.mem_iff.mp hx) with e | e
        · exact .inr e
        · exact .inl (hls x e)
      have B3 : But d H (upd H2 r (.lst (fs.map V.int))) := upL (B1.trans B2)
      have D3 : DeckAt (upd H2 r (.lst (fs.map V.int))) d := upD D2
      have hR3 : upd H2 r (.lst (fs.map V.int)) r = some (.lst (fs.map V.int)) := upd_same
      generalize upd H2 r (.lst (fs.map V.int)) = H3 at B3 D3 hR3 ⊢
      refine ⟨_, rfl, Nat.zero_le _, fun e he => ?_⟩
      have he0 : H e = none := but_free B3 D3 he
      have s4 := Same.new (o := .tup []) he
      have hE : upd H3 e (.tup []) e = some (.tup []) := upd_same
      generalize upd H3 e (.tup []) = H4 at s4 hE ⊢
      have D4 := D3.same s4
      have hR4 := s4 _ _ hR3
      refine ⟨_, rfl, _, rfl, r, _, rfl, .inl ⟨SqL.of hR4, fun u hu => ?_⟩⟩
      have hu0 : H u = none := but_free (B3.trans (But.of s4)) D4 hu
      have s5 := Same.new (o := .tup (fs.map V.int)) hu
      have hU : upd H4 u (.tup (fs.map V.int)) u = some (.tup (fs.map V.int)) := upd_same
      generalize upd H4 u (.tup (fs.map V.int)) = H5 at s5 hU ⊢
      have D5 := D4.same s5
      refine ⟨by rw [h16]; show 3 ≤ 16777216; decide, fun l hl => ?_⟩
      have s6 := Same.new (o := .lst [V.ref e, V.ref r, V.ref u]) hl
      have hL : upd H5 l (.lst [V.ref e, V.ref r, V.ref u]) l = some (.lst [V.ref e, V.ref r, V.ref u]) := upd_same
      show spChoose K [V.ref d, V.ref l] (upd H5 l (.lst [V.ref e, V.ref r, V.ref u])) _ E0
      generalize upd H5 l (.lst [V.ref e, V.ref r, V.ref u]) = H6 at s6 hL ⊢
      have D6 := D5.same s6
      have s46 := s5.trans s6
      have B6 := B3.trans (But.of (s4.trans s46))
      refine ⟨d, l, _, rfl, D6, SqL.of hL, (fun z => by cases z), (by show 3 < 1000000; decide), fun v H7 hv D7 B7 => ?_⟩
      have B07 := B6.trans B7
      rcases List.mem_cons.mp hv with q | hv
      · subst q
        exact k e [] H7 he0 B07 D7 (.inr (B7.tup D6 (s46 _ _ hE))) (Nat.zero_le _) (fun x hx => by cases hx)
      rcases List.mem_cons.mp hv with q | hv
      · subst q
        exact k r fs H7 hr0 B07 D7 (.inl (B7.lst D6 (s46 _ _ hR4))) hfl hfm
      rcases List.mem_cons.mp hv with q | hv
      · subst q
        exact k u fs H7 hu0 B07 D7 (.inr (B7.tup D6 (s6 _ _ hU))) hfl hfm
      · cases hv
end
section
variable {P : Program} {w : World} {K : PySem.W.Frag} {mg : Str → Option Value} {base : Heap}
/-! ### a draw -/
def spDrawW : Sp := fun vs H Q _ => ∃ (d : Addr) (n : Int), vs = [.ref d, .int n] ∧ DeckAt H d ∧ 0 < n ∧ n < 2 ^ 200 ∧ ∀ (r : Int) (H' : Hp), 0 ≤ r → r < n → DeckAt H' d → But d H H' → Q (.int r) H'
theorem scDrawW : FnScope ["tape", "size", "found"] ["tape", "size"] (defScope sDraw) := ⟨rfl, rfl, rfl, by decide +kernel, rfl, by decide +kernel, by decide +kernel⟩
theorem ok_drawW {f : Addr} {fd : FuncData} (F : Fun K "_law_pick" "_law_pick" sDraw f fd) : FnOk P w K mg base CX0 1 f fd ["tape", "size"] spDrawW := by
  refine F.ok scDrawW (fun vs H Q E h => ?_) (fun cdv A outer s H vs Q E hr h => ?_)
  · obtain ⟨d, n, rfl, _⟩ := h
    rfl
  · obtain ⟨d, n, rfl, ⟨x, y, hd, x0, y0, y1⟩, n0, n1, k⟩ := h
    have hu := hu_of hr
    refine ⟨_, pss_cons (ps_if (pt_cmpR op_ge (pe_dget hu (pv 0) pe_str (fun _ _ => rfl)) (pv 1) (nomark _))
        (pss_cons (ps_set (i := 2) scDrawW.nd rfl (Or.inl rfl) (pe_op op_mod (pe_dget hu (pv 0) pe_str (fun _ _ => rfl)) (pv 1)))
        (pss_cons (ps_dput hu (pv 0) pe_str (pe_op op_fdivW (pe_dget hu (pv 0) pe_str (fun _ _ => rfl)) (pv 1)) rfl)
        (pss_one (ps_ret (pv 2))))) pss_nil)
      (pss_cons (ps_dput hu (pv 0) pe_str (pe_op op_mod (pe_op op_add (pe_op op_mul (pe_dget hu (pv 0) pe_str (fun _ _ => rfl)) pe_int) pe_int) pe_int) rfl)
      (pss_one (ps_ret (pe_op op_mod (pe_op op_fdiv (pe_op op_mod (pe_op op_pow (pe_op op_mod (pe_op op_pow (pe_dget hu (pv 0) pe_str (fun _ _ => rfl)) pe_int) pe_int) pe_int) pe_int) pe_int) (pv 1))))), ?_⟩
    have gx : ∀ {H : Hp} {x y : Int}, H d = some (.dK (dk x y)) → DGet H d (.str "digits") (some (.int x)) := fun {H x y} e => by
      have := DGet.k (k := Sum.inr "digits") e
      rw [dk_digits] at this
      exact this
    have gy : ∀ {H : Hp} {x y : Int}, H d = some (.dK (dk x y)) → DGet H d (.str "mixed") (some (.int y)) := fun {H x y} e => by
      have := DGet.k (k := Sum.inr "mixed") e
      rw [dk_mixed] at this
      exact this
    have px : ∀ {H : Hp} {x y z : Int}, H d = some (.dK (dk x y)) → DPut H d (.str "digits") (.int z) (upd H d (.dK (dk z y))) := fun {H x y z} e => by
      have := DPut.k (k := Sum.inr "digits") (v := .int z) e (by show 2 < sizeLine; decide)
      rw [dk_put_digits] at this
      exact this
    have py : ∀ {H : Hp} {x y z : Int}, H d = some (.dK (dk x y)) → DPut H d (.str "mixed") (.int z) (upd H d (.dK (dk x z))) := fun {H x y z} e => by
      have := DPut.k (k := Sum.inr "mixed") (v := .int z) e (by show 2 < sizeLine; decide)
      rw [dk_put_mixed] at this
      exact this
    refine ⟨_, rfl, d, _, rfl, gx hd, _, rfl, _, _, rfl, rfl, _, rfl, ?_⟩
    refine ite2 (fun c => ?_) (fun c => ?_)
    · refine ⟨_, rfl, d, _, rfl, gx hd, _, rfl, _, _, rfl, rfl, n0, ?_⟩
      refine ⟨_, rfl, d, _, rfl, gx hd, _, rfl, _, _, rfl, rfl, wide_div (b := 200) n0 (by omega) (by decide) (by decide), _, rfl, d, _, rfl, px hd, ?_⟩
      exact ⟨_, rfl, k _ _ (Int.emod_nonneg _ (by omega)) (Int.emod_lt_of_pos _ n0) ⟨_, y, upd_same, Int.ediv_nonneg x0 (by omega), y0, y1⟩ But.upd⟩
    · have m0 := Int.emod_nonneg (y * 40014 + 1013) (b := 2147483563) (by decide)
      have m1 := Int.emod_lt_of_pos (y * 40014 + 1013) (b := 2147483563) (by decide)
      refine ⟨_, rfl, d, _, rfl, gy hd, _, _, rfl, rfl, .inr ⟨by decide, by decide⟩, _, _, rfl, rfl, _, _, rfl, rfl, (by show (0 : Int) < 2147483563; decide), _, rfl, d, _, rfl, py hd, ?_⟩
      refine ⟨_, rfl, d, _, rfl, gy upd_same, _, _, rfl, rfl, ⟨by decide, by decide, by omega⟩, _, _, rfl, rfl, (by show (0 : Int) < 2147483399; decide), ?_⟩
      have q0 := Int.emod_nonneg (((y * 40014 + 1013) % 2147483563) ^ (2 : Int).toNat) (b := 2147483399) (by decide)
      have q1 := Int.emod_lt_of_pos (((y * 40014 + 1013) % 2147483563) ^ (2 : Int).toNat) (b := 2147483399) (by decide)
      refine ⟨_, _, rfl, rfl, ⟨by decide, by decide, by omega⟩, _, _, rfl, rfl, (by show (0 : Int) < 998244353; decide), _, _, rfl, rfl, ⟨by decide, by decide⟩, _, rfl, _, _, rfl, rfl, n0, ?_⟩
      exact k _ _ (Int.emod_nonneg _ (by omega)) (Int.emod_lt_of_pos _ n0) ⟨x, _, upd_same, x0, m0, by omega⟩ But.upd
end
section
variable {P : Program} {w : World} {K : PySem.W.Frag} {mg : Str → Option Value} {base : Heap}
theorem p60 {n : Int} (h : n < 10 ^ 60) : n < 2 ^ 200 := Int.lt_trans h (by decide)
def spLoadsW (K : PySem.W.Frag) : Sp := fun vs H Q _ => ∃ (d t : Addr) (js : List Int) (most : Int), vs = [.ref d, .ref t, .int most] ∧ DeckAt H d ∧ H t = some (.lst (js.map V.int)) ∧ js.length < 300 ∧ 3 ≤ most ∧ most < 10 ^ 60 ∧
  ∀ (v : V) (wo : Option (List (Int × Int))) (H' : Hp), (∀ p, v = .ref p → H p = none) → But d H H' → DeckAt H' d → WtAt H' v wo → LoadsO (js ++ [1000000]) (js.length + 1) most wo → Q v H'
abbrev NLoW : List Str := ["tape", "base", "most", "way", "found", "row_id"]
theorem scLoadsW : FnScope NLoW ["tape", "base", "most"] (defScope sLoads) := ⟨rfl, rfl, rfl, by decide +kernel, rfl, by decide +kernel, by decide +kernel⟩
theorem ok_loadsW {f fD fC : Addr} {fd fdD fdC : FuncData} (F : Fun K "_law_loads" "_law_loads" sLoads f fd) (FD : Fun K "_law_pick" "_law_pick" sDraw fD fdD) (bD : L2.Binds K fdD ["tape", "size"] []) (mD : mg "_law_pick" = some (.ref fD))
    (GC : FnOk P w K mg base CX0 2 fC fdC ["tape", "items"] (spChoose K)) (kC : PySem.W.keepIn K (.ref fC) = true) (bC : L2.Binds K fdC ["tape", "items"] []) (mC : mg "_law_one_of" = some (.ref fC)) :
    FnOk P w K mg base CX0 3 f fd ["tape", "base", "most"] (spLoadsW K) := by
  have GD : FnOk P w K mg base CX0 1 fD fdD ["tape", "size"] spDrawW := ok_drawW FD
  refine F.ok scLoadsW (fun vs H Q E h => ?_) (fun cdv A outer s H vs Q E hr h => ?_)
  · obtain ⟨d, t, js, most, rfl, _⟩ := h
    rfl
  · obtain ⟨d, t, js, most, rfl, D, hT, hj, hm3, hm6, k⟩ := h
    have hu := hu_of hr
    have hr1 : Room 1 _ := hr.mono (by decide)
    refine ⟨_, pss_cons (ps_set (i := 3) scLoadsW.nd rfl (Or.inl rfl) (pe_call GD hr1 rfl mD FD.kp bD .nil pass0 (pa_cons (pv 0) (pa_cons pe_int pa_nil))))
      (pss_cons (ps_if (pt_cmpR op_eq (pv 3) pe_int (nomark _)) (pss_one (ps_ret pe_non)) pss_nil)
      (pss_cons (ps_set (i := 4) scLoadsW.nd rfl (Or.inl rfl) pe_dnewK)
      (pss_cons (ps_for PassesOwn.never rfl (pi_list (pe_op op_cat (pv 1) (pe_lst (pa_cons (pe_op op_pow pe_int pe_int) pa_nil)))) (pg_name (i := 5) scLoadsW.nd rfl (Or.inl rfl))
        (pss_one (ps_if (PW.pt (pw_or (pt_cmpR op_gt (pv 3) pe_int (nomark _)) (pw_or1 (pt_cmpR op_eq (pe_call GD hr1 rfl mD FD.kp bD .nil pass0 (pa_cons (pv 0) (pa_cons pe_int pa_nil))) pe_int (nomark _)))))
          (pss_one (ps_dput hu (pv 4) (pv 5) (pe_call GC hr rfl mC kC bC .nil pass0 (pa_cons (pv 0) (pa_cons (pe_lst
            (pa_cons (pe_op op_add pe_int (pe_call GD hr1 rfl mD FD.kp bD .nil pass0 (pa_cons (pv 0) (pa_cons pe_int pa_nil))))
            (pa_cons (pe_op op_add pe_int (pe_call GD hr1 rfl mD FD.kp bD .nil pass0 (pa_cons (pv 0) (pa_cons (pv 2) pa_nil))))
            (pa_cons (pv 2) pa_nil)))) pa_nil))) rfl)) pss_nil)))
      (pss_one (ps_ret (pv 4)))))), ?_⟩
    have h16 : sizeLine = 16777216 := sizeLine_eq
    refine ⟨_, rfl, d, _, rfl, D, by decide, by decide, fun wy H1 w0 w1 D1 B1 => ?_⟩
    have hT1 := B1.lst D hT
    refine ⟨_, rfl, rfl, _, rfl, ite2 (fun c => ?_) (fun c => ?_)⟩
    · exact k .non none H1 (fun p z => by cases z) B1 D1 (.inl ⟨rfl, rfl⟩) (fun ws z => by cases z)
    · refine fun q hq => ?_
      have s1 := Same.new (o := .dK []) hq
      have hQ : upd H1 q (.dK []) q = some (.dK (pinK [])) := upd_same
      have hq0 : H q = none := but_free B1 D1 hq
      generalize upd H1 q (.dK []) = H2 at s1 hQ ⊢
      have B2 := B1.trans (But.of s1)
      have D2 := D1.same s1
      have hT2 := s1 _ _ hT1
      refine ⟨_, rfl, _, _, rfl, rfl, ⟨by decide, by decide, by decide⟩, by rw [h16]; show 1 ≤ 16777216; decide, fun c hc => ?_⟩
      show rCat (V.ref t) (V.ref c) (upd H2 c (HO.lst [V.int (10 ^ (6 : Int).toNat)])) _
      rw [pow6]
      have s2 := Same.new (o := .lst [V.int 1000000]) hc
      have hC : upd H2 c (.lst [V.int 1000000]) c = some (.lst [V.int 1000000]) := upd_same
      have hc0 : H c = none := but_free B2 D2 hc
      generalize upd H2 c (.lst [V.int 1000000]) = H3 at s2 hC ⊢
      have hT3 := s2 _ _ hT2
      have hQ3 := s2 _ _ hQ
      have B3 := B2.trans (But.of s2)
      have D3 := D2.same s2
      refine ⟨t, c, _, _, rfl, rfl, hT3, hC, by rw [List.length_map, h16]; show _ + 1 ≤ _; omega, fun cc hcc => ?_⟩
      have ecat : js.map V.int ++ [V.int 1000000] = (js ++ [1000000]).map V.int := by rw [List.map_append]; rfl
      rw [ecat]
      have s3 := Same.new (o := .lst ((js ++ [1000000]).map V.int)) hcc
      have hCC : upd H3 cc (.lst ((js ++ [1000000]).map V.int)) cc = some (.lst ((js ++ [1000000]).map V.int)) := upd_same
      have hcc0 : H cc = none := but_free B3 D3 hcc
      have ncq : q ≠ cc := ne_of_none hQ3 hcc
      generalize upd H3 cc (.lst ((js ++ [1000000]).map V.int)) = H4 at s3 hCC ⊢
      have hQ4 := s3 _ _ hQ3
      have B4 := B3.trans (But.of s3)
      have D4 := D3.same s3
      have ndq : d ≠ q := by
        obtain ⟨x, y, hd, _⟩ := D4
        exact (ne_of hQ4 hd (nP _ _)).symm
      have upL : ∀ {H' : Hp} {o : HO}, But d H H' → But d H (upd H' q o) := fun {H' o} B b u hb e => by rw [upd_ne (ne_of_none e hq0)]; exact B b u hb e
      have upD : ∀ {H' : Hp} {o : HO}, DeckAt H' d → DeckAt (upd H' q o) d := fun {H' o} ⟨x, y, hd, rr⟩ => ⟨x, y, by rw [upd_ne ndq]; exact hd, rr⟩
      refine ⟨cc, rfl, ⟨_, SqL.of hCC⟩, for_list (K := K) (a := cc) (xs := (js ++ [1000000]).map V.int) (fun i σ H' => ∃ (v5 : Option V) (ws : List (Int × Int)), σ = [some (.ref d), some (.ref t), some (.int most), some (.int wy), some (.ref q), v5] ∧ But d H H' ∧ DeckAt H' d ∧ H' q = some (.dK (pinK ws)) ∧ H' cc = some (.lst ((js ++ [1000000]).map V.int)) ∧ LoadsP (js ++ [1000000]) i most ws ∧ i ≤ js.length + 1)
        ⟨none, [], rfl, B4, D4, hQ4, hCC, ⟨List.nodup_nil, Nat.le_refl _, fun p hp => by cases hp⟩, Nat.zero_le _⟩ (fun i σ H' _ ⟨_, _, _, _, _, _, h, _⟩ => SqL.of h) ?_ ?_⟩
      · rintro i y σ H5 hi ⟨v5, ws, rfl, B5, D5, hQ5, hC5, L5, hil⟩
        obtain ⟨x, hx, rfl⟩ := int_at (i := i) (by assumption)
        have hil2 : i < js.length + 1 := by
          have := (List.getElem?_eq_some_iff.mp hx).1
          rw [List.length_append] at this; exact this
        have hwl := L5.2.1
        -- the new weight
        have put : ∀ (Dn : Ends) (H6 : Hp), But d H H6 → DeckAt H6 d → H6 q = some (.dK (pinK ws)) → H6 cc = some (.lst ((js ++ [1000000]).map V.int)) →
            (∀ (H7 : Hp) (qs : List (Int × Int)), But d H H7 → DeckAt H7 d → H7 q = some (.dK (pinK qs)) → H7 cc = some (.lst ((js ++ [1000000]).map V.int)) → LoadsP (js ++ [1000000]) (i + 1) most qs → Dn.nx [some (.ref d), some (.ref t), some (.int most), some (.int wy), some (.ref q), some (.int x)] H7) →
            sDPut (tVar 4) (tVar 5) (tCall (spChoose K) [] E0 (tCons (tVar 0) (tCons (tLst (tCons (tOp (rI0 fun i j => V.int (i + j)) (tC (V.int 1)) (tCall spDrawW [] E0 (tCons (tVar 0) (tCons (tC (V.int 3)) tNil)))) (tCons (tOp (rI0 fun i j => V.int (i + j)) (tC (V.int 1)) (tCall spDrawW [] E0 (tCons (tVar 0) (tCons (tVar 2) tNil)))) (tCons (tVar 2) tNil)))) tNil))) Dn [some (.ref d), some (.ref t), some (.int most), some (.int wy), some (.ref q), some (.int x)] H6 := by
          intro Dn H6 B6 D6 hQ6 hC6 kk
          refine ⟨_, rfl, _, rfl, d, _, rfl, D6, by decide, by decide, fun r1 H7 r10 r11 D7 B7 => ⟨_, _, rfl, rfl, ?_⟩⟩
          refine ⟨_, rfl, _, rfl, d, _, rfl, D7, by omega, p60 hm6, fun r2 H8 r20 r21 D8 B8 => ⟨_, _, rfl, rfl, ?_⟩⟩
          have hQ8 := B8 _ _ ndq.symm (B7 _ _ ndq.symm hQ6)
          have hC8 := B8.lst D7 (B7.lst D6 hC6)
          have B08 := (B6.trans B7).trans B8
          refine ⟨_, rfl, by rw [h16]; show 3 ≤ 16777216; decide, fun u hu2 => ?_⟩
          have su := Same.new (o := .lst [V.int (1 + r1), V.int (1 + r2), V.int most]) hu2
          have hU : upd H8 u (.lst [V.int (1 + r1), V.int (1 + r2), V.int most]) u = some (.lst [V.int (1 + r1), V.int (1 + r2), V.int most]) := upd_same
          show spChoose K [V.ref d, V.ref u] (upd H8 u (.lst [V.int (1 + r1), V.int (1 + r2), V.int most])) _ E0
          generalize upd H8 u (.lst [V.int (1 + r1), V.int (1 + r2), V.int most]) = H9 at su hU ⊢
          refine ⟨d, u, _, rfl, D8.same su, SqL.of hU, (fun z => by cases z), (by show 3 < 1000000; decide), fun v H10 hv D10 B10 => ?_⟩
          obtain ⟨a, rfl, a1, a2⟩ : ∃ a : Int, v = .int a ∧ 1 ≤ a ∧ a ≤ most := by
            rcases List.mem_cons.mp hv with e | hv
            · exact ⟨_, e, by omega, by omega⟩
            rcases List.mem_cons.mp hv with e | hv
            · exact ⟨_, e, by omega, by omega⟩
            rcases List.mem_cons.mp hv with e | hv
            · exact ⟨_, e, by omega, by omega⟩
            · cases hv
          have D9 := D8.same su
          have hQ10 := B10 _ _ ndq.symm (su _ _ hQ8)
          have hC10 := B10.lst D9 (su _ _ hC8)
          obtain ⟨qs, e, L6⟩ := L5.put (x := x) (List.mem_of_getElem? hx) a1 a2
          refine ⟨_, rfl, _, rfl, q, _, rfl, DPut.k (k := (.inl x : Key)) hQ10 (by rw [pin_len, h16]; omega), ?_⟩
          rw [e]
          exact kk _ qs (upL ((B08.trans (But.of su)).trans B10)) (upD D10) upd_same (by rw [upd_ne ncq.symm]; exact hC10) L6
        have L5' : LoadsP (js ++ [1000000]) (i + 1) most ws := ⟨L5.1, by omega, L5.2.2⟩
        refine ⟨_, rfl, _, _, rfl, rfl, _, rfl, ite2 (fun c => ?_) (fun c => ?_)⟩
        · refine iteT ?_
          exact put _ H5 B5 D5 hQ5 hC5 fun H7 qs B7 D7 hQ7 hC7 L7 => ⟨_, qs, rfl, B7, D7, hQ7, hC7, L7, hil2⟩
        · refine ⟨_, rfl, d, _, rfl, D5, by decide, by decide, fun r1 H6 r10 r11 D6 B6 => ?_⟩
          have hQ6 := B6 _ _ ndq.symm hQ5
          have hC6 := B6.lst D5 hC5
          refine ⟨rfl, _, rfl, ite2 (fun c => ?_) (fun c => ?_)⟩
          · exact put _ H6 (B5.trans B6) D6 hQ6 hC6 fun H7 qs B7 D7 hQ7 hC7 L7 => ⟨_, qs, rfl, B7, D7, hQ7, hC7, L7, hil2⟩
          · exact ⟨_, ws, rfl, B5.trans B6, D6, hQ6, hC6, L5', hil2⟩
      · rintro σ H5 ⟨v5, ws, rfl, B5, D5, hQ5, hC5, L5, _⟩
        rw [List.length_map, List.length_append] at L5
        exact ⟨_, rfl, k (.ref q) (some ws) H5 (fun p z => by cases z; exact hq0) B5 D5 (.inr ⟨q, ws, rfl, rfl, hQ5⟩) (fun us z => by cases z; exact L5)⟩
end
/-! ### the heap without one address -/
def er (H : Hp) (p : Addr) : Hp := fun b => if b = p then none else H b
theorem er_at {H : Hp} {p b : Addr} {o : HO} (h : H b = some o) (n : b ≠ p) : er H p b = some o := by
  unfold er
  rw [if_neg n]; exact h
theorem er_le {H : Hp} {p : Addr} : Same (er H p) H := fun b o e => by
  unfold er at e
  by_cases n : b = p
  · rw [if_pos n] at e; cases e
  · rw [if_neg n] at e; exact e
theorem er_same {H H' : Hp} {p : Addr} (s : Same H H') : Same (er H p) (er H' p) := fun b o e => by
  unfold er at e ⊢
  by_cases n : b = p
  · rw [if_pos n] at e; cases e
  · rw [if_neg n] at e ⊢; exact s b o e
theorem er_upd {H : Hp} {p : Addr} {o : HO} : er (upd H p o) p = er H p := by
  funext b
  unfold er
  by_cases n : b = p
  · rw [if_pos n, if_pos n]
  · rw [if_neg n, if_neg n, upd_ne n]
theorem er_upd_ne {H : Hp} {p q : Addr} {o : HO} (n : q ≠ p) : er (upd H q o) p = upd (er H p) q o := by
  funext b
  unfold er
  by_cases h : b = q
  · subst h
    rw [if_neg n, upd_same, upd_same]
  · rw [upd_ne h, upd_ne h]
theorem er_of {Hz H : Hp} {p : Addr} (s : Same Hz H) (hz : Hz p = none) : Same Hz (er H p) := fun b o e => er_at (s b o e) (ne_of_none e hz)
/-! ### pairs of values with the same data, dicts among them -/
structure RokP (d : PyData) : Prop where
  o : okW d = true
  dep : d.depth ≤ 40
  sz : szW d ≤ 1000000
/-- repr of any value with data -/
def rReprP (K : PySem.W.Frag) : List V → Hp → VK → Prop := fun xs H Q => ∃ (v : V) (d : PyData), xs = [v] ∧ DW K H v d ∧ RokP d ∧ Q (.str d.shown) H
theorem call_reprP {X : Cx} (hg : X.A.guards = some []) (hu : X.A.units + 64 < cLine) : CallR X (.builtin "repr") (rReprP X.K) := by
  intro pins s σ H xs us Q I r h
  obtain ⟨v, d, rfl, hd, ok, q⟩ := h
  have hok := ok.o
  have hl : d.shown.length ≤ sizeLine := by
    have := shown_leW d hok
    have := ok.sz
    rw [sizeLine_eq]
    omega
  have byRef : ∀ a : Addr, v = .ref a → wpAny (model X.prog X.w) X.A (call (.builtin "repr") us) (fun u s' => ∃ x H', L2.Inv X pins σ H' s' ∧ RelV x u ∧ Q x H') X.xe s := by
    rintro a rfl
    exact call_reprW hg hu pins s σ H [.ref a] us Q I r ⟨a, d, rfl, hd, ok.o, ok.dep, ok.sz, q⟩
  obtain ⟨u, rfl, ru⟩ : ∃ u, us = [u] ∧ RelV v u := by
    cases r with
    | cons r1 r2 => cases r2; exact ⟨_, rfl, r1⟩
  cases hd with
  | non =>
    have r' : u = Value.none := ru
    subst r'
    rw [PyData.shown] at q
    exact PySem.P.repr_of_none ⟨.str _, H, I.tok _, ⟨_, rfl⟩, q⟩
  | bl b =>
    have r' : u = Value.bool b := ru
    subst r'
    rw [PyData.shown] at q
    exact PySem.P.repr_of_bool ⟨.str _, H, I.tok _, ⟨_, rfl⟩, q⟩
  | int i =>
    obtain ⟨t, rfl⟩ := ru
    rw [okW] at hok
    have := log_of (of_decide_eq_true hok)
    rw [PyData.shown] at q
    exact PySem.P.repr_of_int (by omega) ⟨.str _, H, I.tok _, ⟨_, rfl⟩, q⟩
  | str x =>
    obtain ⟨t, rfl⟩ := ru
    rw [PyData.shown] at q hl
    exact PySem.P.repr_of_str ⟨.str _, H, I.tok _, ⟨_, rfl⟩, q⟩ hl
  | lst h t => exact byRef _ rfl
  | tup h t => exact byRef _ rfl
  | dic h t1 t2 => exact byRef _ rfl
theorem call_reprPK {X : Cx} {K : PySem.W.Frag} (h : X.K = K) (hg : X.A.guards = some []) (hu : X.A.units + 64 < cLine) : CallR X (.builtin "repr") (rReprP K) := by
  subst h
  exact call_reprP hg hu
mutual
theorem DW.same {K : PySem.W.Frag} {H H' : Hp} (s : Same H H') : ∀ {v : V} {d : PyData}, DW K H v d → DW K H' v d
  | _, _, .non => .non
  | _, _, .bl b => .bl b
  | _, _, .int i => .int i
  | _, _, .str x => .str x
  | _, _, .lst h t => .lst (Same.sq s h) (DWs.same s t)
  | _, _, .tup h t => .tup (Same.tq s h) (DWs.same s t)
  | _, _, .dic h t u => .dic (s _ _ h) (DWs.same s t) (DWs.same s u)
theorem DWs.same {K : PySem.W.Frag} {H H' : Hp} (s : Same H H') : ∀ {vs : List V} {ds : List PyData}, DWs K H vs ds → DWs K H' vs ds
  | _, _, .nil => .nil
  | _, _, .cons h t => .cons (DW.same s h) (DWs.same s t)
end
theorem er_none {H : Hp} {p : Addr} (h : H p = none) : er H p = H := by
  funext b
  unfold er
  by_cases n : b = p
  · rw [if_pos n, n, h]
  · rw [if_neg n]
/-- a pair of two values with the same data -/
def PairAtW (K : PySem.W.Frag) (H : Hp) (x : V) : Prop := ∃ (T : Addr) (v1 v2 : V) (d : PyData), x = .ref T ∧ SqT K H T [v1, v2] ∧ DW K H v1 d ∧ DW K H v2 d ∧ RokP d
theorem PairAtW.same {K : PySem.W.Frag} {H H' : Hp} {x : V} (h : PairAtW K H x) (s : Same H H') : PairAtW K H' x := by
  obtain ⟨T, v1, v2, d, e, h1, h2, h3, h4⟩ := h
  exact ⟨T, v1, v2, d, e, Same.tq s h1, h2.same s, h3.same s, h4⟩
def PairsW (K : PySem.W.Frag) (H : Hp) (p : Addr) (n : Nat) : Prop := ∃ xs : List V, H p = some (.lst xs) ∧ xs.length = n ∧ ∀ x ∈ xs, PairAtW K (er H p) x
section
variable {K : PySem.W.Frag} {H H' Hz : Hp} {p : Addr} {n : Nat}
theorem PairsW.same (R : PairsW K H p n) (s : Same H H') : PairsW K H' p n := by
  obtain ⟨xs, h1, h2, h3⟩ := R
  exact ⟨xs, s _ _ h1, h2, fun x hx => (h3 x hx).same (er_same s)⟩
theorem PairsW.ne (R : PairsW K H p n) {q : Addr} (h : H q = none) : q ≠ p := by
  obtain ⟨xs, h1, _⟩ := R
  exact (ne_of_none h1 h).symm
theorem PairsW.ne2 (R : PairsW K H p n) {q : Addr} {o : HO} (h : H q = some o) (ho : ∀ xs, o ≠ .lst xs) : q ≠ p := by
  obtain ⟨xs, h1, _⟩ := R
  exact ne_of h h1 (ho xs)
theorem PairsW.start {T : Addr} {v1 v2 : V} {d : PyData} (hT : H T = some (.tup [v1, v2])) (hp : H p = none) (h1 : DW K H v1 d) (h2 : DW K H v2 d) (ok : RokP d) : PairsW K (upd H p (.lst [.ref T])) p 1 :=
  ⟨_, upd_same, rfl, fun x hx => by
    rw [List.mem_singleton.mp hx, er_upd, er_none hp]
    exact ⟨T, v1, v2, d, rfl, SqT.of hT, h1, h2, ok⟩⟩
theorem PairsW.nil (hp : H p = none) : PairsW K (upd H p (.lst [])) p 0 := ⟨_, upd_same, rfl, fun x hx => by cases hx⟩
/-- one pair more, whose tuple has just been made at T -/
theorem PairsW.push {T : Addr} {v1 v2 : V} {d : PyData} (zpr : Hz p = none) (sz : Same Hz H) (R : PairsW K H p n) (hT : H T = none) (h1 : DW K (er H p) v1 d) (h2 : DW K (er H p) v2 d) (ok : RokP d) (hn : n < 1000) :
    ∃ (xs : List V) (H3 : Hp), H3 = upd (upd H T (.tup [v1, v2])) p (.lst (xs ++ [.ref T])) ∧ (upd H T (.tup [v1, v2])) p = some (.lst xs) ∧ xs.length < sizeLine ∧ Same Hz H3 ∧ PairsW K H3 p (n + 1) := by
  have s1 := Same.new (o := .tup [v1, v2]) hT
  have hne := R.ne hT
  obtain ⟨xs, q1, q2, q3⟩ := R.same s1
  refine ⟨xs, _, rfl, q1, by rw [q2, sizeLine_eq]; omega, fun b u e => ?_, xs ++ [.ref T], upd_same, by rw [List.length_append, q2]; rfl, fun x hx => ?_⟩
  · rw [upd_ne (ne_of_none e zpr)]
    exact s1 _ _ (sz _ _ e)
  · rw [er_upd]
    rcases List.mem_append.mp hx with hx | hx
    · exact q3 x hx
    · rw [List.mem_singleton.mp hx]
      exact ⟨T, v1, v2, d, rfl, SqT.of (er_at upd_same hne), h1.same (er_same s1), h2.same (er_same s1), ok⟩
end
/-! ### orders, weights and favoured ids as data -/
theorem WtAt.but {d : Addr} {H H' : Hp} {v : V} {wo : Option (List (Int × Int))} (D : DeckAt H d) (B : But d H H') (h : WtAt H v wo) : WtAt H' v wo := by
  rcases h with h | ⟨p, ws, h1, h2, h3⟩
  · exact .inl h
  · obtain ⟨x, y, hd, _⟩ := D
    exact .inr ⟨p, ws, h1, h2, B _ _ (ne_of h3 hd (nP _ _)) h3⟩
structure RokL (d : PyData) : Prop where
  o : okW d = true
  dep : d.depth ≤ 5
  sz : szW d ≤ 200000
theorem rokL_list {ids : List Int} (hI : ∀ z ∈ ids, 0 ≤ z ∧ z ≤ 1000000) (hl : ids.length ≤ 300) : RokL (.list (ids.map .int)) := by
  obtain ⟨o1, o2⟩ := ints_okW ids hI
  refine ⟨by rw [okW]; exact o1, by rw [PyData.depth, PySem.W.depth_ints]; decide, by rw [szW, o2]; omega⟩
theorem rokL_tup {ids : List Int} (hI : ∀ z ∈ ids, 0 ≤ z ∧ z ≤ 1000000) (hl : ids.length ≤ 300) : RokL (.tuple (ids.map .int)) := by
  obtain ⟨o1, o2⟩ := ints_okW ids hI
  refine ⟨by rw [okW]; exact o1, by rw [PyData.depth, PySem.W.depth_ints]; decide, by rw [szW, o2]; omega⟩
/-- orders, weights and favoured ids as data -/
theorem four_dw {K : PySem.W.Frag} {H : Hp} {l g fv : Addr} {v : V} {wo : Option (List (Int × Int))} {js ids fav ks : List Int} {n : Nat} {most : Int} (hl : H l = some (.lst (js.map V.int))) (hg : H g = some (.lst (ids.map V.int))) (hw : WtAt H v wo)
    (hf : H fv = some (.lst (fav.map V.int)) ∨ H fv = some (.tup (fav.map V.int))) (bj : ∀ z ∈ js, 0 ≤ z ∧ z ≤ 1000000) (bi : ∀ z ∈ ids, 0 ≤ z ∧ z ≤ 1000000) (bf : ∀ z ∈ fav, 0 ≤ z ∧ z ≤ 1000000) (nj : js.length ≤ 300) (ni : ids.length ≤ 300) (nf : fav.length ≤ 300)
    (hL : LoadsO ks n most wo) (bk : ∀ z ∈ ks, 0 ≤ z ∧ z ≤ 1000000) (hn : n ≤ 300) (hm : most ≤ 1000000) :
    ∃ d : PyData, (okW d = true ∧ d.depth ≤ 40 ∧ szW d ≤ 1000000) ∧ ∀ (H' : Hp) (T : Addr), Same H H' → H' T = some (.tup [.ref l, .ref g, v, .ref fv]) → DW K H' (.ref T) d := by
  obtain ⟨wd, w1, w2⟩ : ∃ wd : PyData, RokL wd ∧ ∀ H', Same H H' → DW K H' v wd := by
    rcases hw with ⟨rfl, _⟩ | ⟨p, ws, rfl, rfl, hp⟩
    · exact ⟨.none, ⟨by rw [okW], by rw [PyData.depth]; decide, by rw [szW]; decide⟩, fun H' _ => .non⟩
    · have L := hL ws rfl
      obtain ⟨p1, p2, p3⟩ := pins_okW ws fun e he => ⟨bk _ (L.2.2 e he).2.2, by have := (L.2.2 e he).1; omega, by have := (L.2.2 e he).2.1; omega⟩
      have := L.2.1
      exact ⟨.dict (pinD ws), ⟨by rw [okW]; exact p1, by rw [PyData.depth, p3]; decide, by rw [szW, p2]; omega⟩, fun H' s => pin_dw (s _ _ hp)⟩
  obtain ⟨fd, f1, f2⟩ : ∃ fd : PyData, RokL fd ∧ ∀ H', Same H H' → DW K H' (.ref fv) fd := by
    rcases hf with hf | hf
    · exact ⟨_, rokL_list bf nf, fun H' s => .lst (SqL.of (s _ _ hf)) (DWs.ints _)⟩
    · exact ⟨_, rokL_tup bf nf, fun H' s => .tup (SqT.of (s _ _ hf)) (DWs.ints _)⟩
  have r1 := rokL_list bj nj
  have r2 := rokL_list bi ni
  refine ⟨.tuple [.list (js.map .int), .list (ids.map .int), wd, fd], ⟨?_, ?_, ?_⟩, fun H' T s hT => .tup (SqT.of hT) (.cons (.lst (SqL.of (s _ _ hl)) (DWs.ints _)) (.cons (.lst (SqL.of (s _ _ hg)) (DWs.ints _)) (.cons (w2 _ s) (.cons (f2 _ s) .nil))))⟩
  · rw [okW, okWs, okWs, okWs, okWs, okWs, r1.o, r2.o, w1.o, f1.o]; rfl
  · have a := r1.dep
    have b := r2.dep
    have c := w1.dep
    have e := f1.dep
    rw [PyData.depth, PyData.depthAll, PyData.depthAll, PyData.depthAll, PyData.depthAll, PyData.depthAll]
    omega
  · have a := r1.sz
    have b := r2.sz
    have c := w1.sz
    have e := f1.sz
    rw [szW, szWs, szWs, szWs, szWs, szWs]
    omega
/-- the same, the favoured ids in a list anywhere -/
theorem four_dwS {K : PySem.W.Frag} {H : Hp} {l g : Addr} {v : V} {wo : Option (List (Int × Int))} {js ids fav ks : List Int} {n : Nat} {most : Int} (hl : H l = some (.lst (js.map V.int))) (hg : H g = some (.lst (ids.map V.int))) (hw : WtAt H v wo)
    (bj : ∀ z ∈ js, 0 ≤ z ∧ z ≤ 1000000) (bi : ∀ z ∈ ids, 0 ≤ z ∧ z ≤ 1000000) (bf : ∀ z ∈ fav, 0 ≤ z ∧ z ≤ 1000000) (nj : js.length ≤ 300) (ni : ids.length ≤ 300) (nf : fav.length ≤ 300)
    (hL : LoadsO ks n most wo) (bk : ∀ z ∈ ks, 0 ≤ z ∧ z ≤ 1000000) (hn : n ≤ 300) (hm : most ≤ 1000000) :
    ∃ d : PyData, (okW d = true ∧ d.depth ≤ 40 ∧ szW d ≤ 1000000) ∧ ∀ (H' : Hp) (T fv : Addr), Same H H' → H' fv = some (.lst (fav.map V.int)) → H' T = some (.tup [.ref l, .ref g, v, .ref fv]) → DW K H' (.ref T) d := by
  obtain ⟨wd, w1, w2⟩ : ∃ wd : PyData, RokL wd ∧ ∀ H', Same H H' → DW K H' v wd := by
    rcases hw with ⟨rfl, _⟩ | ⟨p, ws, rfl, rfl, hp⟩
    · exact ⟨.none, ⟨by rw [okW], by rw [PyData.depth]; decide, by rw [szW]; decide⟩, fun H' _ => .non⟩
    · have L := hL ws rfl
      obtain ⟨p1, p2, p3⟩ := pins_okW ws fun e he => ⟨bk _ (L.2.2 e he).2.2, by have := (L.2.2 e he).1; omega, by have := (L.2.2 e he).2.1; omega⟩
      have := L.2.1
      exact ⟨.dict (pinD ws), ⟨by rw [okW]; exact p1, by rw [PyData.depth, p3]; decide, by rw [szW, p2]; omega⟩, fun H' s => pin_dw (s _ _ hp)⟩
  have f1 := rokL_list bf nf
  have r1 := rokL_list bj nj
  have r2 := rokL_list bi ni
  refine ⟨.tuple [.list (js.map .int), .list (ids.map .int), wd, .list (fav.map .int)], ⟨?_, ?_, ?_⟩, fun H' T fv s hF hT => .tup (SqT.of hT) (.cons (.lst (SqL.of (s _ _ hl)) (DWs.ints _)) (.cons (.lst (SqL.of (s _ _ hg)) (DWs.ints _)) (.cons (w2 _ s) (.cons (.lst (SqL.of hF) (DWs.ints _)) .nil))))⟩
  · rw [okW, okWs, okWs, okWs, okWs, okWs, r1.o, r2.o, w1.o, f1.o]; rfl
  · have a := r1.dep
    have b := r2.dep
    have c := w1.dep
    have e := f1.dep
    rw [PyData.depth, PyData.depthAll, PyData.depthAll, PyData.depthAll, PyData.depthAll, PyData.depthAll]
    omega
  · have a := r1.sz
    have b := r2.sz
    have c := w1.sz
    have e := f1.sz
    rw [szW, szWs, szWs, szWs, szWs, szWs]
    omega
structure TxtL (mg : Str → Option Value) : Prop where
  range : mg "range" = none
  max : mg "max" = none
  min : mg "min" = none
  repr : mg "repr" = none
theorem rokP_l11 {ids : List Int} (hI : ∀ z ∈ ids, 0 ≤ z ∧ z ≤ 1000000) (hl : ids.length ≤ 1000) : RokP (.list (ids.map .int)) := by
  obtain ⟨o1, o2⟩ := ints_okW ids hI
  refine ⟨by rw [okW]; exact o1, by rw [PyData.depth, PySem.W.depth_ints]; decide, by rw [szW, o2]; omega⟩
section
variable {P : Program} {w : World} {K : PySem.W.Frag} {mg : Str → Option Value} {base : Heap}
def spLaw (K : PySem.W.Frag) : Sp := fun vs H Q _ => ∃ (a : Addr) (ns : List Int), vs = [.ref a] ∧ SqL K H a (ns.map V.int) ∧ ns.length ≤ 63 ∧ (∀ z ∈ ns, Builtin.Int.intBits z ≤ 1048576) ∧ ∀ H', Q (.bl true) H'
abbrev NL : List Str := ["script", "start", "tape", "size", "base", "turn", "goal", "loads", "liked", "expected"]
theorem scLaw : FnScope NL ["script"] (defScope sLaw) := ⟨rfl, rfl, rfl, by decide +kernel, rfl, by decide +kernel, by decide +kernel⟩
abbrev Wq : List Str := ["base", "goal", "weights", "favoured"]
theorem ok_law {f fDe fDr fI fG fLo fC fLi fX fB eT : Addr} {fd fdDe fdDr fdI fdG fdLo fdC fdLi fdX fdB : FuncData} (F : Fun K "law" "law" sLaw f fd) (TD : TxtD mg) (TL : TxtL mg)
    (De : Fn K mg "_law_tape" sDeck ["script", "start"] fDe fdDe) (Dr : Fn K mg "_law_pick" sDraw ["tape", "size"] fDr fdDr) (Id : Fn K mg "_law_ids" sIds ["tape", "size"] fI fdI) (GI : FnOk P w K mg base CX0 3 fI fdI ["tape", "size"] spIds)
    (Go : Fn K mg "_law_goal" sGoal ["tape", "base"] fG fdG) (GG : FnOk P w K mg base CX0 3 fG fdG ["tape", "base"] (spGoal K))
    (Lo : Fn K mg "_law_loads" sLoads ["tape", "base", "most"] fLo fdLo) (GLo : FnOk P w K mg base CX0 3 fLo fdLo ["tape", "base", "most"] (spLoadsW K))
    (Ch : Fn K mg "_law_one_of" sChoose ["tape", "items"] fC fdC) (GC : FnOk P w K mg base CX0 2 fC fdC ["tape", "items"] (spChoose K))
    (Li : Fn K mg "_law_liked" sLiked ["tape", "base"] fLi fdLi) (GLi : FnOk P w K mg base CX0 3 fLi fdLi ["tape", "base"] (spLiked K))
    (Xp : Fn K mg "_law_expected" sExpected ["base", "goal", "loads", "liked"] fX fdX) (GX : FnOk P w K mg base CX0 3 fX fdX ["base", "goal", "loads", "liked"] (spExp K))
    (Be : FnD P w K mg base 3 2 "best_straight" Wq ["weights", "favoured"] [.non, .ref eT] (spBest K) fB fdB) : FnG P w K mg base 6 f fd ["script"] (spLaw K) := by
  have GDe : FnOk P w K mg base CX0 1 fDe fdDe ["script", "start"] (spDeck K) := ok_deck De.F TD
  have GDr : FnOk P w K mg base CX0 1 fDr fdDr ["tape", "size"] spDraw := ok_draw Dr.F
  refine FnG.mk' F scLaw (fun vs H Q E h => ?_) (fun cdv A outer s H vs Q E hg hr h => ?_)
  · obtain ⟨a, ns, rfl, _⟩ := h
    rfl
  · obtain ⟨a, ns, rfl, hS, hlen, hbits, k⟩ := h
    have hr1 : Room 1 _ := hr.mono (by decide)
    have hr2 : Room 2 _ := hr.mono (by decide)
    have hr3 : Room 3 _ := hr.mono (by decide)
    have h64 := hu64 hr
    have hu := hu_of hr
    refine ⟨_, pss_cons (ps_for PassesOwn.never rfl (pi_range1 rfl TL.range (pa_cons (pe_callB (call_max2 rfl) (by rfl) TL.max (by decide +kernel) (pa_cons pe_int (pa_cons (pe_callB (call_min2 rfl) (by rfl) TL.min (by decide +kernel)
          (pa_cons pe_int (pa_cons (pe_callB call_len_seq (by rfl) TD.len PySem.boot_len (pa_cons (pv 0) pa_nil)) pa_nil))) pa_nil))) pa_nil)) (pg_name (i := 1) scLaw.nd rfl (Or.inl rfl))
        (pss_cons (ps_set (i := 2) scLaw.nd rfl (Or.inl rfl) (pe_call GDe hr1 rfl De.m De.F.kp De.b .nil pass0 (pa_cons (pv 0) (pa_cons (pv 1) pa_nil))))
        (pss_cons (ps_set (i := 3) scLaw.nd rfl (Or.inl rfl) (pe_op op_add pe_int (pe_call GDr hr1 rfl Dr.m Dr.F.kp Dr.b .nil pass0 (pa_cons (pv 2) (pa_cons pe_int pa_nil)))))
        (pss_cons (ps_if (pt_cmpR op_eq (pv 1) pe_int (nomark _)) (pss_one (ps_set (i := 3) scLaw.nd rfl (Or.inl rfl) pe_int)) pss_nil)
        (pss_cons (ps_set (i := 4) scLaw.nd rfl (Or.inl rfl) (pe_call GI hr3 rfl Id.m Id.F.kp Id.b .nil pass0 (pa_cons (pv 2) (pa_cons (pv 3) pa_nil))))
        (pss_one (ps_for PassesOwn.never rfl (pi_range1 rfl TL.range (pa_cons pe_int pa_nil)) (pg_name (i := 5) scLaw.nd rfl (Or.inl rfl))
          (pss_cons (ps_set (i := 6) scLaw.nd rfl (Or.inl rfl) (pe_call GG hr3 rfl Go.m Go.F.kp Go.b .nil pass0 (pa_cons (pv 2) (pa_cons (pv 4) pa_nil))))
          (pss_cons (ps_par (i := 7) (j := 8) (by rfl) scLaw.nd rfl rfl (by decide) rfl rfl (pa_cons (pe_call GLo hr3 rfl Lo.m Lo.F.kp Lo.b .nil pass0 (pa_cons (pv 2) (pa_cons (pv 4) (pa_cons (pe_call GC hr2 rfl Ch.m Ch.F.kp Ch.b .nil pass0 (pa_cons (pv 2) (pa_cons (pe_lst (pa_cons pe_int (pa_cons (pe_op op_powG pe_int pe_int) pa_nil))) pa_nil))) pa_nil)))) (pa_cons (pe_call GLi hr3 rfl Li.m Li.F.kp Li.b .nil pass0 (pa_cons (pv 2) (pa_cons (pv 4) pa_nil))) pa_nil)) (by rfl))
          (pss_cons (ps_set (i := 9) scLaw.nd rfl (Or.inl rfl) (pe_call GX hr3 rfl Xp.m Xp.F.kp Xp.b .nil pass0 (pa_cons (pv 4) (pa_cons (pv 6) (pa_cons (pv 7) (pa_cons (pv 8) pa_nil))))))
          (pss_one (ps_if (pt_cmpR op_ne (pe_callB (call_reprP hg h64) (by rfl) TL.repr (by decide +kernel) (pa_cons (pe_callN Be.G hr3 rfl Be.m Be.kp Be.b pass0 (pa_cons (pv 4) (pa_cons (pv 6) pa_nil)) (pk_cons (pv 7) (pk_cons (pv 8) pk_nil))) pa_nil))
              (pe_callB (call_reprP hg h64) (by rfl) TL.repr (by decide +kernel) (pa_cons (pv 9) pa_nil)) (nomark _)) (pss_one (ps_ret pe_bl)) pss_nil))))))))))))
      (pss_one (ps_ret pe_bl)), ?_⟩
    have h16 : sizeLine = 16777216 := sizeLine_eq
    obtain ⟨J, hJ, hJ0, hJ6⟩ : ∃ J : Int, J = (if (if (((ns.map V.int).length : Nat) : Int) < 3 then (((ns.map V.int).length : Nat) : Int) else 3) > 1 then (if (((ns.map V.int).length : Nat) : Int) < 3 then (((ns.map V.int).length : Nat) : Int) else 3) else 1) ∧ 0 ≤ J ∧ J ≤ 3 := by
      refine ⟨_, rfl, ?_, ?_⟩
      · split <;> split <;> omega
      · split <;> split <;> omega
    refine ⟨_, rfl, a, _, rfl, .inl hS, _, _, rfl, _, _, rfl, J, by rw [hJ], by omega, by omega, ?_⟩
    refine for_range (lo := 0) (n := J.toNat) (fun i σ H' => (∃ v1 v2 v3 v4 v5 v6 v7 v8 v9 : Option V, σ = [some (.ref a), v1, v2, v3, v4, v5, v6, v7, v8, v9]) ∧ Same H H')
      ⟨⟨none, none, none, none, none, none, none, none, none, rfl⟩, Same.refl H⟩ ?_ ?_
    · rintro st σ H0 hst ⟨⟨v1, v2, v3, v4, v5, v6, v7, v8, v9, rfl⟩, s0⟩
      refine ⟨_, rfl, _, rfl, a, ns, _, rfl, Same.sq s0 hS, hlen, hbits, by omega, by omega, fun d Hd hd sd D => ?_⟩
      have hHd : H d = none := Same.free s0 hd
      have sd0 : Same H Hd := s0.trans sd
      refine ⟨_, rfl, d, 33, rfl, D, by decide, by decide, fun r1 H2 r10 r11 D2 B2 => ?_⟩
      obtain ⟨m1, rfl⟩ : ∃ m : Nat, r1 = (m : Int) := ⟨r1.toNat, by omega⟩
      refine ⟨_, _, rfl, rfl, ?_⟩
      have F2 : Fs d Hd [] H2 := (Fs.start D).step D2 B2
      refine ⟨_, rfl, rfl, _, rfl, ?_⟩
      refine ite2 (fun c => ⟨_, rfl, ?_⟩) (fun c => ?_)
      · refine ⟨_, rfl, d, 60, rfl, D2, by omega, fun l js H3 hl B3 D3 hL hjl hI => ?_⟩
        have F3 : Fs d Hd [(l, .lst (js.map V.int))] H3 := (F2.step D3 B3).add hL nl
        have hj8 : js.length ≤ 60 := by omega
        refine ⟨2, rfl, by decide, by decide, ?_⟩
        refine for_range (lo := 0) (n := 2) (fun i σ H' => (∃ v3 v5 v6 v7 v8 v9 : Option V, σ = [some (.ref a), some (.int (0 + (st : Int))), some (.ref d), v3, some (.ref l), v5, v6, v7, v8, v9]) ∧ Fs d Hd [(l, .lst (js.map V.int))] H')
          ⟨⟨_, _, _, _, _, _, rfl⟩, F3⟩ ?_ ?_
        · rintro tu σ H3b htu ⟨⟨v3, v5, v6, v7, v8, v9, rfl⟩, F3⟩
          refine ⟨_, rfl, _, rfl, d, l, js, rfl, F3.deck, SqL.of F3.g0, by omega, fun g ids H4 hg0 B4 D4 hG hper => ?_⟩
          have F4 := (F3.step D4 B4).add hG nl
          refine ⟨_, rfl, _, rfl, _, rfl, _, _, rfl, rfl, ⟨by decide, by decide⟩, by rw [h16]; show 2 ≤ 16777216; decide, fun u hu2 => ?_⟩
          have F5 := F4.same (Same.new (o := .lst [V.int 100, V.int (10 ^ 59)]) hu2)
          have hU : upd H4 u (.lst [V.int 100, V.int (10 ^ 59)]) u = some (.lst [V.int 100, V.int (10 ^ 59)]) := upd_same
          refine ⟨d, u, [V.int 100, V.int (10 ^ 59)], rfl, F5.deck, SqL.of hU, (fun z => by cases z), (by show 2 < 1000000; decide), fun mv H5 hv D5 B5 => ?_⟩
          obtain ⟨most, rfl, hm1, hm2⟩ : ∃ a : Int, mv = .int a ∧ 3 ≤ a ∧ a < 10 ^ 60 := by
            rcases List.mem_cons.mp hv with e | hv
            · exact ⟨_, e, by decide, by decide⟩
            rcases List.mem_cons.mp hv with e | hv
            · exact ⟨_, e, by decide, by decide⟩
            · cases hv
          have F6 := F5.step D5 B5
          refine ⟨d, l, js, most, rfl, F6.deck, F6.g1, by omega, hm1, hm2, fun v wo H6 hv0 B6 D6 hW hLo => ?_⟩
          have F7 := F6.step D6 B6
          have hil : ids.length = js.length := hper.length_eq
          have hIn : ∀ x ∈ ids, x ∈ js := fun x hx => hper.mem_iff.mp hx
          have ndI : ids.Nodup := hper.nodup_iff.mpr hI.1
          have hwt := fun x => hLo.wt (by omega) x
          have hwb : ∀ x ∈ ids, (wtI wo x).natAbs < 2 ^ 300 := fun x _ => by
            obtain ⟨w1, w2⟩ := hwt x
            have h300 : (10 : Int) ^ 60 < 2 ^ 300 := by decide
            have : wtI wo x < 2 ^ 300 := by omega
            have e3 : ((2 : Nat) ^ 300 : Nat) = ((2 : Int) ^ 300).toNat := by decide
            rw [e3]
            omega
          have hP : P11 js ids wo := ⟨hI.1, hj8, hper, fun x => (hwt x).1⟩
          -- favoured
          refine ⟨_, rfl, _, rfl, d, l, js, rfl, F7.deck, SqL.of F7.g1, by omega, fun fv fav H9 hfv0 B9 D9 hFv hfl hfm => ?_⟩
          have F9 := F7.step D9 B9
          have hW9 : WtAt H9 v wo := hW.but F7.deck B9
          have hFv9 : SqL K H9 fv (fav.map V.int) ∨ SqT K H9 fv (fav.map V.int) := hFv.imp (fun q => SqL.of q) (fun q => SqT.of q)
          obtain ⟨best, hbest⟩ : ∃ best, best = bestF js ids (worthI wo ids.length fav) := ⟨_, rfl⟩
          have hbs : best.Sublist ids := by rw [hbest]; exact (best_main hI.1 ndI hIn (fun x _ => hP.wp fav x)).1
          have hbR : RokP (.list (best.map .int)) := rokP_l11 (fun z hz => by have := hI.2 z (hIn z (hbs.subset hz)); omega) (by have := hbs.length_le; omega)
          refine ⟨_, _, rfl, ?_⟩
          -- the slow way
          refine ⟨_, rfl, _, rfl, _, rfl, _, rfl, l, g, fv, v, js, ids, fav, wo, rfl, SqL.of F9.g1, SqL.of F9.g0, hW9, hFv9, hP, fun ex H10 s10 hex hEX => ?_⟩
          rw [← hbest] at hEX
          have F10 := F9.same s10
          refine ⟨_, rfl, _, rfl, _, rfl, _, rfl, rfl, rfl, l, g, fv, v, js, ids, fav, wo, rfl, SqL.of F10.g1, SqL.of F10.g0, hW9.same s10, hFv9.imp (fun q => s10.seq q) (fun q => Same.tq s10 q), by omega, hI.1, by omega, ndI, by omega, hIn, hwb, fun fr H11 s11 hfr hFR => ?_⟩
          rw [← hbest] at hFR
          refine ⟨.ref fr, _, rfl, .lst (SqL.of hFR) (DWs.ints _), hbR, _, rfl, .ref ex, _, rfl, .lst (SqL.of (s11 _ _ hEX)) (DWs.ints _), hbR, rfl, _, rfl, iteNS rfl ?_⟩
          exact ⟨⟨_, _, _, _, _, _, rfl⟩, (F10.same s11).tail⟩
        · rintro σ H1 ⟨⟨v3, v5, v6, v7, v8, v9, rfl⟩, F1⟩
          exact ⟨⟨_, _, _, _, _, _, _, _, _, rfl⟩, F1.old hHd sd0⟩
      · refine ⟨_, rfl, _, rfl, d, 8 + m1, by congr 2, D2, by omega, fun l js H3 hl B3 D3 hL hjl hI => ?_⟩
        have F3 : Fs d Hd [(l, .lst (js.map V.int))] H3 := (F2.step D3 B3).add hL nl
        have hj8 : js.length ≤ 60 := by omega
        refine ⟨2, rfl, by decide, by decide, ?_⟩
        refine for_range (lo := 0) (n := 2) (fun i σ H' => (∃ v3 v5 v6 v7 v8 v9 : Option V, σ = [some (.ref a), some (.int (0 + (st : Int))), some (.ref d), v3, some (.ref l), v5, v6, v7, v8, v9]) ∧ Fs d Hd [(l, .lst (js.map V.int))] H')
          ⟨⟨_, _, _, _, _, _, rfl⟩, F3⟩ ?_ ?_
        · rintro tu σ H3b htu ⟨⟨v3, v5, v6, v7, v8, v9, rfl⟩, F3⟩
          refine ⟨_, rfl, _, rfl, d, l, js, rfl, F3.deck, SqL.of F3.g0, by omega, fun g ids H4 hg0 B4 D4 hG hper => ?_⟩
          have F4 := (F3.step D4 B4).add hG nl
          refine ⟨_, rfl, _, rfl, _, rfl, _, _, rfl, rfl, ⟨by decide, by decide⟩, by rw [h16]; show 2 ≤ 16777216; decide, fun u hu2 => ?_⟩
          have F5 := F4.same (Same.new (o := .lst [V.int 100, V.int (10 ^ 59)]) hu2)
          have hU : upd H4 u (.lst [V.int 100, V.int (10 ^ 59)]) u = some (.lst [V.int 100, V.int (10 ^ 59)]) := upd_same
          refine ⟨d, u, [V.int 100, V.int (10 ^ 59)], rfl, F5.deck, SqL.of hU, (fun z => by cases z), (by show 2 < 1000000; decide), fun mv H5 hv D5 B5 => ?_⟩
          obtain ⟨most, rfl, hm1, hm2⟩ : ∃ a : Int, mv = .int a ∧ 3 ≤ a ∧ a < 10 ^ 60 := by
            rcases List.mem_cons.mp hv with e | hv
            · exact ⟨_, e, by decide, by decide⟩
            rcases List.mem_cons.mp hv with e | hv
            · exact ⟨_, e, by decide, by decide⟩
            · cases hv
          have F6 := F5.step D5 B5
          refine ⟨d, l, js, most, rfl, F6.deck, F6.g1, by omega, hm1, hm2, fun v wo H6 hv0 B6 D6 hW hLo => ?_⟩
          have F7 := F6.step D6 B6
          have hil : ids.length = js.length := hper.length_eq
          have hIn : ∀ x ∈ ids, x ∈ js := fun x hx => hper.mem_iff.mp hx
          have ndI : ids.Nodup := hper.nodup_iff.mpr hI.1
          have hwt := fun x => hLo.wt (by omega) x
          have hwb : ∀ x ∈ ids, (wtI wo x).natAbs < 2 ^ 300 := fun x _ => by
            obtain ⟨w1, w2⟩ := hwt x
            have h300 : (10 : Int) ^ 60 < 2 ^ 300 := by decide
            have : wtI wo x < 2 ^ 300 := by omega
            have e3 : ((2 : Nat) ^ 300 : Nat) = ((2 : Int) ^ 300).toNat := by decide
            rw [e3]
            omega
          have hP : P11 js ids wo := ⟨hI.1, hj8, hper, fun x => (hwt x).1⟩
          -- favoured
          refine ⟨_, rfl, _, rfl, d, l, js, rfl, F7.deck, SqL.of F7.g1, by omega, fun fv fav H9 hfv0 B9 D9 hFv hfl hfm => ?_⟩
          have F9 := F7.step D9 B9
          have hW9 : WtAt H9 v wo := hW.but F7.deck B9
          have hFv9 : SqL K H9 fv (fav.map V.int) ∨ SqT K H9 fv (fav.map V.int) := hFv.imp (fun q => SqL.of q) (fun q => SqT.of q)
          obtain ⟨best, hbest⟩ : ∃ best, best = bestF js ids (worthI wo ids.length fav) := ⟨_, rfl⟩
          have hbs : best.Sublist ids := by rw [hbest]; exact (best_main hI.1 ndI hIn (fun x _ => hP.wp fav x)).1
          have hbR : RokP (.list (best.map .int)) := rokP_l11 (fun z hz => by have := hI.2 z (hIn z (hbs.subset hz)); omega) (by have := hbs.length_le; omega)
          refine ⟨_, _, rfl, ?_⟩
          -- the slow way
          refine ⟨_, rfl, _, rfl, _, rfl, _, rfl, l, g, fv, v, js, ids, fav, wo, rfl, SqL.of F9.g1, SqL.of F9.g0, hW9, hFv9, hP, fun ex H10 s10 hex hEX => ?_⟩
          rw [← hbest] at hEX
          have F10 := F9.same s10
          refine ⟨_, rfl, _, rfl, _, rfl, _, rfl, rfl, rfl, l, g, fv, v, js, ids, fav, wo, rfl, SqL.of F10.g1, SqL.of F10.g0, hW9.same s10, hFv9.imp (fun q => s10.seq q) (fun q => Same.tq s10 q), by omega, hI.1, by omega, ndI, by omega, hIn, hwb, fun fr H11 s11 hfr hFR => ?_⟩
          rw [← hbest] at hFR
          refine ⟨.ref fr, _, rfl, .lst (SqL.of hFR) (DWs.ints _), hbR, _, rfl, .ref ex, _, rfl, .lst (SqL.of (s11 _ _ hEX)) (DWs.ints _), hbR, rfl, _, rfl, iteNS rfl ?_⟩
          exact ⟨⟨_, _, _, _, _, _, rfl⟩, (F10.same s11).tail⟩
        · rintro σ H1 ⟨⟨v3, v5, v6, v7, v8, v9, rfl⟩, F1⟩
          exact ⟨⟨_, _, _, _, _, _, _, _, _, rfl⟩, F1.old hHd sd0⟩
    · rintro σ H1 ⟨⟨v1, v2, v3, v4, v5, v6, v7, v8, v9, rfl⟩, s1⟩
      exact k H1
end
/-! ### what the top has written, the head -/
theorem all_mk {l : PySem.W.OpenLaw} {w : World} {K : PySem.W.Frag} {h : Heap} {mg : Str → Option Value} {fa : Addr} (X : K.In h) (G : h.Ns mainGlobals mg) (hfa : mg "law" = some (.ref fa))
    {f1 : Addr} {od1 an1 : Option Addr} {sl1 : Array (Option Value)} {oc1 kV1 dc1 pm1 cd1 ct1 : Value}
    {f2 : Addr} {od2 an2 : Option Addr} {sl2 : Array (Option Value)} {oc2 kV2 dc2 pm2 cd2 ct2 : Value}
    {f3 : Addr} {od3 an3 : Option Addr} {sl3 : Array (Option Value)} {oc3 kV3 dc3 pm3 cd3 ct3 : Value}
    {f4 : Addr} {od4 an4 : Option Addr} {sl4 : Array (Option Value)} {oc4 kV4 dc4 pm4 cd4 ct4 : Value}
    {f5 : Addr} {od5 an5 : Option Addr} {sl5 : Array (Option Value)} {oc5 dc5 pm5 cd5 ct5 : Value} {D5 : Addr} {E5 : Addr} {dE5 : Option Addr} {nE5 : Nat} {sE5 : Array (Option Value)}
    {f6 : Addr} {od6 an6 : Option Addr} {sl6 : Array (Option Value)} {oc6 kV6 dc6 pm6 cd6 ct6 : Value}
    {f7 : Addr} {od7 an7 : Option Addr} {sl7 : Array (Option Value)} {oc7 kV7 dc7 pm7 cd7 ct7 : Value}
    {f8 : Addr} {od8 an8 : Option Addr} {sl8 : Array (Option Value)} {oc8 kV8 dc8 pm8 cd8 ct8 : Value}
    {f9 : Addr} {od9 an9 : Option Addr} {sl9 : Array (Option Value)} {oc9 kV9 dc9 pm9 cd9 ct9 : Value}
    {f10 : Addr} {od10 an10 : Option Addr} {sl10 : Array (Option Value)} {oc10 kV10 dc10 pm10 cd10 ct10 : Value}
    {f11 : Addr} {od11 an11 : Option Addr} {sl11 : Array (Option Value)} {oc11 kV11 dc11 pm11 cd11 ct11 : Value}
    {f12 : Addr} {od12 an12 : Option Addr} {sl12 : Array (Option Value)} {oc12 kV12 dc12 pm12 cd12 ct12 : Value}
    {f13 : Addr} {od13 an13 : Option Addr} {sl13 : Array (Option Value)} {oc13 kV13 dc13 pm13 cd13 ct13 : Value}
    {f14 : Addr} {od14 an14 : Option Addr} {sl14 : Array (Option Value)} {oc14 kV14 dc14 pm14 cd14 ct14 : Value}
    {f15 : Addr} {od15 an15 : Option Addr} {sl15 : Array (Option Value)} {oc15 kV15 dc15 pm15 cd15 ct15 : Value}
    {f16 : Addr} {od16 an16 : Option Addr} {sl16 : Array (Option Value)} {oc16 kV16 dc16 pm16 cd16 ct16 : Value}
    {f17 : Addr} {od17 an17 : Option Addr} {sl17 : Array (Option Value)} {oc17 kV17 dc17 pm17 cd17 ct17 : Value}
    (a1 : PySem.W.nsIn K mainGlobals "places_of" = some (some (.ref f1))) (l1 : K.lookup f1 = some ⟨oc1, od1, .func (PySem.W.fnOf "places_of" "places_of" (defArgs sPlaces) (defBody sPlaces) (defScope sPlaces) .none kV1 dc1 pm1 an1 cd1 ct1), sl1⟩) (c1 : PySem.W.codeIn K cd1 "places_of" = true) (k1 : PySem.W.keepIn K (.ref f1) = true)
    (a2 : PySem.W.nsIn K mainGlobals "full_weights" = some (some (.ref f2))) (l2 : K.lookup f2 = some ⟨oc2, od2, .func (PySem.W.fnOf "full_weights" "full_weights" (defArgs sFull) (defBody sFull) (defScope sFull) .none kV2 dc2 pm2 an2 cd2 ct2), sl2⟩) (c2 : PySem.W.codeIn K cd2 "full_weights" = true) (k2 : PySem.W.keepIn K (.ref f2) = true)
    (a3 : PySem.W.nsIn K mainGlobals "top_levels" = some (some (.ref f3))) (l3 : K.lookup f3 = some ⟨oc3, od3, .func (PySem.W.fnOf "top_levels" "top_levels" (defArgs sTops) (defBody sTops) (defScope sTops) .none kV3 dc3 pm3 an3 cd3 ct3), sl3⟩) (c3 : PySem.W.codeIn K cd3 "top_levels" = true) (k3 : PySem.W.keepIn K (.ref f3) = true)
    (a4 : PySem.W.nsIn K mainGlobals "favoured_worths" = some (some (.ref f4))) (l4 : K.lookup f4 = some ⟨oc4, od4, .func (PySem.W.fnOf "favoured_worths" "favoured_worths" (defArgs sFavs) (defBody sFavs) (defScope sFavs) .none kV4 dc4 pm4 an4 cd4 ct4), sl4⟩) (c4 : PySem.W.codeIn K cd4 "favoured_worths" = true) (k4 : PySem.W.keepIn K (.ref f4) = true)
    (a5 : PySem.W.nsIn K mainGlobals "best_straight" = some (some (.ref f5))) (l5 : K.lookup f5 = some ⟨oc5, od5, .func (PySem.W.fnOf "best_straight" "best_straight" (defArgs sBest) (defBody sBest) (defScope sBest) .none (.ref D5) dc5 pm5 an5 cd5 ct5), sl5⟩) (c5 : PySem.W.codeIn K cd5 "best_straight" = true) (k5 : PySem.W.keepIn K (.ref f5) = true)
    (w5_0 : PySem.W.nsIn K D5 "weights" = some (some .none))
    (w5_1 : PySem.W.nsIn K D5 "favoured" = some (some (.ref E5)))
    (v5 : K.lookup E5 = some ⟨.type "tuple", dE5, .seq #[] nE5, sE5⟩)
    (a6 : PySem.W.nsIn K mainGlobals "_law_tape" = some (some (.ref f6))) (l6 : K.lookup f6 = some ⟨oc6, od6, .func (PySem.W.fnOf "_law_tape" "_law_tape" (defArgs sDeck) (defBody sDeck) (defScope sDeck) .none kV6 dc6 pm6 an6 cd6 ct6), sl6⟩) (c6 : PySem.W.codeIn K cd6 "_law_tape" = true) (k6 : PySem.W.keepIn K (.ref f6) = true)
    (a7 : PySem.W.nsIn K mainGlobals "_law_pick" = some (some (.ref f7))) (l7 : K.lookup f7 = some ⟨oc7, od7, .func (PySem.W.fnOf "_law_pick" "_law_pick" (defArgs sDraw) (defBody sDraw) (defScope sDraw) .none kV7 dc7 pm7 an7 cd7 ct7), sl7⟩) (c7 : PySem.W.codeIn K cd7 "_law_pick" = true) (k7 : PySem.W.keepIn K (.ref f7) = true)
    (a8 : PySem.W.nsIn K mainGlobals "_law_one_of" = some (some (.ref f8))) (l8 : K.lookup f8 = some ⟨oc8, od8, .func (PySem.W.fnOf "_law_one_of" "_law_one_of" (defArgs sChoose) (defBody sChoose) (defScope sChoose) .none kV8 dc8 pm8 an8 cd8 ct8), sl8⟩) (c8 : PySem.W.codeIn K cd8 "_law_one_of" = true) (k8 : PySem.W.keepIn K (.ref f8) = true)
    (a9 : PySem.W.nsIn K mainGlobals "_law_shuffled" = some (some (.ref f9))) (l9 : K.lookup f9 = some ⟨oc9, od9, .func (PySem.W.fnOf "_law_shuffled" "_law_shuffled" (defArgs sShuf) (defBody sShuf) (defScope sShuf) .none kV9 dc9 pm9 an9 cd9 ct9), sl9⟩) (c9 : PySem.W.codeIn K cd9 "_law_shuffled" = true) (k9 : PySem.W.keepIn K (.ref f9) = true)
    (a10 : PySem.W.nsIn K mainGlobals "_law_ids" = some (some (.ref f10))) (l10 : K.lookup f10 = some ⟨oc10, od10, .func (PySem.W.fnOf "_law_ids" "_law_ids" (defArgs sIds) (defBody sIds) (defScope sIds) .none kV10 dc10 pm10 an10 cd10 ct10), sl10⟩) (c10 : PySem.W.codeIn K cd10 "_law_ids" = true) (k10 : PySem.W.keepIn K (.ref f10) = true)
    (a11 : PySem.W.nsIn K mainGlobals "_law_goal" = some (some (.ref f11))) (l11 : K.lookup f11 = some ⟨oc11, od11, .func (PySem.W.fnOf "_law_goal" "_law_goal" (defArgs sGoal) (defBody sGoal) (defScope sGoal) .none kV11 dc11 pm11 an11 cd11 ct11), sl11⟩) (c11 : PySem.W.codeIn K cd11 "_law_goal" = true) (k11 : PySem.W.keepIn K (.ref f11) = true)
    (a12 : PySem.W.nsIn K mainGlobals "_law_loads" = some (some (.ref f12))) (l12 : K.lookup f12 = some ⟨oc12, od12, .func (PySem.W.fnOf "_law_loads" "_law_loads" (defArgs sLoads) (defBody sLoads) (defScope sLoads) .none kV12 dc12 pm12 an12 cd12 ct12), sl12⟩) (c12 : PySem.W.codeIn K cd12 "_law_loads" = true) (k12 : PySem.W.keepIn K (.ref f12) = true)
    (a13 : PySem.W.nsIn K mainGlobals "_law_load" = some (some (.ref f13))) (l13 : K.lookup f13 = some ⟨oc13, od13, .func (PySem.W.fnOf "_law_load" "_law_load" (defArgs sLoad) (defBody sLoad) (defScope sLoad) .none kV13 dc13 pm13 an13 cd13 ct13), sl13⟩) (c13 : PySem.W.codeIn K cd13 "_law_load" = true) (k13 : PySem.W.keepIn K (.ref f13) = true)
    (a14 : PySem.W.nsIn K mainGlobals "_law_liked" = some (some (.ref f14))) (l14 : K.lookup f14 = some ⟨oc14, od14, .func (PySem.W.fnOf "_law_liked" "_law_liked" (defArgs sLiked) (defBody sLiked) (defScope sLiked) .none kV14 dc14 pm14 an14 cd14 ct14), sl14⟩) (c14 : PySem.W.codeIn K cd14 "_law_liked" = true) (k14 : PySem.W.keepIn K (.ref f14) = true)
    (a15 : PySem.W.nsIn K mainGlobals "_law_table" = some (some (.ref f15))) (l15 : K.lookup f15 = some ⟨oc15, od15, .func (PySem.W.fnOf "_law_table" "_law_table" (defArgs sTable) (defBody sTable) (defScope sTable) .none kV15 dc15 pm15 an15 cd15 ct15), sl15⟩) (c15 : PySem.W.codeIn K cd15 "_law_table" = true) (k15 : PySem.W.keepIn K (.ref f15) = true)
    (a16 : PySem.W.nsIn K mainGlobals "_law_expected" = some (some (.ref f16))) (l16 : K.lookup f16 = some ⟨oc16, od16, .func (PySem.W.fnOf "_law_expected" "_law_expected" (defArgs sExpected) (defBody sExpected) (defScope sExpected) .none kV16 dc16 pm16 an16 cd16 ct16), sl16⟩) (c16 : PySem.W.codeIn K cd16 "_law_expected" = true) (k16 : PySem.W.keepIn K (.ref f16) = true)
    (a17 : PySem.W.nsIn K mainGlobals "law" = some (some (.ref f17))) (l17 : K.lookup f17 = some ⟨oc17, od17, .func (PySem.W.fnOf "law" "law" (defArgs sLaw) (defBody sLaw) (defScope sLaw) .none kV17 dc17 pm17 an17 cd17 ct17), sl17⟩) (c17 : PySem.W.codeIn K cd17 "law" = true) (k17 : PySem.W.keepIn K (.ref f17) = true)
    (z0 : PySem.W.nsIn K mainGlobals "len" = some none)
    (z1 : PySem.W.nsIn K mainGlobals "list" = some none)
    (z2 : PySem.W.nsIn K mainGlobals "range" = some none)
    (z3 : PySem.W.nsIn K mainGlobals "max" = some none)
    (z4 : PySem.W.nsIn K mainGlobals "min" = some none)
    (z5 : PySem.W.nsIn K mainGlobals "enumerate" = some none)
    (z6 : PySem.W.nsIn K mainGlobals "set" = some none)
    (z7 : PySem.W.nsIn K mainGlobals "tuple" = some none)
    (z8 : PySem.W.nsIn K mainGlobals "dict" = some none)
    (z9 : PySem.W.nsIn K mainGlobals "int" = some none)
    (z10 : PySem.W.nsIn K mainGlobals "repr" = some none)
    : ∃ fd : FuncData, (∀ (s : Shared) (v : Value), BindsTo s fd ⟨[v], []⟩ [("script", v)]) ∧ ∀ base : Heap, K.In base → base.Ns mainGlobals mg → FnG l.prog w K mg base 6 fa fd ["script"] (spLaw K) := by
  have e := hfa.symm.trans (PySem.W.mg_of X G a17)
  cases e
  have n_len := PySem.W.mg_none_of X G z0
  have n_list := PySem.W.mg_none_of X G z1
  have n_range := PySem.W.mg_none_of X G z2
  have n_max := PySem.W.mg_none_of X G z3
  have n_min := PySem.W.mg_none_of X G z4
  have n_enumerate := PySem.W.mg_none_of X G z5
  have n_set := PySem.W.mg_none_of X G z6
  have n_tuple := PySem.W.mg_none_of X G z7
  have n_dict := PySem.W.mg_none_of X G z8
  have n_int := PySem.W.mg_none_of X G z9
  have n_repr := PySem.W.mg_none_of X G z10
  have F1 := fun_mk (st := sPlaces) l1 c1 k1
  have b1 := F1.binds (ps := ["order"]) fun _ _ _ _ _ _ us hl => match us, hl with | [_], _ => rfl
  have Pl : Fn K mg "places_of" sPlaces ["order"] f1 _ := ⟨F1, b1, PySem.W.mg_of X G a1⟩
  have F2 := fun_mk (st := sFull) l2 c2 k2
  have b2 := F2.binds (ps := ["ids", "weights"]) fun _ _ _ _ _ _ us hl => match us, hl with | [_, _], _ => rfl
  have Fu : Fn K mg "full_weights" sFull ["ids", "weights"] f2 _ := ⟨F2, b2, PySem.W.mg_of X G a2⟩
  have F3 := fun_mk (st := sTops) l3 c3 k3
  have b3 := F3.binds (ps := ["base", "goal", "worths"]) fun _ _ _ _ _ _ us hl => match us, hl with | [_, _, _], _ => rfl
  have Lv : Fn K mg "top_levels" sTops ["base", "goal", "worths"] f3 _ := ⟨F3, b3, PySem.W.mg_of X G a3⟩
  have F4 := fun_mk (st := sFavs) l4 c4 k4
  have b4 := F4.binds (ps := ["goal", "weights", "favoured"]) fun _ _ _ _ _ _ us hl => match us, hl with | [_, _, _], _ => rfl
  have Fa : Fn K mg "favoured_worths" sFavs ["goal", "weights", "favoured"] f4 _ := ⟨F4, b4, PySem.W.mg_of X G a4⟩
  have F_Be : L2.FunD K "best_straight" "best_straight" (defArgs sBest) (defBody sBest) (defScope sBest) [] [("weights", .non), ("favoured", .ref E5)] f5 _ := ⟨⟨_, _, _, _, _, _, _, _, _, _, rfl, l5, c5, .inl ⟨rfl, rfl⟩, .inr ⟨_, rfl, (by intro q hq; rcases List.mem_cons.mp hq with e | hq; (rw [e]; exact ⟨_, w5_0, rfl⟩); rcases List.mem_cons.mp hq with e | hq; (rw [e]; exact ⟨_, w5_1, rfl⟩); cases hq)⟩⟩, k5⟩
  have d_Be := L2.FunD.binds0 (ps := ["base", "goal", "weights", "favoured"]) F_Be 2 (by intro z; cases z) rfl fun D doc pm an cdv ct us ks hu hk => match us, ks, hu, hk with | [_, _], [_, _], _, _ => ⟨_, _, _, _, _, _, rfl, rfl, ⟨_, _, _, _, _, _, rfl, rfl, rfl⟩⟩
  have b_Be := Hk.FunD.kbindsA (ps := ["base", "goal", "weights", "favoured"]) F_Be 2 ["weights", "favoured"] fun kV doc pm an cdv ct us ws h1 h2 => match us, ws, h1, h2 with | [_, _], [_, _], _, _ => rfl
  have m_Be := PySem.W.mg_of X G a5
  have F6 := fun_mk (st := sDeck) l6 c6 k6
  have b6 := F6.binds (ps := ["script", "start"]) fun _ _ _ _ _ _ us hl => match us, hl with | [_, _], _ => rfl
  have De : Fn K mg "_law_tape" sDeck ["script", "start"] f6 _ := ⟨F6, b6, PySem.W.mg_of X G a6⟩
  have F7 := fun_mk (st := sDraw) l7 c7 k7
  have b7 := F7.binds (ps := ["tape", "size"]) fun _ _ _ _ _ _ us hl => match us, hl with | [_, _], _ => rfl
  have Dr : Fn K mg "_law_pick" sDraw ["tape", "size"] f7 _ := ⟨F7, b7, PySem.W.mg_of X G a7⟩
  have F8 := fun_mk (st := sChoose) l8 c8 k8
  have b8 := F8.binds (ps := ["tape", "items"]) fun _ _ _ _ _ _ us hl => match us, hl with | [_, _], _ => rfl
  have Ch : Fn K mg "_law_one_of" sChoose ["tape", "items"] f8 _ := ⟨F8, b8, PySem.W.mg_of X G a8⟩
  have F9 := fun_mk (st := sShuf) l9 c9 k9
  have b9 := F9.binds (ps := ["tape", "ids"]) fun _ _ _ _ _ _ us hl => match us, hl with | [_, _], _ => rfl
  have Sh : Fn K mg "_law_shuffled" sShuf ["tape", "ids"] f9 _ := ⟨F9, b9, PySem.W.mg_of X G a9⟩
  have F10 := fun_mk (st := sIds) l10 c10 k10
  have b10 := F10.binds (ps := ["tape", "size"]) fun _ _ _ _ _ _ us hl => match us, hl with | [_, _], _ => rfl
  have Id : Fn K mg "_law_ids" sIds ["tape", "size"] f10 _ := ⟨F10, b10, PySem.W.mg_of X G a10⟩
  have F11 := fun_mk (st := sGoal) l11 c11 k11
  have b11 := F11.binds (ps := ["tape", "base"]) fun _ _ _ _ _ _ us hl => match us, hl with | [_, _], _ => rfl
  have Go : Fn K mg "_law_goal" sGoal ["tape", "base"] f11 _ := ⟨F11, b11, PySem.W.mg_of X G a11⟩
  have F12 := fun_mk (st := sLoads) l12 c12 k12
  have b12 := F12.binds (ps := ["tape", "base", "most"]) fun _ _ _ _ _ _ us hl => match us, hl with | [_, _, _], _ => rfl
  have Lo : Fn K mg "_law_loads" sLoads ["tape", "base", "most"] f12 _ := ⟨F12, b12, PySem.W.mg_of X G a12⟩
  have F13 := fun_mk (st := sLoad) l13 c13 k13
  have b13 := F13.binds (ps := ["loads", "row_id"]) fun _ _ _ _ _ _ us hl => match us, hl with | [_, _], _ => rfl
  have Ld : Fn K mg "_law_load" sLoad ["loads", "row_id"] f13 _ := ⟨F13, b13, PySem.W.mg_of X G a13⟩
  have F14 := fun_mk (st := sLiked) l14 c14 k14
  have b14 := F14.binds (ps := ["tape", "base"]) fun _ _ _ _ _ _ us hl => match us, hl with | [_, _], _ => rfl
  have Li : Fn K mg "_law_liked" sLiked ["tape", "base"] f14 _ := ⟨F14, b14, PySem.W.mg_of X G a14⟩
  have F15 := fun_mk (st := sTable) l15 c15 k15
  have b15 := F15.binds (ps := ["base", "goal", "loads", "liked"]) fun _ _ _ _ _ _ us hl => match us, hl with | [_, _, _, _], _ => rfl
  have Tb : Fn K mg "_law_table" sTable ["base", "goal", "loads", "liked"] f15 _ := ⟨F15, b15, PySem.W.mg_of X G a15⟩
  have F16 := fun_mk (st := sExpected) l16 c16 k16
  have b16 := F16.binds (ps := ["base", "goal", "loads", "liked"]) fun _ _ _ _ _ _ us hl => match us, hl with | [_, _, _, _], _ => rfl
  have Xp : Fn K mg "_law_expected" sExpected ["base", "goal", "loads", "liked"] f16 _ := ⟨F16, b16, PySem.W.mg_of X G a16⟩
  exact ⟨PySem.W.fnOf "law" "law" (defArgs sLaw) (defBody sLaw) (defScope sLaw) .none kV17 dc17 pm17 an17 cd17 ct17, fun s v => .of_eq rfl, fun base _ _ =>
    (have GDr := ok_draw (P := l.prog) (w := w) (K := K) (mg := mg) (base := base) Dr.F
    have GC := ok_choose (P := l.prog) (w := w) (base := base) Ch.F ⟨n_len⟩ Dr.F Dr.b Dr.m
    have GSh := ok_shuf (P := l.prog) (w := w) (base := base) Sh.F ⟨n_len, n_list⟩ Dr.F Dr.b Dr.m
    have GI := ok_ids Id.F ⟨n_len, n_list, n_range⟩ GC Ch.F.kp Ch.b Ch.m GSh Sh.F.kp Sh.b Sh.m
    have GG := ok_goal (P := l.prog) (w := w) (base := base) Go.F ⟨n_len, n_list, n_range⟩ Dr.F Dr.b Dr.m GSh Sh.F.kp Sh.b Sh.m
    have GLo := ok_loadsW (P := l.prog) (w := w) (base := base) Lo.F Dr.F Dr.b Dr.m GC Ch.F.kp Ch.b Ch.m
    have GLi := ok_liked (P := l.prog) (w := w) (base := base) Li.F ⟨n_len, n_tuple⟩ Dr.F Dr.b Dr.m GC Ch.F.kp Ch.b Ch.m
    have GPl := ok_places (P := l.prog) (w := w) (base := base) Pl.F n_enumerate
    have GFu := ok_full (P := l.prog) (w := w) (mg := mg) (base := base) Fu.F
    have GFa := ok_favs Fa.F ⟨n_set, n_len⟩ GFu Fu.F.kp Fu.b Fu.m
    have GLv := ok_tops Lv.F ⟨n_max⟩ GPl Pl.F.kp Pl.b Pl.m
    have GBe := ok_best F_Be ⟨n_max⟩ GFa Fa.F.kp Fa.b Fa.m GLv Lv.F.kp Lv.b Lv.m
    have GLd := ok_load (P := l.prog) (w := w) (K := K) (mg := mg) (base := base) Ld.F
    have TB : TxtB mg := ⟨n_dict, n_enumerate, n_range, n_len, n_max, n_int, n_list⟩
    have GTb := ok_table Tb.F TB Ld GLd
    have GX := ok_exp Xp.F TB Tb GTb
    ok_law (fun_mk (st := sLaw) l17 c17 k17) ⟨n_len⟩ ⟨n_range, n_max, n_min, n_repr⟩ De Dr Id GI Go GG Lo GLo Ch GC Li GLi Xp GX ⟨GBe, F_Be.kp, m_Be, d_Be, b_Be⟩)⟩
end Hk
open PySem PySem.W PyProof.Rows in
set_option maxRecDepth 100000 in
set_option maxHeartbeats 0 in
theorem PySem.Challenge.cw_handsorted_k11_best_straight_of_many_holds : PySem.Challenge.rw_handsorted_k11_best_straight_of_many.Holds := by
  w_on; o_law; k_head; (case hw => w_witness2)
  k_fill
  refine Hk.walkG (l := PySem.Challenge.rw_handsorted_k11_best_straight_of_many) (n := 63) (k := 6) (x := "script") (sp := Hk.spLaw) rfl (by decide) rfl ⟨rfl, by decide, by decide⟩ (fun w h Y => PySem.W.kIn_of Y) ?F (fun _ _ a ns hl hb hS => ⟨a, ns, rfl, hS, hl, hb, fun _ => rfl⟩)
  case F =>
    intro w mg fa h KX G hmg
    refine' Hk.all_mk KX G hmg ?a1 ?l1 ?c1 ?k1 ?a2 ?l2 ?c2 ?k2 ?a3 ?l3 ?c3 ?k3 ?a4 ?l4 ?c4 ?k4 ?a5 ?l5 ?c5 ?k5 ?w5_0 ?w5_1 ?v5 ?a6 ?l6 ?c6 ?k6 ?a7 ?l7 ?c7 ?k7 ?a8 ?l8 ?c8 ?k8 ?a9 ?l9 ?c9 ?k9 ?a10 ?l10 ?c10 ?k10 ?a11 ?l11 ?c11 ?k11 ?a12 ?l12 ?c12 ?k12 ?a13 ?l13 ?c13 ?k13 ?a14 ?l14 ?c14 ?k14 ?a15 ?l15 ?c15 ?k15 ?a16 ?l16 ?c16 ?k16 ?a17 ?l17 ?c17 ?k17 ?z0 ?z1 ?z2 ?z3 ?z4 ?z5 ?z6 ?z7 ?z8 ?z9 ?z10
    (case a1 => k_is)
    (case l1 => k_is)
    (case c1 => k_is)
    (case k1 => k_is)
    (case a2 => k_is)
    (case l2 => k_is)
    (case c2 => k_is)
    (case k2 => k_is)
    (case a3 => k_is)
    (case l3 => k_is)
    (case c3 => k_is)
    (case k3 => k_is)
    (case a4 => k_is)
    (case l4 => k_is)
    (case c4 => k_is)
    (case k4 => k_is)
    (case a5 => k_is)
    (case l5 => k_is)
    (case c5 => k_is)
    (case k5 => k_is)
    (case w5_0 => k_is)
    (case w5_1 => k_is)
    (case v5 => k_is)
    (case a6 => k_is)
    (case l6 => k_is)
    (case c6 => k_is)
    (case k6 => k_is)
    (case a7 => k_is)
    (case l7 => k_is)
    (case c7 => k_is)
    (case k7 => k_is)
    (case a8 => k_is)
    (case l8 => k_is)
    (case c8 => k_is)
    (case k8 => k_is)
    (case a9 => k_is)
    (case l9 => k_is)
    (case c9 => k_is)
    (case k9 => k_is)
    (case a10 => k_is)
    (case l10 => k_is)
    (case c10 => k_is)
    (case k10 => k_is)
    (case a11 => k_is)
    (case l11 => k_is)
    (case c11 => k_is)
    (case k11 => k_is)
    (case a12 => k_is)
    (case l12 => k_is)
    (case c12 => k_is)
    (case k12 => k_is)
    (case a13 => k_is)
    (case l13 => k_is)
    (case c13 => k_is)
    (case k13 => k_is)
    (case a14 => k_is)
    (case l14 => k_is)
    (case c14 => k_is)
    (case k14 => k_is)
    (case a15 => k_is)
    (case l15 => k_is)
    (case c15 => k_is)
    (case k15 => k_is)
    (case a16 => k_is)
    (case l16 => k_is)
    (case c16 => k_is)
    (case k16 => k_is)
    (case a17 => k_is)
    (case l17 => k_is)
    (case c17 => k_is)
    (case k17 => k_is)
    (case z0 => k_is)
    (case z1 => k_is)
    (case z2 => k_is)
    (case z3 => k_is)
    (case z4 => k_is)
    (case z5 => k_is)
    (case z6 => k_is)
    (case z7 => k_is)
    (case z8 => k_is)
    (case z9 => k_is)
    (case z10 => k_is)

